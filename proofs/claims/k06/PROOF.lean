import PyProof.Rows.All
import Wide.All
import OpenK.AllK
import Wide.FinOn
import HandS.ForMost
import HandS.ForExc
import HandS.Evl
import HandS.Wide
import HandS.WideBits
import HandS.Gcd
import HandS.IsInst
import HandS.ExcIs
import HandS.Rev
import HandS.Zip
import HandS.TupAny
import HandS.Deep
import HandS.TryOnly
import HandS.ExcOwn
import HandS.WordsExc
import OpenK.KOwn
import KE.KMathGC
import HandS.Iter
import HandS.Flow
import HandS.HotCalls
import PySem.Challenge.RW_rootpeg_k06_pegs_made
set_option Elab.async false
set_option linter.all false
set_option maxRecDepth 100000
set_option maxHeartbeats 4000000
/-! Kit of my own: a def's reading told by data (PyData), not by values and heaps. -/
namespace Rt
open PySem L2 Evl

/-! ### steps of a heap: G the part that never changes, H the whole -/
structure Step (G H G2 H2 : Hp) : Prop where
  g : Ex G G2
  h : Ex H H2
  gh : Ex G2 H2
  new : ∀ p, G2 p ≠ none → G p = none → H p = none
section
variable {G H G2 H2 G3 H3 : Hp} {p : Addr} {o : HO}
theorem Step.refl (e : Ex G H) : Step G H G H := ⟨Ex.refl G, Ex.refl H, e, fun p h1 h2 => absurd h2 h1⟩
theorem Step.trans (a : Step G H G2 H2) (b : Step G2 H2 G3 H3) : Step G H G3 H3 :=
  ⟨a.g.trans b.g, a.h.trans b.h, b.gh, fun p h1 h2 => by
    by_cases h : G2 p = none
    · exact fresh_back a.h (b.new p h1 h)
    · exact a.new p h h2⟩
theorem Ex.upd2 (e : Ex G H) (o : HO) (p : Addr) : Ex (upd G p o) (upd H p o) := fun b u hb => by
  by_cases h : b = p
  · subst h; rw [upd_same] at hb ⊢; exact hb
  · rw [upd_ne h] at hb ⊢; exact e b u hb
theorem Step.alloc (e : Ex G H) (hp : H p = none) : Step G H (upd G p o) (upd H p o) :=
  ⟨Ex.new (fresh_back e hp), Ex.new hp, Ex.upd2 e o p, fun q h1 h2 => by
    by_cases h : q = p
    · rw [h]; exact hp
    · rw [upd_ne h] at h1; exact absurd h2 h1⟩
/-- a new object outside of the frozen part -/
theorem Step.allocO (e : Ex G H) (hp : H p = none) : Step G H G (upd H p o) :=
  ⟨Ex.refl G, Ex.new hp, e.trans (Ex.new hp), fun q h1 h2 => absurd h2 h1⟩
/-- an object outside of both changes -/
theorem Step.mutO (s : Step G H G2 H2) (h1 : H p = none) (h2 : G2 p = none) : Step G H G2 (upd H2 p o) :=
  ⟨s.g, Ex.mut s.h h1, Ex.mut s.gh h2, s.new⟩
/-- an object outside of the first is frozen -/
theorem Step.frz (s : Step G H G2 H2) (h1 : H p = none) (h2 : H2 p = some o) : Step G H (upd G2 p o) H2 := by
  refine ⟨fun b u hb => ?_, s.h, fun b u hb => ?_, fun q h3 h4 => ?_⟩
  · by_cases h : b = p
    · subst h
      have := s.h
      have e1 : G2 b = some u := s.g b u hb
      have e2 := s.gh b u e1
      rw [upd_same]; rw [h2] at e2; exact e2
    · rw [upd_ne h]; exact s.g b u hb
  · by_cases h : b = p
    · subst h; rw [upd_same] at hb; rw [h2]; exact hb
    · rw [upd_ne h] at hb; exact s.gh b u hb
  · by_cases h : q = p
    · rw [h]; exact h1
    · rw [upd_ne h] at h3; exact s.new q h3 h4
end

/-! ### data -/
section
variable {K : PySem.W.Frag} {G G' : Hp}
mutual
theorem dp_mono (e : Ex G G') : ∀ (d : PyData) (v : V), Dp K G v d → Dp K G' v d
  | .none, _, h => by cases h; exact .non
  | .bool b, _, h => by cases h; exact .bl _
  | .int i, _, h => by cases h; exact .int _
  | .str x, _, h => by cases h; exact .str _
  | .list ds, _, h => by
    cases h with
    | lst hs ha => exact .lst (ex_l e hs) (dpa_mono e ds _ ha)
  | .tuple ds, _, h => by
    cases h with
    | tup hs ha => exact .tup (ex_t e hs) (dpa_mono e ds _ ha)
  | .dict _, _, h => by cases h
theorem dpa_mono (e : Ex G G') : ∀ (ds : List PyData) (vs : List V), DpAll K G vs ds → DpAll K G' vs ds
  | [], _, h => by cases h; exact .nil
  | d :: ds, _, h => by
    cases h with
    | cons h1 h2 => exact .cons (dp_mono e d _ h1) (dpa_mono e ds _ h2)
end
end
end Rt
namespace L2
open PySem Evl
section
variable {K : PySem.W.Frag} {G G' : Hp}
theorem DpAll.len : ∀ {vs : List V} {ds : List PyData}, DpAll K G vs ds → vs.length = ds.length
  | _, _, .nil => rfl
  | _, _, .cons _ t => by rw [List.length_cons, List.length_cons, DpAll.len t]
theorem DpAll.get : ∀ {vs : List V} {ds : List PyData} {i : Nat} {d : PyData}, DpAll K G vs ds → ds[i]? = some d → ∃ v, vs[i]? = some v ∧ Dp K G v d
  | _, _, _, _, .nil, e => by simp at e
  | _, _, 0, _, .cons h _, e => by simp at e; subst e; exact ⟨_, rfl, h⟩
  | _, _, i + 1, d, .cons _ t, e => by
    obtain ⟨v, h1, h2⟩ := DpAll.get (i := i) (d := d) t (by simpa using e)
    exact ⟨v, by simpa using h1, h2⟩
theorem DpAll.getV : ∀ {vs : List V} {ds : List PyData} {i : Nat} {v : V}, DpAll K G vs ds → vs[i]? = some v → ∃ d, ds[i]? = some d ∧ Dp K G v d
  | _, _, _, _, .nil, e => by simp at e
  | _, _, 0, _, .cons h _, e => by simp at e; subst e; exact ⟨_, rfl, h⟩
  | _, _, i + 1, v, .cons _ t, e => by
    obtain ⟨d, h1, h2⟩ := DpAll.getV (i := i) (v := v) t (by simpa using e)
    exact ⟨d, by simpa using h1, h2⟩
theorem DpAll.app : ∀ {vs ws : List V} {ds es : List PyData}, DpAll K G vs ds → DpAll K G ws es → DpAll K G (vs ++ ws) (ds ++ es)
  | _, _, _, _, .nil, s => s
  | _, _, _, _, .cons h t, s => .cons h (DpAll.app t s)
theorem DpAll.tk : ∀ {vs : List V} {ds : List PyData} (n : Nat), DpAll K G vs ds → DpAll K G (vs.take n) (ds.take n)
  | _, _, 0, _ => .nil
  | _, _, _ + 1, .nil => .nil
  | _, _, n + 1, .cons h t => .cons h (DpAll.tk n t)
theorem DpAll.dr : ∀ {vs : List V} {ds : List PyData} (n : Nat), DpAll K G vs ds → DpAll K G (vs.drop n) (ds.drop n)
  | _, _, 0, h => h
  | _, _, _ + 1, .nil => .nil
  | _, _, n + 1, .cons _ t => DpAll.dr n t
theorem DpAll.rev {vs : List V} {ds : List PyData} (h : DpAll K G vs ds) : DpAll K G vs.reverse ds.reverse := by
  induction ds generalizing vs with
  | nil => cases h; exact .nil
  | cons d ds ih =>
    cases h with
    | cons h1 h2 =>
      rw [List.reverse_cons, List.reverse_cons]
      exact DpAll.app (ih h2) (.cons h1 .nil)
theorem DpAll.st : ∀ {vs : List V} {ds : List PyData} {v : V} {d : PyData} (i : Nat), DpAll K G vs ds → Dp K G v d → DpAll K G (vs.set i v) (ds.set i d)
  | _, _, _, _, _, .nil, _ => .nil
  | _, _, _, _, 0, .cons _ t, h => .cons h t
  | _, _, _, _, i + 1, .cons q t, h => .cons q (DpAll.st i t h)
theorem DpAll.dl {vs : List V} {ds : List PyData} (h : DpAll K G vs ds) : DpAll K G vs.dropLast ds.dropLast := by
  rw [List.dropLast_eq_take, List.dropLast_eq_take, h.len]
  exact h.tk _
end
end L2
namespace Rt
open PySem L2 Evl
section
variable {K : PySem.W.Frag} {G G' : Hp}
/-- ints -/
theorem dpa_ints : ∀ {xs : List Int}, DpAll K G (xs.map V.int) (xs.map PyData.int)
  | [] => .nil
  | _ :: _ => .cons (.int _) dpa_ints
theorem dp_int {v : V} {i : Int} (h : Dp K G v (.int i)) : v = .int i := by cases h; rfl
theorem dp_bl {v : V} {b : Bool} (h : Dp K G v (.bool b)) : v = .bl b := by cases h; rfl
end

/-- a list or a tuple of ds -/
inductive SeqD : PyData → List PyData → Prop
  | l (ds : List PyData) : SeqD (.list ds) ds
  | t (ds : List PyData) : SeqD (.tuple ds) ds
theorem SeqD.of {K : PySem.W.Frag} {G : Hp} {v : V} {d : PyData} {ds : List PyData} (s : SeqD d ds) (h : Dp K G v d) : ∃ a xs, v = .ref a ∧ (SqL K G a xs ∨ SqT K G a xs) ∧ DpAll K G xs ds := by
  cases s with
  | l =>
    cases h with
    | lst hs ha => exact ⟨_, _, rfl, .inl hs, ha⟩
  | t =>
    cases h with
    | tup hs ha => exact ⟨_, _, rfl, .inr hs, ha⟩

/-! ### the slots -/
inductive SV where
  | d (x : PyData)
  | own (xs : List PyData)
  | v (x : V)
abbrev Rho := List (Option SV)
structure Env (K : PySem.W.Frag) (G H : Hp) (σ : L2.St) (ρ : Rho) : Prop where
  gh : Ex G H
  len : σ.length = ρ.length
  dat : ∀ (i : Nat) x, ρ[i]? = some (some (.d x)) → ∃ v, σ[i]? = some (some v) ∧ Dp K G v x
  own : ∀ (i : Nat) xs, ρ[i]? = some (some (.own xs)) → ∃ p vs, σ[i]? = some (some (.ref p)) ∧ H p = some (.lst vs) ∧ G p = none ∧ DpAll K G vs xs
  raw : ∀ (i : Nat) x, ρ[i]? = some (some (.v x)) → σ[i]? = some (some x)
  sep : ∀ (i j : Nat) xs ys p, i ≠ j → ρ[i]? = some (some (.own xs)) → ρ[j]? = some (some (.own ys)) → σ[i]? = some (some (.ref p)) → σ[j]? ≠ some (some (.ref p))
/-- what is owned is not the caller's -/
structure Base (B0 B G H : Hp) (σ : L2.St) (ρ : Rho) : Prop where
  st : Step B0 B G H
  own : ∀ (i : Nat) xs p, ρ[i]? = some (some (.own xs)) → σ[i]? = some (some (.ref p)) → B p = none
section
variable {K : PySem.W.Frag} {G H G2 H2 B0 B : Hp} {σ : L2.St} {ρ : Rho} {i : Nat} {v : V} {d : PyData} {ds : List PyData} {p : Addr}
theorem Env.step (I : Env K G H σ ρ) (s : Step G H G2 H2) : Env K G2 H2 σ ρ := by
  refine ⟨s.gh, I.len, fun i x h => ?_, fun i xs h => ?_, I.raw, I.sep⟩
  · obtain ⟨v, h1, h2⟩ := I.dat i x h
    exact ⟨v, h1, dp_mono s.g _ _ h2⟩
  · obtain ⟨p, vs, h1, h2, h3, h4⟩ := I.own i xs h
    refine ⟨p, vs, h1, s.h _ _ h2, ?_, dpa_mono s.g _ _ h4⟩
    by_cases q : G2 p = none
    · exact q
    · have := s.new p q h3
      rw [h2] at this; cases this
theorem Base.step (b : Base B0 B G H σ ρ) (s : Step G H G2 H2) : Base B0 B G2 H2 σ ρ := ⟨b.st.trans s, b.own⟩
theorem getset {α : Type} {l : List α} {i j : Nat} {a b : α} (h : (l.set i a)[j]? = some b) : (j = i ∧ b = a) ∨ (j ≠ i ∧ l[j]? = some b) := by
  by_cases e : i = j
  · subst e
    rw [List.getElem?_set_self'] at h
    cases q : l[i]? with
    | none => rw [q] at h; cases h
    | some c => rw [q] at h; exact .inl ⟨rfl, (Option.some.inj h).symm⟩
  · rw [List.getElem?_set_ne e] at h
    exact .inr ⟨fun q => e q.symm, h⟩
theorem Env.lt (I : Env K G H σ ρ) {i : Nat} {a b : Option SV} (h : (ρ.set i a)[i]? = some b) : i < σ.length := by
  obtain ⟨h1, _⟩ := List.getElem?_eq_some_iff.mp h
  rw [List.length_set] at h1
  rw [I.len]; exact h1
/-- data is stored -/
theorem Env.set (I : Env K G H σ ρ) (hv : Dp K G v d) (i : Nat) : Env K G H (σ.set i (some v)) (ρ.set i (some (.d d))) := by
  refine ⟨I.gh, by rw [List.length_set, List.length_set]; exact I.len, fun j x h => ?_, fun j xs h => ?_, fun j x h => by
    rcases getset h with ⟨rfl, e⟩ | ⟨ne, h'⟩
    · cases e
    · rw [List.getElem?_set_ne (Ne.symm ne)]; exact I.raw j x h', fun j k xs ys q hjk h1 h2 h3 => ?_⟩
  · rcases getset h with ⟨rfl, e⟩ | ⟨ne, h'⟩
    · cases e
      exact ⟨v, by rw [List.getElem?_set_self (I.lt h)], hv⟩
    · rw [List.getElem?_set_ne (Ne.symm ne)]; exact I.dat j x h'
  · rcases getset h with ⟨rfl, e⟩ | ⟨ne, h'⟩
    · cases e
    · rw [List.getElem?_set_ne (Ne.symm ne)]; exact I.own j xs h'
  · rcases getset h1 with ⟨rfl, e⟩ | ⟨ne, h1'⟩
    · cases e
    · rcases getset h2 with ⟨rfl, e⟩ | ⟨ne2, h2'⟩
      · cases e
      · rw [List.getElem?_set_ne (Ne.symm ne)] at h3
        rw [List.getElem?_set_ne (Ne.symm ne2)]
        exact I.sep j k xs ys q hjk h1' h2' h3
/-- a value that is no data -/
theorem Env.setV (I : Env K G H σ ρ) (i : Nat) : Env K G H (σ.set i (some v)) (ρ.set i (some (.v v))) := by
  refine ⟨I.gh, by rw [List.length_set, List.length_set]; exact I.len, fun j x h => ?_, fun j xs h => ?_, fun j x h => ?_, fun j k xs ys q hjk h1 h2 h3 => ?_⟩
  · rcases getset h with ⟨rfl, e⟩ | ⟨ne, h'⟩
    · cases e
    · rw [List.getElem?_set_ne (Ne.symm ne)]; exact I.dat j x h'
  · rcases getset h with ⟨rfl, e⟩ | ⟨ne, h'⟩
    · cases e
    · rw [List.getElem?_set_ne (Ne.symm ne)]; exact I.own j xs h'
  · rcases getset h with ⟨rfl, e⟩ | ⟨ne, h'⟩
    · cases e; rw [List.getElem?_set_self (I.lt h)]
    · rw [List.getElem?_set_ne (Ne.symm ne)]; exact I.raw j x h'
  · rcases getset h1 with ⟨rfl, e⟩ | ⟨ne, h1'⟩
    · cases e
    · rcases getset h2 with ⟨rfl, e⟩ | ⟨ne2, h2'⟩
      · cases e
      · rw [List.getElem?_set_ne (Ne.symm ne)] at h3
        rw [List.getElem?_set_ne (Ne.symm ne2)]
        exact I.sep j k xs ys q hjk h1' h2' h3
theorem Base.setV (b : Base B0 B G H σ ρ) (i : Nat) : Base B0 B G H (σ.set i (some v)) (ρ.set i (some (.v v))) := ⟨b.st, fun j xs q h1 h2 => by
  rcases getset h1 with ⟨rfl, e⟩ | ⟨ne, h1'⟩
  · cases e
  · rw [List.getElem?_set_ne (Ne.symm ne)] at h2
    exact b.own j xs q h1' h2⟩
theorem Base.set (b : Base B0 B G H σ ρ) (i : Nat) : Base B0 B G H (σ.set i (some v)) (ρ.set i (some (.d d))) := ⟨b.st, fun j xs q h1 h2 => by
  rcases getset h1 with ⟨rfl, e⟩ | ⟨ne, h1'⟩
  · cases e
  · rw [List.getElem?_set_ne (Ne.symm ne)] at h2
    exact b.own j xs q h1' h2⟩
/-- a new list of one's own is stored -/
theorem Env.setO {vs : List V} (I : Env K G H σ ρ) (s : Step G H G2 H2) (hp : H p = none) (hg : G2 p = none) (hl : H2 p = some (.lst vs)) (hd : DpAll K G2 vs ds) (i : Nat) : Env K G2 H2 (σ.set i (some (.ref p))) (ρ.set i (some (.own ds))) := by
  have I2 := I.step s
  have nw : ∀ (j : Nat) xs, ρ[j]? = some (some (.own xs)) → σ[j]? ≠ some (some (.ref p)) := fun j xs h e => by
    obtain ⟨q, ws, h1, h2, _⟩ := I.own j xs h
    rw [e] at h1
    cases h1
    rw [hp] at h2; cases h2
  refine ⟨I2.gh, by rw [List.length_set, List.length_set]; exact I.len, fun j x h => ?_, fun j xs h => ?_, fun j x h => by
    rcases getset h with ⟨rfl, e⟩ | ⟨ne, h'⟩
    · cases e
    · rw [List.getElem?_set_ne (Ne.symm ne)]; exact I.raw j x h', fun j k xs ys q hjk h1 h2 h3 => ?_⟩
  · rcases getset h with ⟨rfl, e⟩ | ⟨ne, h'⟩
    · cases e
    · rw [List.getElem?_set_ne (Ne.symm ne)]; exact I2.dat j x h'
  · rcases getset h with ⟨rfl, e⟩ | ⟨ne, h'⟩
    · cases e
      exact ⟨p, vs, by rw [List.getElem?_set_self (I.lt h)], hl, hg, hd⟩
    · rw [List.getElem?_set_ne (Ne.symm ne)]; exact I2.own j xs h'
  · rcases getset h1 with ⟨rfl, e⟩ | ⟨ne, h1'⟩
    · rcases getset h2 with ⟨e2, _⟩ | ⟨ne2, h2'⟩
      · exact absurd e2.symm hjk
      · rw [List.getElem?_set_self (I.lt h1)] at h3
        cases h3
        rw [List.getElem?_set_ne (Ne.symm ne2)]
        exact nw k ys h2'
    · rw [List.getElem?_set_ne (Ne.symm ne)] at h3
      rcases getset h2 with ⟨rfl, e⟩ | ⟨ne2, h2'⟩
      · rw [List.getElem?_set_self (I.lt h2)]
        intro z
        cases z
        exact nw j xs h1' h3
      · rw [List.getElem?_set_ne (Ne.symm ne2)]
        exact I.sep j k xs ys q hjk h1' h2' h3
theorem Base.setO (b : Base B0 B G H σ ρ) (I : Env K G H σ ρ) (s : Step G H G2 H2) (hp : H p = none) (i : Nat) : Base B0 B G2 H2 (σ.set i (some (.ref p))) (ρ.set i (some (.own ds))) := ⟨b.st.trans s, fun j xs q h1 h2 => by
  rcases getset h1 with ⟨rfl, e⟩ | ⟨ne, h1'⟩
  · rw [List.getElem?_set_self (I.lt h1)] at h2
    cases h2
    exact fresh_back b.st.h hp
  · rw [List.getElem?_set_ne (Ne.symm ne)] at h2
    exact b.own j xs q h1' h2⟩
/-- an owned list is written -/
theorem Env.mut {ds' : List PyData} {vs' : List V} (I : Env K G H σ ρ) (h : ρ[i]? = some (some (.own ds))) (hs : σ[i]? = some (some (.ref p))) (hd : DpAll K G vs' ds') : Env K G (upd H p (.lst vs')) σ (ρ.set i (some (.own ds'))) := by
  obtain ⟨p', vs, h1, h2, h3, h4⟩ := I.own i ds h
  rw [hs] at h1; cases h1
  refine ⟨Ex.mut I.gh h3, by rw [List.length_set]; exact I.len, fun j x hj => ?_, fun j xs hj => ?_, fun j x hj => by
    rcases getset hj with ⟨rfl, e⟩ | ⟨ne, h'⟩
    · cases e
    · exact I.raw j x h', fun j k xs ys q hjk a1 a2 a3 => ?_⟩
  · rcases getset hj with ⟨rfl, e⟩ | ⟨ne, h'⟩
    · cases e
    · exact I.dat j x h'
  · rcases getset hj with ⟨rfl, e⟩ | ⟨ne, h'⟩
    · cases e
      exact ⟨p, vs', hs, upd_same, h3, hd⟩
    · obtain ⟨q, ws, b1, b2, b3, b4⟩ := I.own j xs h'
      refine ⟨q, ws, b1, ?_, b3, b4⟩
      have nq : q ≠ p := fun e => by
        subst e
        exact I.sep i j ds xs q (Ne.symm ne) h h' hs b1
      rw [upd_ne nq]; exact b2
  · have r : ∀ (j : Nat) xs, (ρ.set i (some (.own ds')))[j]? = some (some (.own xs)) → ∃ ys, ρ[j]? = some (some (.own ys)) := fun j xs hj => by
      rcases getset hj with ⟨rfl, _⟩ | ⟨_, h'⟩
      · exact ⟨ds, h⟩
      · exact ⟨xs, h'⟩
    obtain ⟨xs', r1⟩ := r j xs a1
    obtain ⟨ys', r2⟩ := r k ys a2
    exact I.sep j k xs' ys' q hjk r1 r2 a3
theorem Base.mut {ds' : List PyData} {vs' : List V} (b : Base B0 B G H σ ρ) (I : Env K G H σ ρ) (h : ρ[i]? = some (some (.own ds))) (hs : σ[i]? = some (some (.ref p))) : Base B0 B G (upd H p (.lst vs')) σ (ρ.set i (some (.own ds'))) := by
  obtain ⟨p', vs, h1, h2, h3, h4⟩ := I.own i ds h
  rw [hs] at h1; cases h1
  refine ⟨b.st.mutO (b.own i ds p h hs) h3, fun j xs q hj hq => ?_⟩
  rcases getset hj with ⟨rfl, _⟩ | ⟨_, h'⟩
  · exact b.own j ds q h hq
  · exact b.own j xs q h' hq
/-- an owned list is given up -/
theorem Env.frz (I : Env K G H σ ρ) (b : Base B0 B G H σ ρ) (h : ρ[i]? = some (some (.own ds))) : ∃ G2, Ex G G2 ∧ Env K G2 H σ (ρ.set i (some (.d (.list ds)))) ∧ Base B0 B G2 H σ (ρ.set i (some (.d (.list ds)))) := by
  obtain ⟨p, vs, h1, h2, h3, h4⟩ := I.own i ds h
  have eg : Ex G (upd G p (.lst vs)) := Ex.new h3
  refine ⟨upd G p (.lst vs), eg, ⟨fun c u hc => ?_, by rw [List.length_set]; exact I.len, fun j x hj => ?_, fun j xs hj => ?_, fun j x hj => by
    rcases getset hj with ⟨rfl, e⟩ | ⟨ne, h'⟩
    · cases e
    · exact I.raw j x h', fun j k xs ys q hjk a1 a2 a3 => ?_⟩, ⟨b.st.frz (b.own i ds p h h1) h2, fun j xs q hj hq => ?_⟩⟩
  · by_cases e : c = p
    · subst e; rw [upd_same] at hc; cases hc; exact h2
    · rw [upd_ne e] at hc; exact I.gh c u hc
  · rcases getset hj with ⟨rfl, e⟩ | ⟨ne, h'⟩
    · cases e
      exact ⟨.ref p, h1, .lst (sq_of upd_same) (dpa_mono eg _ _ h4)⟩
    · obtain ⟨v, q1, q2⟩ := I.dat j x h'
      exact ⟨v, q1, dp_mono eg _ _ q2⟩
  · rcases getset hj with ⟨rfl, e⟩ | ⟨ne, h'⟩
    · cases e
    · obtain ⟨q, ws, b1, b2, b3, b4⟩ := I.own j xs h'
      have nq : q ≠ p := fun e => by
        subst e
        exact I.sep i j ds xs q (Ne.symm ne) h h' h1 b1
      exact ⟨q, ws, b1, b2, by rw [upd_ne nq]; exact b3, dpa_mono eg _ _ b4⟩
  · rcases getset a1 with ⟨rfl, e⟩ | ⟨ne, a1'⟩
    · cases e
    · rcases getset a2 with ⟨rfl, e⟩ | ⟨ne2, a2'⟩
      · cases e
      · exact I.sep j k xs ys q hjk a1' a2' a3
  · rcases getset hj with ⟨rfl, e⟩ | ⟨ne, h'⟩
    · cases e
    · exact b.own j xs q h' hq
end

/-! ### what an expression is, as data -/
section
variable (K : PySem.W.Frag)
def ED (te : TE) (ρ : Rho) (d : PyData) : Prop := ∀ G H σ, Env K G H σ ρ → ∀ Q : VK, (∀ v G2 H2, Step G H G2 H2 → Dp K G2 v d → Q v H2) → te σ H Q
/-- a new list -/
def EF (te : TE) (ρ : Rho) (ds : List PyData) : Prop := ∀ G H σ, Env K G H σ ρ → ∀ Q : VK, (∀ p vs G2 H2, Step G H G2 H2 → H p = none → G2 p = none → H2 p = some (.lst vs) → DpAll K G2 vs ds → Q (.ref p) H2) → te σ H Q
def TD (t : TT) (ρ : Rho) (b : Bool) : Prop := ∀ G H σ, Env K G H σ ρ → ∀ Q : Bool → Hp → Prop, (∀ G2 H2, Step G H G2 H2 → Q b H2) → t σ H Q
def AD (ta : TA) (ρ : Rho) (ds : List PyData) : Prop := ∀ G H σ, Env K G H σ ρ → ∀ Q : List V → Hp → Prop, (∀ vs G2 H2, Step G H G2 H2 → DpAll K G2 vs ds → Q vs H2) → ta σ H Q
end
section
variable {K : PySem.W.Frag} {ρ : Rho} {ta tb tc te : TE} {t u : TT} {d e f : PyData} {ds es : List PyData} {i j : Int}
theorem EF.ed (h : EF K te ρ ds) : ED K te ρ (.list ds) := fun G H σ I Q q => h G H σ I Q fun p vs G2 H2 s hp hg hl hd =>
  q (.ref p) (upd G2 p (.lst vs)) H2 (s.frz hp hl) (.lst (sq_of upd_same) (dpa_mono (Ex.new hg) _ _ hd))
theorem ED.cast (h : ED K te ρ d) (e1 : d = e) : ED K te ρ e := e1 ▸ h
theorem EF.cast (h : EF K te ρ ds) (e1 : ds = es) : EF K te ρ es := e1 ▸ h
theorem TD.cast {a b : Bool} (h : TD K t ρ a) (e1 : a = b) : TD K t ρ b := e1 ▸ h
theorem ed_var {n : Nat} (h : ρ[n]? = some (some (.d d))) : ED K (tVar n) ρ d := fun G H σ I Q q => by
  obtain ⟨v, h1, h2⟩ := I.dat n d h
  exact ⟨v, h1, q v G H (Step.refl I.gh) h2⟩
theorem ed_int : ED K (tC (.int i)) ρ (.int i) := fun G H σ I Q q => q _ G H (Step.refl I.gh) (.int i)
theorem ed_bl {b : Bool} : ED K (tC (.bl b)) ρ (.bool b) := fun G H σ I Q q => q _ G H (Step.refl I.gh) (.bl b)
theorem ed_non : ED K (tC .non) ρ .none := fun G H σ I Q q => q _ G H (Step.refl I.gh) .non
theorem ed_op {r : R2} (ha : ED K ta ρ d) (hb : ED K tb ρ e) (hr : ∀ x y G H, Ex G H → Dp K G x d → Dp K G y e → ∀ Q : VK, (∀ v G2 H2, Step G H G2 H2 → Dp K G2 v f → Q v H2) → r x y H Q) : ED K (tOp r ta tb) ρ f := fun G H σ I Q q =>
  ha G H σ I _ fun x G1 H1 s1 h1 => hb G1 H1 σ (I.step s1) _ fun y G2 H2 s2 h2 => hr x y G2 H2 s2.gh (dp_mono s2.g _ _ h1) h2 Q fun v G3 H3 s3 h3 => q v G3 H3 ((s1.trans s2).trans s3) h3
theorem ef_op {r : R2} (ha : ED K ta ρ d) (hb : ED K tb ρ e) (hr : ∀ x y G H, Ex G H → Dp K G x d → Dp K G y e → ∀ Q : VK, (∀ p vs G2 H2, Step G H G2 H2 → H p = none → G2 p = none → H2 p = some (.lst vs) → DpAll K G2 vs ds → Q (.ref p) H2) → r x y H Q) : EF K (tOp r ta tb) ρ ds := fun G H σ I Q q =>
  ha G H σ I _ fun x G1 H1 s1 h1 => hb G1 H1 σ (I.step s1) _ fun y G2 H2 s2 h2 => hr x y G2 H2 s2.gh (dp_mono s2.g _ _ h1) h2 Q fun p vs G3 H3 s3 hp hg hl hd => q p vs G3 H3 ((s1.trans s2).trans s3) (fresh_back (s1.trans s2).h hp) hg hl hd
/-- two ints -/
theorem ed_I0 {g : Int → Int → Int} (ha : ED K ta ρ (.int i)) (hb : ED K tb ρ (.int j)) : ED K (tOp (rI0 fun i j => .int (g i j)) ta tb) ρ (.int (g i j)) :=
  ed_op ha hb fun x y G H e hx hy Q q => by
    cases dp_int hx; cases dp_int hy
    exact ⟨i, j, rfl, rfl, q _ G H (Step.refl e) (.int _)⟩
theorem ed_I {C : Int → Int → Prop} {g : Int → Int → Int} (ha : ED K ta ρ (.int i)) (hb : ED K tb ρ (.int j)) (hc : C i j) : ED K (tOp (rI C fun i j => .int (g i j)) ta tb) ρ (.int (g i j)) :=
  ed_op ha hb fun x y G H e hx hy Q q => by
    cases dp_int hx; cases dp_int hy
    exact ⟨i, j, rfl, rfl, hc, q _ G H (Step.refl e) (.int _)⟩
theorem ed_B0 {g : Int → Int → Bool} (ha : ED K ta ρ (.int i)) (hb : ED K tb ρ (.int j)) : ED K (tOp (rI0 fun i j => .bl (g i j)) ta tb) ρ (.bool (g i j)) :=
  ed_op ha hb fun x y G H e hx hy Q q => by
    cases dp_int hx; cases dp_int hy
    exact ⟨i, j, rfl, rfl, q _ G H (Step.refl e) (.bl _)⟩
theorem ed_add (ha : ED K ta ρ (.int i)) (hb : ED K tb ρ (.int j)) : ED K (tOp (rI0 fun i j => .int (i + j)) ta tb) ρ (.int (i + j)) := ed_I0 (g := fun i j => i + j) ha hb
theorem ed_sub (ha : ED K ta ρ (.int i)) (hb : ED K tb ρ (.int j)) : ED K (tOp (rI0 fun i j => .int (i - j)) ta tb) ρ (.int (i - j)) := ed_I0 (g := fun i j => i - j) ha hb
theorem ed_mul (ha : ED K ta ρ (.int i)) (hb : ED K tb ρ (.int j)) (hc : CMulX i j) : ED K (tOp (rI CMulX fun i j => .int (i * j)) ta tb) ρ (.int (i * j)) := ed_I (g := fun i j => i * j) ha hb hc
theorem ed_mod (ha : ED K ta ρ (.int i)) (hb : ED K tb ρ (.int j)) (hc : j ≠ 0) : ED K (tOp (rI (fun _ j => j ≠ 0) fun i j => .int (i.fmod j)) ta tb) ρ (.int (i.fmod j)) := ed_I (C := fun _ j => j ≠ 0) (g := fun i j => i.fmod j) ha hb hc
theorem ed_fdiv (ha : ED K ta ρ (.int i)) (hb : ED K tb ρ (.int j)) (hc : j ≠ 0) : ED K (tOp (rI (fun _ j => j ≠ 0) fun i j => .int (i.fdiv j)) ta tb) ρ (.int (i.fdiv j)) := ed_I (C := fun _ j => j ≠ 0) (g := fun i j => i.fdiv j) ha hb hc
theorem ed_pow (ha : ED K ta ρ (.int i)) (hb : ED K tb ρ (.int j)) (hc : CPow i j) : ED K (tOp (rI CPow fun i j => .int (i ^ j.toNat)) ta tb) ρ (.int (i ^ j.toNat)) := ed_I (g := fun i j => i ^ j.toNat) ha hb hc
theorem ed_lt (ha : ED K ta ρ (.int i)) (hb : ED K tb ρ (.int j)) : ED K (tOp (rI0 fun i j => .bl (decide (i < j))) ta tb) ρ (.bool (decide (i < j))) := ed_B0 (g := fun i j => decide (i < j)) ha hb
theorem ed_le (ha : ED K ta ρ (.int i)) (hb : ED K tb ρ (.int j)) : ED K (tOp (rI0 fun i j => .bl (decide (i ≤ j))) ta tb) ρ (.bool (decide (i ≤ j))) := ed_B0 (g := fun i j => decide (i ≤ j)) ha hb
theorem ed_gt (ha : ED K ta ρ (.int i)) (hb : ED K tb ρ (.int j)) : ED K (tOp (rI0 fun i j => .bl (decide (j < i))) ta tb) ρ (.bool (decide (j < i))) := ed_B0 (g := fun i j => decide (j < i)) ha hb
theorem ed_ge (ha : ED K ta ρ (.int i)) (hb : ED K tb ρ (.int j)) : ED K (tOp (rI0 fun i j => .bl (decide (j ≤ i))) ta tb) ρ (.bool (decide (j ≤ i))) := ed_B0 (g := fun i j => decide (j ≤ i)) ha hb
theorem ed_eqD (ha : ED K ta ρ d) (hb : ED K tb ρ e) (h1 : SeqAt.shaped d = true) (h2 : SeqAt.shaped e = true) : ED K (tOp (rEqD K) ta tb) ρ (.bool (PyData.eqv d e)) :=
  ed_op ha hb fun x y G H ex hx hy Q q => ⟨d, e, dp_mono ex _ _ hx, dp_mono ex _ _ hy, h1, h2, q _ G H (Step.refl ex) (.bl _)⟩
theorem ed_neD (ha : ED K ta ρ d) (hb : ED K tb ρ e) (h1 : SeqAt.shaped d = true) (h2 : SeqAt.shaped e = true) : ED K (tOp (rNeD K) ta tb) ρ (.bool (!PyData.eqv d e)) :=
  ed_op ha hb fun x y G H ex hx hy Q q => ⟨d, e, dp_mono ex _ _ hx, dp_mono ex _ _ hy, h1, h2, q _ G H (Step.refl ex) (.bl _)⟩
theorem eqv_int (i j : Int) : PyData.eqv (.int i) (.int j) = decide (i = j) := by
  show (i == j) = decide (i = j)
  rfl
theorem eqv_bool (a b : Bool) : PyData.eqv (.bool a) (.bool b) = decide (a = b) := by
  show (a == b) = decide (a = b)
  cases a <;> cases b <;> rfl
theorem ed_eqI (ha : ED K ta ρ (.int i)) (hb : ED K tb ρ (.int j)) : ED K (tOp (rEqD K) ta tb) ρ (.bool (decide (i = j))) := (ed_eqD ha hb rfl rfl).cast (by rw [eqv_int])
theorem ed_neI (ha : ED K ta ρ (.int i)) (hb : ED K tb ρ (.int j)) : ED K (tOp (rNeD K) ta tb) ρ (.bool (!decide (i = j))) := (ed_neD ha hb rfl rfl).cast (by rw [eqv_int])
theorem ed_eqB {a b : Bool} (ha : ED K ta ρ (.bool a)) (hb : ED K tb ρ (.bool b)) : ED K (tOp (rEqD K) ta tb) ρ (.bool (decide (a = b))) := (ed_eqD ha hb rfl rfl).cast (by rw [eqv_bool])
theorem ed_neB {a b : Bool} (ha : ED K ta ρ (.bool a)) (hb : ED K tb ρ (.bool b)) : ED K (tOp (rNeD K) ta tb) ρ (.bool (!decide (a = b))) := (ed_neD ha hb rfl rfl).cast (by rw [eqv_bool])
theorem ed_un {r : V → Hp → VK → Prop} (ha : ED K ta ρ d) (hr : ∀ x G H, Ex G H → Dp K G x d → ∀ Q : VK, (∀ v G2 H2, Step G H G2 H2 → Dp K G2 v f → Q v H2) → r x H Q) : ED K (tUn r ta) ρ f := fun G H σ I Q q =>
  ha G H σ I _ fun x G1 H1 s1 h1 => hr x G1 H1 s1.gh h1 Q fun v G3 H3 s3 h3 => q v G3 H3 (s1.trans s3) h3
theorem ed_neg (ha : ED K ta ρ (.int i)) : ED K (tUn (rU fun i => .int (-i)) ta) ρ (.int (-i)) := ed_un ha fun x G H e hx Q q => by
  cases dp_int hx
  exact ⟨i, rfl, q _ G H (Step.refl e) (.int _)⟩
/-! tests -/
theorem td_test {b : Bool} (h : ED K te ρ (.bool b)) : TD K (tTest te) ρ b := fun G H σ I Q q => h G H σ I _ fun v G2 H2 s hv => by
  cases dp_bl hv
  exact ⟨b, rfl, q G2 H2 s⟩
theorem td_B {b : Bool} (h : ED K te ρ (.bool b)) : TD K (tB te) ρ b := fun G H σ I Q q => h G H σ I _ fun v G2 H2 s hv => by
  cases dp_bl hv
  exact ⟨b, rfl, q G2 H2 s⟩
def tTruth (K : PySem.W.Frag) (ta : TE) : TT := fun σ H Q => ta σ H fun x H' => ∃ k, TruV K x H' k ∧ Q k H'
theorem td_seq (h : ED K te ρ d) (s : SeqD d ds) : TD K (tTruth K te) ρ (!ds.isEmpty) := fun G H σ I Q q => h G H σ I _ fun v G2 H2 st hv => by
  obtain ⟨a, xs, rfl, hs, hd⟩ := s.of hv
  have e : (!xs.isEmpty) = !ds.isEmpty := by
    have := hd.len
    cases xs <;> cases ds <;> simp_all
  refine ⟨!ds.isEmpty, ?_, q G2 H2 st⟩
  rcases hs with hs | hs
  · exact .inl ⟨xs, ex_l st.gh hs, e.symm⟩
  · exact .inr (.inl ⟨xs, ex_t st.gh hs, e.symm⟩)
theorem td_int (h : ED K te ρ (.int i)) : TD K (tTruth K te) ρ (i != 0) := fun G H σ I Q q => h G H σ I _ fun v G2 H2 st hv => by
  cases dp_int hv
  exact ⟨i != 0, rfl, q G2 H2 st⟩
theorem td_bool {b : Bool} (h : ED K te ρ (.bool b)) : TD K (tTruth K te) ρ b := fun G H σ I Q q => h G H σ I _ fun v G2 H2 st hv => by
  cases dp_bl hv
  exact ⟨b, rfl, q G2 H2 st⟩
/-- a value's truth -/
inductive Truth : PyData → Bool → Prop
  | bool (b : Bool) : Truth (.bool b) b
  | int (i : Int) : Truth (.int i) (i != 0)
  | l (ds : List PyData) : Truth (.list ds) (!ds.isEmpty)
  | t (ds : List PyData) : Truth (.tuple ds) (!ds.isEmpty)
theorem td_truth {b : Bool} (h : ED K te ρ d) (k : Truth d b) : TD K (tTruth K te) ρ b := by
  cases k with
  | bool b => exact td_bool h
  | int i => exact td_int h
  | l ds => exact td_seq h (.l _)
  | t ds => exact td_seq h (.t _)
theorem td_and {a b : Bool} (h1 : TD K t ρ a) (h2 : a = true → TD K u ρ b) : TD K (tAnd t u) ρ (a && b) := fun G H σ I Q q => h1 G H σ I _ fun G2 H2 s => by
  cases a with
  | true =>
    show u σ H2 Q
    exact h2 rfl G2 H2 σ (I.step s) Q fun G3 H3 s3 => q G3 H3 (s.trans s3)
  | false =>
    show Q false H2
    exact q G2 H2 s
theorem td_or {a b : Bool} (h1 : TD K t ρ a) (h2 : a = false → TD K u ρ b) : TD K (tOr t u) ρ (a || b) := fun G H σ I Q q => h1 G H σ I _ fun G2 H2 s => by
  cases a with
  | false =>
    show u σ H2 Q
    exact h2 rfl G2 H2 σ (I.step s) Q fun G3 H3 s3 => q G3 H3 (s.trans s3)
  | true =>
    show Q true H2
    exact q G2 H2 s
theorem td_not {a : Bool} (h : TD K t ρ a) : TD K (tNot t) ρ (!a) := fun G H σ I Q q => h G H σ I _ fun G2 H2 s => q G2 H2 s
theorem td_yes : TD K tYes ρ true := fun G H σ I Q q => q G H (Step.refl I.gh)
theorem ed_andV {a b : Bool} (h1 : ED K ta ρ (.bool a)) (h2 : a = true → ED K tb ρ (.bool b)) : ED K (tAndV ta tb) ρ (.bool (a && b)) := fun G H σ I Q q => h1 G H σ I _ fun v G2 H2 s hv => by
  cases dp_bl hv
  refine ⟨a, rfl, ?_⟩
  cases a with
  | true =>
    show tb σ H2 Q
    exact h2 rfl G2 H2 σ (I.step s) Q fun v G3 H3 s3 => q v G3 H3 (s.trans s3)
  | false =>
    show Q (.bl false) H2
    exact q _ G2 H2 s (.bl false)
theorem ed_orV {a b : Bool} (h1 : ED K ta ρ (.bool a)) (h2 : a = false → ED K tb ρ (.bool b)) : ED K (tOrV ta tb) ρ (.bool (a || b)) := fun G H σ I Q q => h1 G H σ I _ fun v G2 H2 s hv => by
  cases dp_bl hv
  refine ⟨a, rfl, ?_⟩
  cases a with
  | false =>
    show tb σ H2 Q
    exact h2 rfl G2 H2 σ (I.step s) Q fun v G3 H3 s3 => q v G3 H3 (s.trans s3)
  | true =>
    show Q (.bl true) H2
    exact q _ G2 H2 s (.bl true)
theorem ed_notV {a : Bool} (h1 : ED K ta ρ (.bool a)) : ED K (tNotV ta) ρ (.bool (!a)) := fun G H σ I Q q => h1 G H σ I _ fun v G2 H2 s hv => by
  cases dp_bl hv
  exact ⟨a, rfl, q _ G2 H2 s (.bl _)⟩
theorem ed_if {b : Bool} (h : TD K t ρ b) (h1 : b = true → ED K ta ρ d) (h2 : b = false → ED K tb ρ d) : ED K (tIf t ta tb) ρ d := fun G H σ I Q q => h G H σ I _ fun G2 H2 s => by
  cases b with
  | true =>
    show ta σ H2 Q
    exact h1 rfl G2 H2 σ (I.step s) Q fun v G3 H3 s3 => q v G3 H3 (s.trans s3)
  | false =>
    show tb σ H2 Q
    exact h2 rfl G2 H2 σ (I.step s) Q fun v G3 H3 s3 => q v G3 H3 (s.trans s3)
/-! arguments, displays -/
theorem ad_nil : AD K tNil ρ [] := fun G H σ I Q q => q [] G H (Step.refl I.gh) .nil
theorem ad_cons {tr : TA} (h : ED K ta ρ d) (hr : AD K tr ρ ds) : AD K (tCons ta tr) ρ (d :: ds) := fun G H σ I Q q =>
  h G H σ I _ fun v G1 H1 s1 h1 => hr G1 H1 σ (I.step s1) _ fun vs G2 H2 s2 h2 => q (v :: vs) G2 H2 (s1.trans s2) (.cons (dp_mono s2.g _ _ h1) h2)
theorem ed_tup {tr : TA} (h : AD K tr ρ ds) (hl : ds.length ≤ 100000) : ED K (tTup tr) ρ (.tuple ds) := fun G H σ I Q q =>
  h G H σ I _ fun vs G1 H1 s1 h1 => ⟨by rw [h1.len]; exact sz_of hl, fun p hp =>
    q (.ref p) (upd G1 p (.tup vs)) _ (s1.trans (Step.alloc s1.gh hp)) (.tup (st_of upd_same) (dpa_mono (Ex.new (fresh_back s1.gh hp)) _ _ h1))⟩
theorem ef_lst {tr : TA} (h : AD K tr ρ ds) (hl : ds.length ≤ 100000) : EF K (tLst tr) ρ ds := fun G H σ I Q q =>
  h G H σ I _ fun vs G1 H1 s1 h1 => ⟨by rw [h1.len]; exact sz_of hl, fun p hp =>
    q p vs G1 _ (s1.trans (Step.allocO s1.gh hp)) (fresh_back s1.h hp) (fresh_back s1.gh hp) upd_same h1⟩
end

/-! ### sequences -/
section
variable {K : PySem.W.Frag} {ρ : Rho} {ta tb tc te : TE} {t u : TT} {d e f : PyData} {ds es : List PyData} {i j : Int} {n : Nat}
theorem atI_get {α : Type} {xs : List α} {i : Int} {a : α} (h : atI xs i = some a) : ∃ k, ixN xs.length i = some k ∧ xs[k]? = some a := by
  unfold atI at h
  cases q : ixN xs.length i with
  | none => rw [q] at h; cases h
  | some k => rw [q] at h; exact ⟨k, rfl, h⟩
theorem atI_mk {α : Type} {xs : List α} {i : Int} {a : α} {k : Nat} (h1 : ixN xs.length i = some k) (h2 : xs[k]? = some a) : atI xs i = some a := by
  unfold atI; rw [h1]; exact h2
theorem atI_dp {G : Hp} {vs : List V} (h : DpAll K G vs ds) (a : atI ds i = some d) : ∃ v, atI vs i = some v ∧ Dp K G v d := by
  obtain ⟨k, h1, h2⟩ := atI_get a
  obtain ⟨v, h3, h4⟩ := h.get h2
  exact ⟨v, atI_mk (by rw [h.len]; exact h1) h3, h4⟩
theorem ed_ix (ha : ED K ta ρ d) (s : SeqD d ds) (hb : ED K tb ρ (.int i)) (h : atI ds i = some f) : ED K (tOp (rIx K) ta tb) ρ f :=
  ed_op ha hb fun x y G H ex hx hy Q q => by
    cases dp_int hy
    obtain ⟨a, xs, rfl, hs, hd⟩ := s.of hx
    obtain ⟨v, h1, h2⟩ := atI_dp hd h
    rcases hs with hs | hs
    · exact .inl ⟨a, xs, i, v, rfl, rfl, ex_l ex hs, h1, q v G H (Step.refl ex) h2⟩
    · exact .inr (.inl ⟨a, xs, i, v, rfl, rfl, ex_t ex hs, h1, q v G H (Step.refl ex) h2⟩)
/-- an item of a list of one's own -/
theorem ed_ixO {k : Nat} (ho : ρ[k]? = some (some (.own ds))) (hb : ED K tb ρ (.int i)) (h : atI ds i = some f) : ED K (tOp (rIx K) (tVar k) tb) ρ f := fun G H σ I Q q => by
  obtain ⟨p, vs, h1, h2, h3, h4⟩ := I.own k ds ho
  refine ⟨_, h1, hb G H σ I _ fun y G2 H2 s hy => ?_⟩
  cases dp_int hy
  obtain ⟨v, a1, a2⟩ := atI_dp h4 h
  exact .inl ⟨p, vs, i, v, rfl, rfl, sq_of (s.h _ _ h2), a1, q v G2 H2 s (dp_mono s.g _ _ a2)⟩
def tLen (K : PySem.W.Frag) (ta : TE) : TE := tCB (rLenS K) (tCons ta tNil)
theorem ed_len (ha : ED K ta ρ d) (s : SeqD d ds) : ED K (tLen K ta) ρ (.int ds.length) := fun G H σ I Q q => ha G H σ I _ fun v G2 H2 st hv => by
  obtain ⟨a, xs, rfl, hs, hd⟩ := s.of hv
  refine ⟨a, xs, rfl, ?_, ?_⟩
  · rcases hs with hs | hs
    · exact .inl (ex_l st.gh hs)
    · exact .inr (ex_t st.gh hs)
  · rw [hd.len]; exact q _ G2 H2 st (.int _)
theorem ed_lenO {k : Nat} (ho : ρ[k]? = some (some (.own ds))) : ED K (tLen K (tVar k)) ρ (.int ds.length) := fun G H σ I Q q => by
  obtain ⟨p, vs, h1, h2, h3, h4⟩ := I.own k ds ho
  refine ⟨_, h1, p, vs, rfl, .inl (sq_of h2), ?_⟩
  rw [h4.len]; exact q _ G H (Step.refl I.gh) (.int _)
theorem ef_list (ha : ED K ta ρ d) (s : SeqD d ds) : EF K (tCB (rListS K) (tCons ta tNil)) ρ ds := fun G H σ I Q q => ha G H σ I _ fun v G2 H2 st hv => by
  obtain ⟨a, xs, rfl, hs, hd⟩ := s.of hv
  refine ⟨a, xs, rfl, ?_, fun l hl => q l xs G2 _ (st.trans (Step.allocO st.gh hl)) (fresh_back st.h hl) (fresh_back st.gh hl) upd_same hd⟩
  rcases hs with hs | hs
  · exact .inl (ex_l st.gh hs)
  · exact .inr (ex_t st.gh hs)
def rTupS (K : PySem.W.Frag) : List V → Hp → VK → Prop := fun xs H Q => ∃ p ys, xs = [.ref p] ∧ ((SqL K H p ys ∧ ∀ l, H l = none → Q (.ref l) (upd H l (.tup ys))) ∨ (SqT K H p ys ∧ Q (.ref p) H))
theorem ed_tuple (ha : ED K ta ρ d) (s : SeqD d ds) : ED K (tCB (rTupS K) (tCons ta tNil)) ρ (.tuple ds) := fun G H σ I Q q => ha G H σ I _ fun v G2 H2 st hv => by
  obtain ⟨a, xs, rfl, hs, hd⟩ := s.of hv
  refine ⟨a, xs, rfl, ?_⟩
  rcases hs with hs | hs
  · exact .inl ⟨ex_l st.gh hs, fun l hl => q (.ref l) (upd G2 l (.tup xs)) _ (st.trans (Step.alloc st.gh hl)) (.tup (st_of upd_same) (dpa_mono (Ex.new (fresh_back st.gh hl)) _ _ hd))⟩
  · exact .inr ⟨ex_t st.gh hs, q (.ref a) G2 H2 st (.tup hs hd)⟩
/-- slices -/
def OD (K : PySem.W.Frag) (to : TO) (ρ : Rho) (o : Option Int) : Prop := ∀ G H σ, Env K G H σ ρ → ∀ Q : Option Int → Hp → Prop, (∀ G2 H2, Step G H G2 H2 → Q o H2) → to σ H Q
theorem od_none : OD K tNoPart ρ none := fun G H σ I Q q => q G H (Step.refl I.gh)
theorem od_some (h : ED K te ρ (.int i)) : OD K (tPart te) ρ (some i) := fun G H σ I Q q => h G H σ I _ fun v G2 H2 s hv => by
  cases dp_int hv
  exact ⟨i, rfl, q G2 H2 s⟩
def cutD (xs : List PyData) (lo hi : Option Int) : List PyData := (xs.drop (HT.sIx xs.length 0 lo)).take (HT.sIx xs.length xs.length hi - HT.sIx xs.length 0 lo)
theorem cut_dp {G : Hp} {vs : List V} (h : DpAll K G vs ds) (lo hi : Option Int) : DpAll K G (cutV vs lo hi) (cutD ds lo hi) := by
  unfold cutV cutD
  rw [h.len]
  exact (h.dr _).tk _
/-- a slice of a list or of a tuple -/
def rSlS (K : PySem.W.Frag) : V → Option Int → Option Int → Hp → VK → Prop := fun x lo hi H Q => rSlL K x lo hi H Q ∨ rSlA K x lo hi H Q
theorem sl_seq {X : Cx} : SlR X (rSlS X.K) := SlR.or sl_list sl_tupA
theorem ef_sl {tl th : TO} {lo hi : Option Int} (ha : ED K te ρ (.list ds)) (h1 : OD K tl ρ lo) (h2 : OD K th ρ hi) : EF K (tSl (rSlS K) te tl th) ρ (cutD ds lo hi) := fun G H σ I Q q =>
  ha G H σ I _ fun v G1 H1 s1 hv => h1 G1 H1 σ (I.step s1) _ fun G2 H2 s2 => h2 G2 H2 σ (I.step (s1.trans s2)) _ fun G3 H3 s3 => by
    have sA := (s1.trans s2).trans s3
    obtain ⟨a, xs, rfl, hs, hd⟩ := (SeqD.l ds).of hv
    cases hv with
    | lst hq ha2 =>
      rename_i xs'
      exact .inl ⟨a, _, rfl, ex_l ((s2.trans s3).g.trans s3.gh) hq, fun p hp => q p _ G3 _ (sA.trans (Step.allocO s3.gh hp)) (fresh_back sA.h hp) (fresh_back s3.gh hp) upd_same (dpa_mono (s2.trans s3).g _ _ (cut_dp ha2 lo hi))⟩
theorem cutV_whole {xs : List V} {lo hi : Option Int} (h : HT.sIx xs.length 0 lo = 0 ∧ HT.sIx xs.length xs.length hi = xs.length) : cutV xs lo hi = xs := by
  unfold cutV
  rw [h.1, h.2, List.drop_zero, Nat.sub_zero, List.take_length]
theorem ed_slT {tl th : TO} {lo hi : Option Int} (ha : ED K te ρ (.tuple ds)) (h1 : OD K tl ρ lo) (h2 : OD K th ρ hi) : ED K (tSl (rSlS K) te tl th) ρ (.tuple (cutD ds lo hi)) := fun G H σ I Q q =>
  ha G H σ I _ fun v G1 H1 s1 hv => h1 G1 H1 σ (I.step s1) _ fun G2 H2 s2 => h2 G2 H2 σ (I.step (s1.trans s2)) _ fun G3 H3 s3 => by
    have sA := (s1.trans s2).trans s3
    have s23 := s2.trans s3
    cases hv with
    | tup hq ha2 =>
      have cd := cut_dp ha2 lo hi
      refine .inr ⟨_, _, rfl, ex_t (s23.g.trans s3.gh) hq, fun w => ?_, fun w p hp => ?_⟩
      · rw [cutV_whole w] at cd
        exact q _ G3 H3 sA (.tup (ex_t s23.g hq) (dpa_mono s23.g _ _ cd))
      · exact q (.ref p) (upd G3 p (.tup _)) _ (sA.trans (Step.alloc s3.gh hp)) (.tup (st_of upd_same) (dpa_mono (s23.g.trans (Ex.new (fresh_back s3.gh hp))) _ _ cd))
/-- list + list -/
def rCatS (K : PySem.W.Frag) : R2 := fun x y H Q => ∃ l b xs zs, x = .ref l ∧ y = .ref b ∧ SqL K H l xs ∧ SqL K H b zs ∧ xs.length + zs.length ≤ sizeLine ∧ ∀ p, H p = none → Q (.ref p) (upd H p (.lst (xs ++ zs)))
theorem op_catS {X : Cx} : OpR X (binaryOp .Add) (rCatS X.K) := by
  intro pins s σ H x y v u Q I rx ry h
  obtain ⟨l, b, xs, zs, rfl, rfl, hH, hB, hz, q⟩ := h
  cases rx
  cases ry
  obtain ⟨its, r, pl, z⟩ := I.list hH
  obtain ⟨its2, r2, pl2, z2⟩ := I.list hB
  obtain ⟨⟨cls, dd, data, sl⟩, n, ho, hc, hdd, hd⟩ := pl
  obtain ⟨⟨cls2, dd2, data2, sl2⟩, n2, ho2, hc2, hdd2, hd2⟩ := pl2
  simp only at hc hd hc2 hd2
  subst hc hd hc2 hd2
  have e1 := r.length
  have e2 := r2.length
  refine PySem.concat_meets ⟨_, ho, rfl⟩ ⟨_, ho2, rfl⟩ PySem.noFill_list_add PySem.seq_list_add F.slot_list_add F.entry_list_add (F.args_list_add_2 _ _)
    (PyProof.Rows.list_addW l b its.toArray its2.toArray n n2 dd dd2 sl sl2 (by rw [List.size_toArray, List.size_toArray]; omega)) ⟨ho, ho2, ?_⟩
  have ea : its.toArray ++ its2.toArray = (its ++ its2).toArray := by simp
  rw [ea]
  exact ⟨.ref _, _, I.lnew (t' := s.toks) (r.append r2) (by rw [List.length_append]; omega), rfl, q _ I.fresh⟩
theorem ef_cat (ha : ED K ta ρ (.list ds)) (hb : ED K tb ρ (.list es)) (hz : ds.length + es.length ≤ 100000) : EF K (tOp (rCatS K) ta tb) ρ (ds ++ es) :=
  ef_op ha hb fun x y G H ex hx hy Q q => by
    cases hx with
    | lst h1 h2 =>
      cases hy with
      | lst h3 h4 =>
        exact ⟨_, _, _, _, rfl, rfl, ex_l ex h1, ex_l ex h3, by rw [h2.len, h4.len]; exact sz_of hz, fun p hp => q p _ G _ (Step.allocO ex hp) hp (fresh_back ex hp) upd_same (h2.app h4)⟩
/-- abs, gcd -/
def rAbs : List V → Hp → VK → Prop := fun xs H Q => ∃ i, xs = [.int i] ∧ Q (.int (if i < 0 then -i else i)) H
theorem ed_abs (ha : ED K ta ρ (.int i)) : ED K (tCB rAbs (tCons ta tNil)) ρ (.int (if i < 0 then -i else i)) := fun G H σ I Q q => ha G H σ I _ fun v G2 H2 s hv => by
  cases dp_int hv
  exact ⟨i, rfl, q _ G2 H2 s (.int _)⟩
theorem ed_gcd (ha : ED K ta ρ (.int i)) (hb : ED K tb ρ (.int j)) : ED K (tCB rGcd (tCons ta (tCons tb tNil))) ρ (.int ((Nat.gcd i.natAbs j.natAbs : Nat) : Int)) := fun G H σ I Q q =>
  ha G H σ I _ fun v G1 H1 s1 hv => hb G1 H1 σ (I.step s1) _ fun y G2 H2 s2 hy => by
    cases dp_int hv; cases dp_int hy
    exact ⟨i, j, rfl, q _ G2 H2 (s1.trans s2) (.int _)⟩
/-- isinstance(x, T), T built in -/
def tyN : PyData → String
  | .none => "NoneType" | .bool _ => "bool" | .int _ => "int" | .str _ => "str" | .list _ => "list" | .tuple _ => "tuple" | .dict _ => "dict"
theorem dp_ty {G : Hp} {v : V} (h : Dp K G v d) : TyX K G v (.type (tyN d)) := by
  cases d with
  | none => cases h; exact .base .non
  | bool b => cases h; exact .base (.bl b)
  | int b => cases h; exact .base (.int b)
  | str b => cases h; exact .base (.str b)
  | list b =>
    cases h with
    | lst hs _ =>
      rcases hs with (h | ⟨o, h⟩) | ⟨o, its, n, hk, hc, _⟩
      · exact .base (.lst h)
      · exact .base (.frz h)
      · exact .kList hk hc
  | tuple b =>
    cases h with
    | tup hs _ =>
      rcases hs with (h | ⟨o, h⟩) | ⟨o, its, n, hk, hc, _⟩
      · exact .base (.tup h)
      · exact .fTuple h
      · exact .kTuple hk hc
  | dict _ => cases h
theorem ty_mono {G H : Hp} {v : V} {t : String} (e : Ex G H) (h : Dp K G v d) (ht : tyN d = t) : TyX K H v (.type t) := ht ▸ dp_ty (dp_mono e _ _ h)
theorem ed_isi {T : String} {b : Bool} (ha : ED K ta ρ d) (h : kitB (tyN d) T = some b) : ED K (tCB (rIsi K) (tCons ta (tCons (tC (.ty T)) tNil))) ρ (.bool b) := fun G H σ I Q q => ha G H σ I _ fun v G2 H2 s hv =>
  ⟨v, .ty T, .type (tyN d), .type T, b, rfl, .ty T, ty_mono s.gh hv rfl, kit_ty h, q _ G2 H2 s (.bl b)⟩
end

/-! ### results and calls -/
inductive Res where
  | rt (d : PyData)
  | rf (ds : List PyData)
  | xc (C : Addr)
def RP (K : PySem.W.Frag) (r : Res) (G B : Hp) (Q : VK) (E : XK) : Prop := match r with
  | .rt d => ∀ v G2 H2, Step G B G2 H2 → Dp K G2 v d → Q v H2
  | .rf ds => ∀ p vs G2 H2, Step G B G2 H2 → B p = none → G2 p = none → H2 p = some (.lst vs) → DpAll K G2 vs ds → Q (.ref p) H2
  | .xc C => ∀ G2 H2, Step G B G2 H2 → E (.ref C) none H2
/-- a promise by data -/
def spD (K : PySem.W.Frag) (n : Nat) (F : List PyData → Res → Prop) : Sp := fun vs H Q E => vs.length = n ∧ ∃ G ds r, Ex G H ∧ DpAll K G vs ds ∧ F ds r ∧ RP K r G H Q E
section
variable {K : PySem.W.Frag} {ρ : Rho} {ta : TA} {d : PyData} {ds es : List PyData} {n : Nat} {F : List PyData → Res → Prop} {E : XK}
theorem ed_call (ha : AD K ta ρ ds) (h : F ds (.rt d)) (hn : ds.length = n) : ED K (tCall (spD K n F) [] E ta) ρ d := fun G H σ I Q q => ha G H σ I _ fun vs G2 H2 s hv => by
  rw [List.append_nil]
  exact ⟨hv.len.trans hn, G2, ds, .rt d, s.gh, hv, h, fun v G3 H3 s3 h3 => q v G3 H3 (s.trans s3) h3⟩
theorem ef_call (ha : AD K ta ρ ds) (h : F ds (.rf es)) (hn : ds.length = n) : EF K (tCall (spD K n F) [] E ta) ρ es := fun G H σ I Q q => ha G H σ I _ fun vs G2 H2 s hv => by
  rw [List.append_nil]
  exact ⟨hv.len.trans hn, G2, ds, .rf es, s.gh, hv, h, fun p ws G3 H3 s3 hp hg hl hd => q p ws G3 H3 (s.trans s3) (fresh_back s.h hp) hg hl hd⟩
end

/-! ### statements -/
inductive Out where
  | nx (ρ : Rho)
  | rt (d : PyData)
  | rf (ds : List PyData)
  | bk (ρ : Rho)
  | ct (ρ : Rho)
section
variable (K : PySem.W.Frag) (B0 B : Hp)
def Post (G : Hp) (D : Ends) : Out → Prop
  | .nx ρ => ∀ G2 H2 σ2, Ex G G2 → Env K G2 H2 σ2 ρ → Base B0 B G2 H2 σ2 ρ → D.nx σ2 H2
  | .bk ρ => ∀ G2 H2 σ2, Ex G G2 → Env K G2 H2 σ2 ρ → Base B0 B G2 H2 σ2 ρ → D.bk σ2 H2
  | .ct ρ => ∀ G2 H2 σ2, Ex G G2 → Env K G2 H2 σ2 ρ → Base B0 B G2 H2 σ2 ρ → D.ct σ2 H2
  | .rt d => ∀ v G2 H2, Step B0 B G2 H2 → Dp K G2 v d → D.rt v H2
  | .rf ds => ∀ p vs G2 H2, Step B0 B G2 H2 → B p = none → G2 p = none → H2 p = some (.lst vs) → DpAll K G2 vs ds → D.rt (.ref p) H2
def SD (t : TS) (ρ : Rho) (P : Out → Prop) : Prop := ∀ G H σ D, Env K G H σ ρ → Base B0 B G H σ ρ → (∀ o, P o → Post K B0 B G D o) → t D σ H
end
section
variable {K : PySem.W.Frag} {B0 B : Hp} {ρ : Rho} {ta te : TE} {c : TT} {t u : TS} {d e : PyData} {ds es : List PyData} {P R : Out → Prop} {i : Nat}
theorem Post.mono {G G2 : Hp} {D : Ends} {o : Out} (e : Ex G G2) (h : Post K B0 B G D o) : Post K B0 B G2 D o := by
  cases o with
  | nx ρ => exact fun G3 H3 σ3 e3 => h G3 H3 σ3 (e.trans e3)
  | bk ρ => exact fun G3 H3 σ3 e3 => h G3 H3 σ3 (e.trans e3)
  | ct ρ => exact fun G3 H3 σ3 e3 => h G3 H3 σ3 (e.trans e3)
  | rt d => exact h
  | rf ds => exact h
theorem SD.imp (h : SD K B0 B t ρ P) (k : ∀ o, P o → R o) : SD K B0 B t ρ R := fun G H σ D I b q => h G H σ D I b fun o po => q o (k o po)
/-- what follows a statement -/
def Then (K : PySem.W.Frag) (B0 B : Hp) (u : TS) (P : Out → Prop) : Out → Prop
  | .nx ρ => SD K B0 B u ρ P
  | o => P o
theorem sd_seq (h : SD K B0 B t ρ (Then K B0 B u P)) : SD K B0 B (tSeq t u) ρ P := fun G H σ D I b q => h G H σ { D with nx := u D } I b fun o po => by
  cases o with
  | nx ρ2 => exact fun G2 H2 σ2 e I2 b2 => po G2 H2 σ2 D I2 b2 fun o' po' => (q o' po').mono e
  | rt d => exact q _ po
  | rf ds => exact q _ po
  | bk ρ2 => exact q _ po
  | ct ρ2 => exact q _ po
theorem sd_next (h : P (.nx ρ)) : SD K B0 B tNext ρ P := fun G H σ D I b q => q _ h G H σ (Ex.refl G) I b
theorem sd_brk (h : P (.bk ρ)) : SD K B0 B tBreak ρ P := fun G H σ D I b q => q _ h G H σ (Ex.refl G) I b
theorem sd_cont (h : P (.ct ρ)) : SD K B0 B tCont ρ P := fun G H σ D I b q => q _ h G H σ (Ex.refl G) I b
theorem sd_set (h : ED K te ρ d) (k : P (.nx (ρ.set i (some (.d d))))) : SD K B0 B (tAsg te (gName i)) ρ P := fun G H σ D I b q =>
  h G H σ I _ fun v G2 H2 s hv => q _ k G2 H2 _ s.g ((I.step s).set hv i) ((b.step s).set i)
theorem sd_setF (h : EF K te ρ ds) (k : P (.nx (ρ.set i (some (.own ds))))) : SD K B0 B (tAsg te (gName i)) ρ P := fun G H σ D I b q =>
  h G H σ I _ fun p vs G2 H2 s hp hg hl hd => q _ k G2 H2 _ s.g (I.setO s hp hg hl hd i) (b.setO I s hp i)
theorem sd_drop (h : ED K te ρ d) (k : P (.nx ρ)) : SD K B0 B (tDrop te) ρ P := fun G H σ D I b q =>
  h G H σ I _ fun v G2 H2 s hv => q _ k G2 H2 _ s.g (I.step s) (b.step s)
theorem sd_if {b : Bool} (h : TD K c ρ b) (h1 : b = true → SD K B0 B t ρ P) (h2 : b = false → SD K B0 B u ρ P) : SD K B0 B (tIfS c t u) ρ P := fun G H σ D I bb q =>
  h G H σ I _ fun G2 H2 s => by
    cases b with
    | true =>
      show t D σ H2
      exact h1 rfl G2 H2 σ D (I.step s) (bb.step s) fun o po => (q o po).mono s.g
    | false =>
      show u D σ H2
      exact h2 rfl G2 H2 σ D (I.step s) (bb.step s) fun o po => (q o po).mono s.g
theorem sd_ret (h : ED K te ρ d) (k : P (.rt d)) : SD K B0 B (tRet te) ρ P := fun G H σ D I b q =>
  h G H σ I _ fun v G2 H2 s hv => q _ k v G2 H2 (b.st.trans s) hv
theorem sd_retF (h : EF K te ρ ds) (k : P (.rf ds)) : SD K B0 B (tRet te) ρ P := fun G H σ D I b q =>
  h G H σ I _ fun p vs G2 H2 s hp hg hl hd => q _ k p vs G2 H2 (b.st.trans s) (fresh_back b.st.h hp) hg hl hd
/-- a list of one's own is handed back -/
theorem sd_retO (h : ρ[i]? = some (some (.own ds))) (k : P (.rf ds)) : SD K B0 B (tRet (tVar i)) ρ P := fun G H σ D I b q => by
  obtain ⟨p, vs, h1, h2, h3, h4⟩ := I.own i ds h
  exact ⟨_, h1, q _ k p vs G H b.st (b.own i ds p h h1) h3 h2 h4⟩
theorem sd_frz (h : ρ[i]? = some (some (.own ds))) (k : SD K B0 B t (ρ.set i (some (.d (.list ds)))) P) : SD K B0 B t ρ P := fun G H σ D I b q => by
  obtain ⟨G2, e, I2, b2⟩ := I.frz b h
  exact k G2 H σ D I2 b2 fun o po => (q o po).mono e
theorem sd_app (h : ρ[i]? = some (some (.own ds))) (he : ED K te ρ d) (hl : ds.length < 100000) (k : P (.nx (ρ.set i (some (.own (ds ++ [d])))))) : SD K B0 B (tDrop (tBM K "list" rAppend (tVar i) (tCons te tNil))) ρ P := fun G H σ D I b q => by
  obtain ⟨p, vs, h1, h2, h3, h4⟩ := I.own i ds h
  refine ⟨_, h1, .inl ⟨rfl, _, sq_of h2⟩, he G H σ I _ fun v G2 H2 s hv => ?_⟩
  have I2 := I.step s
  have b2 := b.step s
  obtain ⟨p', vs', g1, g2, g3, g4⟩ := I2.own i ds h
  rw [h1] at g1; cases g1
  refine ⟨p, vs', v, rfl, rfl, g2, by rw [g4.len]; exact sz_lt hl, ?_⟩
  exact q _ k G2 _ σ s.g (I2.mut h h1 (g4.app (.cons hv .nil))) (b2.mut I2 h h1)
theorem sd_rev (h : ρ[i]? = some (some (.own ds))) (k : P (.nx (ρ.set i (some (.own ds.reverse))))) : SD K B0 B (tDrop (tBM0 K "list" rReverse (tVar i))) ρ P := fun G H σ D I b q => by
  obtain ⟨p, vs, h1, h2, h3, h4⟩ := I.own i ds h
  refine ⟨_, h1, .inl ⟨rfl, _, sq_of h2⟩, p, vs, rfl, rfl, h2, ?_⟩
  exact q _ k G _ σ (Ex.refl G) (I.mut h h1 h4.rev) (b.mut I h h1)
/-- xs[k] = e -/
theorem sd_setI {tk : TE} {k : Int} {m : Nat} (h : ρ[i]? = some (some (.own ds))) (he : ED K te ρ d) (hk : ED K tk ρ (.int k)) (hm : ixN ds.length k = some m) (kk : P (.nx (ρ.set i (some (.own (ds.set m d)))))) : SD K B0 B (tAsg te (gSub (tVar i) tk rSetL)) ρ P := fun G H σ D I b q =>
  he G H σ I _ fun v G1 H1 s1 hv => by
    have I1 := I.step s1
    obtain ⟨p, vs, h1, h2, h3, h4⟩ := I1.own i ds h
    refine ⟨_, h1, hk G1 H1 σ I1 _ fun y G2 H2 s2 hy => ?_⟩
    cases dp_int hy
    have I2 := I1.step s2
    have b2 := (b.step s1).step s2
    obtain ⟨p', vs', g1, g2, g3, g4⟩ := I2.own i ds h
    rw [h1] at g1; cases g1
    refine ⟨p, vs', k, m, rfl, rfl, g2, by rw [g4.len]; exact hm, ?_⟩
    exact q _ kk G2 _ σ (s1.trans s2).g (I2.mut h h1 (g4.st m (dp_mono s2.g _ _ hv))) (b2.mut I2 h h1)
theorem sd_aug {f : Int → Int → Int} {a b : Int} (hx : ρ[i]? = some (some (.d (.int a)))) (h : ED K te ρ (.int b)) (k : P (.nx (ρ.set i (some (.d (.int (f a b))))))) : SD K B0 B (tAug i te (ipI f)) ρ P := fun G H σ D I bb q => by
  obtain ⟨v, h1, h2⟩ := I.dat i _ hx
  cases dp_int h2
  refine ⟨_, h1, h G H σ I _ fun y G2 H2 s hy => ?_⟩
  cases dp_int hy
  exact ⟨a, b, rfl, rfl, q _ k G2 H2 _ s.g ((I.step s).set (.int _) i) ((bb.step s).set i)⟩
theorem sd_par {j : Nat} {tr : TA} (h : AD K tr ρ [d, e]) (k : P (.nx ((ρ.set i (some (.d d))).set j (some (.d e))))) : SD K B0 B (tPar i j tr) ρ P := fun G H σ D I b q =>
  h G H σ I _ fun vs G2 H2 s hv => by
    cases hv with
    | cons h1 h2 =>
      cases h2 with
      | cons h2 h3 =>
        cases h3
        exact ⟨_, _, rfl, q _ k G2 H2 _ s.g (((I.step s).set h1 i).set h2 j) (((b.step s).set i).set j)⟩
theorem sd_raise {C : Addr} {E : XK} (h : ∀ G H, Step B0 B G H → E (.ref C) none H) : SD K B0 B (fun _ _ H => E (.ref C) none H) ρ P := fun G H σ D I b q => h G H b.st
/-- what a loop's turn leads to -/
def Turn (N : Rho → Prop) (P : Out → Prop) : Out → Prop
  | .nx ρ => N ρ
  | .ct ρ => N ρ
  | .bk ρ => P (.nx ρ)
  | .rt d => P (.rt d)
  | .rf ds => P (.rf ds)
theorem sd_while (W : Nat → Rho → Prop) (m0 : Nat) (h0 : W m0 ρ)
    (hs : ∀ m ρ', W m ρ' → ∃ b, TD K c ρ' b ∧ (b = true → SD K B0 B t ρ' (Turn (fun ρ2 => ∃ m', m' < m ∧ W m' ρ2) P)) ∧ (b = false → P (.nx ρ'))) : SD K B0 B (tWhile c t) ρ P := fun G0 H0 σ0 D I0 b0 q => by
  refine ⟨fun m σ H => ∃ G ρ', Ex G0 G ∧ Env K G H σ ρ' ∧ Base B0 B G H σ ρ' ∧ W m ρ', ⟨m0, G0, ρ, Ex.refl G0, I0, b0, h0⟩, ?_⟩
  rintro m σ H ⟨G, ρ', eg, I, bb, w⟩
  obtain ⟨b, h1, h2, h3⟩ := hs m ρ' w
  refine h1 G H σ I _ fun G2 H2 s => ?_
  cases b with
  | true =>
    refine ⟨fun σ3 H3 => ∃ G3 ρ3, Ex G0 G3 ∧ Env K G3 H3 σ3 ρ3 ∧ Base B0 B G3 H3 σ3 ρ3 ∧ ∃ m', m' < m ∧ W m' ρ3, fun σ3 H3 ⟨G3, ρ3, e3, I3, b3, m', lt, w3⟩ => ⟨m', lt, G3, ρ3, e3, I3, b3, w3⟩, ?_⟩
    have e02 : Ex G0 G2 := eg.trans s.g
    refine h2 rfl G2 H2 σ _ (I.step s) (bb.step s) fun o po => ?_
    cases o with
    | nx ρ3 => exact fun G3 H3 σ3 e3 I3 b3 => ⟨G3, ρ3, e02.trans e3, I3, b3, po⟩
    | ct ρ3 => exact fun G3 H3 σ3 e3 I3 b3 => ⟨G3, ρ3, e02.trans e3, I3, b3, po⟩
    | bk ρ3 => exact fun G3 H3 σ3 e3 I3 b3 => q _ po G3 H3 σ3 (e02.trans e3) I3 b3
    | rt d => exact q _ po
    | rf ds => exact q _ po
  | false => exact q _ (h3 rfl) G2 H2 σ (eg.trans s.g) (I.step s) (bb.step s)
end

/-! ### what is walked -/
def Its (K : PySem.W.Frag) (J : It) (G : Hp) (ds : List PyData) : Prop :=
  (∀ i G' H', Ex G G' → Ex G' H' → ds.length ≤ i → J.stop i H') ∧
  (∀ i d G' H', Ex G G' → Ex G' H' → ds[i]? = some d → J.go i H' ∧ ∀ x H2, J.yld i H' x H2 → ∃ G2, Step G' H' G2 H2 ∧ Dp K G2 x d)
def ID (K : PySem.W.Frag) (wi : TI) (ρ : Rho) (ds : List PyData) : Prop := ∀ G H σ, Env K G H σ ρ → ∀ R : It → Hp → Prop, (∀ J G2 H2, Step G H G2 H2 → Its K J G2 ds → R J H2) → wi σ H R
/-- a list or a tuple -/
def iSeq (K : PySem.W.Frag) (tl : TE) : TI := fun σ H R => tl σ H fun x H1 => ∃ a, x = .ref a ∧ (((∃ xs, SqL K H1 a xs) ∧ R (Itl K a) H1) ∨ ((∃ xs, SqT K H1 a xs) ∧ R (Itt K a) H1))
theorem pi_seq {X : Cx} {tg l : Expr} {tl : TE} (hl : PE X l tl) : PI X tg l (iSeq X.K tl) := by
  refine ⟨fun pins s σ H R I h => ?_⟩
  refine thn (hl.run pins s σ H _ I h) fun v s1 ⟨x, H1, I1, r1, q1⟩ => ?_
  obtain ⟨a, e, q1⟩ := q1
  subst e
  cases r1
  rcases q1 with ⟨⟨xs, hq⟩, q⟩ | ⟨⟨xs, hq⟩, q⟩
  · obtain ⟨its, rv, p, hz⟩ := I1.list hq
    refine wpAny_pyIter_list p.isList ?_
    refine ⟨s1.heap.objs.size, [s1.heap.objs.size], _, _, H1, rfl, I1.kept (t' := s1.toks) fun b o e => Heap.get?_push_of_some _ e, turn_list a _, ⟨_, Heap.get?_push_size _ rfl, rfl, rfl⟩, fun b hb => ?_, q⟩
    have e : b = s1.heap.objs.size := by simpa using hb
    subst e
    exact I1.fpOk (Nat.le_refl _) (I1.hok.fresh (Nat.le_refl _))
  · obtain ⟨its, rv, p, hz⟩ := I1.tuple hq
    refine wpAny_pyIter_tuple (show s1.heap.IsTuple a its.toArray from p) ?_
    refine ⟨s1.heap.objs.size, [s1.heap.objs.size], _, _, H1, rfl, I1.kept (t' := s1.toks) fun b o e => Heap.get?_push_of_some _ e, turn_tuple a _, ⟨_, Heap.get?_push_size _ rfl, rfl, rfl⟩, fun b hb => ?_, q⟩
    have e : b = s1.heap.objs.size := by simpa using hb
    subst e
    exact I1.fpOk (Nat.le_refl _) (I1.hok.fresh (Nat.le_refl _))
section
variable {K : PySem.W.Frag} {B0 B : Hp} {ρ : Rho} {te : TE} {ta : TA} {c tt : TT} {t u : TS} {d e : PyData} {ds es : List PyData} {P R : Out → Prop} {i j : Nat} {wi : TI}
theorem its_l {G : Hp} {a : Addr} {xs : List V} (h : SqL K G a xs) (hd : DpAll K G xs ds) : Its K (Itl K a) G ds := by
  refine ⟨fun i G' H' e1 e2 hi => ⟨xs, ex_l (e1.trans e2) h, by rw [hd.len]; exact hi⟩, fun i d G' H' e1 e2 hi => ?_⟩
  obtain ⟨v, h1, h2⟩ := hd.get hi
  refine ⟨⟨xs, v, ex_l (e1.trans e2) h, h1⟩, fun x H2 hy => ?_⟩
  obtain ⟨rfl, hy⟩ := hy
  have := hy xs (ex_l (e1.trans e2) h)
  rw [h1] at this; cases this
  exact ⟨G', Step.refl e2, dp_mono e1 _ _ h2⟩
theorem its_t {G : Hp} {a : Addr} {xs : List V} (h : SqT K G a xs) (hd : DpAll K G xs ds) : Its K (Itt K a) G ds := by
  refine ⟨fun i G' H' e1 e2 hi => ⟨xs, ex_t (e1.trans e2) h, by rw [hd.len]; exact hi⟩, fun i d G' H' e1 e2 hi => ?_⟩
  obtain ⟨v, h1, h2⟩ := hd.get hi
  refine ⟨⟨xs, v, ex_t (e1.trans e2) h, h1⟩, fun x H2 hy => ?_⟩
  obtain ⟨rfl, hy⟩ := hy
  have := hy xs (ex_t (e1.trans e2) h)
  rw [h1] at this; cases this
  exact ⟨G', Step.refl e2, dp_mono e1 _ _ h2⟩
theorem id_seq (h : ED K te ρ d) (s : SeqD d ds) : ID K (iSeq K te) ρ ds := fun G H σ I R q => h G H σ I _ fun v G2 H2 st hv => by
  obtain ⟨a, xs, rfl, hs, hd⟩ := s.of hv
  refine ⟨a, rfl, ?_⟩
  rcases hs with hs | hs
  · exact .inl ⟨⟨xs, ex_l st.gh hs⟩, q _ G2 H2 st (its_l hs hd)⟩
  · exact .inr ⟨⟨xs, ex_t st.gh hs⟩, q _ G2 H2 st (its_t hs hd)⟩
theorem id_revA (h : ED K te ρ d) (s : SeqD d ds) : ID K (RT.iRevA K te) ρ ds.reverse := fun G H σ I R q => h G H σ I _ fun v G2 H2 st hv => by
  obtain ⟨a, xs, rfl, hs, hd⟩ := s.of hv
  have ln := hd.len
  have back : ∀ i d, ds.reverse[i]? = some d → i < xs.length ∧ ∃ v, xs[xs.length - 1 - i]? = some v ∧ Dp K G2 v d := fun i d hi => by
    have hlt : i < ds.length := by have := (List.getElem?_eq_some_iff.mp hi).1; rwa [List.length_reverse] at this
    rw [List.getElem?_reverse hlt] at hi
    obtain ⟨v, h1, h2⟩ := hd.get hi
    exact ⟨by omega, v, by rw [ln]; exact h1, h2⟩
  refine ⟨a, xs, rfl, ?_⟩
  rcases hs with hs | hs
  · refine .inl ⟨ex_l st.gh hs, q _ G2 H2 st ⟨fun i G' H' e1 e2 hi => ?_, fun i d G' H' e1 e2 hi => ?_⟩⟩
    · rw [List.length_reverse] at hi
      exact (by show xs.length ≤ i; omega)
    · obtain ⟨lt, v, h1, h2⟩ := back i d hi
      refine ⟨⟨lt, xs, v, ex_l (e1.trans e2) hs, h1⟩, fun x H3 hy => ?_⟩
      obtain ⟨rfl, hy⟩ := hy
      have := hy xs (ex_l (e1.trans e2) hs)
      rw [h1] at this; cases this
      exact ⟨G', Step.refl e2, dp_mono e1 _ _ h2⟩
  · refine .inr ⟨ex_t st.gh hs, q _ G2 H2 st ⟨fun i G' H' e1 e2 hi => ?_, fun i d G' H' e1 e2 hi => ?_⟩⟩
    · rw [List.length_reverse] at hi
      exact (by show xs.length ≤ i; omega)
    · obtain ⟨lt, v, h1, h2⟩ := back i d hi
      refine ⟨⟨lt, xs, v, ex_t (e1.trans e2) hs, h1⟩, fun x H3 hy => ?_⟩
      obtain ⟨rfl, hy⟩ := hy
      have := hy xs (ex_t (e1.trans e2) hs)
      rw [h1] at this; cases this
      exact ⟨G', Step.refl e2, dp_mono e1 _ _ h2⟩
def intsD (lo : Int) (n : Nat) : List PyData := (List.range n).map fun k => .int (lo + (k : Nat))
theorem its_r {G : Hp} (lo : Int) (n : Nat) : Its K (Itr lo n) G (intsD lo n) := by
  refine ⟨fun i G' H' e1 e2 hi => ?_, fun i d G' H' e1 e2 hi => ?_⟩
  · unfold intsD at hi
    rw [List.length_map, List.length_range] at hi
    exact hi
  · have hlt : i < n := by have := (List.getElem?_eq_some_iff.mp hi).1; unfold intsD at this; rwa [List.length_map, List.length_range] at this
    refine ⟨hlt, fun x H2 hy => ?_⟩
    obtain ⟨rfl, rfl⟩ := hy
    unfold intsD at hi
    rw [List.getElem?_map, List.getElem?_range hlt] at hi
    cases hi
    exact ⟨G', Step.refl e2, .int _⟩
theorem id_rng1 {n : Int} (h : AD K ta ρ [.int n]) (h1 : n < 2 ^ 62) (h0 : -(2 ^ 62) ≤ n) : ID K (iRng1 ta) ρ (intsD 0 n.toNat) := fun G H σ I R q => h G H σ I _ fun vs G2 H2 s hv => by
  cases hv with
  | cons a b =>
    cases b
    cases dp_int a
    exact ⟨n, rfl, h0, h1, q _ G2 H2 s (its_r 0 _)⟩
theorem id_rng2 {m n : Int} (h : AD K ta ρ [.int m, .int n]) (h1 : -(2 ^ 62) ≤ m ∧ m < 2 ^ 62 ∧ -(2 ^ 62) ≤ n ∧ n < 2 ^ 62) : ID K (iRng2 ta) ρ (intsD m (n - m).toNat) := fun G H σ I R q => h G H σ I _ fun vs G2 H2 s hv => by
  cases hv with
  | cons a b =>
    cases b with
    | cons b c =>
      cases c
      cases dp_int a; cases dp_int b
      exact ⟨m, n, rfl, h1, q _ G2 H2 s (its_r m _)⟩
/-- zip of two lists, of two tuples -/
def pairs (ds es : List PyData) : List PyData := (List.zip ds es).map fun p => .tuple [p.1, p.2]
theorem pairs_get {k : Nat} {d : PyData} (h : (pairs ds es)[k]? = some d) : ∃ a b, d = .tuple [a, b] ∧ ds[k]? = some a ∧ es[k]? = some b := by
  unfold pairs at h
  rw [List.getElem?_map] at h
  cases q : (List.zip ds es)[k]? with
  | none => rw [q] at h; cases h
  | some p =>
    rw [q] at h; cases h
    obtain ⟨a, b⟩ := p
    rw [List.getElem?_zip_eq_some] at q
    exact ⟨a, b, rfl, q.1, q.2⟩
theorem pairs_len : (pairs ds es).length = min ds.length es.length := by unfold pairs; rw [List.length_map, List.length_zip]
theorem its_z {G : Hp} {a b : Addr} {xs ys : List V} (h : SqL K G a xs) (h2 : SqL K G b ys) (hd : DpAll K G xs ds) (he : DpAll K G ys es) : Its K (Itz K a b) G (pairs ds es) := by
  refine ⟨fun i G' H' e1 e2 hi => ⟨xs, ys, ex_l (e1.trans e2) h, ex_l (e1.trans e2) h2, ?_⟩, fun i d G' H' e1 e2 hi => ?_⟩
  · rw [pairs_len] at hi
    rw [hd.len, he.len]
    omega
  · obtain ⟨x, y, rfl, g1, g2⟩ := pairs_get hi
    obtain ⟨v, p1, p2⟩ := hd.get g1
    obtain ⟨w, q1, q2⟩ := he.get g2
    refine ⟨⟨xs, ys, v, w, ex_l (e1.trans e2) h, ex_l (e1.trans e2) h2, p1, q1⟩, fun z H2 hy => ?_⟩
    obtain ⟨T, x', y', rfl, hT, rfl, hx, hy⟩ := hy
    have r1 := hx xs (ex_l (e1.trans e2) h)
    have r2 := hy ys (ex_l (e1.trans e2) h2)
    rw [p1] at r1; rw [q1] at r2
    cases r1; cases r2
    have en : Ex G' (upd G' T (.tup [v, w])) := Ex.new (fresh_back e2 hT)
    exact ⟨upd G' T (.tup [v, w]), Step.alloc e2 hT, .tup (st_of upd_same) (.cons (dp_mono (e1.trans en) _ _ p2) (.cons (dp_mono (e1.trans en) _ _ q2) .nil))⟩
theorem its_zT {G : Hp} {a b : Addr} {xs ys : List V} (h : SqT K G a xs) (h2 : SqT K G b ys) (hd : DpAll K G xs ds) (he : DpAll K G ys es) : Its K (RZ.ItzT K a b) G (pairs ds es) := by
  refine ⟨fun i G' H' e1 e2 hi => ⟨xs, ys, ex_t (e1.trans e2) h, ex_t (e1.trans e2) h2, ?_⟩, fun i d G' H' e1 e2 hi => ?_⟩
  · rw [pairs_len] at hi
    rw [hd.len, he.len]
    omega
  · obtain ⟨x, y, rfl, g1, g2⟩ := pairs_get hi
    obtain ⟨v, p1, p2⟩ := hd.get g1
    obtain ⟨w, q1, q2⟩ := he.get g2
    refine ⟨⟨xs, ys, v, w, ex_t (e1.trans e2) h, ex_t (e1.trans e2) h2, p1, q1⟩, fun z H2 hy => ?_⟩
    obtain ⟨T, x', y', rfl, hT, rfl, hx, hy⟩ := hy
    have r1 := hx xs (ex_t (e1.trans e2) h)
    have r2 := hy ys (ex_t (e1.trans e2) h2)
    rw [p1] at r1; rw [q1] at r2
    cases r1; cases r2
    have en : Ex G' (upd G' T (.tup [v, w])) := Ex.new (fresh_back e2 hT)
    exact ⟨upd G' T (.tup [v, w]), Step.alloc e2 hT, .tup (st_of upd_same) (.cons (dp_mono (e1.trans en) _ _ p2) (.cons (dp_mono (e1.trans en) _ _ q2) .nil))⟩
theorem id_zip (h : AD K ta ρ [d, e]) (s : (d = .list ds ∧ e = .list es) ∨ (d = .tuple ds ∧ e = .tuple es)) : ID K (RZ.iZipA K ta) ρ (pairs ds es) := fun G H σ I R q => h G H σ I _ fun vs G2 H2 st hv => by
  cases hv with
  | cons h1 h2 =>
    cases h2 with
    | cons h2 h3 =>
      cases h3
      rcases s with ⟨rfl, rfl⟩ | ⟨rfl, rfl⟩
      · cases h1 with
        | lst a1 a2 =>
          cases h2 with
          | lst b1 b2 => exact ⟨_, _, _, _, rfl, .inl ⟨ex_l st.gh a1, ex_l st.gh b1, q _ G2 H2 st (its_z a1 b1 a2 b2)⟩⟩
      · cases h1 with
        | tup a1 a2 =>
          cases h2 with
          | tup b1 b2 => exact ⟨_, _, _, _, rfl, .inr ⟨ex_t st.gh a1, ex_t st.gh b1, q _ G2 H2 st (its_zT a1 b1 a2 b2)⟩⟩

/-! targets -/
def OwnSub (σ : L2.St) (ρ : Rho) (σ2 : L2.St) (ρ2 : Rho) : Prop := ∀ (i : Nat) xs p, ρ2[i]? = some (some (.own xs)) → σ2[i]? = some (some (.ref p)) → ρ[i]? = some (some (.own xs)) ∧ σ[i]? = some (some (.ref p))
def GD (K : PySem.W.Frag) (g : TG) (d : PyData) (ρ ρ2 : Rho) : Prop := ∀ G H σ v, Env K G H σ ρ → Dp K G v d → ∀ Q : L2.St → Hp → Prop, (∀ σ2, Env K G H σ2 ρ2 → OwnSub σ ρ σ2 ρ2 → Q σ2 H) → g v σ H Q
theorem ownSub_set {σ : L2.St} {v : V} : OwnSub σ ρ (σ.set i (some v)) (ρ.set i (some (.d d))) := fun k xs p h1 h2 => by
  rcases getset h1 with ⟨rfl, e⟩ | ⟨ne, h1'⟩
  · cases e
  · rw [List.getElem?_set_ne (Ne.symm ne)] at h2
    exact ⟨h1', h2⟩
theorem OwnSub.trans {σ σ2 σ3 : L2.St} {ρ2 ρ3 : Rho} (a : OwnSub σ ρ σ2 ρ2) (b : OwnSub σ2 ρ2 σ3 ρ3) : OwnSub σ ρ σ3 ρ3 := fun i xs p h1 h2 =>
  let ⟨x, y⟩ := b i xs p h1 h2
  a i xs p x y
theorem Base.sub {G H : Hp} {σ σ2 : L2.St} {ρ2 : Rho} (b : Base B0 B G H σ ρ) (s : OwnSub σ ρ σ2 ρ2) : Base B0 B G H σ2 ρ2 := ⟨b.st, fun i xs p h1 h2 => let ⟨x, y⟩ := s i xs p h1 h2; b.own i xs p x y⟩
theorem gd_name : GD K (gName i) d ρ (ρ.set i (some (.d d))) := fun G H σ v I hv Q q => q _ (I.set hv i) ownSub_set
theorem gd_pair : GD K (gTup K 2 (gCons (gName i) (gCons (gName j) gNil))) (.tuple [d, e]) ρ ((ρ.set i (some (.d d))).set j (some (.d e))) := fun G H σ v I hv Q q => by
  cases hv with
  | tup h1 h2 =>
    cases h2 with
    | cons h2 h3 =>
      cases h3 with
      | cons h3 h4 =>
        cases h4
        exact ⟨_, _, rfl, ex_t I.gh h1, rfl, _, _, rfl, _, _, rfl, rfl, q _ ((I.set h2 i).set h3 j) (ownSub_set.trans ownSub_set)⟩
theorem sd_asg {g : TG} {ρ2 : Rho} (h : ED K te ρ d) (hg : GD K g d ρ ρ2) (k : P (.nx ρ2)) : SD K B0 B (tAsg te g) ρ P := fun G H σ D I b q =>
  h G H σ I _ fun v G2 H2 s hv => hg G2 H2 σ v (I.step s) hv _ fun σ2 I2 os => q _ k G2 H2 σ2 s.g I2 ((b.step s).sub os)
/-- for -/
theorem sd_for {g : TG} (h : ID K wi ρ ds) (Inv : Nat → Rho → Prop) (h0 : Inv 0 ρ)
    (hs : ∀ i d ρ', ds[i]? = some d → Inv i ρ' → ∃ ρ2, GD K g d ρ' ρ2 ∧ SD K B0 B t ρ2 (Turn (Inv (i + 1)) P)) (hd : ∀ ρ', Inv ds.length ρ' → P (.nx ρ')) : SD K B0 B (tFor wi g t) ρ P := fun G0 H0 σ0 D I0 b0 q =>
  h G0 H0 σ0 I0 _ fun J G1 H1 s1 its => by
    refine ⟨fun i m σ H => m = ds.length - i ∧ i ≤ ds.length ∧ ∃ G ρ', Ex G1 G ∧ Env K G H σ ρ' ∧ Base B0 B G H σ ρ' ∧ Inv i ρ', ⟨ds.length, rfl, Nat.zero_le _, G1, ρ, Ex.refl G1, I0.step s1, b0.step s1, h0⟩, ?_⟩
    rintro i m σ H ⟨rfl, hi, G, ρ', eg, I, bb, w⟩
    by_cases hlt : i < ds.length
    · have hx : ds[i]? = some ds[i] := List.getElem?_eq_getElem hlt
      obtain ⟨go, yl⟩ := its.2 i _ G H eg I.gh hx
      refine .inr ⟨go, fun σ3 H3 => ∃ G3 ρ3, Ex G1 G3 ∧ Env K G3 H3 σ3 ρ3 ∧ Base B0 B G3 H3 σ3 ρ3 ∧ Inv (i + 1) ρ3, fun σ3 H3 h3 => ⟨ds.length - (i + 1), by omega, rfl, hlt, h3⟩, fun x H' hy => ?_⟩
      obtain ⟨G2, s2, hv⟩ := yl x H' hy
      obtain ⟨ρ2, hg, body⟩ := hs i _ ρ' hx w
      have e12 : Ex G1 G2 := eg.trans s2.g
      refine hg G2 H' σ x (I.step s2) hv _ fun σ2 I2 os => ?_
      refine body G2 H' σ2 _ I2 ((bb.step s2).sub os) fun o po => ?_
      cases o with
      | nx ρ3 => exact fun G3 H3 σ3 e3 I3 b3 => ⟨G3, ρ3, e12.trans e3, I3, b3, po⟩
      | ct ρ3 => exact fun G3 H3 σ3 e3 I3 b3 => ⟨G3, ρ3, e12.trans e3, I3, b3, po⟩
      | bk ρ3 => exact fun G3 H3 σ3 e3 I3 b3 => q _ po G3 H3 σ3 ((s1.g.trans e12).trans e3) I3 b3
      | rt d => exact q _ po
      | rf ds => exact q _ po
    · have e : i = ds.length := by omega
      subst e
      exact .inl ⟨its.1 _ G H eg I.gh (Nat.le_refl _), q _ (hd ρ' w) G H σ (s1.g.trans eg) I bb⟩
/-- comprehensions -/
def wipeR (ρ : Rho) : List Nat → Rho
  | [] => ρ
  | v :: vs => (wipeR ρ vs).set v none
theorem Env.wipe1 {G H : Hp} {σ : L2.St} (I : Env K G H σ ρ) (i : Nat) : Env K G H (σ.set i none) (ρ.set i none) := by
  refine ⟨I.gh, by rw [List.length_set, List.length_set]; exact I.len, fun j x h => ?_, fun j xs h => ?_, fun j x h => by
    rcases getset h with ⟨rfl, e⟩ | ⟨ne, h'⟩
    · cases e
    · rw [List.getElem?_set_ne (Ne.symm ne)]; exact I.raw j x h', fun j k xs ys q hjk h1 h2 h3 => ?_⟩
  · rcases getset h with ⟨rfl, e⟩ | ⟨ne, h'⟩
    · cases e
    · rw [List.getElem?_set_ne (Ne.symm ne)]; exact I.dat j x h'
  · rcases getset h with ⟨rfl, e⟩ | ⟨ne, h'⟩
    · cases e
    · rw [List.getElem?_set_ne (Ne.symm ne)]; exact I.own j xs h'
  · rcases getset h1 with ⟨rfl, e⟩ | ⟨ne, h1'⟩
    · cases e
    · rcases getset h2 with ⟨rfl, e⟩ | ⟨ne2, h2'⟩
      · cases e
      · rw [List.getElem?_set_ne (Ne.symm ne)] at h3
        rw [List.getElem?_set_ne (Ne.symm ne2)]
        exact I.sep j k xs ys q hjk h1' h2' h3
theorem Env.wipe {G H : Hp} {σ : L2.St} (I : Env K G H σ ρ) : ∀ vs : List Nat, Env K G H (wipe σ vs) (wipeR ρ vs)
  | [] => I
  | v :: vs => (I.wipe vs).wipe1 v
/-- a target within a comprehension -/
def GC (K : PySem.W.Frag) (g : TG) (d : PyData) (vs : List Nat) (ρ ρ2 : Rho) : Prop := ∀ G H σ v, Env K G H σ ρ → Dp K G v d → ∀ Q : L2.St → Hp → Prop, (∀ σ2, Env K G H σ2 ρ2 → wipe σ2 vs = wipe σ vs → Q σ2 H) → g v (wipe σ vs) H Q
theorem gc_name : GC K (gName i) d [i] ρ ((wipeR ρ [i]).set i (some (.d d))) := fun G H σ v I hv Q q => q _ ((I.wipe [i]).set hv i) (by simp [wipe, List.set_set])
theorem gc_pair (hij : i ≠ j) : GC K (gTup K 2 (gCons (gName i) (gCons (gName j) gNil))) (.tuple [d, e]) [i, j] ρ (((wipeR ρ [i, j]).set i (some (.d d))).set j (some (.d e))) := fun G H σ v I hv Q q => by
  have W := I.wipe [i, j]
  cases hv with
  | tup h1 h2 =>
    cases h2 with
    | cons h2 h3 =>
      cases h3 with
      | cons h3 h4 =>
        cases h4
        refine ⟨_, _, rfl, ex_t I.gh h1, rfl, _, _, rfl, _, _, rfl, rfl, q _ ((W.set h2 i).set h3 j) ?_⟩
        simp only [wipe]
        apply List.ext_getElem?
        intro n
        by_cases a : n = i
        · subst a
          simp [List.getElem?_set, hij, Ne.symm hij]
        · by_cases b : n = j
          · subst b
            simp [List.getElem?_set, hij, Ne.symm hij]
          · simp [List.getElem?_set, Ne.symm a, Ne.symm b]
theorem ef_lcG {g : TG} {vs : List Nat} (b : Nat → Bool) (f : Nat → PyData) (h : ID K wi ρ ds) (hz : ds.length ≤ 100000)
    (hs : ∀ i d, ds[i]? = some d → ∃ ρ2, GC K g d vs ρ ρ2 ∧ TD K tt ρ2 (b i) ∧ (b i = true → ED K te ρ2 (f i))) : EF K (tLc wi g tt te vs) ρ (((List.range ds.length).filter b).map f) := fun G0 H0 σ0 I0 Q q =>
  h G0 H0 σ0 I0 _ fun J G1 H1 s1 its D hD => by
    let done (i : Nat) : List PyData := ((List.range i).filter b).map f
    have dl : ∀ i, (done i).length ≤ i := fun i => by
      show (((List.range i).filter b).map f).length ≤ i
      rw [List.length_map]
      have := List.length_filter_le b (List.range i)
      rwa [List.length_range] at this
    have I1 := I0.step s1
    refine ⟨fun i m H => m = ds.length - i ∧ i ≤ ds.length ∧ ∃ G acc, Step G1 H1 G H ∧ G D = none ∧ H D = some (.lst acc) ∧ DpAll K G acc (done i),
      ⟨ds.length, rfl, Nat.zero_le _, G1, [], Step.allocO s1.gh hD, fresh_back s1.gh hD, upd_same, .nil⟩, ?_⟩
    rintro i m H ⟨rfl, hi, G, acc, st, gD, hDl, hacc⟩
    by_cases hlt : i < ds.length
    · have hx : ds[i]? = some ds[i] := List.getElem?_eq_getElem hlt
      obtain ⟨go, yl⟩ := its.2 i _ G H st.g st.gh hx
      refine .inr ⟨go, fun H3 => ∃ G3 acc3, Step G1 H1 G3 H3 ∧ G3 D = none ∧ H3 D = some (.lst acc3) ∧ DpAll K G3 acc3 (done (i + 1)), fun H3 h3 => ⟨ds.length - (i + 1), by omega, rfl, hlt, h3⟩, fun x H' hy => ?_⟩
      obtain ⟨G2, s2, hv⟩ := yl x H' hy
      obtain ⟨ρ2, hg, ht, he⟩ := hs i _ hx
      have I2 : Env K G2 H' σ0 ρ := (I1.step st).step s2
      have noD : ∀ {G' H'' : Hp}, Step G H G' H'' → G' D = none := fun {G' H''} s => by
        by_cases z : G' D = none
        · exact z
        · have := s.new D z gD
          rw [hDl] at this; cases this
      refine hg G2 H' σ0 x I2 hv _ fun σ2 I3 hw => ⟨hw, ht G2 H' σ2 I3 _ fun G4 H4 s4 => ?_⟩
      have sA : Step G H G4 H4 := s2.trans s4
      cases hb : b i with
      | true =>
        show te σ2 H4 _
        refine he hb G4 H4 σ2 (I3.step s4) _ fun y G5 H5 s5 hy5 => ?_
        have sB := sA.trans s5
        have nD := noD sB
        refine ⟨acc, sB.h _ _ hDl, by rw [hacc.len]; exact sz_lt (Nat.lt_of_le_of_lt (dl i) (by omega)), G5, acc ++ [y], (st.trans sB).mutO hD nD, nD, upd_same, ?_⟩
        have ed : done (i + 1) = done i ++ [f i] := by
          show ((List.range (i + 1)).filter b).map f = _
          rw [List.range_succ, List.filter_append, List.map_append, List.filter_cons, if_pos hb]; rfl
        rw [ed]
        exact (dpa_mono sB.g _ _ hacc).app (.cons hy5 .nil)
      | false =>
        show ∃ G3 acc3, _
        have ed : done (i + 1) = done i := by
          show ((List.range (i + 1)).filter b).map f = _
          rw [List.range_succ, List.filter_append, List.map_append, List.filter_cons, if_neg (by rw [hb]; decide)]
          show _ ++ [] = _
          rw [List.append_nil]
        refine ⟨G4, acc, st.trans sA, noD sA, sA.h _ _ hDl, ?_⟩
        rw [ed]
        exact dpa_mono sA.g _ _ hacc
    · have e : i = ds.length := by omega
      subst e
      exact .inl ⟨its.1 _ G H st.g st.gh (Nat.le_refl _), q D acc G H (s1.trans st) (fresh_back s1.h hD) gD hDl hacc⟩
theorem ef_lc {g : TG} {vs : List Nat} (f : Nat → PyData) (h : ID K wi ρ ds) (hz : ds.length ≤ 100000)
    (hs : ∀ i d, ds[i]? = some d → ∃ ρ2, GC K g d vs ρ ρ2 ∧ ED K te ρ2 (f i)) : EF K (tLc wi g tYes te vs) ρ ((List.range ds.length).map f) := by
  have := ef_lcG (tt := tYes) (b := fun _ => true) f h hz (g := g) (vs := vs) (te := te) fun i d hi => by
    obtain ⟨ρ2, h1, h2⟩ := hs i d hi
    exact ⟨ρ2, h1, td_yes, fun _ => h2⟩
  rwa [List.filter_eq_self.mpr (fun _ _ => rfl)] at this
end
end Rt

namespace Rt
open PySem PySem.Spec PyProof.Rows L2 Evl

/-! ### operators of my own -/
def CDivQ (i j : Int) : Prop := j ≠ 0 ∧ Builtin.divisionGoesByPylong i j = false
theorem op_fdivP {X : Cx} : OpR X (binaryOp .FloorDiv) (rI CDivQ fun i j => .int (i.fdiv j)) := opI fun _ _ _ _ _ _ _ hc q => PyProof.Rows.floordiv_int hc.1 q (.inl hc.2)
theorem cdivQ_of {i j : Int} {n : Nat} (h : j ≠ 0) (hb : j.natAbs < 2 ^ n) (h0 : 0 < n) (h9 : n ≤ 9000) : CDivQ i j := ⟨h, PyProof.noPylong_of_log2 (Nat.lt_of_lt_of_le (PySem.Flt.log2_lt_of h0 hb) h9)⟩
theorem cmulX_of {i j : Int} {a b : Nat} (ha : i.natAbs < 2 ^ a) (hb : j.natAbs < 2 ^ b) (h0 : 0 < a) (h1 : 0 < b) (h : a + b ≤ 134217728) : CMulX i j := by
  have x := PySem.Flt.log2_lt_of h0 ha
  have y := PySem.Flt.log2_lt_of h1 hb
  have bb : ∀ x : Int, Builtin.Int.intBits x ≤ x.natAbs.log2 + 1 := fun x => by
    unfold Builtin.Int.intBits
    split <;> omega
  have p := bb i
  have q := bb j
  unfold CMulX
  omega
theorem _root_.L2.Room.units65 {k : Nat} {A : Around} (r : Room k A) : A.units + 65 < cLine := by have := r.un; omega
section
variable {K : PySem.W.Frag} {ρ : Rho} {ta tb te : TE} {d e : PyData} {ds es : List PyData} {i j : Int} {n : Nat}
theorem ed_fdivP (ha : ED K ta ρ (.int i)) (hb : ED K tb ρ (.int j)) (hc : CDivQ i j) : ED K (tOp (rI CDivQ fun i j => .int (i.fdiv j)) ta tb) ρ (.int (i.fdiv j)) := ed_I (g := fun i j => i.fdiv j) ha hb hc
def rInt1 : List V → Hp → VK → Prop := fun xs H Q => (∃ i, xs = [.int i] ∧ Q (.int i) H) ∨ ∃ k, xs = [.bl k] ∧ Q (.int (if k then 1 else 0)) H
theorem ed_int1B {b : Bool} (ha : ED K ta ρ (.bool b)) : ED K (tCB rInt1 (tCons ta tNil)) ρ (.int (if b then 1 else 0)) := fun G H σ I Q q => ha G H σ I _ fun v G2 H2 s hv => by
  cases dp_bl hv
  exact .inr ⟨b, rfl, q _ G2 H2 s (.int _)⟩
theorem ed_int1I (ha : ED K ta ρ (.int i)) : ED K (tCB rInt1 (tCons ta tNil)) ρ (.int i) := fun G H σ I Q q => ha G H σ I _ fun v G2 H2 s hv => by
  cases dp_int hv
  exact .inl ⟨i, rfl, q _ G2 H2 s (.int _)⟩
/-- in, not in over data -/
theorem ed_inD (ha : ED K ta ρ d) (hb : ED K tb ρ (.list ds)) (h1 : SeqAt.shaped d = true) (h2 : SeqAt.shaped (.list ds) = true) : ED K (tOp (rInD K) ta tb) ρ (.bool (ds.any fun z => PyData.eqv z d)) :=
  ed_op ha hb fun x y G H ex hx hy Q q => ⟨d, ds, dp_mono ex _ _ hx, dp_mono ex _ _ hy, h1, h2, q _ G H (Step.refl ex) (.bl _)⟩
theorem ed_notInD (ha : ED K ta ρ d) (hb : ED K tb ρ (.list ds)) (h1 : SeqAt.shaped d = true) (h2 : SeqAt.shaped (.list ds) = true) : ED K (tOp (rNotInD K) ta tb) ρ (.bool (!ds.any fun z => PyData.eqv z d)) :=
  ed_op ha hb fun x y G H ex hx hy Q q => ⟨d, ds, dp_mono ex _ _ hx, dp_mono ex _ _ hy, h1, h2, q _ G H (Step.refl ex) (.bl _)⟩
/-- over a list of one's own -/
theorem ed_notInO {k : Nat} (ho : ρ[k]? = some (some (.own ds))) (ha : ED K ta ρ d) (h1 : SeqAt.shaped d = true) (h2 : SeqAt.shaped (.list ds) = true) : ED K (tOp (rNotInD K) ta (tVar k)) ρ (.bool (!ds.any fun z => PyData.eqv z d)) := fun G H σ I Q q =>
  ha G H σ I _ fun x G2 H2 s hx => by
    obtain ⟨p, vs, g1, g2, g3, g4⟩ := (I.step s).own k ds ho
    exact ⟨_, g1, d, ds, dp_mono s.gh _ _ hx, .lst (sq_of g2) (dpa_mono s.gh _ _ g4), h1, h2, q _ G2 H2 s (.bl _)⟩
end

/-! ### a def that is called -/
structure Cal (P : Program) (w : World) (K : PySem.W.Frag) (mg : Str → Option Value) (base : Heap) (CX : CXT) (k : Nat) (x : Str) (ps : List Str) (sp : Sp) : Prop where
  ex : ∃ f fd, FnOk P w K mg base CX k f fd ps sp ∧ mg x = some (.ref f) ∧ PySem.W.keepIn K (.ref f) = true ∧ Binds K fd ps []
theorem pe_cal0 {X : Cx} {k : Nat} {x : Str} {ps : List Str} {sp : Sp} {e : Expr} {es : List Expr} {t : TA} {p pos : Pos} (C : Cal X.prog X.w X.K X.mg X.base CX0 k x ps sp) (hr : Room k X.A) (hg : Gl X x) (ha : PA X (e :: es) t)
    (hdb : (x == ("__debug__" : Str)) = false := by decide) (he : starEach (e :: es) X.env = (false, eval e X.env) :: starEach es X.env := by rfl) (hpl : (backTo pos (starEach es X.env)).any (·.1) = false := by rfl) : PE X (.Call (.Name x p) (e :: es) [] pos) (tCall sp [] E0 t) := by
  obtain ⟨f, fd, F, hm, hk, hb⟩ := C.ex
  exact pe_call F hr hg hm hk hb .nil pass0 ha hdb he hpl
theorem pe_calX {X : Cx} {k : Nat} {x : Str} {ps : List Str} {sp : Sp} {e : Expr} {es : List Expr} {t : TA} {p pos : Pos} (C : Cal X.prog X.w X.K X.mg X.base (L2.CX X.prog X.w) k x ps sp) (hr : Room k X.A) (hg : Gl X x) (ha : PA X (e :: es) t)
    (hdb : (x == ("__debug__" : Str)) = false := by decide) (he : starEach (e :: es) X.env = (false, eval e X.env) :: starEach es X.env := by rfl) (hpl : (backTo pos (starEach es X.env)).any (·.1) = false := by rfl) : PE X (.Call (.Name x p) (e :: es) [] pos) (tCall sp [] E0 t) := by
  obtain ⟨f, fd, F, hm, hk, hb⟩ := C.ex
  exact pe_call F hr hg hm hk hb .nil passL ha hdb he hpl
/-- within a try -/
theorem pe_calS {X : Cx} {k : Nat} {x : Str} {ps : List Str} {sp : Sp} {e : Expr} {es : List Expr} {t : TA} {p pos : Pos} {E : L2.St → XK} (C : Cal X.prog X.w X.K X.mg X.base (L2.CX X.prog X.w) k x ps sp) (hr : Room k X.A) (hg : Gl X x) (hx : ∀ σ, PassesAt (L2.CX X.prog X.w) X σ (E σ)) (ha : PA X (e :: es) t)
    (hdb : (x == ("__debug__" : Str)) = false := by decide) (he : starEach (e :: es) X.env = (false, eval e X.env) :: starEach es X.env := by rfl) (hpl : (backTo pos (starEach es X.env)).any (·.1) = false := by rfl) : PE X (.Call (.Name x p) (e :: es) [] pos) (tCallS sp E t) := by
  obtain ⟨f, fd, F, hm, hk, hb⟩ := C.ex
  exact pe_callS F hr hg hm hk hb hx ha hdb he hpl

/-! ### a def's body -/
def startR (N : List Str) (ds : List PyData) : Rho := ds.map (fun d => some (.d d)) ++ List.replicate (N.length - ds.length) none
def fin : Res → Out → Prop
  | .rt d, .rt d' => d' = d
  | .rf ds, .rf ds' => ds' = ds
  | .rt d, .nx _ => d = .none
  | _, _ => False
theorem env_start {K : PySem.W.Frag} {G H : Hp} {N : List Str} {vs : List V} {ds : List PyData} (e : Ex G H) (h : DpAll K G vs ds) : Env K G H (L2.start N vs) (startR N ds) := by
  have hl := h.len
  have own : ∀ (i : Nat) xs, (startR N ds)[i]? ≠ some (some (.own xs)) := fun i xs q => by
    unfold startR at q
    rw [List.getElem?_append] at q
    split at q
    · rw [List.getElem?_map] at q
      cases z : ds[i]? with
      | none => rw [z] at q; cases q
      | some d => rw [z] at q; cases q
    · rw [List.getElem?_replicate] at q
      split at q <;> cases q
  have raw : ∀ (i : Nat) x, (startR N ds)[i]? ≠ some (some (.v x)) := fun i x q => by
    unfold startR at q
    rw [List.getElem?_append] at q
    split at q
    · rw [List.getElem?_map] at q
      cases z : ds[i]? with
      | none => rw [z] at q; cases q
      | some d => rw [z] at q; cases q
    · rw [List.getElem?_replicate] at q
      split at q <;> cases q
  refine ⟨e, ?_, fun i x q => ?_, fun i xs q => absurd q (own i xs), fun i x q => absurd q (raw i x), fun i j xs ys p _ q => absurd q (own i xs)⟩
  · unfold L2.start startR
    rw [List.length_append, List.length_append, List.length_map, List.length_map, List.length_replicate, List.length_replicate, hl]
  · unfold startR at q
    rw [List.getElem?_append] at q
    split at q
    · rename_i lt
      rw [List.getElem?_map] at q
      cases z : ds[i]? with
      | none => rw [z] at q; cases q
      | some d =>
        rw [z] at q; cases q
        obtain ⟨v, h1, h2⟩ := h.get z
        refine ⟨v, ?_, h2⟩
        unfold L2.start
        rw [List.getElem?_append_left (by rw [List.length_map, hl]; rw [List.length_map] at lt; exact lt), List.getElem?_map, h1]
        rfl
    · rw [List.getElem?_replicate] at q
      split at q <;> cases q
theorem base_start {K : PySem.W.Frag} {G H : Hp} {N : List Str} {vs : List V} {ds : List PyData} (e : Ex G H) : Base G H G H (L2.start N vs) (startR N ds) := by
  refine ⟨Step.refl e, fun i xs p q => ?_⟩
  unfold startR at q
  rw [List.getElem?_append] at q
  split at q
  · rw [List.getElem?_map] at q
    cases z : ds[i]? with
    | none => rw [z] at q; cases q
    | some d => rw [z] at q; cases q
  · rw [List.getElem?_replicate] at q
    split at q <;> cases q
/-- the reading of a body by data -/
theorem body_ok {K : PySem.W.Frag} {n : Nat} {F : List PyData → Res → Prop} {N : List Str} {t : TS} {vs : List V} {H : Hp} {Q : VK} {E : XK} {G : Hp} {ds : List PyData} {r : Res} (e : Ex G H) (hd : DpAll K G vs ds) (rp : RP K r G H Q E)
    (h : SD K G H t (startR N ds) (fin r)) : t { nx := fun _ H' => Q .non H', rt := Q } (L2.start N vs) H := by
  refine h G H _ _ (env_start e hd) (base_start (K := K) e) fun o po => ?_
  cases r with
  | rt d =>
    cases o with
    | rt d' =>
      cases po
      exact fun v G2 H2 s hv => rp v G2 H2 s hv
    | nx ρ =>
      cases po
      exact fun G2 H2 σ2 _ I2 b2 => rp .non G2 H2 b2.st .non
    | rf ds => cases po
    | bk ρ => cases po
    | ct ρ => cases po
  | rf ds =>
    cases o with
    | rf ds' =>
      cases po
      exact fun p vs G2 H2 s hp hg hl hdd => rp p vs G2 H2 s hp hg hl hdd
    | nx ρ => cases po
    | rt ds => cases po
    | bk ρ => cases po
    | ct ρ => cases po
  | xc C => cases o <;> cases po
section
variable {P : Program} {w : World} {K : PySem.W.Frag} {mg : Str → Option Value} {base : Heap} {x qual : Str} {st : Stmt} {f : Addr} {fd : FuncData} {N ps : List Str} {k n : Nat} {F : List PyData → Res → Prop}
theorem fun_ok {t : TS} (Fn : Fun K x qual st f fd) (S : FnScope N ps (defScope st)) (hn : n = ps.length)
    (hb : ∀ (cdv : Value) (A : Around) (outer : List PySem.Env) (s : Shared) (H : Hp) (E : XK), Room k (A.deeper (envOfC qual (defScope st) s.heap.objs.size f cdv)) → PSs (cxOf CX0 P w K mg base N qual (defScope st) f cdv A outer s H E).nox (defBody st) t)
    (hp : ∀ ds r, F ds r → ∀ B0 B, SD K B0 B t (startR N ds) (fin r)) : FnOk P w K mg base CX0 (k + 1) f fd ps (spD K n F) := by
  refine Fn.ok S (fun vs H Q E h => h.1.trans hn) fun cdv A outer s H vs Q E hr h => ?_
  obtain ⟨hl, G, ds, r, e, hd, hF, rp⟩ := h
  exact ⟨t, hb cdv A outer s H E hr, body_ok (n := n) (F := F) e hd rp (hp ds r hF G H)⟩
theorem fun_okX {t : XK → TS} (Fn : Fun K x qual st f fd) (S : FnScope N ps (defScope st)) (hn : n = ps.length)
    (hb : ∀ (cdv : Value) (A : Around) (outer : List PySem.Env) (s : Shared) (H : Hp) (E : XK), Room k (A.deeper (envOfC qual (defScope st) s.heap.objs.size f cdv)) → PSs (cxOf (L2.CX P w) P w K mg base N qual (defScope st) f cdv A outer s H E) (defBody st) (t E))
    (hp : ∀ ds r, F ds r → ∀ B0 B (E : XK), (∀ C, r = .xc C → ∀ G H, Step B0 B G H → E (.ref C) none H) → SD K B0 B (t E) (startR N ds) (fin r)) : FnOk P w K mg base (L2.CX P w) (k + 1) f fd ps (spD K n F) := by
  refine Fn.okX S (fun vs H Q E h => h.1.trans hn) fun cdv A outer s H vs Q E hr h => ?_
  obtain ⟨hl, G, ds, r, e, hd, hF, rp⟩ := h
  refine ⟨t E, hb cdv A outer s H E hr, body_ok (n := n) (F := F) e hd rp (hp ds r hF G H E fun C hc => ?_)⟩
  subst hc
  exact rp
end

/-! ### isinstance of a caught error -/
def rIsX (K : PySem.W.Frag) (a : Addr) (cls : Value) (d : Option Addr) : List V → Hp → VK → Prop := fun xs H Q => ∃ D, cls = .ref D ∧ d = none ∧ ExcC K D ∧
  ((∃ c cv b, xs = [.ref a, c] ∧ ClsV c cv ∧ PySem.W.kitOne K (.ref D) cv = some b ∧ Q (.bl b) H) ∨
   ∃ tp cs us b, xs = [.ref a, .ref tp] ∧ H tp = some (.tup cs) ∧ Paired ClsV cs us ∧ PySem.W.kitAny K (.ref D) us = some b ∧ Q (.bl b) H)
theorem call_isX {X : Cx} {a : Addr} {oe : Obj} {cls : Value} {d : Option Addr} {pn : List (Addr × Obj)} (hz : Zc cls d oe) (hf : ∃ vs, oe.data = .fields vs) : CallR (X.suite a ((a, oe) :: pn)) (.builtin "isinstance") (rIsX X.K a cls d) := by
  intro pins s σ H xs us Q I r h
  obtain ⟨D, rfl, rfl, C, h⟩ := h
  rcases h with ⟨c, cv, b, rfl, hcv, e, q⟩ | ⟨tp, cs, ws, b, rfl, hT, k, e, q⟩
  · exact call_isE C hz hf pins s σ H _ us Q I r ⟨c, cv, b, rfl, fun u ru => hcv.eq ru, e, q⟩
  · obtain ⟨u1, u2, rfl, r1, r2⟩ := vals2 r
    cases (show u1 = Value.ref a from r1)
    cases (show u2 = Value.ref tp from r2)
    obtain ⟨hget, _⟩ := I.pin (a, oe) (List.mem_append.mpr (.inl List.mem_cons_self))
    obtain ⟨vs, hv⟩ := hf
    have J : PySem.W.InstAt s.heap a oe D none := by
      obtain ⟨oc, od, oda, osl⟩ := oe
      obtain ⟨h1, h2⟩ := hz
      dsimp only at h1 h2 hv
      subst h1 h2 hv
      exact ⟨hget, rfl, rfl, trivial⟩
    obtain ⟨_, its, rv, o, h1, h2, n, h3⟩ := (show ObjOk X.prog X.w H s.heap tp (.tup cs) from I.hok tp _ hT)
    have e3 := ClsV.all k rv
    subst e3
    obtain ⟨oc, od, dt, sl⟩ := o
    simp only at h2 h3
    subst h2 h3
    exact PySem.W.kia_tup (PySem.W.handS_kitx_exc C.hg C.hk C.hs C.hd C.ha C.hn C.ht C.hm) I.kIn J h1 e (fun z => nomatch z) fun tk => ⟨.bl b, H, I.kept (t' := tk) fun _ _ z => z, rfl, q⟩
/-- the suite: if isinstance(e, (..)): return False; return isinstance(e, S) and isinstance(e, V) -/
def tSuite (K : PySem.W.Frag) (i : Nat) (tt : TA) (c1 c2 : V) : Addr → Value → Option Addr → TS := fun a cls d =>
  tSeq (tIfS (tTruth K (tCB (rIsX K a cls d) (tCons (tVar i) (tCons (tTup tt) tNil)))) (tRet (tC (.bl false))) tNext)
    (tRet (tAndV (tCB (rIsX K a cls d) (tCons (tVar i) (tCons (tC c1) tNil))) (tCB (rIsX K a cls d) (tCons (tVar i) (tCons (tC c2) tNil)))))
def tRef (K : PySem.W.Frag) (sp : Sp) (i : Nat) (Cx : Addr) (ta tt : TA) (c1 c2 : V) : TS := fun D σ H =>
  (fun W => tDrop (tCallS sp (WE W) ta)) (wAs K (.ref Cx) i (tSuite K i tt c1 c2) (fun _ _ _ _ => False) D) D σ H
/-- a written tuple of classes -/
def tCls : List V → TA
  | [] => tNil
  | v :: vs => tCons (tC v) (tCls vs)
theorem tCls_ok : ∀ (vs : List V) (σ : L2.St) (H : Hp) (Q : List V → Hp → Prop), Q vs H → tCls vs σ H Q
  | [], _, _, _, q => q
  | v :: vs, σ, H, Q, q => tCls_ok vs σ H (fun xs H2 => Q (v :: xs) H2) q
theorem sd_ref {K : PySem.W.Frag} {B0 B : Hp} {ρ : Rho} {ta : TA} {ds : List PyData} {n i : Nat} {F : List PyData → Res → Prop} {P : Out → Prop} {C Cx : Addr} {cs : List V} {us : List Value} {c1 c2 : V} {u1 u2 : Value} (ha : AD K ta ρ ds) (hF : F ds (.xc C)) (hn : ds.length = n)
    (hi : i < ρ.length) (hm : PySem.W.exmOne K (.ref C) (.ref Cx) = some true) (X : ExcC K C) (hcs : Paired ClsV cs us) (hl : cs.length ≤ 1000) (k0 : PySem.W.kitAny K (.ref C) us = some false) (hc1 : ClsV c1 u1) (k1 : PySem.W.kitOne K (.ref C) u1 = some true) (hc2 : ClsV c2 u2) (k2 : PySem.W.kitOne K (.ref C) u2 = some true)
    (k : P (.rt (.bool true))) : SD K B0 B (tRef K (spD K n F) i Cx ta (tCls cs) c1 c2) ρ P := fun G H σ D I b q => by
  show tDrop (tCallS _ _ ta) D σ H
  refine ha G H σ I _ fun vs G2 H2 s hv => ⟨hv.len.trans hn, G2, ds, .xc C, s.gh, hv, hF, fun G3 H3 s3 => ?_⟩
  have sA := s.trans s3
  refine ⟨true, hm, fun _ a hna => ?_, fun z => nomatch z⟩
  have hs : (σ.set i (some (.ref a)))[i]? = some (some (.ref a)) := by rw [List.getElem?_set_self (by rw [I.len]; exact hi)]
  refine ⟨_, hs, tCls_ok cs _ _ _ ⟨Nat.le_trans hl (by decide), fun p hp => ?_⟩⟩
  refine ⟨C, rfl, rfl, X, .inr ⟨p, cs, us, false, rfl, upd_same, hcs, k0, false, rfl, ?_⟩⟩
  show tNext _ _ _
  refine ⟨_, hs, C, rfl, rfl, X, .inl ⟨c1, u1, true, rfl, hc1, k1, true, rfl, ?_⟩⟩
  refine iteT ?_
  refine ⟨_, hs, C, rfl, rfl, X, .inl ⟨c2, u2, true, rfl, hc2, k2, ?_⟩⟩
  exact q _ k (.bl true) G3 _ (b.st.trans (sA.trans (Step.allocO s3.gh hp))) (.bl true)
end Rt

namespace Rt
open PySem PySem.Spec PyProof.Rows L2 Evl
/-! ### the mathematics -/
theorem natAbs_fmod_lt (a : Int) {b : Int} (hb : b ≠ 0) : (a.fmod b).natAbs < b.natAbs := by
  rw [Int.fmod_eq_emod]
  have h1 := Int.emod_nonneg a hb
  have h2 := Int.emod_lt a hb
  by_cases h : 0 ≤ b ∨ b ∣ a
  · rw [if_pos h]; omega
  · rw [if_neg h]
    have h3 : ¬ 0 ≤ b := fun z => h (.inl z)
    have h4 : a % b ≠ 0 := fun z => h (.inr (Int.dvd_of_emod_eq_zero z))
    omega
theorem gcd_fmod (a b : Int) : Int.gcd b (a.fmod b) = Int.gcd a b := by
  rw [Int.fmod_def, Int.mul_comm b, Int.gcd_sub_mul_right_right, Int.gcd_comm]
/-- the part that a is of b, by its greatest common divisor with the sign of b -/
def partS (a b : Int) : Int := if b < 0 then -(Int.gcd a b : Int) else (Int.gcd a b : Int)
def partV (a b : Int) : Int × Int := (a.fdiv (partS a b), b.fdiv (partS a b))
theorem gcd_pos {a b : Int} (hb : b ≠ 0) : 0 < Int.gcd a b := Int.gcd_pos_of_ne_zero_right a hb
theorem partS_ne {a b : Int} (hb : b ≠ 0) : partS a b ≠ 0 := by
  have := gcd_pos (a := a) hb
  unfold partS; split <;> omega
theorem partS_abs (a b : Int) : (partS a b).natAbs = Int.gcd a b := by unfold partS; split <;> omega
theorem partS_le {a b : Int} (hb : b ≠ 0) : (partS a b).natAbs ≤ b.natAbs := by
  rw [partS_abs]; exact Nat.le_of_dvd (by omega) (Nat.gcd_dvd_right _ _)
theorem partS_dl (a b : Int) : partS a b ∣ a := by
  unfold partS; split
  · exact Int.neg_dvd.mpr (Int.gcd_dvd_left a b)
  · exact Int.gcd_dvd_left a b
theorem partS_dr (a b : Int) : partS a b ∣ b := by
  unfold partS; split
  · exact Int.neg_dvd.mpr (Int.gcd_dvd_right a b)
  · exact Int.gcd_dvd_right a b
theorem fdiv_mul_of_dvd {a s : Int} (h : s ∣ a) : s * a.fdiv s = a := by
  rw [Int.fdiv_eq_ediv_of_dvd h, Int.mul_ediv_cancel' h]
theorem natAbs_fdiv_le {a s : Int} (h : s ∣ a) (hs : s ≠ 0) : (a.fdiv s).natAbs ≤ a.natAbs := by
  have e := congrArg Int.natAbs (fdiv_mul_of_dvd h)
  rw [Int.natAbs_mul] at e
  have : 1 ≤ s.natAbs := by omega
  calc (a.fdiv s).natAbs = 1 * (a.fdiv s).natAbs := (Nat.one_mul _).symm
    _ ≤ s.natAbs * (a.fdiv s).natAbs := Nat.mul_le_mul_right _ this
    _ = a.natAbs := e
theorem partV_pos {a b : Int} (hb : b ≠ 0) : 0 < (partV a b).2 := by
  have e := fdiv_mul_of_dvd (partS_dr a b)
  have s0 := partS_ne (a := a) hb
  have g := gcd_pos (a := a) hb
  show 0 < b.fdiv (partS a b)
  by_cases h : b < 0
  · have s1 : partS a b < 0 := by unfold partS; rw [if_pos h]; omega
    by_cases q : 0 < b.fdiv (partS a b)
    · exact q
    · have := Int.mul_nonneg_of_nonpos_of_nonpos (Int.le_of_lt s1) (Int.not_lt.mp q)
      omega
  · have s1 : 0 < partS a b := by unfold partS; rw [if_neg h]; omega
    by_cases q : 0 < b.fdiv (partS a b)
    · exact q
    · have := Int.mul_nonpos_of_nonneg_of_nonpos (Int.le_of_lt s1) (Int.not_lt.mp q)
      omega
theorem partV_cross {a b : Int} (hb : b ≠ 0) : (partV a b).1 * b = a * (partV a b).2 := by
  have e1 := fdiv_mul_of_dvd (partS_dl a b)
  have e2 := fdiv_mul_of_dvd (partS_dr a b)
  show a.fdiv (partS a b) * b = a * b.fdiv (partS a b)
  generalize a.fdiv (partS a b) = x at e1 ⊢
  generalize b.fdiv (partS a b) = y at e2 ⊢
  calc x * b = x * (partS a b * y) := by rw [e2]
    _ = (partS a b * x) * y := by rw [← Int.mul_assoc, Int.mul_comm x]
    _ = a * y := by rw [e1]
theorem partV_gcd {a b : Int} (hb : b ≠ 0) : Int.gcd (partV a b).1 (partV a b).2 = 1 := by
  have e1 := fdiv_mul_of_dvd (partS_dl a b)
  have e2 := fdiv_mul_of_dvd (partS_dr a b)
  show Int.gcd (a.fdiv (partS a b)) (b.fdiv (partS a b)) = 1
  have h := Int.gcd_mul_left (partS a b) (a.fdiv (partS a b)) (b.fdiv (partS a b))
  rw [e1, e2, partS_abs] at h
  have g := gcd_pos (a := a) hb
  exact Nat.eq_of_mul_eq_mul_left g (by rw [Nat.mul_one]; exact h.symm)
theorem partV_le {a b : Int} (hb : b ≠ 0) : (partV a b).1.natAbs ≤ a.natAbs ∧ (partV a b).2.natAbs ≤ b.natAbs := ⟨natAbs_fdiv_le (partS_dl a b) (partS_ne hb), natAbs_fdiv_le (partS_dr a b) (partS_ne hb)⟩
def pD (x : Int × Int) : PyData := .tuple [.int x.1, .int x.2]
/-- below 2 ^ n either way -/
def Lt2 (n : Nat) (a : Int) : Prop := a.natAbs < 2 ^ n
theorem Lt2.zero {n : Nat} : Lt2 n 0 := Nat.pow_pos (by decide)
theorem Lt2.mono {n m : Nat} {a : Int} (h : Lt2 n a) (k : n ≤ m) : Lt2 m a := Nat.lt_of_lt_of_le h (Nat.pow_le_pow_right (by decide) k)
theorem Lt2.mul {n m : Nat} {a b : Int} (h : Lt2 n a) (k : Lt2 m b) : Lt2 (n + m) (a * b) := by
  unfold Lt2
  rw [Int.natAbs_mul, Nat.pow_add]
  exact Nat.mul_lt_mul'' h k
theorem Lt2.add {n : Nat} {a b : Int} (h : Lt2 n a) (k : Lt2 n b) : Lt2 (n + 1) (a + b) := by
  unfold Lt2 at *
  have := Int.natAbs_add_le a b
  rw [Nat.pow_succ]; omega
theorem Lt2.sub {n : Nat} {a b : Int} (h : Lt2 n a) (k : Lt2 n b) : Lt2 (n + 1) (a - b) := by
  unfold Lt2 at *
  have := Int.natAbs_sub_le a b
  rw [Nat.pow_succ]; omega
theorem Lt2.of_le {n : Nat} {a b : Int} (h : Lt2 n a) (k : b.natAbs ≤ a.natAbs) : Lt2 n b := Nat.lt_of_le_of_lt k h
theorem Lt2.cm {n m : Nat} {a b : Int} (h : Lt2 n a) (k : Lt2 m b) (z : n + m + 2 ≤ 134217728) : CMulX a b := cmulX_of (h.mono (Nat.le_succ n)) (k.mono (Nat.le_succ m)) (Nat.succ_pos _) (Nat.succ_pos _) (by omega)
theorem Lt2.cd {n : Nat} {a b : Int} (hb : b ≠ 0) (k : Lt2 n b) (z : n < 9000) : CDivQ a b := cdivQ_of hb (k.mono (Nat.le_succ n)) (Nat.succ_pos _) (by omega)
theorem cellI_at {ns : List Int} {k : Int} (h0 : 0 ≤ k) (h : k < ns.length) : atI (ns.map PyData.int) k = some (.int (ns.getD k.toNat 0)) := by
  have h1 : k.toNat < ns.length := by omega
  refine atI_mk (k := k.toNat) ?_ ?_
  · unfold ixN
    rw [if_pos h0, List.length_map, if_pos (by omega)]
  · rw [List.getElem?_map, List.getElem?_eq_getElem h1]
    show some (PyData.int _) = some (PyData.int _)
    rw [List.getD_eq_getElem?_getD, List.getElem?_eq_getElem h1]; rfl
theorem cellI_out {ns : List Int} {k : Int} (h0 : 0 ≤ k) (h : ¬ k < ns.length) : ns.getD k.toNat 0 = 0 := by
  rw [List.getD_eq_getElem?_getD, List.getElem?_eq_none_iff.mpr (by omega)]; rfl
theorem Lt2.of_lt {n : Nat} {a : Int} (h : a.natAbs < 2 ^ n) : Lt2 n a := h
theorem fm_lt (a : Int) {m : Int} (h : 0 < m) {n : Nat} (k : m.natAbs < 2 ^ n) : Lt2 n (a.fmod m) := by
  have h1 := Int.fmod_nonneg_of_pos a h
  have h2 := Int.fmod_lt_of_pos a h
  unfold Lt2; omega
theorem fm2 (a : Int) : a.fmod 2 = 0 ∨ a.fmod 2 = 1 := by
  have h1 := Int.fmod_nonneg_of_pos a (b := 2) (by decide)
  have h2 := Int.fmod_lt_of_pos a (b := 2) (by decide)
  omega
theorem partS_of_pos {a b : Int} (hb : 0 < b) : partS a b = (Int.gcd a b : Int) := by unfold partS; rw [if_neg (by omega)]
theorem shaped_pD (x : Int × Int) : SeqAt.shaped (pD x) = true := rfl
theorem eqv_pD (x y : Int × Int) : PyData.eqv (pD x) (pD y) = decide (x = y) := by
  obtain ⟨a, b⟩ := x
  obtain ⟨c, d⟩ := y
  show ((a == c) && ((b == d) && true)) = _
  rw [Bool.and_true]
  by_cases h1 : a = c <;> by_cases h2 : b = d <;> simp [h1, h2]
/-- rows -/
def rD (xs : List Int) : List PyData := xs.map .int
theorem rD_len (xs : List Int) : (rD xs).length = xs.length := List.length_map _
theorem rD_get {xs : List Int} {i : Nat} {d : PyData} (h : (rD xs)[i]? = some d) : ∃ a, xs[i]? = some a ∧ d = .int a := by
  unfold rD at h
  rw [List.getElem?_map] at h
  cases q : xs[i]? with
  | none => rw [q] at h; cases h
  | some a => rw [q] at h; cases h; exact ⟨a, rfl, rfl⟩
theorem rD_at {xs : List Int} {k : Int} (h0 : 0 ≤ k) (h : k < xs.length) : atI (rD xs) k = some (.int (xs.getD k.toNat 0)) := cellI_at h0 h
theorem rD_last {xs : List Int} (h : xs ≠ []) : atI (rD xs) (-1) = some (.int (xs.getLast h)) := by
  have hl : 0 < xs.length := List.length_pos_iff.mpr h
  refine atI_mk (k := xs.length - 1) ?_ ?_
  · unfold ixN
    rw [if_neg (by omega), rD_len, if_pos (by omega)]
    congr 1; omega
  · unfold rD
    rw [List.getElem?_map, ← List.getLast?_eq_getElem?, List.getLast?_eq_some_getLast h]; rfl
theorem canLayAll_rD : ∀ xs : List Int, PyData.canLayAll0 (rD xs) = true
  | [] => rfl
  | _ :: xs => by show (true && PyData.canLayAll0 (rD xs)) = true; rw [canLayAll_rD xs]; rfl
theorem depthAll_rD : ∀ xs : List Int, PyData.depthAll (rD xs) = 0
  | [] => rfl
  | _ :: xs => by show max 0 (PyData.depthAll (rD xs)) = 0; rw [depthAll_rD xs]; rfl
theorem shaped_l (xs : List Int) : SeqAt.shaped (.list (rD xs)) = true := by
  show (PyData.canLayAll0 (rD xs) && decide (PyData.depthAll (rD xs) + 1 ≤ 64)) = true
  rw [canLayAll_rD, depthAll_rD]; rfl
theorem shaped_t (xs : List Int) : SeqAt.shaped (.tuple (rD xs)) = true := shaped_l xs
theorem eqvAll_rD : ∀ xs ys : List Int, PyData.eqvAll (rD xs) (rD ys) = decide (xs = ys)
  | [], [] => rfl
  | [], _ :: _ => rfl
  | _ :: _, [] => rfl
  | x :: xs, y :: ys => by
    show ((x == y) && PyData.eqvAll (rD xs) (rD ys)) = _
    rw [eqvAll_rD xs ys]
    by_cases h1 : x = y <;> by_cases h2 : xs = ys <;> simp [h1, h2]
theorem eqv_l (xs ys : List Int) : PyData.eqv (.list (rD xs)) (.list (rD ys)) = decide (xs = ys) := eqvAll_rD xs ys
theorem cut_rD (xs : List Int) (a b : Nat) : cutD (rD xs) (some (a : Int)) (some (b : Int)) = rD ((xs.drop a).take (b - a)) := by
  unfold cutD
  rw [HT.sIx_nat, HT.sIx_nat, rD_len]
  unfold rD
  rw [← List.map_drop, ← List.map_take]
  congr 1
  apply List.ext_getElem?
  intro i
  rw [List.getElem?_take, List.getElem?_take, List.getElem?_drop, List.getElem?_drop]
  by_cases h : a ≤ xs.length
  · rw [Nat.min_eq_left h]
    by_cases h2 : b ≤ xs.length
    · rw [Nat.min_eq_left h2]
    · rw [Nat.min_eq_right (by omega)]
      by_cases h3 : a + i < xs.length
      · split <;> split <;> first | rfl | (exfalso; omega)
      · rw [List.getElem?_eq_none_iff.mpr (by omega)]
        split <;> split <;> rfl
  · rw [Nat.min_eq_right (show xs.length ≤ a by omega)]
    rw [List.getElem?_eq_none_iff.mpr (show xs.length ≤ xs.length + i by omega), List.getElem?_eq_none_iff.mpr (show xs.length ≤ a + i by omega)]
    split <;> split <;> rfl
theorem cut_rD_lo (xs : List Int) (a : Nat) : cutD (rD xs) (some (a : Int)) none = rD (xs.drop a) := by
  unfold cutD
  rw [HT.sIx_nat, HT.sIx_none, rD_len]
  unfold rD
  rw [← List.map_drop, ← List.map_take]
  congr 1
  by_cases h : a ≤ xs.length
  · rw [Nat.min_eq_left h, ← List.length_drop, List.take_length]
  · rw [Nat.min_eq_right (by omega), List.drop_eq_nil_of_le (Nat.le_refl _), List.drop_eq_nil_of_le (by omega), List.take_nil]
theorem cut_rD_hi (xs : List Int) (b : Nat) : cutD (rD xs) none (some (b : Int)) = rD (xs.take b) := by
  unfold cutD
  rw [HT.sIx_nat, HT.sIx_none, rD_len]
  unfold rD
  rw [List.drop_zero, ← List.map_take, Nat.sub_zero]
  congr 1
  by_cases h : b ≤ xs.length
  · rw [Nat.min_eq_left h]
  · rw [Nat.min_eq_right (by omega), List.take_length, List.take_of_length_le (by omega)]
theorem cut_rD_m1 (xs : List Int) : cutD (rD xs) none (some (-1)) = rD xs.dropLast := by
  unfold cutD
  have e : HT.sIx xs.length xs.length (some (-1)) = ((-1) + (xs.length : Int)).toNat := rfl
  rw [HT.sIx_none, rD_len, e, List.drop_zero, Nat.sub_zero, List.dropLast_eq_take]
  unfold rD
  rw [← List.map_take]
  congr 2; omega
theorem cut_I (xs : List Int) {a b : Int} (ha : 0 ≤ a) (hb : 0 ≤ b) : cutD (rD xs) (some a) (some b) = rD ((xs.drop a.toNat).take (b.toNat - a.toNat)) := by
  have := cut_rD xs a.toNat b.toNat
  rwa [Int.toNat_of_nonneg ha, Int.toNat_of_nonneg hb] at this
theorem cut_lo (xs : List Int) {a : Int} (ha : 0 ≤ a) : cutD (rD xs) (some a) none = rD (xs.drop a.toNat) := by
  have := cut_rD_lo xs a.toNat
  rwa [Int.toNat_of_nonneg ha] at this
theorem cut_hi (xs : List Int) {b : Int} (hb : 0 ≤ b) : cutD (rD xs) none (some b) = rD (xs.take b.toNat) := by
  have := cut_rD_hi xs b.toNat
  rwa [Int.toNat_of_nonneg hb] at this
theorem ed_lenR {K : PySem.W.Frag} {ρ : Rho} {ta : TE} {d : PyData} {xs : List Int} (ha : ED K ta ρ d) (s : SeqD d (rD xs)) : ED K (tLen K ta) ρ (.int xs.length) := (ed_len ha s).cast (by rw [rD_len])
theorem ed_lenRO {K : PySem.W.Frag} {ρ : Rho} {k : Nat} {xs : List Int} (h : ρ[k]? = some (some (.own (rD xs)))) : ED K (tLen K (tVar k)) ρ (.int xs.length) := (ed_lenO h).cast (by rw [rD_len])
theorem map_range {α : Type} {f : Nat → α} {xs : List Int} {g : Int → α} (h : ∀ i a, xs[i]? = some a → f i = g a) : (List.range xs.length).map f = xs.map g := by
  apply List.ext_getElem?
  intro i
  rw [List.getElem?_map, List.getElem?_map]
  by_cases hi : i < xs.length
  · rw [List.getElem?_range hi, List.getElem?_eq_getElem hi]
    show some (f i) = some (g _)
    rw [h i _ (List.getElem?_eq_getElem hi)]
  · rw [List.getElem?_eq_none_iff.mpr (by rw [List.length_range]; omega), List.getElem?_eq_none_iff.mpr (by omega)]; rfl
/-- the sign of a number -/
def sgn (a : Int) : Int := if a < 0 then -1 else if 0 < a then 1 else 0
/-- the row's value at t by b, times b to the power of one less than its length; and b to the power of its length -/
def hor (t b : Int) : List Int → Int × Int
  | [] => (0, 1)
  | x :: xs => ((hor t b xs).1 * t + x * (hor t b xs).2, (hor t b xs).2 * b)
theorem hor_lt {n m : Nat} {t b : Int} (ht : Lt2 m t) (hb : Lt2 m b) (hm : 1 ≤ m) : ∀ {xs : List Int}, (∀ x ∈ xs, Lt2 n x) → Lt2 (n + xs.length * (m + 1)) (hor t b xs).1 ∧ Lt2 (xs.length * m + 1) (hor t b xs).2
  | [], _ => ⟨Lt2.zero, Lt2.of_lt (by show 1 < 2 ^ (0 * m + 1); rw [Nat.zero_mul]; decide)⟩
  | x :: xs, h => by
    obtain ⟨h1, h2⟩ := hor_lt ht hb hm (xs := xs) fun y hy => h y (List.mem_cons_of_mem _ hy)
    have hx := h x List.mem_cons_self
    have e1 : (xs.length + 1) * (m + 1) = xs.length * (m + 1) + (m + 1) := Nat.succ_mul _ _
    have e2 : (xs.length + 1) * m = xs.length * m + m := Nat.succ_mul _ _
    have e3 : xs.length * (m + 1) = xs.length * m + xs.length := Nat.mul_succ _ _
    refine ⟨?_, ?_⟩
    · have a1 : Lt2 (n + xs.length * (m + 1) + m) ((hor t b xs).1 * t) := h1.mul ht
      have a2 : Lt2 (n + xs.length * (m + 1) + m) (x * (hor t b xs).2) := (hx.mul h2).mono (by omega)
      show Lt2 (n + (xs.length + 1) * (m + 1)) _
      exact (a1.add a2).mono (by omega)
    · show Lt2 ((xs.length + 1) * m + 1) _
      exact (h2.mul hb).mono (by omega)
end Rt

namespace Rt
open PySem PySem.Spec PyProof.Rows L2 Evl
/-! the steps that need no thought; «walk_at "ev"» goes on till it is stuck -/
local macro_rules | `(tactic| walk_at "rt1") => `(tactic| first
  | ((with_reducible show _ = true → ED _ _ _ _); intro _) | ((with_reducible show _ = false → ED _ _ _ _); intro _) | ((with_reducible show _ = true → TD _ _ _ _); intro _) | ((with_reducible show _ = false → TD _ _ _ _); intro _)
  | with_reducible exact ed_int | with_reducible exact ed_bl | with_reducible exact ed_non | with_reducible exact ad_nil | with_reducible exact od_none | with_reducible exact td_yes
  | ((with_reducible apply ed_var); exact rfl)
  | (with_reducible apply ad_cons)
  | (with_reducible apply td_test) | (with_reducible apply td_truth) | (with_reducible apply td_not) | (with_reducible apply td_and) | (with_reducible apply td_or)
  | (with_reducible apply ed_add) | (with_reducible apply ed_sub) | (with_reducible apply ed_mul) | (with_reducible apply ed_mod) | (with_reducible apply ed_fdivP) | (with_reducible apply ed_pow) | (with_reducible apply ed_neg)
  | (with_reducible apply ed_lt) | (with_reducible apply ed_le) | (with_reducible apply ed_gt) | (with_reducible apply ed_ge)
  | (with_reducible apply ed_eqD) | (with_reducible apply ed_neD)
  | (with_reducible apply ed_ix) | (with_reducible apply ed_len) | (with_reducible apply ed_abs) | (with_reducible apply ed_gcd) | (with_reducible apply ed_isi)
  | (with_reducible apply ed_tup) | (with_reducible apply ed_tuple) | (with_reducible apply ed_andV) | (with_reducible apply ed_orV) | (with_reducible apply ed_notV)
  | (with_reducible apply od_some)
  | (with_reducible apply ef_lst) | (with_reducible apply ef_list) | (with_reducible apply ef_sl) | (with_reducible apply ef_cat)
  | (with_reducible apply EF.ed; with_reducible apply ef_lst) | (with_reducible apply EF.ed; with_reducible apply ef_list) | (with_reducible apply EF.ed; with_reducible apply ef_sl) | (with_reducible apply EF.ed; with_reducible apply ef_cat)
  | (with_reducible apply ed_call)
  | ((with_reducible show SeqD _ _); first | exact SeqD.l _ | exact SeqD.t _ | assumption)
  | ((with_reducible show Truth _ _); first | exact Truth.bool _ | exact Truth.int _ | exact Truth.l _ | exact Truth.t _)
  | ((with_reducible show SeqAt.shaped _ = true); exact rfl)
  | ((with_reducible show atI _ _ = some _); first | exact rfl | assumption)
  | ((with_reducible show kitB _ _ = some _); first | exact rfl | decide +kernel)
  | ((with_reducible show List.length _ = _); rfl)
  | ((with_reducible show List.length _ ≤ 100000); first | exact Nat.le_of_ble_eq_true rfl | (simp; done) | (simp; omega)))
local macro_rules | `(tactic| walk_at "ev") => `(tactic| repeat' walk_at "rt1")
/-! ### the promises -/
def F__law_whole (ds : List PyData) (r : Res) : Prop := ∃ a : Int, ds = [.int a] ∧ r = .rt (.bool true)
def F__law_cell_at (ds : List PyData) (r : Res) : Prop := ∃ (ns : List Int) (k : Int), ds = [.list (rD ns), .int k] ∧ 0 ≤ k ∧ r = .rt (.int (ns.getD k.toNat 0))
def F__law_divisor (ds : List PyData) (r : Res) : Prop := ∃ a b : Int, ds = [.int a, .int b] ∧ r = .rt (.int (Int.gcd a b))
def F__law_part (ds : List PyData) (r : Res) : Prop := ∃ a b : Int, ds = [.int a, .int b] ∧ b ≠ 0 ∧ Lt2 8000 b ∧ r = .rt (pD (partV a b))
def F_sign (ds : List PyData) (r : Res) : Prop := ∃ a : Int, ds = [.int a] ∧ r = .rt (.int (sgn a))
def F_sign_at (ds : List PyData) (r : Res) : Prop := ∃ (d : PyData) (xs : List Int) (t b : Int) (n m : Nat), ds = [d, pD (t, b)] ∧ SeqD d (rD xs) ∧ (∀ x ∈ xs, Lt2 n x) ∧ Lt2 m t ∧ Lt2 m b ∧ 1 ≤ m ∧ n + (xs.length + 2) * (m + 1) ≤ 100000000 ∧ r = .rt (.int (sgn (hor t b xs).1))
abbrev sp__law_whole (K : PySem.W.Frag) : Sp := spD K 1 F__law_whole
abbrev sp__law_cell_at (K : PySem.W.Frag) : Sp := spD K 2 F__law_cell_at
abbrev sp__law_divisor (K : PySem.W.Frag) : Sp := spD K 2 F__law_divisor
abbrev sp__law_part (K : PySem.W.Frag) : Sp := spD K 2 F__law_part
abbrev sp_sign (K : PySem.W.Frag) : Sp := spD K 1 F_sign
abbrev sp_sign_at (K : PySem.W.Frag) : Sp := spD K 2 F_sign_at
def t__law_whole (K : PySem.W.Frag) : TS := (tRet (tAndV (tCB (rIsi K) (tCons (tVar 0) (tCons (tC (.ty "int")) tNil))) (tNotV (tCB (rIsi K) (tCons (tVar 0) (tCons (tC (.ty "bool")) tNil))))))
abbrev N__law_whole : List Str := ["_law_found"]
def t__law_cell_at (K : PySem.W.Frag) : TS := (tSeq (tIfS (tTest (tOp (rI0 fun i j => .bl (decide (i < j))) (tVar 1) (tLen K (tVar 0)))) (tRet (tOp (rIx K) (tVar 0) (tVar 1))) tNext)
  (tRet (tC (.int 0))))
abbrev N__law_cell_at : List Str := ["_law_script", "_law_k"]
def t__law_divisor (K : PySem.W.Frag) : TS := (tSeq (tWhile (tTest (tOp (rNeD K) (tVar 1) (tC (.int 0)))) (tSeq (tAsg (tOp (rI (fun _ j => j ≠ 0) fun i j => .int (i.fmod j)) (tVar 0) (tVar 1)) (gName 2))
  (tSeq (tAsg (tVar 1) (gName 0))
  (tAsg (tVar 2) (gName 1)))))
  (tRet (tCB rAbs (tCons (tVar 0) tNil))))
abbrev N__law_divisor : List Str := ["_law_one", "_law_other", "_law_over"]
def t__law_part (K : PySem.W.Frag) : TS := (tSeq (tAsg (tCall (sp__law_divisor K) [] E0 (tCons (tVar 0) (tCons (tVar 1) tNil))) (gName 2))
  (tSeq (tIfS (tTest (tOp (rI0 fun i j => .bl (decide (i < j))) (tVar 1) (tC (.int 0)))) (tAsg (tOp (rI0 fun i j => .int (i - j)) (tC (.int 0)) (tVar 2)) (gName 2)) tNext)
  (tRet (tTup (tCons (tOp (rI CDivQ fun i j => .int (i.fdiv j)) (tVar 0) (tVar 2)) (tCons (tOp (rI CDivQ fun i j => .int (i.fdiv j)) (tVar 1) (tVar 2)) tNil))))))
abbrev N__law_part : List Str := ["_law_top", "_law_bottom", "_law_by"]
def t_sign (K : PySem.W.Frag) : TS := (tSeq (tIfS (tTest (tOp (rI0 fun i j => .bl (decide (i < j))) (tVar 0) (tC (.int 0)))) (tRet (tUn (rU fun i => .int (-i)) (tC (.int 1)))) tNext)
  (tSeq (tIfS (tTest (tOp (rI0 fun i j => .bl (decide (j < i))) (tVar 0) (tC (.int 0)))) (tRet (tC (.int 1))) tNext)
  (tRet (tC (.int 0)))))
abbrev N_sign : List Str := ["number"]
def t_sign_at (K : PySem.W.Frag) : TS := (tSeq (tAsg (tVar 1) (gTup K 2 (gCons (gName 2) (gCons (gName 3) gNil))))
  (tSeq (tAsg (tC (.int 0)) (gName 4))
  (tSeq (tAsg (tC (.int 1)) (gName 5))
  (tSeq (tFor (RT.iRevA K (tVar 0)) (gName 6) (tSeq (tAsg (tOp (rI0 fun i j => .int (i + j)) (tOp (rI CMulX fun i j => .int (i * j)) (tVar 4) (tVar 2)) (tOp (rI CMulX fun i j => .int (i * j)) (tVar 6) (tVar 5))) (gName 4))
  (tAsg (tOp (rI CMulX fun i j => .int (i * j)) (tVar 5) (tVar 3)) (gName 5))))
  (tRet (tCall (sp_sign K) [] E0 (tCons (tVar 4) tNil)))))))
abbrev N_sign_at : List Str := ["row", "at", "top", "bottom", "value", "scale", "number"]
section
variable {K : PySem.W.Frag}
theorem pure__law_whole (ds : List PyData) (r : Res) (h : F__law_whole ds r) (B0 B : Hp) : SD K B0 B (t__law_whole K) (startR N__law_whole ds) (fin r) := by
  obtain ⟨a, rfl, rfl⟩ := h
  unfold t__law_whole
  apply sd_ret; (case h => walk_at "ev" )
  rfl
theorem pure__law_cell_at (ds : List PyData) (r : Res) (h : F__law_cell_at ds r) (B0 B : Hp) : SD K B0 B (t__law_cell_at K) (startR N__law_cell_at ds) (fin r) := by
  obtain ⟨ns, k, rfl, h0, rfl⟩ := h
  unfold t__law_cell_at
  apply sd_seq; apply sd_if; (case h => walk_at "ev" ); all_goals intro hb
  · have hb : k < ns.length := by simpa [rD_len] using hb
    apply sd_ret; (case h => walk_at "ev" <;> (first | (exact cellI_at h0 hb) | walk_at "rt1"))
    rfl
  · have hb : ¬ k < ns.length := by simpa [rD_len] using hb
    rw [cellI_out h0 hb]
    refine sd_next ?_
    apply sd_ret; (case h => walk_at "ev" )
    rfl
theorem pure__law_divisor (ds : List PyData) (r : Res) (h : F__law_divisor ds r) (B0 B : Hp) : SD K B0 B (t__law_divisor K) (startR N__law_divisor ds) (fin r) := by
  obtain ⟨a, b, rfl, rfl⟩ := h
  unfold t__law_divisor
  refine sd_seq (sd_while (fun m ρ => ∃ x y : Int, ∃ z, ρ = [some (.d (.int x)), some (.d (.int y)), z] ∧ Int.gcd x y = Int.gcd a b ∧ m = y.natAbs) b.natAbs ⟨a, b, none, rfl, rfl, rfl⟩ ?_)
  rintro m ρ ⟨x, y, z, rfl, hg, rfl⟩
  refine ⟨_, (by walk_at "ev"), fun hb => ?_, fun hb => ?_⟩
  · have hb : y ≠ 0 := by simpa [eqv_int] using hb
    apply sd_seq; apply sd_set; (case h => walk_at "ev" <;> (first | (exact hb) | walk_at "rt1"))
    apply sd_seq; apply sd_set; (case h => walk_at "ev" )
    apply sd_set; (case h => walk_at "ev" )
    exact ⟨_, natAbs_fmod_lt x hb, y, x.fmod y, _, rfl, by rw [gcd_fmod, hg], rfl⟩
  · have hb : y = 0 := by simpa [eqv_int] using hb
    subst hb
    show SD K B0 B _ _ _
    apply sd_ret; (case h => walk_at "ev" )
    show PyData.int _ = PyData.int _
    have e : ((Int.gcd a b : Nat) : Int) = (x.natAbs : Int) := by rw [← hg, Int.gcd_zero_right]
    rw [e]
    congr 1
    split <;> omega
theorem pure__law_part (ds : List PyData) (r : Res) (h : F__law_part ds r) (B0 B : Hp) : SD K B0 B (t__law_part K) (startR N__law_part ds) (fin r) := by
  obtain ⟨a, b, rfl, hb, hz, rfl⟩ := h
  have s0 := partS_ne (a := a) (b := b) hb
  have sz : Lt2 8000 (partS a b) := hz.of_le (partS_le hb)
  unfold t__law_part
  apply sd_seq; apply sd_set; (case h => walk_at "ev" <;> (first | (exact ⟨a, b, rfl, rfl⟩) | walk_at "rt1"))
  apply sd_seq; apply sd_if; (case h => walk_at "ev" ); all_goals intro hb
  · have hc : b < 0 := of_decide_eq_true hb
    have es : partS a b = 0 - (Int.gcd a b : Int) := by unfold partS; rw [if_pos hc]; omega
    apply sd_set; (case h => walk_at "ev" )
    rw [← es]
    apply sd_ret; (case h => walk_at "ev" <;> (first | (exact sz.cd s0 (by decide)) | walk_at "rt1"))
    rfl
  · have hc : ¬ b < 0 := of_decide_eq_false hb
    have es : partS a b = (Int.gcd a b : Int) := by unfold partS; rw [if_neg hc]
    rw [← es]
    refine sd_next ?_
    apply sd_ret; (case h => walk_at "ev" <;> (first | (exact sz.cd s0 (by decide)) | walk_at "rt1"))
    rfl
theorem pure_sign (ds : List PyData) (r : Res) (h : F_sign ds r) (B0 B : Hp) : SD K B0 B (t_sign K) (startR N_sign ds) (fin r) := by
  obtain ⟨a, rfl, rfl⟩ := h
  unfold t_sign sgn
  apply sd_seq; apply sd_if; (case h => walk_at "ev" ); all_goals intro hb
  · have hb : a < 0 := of_decide_eq_true hb
    rw [if_pos hb]
    apply sd_ret; (case h => walk_at "ev" )
    rfl
  · have h1 : ¬ a < 0 := of_decide_eq_false hb
    rw [if_neg h1]
    refine sd_next ?_
    apply sd_seq; apply sd_if; (case h => walk_at "ev" ); all_goals intro hb
    · have hb : 0 < a := of_decide_eq_true hb
      rw [if_pos hb]
      apply sd_ret; (case h => walk_at "ev" )
      rfl
    · have hb : ¬ 0 < a := of_decide_eq_false hb
      rw [if_neg hb]
      refine sd_next ?_
      apply sd_ret; (case h => walk_at "ev" )
      rfl
theorem rev_drop {xs : List Int} {i : Nat} {a : Int} (h : xs.reverse[i]? = some a) : xs.drop (xs.length - (i + 1)) = a :: xs.drop (xs.length - i) := by
  have hi : i < xs.length := by have := (List.getElem?_eq_some_iff.mp h).1; rwa [List.length_reverse] at this
  rw [List.getElem?_reverse hi] at h
  have e : xs.length - (i + 1) = xs.length - 1 - i := by omega
  obtain ⟨hl, ha⟩ := List.getElem?_eq_some_iff.mp h
  rw [e, List.drop_eq_getElem_cons hl, ha]
  congr 2; omega
theorem pure_sign_at (ds : List PyData) (r : Res) (h : F_sign_at ds r) (B0 B : Hp) : SD K B0 B (t_sign_at K) (startR N_sign_at ds) (fin r) := by
  obtain ⟨d, xs, t, b, n, m, rfl, hs, hx, ht, hb, hm, hz, rfl⟩ := h
  unfold t_sign_at
  refine sd_seq (sd_asg (ed_var rfl) (gd_pair (d := .int t) (e := .int b)) ?_)
  apply sd_seq; apply sd_set; (case h => walk_at "ev" )
  apply sd_seq; apply sd_set; (case h => walk_at "ev" )
  refine sd_seq (sd_for (id_revA (ed_var rfl) hs) (fun i ρ => ∃ z, ρ = [some (.d d), some (.d (pD (t, b))), some (.d (.int t)), some (.d (.int b)), some (.d (.int (hor t b (xs.drop (xs.length - i))).1)), some (.d (.int (hor t b (xs.drop (xs.length - i))).2)), z]) ⟨none, ?_⟩ ?_ ?_)
  · rw [Nat.sub_zero, List.drop_length]; rfl
  · rintro i x ρ' hi ⟨z, rfl⟩
    have hi' : (rD xs.reverse)[i]? = some x := by unfold rD; rw [List.map_reverse]; exact hi
    obtain ⟨a, ha, rfl⟩ := rD_get hi'
    have hlt : i < xs.length := by have := (List.getElem?_eq_some_iff.mp ha).1; rwa [List.length_reverse] at this
    refine ⟨_, gd_name, ?_⟩
    have e := rev_drop ha
    have hmem : a ∈ xs := List.mem_reverse.mp (List.mem_of_getElem? ha)
    obtain ⟨b1, b2⟩ := hor_lt (n := n) ht hb hm (xs := xs.drop (xs.length - i)) fun y hy => hx y (List.mem_of_mem_drop hy)
    have hll : (xs.drop (xs.length - i)).length = i := by rw [List.length_drop]; omega
    rw [hll] at b1 b2
    have e1 : i * (m + 1) ≤ xs.length * (m + 1) := Nat.mul_le_mul_right _ (by omega)
    have e2 : i * (m + 1) = i * m + i := Nat.mul_succ _ _
    have e3 : (xs.length + 2) * (m + 1) = xs.length * (m + 1) + 2 * (m + 1) := Nat.add_mul _ _ _
    have ek : hor t b (xs.drop (xs.length - (i + 1))) = ((hor t b (xs.drop (xs.length - i))).1 * t + a * (hor t b (xs.drop (xs.length - i))).2, (hor t b (xs.drop (xs.length - i))).2 * b) := by rw [e]; rfl
    apply sd_seq; apply sd_set; (case h => walk_at "ev" <;> (first | (first | exact b1.cm ht (by omega) | exact (hx a hmem).cm b2 (by omega)) | walk_at "rt1"))
    apply sd_set; (case h => walk_at "ev" <;> (first | (exact b2.cm hb (by omega)) | walk_at "rt1"))
    exact ⟨_, by rw [ek]; rfl⟩
  · rintro ρ' ⟨z, rfl⟩
    show SD K B0 B _ _ _
    rw [List.length_reverse, rD_len, Nat.sub_self, List.drop_zero]
    apply sd_ret; (case h => walk_at "ev" <;> (first | (exact ⟨_, rfl, rfl⟩) | walk_at "rt1"))
    rfl
end
end Rt

namespace Rt
open PySem PySem.Spec PyProof.Rows L2 Evl
/-- what a division of very large numbers asks of the program and of the ground -/
structure Seer (P : Program) (base : Heap) : Prop where
  st : ∃ mc, base.Ns cStatics mc ∧ mc "sys.audit-hooks" = none ∧ mc "sys.dict" = none
  mods : ∃ mm, base.Ns sysModules mm ∧ mm "_pylong" = none
  main : ∃ mg bm ob, base.Ns mainGlobals mg ∧ mg "__builtins__" = some (.ref bm) ∧ base.get? bm = some ob ∧ ob.cls = .type "module" ∧ ob.dict = some builtinsNs
  tr : P.given.tree = none
/-- the frame that runs is a plain def's -/
def Plain (X : Cx) : Prop := ∃ (env : PySem.Env) (l : List PySem.Env), X.stack = env :: l ∧ env.scope.isGenerator = false ∧ env.scope.isCoroutine = false ∧ env.builtins = builtinsNs ∧ env.globals = mainGlobals
theorem op_fdivS {X : Cx} (S : Seer X.prog X.base) (hp : Plain X) (hr : Room 40 X.A) : OpR X (binaryOp .FloorDiv) (rI (fun _ j => j ≠ 0) fun i j => .int (i.fdiv j)) := by
  intro pins s σ H x y v u Q I rx ry h
  obtain ⟨i, j, rfl, rfl, hc, q⟩ := h
  obtain ⟨t, rfl⟩ := rx
  obtain ⟨t2, rfl⟩ := ry
  obtain ⟨env, l, h1, h2, h3, h4, h5⟩ := hp
  have hN : s.heap.NoSeer := Heap.NoSeer.keeps ⟨S.st, S.mods, I.ok.mod.blt, S.main⟩ I.bk
  have hA : SeerAt (model X.prog X.w) X.A s.heap := SeerAt.of (env := env) (l := l) hN S.tr (by rw [I.ok.frames, h1]) h2 h3 h4 h5
  have hd := hr.dp
  exact PyProof.Rows.floordiv_int hc ⟨.int _, H, I.tok _, ⟨_, rfl⟩, q⟩ (.inr (PylongRoom.of I.nolimit (by show X.A.depth + 100 < 1000; have : recursionLimit = 1000 := rfl; omega) hA))
/-- from the written part -/
theorem seer_of {P : Program} {K : PySem.W.Frag} {mg : Str → Option Value} {base : Heap} {bm : Addr} {obd : Data} {obs : Array (Option Value)} (ht : P.given.tree = none) (X : K.In base) (G : base.Ns mainGlobals mg)
    (k1 : PySem.W.nsOkIn K cStatics = true) (q1 : PySem.W.nsIn K cStatics "sys.audit-hooks" = some none) (q2 : PySem.W.nsIn K cStatics "sys.dict" = some none)
    (k3 : PySem.W.nsOkIn K sysModules = true) (q3 : PySem.W.nsIn K sysModules "_pylong" = some none)
    (q4 : PySem.W.nsIn K mainGlobals "__builtins__" = some (some (.ref bm))) (q5 : K.lookup bm = some ⟨.type "module", some builtinsNs, obd, obs⟩) : Seer P base := by
  have n1 := Heap.Ns.of_isNs (PySem.W.isNs_of_in X k1)
  have n3 := Heap.Ns.of_isNs (PySem.W.isNs_of_in X k3)
  exact ⟨⟨_, n1, PySem.W.ns_none_of X n1 q1, PySem.W.ns_none_of X n1 q2⟩, ⟨_, n3, PySem.W.ns_none_of X n3 q3⟩, ⟨mg, bm, _, G, PySem.W.mg_of X G q4, X _ _ q5, rfl, rfl⟩, ht⟩
end Rt

/-! polynomials as rows, lowest first; what is told of them is told of their values at whole numbers -/
namespace Rt
def ev : List Int → Int → Int
  | [], _ => 0
  | a :: p, x => a + x * ev p x
def addL : List Int → List Int → List Int
  | [], q => q
  | p, [] => p
  | a :: p, b :: q => (a + b) :: addL p q
def smul (k : Int) (p : List Int) : List Int := p.map fun a => k * a
def mulL : List Int → List Int → List Int
  | [], _ => []
  | a :: p, q => addL (smul a q) (0 :: mulL p q)
theorem ev_addL : ∀ (p q : List Int) (x : Int), ev (addL p q) x = ev p x + ev q x
  | [], q, x => by simp [addL, ev]
  | a :: p, [], x => by simp [addL, ev]
  | a :: p, b :: q, x => by
    show (a + b) + x * ev (addL p q) x = _
    rw [ev_addL p q x]; simp only [ev]; grind
theorem ev_smul (k : Int) : ∀ (p : List Int) (x : Int), ev (smul k p) x = k * ev p x
  | [], x => by simp [smul, ev]
  | a :: p, x => by
    show k * a + x * ev (smul k p) x = _
    rw [ev_smul k p x]; simp only [ev]; grind
theorem ev_mulL : ∀ (p q : List Int) (x : Int), ev (mulL p q) x = ev p x * ev q x
  | [], q, x => by simp [mulL, ev]
  | a :: p, q, x => by
    show ev (addL (smul a q) (0 :: mulL p q)) x = _
    rw [ev_addL, ev_smul]; simp only [ev]; rw [ev_mulL p q x]; grind
theorem addL_len : ∀ p q : List Int, (addL p q).length = max p.length q.length
  | [], q => by simp [addL]
  | a :: p, [] => by simp [addL]
  | a :: p, b :: q => by
    show (addL p q).length + 1 = max (p.length + 1) (q.length + 1)
    rw [addL_len p q]; omega
theorem mulL_len : ∀ {p q : List Int}, p ≠ [] → q ≠ [] → (mulL p q).length + 1 = p.length + q.length
  | [], _, h, _ => absurd rfl h
  | [a], q, _, hq => by
    show (addL (smul a q) (0 :: [])).length + 1 = 1 + q.length
    have := List.length_pos_iff.mpr hq
    rw [addL_len]; simp only [smul, List.length_map, List.length_cons, List.length_nil]; omega
  | a :: b :: p, q, _, hq => by
    show (addL (smul a q) (0 :: mulL (b :: p) q)).length + 1 = p.length + 1 + 1 + q.length
    have ih := mulL_len (p := b :: p) (q := q) (by simp) hq
    rw [addL_len]; simp only [smul, List.length_map, List.length_cons] at *; omega
/-- the last number -/
def lastZ (p : List Int) : Int := p.getLast?.getD 0
theorem lastZ_cons (a b : Int) (p : List Int) : lastZ (a :: b :: p) = lastZ (b :: p) := by simp [lastZ]
theorem lastZ_one (a : Int) : lastZ [a] = a := rfl
theorem lastZ_ne {p : List Int} (h : lastZ p ≠ 0) : p ≠ [] := by rintro rfl; exact h rfl
theorem lastZ_smul (k : Int) : ∀ p : List Int, lastZ (smul k p) = k * lastZ p
  | [] => by simp [smul, lastZ]
  | [a] => rfl
  | a :: b :: p => by
    show lastZ (k * a :: k * b :: smul k p) = k * lastZ (a :: b :: p)
    rw [lastZ_cons, lastZ_cons]; exact lastZ_smul k (b :: p)
theorem lastZ_addL_lt : ∀ {p q : List Int}, p.length < q.length → lastZ (addL p q) = lastZ q
  | [], q, _ => by simp [addL]
  | [a], [b], h => by simp at h
  | [a], b :: c :: q, _ => by simp [addL, lastZ]
  | a :: a' :: p, [b], h => by simp at h
  | a :: a' :: p, b :: b' :: q, h => by
    show lastZ ((a + b) :: (a' + b') :: addL p q) = _
    rw [lastZ_cons, lastZ_cons]
    exact lastZ_addL_lt (p := a' :: p) (q := b' :: q) (by simpa using h)
theorem lastZ_mulL : ∀ {p q : List Int}, p ≠ [] → q ≠ [] → lastZ (mulL p q) = lastZ p * lastZ q
  | [], _, h, _ => absurd rfl h
  | [a], q, _, hq => by
    show lastZ (addL (smul a q) [0]) = a * lastZ q
    cases q with
    | nil => exact absurd rfl hq
    | cons b q =>
      cases q with
      | nil => show lastZ [a * b + 0] = a * b; simp [lastZ]
      | cons c q =>
        show lastZ ((a * b + 0) :: addL (smul a (c :: q)) []) = _
        have : addL (smul a (c :: q)) [] = smul a (c :: q) := rfl
        rw [this, show smul a (c :: q) = a * c :: smul a q from rfl, lastZ_cons, lastZ_cons]
        exact lastZ_smul a (c :: q)
  | a :: b :: p, q, _, hq => by
    show lastZ (addL (smul a q) (0 :: mulL (b :: p) q)) = lastZ (a :: b :: p) * lastZ q
    have hl := mulL_len (p := b :: p) (q := q) (by simp) hq
    have hq0 := List.length_pos_iff.mpr hq
    have ih := lastZ_mulL (p := b :: p) (q := q) (by simp) hq
    rw [lastZ_addL_lt (by simp only [smul, List.length_map, List.length_cons] at *; omega), lastZ_cons a b p, ← ih]
    cases e : mulL (b :: p) q with
    | nil => rw [e] at hl; simp only [List.length_nil, List.length_cons] at hl; omega
    | cons c r => exact lastZ_cons 0 c r

/-! ### values far out -/
theorem far_ne : ∀ {p : List Int}, lastZ p ≠ 0 → ∃ N : Nat, ∀ n : Nat, N ≤ n → ev p n ≠ 0
  | [], h => absurd rfl h
  | [a], h => ⟨0, fun x _ => by
    have h' : a ≠ 0 := h
    simpa [ev] using h'⟩
  | a :: b :: p, h => by
    rw [lastZ_cons] at h
    obtain ⟨N, hN⟩ := far_ne h
    refine ⟨max N (a.natAbs + 1), fun n hn e => ?_⟩
    have hv := hN n (by omega)
    have e' : a + (n : Int) * ev (b :: p) n = 0 := e
    generalize ev (b :: p) n = v at *
    have e2 : ((n : Int) * v).natAbs = a.natAbs := by omega
    rw [Int.natAbs_mul, Int.natAbs_natCast] at e2
    have : n * 1 ≤ n * v.natAbs := Nat.mul_le_mul_left _ (by omega)
    omega
theorem far_gt : ∀ {p : List Int}, lastZ p ≠ 0 → 2 ≤ p.length → ∀ K : Nat, ∃ N : Nat, ∀ n : Nat, N ≤ n → K * n ^ (p.length - 2) < (ev p n).natAbs
  | [], h, _, _ => absurd rfl h
  | [a], _, h, _ => by simp at h
  | [a, b], h, _, K => by
    have hb : b ≠ 0 := h
    refine ⟨K + a.natAbs + 1, fun n hn => ?_⟩
    show K * n ^ 0 < (a + (n : Int) * (b + (n : Int) * 0)).natAbs
    have e2 : ((n : Int) * b).natAbs = n * b.natAbs := by rw [Int.natAbs_mul, Int.natAbs_natCast]
    have : n * 1 ≤ n * b.natAbs := Nat.mul_le_mul_left _ (by omega)
    rw [Int.mul_zero, Int.add_zero, Nat.pow_zero, Nat.mul_one]
    omega
  | a :: b :: c :: p, h, _, K => by
    rw [lastZ_cons] at h
    obtain ⟨N, hN⟩ := far_gt h (by simp) (K + 1)
    refine ⟨max N (a.natAbs + 1), fun n hn => ?_⟩
    have hv := hN n (by omega)
    show K * n ^ (p.length + 1) < (a + (n : Int) * ev (b :: c :: p) n).natAbs
    have hv' : (K + 1) * n ^ p.length < (ev (b :: c :: p) n).natAbs := hv
    generalize ev (b :: c :: p) n = v at *
    have e2 : ((n : Int) * v).natAbs = n * v.natAbs := by rw [Int.natAbs_mul, Int.natAbs_natCast]
    have h1 : n * ((K + 1) * n ^ p.length) ≤ n * v.natAbs := Nat.mul_le_mul_left _ (Nat.le_of_lt hv')
    have h2 : n * ((K + 1) * n ^ p.length) = K * n ^ (p.length + 1) + n ^ (p.length + 1) := by
      rw [Nat.pow_succ]; generalize n ^ p.length = q; grind
    rw [h2, ← e2] at h1
    generalize (n : Int) * v = m at *
    have h3 : n ^ 1 ≤ n ^ (p.length + 1) := Nat.pow_le_pow_right (by omega) (by omega)
    rw [Nat.pow_one] at h3
    omega
def absS : List Int → Nat
  | [] => 0
  | a :: p => a.natAbs + absS p
theorem ev_le : ∀ (p : List Int) {n : Nat}, 1 ≤ n → (ev p n).natAbs ≤ absS p * n ^ (p.length - 1)
  | [], n, _ => by simp [ev, absS]
  | [a], n, _ => by simp [ev, absS]
  | a :: b :: p, n, hn => by
    have ih := ev_le (b :: p) hn
    show (a + (n : Int) * ev (b :: p) n).natAbs ≤ (a.natAbs + absS (b :: p)) * n ^ (p.length + 1)
    have ih' : (ev (b :: p) n).natAbs ≤ absS (b :: p) * n ^ p.length := ih
    generalize ev (b :: p) n = v at *
    generalize absS (b :: p) = s at *
    have e2 : ((n : Int) * v).natAbs = n * v.natAbs := by rw [Int.natAbs_mul, Int.natAbs_natCast]
    have h1 : n * v.natAbs ≤ n * (s * n ^ p.length) := Nat.mul_le_mul_left _ ih'
    have h2 : n * (s * n ^ p.length) = s * n ^ (p.length + 1) := by rw [Nat.pow_succ]; generalize n ^ p.length = q; grind
    have h3 : 1 ≤ n ^ (p.length + 1) := Nat.pow_pos hn
    have h4 : a.natAbs * 1 ≤ a.natAbs * n ^ (p.length + 1) := Nat.mul_le_mul_left _ h3
    rw [Nat.add_mul]
    omega
theorem ev_tail (p : List Int) (x : Int) : ev p x = p.getD 0 0 + x * ev p.tail x := by
  cases p with
  | nil => simp [ev]
  | cons a p => rfl
theorem small_dvd {a : Int} {n : Nat} (h : a.natAbs < n) (k : Int) (e : a = n * k) : a = 0 := by
  have e2 : a.natAbs = n * k.natAbs := by rw [e, Int.natAbs_mul, Int.natAbs_natCast]
  by_cases z : k = 0
  · subst z; simpa using e
  · have : n * 1 ≤ n * k.natAbs := Nat.mul_le_mul_left _ (by omega)
    omega
/-- two rows of the same values far out are the same, but for noughts behind -/
theorem same_of : ∀ (i : Nat) {p q : List Int} {N : Nat}, (∀ n : Nat, N ≤ n → ev p n = ev q n) → p.getD i 0 = q.getD i 0
  | 0, p, q, N, h => by
    have e := h (max N ((p.getD 0 0 - q.getD 0 0).natAbs + 1)) (by omega)
    rw [ev_tail p, ev_tail q] at e
    generalize hn : max N ((p.getD 0 0 - q.getD 0 0).natAbs + 1) = n at *
    have := small_dvd (a := p.getD 0 0 - q.getD 0 0) (n := n) (by omega) (ev q.tail n - ev p.tail n) (by grind)
    omega
  | i + 1, p, q, N, h => by
    have h0 := same_of 0 h
    have hp : p.getD (i + 1) 0 = p.tail.getD i 0 := by cases p <;> simp
    have hq : q.getD (i + 1) 0 = q.tail.getD i 0 := by cases q <;> simp
    rw [hp, hq]
    refine same_of i (N := N + 1) fun n hn => ?_
    have e := h n (by omega)
    rw [ev_tail p, ev_tail q, h0] at e
    have e2 : (n : Int) * ev p.tail n = (n : Int) * ev q.tail n := by omega
    exact Int.eq_of_mul_eq_mul_left (by omega) e2
theorem lastZ_getD : ∀ {p : List Int}, p ≠ [] → p.getD (p.length - 1) 0 = lastZ p
  | [], h => absurd rfl h
  | [a], _ => rfl
  | a :: b :: p, _ => by
    rw [lastZ_cons, ← lastZ_getD (p := b :: p) (by simp)]; simp
theorem eq_of_same {p q : List Int} (hp : lastZ p ≠ 0) (hq : lastZ q ≠ 0) (h : ∀ i, p.getD i 0 = q.getD i 0) : p = q := by
  have np := lastZ_ne hp
  have nq := lastZ_ne hq
  have lp := List.length_pos_iff.mpr np
  have lq := List.length_pos_iff.mpr nq
  have e : p.length = q.length := by
    rcases Nat.lt_trichotomy p.length q.length with c | c | c
    · have := h (q.length - 1)
      rw [lastZ_getD nq, List.getD_eq_getElem?_getD, List.getElem?_eq_none_iff.mpr (by omega)] at this
      exact absurd this.symm hq
    · exact c
    · have := h (p.length - 1)
      rw [lastZ_getD np, List.getD_eq_getElem?_getD (l := q), List.getElem?_eq_none_iff.mpr (by omega)] at this
      exact absurd this hp
  apply List.ext_getElem e
  intro i h1 h2
  have := h i
  rwa [List.getD_eq_getElem?_getD, List.getD_eq_getElem?_getD, List.getElem?_eq_getElem h1, List.getElem?_eq_getElem h2] at this

/-! ### divisors of all numbers of a row -/
def cont : List Int → Nat
  | [] => 0
  | a :: p => Nat.gcd a.natAbs (cont p)
def DvL (d : Nat) (p : List Int) : Prop := ∀ i, (d : Int) ∣ p.getD i 0
theorem dvl_tail {d : Nat} {a : Int} {p : List Int} : DvL d (a :: p) ↔ (d : Int) ∣ a ∧ DvL d p := by
  constructor
  · intro h
    exact ⟨by simpa using h 0, fun i => by simpa using h (i + 1)⟩
  · rintro ⟨h1, h2⟩ i
    cases i with
    | zero => simpa using h1
    | succ i => simpa using h2 i
theorem dvl_nil {d : Nat} : DvL d [] := fun i => by simp
theorem dvl_cont : ∀ {d : Nat} {p : List Int}, DvL d p ↔ d ∣ cont p
  | d, [] => ⟨fun _ => Nat.dvd_zero d, fun _ => dvl_nil⟩
  | d, a :: p => by
    rw [dvl_tail, dvl_cont]
    show _ ↔ d ∣ Nat.gcd a.natAbs (cont p)
    rw [Nat.dvd_gcd_iff, Int.ofNat_dvd_left]
def Pr (p : Nat) : Prop := 2 ≤ p ∧ ∀ a b : Int, (p : Int) ∣ a * b → (p : Int) ∣ a ∨ (p : Int) ∣ b
theorem pr_of {n : Nat} (h2 : 2 ≤ n) (h : ∀ d, d ∣ n → d = 1 ∨ d = n) : Pr n := ⟨h2, fun a b hab => by
  rw [Int.ofNat_dvd_left, Int.natAbs_mul] at hab
  rw [Int.ofNat_dvd_left, Int.ofNat_dvd_left]
  rcases h _ (Nat.gcd_dvd_left n a.natAbs) with c | c
  · exact .inr (Nat.Coprime.dvd_of_dvd_mul_left c hab)
  · exact .inl (Nat.gcd_eq_left_iff_dvd.mp c)⟩
theorem has_pr : ∀ (n : Nat), 2 ≤ n → ∃ p, Pr p ∧ p ∣ n := fun n => by
  induction n using Nat.strongRecOn with
  | ind n ih =>
    intro h2
    by_cases h : ∃ d, d ∣ n ∧ d ≠ 1 ∧ d ≠ n
    · obtain ⟨d, h1, h3, h4⟩ := h
      have hd0 : d ≠ 0 := by rintro rfl; have := Nat.eq_zero_of_zero_dvd h1; omega
      have hl := Nat.le_of_dvd (by omega) h1
      obtain ⟨p, hp, hd⟩ := ih d (by omega) (by omega)
      exact ⟨p, hp, Nat.dvd_trans hd h1⟩
    · refine ⟨n, pr_of h2 fun d hd => ?_, Nat.dvd_refl n⟩
      by_cases h5 : d = 1
      · exact .inl h5
      · by_cases h6 : d = n
        · exact .inr h6
        · exact absurd ⟨d, hd, h5, h6⟩ h
theorem getD_addL : ∀ (p q : List Int) (i : Nat), (addL p q).getD i 0 = p.getD i 0 + q.getD i 0
  | [], q, i => by simp [addL]
  | a :: p, [], i => by simp [addL]
  | a :: p, b :: q, 0 => by simp [addL]
  | a :: p, b :: q, i + 1 => by
    have := getD_addL p q i
    simpa [addL] using this
theorem getD_smul (k : Int) (p : List Int) (i : Nat) : (smul k p).getD i 0 = k * p.getD i 0 := by
  unfold smul
  rw [List.getD_eq_getElem?_getD, List.getD_eq_getElem?_getD, List.getElem?_map]
  cases p[i]? <;> simp
theorem mul_cons (p : List Int) (b : Int) (q : List Int) (i : Nat) : (mulL p (b :: q)).getD i 0 = b * p.getD i 0 + (0 :: mulL p q).getD i 0 := by
  induction p generalizing i with
  | nil => cases i <;> simp [mulL]
  | cons a p ih =>
    show (addL (smul a (b :: q)) (0 :: mulL p (b :: q))).getD i 0 = b * (a :: p).getD i 0 + (0 :: addL (smul a q) (0 :: mulL p q)).getD i 0
    rw [getD_addL]
    cases i with
    | zero => simp [smul]; grind
    | succ i =>
      have := ih i
      simp only [List.getD_cons_succ] at *
      rw [this, getD_addL, show smul a (b :: q) = a * b :: smul a q from rfl, List.getD_cons_succ]
      omega
theorem gauss {p : Nat} (hp : Pr p) : ∀ (n : Nat) (f g : List Int), f.length + g.length ≤ n → DvL p (mulL f g) → DvL p f ∨ DvL p g
  | _, [], _, _, _ => .inl dvl_nil
  | _, _ :: _, [], _, _ => .inr dvl_nil
  | 0, a :: f, b :: g, h, _ => by simp at h
  | n + 1, a :: f, b :: g, h, hd => by
    have h0 : (p : Int) ∣ a * b := by
      have := hd 0
      show (p : Int) ∣ a * b
      have e : (mulL (a :: f) (b :: g)).getD 0 0 = a * b := by
        show (addL (smul a (b :: g)) (0 :: mulL f (b :: g))).getD 0 0 = a * b
        rw [getD_addL]; simp [smul]
      rwa [e] at this
    simp only [List.length_cons] at h
    rcases hp.2 a b h0 with ha | hb
    · have h1 : DvL p (mulL f (b :: g)) := fun i => by
        have := hd (i + 1)
        have e : (mulL (a :: f) (b :: g)).getD (i + 1) 0 = a * (b :: g).getD (i + 1) 0 + (mulL f (b :: g)).getD i 0 := by
          show (addL (smul a (b :: g)) (0 :: mulL f (b :: g))).getD (i + 1) 0 = _
          rw [getD_addL, getD_smul]; simp
        rw [e] at this
        have h2 : (p : Int) ∣ a * (b :: g).getD (i + 1) 0 := Int.dvd_trans ha (Int.dvd_mul_right _ _)
        exact (Int.dvd_iff_dvd_of_dvd_add this).mp h2
      rcases gauss hp n f (b :: g) (by simp only [List.length_cons]; omega) h1 with c | c
      · exact .inl (dvl_tail.mpr ⟨ha, c⟩)
      · exact .inr c
    · have h1 : DvL p (mulL (a :: f) g) := fun i => by
        have := hd (i + 1)
        rw [mul_cons, List.getD_cons_succ] at this
        have h2 : (p : Int) ∣ b * (a :: f).getD (i + 1) 0 := Int.dvd_trans hb (Int.dvd_mul_right _ _)
        exact (Int.dvd_iff_dvd_of_dvd_add this).mp h2
      rcases gauss hp n (a :: f) g (by simp only [List.length_cons]; omega) h1 with c | c
      · exact .inl c
      · exact .inr (dvl_tail.mpr ⟨hb, c⟩)
theorem cont_mul {f g : List Int} (hf : cont f = 1) (hg : cont g = 1) : cont (mulL f g) = 1 := by
  by_cases h : cont (mulL f g) = 1
  · exact h
  · exfalso
    obtain ⟨p, hp, hd⟩ : ∃ p, Pr p ∧ p ∣ cont (mulL f g) := by
      by_cases z : cont (mulL f g) = 0
      · obtain ⟨p, hp, _⟩ := has_pr 2 (by decide)
        exact ⟨p, hp, by rw [z]; exact Nat.dvd_zero p⟩
      · exact has_pr _ (by omega)
    rcases gauss hp _ f g (Nat.le_refl _) (dvl_cont.mpr hd) with c | c
    · have := dvl_cont.mp c
      rw [hf] at this
      have := Nat.dvd_one.mp this
      have := hp.1; omega
    · have := dvl_cont.mp c
      rw [hg] at this
      have := Nat.dvd_one.mp this
      have := hp.1; omega
theorem cont_smul (k : Int) : ∀ p : List Int, cont (smul k p) = k.natAbs * cont p
  | [] => by simp [smul, cont]
  | a :: p => by
    show Nat.gcd (k * a).natAbs (cont (smul k p)) = k.natAbs * Nat.gcd a.natAbs (cont p)
    rw [cont_smul k p, Int.natAbs_mul, Nat.gcd_mul_left]

/-! ### one row divides another, but for a whole number -/
def Dv (p q : List Int) : Prop := ∃ a : Int, a ≠ 0 ∧ ∀ x : Int, ev p x ∣ a * ev q x
theorem Dv.refl (p : List Int) : Dv p p := ⟨1, by decide, fun x => ⟨1, by grind⟩⟩
theorem Dv.len {p q : List Int} (h : Dv p q) (hp : lastZ p ≠ 0) (hq : lastZ q ≠ 0) : p.length ≤ q.length := by
  by_cases c : p.length ≤ q.length
  · exact c
  · exfalso
    obtain ⟨a, ha, hd⟩ := h
    have lq := List.length_pos_iff.mpr (lastZ_ne hq)
    obtain ⟨N1, h1⟩ := far_ne hq
    obtain ⟨N2, h2⟩ := far_gt hp (by omega) (a.natAbs * absS q)
    have n1 := h1 (N1 + N2 + 1) (by omega)
    have n2 := h2 (N1 + N2 + 1) (by omega)
    have n3 := ev_le q (n := N1 + N2 + 1) (by omega)
    have n4 := hd ((N1 + N2 + 1 : Nat) : Int)
    have n0 : 1 ≤ N1 + N2 + 1 := by omega
    generalize N1 + N2 + 1 = n at *
    have n5 : (ev p n).natAbs ≤ a.natAbs * (ev q n).natAbs := by
      rw [← Int.natAbs_mul]
      refine Nat.le_of_dvd ?_ (Int.natAbs_dvd_natAbs.mpr n4)
      rw [Int.natAbs_mul]
      exact Nat.mul_pos (by omega) (by omega)
    have n6 : a.natAbs * (ev q n).natAbs ≤ a.natAbs * (absS q * n ^ (q.length - 1)) := Nat.mul_le_mul_left _ n3
    have n7 : n ^ (q.length - 1) ≤ n ^ (p.length - 2) := Nat.pow_le_pow_right n0 (by omega)
    have n8 : a.natAbs * (absS q * n ^ (q.length - 1)) ≤ a.natAbs * absS q * n ^ (p.length - 2) := by
      rw [← Nat.mul_assoc]; exact Nat.mul_le_mul_left _ n7
    omega
/-- pigeons: none of finitely many is nought far out, unless one is nought everywhere -/
theorem far_all (f : Int → Nat → Int) (hf : ∀ h : Int, (∃ N : Nat, ∀ n : Nat, N ≤ n → f h n ≠ 0) ∨ ∀ n : Nat, 1 ≤ n → f h n = 0) : ∀ M : Nat, (∃ N : Nat, ∀ h : Int, h.natAbs ≤ M → ∀ n : Nat, N ≤ n → f h n ≠ 0) ∨ ∃ h : Int, h.natAbs ≤ M ∧ ∀ n : Nat, 1 ≤ n → f h n = 0
  | 0 => by
    rcases hf 0 with ⟨N, hN⟩ | h
    · exact .inl ⟨N, fun h hh n hn => by rw [show h = 0 by omega]; exact hN n hn⟩
    · exact .inr ⟨0, by decide, h⟩
  | M + 1 => by
    rcases far_all f hf M with ⟨N, hN⟩ | ⟨h, h1, h2⟩
    · rcases hf (M + 1 : Nat) with ⟨N1, hN1⟩ | h
      · rcases hf (-(M + 1 : Nat)) with ⟨N2, hN2⟩ | h
        · refine .inl ⟨max N (max N1 N2), fun h hh n hn => ?_⟩
          by_cases c : h.natAbs ≤ M
          · exact hN h c n (by omega)
          · by_cases d : h = ((M + 1 : Nat) : Int)
            · rw [d]; exact hN1 n (by omega)
            · rw [show h = -((M + 1 : Nat) : Int) by omega]; exact hN2 n (by omega)
        · exact .inr ⟨_, by omega, h⟩
      · exact .inr ⟨_, by omega, h⟩
    · exact .inr ⟨h, by omega, h2⟩
def trimL (p : List Int) : List Int := (p.reverse.dropWhile (· == 0)).reverse
theorem trimL_nil : trimL [] = [] := rfl
theorem trimL_snoc (p : List Int) (a : Int) : trimL (p ++ [a]) = if a = 0 then trimL p else p ++ [a] := by
  unfold trimL
  rw [List.reverse_append, List.reverse_cons, List.reverse_nil, List.nil_append, List.singleton_append, List.dropWhile_cons]
  by_cases h : a = 0
  · subst h; simp
  · have h2 : (a == 0) = false := by simpa using h
    rw [if_neg (by rw [h2]; decide), if_neg h]; simp
theorem ev_snoc (p : List Int) (a x : Int) : ev (p ++ [a]) x = ev p x + a * x ^ p.length := by
  induction p with
  | nil => simp [ev]
  | cons b p ih =>
    show b + x * ev (p ++ [a]) x = b + x * ev p x + a * x ^ (p.length + 1)
    rw [ih, Int.pow_succ]; generalize x ^ p.length = q; grind
theorem snoc_ind {P : List Int → Prop} (h0 : P []) (h1 : ∀ p a, P p → P (p ++ [a])) : ∀ p, P p := fun p => by
  have : ∀ q : List Int, P q.reverse := fun q => by
    induction q with
    | nil => exact h0
    | cons a q ih => rw [List.reverse_cons]; exact h1 _ _ ih
  have e := this p.reverse
  rwa [List.reverse_reverse] at e
theorem ev_trimL (p : List Int) (x : Int) : ev (trimL p) x = ev p x := by
  revert p
  refine snoc_ind rfl fun p a ih => ?_
  rw [trimL_snoc]
  split
  · rename_i h; subst h; rw [ih, ev_snoc]; simp
  · rfl
theorem trimL_last (p : List Int) : trimL p = [] ∨ lastZ (trimL p) ≠ 0 := by
  revert p
  refine snoc_ind (.inl rfl) fun p a ih => ?_
  rw [trimL_snoc]
  split
  · exact ih
  · rename_i h
    right; unfold lastZ; simpa using h
theorem trimL_pre (p : List Int) : ∃ k, p = trimL p ++ List.replicate k 0 := by
  revert p
  refine snoc_ind ⟨0, rfl⟩ fun p a ih => ?_
  rw [trimL_snoc]
  split
  · rename_i h
    subst h
    obtain ⟨k, hk⟩ := ih
    refine ⟨k + 1, ?_⟩
    rw [List.replicate_succ', ← List.append_assoc, ← hk]
  · exact ⟨0, by simp⟩
theorem trimL_of : ∀ {p : List Int}, lastZ p ≠ 0 → trimL p = p := fun {p} => by
  refine snoc_ind (P := fun p => lastZ p ≠ 0 → trimL p = p) (fun h => absurd rfl h) (fun p a _ h => ?_) p
  have : a ≠ 0 := by unfold lastZ at h; simpa using h
  rw [trimL_snoc, if_neg this]
/-- D and G divide each other, both are without a common divisor, both last numbers above nought: the same -/
theorem eq_of_dv {D G : List Int} (h1 : Dv D G) (h2 : Dv G D) (hD : 0 < lastZ D) (hG : 0 < lastZ G) (cD : cont D = 1) (cG : cont G = 1) : D = G := by
  obtain ⟨a, ha, da⟩ := h1
  obtain ⟨b, hb, db⟩ := h2
  obtain ⟨N1, f1⟩ := far_ne (p := D) (by omega)
  obtain ⟨N2, f2⟩ := far_ne (p := G) (by omega)
  -- h is what a * G is of D; it divides a * b
  let f : Int → Nat → Int := fun h n => ev (addL (smul a G) (smul (-h) D)) n
  have hf : ∀ h : Int, (∃ N : Nat, ∀ n : Nat, N ≤ n → f h n ≠ 0) ∨ ∀ n : Nat, 1 ≤ n → f h n = 0 := fun h => by
    rcases trimL_last (addL (smul a G) (smul (-h) D)) with z | z
    · exact .inr fun n _ => by show ev (addL (smul a G) (smul (-h) D)) n = 0; rw [← ev_trimL, z]; rfl
    · obtain ⟨N, hN⟩ := far_ne z
      exact .inl ⟨N, fun n hn => by show ev (addL (smul a G) (smul (-h) D)) n ≠ 0; rw [← ev_trimL]; exact hN n hn⟩
  rcases far_all f hf (a * b).natAbs with ⟨N, hN⟩ | ⟨h, _, hz⟩
  · exfalso
    have g1 := f1 (N + N1 + N2) (by omega)
    have g2 := f2 (N + N1 + N2) (by omega)
    obtain ⟨k, hk⟩ := da ((N + N1 + N2 : Nat) : Int)
    obtain ⟨l, hl⟩ := db ((N + N1 + N2 : Nat) : Int)
    have hn := fun h hh => hN h hh (N + N1 + N2) (by omega)
    have fe : ∀ h : Int, f h (N + N1 + N2) = a * ev G ((N + N1 + N2 : Nat) : Int) + (-h) * ev D ((N + N1 + N2 : Nat) : Int) := fun h => by
      show ev (addL (smul a G) (smul (-h) D)) _ = _
      rw [ev_addL, ev_smul, ev_smul]
    generalize ((N + N1 + N2 : Nat) : Int) = x at *
    -- a G = D k, b D = G l: k * l = a * b
    have e : k * l = a * b := by
      have e1 : ev D x * (ev G x * (k * l)) = ev D x * (ev G x * (a * b)) := by
        have : (ev D x * k) * (ev G x * l) = (a * ev G x) * (b * ev D x) := by rw [← hk, ← hl]
        grind
      exact Int.eq_of_mul_eq_mul_left g2 (Int.eq_of_mul_eq_mul_left g1 e1)
    have kb : k.natAbs ≤ (a * b).natAbs := by
      rw [← e, Int.natAbs_mul]
      have : l ≠ 0 := by rintro rfl; rw [Int.mul_zero] at e; exact absurd e.symm (Int.mul_ne_zero ha hb)
      exact Nat.le_mul_of_pos_right _ (by omega)
    refine hn k kb ?_
    rw [fe, hk]; grind
  · have ev0 : ∀ n : Nat, 1 ≤ n → ev (smul a G) n = ev (smul h D) n := fun n hn => by
      have := hz n hn
      have e : ev (addL (smul a G) (smul (-h) D)) n = 0 := this
      rw [ev_addL, ev_smul, ev_smul] at e
      rw [ev_smul, ev_smul]; grind
    have h0 : h ≠ 0 := by
      rintro rfl
      have := ev0 (N2 + 1) (by omega)
      rw [ev_smul, ev_smul, Int.zero_mul] at this
      rcases Int.mul_eq_zero.mp this with c | c
      · exact ha c
      · exact f2 _ (by omega) c
    have es : smul a G = smul h D := eq_of_same (by rw [lastZ_smul]; exact Int.mul_ne_zero ha (by omega)) (by rw [lastZ_smul]; exact Int.mul_ne_zero h0 (by omega)) fun i => same_of i ev0
    have ec := congrArg cont es
    rw [cont_smul, cont_smul, cG, cD, Nat.mul_one, Nat.mul_one] at ec
    have el := congrArg lastZ es
    rw [lastZ_smul, lastZ_smul] at el
    have eh : h = a := by
      rcases (by omega : h = a ∨ h = -a) with c | c
      · exact c
      · exfalso
        subst c
        have : a * (lastZ G + lastZ D) = 0 := by grind
        rcases Int.mul_eq_zero.mp this with d | d
        · exact ha d
        · omega
    subst eh
    refine eq_of_same (by omega) (by omega) fun i => ?_
    have : (smul h G).getD i 0 = (smul h D).getD i 0 := by rw [es]
    rw [getD_smul, getD_smul] at this
    exact (Int.eq_of_mul_eq_mul_left ha this).symm
end Rt

namespace Rt
theorem lastZ_snoc (p : List Int) (a : Int) : lastZ (p ++ [a]) = a := by unfold lastZ; simp
theorem snoc_of {p : List Int} (h : p ≠ []) : ∃ q, p = q ++ [lastZ p] := by
  refine ⟨p.dropLast, ?_⟩
  have e := (List.dropLast_concat_getLast h).symm
  have : lastZ p = p.getLast h := by unfold lastZ; rw [List.getLast?_eq_some_getLast h]; rfl
  rw [this]; exact e
/-- without a common divisor, the last number above nought -/
def Good (p : List Int) : Prop := 0 < lastZ p ∧ cont p = 1
theorem Good.ne {p : List Int} (h : Good p) : lastZ p ≠ 0 := by have := h.1; omega
/-! ### bare -/
def barS (p : List Int) : Int := if lastZ p < 0 then -(cont p : Int) else (cont p : Int)
def bareL (p : List Int) : List Int := p.map fun a => a.fdiv (barS p)
theorem cont_pos : ∀ {p : List Int}, lastZ p ≠ 0 → 0 < cont p
  | [], h => absurd rfl h
  | [a], h => by
    have h' : a ≠ 0 := h
    show 0 < Nat.gcd a.natAbs 0
    rw [Nat.gcd_zero_right]; omega
  | a :: b :: p, h => by
    rw [lastZ_cons] at h
    exact Nat.gcd_pos_of_pos_right _ (cont_pos h)
theorem barS_ne {p : List Int} (h : lastZ p ≠ 0) : barS p ≠ 0 := by
  have := cont_pos h
  unfold barS; split <;> omega
theorem barS_abs (p : List Int) : (barS p).natAbs = cont p := by unfold barS; split <;> omega
theorem barS_dvd {p : List Int} {a : Int} (ha : a ∈ p) : barS p ∣ a := by
  have h : DvL (cont p) p := dvl_cont.mpr (Nat.dvd_refl _)
  obtain ⟨i, hi⟩ := List.getElem?_of_mem ha
  have := h i
  rw [List.getD_eq_getElem?_getD, hi] at this
  unfold barS; split
  · exact Int.neg_dvd.mpr this
  · exact this
theorem smul_bare (p : List Int) : smul (barS p) (bareL p) = p := by
  unfold smul bareL
  rw [List.map_map]
  have : ∀ a ∈ p, ((fun a => barS p * a) ∘ fun a => a.fdiv (barS p)) a = a := fun a ha => by
    show barS p * a.fdiv (barS p) = a
    rw [Int.fdiv_eq_ediv_of_dvd (barS_dvd ha), Int.mul_ediv_cancel' (barS_dvd ha)]
  rw [List.map_congr_left this]; exact List.map_id' p
theorem bare_good {p : List Int} (h : lastZ p ≠ 0) : Good (bareL p) := by
  have e := smul_bare p
  have s0 := barS_ne h
  have el := congrArg lastZ e
  have ec := congrArg cont e
  rw [lastZ_smul] at el
  rw [cont_smul, barS_abs] at ec
  have cp := cont_pos h
  refine ⟨?_, Nat.eq_of_mul_eq_mul_left cp (by rw [ec, Nat.mul_one])⟩
  by_cases c : lastZ p < 0
  · have s1 : barS p < 0 := by unfold barS; rw [if_pos c]; omega
    by_cases q : 0 < lastZ (bareL p)
    · exact q
    · have := Int.mul_nonneg_of_nonpos_of_nonpos (Int.le_of_lt s1) (Int.not_lt.mp q)
      omega
  · have s1 : 0 < barS p := by unfold barS; rw [if_neg c]; omega
    by_cases q : 0 < lastZ (bareL p)
    · exact q
    · have := Int.mul_nonpos_of_nonneg_of_nonpos (Int.le_of_lt s1) (Int.not_lt.mp q)
      omega
theorem ev_bare (p : List Int) (x : Int) : barS p * ev (bareL p) x = ev p x := by
  have := ev_smul (barS p) (bareL p) x
  rw [smul_bare] at this; exact this.symm
theorem smul_inj {k : Int} (hk : k ≠ 0) {p q : List Int} (h : smul k p = smul k q) : p = q := by
  unfold smul at h
  refine (List.map_inj_right fun a b e => Int.eq_of_mul_eq_mul_left hk e).mp h
theorem bare_smul {k : Int} (hk : k ≠ 0) {p : List Int} (h : Good p) : bareL (smul k p) = p := by
  have hl : lastZ (smul k p) = k * lastZ p := lastZ_smul k p
  have hc : cont (smul k p) = k.natAbs := by rw [cont_smul, h.2, Nat.mul_one]
  have hs : barS (smul k p) = k := by
    unfold barS
    rw [hl, hc]
    by_cases c : k < 0
    · rw [if_pos (Int.mul_neg_of_neg_of_pos c h.1)]; omega
    · have := Int.mul_pos (show 0 < k by omega) h.1
      rw [if_neg (by omega)]; omega
  have e := smul_bare (smul k p)
  rw [hs] at e
  exact smul_inj hk e
theorem bare_nil : bareL [] = [] := rfl
/-! ### lowered -/
def lowL (row other : List Int) (f : Int) : List Int := row.take (row.length - other.length) ++ (List.zipWith (fun a b => a - f * b) (row.drop (row.length - other.length)) other).dropLast
theorem low_len {row other : List Int} (f : Int) (h : other.length ≤ row.length) (h0 : other ≠ []) : (lowL row other f).length + 1 = row.length := by
  have := List.length_pos_iff.mpr h0
  unfold lowL
  rw [List.length_append, List.length_take, List.length_dropLast, List.length_zipWith, List.length_drop]
  omega
theorem ev_app (p q : List Int) (x : Int) : ev (p ++ q) x = ev p x + x ^ p.length * ev q x := by
  induction p with
  | nil => simp [ev]
  | cons a p ih =>
    show a + x * ev (p ++ q) x = a + x * ev p x + x ^ (p.length + 1) * ev q x
    rw [ih, Int.pow_succ]; generalize x ^ p.length = r; grind
theorem ev_zip (f x : Int) : ∀ {p q : List Int}, p.length = q.length → ev (List.zipWith (fun a b => a - f * b) p q) x = ev p x - f * ev q x
  | [], [], _ => by simp [ev]
  | a :: p, b :: q, h => by
    show (a - f * b) + x * ev (List.zipWith _ p q) x = a + x * ev p x - f * (b + x * ev q x)
    rw [ev_zip f x (p := p) (q := q) (by simpa using h)]; grind
  | [], _ :: _, h => by simp at h
  | _ :: _, [], h => by simp at h
theorem lastZ_zip (f : Int) : ∀ {p q : List Int}, p.length = q.length → p ≠ [] → lastZ (List.zipWith (fun a b => a - f * b) p q) = lastZ p - f * lastZ q
  | [], _, _, h => absurd rfl h
  | [a], [b], _, _ => rfl
  | [a], [], h, _ => by simp at h
  | [a], _ :: _ :: _, h, _ => by simp at h
  | a :: a' :: p, [], h, _ => by simp at h
  | a :: a' :: p, [b], h, _ => by simp at h
  | a :: a' :: p, b :: b' :: q, h, _ => by
    show lastZ ((a - f * b) :: (a' - f * b') :: List.zipWith _ p q) = _
    rw [lastZ_cons, lastZ_cons, lastZ_cons]
    exact lastZ_zip f (p := a' :: p) (q := b' :: q) (by simpa using h) (by simp)
theorem lastZ_drop {p : List Int} {k : Nat} (h : k < p.length) : lastZ (p.drop k) = lastZ p := by
  unfold lastZ
  rw [List.getLast?_drop, if_neg (by omega)]
theorem ev_dropLast {p : List Int} (h : p ≠ []) (h0 : lastZ p = 0) (x : Int) : ev p.dropLast x = ev p x := by
  obtain ⟨q, hq⟩ := snoc_of h
  rw [h0] at hq
  rw [hq, List.dropLast_concat, ev_snoc, Int.zero_mul, Int.add_zero]
theorem ev_low {row other : List Int} {f : Int} (h : other.length ≤ row.length) (h0 : other ≠ []) (hf : lastZ row = f * lastZ other) (x : Int) : ev (lowL row other f) x = ev row x - f * (x ^ (row.length - other.length) * ev other x) := by
  have lo := List.length_pos_iff.mpr h0
  have hl : (row.drop (row.length - other.length)).length = other.length := by rw [List.length_drop]; omega
  have hne : row.drop (row.length - other.length) ≠ [] := by intro z; rw [z] at hl; rw [← hl] at lo; exact absurd lo (by simp)
  have hz : lastZ (List.zipWith (fun a b => a - f * b) (row.drop (row.length - other.length)) other) = 0 := by
    rw [lastZ_zip f hl hne, lastZ_drop (p := row) (k := row.length - other.length) (by omega), hf]; omega
  have hzne : List.zipWith (fun a b => a - f * b) (row.drop (row.length - other.length)) other ≠ [] := by
    intro z
    have := congrArg List.length z
    rw [List.length_zipWith, hl, List.length_nil] at this; omega
  have e := ev_app (row.take (row.length - other.length)) (row.drop (row.length - other.length)) x
  rw [List.take_append_drop] at e
  have ht : (row.take (row.length - other.length)).length = row.length - other.length := by rw [List.length_take]; omega
  unfold lowL
  rw [ev_app, ev_dropLast hzne hz, ev_zip f x hl, e, ht]
  generalize x ^ (row.length - other.length) = r; grind
/-! ### the remainder -/
def gcdI (a b : Int) : Int := (Nat.gcd a.natAbs b.natAbs : Nat)
def remStep (left other : List Int) : List Int :=
  trimL (lowL (left.map fun n => n * (lastZ other).fdiv (gcdI (lastZ left) (lastZ other))) other ((lastZ left).fdiv (gcdI (lastZ left) (lastZ other))))
def remL : Nat → List Int → List Int → List Int
  | 0, left, _ => left
  | n + 1, left, other => if left.length < other.length then left else remL n (remStep left other) other
theorem map_smul (k : Int) (p : List Int) : (p.map fun n => n * k) = smul k p := by
  unfold smul; exact List.map_congr_left fun a _ => Int.mul_comm a k
theorem gcdI_pos {a b : Int} (h : b ≠ 0) : 0 < gcdI a b := by
  unfold gcdI
  have := Nat.gcd_pos_of_pos_right a.natAbs (show 0 < b.natAbs by omega)
  omega
theorem gcdI_dl (a b : Int) : gcdI a b ∣ a := Int.ofNat_dvd_left.mpr (Nat.gcd_dvd_left _ _)
theorem gcdI_dr (a b : Int) : gcdI a b ∣ b := Int.ofNat_dvd_left.mpr (Nat.gcd_dvd_right _ _)
theorem fdiv_gcd {a c : Int} (h : c ∣ a) : c * a.fdiv c = a := by rw [Int.fdiv_eq_ediv_of_dvd h, Int.mul_ediv_cancel' h]
theorem remStep_ok {left other : List Int} (ho : lastZ other ≠ 0) (h : other.length ≤ left.length) :
    (remStep left other = [] ∨ lastZ (remStep left other) ≠ 0) ∧ (remStep left other).length < left.length ∧ ∃ a : Int, a ≠ 0 ∧ ∀ x : Int, ∃ u, a * ev left x = u * ev other x + ev (remStep left other) x := by
  have c0 := gcdI_pos (a := lastZ left) ho
  have e1 := fdiv_gcd (gcdI_dl (lastZ left) (lastZ other))
  have e2 := fdiv_gcd (gcdI_dr (lastZ left) (lastZ other))
  refine ⟨trimL_last _, ?_, ?_⟩
  · obtain ⟨k, hk⟩ := trimL_pre (lowL (left.map fun n => n * (lastZ other).fdiv (gcdI (lastZ left) (lastZ other))) other ((lastZ left).fdiv (gcdI (lastZ left) (lastZ other))))
    have hl := congrArg List.length hk
    have l2 := low_len (row := left.map fun n => n * (lastZ other).fdiv (gcdI (lastZ left) (lastZ other))) (other := other) ((lastZ left).fdiv (gcdI (lastZ left) (lastZ other))) (by rw [List.length_map]; exact h) (lastZ_ne ho)
    rw [List.length_append, List.length_replicate] at hl
    rw [List.length_map] at l2
    unfold remStep; omega
  · unfold remStep
    generalize gcdI (lastZ left) (lastZ other) = c at *
    have hf : lastZ (left.map fun n => n * (lastZ other).fdiv c) = (lastZ left).fdiv c * lastZ other := by
      rw [map_smul, lastZ_smul]
      generalize (lastZ left).fdiv c = p at *
      generalize (lastZ other).fdiv c = q at *
      rw [← e1, ← e2]; grind
    refine ⟨(lastZ other).fdiv c, ?_, fun x => ⟨(lastZ left).fdiv c * x ^ (left.length - other.length), ?_⟩⟩
    · intro z; rw [z, Int.mul_zero] at e2; exact ho e2.symm
    · rw [ev_trimL, ev_low (by rw [List.length_map]; exact h) (lastZ_ne ho) hf, map_smul, ev_smul]
      have : (smul ((lastZ other).fdiv c) left).length = left.length := by unfold smul; rw [List.length_map]
      rw [this]
      generalize x ^ (left.length - other.length) = r
      grind
theorem rem_ok : ∀ (n : Nat) {left other : List Int}, left.length ≤ n → lastZ other ≠ 0 → (left = [] ∨ lastZ left ≠ 0) →
    (remL n left other = [] ∨ lastZ (remL n left other) ≠ 0) ∧ (remL n left other).length < other.length ∧ ∃ a : Int, a ≠ 0 ∧ ∀ x : Int, ∃ u, a * ev left x = u * ev other x + ev (remL n left other) x
  | 0, left, other, hn, ho, hl => by
    have := List.length_pos_iff.mpr (lastZ_ne ho)
    exact ⟨hl, by show left.length < _; omega, 1, by decide, fun x => ⟨0, by show 1 * ev left x = 0 * ev other x + ev left x; grind⟩⟩
  | n + 1, left, other, hn, ho, hl => by
    have h0 := List.length_pos_iff.mpr (lastZ_ne ho)
    unfold remL
    by_cases c : left.length < other.length
    · rw [if_pos c]
      exact ⟨hl, c, 1, by decide, fun x => ⟨0, by grind⟩⟩
    · rw [if_neg c]
      obtain ⟨s1, s2, a, ha, s3⟩ := remStep_ok (left := left) ho (by omega)
      obtain ⟨r1, r2, b, hb, r3⟩ := rem_ok n (left := remStep left other) (by omega) ho s1
      refine ⟨r1, r2, b * a, Int.mul_ne_zero hb ha, fun x => ?_⟩
      obtain ⟨u, hu⟩ := s3 x
      obtain ⟨v, hv⟩ := r3 x
      exact ⟨b * u + v, by grind⟩
/-! ### the common row -/
def comL : Nat → List Int → List Int → List Int
  | 0, one, _ => one
  | n + 1, one, other => if other.length = 0 then one else comL n other (bareL (remL one.length one other))
theorem dv_zero (p : List Int) : Dv p [] := ⟨1, by decide, fun x => ⟨0, by simp [ev]⟩⟩
theorem dv_bare {p r : List Int} (h : Dv p (bareL r)) : Dv p r := by
  obtain ⟨a, ha, d⟩ := h
  exact ⟨a, ha, fun x => by rw [← ev_bare r x]; obtain ⟨k, hk⟩ := d x; exact ⟨barS r * k, by grind⟩⟩
theorem bare_dv {p r : List Int} (hr : r = [] ∨ lastZ r ≠ 0) (h : Dv p r) : Dv p (bareL r) := by
  rcases hr with rfl | hr
  · exact dv_zero p
  · obtain ⟨a, ha, d⟩ := h
    refine ⟨a * barS r, Int.mul_ne_zero ha (barS_ne hr), fun x => ?_⟩
    obtain ⟨k, hk⟩ := d x
    exact ⟨k, by rw [← hk, ← ev_bare r x]; grind⟩
theorem com_ok : ∀ (n : Nat) {one other : List Int}, other.length ≤ n → Good one → (other = [] ∨ Good other) →
    Good (comL n one other) ∧ (∀ D, Dv D one → Dv D other → Dv D (comL n one other)) ∧ Dv (comL n one other) one ∧ Dv (comL n one other) other
  | 0, one, other, hn, h1, h2 => by
    have : other = [] := List.length_eq_zero_iff.mp (by omega)
    subst this
    exact ⟨h1, fun D a _ => a, Dv.refl one, dv_zero one⟩
  | n + 1, one, other, hn, h1, h2 => by
    unfold comL
    by_cases c : other.length = 0
    · rw [if_pos c]
      have : other = [] := List.length_eq_zero_iff.mp c
      subst this
      exact ⟨h1, fun D a _ => a, Dv.refl one, dv_zero one⟩
    · rw [if_neg c]
      have g2 : Good other := h2.resolve_left (by rintro rfl; exact c rfl)
      obtain ⟨r1, r2, a, ha, r3⟩ := rem_ok one.length (left := one) (other := other) (Nat.le_refl _) g2.ne (.inr h1.ne)
      generalize remL one.length one other = r at *
      have gb : bareL r = [] ∨ Good (bareL r) := by
        rcases r1 with rfl | r1
        · exact .inl rfl
        · exact .inr (bare_good r1)
      have lb : (bareL r).length = r.length := by unfold bareL; rw [List.length_map]
      obtain ⟨q1, q2, q3, q4⟩ := com_ok n (one := other) (other := bareL r) (by omega) g2 gb
      refine ⟨q1, fun D d1 d2 => q2 D d2 (bare_dv r1 ?_), ?_, q3⟩
      · obtain ⟨b, hb, e1⟩ := d1
        obtain ⟨b', hb', e2⟩ := d2
        refine ⟨b * b', Int.mul_ne_zero hb hb', fun x => ?_⟩
        obtain ⟨u, hu⟩ := r3 x
        obtain ⟨k, hk⟩ := e1 x
        obtain ⟨l, hl⟩ := e2 x
        exact ⟨a * b' * k - b * u * l, by grind⟩
      · obtain ⟨b, hb, e1⟩ := q3
        obtain ⟨b', hb', e2⟩ := dv_bare q4
        refine ⟨a * b * b', Int.mul_ne_zero (Int.mul_ne_zero ha hb) hb', fun x => ?_⟩
        obtain ⟨u, hu⟩ := r3 x
        obtain ⟨k, hk⟩ := e1 x
        obtain ⟨l, hl⟩ := e2 x
        generalize comL n other (bareL r) = g at *
        exact ⟨b' * u * k + b * l, by grind⟩
/-! ### the slope -/
def slopeL (p : List Int) : List Int := (List.range (p.length - 1)).map fun k : Nat => ((k : Int) + 1) * p.getD (k + 1) 0
def der : List Int → Int → Int
  | [], _ => 0
  | _ :: p, x => ev p x + x * der p x
theorem der_addL (x : Int) : ∀ p q : List Int, der (addL p q) x = der p x + der q x
  | [], q => by simp [addL, der]
  | a :: p, [] => by simp [addL, der]
  | a :: p, b :: q => by
    show ev (addL p q) x + x * der (addL p q) x = _
    rw [ev_addL, der_addL x p q]; simp only [der]; grind
theorem der_smul (k x : Int) : ∀ p : List Int, der (smul k p) x = k * der p x
  | [] => by simp [smul, der]
  | a :: p => by
    show ev (smul k p) x + x * der (smul k p) x = _
    rw [ev_smul, der_smul k x p]; simp only [der]; grind
theorem der_mulL (x : Int) : ∀ p q : List Int, der (mulL p q) x = der p x * ev q x + ev p x * der q x
  | [], q => by simp [mulL, der, ev]
  | a :: p, q => by
    show der (addL (smul a q) (0 :: mulL p q)) x = _
    rw [der_addL, der_smul]
    show a * der q x + (ev (mulL p q) x + x * der (mulL p q) x) = _
    rw [ev_mulL, der_mulL x p q]; simp only [der, ev]; grind
theorem ev_rangeC (g : Nat → Int) (x : Int) : ∀ n, ev ((List.range (n + 1)).map g) x = g 0 + x * ev ((List.range n).map fun k => g (k + 1)) x := fun n => by
  rw [List.range_succ_eq_map, List.map_cons, List.map_map]; rfl
theorem ev_slope (x : Int) : ∀ (p : List Int) (m : Int), ev ((List.range p.length).map fun k : Nat => ((k : Int) + m) * p.getD k 0) x = m * ev p x + x * der p x
  | [], m => by simp [ev, der]
  | a :: p, m => by
    show ev ((List.range (p.length + 1)).map _) x = _
    rw [ev_rangeC]
    have : (fun k : Nat => (((k + 1 : Nat) : Int) + m) * (a :: p).getD (k + 1) 0) = fun k : Nat => ((k : Int) + (m + 1)) * p.getD k 0 := by
      funext k; rw [List.getD_cons_succ]; congr 1; omega
    rw [this, ev_slope x p (m + 1)]
    simp only [ev, der, List.getD_cons_zero]
    grind
theorem slope_ev (p : List Int) (x : Int) : ev (slopeL p) x = der p x := by
  cases p with
  | nil => rfl
  | cons a p =>
    have := ev_slope x p 1
    show ev ((List.range p.length).map fun k : Nat => ((k : Int) + 1) * (a :: p).getD (k + 1) 0) x = _
    have e : (fun k : Nat => ((k : Int) + 1) * (a :: p).getD (k + 1) 0) = fun k : Nat => ((k : Int) + 1) * p.getD k 0 := by funext k; rw [List.getD_cons_succ]
    rw [e, this]; simp only [der]; grind
theorem slope_len (p : List Int) : (slopeL p).length = p.length - 1 := by unfold slopeL; rw [List.length_map, List.length_range]
theorem slope_last {p : List Int} (h : 2 ≤ p.length) : lastZ (slopeL p) = ((p.length - 1 : Nat) : Int) * lastZ p := by
  have hne : slopeL p ≠ [] := by intro z; have := slope_len p; rw [z] at this; simp at this; omega
  rw [← lastZ_getD hne, slope_len, ← lastZ_getD (p := p) (by intro z; rw [z] at h; simp at h)]
  unfold slopeL
  rw [List.getD_eq_getElem?_getD, List.getElem?_map, List.getElem?_range (by omega)]
  show ((p.length - 1 - 1 : Nat) + 1 : Int) * p.getD (p.length - 1 - 1 + 1) 0 = _
  rw [show p.length - 1 - 1 + 1 = p.length - 1 by omega]
  congr 1; omega
/-! ### the quotient -/
def quoL : Nat → List Int → List Int → List Int
  | 0, _, _ => []
  | n + 1, left, other => if left.length < other.length then [] else quoL n (lowL left other ((lastZ left).fdiv (lastZ other))) other ++ [(lastZ left).fdiv (lastZ other)]
theorem eq_of_ev {p q : List Int} (hl : p.length = q.length) (h : ∀ x, ev p x = ev q x) : p = q := by
  apply List.ext_getElem hl
  intro i h1 h2
  have := same_of i (p := p) (q := q) (N := 0) fun n _ => h n
  rwa [List.getD_eq_getElem?_getD, List.getD_eq_getElem?_getD, List.getElem?_eq_getElem h1, List.getElem?_eq_getElem h2] at this
theorem quo_ok {D : List Int} (hD : lastZ D ≠ 0) : ∀ (n : Nat) {P left : List Int}, left.length ≤ n → left.length + 1 = P.length + D.length → (P ≠ [] → ∀ x, ev left x = ev P x * ev D x) → quoL n left D = P
  | 0, P, left, hn, hl, he => by
    have := List.length_pos_iff.mpr (lastZ_ne hD)
    have : P = [] := List.length_eq_zero_iff.mp (by omega)
    subst this; rfl
  | n + 1, P, left, hn, hl, he => by
    have d0 := List.length_pos_iff.mpr (lastZ_ne hD)
    unfold quoL
    by_cases c : left.length < D.length
    · rw [if_pos c]
      exact (List.length_eq_zero_iff.mp (by omega)).symm
    · rw [if_neg c]
      have hP : P ≠ [] := by intro z; rw [z] at hl; simp at hl; omega
      have em : left = mulL P D := eq_of_ev (by have := mulL_len hP (lastZ_ne hD); omega) fun x => by rw [he hP, ev_mulL]
      have el : lastZ left = lastZ P * lastZ D := by rw [em]; exact lastZ_mulL hP (lastZ_ne hD)
      have ef : (lastZ left).fdiv (lastZ D) = lastZ P := by rw [el, Int.mul_comm]; exact Int.mul_fdiv_cancel_left _ hD
      rw [ef]
      obtain ⟨P', hP'⟩ := snoc_of hP
      have ll := low_len (row := left) (other := D) (lastZ P) (by omega) (lastZ_ne hD)
      have lP : P.length = P'.length + 1 := by rw [hP']; simp
      have := quo_ok hD n (P := P') (left := lowL left D (lastZ P)) (by omega) (by omega) fun hne x => by
        rw [ev_low (by omega) (lastZ_ne hD) el, he hP]
        have e3 : ev P x = ev P' x + lastZ P * x ^ P'.length := by
          have := ev_snoc P' (lastZ P) x
          rwa [← hP'] at this
        rw [e3, show left.length - D.length = P'.length by omega]
        generalize x ^ P'.length = r; grind
      rw [this, ← hP']
end Rt

namespace Rt
/-- no common root, by values: some whole number but nought is made of both, everywhere -/
def Cop (p q : Int → Int) : Prop := ∃ k : Int, k ≠ 0 ∧ ∀ x, ∃ u v : Int, u * p x + v * q x = k
theorem Cop.symm {p q : Int → Int} (h : Cop p q) : Cop q p := by
  obtain ⟨k, hk, h⟩ := h
  exact ⟨k, hk, fun x => let ⟨u, v, e⟩ := h x; ⟨v, u, by omega⟩⟩
theorem Cop.mul {p q r : Int → Int} (h1 : Cop p q) (h2 : Cop p r) : Cop p (fun x => q x * r x) := by
  obtain ⟨k, hk, h1⟩ := h1
  obtain ⟨l, hl, h2⟩ := h2
  refine ⟨k * l, Int.mul_ne_zero hk hl, fun x => ?_⟩
  obtain ⟨u, v, e1⟩ := h1 x
  obtain ⟨u', v', e2⟩ := h2 x
  exact ⟨u * u' * p x + u * v' * r x + v * u' * q x, v * v', by rw [← e1, ← e2]; grind⟩
theorem Cop.one (p : Int → Int) : Cop p (fun _ => 1) := ⟨1, by decide, fun x => ⟨0, 1, by show 0 * p x + 1 * 1 = 1; omega⟩⟩
/-- factors, each with one less than how often it stands -/
abbrev Facs := List (List Int × Nat)
def mulN : Nat → List Int → List Int → List Int
  | 0, _, q => q
  | e + 1, f, q => mulL f (mulN e f q)
def wL : Facs → List Int
  | [] => [1]
  | (f, e) :: r => mulN (e + 1) f (wL r)
def dL : Facs → List Int
  | [] => [1]
  | (f, e) :: r => mulN e f (dL r)
def pL : Facs → List Int
  | [] => [1]
  | (f, _) :: r => mulL f (pL r)
def tV : Facs → Int → Int
  | [], _ => 0
  | (f, e) :: r, x => ((e : Int) + 1) * der f x * ev (pL r) x + ev f x * tV r x
theorem ev_mulN (f q : List Int) (x : Int) : ∀ e, ev (mulN e f q) x = ev f x ^ e * ev q x
  | 0 => by simp [mulN]
  | e + 1 => by
    show ev (mulL f (mulN e f q)) x = _
    rw [ev_mulL, ev_mulN f q x e, Int.pow_succ]; generalize ev f x ^ e = r; grind
theorem der_mulN (f q : List Int) (x : Int) : ∀ e : Nat, der (mulN (e + 1) f q) x = ev f x ^ e * (((e : Int) + 1) * der f x * ev q x + ev f x * der q x)
  | 0 => by
    show der (mulL f q) x = _
    rw [der_mulL, Int.pow_zero]; grind
  | e + 1 => by
    show der (mulL f (mulN (e + 1) f q)) x = _
    rw [der_mulL, der_mulN f q x e, ev_mulN, Int.pow_succ]; generalize ev f x ^ e = r; grind
theorem ev_wL : ∀ (fs : Facs) (x : Int), ev (wL fs) x = ev (pL fs) x * ev (dL fs) x
  | [], x => by simp [wL, pL, dL, ev]
  | (f, e) :: r, x => by
    show ev (mulN (e + 1) f (wL r)) x = ev (mulL f (pL r)) x * ev (mulN e f (dL r)) x
    rw [ev_mulN, ev_mulL, ev_mulN, ev_wL r x, Int.pow_succ]; generalize ev f x ^ e = s; grind
theorem der_wL : ∀ (fs : Facs) (x : Int), der (wL fs) x = ev (dL fs) x * tV fs x
  | [], x => by simp [wL, dL, der, ev, tV]
  | (f, e) :: r, x => by
    show der (mulN (e + 1) f (wL r)) x = ev (mulN e f (dL r)) x * tV ((f, e) :: r) x
    rw [der_mulN, ev_mulN, ev_wL r x, der_wL r x]
    simp only [tV]; generalize ev f x ^ e = s; grind
theorem Good.mul {p q : List Int} (hp : Good p) (hq : Good q) : Good (mulL p q) := ⟨by rw [lastZ_mulL (lastZ_ne hp.ne) (lastZ_ne hq.ne)]; exact Int.mul_pos hp.1 hq.1, cont_mul hp.2 hq.2⟩
theorem good_one : Good [1] := ⟨by decide, rfl⟩
theorem Good.mulN {f q : List Int} (hf : Good f) (hq : Good q) : ∀ e, Good (Rt.mulN e f q)
  | 0 => hq
  | e + 1 => hf.mul (Good.mulN hf hq e)
inductive Nice : Facs → Prop
  | nil : Nice []
  | cons {f : List Int} {e : Nat} {r : Facs} : Good f → 2 ≤ f.length → Cop (ev f) (der f) → (∀ g ∈ r, Cop (ev f) (ev g.1)) → Nice r → Nice ((f, e) :: r)
theorem Nice.w : ∀ {fs : Facs}, Nice fs → Good (wL fs)
  | _, .nil => good_one
  | _, .cons h _ _ _ t => h.mulN t.w _
theorem Nice.d : ∀ {fs : Facs}, Nice fs → Good (dL fs)
  | _, .nil => good_one
  | _, .cons h _ _ _ t => h.mulN t.d _
theorem Nice.p : ∀ {fs : Facs}, Nice fs → Good (pL fs)
  | _, .nil => good_one
  | _, .cons h _ _ _ t => h.mul t.p
theorem cop_all {f : Int → Int} : ∀ {r : Facs}, (∀ g ∈ r, Cop f (ev g.1)) → Cop f (ev (pL r))
  | [], _ => by
    have : ev (pL []) = fun _ => 1 := by funext x; simp [pL, ev]
    rw [this]; exact Cop.one f
  | (g, e) :: r, h => by
    have : ev (pL ((g, e) :: r)) = fun x => ev g x * ev (pL r) x := by funext x; exact ev_mulL g (pL r) x
    rw [this]
    exact (h (g, e) List.mem_cons_self).mul (cop_all fun g' hg => h g' (List.mem_cons_of_mem _ hg))
theorem cop_t : ∀ {fs : Facs}, Nice fs → Cop (tV fs) (ev (pL fs))
  | _, .nil => by
    have : ev (pL []) = fun _ => 1 := by funext x; simp [pL, ev]
    rw [this]; exact Cop.one _
  | _, @Nice.cons f e r hf _ hd hr t => by
    have : ev (pL ((f, e) :: r)) = fun x => ev f x * ev (pL r) x := by funext x; exact ev_mulL f (pL r) x
    rw [this]
    have fP := cop_all hr
    have ih := cop_t t
    refine Cop.mul ?_ ?_
    · obtain ⟨k, hk, h⟩ := hd.mul fP
      refine ⟨((e : Int) + 1) * k, Int.mul_ne_zero (by omega) hk, fun x => ?_⟩
      obtain ⟨u, v, e1⟩ := h x
      exact ⟨v, ((e : Int) + 1) * u - v * tV r x, by rw [← e1]; simp only [tV]; grind⟩
    · obtain ⟨k, hk, h⟩ := fP.symm.mul ih.symm
      refine ⟨k, hk, fun x => ?_⟩
      obtain ⟨u, v, e1⟩ := h x
      exact ⟨v, u - v * ((e : Int) + 1) * der f x, by rw [← e1]; simp only [tV]; grind⟩
theorem mulN_len {f q : List Int} (hf : 2 ≤ f.length) (hq : q ≠ []) : ∀ e, q.length + e ≤ (Rt.mulN e f q).length ∧ Rt.mulN e f q ≠ []
  | 0 => ⟨Nat.le_refl _, hq⟩
  | e + 1 => by
    obtain ⟨h1, h2⟩ := mulN_len hf hq e
    have := mulL_len (p := f) (q := Rt.mulN e f q) (by intro z; rw [z] at hf; simp at hf) h2
    have e2 : (Rt.mulN (e + 1) f q).length = (mulL f (Rt.mulN e f q)).length := rfl
    refine ⟨by omega, ?_⟩
    intro z
    rw [z] at e2; simp only [List.length_nil] at e2; omega
theorem wL_len : ∀ {fs : Facs}, Nice fs → fs ≠ [] → 2 ≤ (wL fs).length
  | _, .nil, h => absurd rfl h
  | _, @Nice.cons f e r hf h2 _ _ t, _ => by
    have hq : wL r ≠ [] := lastZ_ne t.w.ne
    have := (mulN_len h2 hq (e + 1)).1
    have := List.length_pos_iff.mpr hq
    show 2 ≤ (mulN (e + 1) f (wL r)).length
    omega
/-- what the program makes of a row -/
def divL (whole : List Int) : List Int := comL whole.length whole (bareL (slopeL whole))
def plainL (row : List Int) : List Int := let whole := bareL (trimL row); quoL whole.length whole (divL whole)
theorem div_ok {fs : Facs} (h : Nice fs) (hne : fs ≠ []) : divL (wL fs) = dL fs := by
  have gw := h.w
  have l2 := wL_len h hne
  have sl : lastZ (slopeL (wL fs)) ≠ 0 := by rw [slope_last l2]; exact Int.mul_ne_zero (by omega) gw.ne
  obtain ⟨g1, g2, g3, g4⟩ := com_ok (wL fs).length (one := wL fs) (other := bareL (slopeL (wL fs))) (by unfold bareL; rw [List.length_map, slope_len]; omega) gw (.inr (bare_good sl))
  have d1 : Dv (dL fs) (wL fs) := ⟨1, by decide, fun x => ⟨ev (pL fs) x, by rw [ev_wL]; grind⟩⟩
  have d2 : Dv (dL fs) (slopeL (wL fs)) := ⟨1, by decide, fun x => ⟨tV fs x, by rw [slope_ev, der_wL]; grind⟩⟩
  have d3 := g2 (dL fs) d1 (bare_dv (.inr sl) d2)
  refine (eq_of_dv d3 ?_ h.d.1 g1.1 h.d.2 g1.2).symm
  obtain ⟨k, hk, c⟩ := cop_t h
  obtain ⟨a, ha, e1⟩ := g3
  obtain ⟨b, hb, e2⟩ := dv_bare g4
  refine ⟨a * b * k, Int.mul_ne_zero (Int.mul_ne_zero ha hb) hk, fun x => ?_⟩
  obtain ⟨u, v, e3⟩ := c x
  obtain ⟨m, hm⟩ := e1 x
  obtain ⟨l, hl⟩ := e2 x
  rw [ev_wL] at hm
  rw [slope_ev, der_wL] at hl
  generalize ev (comL (wL fs).length (wL fs) (bareL (slopeL (wL fs)))) x = g at *
  exact ⟨a * u * l + b * v * m, by rw [← e3]; grind⟩
theorem plain_ok {fs : Facs} (h : Nice fs) (hne : fs ≠ []) {k : Int} (hk : k ≠ 0) {row : List Int} (hr : trimL row = smul k (wL fs)) : plainL row = pL fs := by
  unfold plainL
  rw [hr, bare_smul hk h.w]
  show quoL (wL fs).length (wL fs) (divL (wL fs)) = pL fs
  rw [div_ok h hne]
  have np := lastZ_ne h.p.ne
  have nd := lastZ_ne h.d.ne
  have e : wL fs = mulL (pL fs) (dL fs) := by
    refine eq_of_same h.w.ne (h.p.mul h.d).ne fun i => same_of i (N := 0) fun n _ => by rw [ev_wL, ev_mulL]
  have l := mulL_len np nd
  exact quo_ok h.d.ne _ (Nat.le_refl _) (by rw [e]; exact l) fun _ x => ev_wL fs x
end Rt

namespace Rt
open PySem PySem.Spec PyProof.Rows L2 Evl
/-- every number below 2 ^ n either way -/
def Sz (n : Nat) (p : List Int) : Prop := ∀ a ∈ p, Lt2 n a
theorem Sz.mono {n m : Nat} {p : List Int} (h : Sz n p) (k : n ≤ m) : Sz m p := fun a ha => (h a ha).mono k
theorem sz_nil {n : Nat} : Sz n [] := fun a ha => nomatch ha
theorem Sz.getD {n : Nat} {p : List Int} (h : Sz n p) (i : Nat) : Lt2 n (p.getD i 0) := by
  rw [List.getD_eq_getElem?_getD]
  cases q : p[i]? with
  | none => exact Lt2.zero
  | some v => exact h v (List.mem_of_getElem? q)
theorem Sz.last {n : Nat} {p : List Int} (h : Sz n p) : Lt2 n (lastZ p) := by
  unfold lastZ
  cases q : p.getLast? with
  | none => exact Lt2.zero
  | some v => exact h v (List.mem_of_getLast? q)
theorem Sz.trim {n : Nat} {p : List Int} (h : Sz n p) : Sz n (trimL p) := fun a ha => by
  obtain ⟨k, hk⟩ := trimL_pre p
  exact h a (by rw [hk]; exact List.mem_append_left _ ha)
theorem Sz.bare {n : Nat} {p : List Int} (h : Sz n p) (hp : p = [] ∨ lastZ p ≠ 0) : Sz n (bareL p) := by
  rcases hp with rfl | hp
  · exact sz_nil
  · intro a ha
    unfold bareL at ha
    obtain ⟨b, hb, rfl⟩ := List.mem_map.mp ha
    exact (h b hb).of_le (natAbs_fdiv_le (barS_dvd hb) (barS_ne hp))
theorem Sz.low {N k m : Nat} {row other : List Int} {f : Int} (h : Sz N row) (hf : Lt2 k f) (ho : Sz m other) (hk : k + m ≤ N) : Sz (N + 1) (lowL row other f) := by
  intro a ha
  unfold lowL at ha
  rcases List.mem_append.mp ha with ha | ha
  · exact (h a (List.mem_of_mem_take ha)).mono (Nat.le_succ _)
  · have ha := List.dropLast_subset _ ha
    obtain ⟨i, hi⟩ := List.getElem?_of_mem ha
    rw [List.getElem?_zipWith] at hi
    cases q1 : (row.drop (row.length - other.length))[i]? with
    | none => rw [q1] at hi; cases hi
    | some x =>
      cases q2 : other[i]? with
      | none => rw [q1, q2] at hi; cases hi
      | some y =>
        rw [q1, q2] at hi
        cases hi
        exact (h x (List.mem_of_mem_drop (List.mem_of_getElem? q1))).sub ((hf.mul (ho y (List.mem_of_getElem? q2))).mono hk)
theorem Sz.smul {n k : Nat} {p : List Int} {c : Int} (h : Sz n p) (hc : Lt2 k c) : Sz (n + k) (p.map fun a => a * c) := by
  intro a ha
  obtain ⟨b, hb, rfl⟩ := List.mem_map.mp ha
  exact (h b hb).mul hc
theorem Sz.remStep {N M : Nat} {left other : List Int} (h : Sz N left) (ho : Sz M other) (h0 : lastZ other ≠ 0) : Sz (N + M + 1) (remStep left other) := by
  have c0 := gcdI_pos (a := lastZ left) h0
  have f1 : Lt2 N ((lastZ left).fdiv (gcdI (lastZ left) (lastZ other))) := h.last.of_le (natAbs_fdiv_le (gcdI_dl _ _) (by omega))
  have f2 : Lt2 M ((lastZ other).fdiv (gcdI (lastZ left) (lastZ other))) := ho.last.of_le (natAbs_fdiv_le (gcdI_dr _ _) (by omega))
  exact ((h.smul f2).low f1 ho (Nat.le_refl _)).trim
theorem Sz.slope {n k : Nat} {p : List Int} (h : Sz n p) (hl : p.length ≤ 2 ^ k) : Sz (k + n) (slopeL p) := by
  intro a ha
  unfold slopeL at ha
  obtain ⟨i, hi, rfl⟩ := List.mem_map.mp ha
  have hi := List.mem_range.mp hi
  exact Lt2.mul (n := k) (by unfold Lt2; omega) (h.getD _)
/-- every number at most m either way -/
def Bd (m : Nat) (p : List Int) : Prop := ∀ a ∈ p, a.natAbs ≤ m
theorem bd_add : ∀ {m k : Nat} {p q : List Int}, Bd m p → Bd k q → Bd (m + k) (addL p q)
  | m, k, [], q, _, h => fun a ha => Nat.le_trans (h a (by simpa [addL] using ha)) (Nat.le_add_left _ _)
  | m, k, b :: p, [], h, _ => fun a ha => Nat.le_trans (h a (by simpa [addL] using ha)) (Nat.le_add_right _ _)
  | m, k, b :: p, c :: q, h1, h2 => fun a ha => by
    rcases List.mem_cons.mp (show a ∈ (b + c) :: addL p q from ha) with rfl | ha
    · have x := h1 b List.mem_cons_self
      have y := h2 c List.mem_cons_self
      have := Int.natAbs_add_le b c
      omega
    · exact bd_add (fun x hx => h1 x (List.mem_cons_of_mem _ hx)) (fun x hx => h2 x (List.mem_cons_of_mem _ hx)) a ha
theorem bd_mul {m k : Nat} {q : List Int} (hq : Bd k q) : ∀ {p : List Int}, Bd m p → Bd (p.length * (m * k)) (mulL p q)
  | [], _ => fun a ha => by simp [mulL] at ha
  | b :: p, h => by
    have ih := bd_mul hq (p := p) fun x hx => h x (List.mem_cons_of_mem _ hx)
    have hb := h b List.mem_cons_self
    have h1 : Bd (m * k) (smul b q) := fun a ha => by
      unfold Rt.smul at ha
      obtain ⟨c, hc, rfl⟩ := List.mem_map.mp ha
      rw [Int.natAbs_mul]; exact Nat.mul_le_mul hb (hq c hc)
    have h2 : Bd (p.length * (m * k)) (0 :: mulL p q) := fun a ha => by
      rcases List.mem_cons.mp ha with rfl | ha
      · exact Nat.zero_le _
      · exact ih a ha
    have := bd_add h1 h2
    show Bd ((p.length + 1) * (m * k)) (addL (smul b q) (0 :: mulL p q))
    rw [Nat.succ_mul, Nat.add_comm]; exact this
theorem Bd.mono {m k : Nat} {p : List Int} (h : Bd m p) (hk : m ≤ k) : Bd k p := fun a ha => Nat.le_trans (h a ha) hk
theorem Bd.sz {n : Nat} {p : List Int} (h : Bd (2 ^ n) p) : Sz (n + 1) p := fun a ha => by
  have := h a ha
  unfold Lt2; rw [Nat.pow_succ]
  have := Nat.pow_pos (a := 2) (n := n) (by decide)
  omega
/-- factors of at most four numbers, each at most 2 ^ 30 -/
def Small (f : List Int) : Prop := f.length ≤ 4 ∧ Bd (2 ^ 30) f
theorem bd_small {f q : List Int} {n : Nat} (hf : Small f) (hq : Bd (2 ^ n) q) : Bd (2 ^ (n + 32)) (mulL f q) :=
  (bd_mul hq hf.2).mono (by
    have e : (2 : Nat) ^ (n + 32) = 4 * (2 ^ 30 * 2 ^ n) := by rw [Nat.pow_add]; have : (2 : Nat) ^ 32 = 4 * 2 ^ 30 := by decide
                                                               rw [this]; generalize (2 : Nat) ^ 30 = a; generalize (2 : Nat) ^ n = b; grind
    rw [e]; exact Nat.mul_le_mul_right _ hf.1)
theorem bd_mulN {f q : List Int} {n : Nat} (hf : Small f) (hq : Bd (2 ^ n) q) : ∀ e, Bd (2 ^ (n + 32 * e)) (mulN e f q)
  | 0 => hq
  | e + 1 => by
    have := bd_small hf (bd_mulN hf hq e)
    rw [show n + 32 * (e + 1) = n + 32 * e + 32 by omega]; exact this
/-- how many factors there are, one by one -/
def many : Facs → Nat
  | [] => 0
  | (_, e) :: r => e + 1 + many r
theorem bd_wL : ∀ {fs : Facs}, (∀ f ∈ fs, Small f.1) → Bd (2 ^ (32 * many fs)) (wL fs)
  | [], _ => fun a ha => by
    rw [List.mem_singleton.mp (show a ∈ [(1 : Int)] from ha)]; decide
  | (f, e) :: r, h => by
    have := bd_mulN (h (f, e) List.mem_cons_self) (bd_wL fun g hg => h g (List.mem_cons_of_mem _ hg)) (e + 1)
    rw [show 32 * many ((f, e) :: r) = 32 * many r + 32 * (e + 1) by simp only [many]; omega]; exact this
theorem bd_dL : ∀ {fs : Facs}, (∀ f ∈ fs, Small f.1) → Bd (2 ^ (32 * many fs)) (dL fs)
  | [], _ => fun a ha => by
    rw [List.mem_singleton.mp (show a ∈ [(1 : Int)] from ha)]; decide
  | (f, e) :: r, h => by
    have := bd_mulN (h (f, e) List.mem_cons_self) (bd_dL fun g hg => h g (List.mem_cons_of_mem _ hg)) e
    exact this.mono (Nat.pow_le_pow_right (by decide) (by simp only [many]; omega))
theorem bd_pL : ∀ {fs : Facs}, (∀ f ∈ fs, Small f.1) → Bd (2 ^ (32 * many fs)) (pL fs)
  | [], _ => fun a ha => by
    rw [List.mem_singleton.mp (show a ∈ [(1 : Int)] from ha)]; decide
  | (f, e) :: r, h => by
    have := bd_small (h (f, e) List.mem_cons_self) (bd_pL fun g hg => h g (List.mem_cons_of_mem _ hg))
    exact this.mono (Nat.pow_le_pow_right (by decide) (by simp only [many]; omega))
theorem len_mulN {f q : List Int} (hf : f ≠ []) (hq : q ≠ []) (h4 : f.length ≤ 4) : ∀ e, (mulN e f q).length ≤ q.length + 3 * e ∧ mulN e f q ≠ []
  | 0 => ⟨Nat.le_refl _, hq⟩
  | e + 1 => by
    obtain ⟨h1, h2⟩ := len_mulN hf hq h4 e
    have := mulL_len hf h2
    have hf0 := List.length_pos_iff.mpr hf
    have e2 : (mulN (e + 1) f q).length = (mulL f (mulN e f q)).length := rfl
    have := List.length_pos_iff.mpr h2
    refine ⟨by omega, fun z => ?_⟩
    rw [z] at e2; simp only [List.length_nil] at e2; omega
theorem len_wL : ∀ {fs : Facs}, Nice fs → (∀ f ∈ fs, Small f.1) → (wL fs).length ≤ 1 + 3 * many fs
  | _, .nil, _ => by decide
  | _, @Nice.cons f e r hf h2 _ _ t, h => by
    have ih := len_wL t fun g hg => h g (List.mem_cons_of_mem _ hg)
    have := (len_mulN (e := e + 1) (lastZ_ne hf.ne) (lastZ_ne t.w.ne) (h (f, e) List.mem_cons_self).1).1
    show (mulN (e + 1) f (wL r)).length ≤ _
    simp only [many]; omega
theorem len_pL : ∀ {fs : Facs}, Nice fs → (∀ f ∈ fs, Small f.1) → (pL fs).length ≤ 1 + 3 * fs.length
  | _, .nil, _ => by decide
  | _, @Nice.cons f e r hf h2 _ _ t, h => by
    have ih := len_pL t fun g hg => h g (List.mem_cons_of_mem _ hg)
    have hl := mulL_len (lastZ_ne hf.ne) (lastZ_ne t.p.ne)
    have := (h (f, e) List.mem_cons_self).1
    show (mulL f (pL r)).length ≤ _
    dsimp only at this
    rw [List.length_cons]; omega
theorem len_wpd {fs : Facs} (h : Nice fs) : (wL fs).length + 1 = (pL fs).length + (dL fs).length := by
  have e : wL fs = mulL (pL fs) (dL fs) := eq_of_same h.w.ne (h.p.mul h.d).ne fun i => same_of i (N := 0) fun n _ => by rw [ev_wL, ev_mulL]
  rw [e]; exact mulL_len (lastZ_ne h.p.ne) (lastZ_ne h.d.ne)
end Rt

namespace Rt
open PySem PySem.Spec PyProof.Rows L2 Evl
/-! the steps that need no thought; «walk_at "ev"» goes on till it is stuck -/
local macro_rules | `(tactic| walk_at "rt1") => `(tactic| first
  | ((with_reducible show _ = true → ED _ _ _ _); intro _) | ((with_reducible show _ = false → ED _ _ _ _); intro _) | ((with_reducible show _ = true → TD _ _ _ _); intro _) | ((with_reducible show _ = false → TD _ _ _ _); intro _)
  | with_reducible exact ed_int | with_reducible exact ed_bl | with_reducible exact ed_non | with_reducible exact ad_nil | with_reducible exact od_none | with_reducible exact td_yes
  | ((with_reducible apply ed_var); exact rfl)
  | (with_reducible apply ad_cons)
  | (with_reducible apply td_test) | (with_reducible apply td_truth) | (with_reducible apply td_not) | (with_reducible apply td_and) | (with_reducible apply td_or)
  | (with_reducible apply ed_add) | (with_reducible apply ed_sub) | (with_reducible apply ed_mul) | (with_reducible apply ed_mod) | (with_reducible apply ed_fdivP) | (with_reducible apply ed_pow) | (with_reducible apply ed_neg)
  | (with_reducible apply ed_lt) | (with_reducible apply ed_le) | (with_reducible apply ed_gt) | (with_reducible apply ed_ge)
  | (with_reducible apply ed_eqD) | (with_reducible apply ed_neD)
  | (with_reducible apply ed_ix) | (with_reducible apply ed_len) | (with_reducible apply ed_abs) | (with_reducible apply ed_gcd) | (with_reducible apply ed_isi)
  | (with_reducible apply ed_tup) | (with_reducible apply ed_tuple) | (with_reducible apply ed_andV) | (with_reducible apply ed_orV) | (with_reducible apply ed_notV)
  | (with_reducible apply od_some)
  | (with_reducible apply ef_lst) | (with_reducible apply ef_list) | (with_reducible apply ef_sl) | (with_reducible apply ef_cat)
  | (with_reducible apply EF.ed; with_reducible apply ef_lst) | (with_reducible apply EF.ed; with_reducible apply ef_list) | (with_reducible apply EF.ed; with_reducible apply ef_sl) | (with_reducible apply EF.ed; with_reducible apply ef_cat)
  | (with_reducible apply ed_call)
  | ((with_reducible show SeqD _ _); first | exact SeqD.l _ | exact SeqD.t _ | assumption)
  | ((with_reducible show Truth _ _); first | exact Truth.bool _ | exact Truth.int _ | exact Truth.l _ | exact Truth.t _)
  | ((with_reducible show SeqAt.shaped _ = true); exact rfl)
  | ((with_reducible show atI _ _ = some _); first | exact rfl | assumption)
  | ((with_reducible show kitB _ _ = some _); first | exact rfl | decide +kernel)
  | ((with_reducible show List.length _ = _); rfl)
  | ((with_reducible show List.length _ ≤ 100000); first | exact Nat.le_of_ble_eq_true rfl | (simp; done) | (simp; omega)))
local macro_rules | `(tactic| walk_at "ev") => `(tactic| repeat' walk_at "rt1")
/-! ### promises of the laws' own defs over rows, parts and pegs -/
/-- the sum of the terms of the first k, each brought to one bottom -/
def term (t b : Int) (xs : List Int) (k : Nat) : Int := xs.getD k 0 * t ^ k * b ^ (xs.length - 1 - k)
def tot (t b : Int) (xs : List Int) : Nat → Int
  | 0 => 0
  | k + 1 => tot t b xs k + term t b xs k
theorem hor_snd (t b : Int) : ∀ xs : List Int, (hor t b xs).2 = b ^ xs.length
  | [] => by simp [hor]
  | x :: xs => by
    show (hor t b xs).2 * b = b ^ (xs.length + 1)
    rw [hor_snd t b xs, Int.pow_succ]
theorem tot_cons (t b x : Int) (xs : List Int) : ∀ k, tot t b (x :: xs) (k + 1) = x * b ^ xs.length + t * tot t b xs k
  | 0 => by
    show 0 + x * t ^ 0 * b ^ (xs.length + 1 - 1 - 0) = x * b ^ xs.length + t * 0
    rw [Int.pow_zero, Int.mul_one, Int.mul_zero, Int.zero_add, Int.add_zero]
    rfl
  | k + 1 => by
    show tot t b (x :: xs) (k + 1) + term t b (x :: xs) (k + 1) = _
    rw [tot_cons t b x xs k]
    have e : term t b (x :: xs) (k + 1) = t * term t b xs k := by
      show xs.getD k 0 * t ^ (k + 1) * b ^ (xs.length + 1 - 1 - (k + 1)) = t * (xs.getD k 0 * t ^ k * b ^ (xs.length - 1 - k))
      have e2 : xs.length + 1 - 1 - (k + 1) = xs.length - 1 - k := by omega
      rw [e2, Int.pow_succ]
      generalize xs.getD k 0 = a
      generalize t ^ k = p
      generalize b ^ (xs.length - 1 - k) = q
      grind
    rw [e, Int.add_assoc, ← Int.mul_add]; rfl
theorem hor_tot (t b : Int) : ∀ xs : List Int, (hor t b xs).1 = tot t b xs xs.length
  | [] => rfl
  | x :: xs => by
    show (hor t b xs).1 * t + x * (hor t b xs).2 = tot t b (x :: xs) (xs.length + 1)
    rw [tot_cons, hor_tot t b xs, hor_snd, Int.mul_comm t, Int.add_comm]
/-- one number of a row, multiplied out: k times by A, then by B -/
def facP (A B : List Int) (x : Int) (k : Nat) : Nat → List Int
  | 0 => [x]
  | j + 1 => mulL (facP A B x k j) (if j < k then A else B)
/-- the sum of the first K of them -/
def seenK (A B : List Int) (xs : List Int) : Nat → List Int
  | 0 => List.replicate xs.length 0
  | K + 1 => addL (seenK A B xs K) (facP A B (xs.getD K 0) K (xs.length - 1))
/-- the row as it is seen from the stretch -/
def seenL (u v : Int × Int) (xs : List Int) : List Int := seenK [u.1 * v.2, v.1 * u.2] [u.2 * v.2, u.2 * v.2] xs xs.length
/-- how often the sign changes, noughts left out; the last one seen -/
def chg : Int → List Int → Nat
  | _, [] => 0
  | l, x :: xs => (if x * l < 0 then 1 else 0) + chg (if x = 0 then l else x) xs
def turnsL (u v : Int × Int) (xs : List Int) : Nat := chg 0 (seenL u v xs)
theorem facP_len {A B : List Int} (hA : A.length = 2) (hB : B.length = 2) (x : Int) (k : Nat) : ∀ j, (facP A B x k j).length = j + 1
  | 0 => rfl
  | j + 1 => by
    have ih := facP_len hA hB x k j
    have hne : facP A B x k j ≠ [] := by intro z; rw [z] at ih; simp at ih
    show (mulL (facP A B x k j) (if j < k then A else B)).length = _
    have h2 : (if j < k then A else B).length = 2 := by split <;> assumption
    have := mulL_len hne (q := if j < k then A else B) (by intro z; rw [z] at h2; simp at h2)
    omega
theorem ev_facP (A B : List Int) (x : Int) (k : Nat) (y : Int) : ∀ j, ev (facP A B x k j) y = x * ev A y ^ (min j k) * ev B y ^ (j - k)
  | 0 => by simp [facP, ev]
  | j + 1 => by
    show ev (mulL (facP A B x k j) (if j < k then A else B)) y = _
    rw [ev_mulL, ev_facP A B x k y j]
    by_cases h : j < k
    · rw [if_pos h, Nat.min_eq_left (by omega : j + 1 ≤ k), Nat.min_eq_left (by omega : j ≤ k), show j + 1 - k = 0 by omega, show j - k = 0 by omega, Int.pow_succ]
      generalize ev A y ^ j = p; grind
    · rw [if_neg h, Nat.min_eq_right (by omega : k ≤ j + 1), Nat.min_eq_right (by omega : k ≤ j), show j + 1 - k = (j - k) + 1 by omega, Int.pow_succ]
      generalize ev B y ^ (j - k) = p; generalize ev A y ^ k = q; grind
theorem ev_rep (n : Nat) (x : Int) : ev (List.replicate n 0) x = 0 := by
  induction n with
  | zero => rfl
  | succ n ih => rw [List.replicate_succ]; show 0 + x * ev (List.replicate n 0) x = 0; rw [ih]; omega
theorem seenK_len {A B : List Int} (hA : A.length = 2) (hB : B.length = 2) (xs : List Int) : ∀ K, K ≤ xs.length → (seenK A B xs K).length = xs.length
  | 0, _ => List.length_replicate
  | K + 1, h => by
    show (addL _ _).length = _
    rw [addL_len, seenK_len hA hB xs K (by omega), facP_len hA hB]; omega
theorem ev_seenK (A B xs : List Int) (y : Int) : ∀ K, K ≤ xs.length → ev (seenK A B xs K) y = tot (ev A y) (ev B y) xs K
  | 0, _ => ev_rep _ y
  | K + 1, h => by
    show ev (addL _ _) y = tot _ _ xs K + term _ _ xs K
    rw [ev_addL, ev_seenK A B xs y K (by omega), ev_facP, Nat.min_eq_right (by omega : K ≤ xs.length - 1)]; rfl
theorem seen_len (u v : Int × Int) (xs : List Int) : (seenL u v xs).length = xs.length := seenK_len rfl rfl xs _ (Nat.le_refl _)
/-- the row seen from the stretch, at y: the row at (low + high y) : (1 + y), brought to one bottom -/
theorem seen_ev (u v : Int × Int) (xs : List Int) (y : Int) : ev (seenL u v xs) y = (hor (u.1 * v.2 + y * (v.1 * u.2)) (u.2 * v.2 + y * (u.2 * v.2)) xs).1 := by
  unfold seenL
  rw [ev_seenK _ _ _ _ _ (Nat.le_refl _), hor_tot]
  simp [ev]
def F__law_smallest (ds : List PyData) (r : Res) : Prop := ∃ (d : PyData) (xs : List Int) (n : Nat), ds = [d] ∧ SeqD d (rD xs) ∧ lastZ xs ≠ 0 ∧ xs.length ≤ 1000 ∧ Sz n xs ∧ n ≤ 8000 ∧ r = .rf (rD (bareL xs))
def F__law_value (ds : List PyData) (r : Res) : Prop := ∃ (d : PyData) (xs : List Int) (t b : Int) (n m : Nat), ds = [d, pD (t, b)] ∧ SeqD d (rD xs) ∧ xs.length ≤ 1000 ∧ Sz n xs ∧ Lt2 m t ∧ Lt2 m b ∧ 1 ≤ m ∧ n + (xs.length + 2) * (m + 1) ≤ 100000000 ∧ r = .rt (.int (hor t b xs).1)
def F__law_by (ds : List PyData) (r : Res) : Prop := ∃ (p q : List Int) (n m : Nat), ds = [.list (rD p), .list (rD q)] ∧ p ≠ [] ∧ q ≠ [] ∧ p.length ≤ 1000 ∧ q.length ≤ 1000 ∧ Sz n p ∧ Sz m q ∧ n + m ≤ 100000000 ∧ r = .rf (rD (mulL p q))
def F__law_seen (ds : List PyData) (r : Res) : Prop := ∃ (d : PyData) (xs : List Int) (u v : Int × Int) (n m : Nat), ds = [d, pD u, pD v] ∧ SeqD d (rD xs) ∧ xs.length ≤ 1000 ∧ Bd (2 ^ n) xs ∧ Lt2 m u.1 ∧ Lt2 m u.2 ∧ Lt2 m v.1 ∧ Lt2 m v.2 ∧ m ≤ 10000 ∧ n ≤ 100000 ∧ r = .rt (.list (rD (seenL u v xs)))
def F__law_turns (ds : List PyData) (r : Res) : Prop := ∃ (d : PyData) (xs : List Int) (u v : Int × Int) (n m : Nat), ds = [d, pD u, pD v] ∧ SeqD d (rD xs) ∧ xs.length ≤ 100 ∧ Bd (2 ^ n) xs ∧ Lt2 m u.1 ∧ Lt2 m u.2 ∧ Lt2 m v.1 ∧ Lt2 m v.2 ∧ m ≤ 10000 ∧ n ≤ 100000 ∧ r = .rt (.int (turnsL u v xs))
def F__law_is_part (ds : List PyData) (r : Res) : Prop := ∃ u : Int × Int, ds = [pD u] ∧ 0 < u.2 ∧ Lt2 8000 u.2 ∧ Int.gcd u.1 u.2 = 1 ∧ r = .rt (.bool true)
abbrev sp__law_smallest (K : PySem.W.Frag) : Sp := spD K 1 F__law_smallest
abbrev sp__law_value (K : PySem.W.Frag) : Sp := spD K 2 F__law_value
abbrev sp__law_by (K : PySem.W.Frag) : Sp := spD K 2 F__law_by
abbrev sp__law_seen (K : PySem.W.Frag) : Sp := spD K 3 F__law_seen
abbrev sp__law_turns (K : PySem.W.Frag) : Sp := spD K 3 F__law_turns
abbrev sp__law_is_part (K : PySem.W.Frag) : Sp := spD K 1 F__law_is_part
def t__law_smallest (K : PySem.W.Frag) : TS := (tSeq (tAsg (tC (.int 0)) (gName 1))
  (tSeq (tFor (iSeq K (tVar 0)) (gName 2) (tAsg (tCall (sp__law_divisor K) [] E0 (tCons (tVar 1) (tCons (tVar 2) tNil))) (gName 1)))
  (tSeq (tIfS (tTest (tOp (rI0 fun i j => .bl (decide (i < j))) (tOp (rIx K) (tVar 0) (tUn (rU fun i => .int (-i)) (tC (.int 1)))) (tC (.int 0)))) (tAsg (tOp (rI0 fun i j => .int (i - j)) (tC (.int 0)) (tVar 1)) (gName 1)) tNext)
  (tRet (tLc (iSeq K (tVar 0)) (gName 2) tYes (tOp (rI CDivQ fun i j => .int (i.fdiv j)) (tVar 2) (tVar 1)) [2])))))
abbrev N__law_smallest : List Str := ["_law_row", "_law_by_here", "_law_one"]
def t__law_value (K : PySem.W.Frag) : TS := (tSeq (tAsg (tC (.int 0)) (gName 2))
  (tSeq (tAsg (tC (.int 1)) (gName 3))
  (tSeq (tFor (iRng3 (tCons (tOp (rI0 fun i j => .int (i - j)) (tLen K (tVar 0)) (tC (.int 1))) (tCons (tUn (rU fun i => .int (-i)) (tC (.int 1))) (tCons (tUn (rU fun i => .int (-i)) (tC (.int 1))) tNil)))) (gName 4) (tSeq (tAsg (tOp (rI0 fun i j => .int (i + j)) (tOp (rI CMulX fun i j => .int (i * j)) (tVar 2) (tOp (rIx K) (tVar 1) (tC (.int 0)))) (tOp (rI CMulX fun i j => .int (i * j)) (tOp (rIx K) (tVar 0) (tVar 4)) (tVar 3))) (gName 2))
  (tAsg (tOp (rI CMulX fun i j => .int (i * j)) (tVar 3) (tOp (rIx K) (tVar 1) (tC (.int 1)))) (gName 3))))
  (tRet (tVar 2)))))
abbrev N__law_value : List Str := ["_law_row", "_law_at", "_law_total", "_law_scale", "_law_k"]
def t__law_by (K : PySem.W.Frag) : TS := (tSeq (tAsg (tLc (iRng1 (tCons (tOp (rI0 fun i j => .int (i - j)) (tOp (rI0 fun i j => .int (i + j)) (tLen K (tVar 0)) (tLen K (tVar 1))) (tC (.int 1))) tNil)) (gName 3) tYes (tC (.int 0)) [3]) (gName 2))
  (tSeq (tFor (iRng1 (tCons (tLen K (tVar 0)) tNil)) (gName 3) (tFor (iRng1 (tCons (tLen K (tVar 1)) tNil)) (gName 4) (tAsg (tOp (rI0 fun i j => .int (i + j)) (tOp (rIx K) (tVar 2) (tOp (rI0 fun i j => .int (i + j)) (tVar 3) (tVar 4))) (tOp (rI CMulX fun i j => .int (i * j)) (tOp (rIx K) (tVar 0) (tVar 3)) (tOp (rIx K) (tVar 1) (tVar 4)))) (gSub (tVar 2) (tOp (rI0 fun i j => .int (i + j)) (tVar 3) (tVar 4)) rSetL))))
  (tRet (tVar 2))))
abbrev N__law_by : List Str := ["_law_row", "_law_other", "_law_found", "_law_k", "_law_j"]
def t__law_seen (K : PySem.W.Frag) : TS := (tSeq (tAsg (tLc (iSeq K (tVar 0)) (gName 7) tYes (tC (.int 0)) [7]) (gName 3))
  (tSeq (tFor (iRng1 (tCons (tLen K (tVar 0)) tNil)) (gName 4) (tSeq (tAsg (tLst (tCons (tOp (rIx K) (tVar 0) (tVar 4)) tNil)) (gName 5))
  (tSeq (tFor (iRng1 (tCons (tOp (rI0 fun i j => .int (i - j)) (tLen K (tVar 0)) (tC (.int 1))) tNil)) (gName 6) (tIfS (tTest (tOp (rI0 fun i j => .bl (decide (i < j))) (tVar 6) (tVar 4))) (tAsg (tCall (sp__law_by K) [] E0 (tCons (tVar 5) (tCons (tLst (tCons (tOp (rI CMulX fun i j => .int (i * j)) (tOp (rIx K) (tVar 1) (tC (.int 0))) (tOp (rIx K) (tVar 2) (tC (.int 1)))) (tCons (tOp (rI CMulX fun i j => .int (i * j)) (tOp (rIx K) (tVar 2) (tC (.int 0))) (tOp (rIx K) (tVar 1) (tC (.int 1)))) tNil))) tNil))) (gName 5)) (tAsg (tCall (sp__law_by K) [] E0 (tCons (tVar 5) (tCons (tLst (tCons (tOp (rI CMulX fun i j => .int (i * j)) (tOp (rIx K) (tVar 1) (tC (.int 1))) (tOp (rIx K) (tVar 2) (tC (.int 1)))) (tCons (tOp (rI CMulX fun i j => .int (i * j)) (tOp (rIx K) (tVar 1) (tC (.int 1))) (tOp (rIx K) (tVar 2) (tC (.int 1)))) tNil))) tNil))) (gName 5))))
  (tAsg (tLc (iRng1 (tCons (tLen K (tVar 0)) tNil)) (gName 6) tYes (tOp (rI0 fun i j => .int (i + j)) (tOp (rIx K) (tVar 3) (tVar 6)) (tOp (rIx K) (tVar 5) (tVar 6))) [6]) (gName 3)))))
  (tRet (tVar 3))))
abbrev N__law_seen : List Str := ["_law_row", "_law_low", "_law_high", "_law_found", "_law_k", "_law_made", "_law_j", "_law_one"]
def t__law_turns (K : PySem.W.Frag) : TS := (tSeq (tAsg (tC (.int 0)) (gName 3))
  (tSeq (tAsg (tC (.int 0)) (gName 4))
  (tSeq (tFor (iSeq K (tCall (sp__law_seen K) [] E0 (tCons (tVar 0) (tCons (tVar 1) (tCons (tVar 2) tNil))))) (gName 5) (tSeq (tIfS (tTest (tOp (rI0 fun i j => .bl (decide (i < j))) (tOp (rI CMulX fun i j => .int (i * j)) (tVar 5) (tVar 4)) (tC (.int 0)))) (tAsg (tOp (rI0 fun i j => .int (i + j)) (tVar 3) (tC (.int 1))) (gName 3)) tNext)
  (tIfS (tTest (tOp (rNeD K) (tVar 5) (tC (.int 0)))) (tAsg (tVar 5) (gName 4)) tNext)))
  (tRet (tVar 3)))))
abbrev N__law_turns : List Str := ["_law_row", "_law_low", "_law_high", "_law_count", "_law_last", "_law_one"]
def t__law_is_part (K : PySem.W.Frag) : TS := (tSeq (tIfS (tOr (tNot (tTruth K (tCB (rIsi K) (tCons (tVar 0) (tCons (tC (.ty "tuple")) tNil))))) (tOr (tTest (tOp (rNeD K) (tLen K (tVar 0)) (tC (.int 2)))) (tOr (tNot (tTruth K (tCall (sp__law_whole K) [] E0 (tCons (tOp (rIx K) (tVar 0) (tC (.int 0))) tNil)))) (tNot (tTruth K (tCall (sp__law_whole K) [] E0 (tCons (tOp (rIx K) (tVar 0) (tC (.int 1))) tNil))))))) (tRet (tC (.bl false))) tNext)
  (tRet (tAndV (tOp (rI0 fun i j => .bl (decide (j < i))) (tOp (rIx K) (tVar 0) (tC (.int 1))) (tC (.int 0))) (tOp (rEqD K) (tCall (sp__law_part K) [] E0 (tCons (tOp (rIx K) (tVar 0) (tC (.int 0))) (tCons (tOp (rIx K) (tVar 0) (tC (.int 1))) tNil))) (tVar 0)))))
abbrev N__law_is_part : List Str := ["_law_found"]
theorem getD_addL' (p q : List Int) (i : Nat) : (addL p q).getD i 0 = p.getD i 0 + q.getD i 0 := getD_addL p q i
theorem rD_last' {xs : List Int} (h : xs ≠ []) : atI (rD xs) (-1) = some (.int (lastZ xs)) := by
  rw [rD_last h]; unfold lastZ; rw [List.getLast?_eq_some_getLast h]; rfl
theorem cont_snoc : ∀ (p : List Int) (a : Int), cont (p ++ [a]) = Nat.gcd (cont p) a.natAbs
  | [], a => by simp [cont]
  | b :: p, a => by
    show Nat.gcd b.natAbs (cont (p ++ [a])) = Nat.gcd (Nat.gcd b.natAbs (cont p)) a.natAbs
    rw [cont_snoc p a, Nat.gcd_assoc]
theorem take_snoc {xs : List Int} {i : Nat} {a : Int} (h : xs[i]? = some a) : xs.take (i + 1) = xs.take i ++ [a] := by rw [List.take_succ, h]; rfl
theorem ints_get' {lo : Int} {n i : Nat} {d : PyData} (h : (intsD lo n)[i]? = some d) : i < n ∧ d = .int (lo + (i : Nat)) := by
  unfold intsD at h
  rw [List.getElem?_map] at h
  by_cases hi : i < n
  · rw [List.getElem?_range hi] at h; cases h; exact ⟨hi, rfl⟩
  · rw [List.getElem?_eq_none_iff.mpr (by rw [List.length_range]; omega)] at h; cases h
theorem ints_len' (lo : Int) (n : Nat) : (intsD lo n).length = n := by unfold intsD; rw [List.length_map, List.length_range]
theorem mul_snoc (a : Int) (q : List Int) : ∀ (p : List Int) (t : Nat), (mulL (p ++ [a]) q).getD t 0 = (mulL p q).getD t 0 + (if p.length ≤ t then a * q.getD (t - p.length) 0 else 0)
  | [], t => by
    show (addL (smul a q) [0]).getD t 0 = ([] : List Int).getD t 0 + (if 0 ≤ t then a * q.getD (t - 0) 0 else 0)
    rw [getD_addL, getD_smul, if_pos (Nat.zero_le _), Nat.sub_zero]
    cases t <;> simp
  | b :: p, 0 => by
    show (addL (smul b q) (0 :: mulL (p ++ [a]) q)).getD 0 0 = (addL (smul b q) (0 :: mulL p q)).getD 0 0 + (if p.length + 1 ≤ 0 then _ else 0)
    rw [getD_addL, getD_addL, if_neg (by omega)]
    simp
  | b :: p, t + 1 => by
    show (addL (smul b q) (0 :: mulL (p ++ [a]) q)).getD (t + 1) 0 = (addL (smul b q) (0 :: mulL p q)).getD (t + 1) 0 + (if p.length + 1 ≤ t + 1 then a * q.getD (t + 1 - (p.length + 1)) 0 else 0)
    rw [getD_addL, getD_addL, List.getD_cons_succ, List.getD_cons_succ, mul_snoc a q p t]
    have e : t + 1 - (p.length + 1) = t - p.length := by omega
    rw [e]
    by_cases h : p.length ≤ t
    · rw [if_pos h, if_pos (by omega)]; omega
    · rw [if_neg h, if_neg (by omega)]; omega
theorem getD_set {xs : List Int} {n t : Nat} {v : Int} (h : n < xs.length) : (xs.set n v).getD t 0 = if t = n then v else xs.getD t 0 := by
  rw [List.getD_eq_getElem?_getD, List.getD_eq_getElem?_getD]
  by_cases e : n = t
  · subst e
    rw [List.getElem?_set_self h, if_pos rfl]; rfl
  · rw [List.getElem?_set_ne e, if_neg (fun z => e z.symm)]
theorem take_getD {p : List Int} {i : Nat} (h : i < p.length) : p.take (i + 1) = p.take i ++ [p.getD i 0] := by
  have : p[i]? = some (p.getD i 0) := by rw [List.getD_eq_getElem?_getD, List.getElem?_eq_getElem h]; rfl
  rw [List.take_succ, this]; rfl
section
variable {K : PySem.W.Frag}
def downD (n : Nat) : List PyData := (List.range n).map fun k : Nat => .int ((n : Int) - 1 + (k : Nat) * (-1))
theorem downD_len (n : Nat) : (downD n).length = n := by unfold downD; rw [List.length_map, List.length_range]
theorem downD_get {n i : Nat} {d : PyData} (h : (downD n)[i]? = some d) : i < n ∧ d = .int ((n : Int) - 1 + (i : Nat) * (-1)) := by
  unfold downD at h
  rw [List.getElem?_map] at h
  by_cases hi : i < n
  · rw [List.getElem?_range hi] at h; cases h; exact ⟨hi, rfl⟩
  · rw [List.getElem?_eq_none_iff.mpr (by rw [List.length_range]; omega)] at h; cases h
theorem id_down {ρ : Rho} {ta : TA} {n : Nat} (h : AD K ta ρ [.int ((n : Int) - 1), .int (-1), .int (-1)]) (hn : n ≤ 100000) : ID K (iRng3 ta) ρ (downD n) := fun G H σ I R q => h G H σ I _ fun vs G2 H2 s hv => by
  cases hv with
  | cons a b =>
    cases b with
    | cons b c =>
      cases c with
      | cons c e =>
        cases e
        cases dp_int a; cases dp_int b; cases dp_int c
        refine ⟨(n : Int) - 1, -1, -1, n, rfl, ⟨by decide, by decide, ?_, ?_⟩, q _ G2 H2 s ?_⟩
        · have e : PySem.Builtin.Range.rangeSize ((n : Int) - 1) (-1) (-1) = n := by
            unfold PySem.Builtin.Range.rangeSize
            simp
            omega
          unfold PySem.Builtin.Range.small
          rw [e]
          simp [PySem.Builtin.Range.rangeFitsLong]
          omega
        · unfold PySem.Builtin.Range.rangeSize
          simp
          omega
        · refine ⟨fun i G' H' e1 e2 hi => by rw [downD_len] at hi; exact hi, fun i d G' H' e1 e2 hi => ?_⟩
          obtain ⟨hi', rfl⟩ := downD_get hi
          refine ⟨hi', fun x H2 hy => ?_⟩
          obtain ⟨rfl, rfl⟩ := hy
          exact ⟨G', Step.refl e2, .int _⟩
theorem pure__law_smallest (ds : List PyData) (r : Res) (h : F__law_smallest ds r) (B0 B : Hp) : SD K B0 B (t__law_smallest K) (startR N__law_smallest ds) (fin r) := by
  obtain ⟨d, xs, n, rfl, hs, hz, hl, hx, hn, rfl⟩ := h
  have hne := lastZ_ne hz
  have el : atI (rD xs) (-1) = some (.int (lastZ xs)) := rD_last' hne
  have bn := barS_ne hz
  have bl : Lt2 8000 (barS xs) := (hx.last.of_le (Nat.le_of_dvd (by omega) (Int.natAbs_dvd_natAbs.mpr (barS_dvd (by
    unfold lastZ; rw [List.getLast?_eq_some_getLast hne]; exact List.getLast_mem hne))))).mono hn
  unfold t__law_smallest
  apply sd_seq; apply sd_set; (case h => walk_at "ev" )
  refine sd_seq (sd_for (id_seq (ed_var rfl) hs) (fun i ρ => ∃ z, ρ = [some (.d d), some (.d (.int (cont (xs.take i) : Int))), z]) ⟨none, rfl⟩ ?_ ?_)
  · rintro i e ρ' hi ⟨z, rfl⟩
    obtain ⟨a, ha, rfl⟩ := rD_get hi
    refine ⟨_, gd_name, ?_⟩
    refine sd_set (ed_call (ad_cons (ed_var rfl) (ad_cons (ed_var rfl) ad_nil)) ⟨_, _, rfl, rfl⟩ rfl) ⟨some (.d (.int a)), ?_⟩
    rw [take_snoc ha, cont_snoc]
    rfl
  · rintro ρ' ⟨z, rfl⟩
    show SD K B0 B _ _ _
    rw [rD_len, List.take_length]
    have fin2 : ∀ z, SD K B0 B (tRet (tLc (iSeq K (tVar 0)) (gName 2) tYes (tOp (rI CDivQ fun i j => V.int (i.fdiv j)) (tVar 2) (tVar 1)) [2])) [some (.d d), some (.d (.int (barS xs))), z] (fin (.rf (rD (bareL xs)))) := fun z => by
      refine sd_retF (ds := rD (bareL xs)) ?_ rfl
      refine (ef_lc (ds := rD xs) (fun i => .int ((xs.getD i 0).fdiv (barS xs))) (id_seq (ed_var rfl) hs) (by rw [rD_len]; omega) fun i e hi => ?_).cast ?_
      · obtain ⟨a, ha, rfl⟩ := rD_get hi
        have ea : xs.getD i 0 = a := by rw [List.getD_eq_getElem?_getD, ha]; rfl
        refine ⟨_, gc_name, ?_⟩
        rw [ea]
        exact ed_fdivP (ed_var rfl) (ed_var rfl) (bl.cd bn (by decide))
      · rw [rD_len]
        unfold rD bareL
        rw [List.map_map]
        exact map_range fun i a ha => by rw [List.getD_eq_getElem?_getD, ha]; rfl
    apply sd_seq; apply sd_if; (case h => walk_at "ev" <;> (first | (exact el) | walk_at "rt1")); all_goals intro hb
    · have hb : lastZ xs < 0 := of_decide_eq_true hb
      have es : barS xs = 0 - (cont xs : Int) := by unfold barS; rw [if_pos hb]; omega
      apply sd_set; (case h => walk_at "ev" )
      rw [← es]
      exact fin2 z
    · have hb : ¬ lastZ xs < 0 := of_decide_eq_false hb
      have es : barS xs = (cont xs : Int) := by unfold barS; rw [if_neg hb]
      rw [← es]
      exact sd_next (fin2 z)
theorem pure__law_value (ds : List PyData) (r : Res) (h : F__law_value ds r) (B0 B : Hp) : SD K B0 B (t__law_value K) (startR N__law_value ds) (fin r) := by
  obtain ⟨d, xs, t, b, n, m, rfl, hs, hl, hx, ht, hb, hm, hz, rfl⟩ := h
  unfold t__law_value
  apply sd_seq; apply sd_set; (case h => walk_at "ev" )
  apply sd_seq; apply sd_set; (case h => walk_at "ev" )
  refine sd_seq (sd_for (id_down (n := xs.length) (ad_cons (ed_sub (ed_lenR (ed_var rfl) hs) ed_int) (ad_cons (ed_neg ed_int) (ad_cons (ed_neg ed_int) ad_nil))) (by omega)) (fun i ρ => ∃ z, ρ = [some (.d d), some (.d (pD (t, b))), some (.d (.int (hor t b (xs.drop (xs.length - i))).1)), some (.d (.int (hor t b (xs.drop (xs.length - i))).2)), z]) ⟨none, ?_⟩ ?_ ?_)
  · rw [Nat.sub_zero, List.drop_length]; rfl
  · rintro i e ρ' hi ⟨z, rfl⟩
    obtain ⟨hi, rfl⟩ := downD_get hi
    refine ⟨_, gd_name, ?_⟩
    have hlt : xs.length - 1 - i < xs.length := by omega
    have ek : hor t b (xs.drop (xs.length - (i + 1))) = ((hor t b (xs.drop (xs.length - i))).1 * t + xs.getD (xs.length - 1 - i) 0 * (hor t b (xs.drop (xs.length - i))).2, (hor t b (xs.drop (xs.length - i))).2 * b) := by
      rw [show xs.length - (i + 1) = xs.length - 1 - i by omega, List.drop_eq_getElem_cons hlt, show xs.length - 1 - i + 1 = xs.length - i by omega]
      have : xs.getD (xs.length - 1 - i) 0 = xs[xs.length - 1 - i] := by rw [List.getD_eq_getElem?_getD, List.getElem?_eq_getElem hlt]; rfl
      rw [this]; rfl
    have ea : atI (rD xs) ((xs.length : Int) - 1 + (i : Nat) * (-1)) = some (.int (xs.getD (xs.length - 1 - i) 0)) := by
      have := rD_at (xs := xs) (k := (xs.length : Int) - 1 + (i : Nat) * (-1)) (by omega) (by omega)
      rwa [show ((xs.length : Int) - 1 + (i : Nat) * (-1)).toNat = xs.length - 1 - i by omega] at this
    obtain ⟨b1, b2⟩ := hor_lt (n := n) ht hb hm (xs := xs.drop (xs.length - i)) fun y hy => hx y (List.mem_of_mem_drop hy)
    have hll : (xs.drop (xs.length - i)).length = i := by rw [List.length_drop]; omega
    rw [hll] at b1 b2
    have e1 : i * (m + 1) ≤ xs.length * (m + 1) := Nat.mul_le_mul_right _ (by omega)
    have e2 : i * (m + 1) = i * m + i := Nat.mul_succ _ _
    have e3 : (xs.length + 2) * (m + 1) = xs.length * (m + 1) + 2 * (m + 1) := Nat.add_mul _ _ _
    have sq : SeqD (pD (t, b)) [.int t, .int b] := SeqD.t _
    refine sd_seq (sd_set (ed_add (ed_mul (ed_var rfl) (ed_ix (ed_var rfl) sq ed_int rfl) (b1.cm ht (by omega))) (ed_mul (ed_ix (ed_var rfl) hs (ed_var rfl) ea) (ed_var rfl) ((hx.getD _).cm b2 (by omega)))) ?_)
    refine sd_set (ed_mul (ed_var rfl) (ed_ix (ed_var rfl) sq ed_int rfl) (b2.cm hb (by omega))) ⟨_, by rw [ek]; rfl⟩
  · rintro ρ' ⟨z, rfl⟩
    show SD K B0 B _ _ _
    rw [downD_len, Nat.sub_self, List.drop_zero]
    exact sd_ret (ed_var rfl) rfl
theorem pure__law_by (ds : List PyData) (r : Res) (h : F__law_by ds r) (B0 B : Hp) : SD K B0 B (t__law_by K) (startR N__law_by ds) (fin r) := by
  obtain ⟨p, q, sn, sm, rfl, hp, hq, lp, lq, sp, sq, hnm, rfl⟩ := h
  have p0 := List.length_pos_iff.mpr hp
  have q0 := List.length_pos_iff.mpr hq
  have lm := mulL_len hp hq
  unfold t__law_by
  have lc : EF K (tLc (iRng1 (tCons (tOp (rI0 fun i j => .int (i - j)) (tOp (rI0 fun i j => .int (i + j)) (tLen K (tVar 0)) (tLen K (tVar 1))) (tC (.int 1))) tNil)) (gName 3) tYes (tC (.int 0)) [3]) (startR N__law_by [.list (rD p), .list (rD q)]) (rD (List.replicate (p.length + q.length - 1) 0)) := by
    refine (ef_lc (fun _ => .int 0) (id_rng1 (n := (p.length : Int) + q.length - 1) (ad_cons (ed_sub (ed_add (ed_lenR (ed_var rfl) (SeqD.l _)) (ed_lenR (ed_var rfl) (SeqD.l _))) ed_int) ad_nil) (by omega) (by omega)) (by rw [ints_len']; omega) fun i d hi => ⟨_, gc_name, ed_int⟩).cast ?_
    rw [ints_len', show ((p.length : Int) + q.length - 1).toNat = p.length + q.length - 1 by omega]
    unfold rD
    rw [List.map_replicate, List.eq_replicate_iff]
    refine ⟨by rw [List.length_map, List.length_range], fun b hb => ?_⟩
    obtain ⟨_, _, rfl⟩ := List.mem_map.mp hb
    rfl
  refine sd_seq (sd_setF lc ?_)
  refine sd_seq (sd_for (id_rng1 (n := (p.length : Int)) (ad_cons (ed_lenR (ed_var rfl) (SeqD.l _)) ad_nil) (by omega) (by omega)) (fun i ρ => ∃ (fd : List Int) (z3 z4 : Option SV), ρ = [some (.d (.list (rD p))), some (.d (.list (rD q))), some (.own (rD fd)), z3, z4] ∧ fd.length = p.length + q.length - 1 ∧ ∀ t, fd.getD t 0 = (mulL (p.take i) q).getD t 0) ⟨List.replicate (p.length + q.length - 1) 0, none, none, rfl, List.length_replicate, fun t => ?_⟩ ?_ ?_)
  · show (List.replicate _ (0 : Int)).getD t 0 = ([] : List Int).getD t 0
    rw [List.getD_eq_getElem?_getD, List.getElem?_replicate]
    split <;> simp
  · rintro i d ρ' hi ⟨fd, z3, z4, rfl, hl, hv⟩
    obtain ⟨hi, rfl⟩ := ints_get' hi
    have hi : i < p.length := by omega
    refine ⟨_, gd_name, ?_⟩
    refine sd_for (id_rng1 (n := (q.length : Int)) (ad_cons (ed_lenR (ed_var rfl) (SeqD.l _)) ad_nil) (by omega) (by omega)) (fun j ρ => ∃ (fd : List Int) (z4 : Option SV), ρ = [some (.d (.list (rD p))), some (.d (.list (rD q))), some (.own (rD fd)), some (.d (.int (0 + (i : Nat)))), z4] ∧ fd.length = p.length + q.length - 1 ∧ ∀ t, fd.getD t 0 = (mulL (p.take i) q).getD t 0 + (if i ≤ t ∧ t < i + j then p.getD i 0 * q.getD (t - i) 0 else 0)) ⟨fd, z4, rfl, hl, fun t => by rw [hv t, if_neg (by omega), Int.add_zero]⟩ ?_ ?_
    · rintro j d ρ' hj ⟨fd, z4, rfl, hl, hv⟩
      obtain ⟨hj, rfl⟩ := ints_get' hj
      have hj : j < q.length := by omega
      refine ⟨_, gd_name, ?_⟩
      have e1 : atI (rD fd) (0 + (i : Nat) + (0 + (j : Nat))) = some (.int (fd.getD (i + j) 0)) := by
        have := rD_at (xs := fd) (k := 0 + (i : Nat) + (0 + (j : Nat))) (by omega) (by omega)
        rwa [show (0 + (i : Nat) + (0 + (j : Nat)) : Int).toNat = i + j by omega] at this
      have e2 : atI (rD p) (0 + (i : Nat)) = some (.int (p.getD i 0)) := by
        have := rD_at (xs := p) (k := 0 + (i : Nat)) (by omega) (by omega)
        rwa [show (0 + (i : Nat) : Int).toNat = i by omega] at this
      have e3 : atI (rD q) (0 + (j : Nat)) = some (.int (q.getD j 0)) := by
        have := rD_at (xs := q) (k := 0 + (j : Nat)) (by omega) (by omega)
        rwa [show (0 + (j : Nat) : Int).toNat = j by omega] at this
      refine sd_setI (i := 2) (ds := rD fd) (m := i + j) rfl (ed_add (ed_ixO (k := 2) rfl (ed_add (ed_var rfl) (ed_var rfl)) e1) (ed_mul (ed_ix (ed_var rfl) (SeqD.l _) (ed_var rfl) e2) (ed_ix (ed_var rfl) (SeqD.l _) (ed_var rfl) e3) ((sp.getD i).cm (sq.getD j) (by omega)))) (ed_add (ed_var rfl) (ed_var rfl)) ?_ ?_
      · unfold ixN
        rw [if_pos (by omega), rD_len, if_pos (by omega)]
        congr 1; omega
      · refine ⟨fd.set (i + j) (fd.getD (i + j) 0 + p.getD i 0 * q.getD j 0), some (.d (.int (0 + (j : Nat)))), ?_, by rw [List.length_set]; exact hl, fun t => ?_⟩
        · unfold rD; rw [List.map_set]; rfl
        · rw [getD_set (by omega)]
          by_cases e : t = i + j
          · subst e
            rw [if_pos rfl, hv, if_neg (by omega), if_pos (by omega), Int.add_zero, Nat.add_sub_cancel_left]
          · rw [if_neg e, hv]
            by_cases c : i ≤ t ∧ t < i + j
            · rw [if_pos c, if_pos (by omega)]
            · rw [if_neg c, if_neg (by omega)]
    · rintro ρ' ⟨fd, z4, rfl, hl, hv⟩
      refine ⟨fd, _, z4, rfl, hl, fun t => ?_⟩
      rw [hv t, ints_len', Int.toNat_natCast, take_getD hi, mul_snoc, List.length_take, Nat.min_eq_left (by omega)]
      by_cases c : i ≤ t
      · rw [if_pos c]
        by_cases c2 : t < i + q.length
        · rw [if_pos ⟨c, c2⟩]
        · rw [if_neg (by omega), List.getD_eq_getElem?_getD, List.getD_eq_getElem?_getD (l := q), List.getElem?_eq_none_iff.mpr (show q.length ≤ t - i by omega)]
          show _ = _ + _ * 0
          rw [Int.mul_zero]
      · rw [if_neg (by omega), if_neg c]
  · rintro ρ' ⟨fd, z3, z4, rfl, hl, hv⟩
    show SD K B0 B _ _ _
    refine sd_retO (i := 2) (ds := rD (mulL p q)) ?_ rfl
    have e : fd = mulL p q := by
      rw [ints_len', Int.toNat_natCast, List.take_length] at hv
      apply List.ext_getElem (by omega)
      intro t h1 h2
      have := hv t
      rwa [List.getD_eq_getElem?_getD, List.getD_eq_getElem?_getD, List.getElem?_eq_getElem h1, List.getElem?_eq_getElem h2] at this
    rw [e]; rfl
theorem bd_mul2 {a b : Nat} {p q : List Int} (hp : Bd (2 ^ a) p) (hq : Bd (2 ^ b) q) (np : p ≠ []) (h2 : q.length = 2) : Bd (2 ^ (a + b + 1)) (mulL p q) := by
  have nq : q ≠ [] := by intro z; rw [z] at h2; simp at h2
  have e : mulL p q = mulL q p := eq_of_ev (by have := mulL_len np nq; have := mulL_len nq np; omega) fun x => by rw [ev_mulL, ev_mulL, Int.mul_comm]
  rw [e]
  refine (bd_mul hp hq).mono ?_
  rw [h2, Nat.pow_succ, Nat.pow_add, Nat.mul_comm (2 ^ b)]; omega
theorem bd_facP {n m : Nat} {A B : List Int} (hA : Bd (2 ^ m) A) (hB : Bd (2 ^ m) B) (lA : A.length = 2) (lB : B.length = 2) {x : Int} (hx : x.natAbs ≤ 2 ^ n) (k : Nat) : ∀ j, Bd (2 ^ (n + j * (m + 1))) (facP A B x k j)
  | 0 => fun a ha => by
    rw [List.mem_singleton.mp (show a ∈ [x] from ha), Nat.zero_mul]; exact hx
  | j + 1 => by
    have ih := bd_facP hA hB lA lB hx k j
    have hl := facP_len lA lB x k j
    have ne : facP A B x k j ≠ [] := by intro z; rw [z] at hl; simp at hl
    have : n + (j + 1) * (m + 1) = n + j * (m + 1) + m + 1 := by rw [Nat.succ_mul]; omega
    rw [this]
    show Bd _ (mulL (facP A B x k j) (if j < k then A else B))
    split
    · exact bd_mul2 ih hA ne lA
    · exact bd_mul2 ih hB ne lB
theorem bd_seenK {n m : Nat} {A B xs : List Int} (hA : Bd (2 ^ m) A) (hB : Bd (2 ^ m) B) (lA : A.length = 2) (lB : B.length = 2) (hx : Bd (2 ^ n) xs) : ∀ K, Bd (2 ^ (n + (xs.length - 1) * (m + 1) + K)) (seenK A B xs K)
  | 0 => fun a ha => by
    rw [(List.mem_replicate.mp (show a ∈ List.replicate xs.length 0 from ha)).2]; exact Nat.zero_le _
  | K + 1 => by
    have h0 : (xs.getD K 0).natAbs ≤ 2 ^ n := by
      rw [List.getD_eq_getElem?_getD]
      cases q : xs[K]? with
      | none => exact Nat.zero_le _
      | some v => exact hx v (List.mem_of_getElem? q)
    refine (bd_add (bd_seenK hA hB lA lB hx K) (bd_facP hA hB lA lB h0 K (xs.length - 1))).mono ?_
    rw [← Nat.add_assoc, Nat.pow_succ]
    have : 2 ^ (n + (xs.length - 1) * (m + 1)) ≤ 2 ^ (n + (xs.length - 1) * (m + 1) + K) := Nat.pow_le_pow_right (by decide) (Nat.le_add_right _ _)
    omega
end
theorem pD_seq (u : Int × Int) : SeqD (pD u) [.int u.1, .int u.2] := SeqD.t _
theorem Bd2 {n : Nat} {a b : Int} (h1 : Lt2 n a) (h2 : Lt2 n b) : Bd (2 ^ n) [a, b] := fun x hx => by
  rcases List.mem_cons.mp hx with rfl | hx
  · exact Nat.le_of_lt h1
  · rw [List.mem_singleton.mp hx]; exact Nat.le_of_lt h2
section
variable {K : PySem.W.Frag}
theorem pure__law_seen (ds : List PyData) (r : Res) (h : F__law_seen ds r) (B0 B : Hp) : SD K B0 B (t__law_seen K) (startR N__law_seen ds) (fin r) := by
  obtain ⟨d, xs, u, v, n, m, rfl, hs, hl, hx, hu1, hu2, hv1, hv2, hm, hn, rfl⟩ := h
  unfold t__law_seen seenL
  have bA : Bd (2 ^ (m + m)) [u.1 * v.2, v.1 * u.2] := Bd2 (hu1.mul hv2) (hv1.mul hu2)
  have bB : Bd (2 ^ (m + m)) [u.2 * v.2, u.2 * v.2] := Bd2 (hu2.mul hv2) (hu2.mul hv2)
  have lc : EF K (tLc (iSeq K (tVar 0)) (gName 7) tYes (tC (.int 0)) [7]) (startR N__law_seen [d, pD u, pD v]) (rD (List.replicate xs.length 0)) := by
    refine (ef_lc (ds := rD xs) (fun _ => .int 0) (id_seq (ed_var rfl) hs) (by rw [rD_len]; omega) fun i d hi => ⟨_, gc_name, ed_int⟩).cast ?_
    rw [rD_len]
    unfold rD
    rw [List.map_replicate, List.eq_replicate_iff]
    refine ⟨by rw [List.length_map, List.length_range], fun b hb => ?_⟩
    obtain ⟨_, _, rfl⟩ := List.mem_map.mp hb
    rfl
  refine sd_seq (sd_set (EF.ed lc) ?_)
  refine sd_seq (sd_for (id_rng1 (n := (xs.length : Int)) (ad_cons (ed_lenR (ed_var rfl) hs) ad_nil) (by omega) (by omega)) (fun k ρ => ∃ z4 z5 z6 z7 : Option SV, ρ = [some (.d d), some (.d (pD u)), some (.d (pD v)), some (.d (.list (rD (seenK [u.1 * v.2, v.1 * u.2] [u.2 * v.2, u.2 * v.2] xs k)))), z4, z5, z6, z7]) ⟨none, none, none, none, rfl⟩ ?_ ?_)
  · rintro k e ρ' hk ⟨z4, z5, z6, z7, rfl⟩
    obtain ⟨hk, rfl⟩ := ints_get' hk
    have hk : k < xs.length := by omega
    refine ⟨_, gd_name, ?_⟩
    have ek : atI (rD xs) (0 + (k : Nat)) = some (.int (xs.getD k 0)) := by
      have := rD_at (xs := xs) (k := 0 + (k : Nat)) (by omega) (by omega)
      rwa [show (0 + (k : Nat) : Int).toNat = k by omega] at this
    have hxk : (xs.getD k 0).natAbs ≤ 2 ^ n := by
      rw [List.getD_eq_getElem?_getD, List.getElem?_eq_getElem hk]
      exact hx _ (List.getElem_mem hk)
    refine sd_seq (sd_set (EF.ed (ef_lst (ad_cons (ed_ix (ed_var rfl) hs (ed_var rfl) ek) ad_nil) (Nat.le_of_ble_eq_true rfl))) ?_)
    refine sd_seq (sd_for (id_rng1 (n := (xs.length : Int) - 1) (ad_cons (ed_sub (ed_lenR (ed_var rfl) hs) ed_int) ad_nil) (by omega) (by omega)) (fun j ρ => ∃ z6 z7 : Option SV, ρ = [some (.d d), some (.d (pD u)), some (.d (pD v)), some (.d (.list (rD (seenK [u.1 * v.2, v.1 * u.2] [u.2 * v.2, u.2 * v.2] xs k)))), some (.d (.int (0 + (k : Nat)))), some (.d (.list (rD (facP [u.1 * v.2, v.1 * u.2] [u.2 * v.2, u.2 * v.2] (xs.getD k 0) k j)))), z6, z7]) ⟨z6, z7, rfl⟩ ?_ ?_)
    · rintro j e ρ' hj ⟨z6, z7, rfl⟩
      obtain ⟨hj, rfl⟩ := ints_get' hj
      have hj : j < xs.length - 1 := by omega
      refine ⟨_, gd_name, ?_⟩
      have bf := bd_facP bA bB rfl rfl hxk k j
      have lf := facP_len (A := [u.1 * v.2, v.1 * u.2]) (B := [u.2 * v.2, u.2 * v.2]) rfl rfl (xs.getD k 0) k j
      have nf : facP [u.1 * v.2, v.1 * u.2] [u.2 * v.2, u.2 * v.2] (xs.getD k 0) k j ≠ [] := by intro z; rw [z] at lf; simp at lf
      have sz1 : n + j * (m + m + 1) + 1 + (m + m + 1) ≤ 100000000 := by
        have : j * (m + m + 1) ≤ 1000 * 20001 := Nat.mul_le_mul (by omega) (by omega)
        omega
      have cA : CMulX u.1 v.2 := hu1.cm hv2 (by omega)
      have cA2 : CMulX v.1 u.2 := hv1.cm hu2 (by omega)
      have cB : CMulX u.2 v.2 := hu2.cm hv2 (by omega)
      refine sd_if (td_test (ed_lt (ed_var rfl) (ed_var rfl))) (fun hb => ?_) (fun hb => ?_)
      · have hb : j < k := by have := of_decide_eq_true hb; omega
        refine sd_set (EF.ed (ef_call (ad_cons (ed_var rfl) (ad_cons (EF.ed (ef_lst (ad_cons (ed_mul (ed_ix (ed_var rfl) (pD_seq u) ed_int rfl) (ed_ix (ed_var rfl) (pD_seq v) ed_int rfl) cA) (ad_cons (ed_mul (ed_ix (ed_var rfl) (pD_seq v) ed_int rfl) (ed_ix (ed_var rfl) (pD_seq u) ed_int rfl) cA2) ad_nil)) (Nat.le_of_ble_eq_true rfl))) ad_nil)) ⟨_, [u.1 * v.2, v.1 * u.2], _, _, rfl, nf, by simp, by omega, Nat.le_of_ble_eq_true rfl, bf.sz, bA.sz, sz1, rfl⟩ rfl)) ⟨some (.d (.int (0 + (j : Nat)))), z7, ?_⟩
        have e : facP [u.1 * v.2, v.1 * u.2] [u.2 * v.2, u.2 * v.2] (xs.getD k 0) k (j + 1) = mulL (facP [u.1 * v.2, v.1 * u.2] [u.2 * v.2, u.2 * v.2] (xs.getD k 0) k j) (if j < k then [u.1 * v.2, v.1 * u.2] else [u.2 * v.2, u.2 * v.2]) := rfl
        rw [e, if_pos hb]; rfl
      · have hb : ¬ j < k := by have := of_decide_eq_false hb; omega
        refine sd_set (EF.ed (ef_call (ad_cons (ed_var rfl) (ad_cons (EF.ed (ef_lst (ad_cons (ed_mul (ed_ix (ed_var rfl) (pD_seq u) ed_int rfl) (ed_ix (ed_var rfl) (pD_seq v) ed_int rfl) cB) (ad_cons (ed_mul (ed_ix (ed_var rfl) (pD_seq u) ed_int rfl) (ed_ix (ed_var rfl) (pD_seq v) ed_int rfl) cB) ad_nil)) (Nat.le_of_ble_eq_true rfl))) ad_nil)) ⟨_, [u.2 * v.2, u.2 * v.2], _, _, rfl, nf, by simp, by omega, Nat.le_of_ble_eq_true rfl, bf.sz, bB.sz, sz1, rfl⟩ rfl)) ⟨some (.d (.int (0 + (j : Nat)))), z7, ?_⟩
        have e : facP [u.1 * v.2, v.1 * u.2] [u.2 * v.2, u.2 * v.2] (xs.getD k 0) k (j + 1) = mulL (facP [u.1 * v.2, v.1 * u.2] [u.2 * v.2, u.2 * v.2] (xs.getD k 0) k j) (if j < k then [u.1 * v.2, v.1 * u.2] else [u.2 * v.2, u.2 * v.2]) := rfl
        rw [e, if_neg hb]; rfl
    · rintro ρ' ⟨z6, z7, rfl⟩
      rw [ints_len', show ((xs.length : Int) - 1).toNat = xs.length - 1 by omega]
      have ls := seenK_len (A := [u.1 * v.2, v.1 * u.2]) (B := [u.2 * v.2, u.2 * v.2]) rfl rfl xs k (by omega)
      have lf := facP_len (A := [u.1 * v.2, v.1 * u.2]) (B := [u.2 * v.2, u.2 * v.2]) rfl rfl (xs.getD k 0) k (xs.length - 1)
      have es : seenK [u.1 * v.2, v.1 * u.2] [u.2 * v.2, u.2 * v.2] xs (k + 1) = addL (seenK [u.1 * v.2, v.1 * u.2] [u.2 * v.2, u.2 * v.2] xs k) (facP [u.1 * v.2, v.1 * u.2] [u.2 * v.2, u.2 * v.2] (xs.getD k 0) k (xs.length - 1)) := rfl
      rw [es]
      generalize seenK [u.1 * v.2, v.1 * u.2] [u.2 * v.2, u.2 * v.2] xs k = S at *
      generalize facP [u.1 * v.2, v.1 * u.2] [u.2 * v.2, u.2 * v.2] (xs.getD k 0) k (xs.length - 1) = M at *
      show SD K B0 B _ _ _
      refine sd_set (d := .list (rD (addL S M))) (EF.ed ((ef_lc (fun i => .int ((addL S M).getD i 0)) (id_rng1 (n := (xs.length : Int)) (ad_cons (ed_lenR (ed_var rfl) hs) ad_nil) (by omega) (by omega)) (by rw [ints_len']; omega) fun i e hi => ?_).cast ?_)) ⟨_, _, _, _, rfl⟩
      · obtain ⟨hi, rfl⟩ := ints_get' hi
        have hi : i < xs.length := by omega
        refine ⟨_, gc_name, ?_⟩
        have e1 : atI (rD S) (0 + (i : Nat)) = some (.int (S.getD i 0)) := by
          have := rD_at (xs := S) (k := 0 + (i : Nat)) (by omega) (by omega)
          rwa [show (0 + (i : Nat) : Int).toNat = i by omega] at this
        have e2 : atI (rD M) (0 + (i : Nat)) = some (.int (M.getD i 0)) := by
          have := rD_at (xs := M) (k := 0 + (i : Nat)) (by omega) (by omega)
          rwa [show (0 + (i : Nat) : Int).toNat = i by omega] at this
        rw [getD_addL]
        exact ed_add (ed_ix (ed_var rfl) (SeqD.l _) (ed_var rfl) e1) (ed_ix (ed_var rfl) (SeqD.l _) (ed_var rfl) e2)
      · have la : (addL S M).length = xs.length := by rw [addL_len]; omega
        rw [ints_len', Int.toNat_natCast, ← la]
        exact map_range fun i a ha => by rw [List.getD_eq_getElem?_getD, ha]; rfl
  · rintro ρ' ⟨z4, z5, z6, z7, rfl⟩
    show SD K B0 B _ _ _
    rw [ints_len', Int.toNat_natCast]
    exact sd_ret (ed_var rfl) rfl
theorem pure__law_turns (ds : List PyData) (r : Res) (h : F__law_turns ds r) (B0 B : Hp) : SD K B0 B (t__law_turns K) (startR N__law_turns ds) (fin r) := by
  obtain ⟨d, xs, u, v, n, m, rfl, hs, hl, hx, hu1, hu2, hv1, hv2, hm, hn, rfl⟩ := h
  unfold t__law_turns turnsL
  have bA : Bd (2 ^ (m + m)) [u.1 * v.2, v.1 * u.2] := Bd2 (hu1.mul hv2) (hv1.mul hu2)
  have bB : Bd (2 ^ (m + m)) [u.2 * v.2, u.2 * v.2] := Bd2 (hu2.mul hv2) (hu2.mul hv2)
  have bS : Sz (n + (xs.length - 1) * (m + m + 1) + xs.length + 1) (seenL u v xs) := (bd_seenK bA bB rfl rfl hx xs.length).sz
  have sz1 : (xs.length - 1) * (m + m + 1) ≤ 100 * 20001 := Nat.mul_le_mul (by omega) (by omega)
  have call := ed_call (K := K) (E := E0) (F := F__law_seen) (n := 3) (ρ := [some (.d d), some (.d (pD u)), some (.d (pD v)), some (.d (.int 0)), some (.d (.int 0)), none]) (ad_cons (ed_var (n := 0) rfl) (ad_cons (ed_var (n := 1) rfl) (ad_cons (ed_var (n := 2) rfl) ad_nil))) ⟨d, xs, u, v, n, m, rfl, hs, by omega, hx, hu1, hu2, hv1, hv2, hm, hn, rfl⟩ rfl
  generalize seenL u v xs = S at *
  have hw : n + (xs.length - 1) * (m + m + 1) + xs.length + 1 ≤ 2200000 := by omega
  generalize n + (xs.length - 1) * (m + m + 1) + xs.length + 1 = w at *
  apply sd_seq; apply sd_set; (case h => walk_at "ev" )
  apply sd_seq; apply sd_set; (case h => walk_at "ev" )
  refine sd_seq (sd_for (id_seq call (SeqD.l _)) (fun i ρ => ∃ (c : Nat) (l : Int) (z : Option SV), ρ = [some (.d d), some (.d (pD u)), some (.d (pD v)), some (.d (.int (c : Int))), some (.d (.int l)), z] ∧ c + chg l (S.drop i) = chg 0 S ∧ Lt2 w l) ⟨0, 0, none, rfl, by rw [List.drop_zero]; omega, Lt2.zero⟩ ?_ ?_)
  · rintro i e ρ' hi ⟨c, l, z, rfl, hc, hl⟩
    obtain ⟨a, ha, rfl⟩ := rD_get hi
    refine ⟨_, gd_name, ?_⟩
    have hlt := (List.getElem?_eq_some_iff.mp ha).1
    have ed : S.drop i = a :: S.drop (i + 1) := by
      rw [List.drop_eq_getElem_cons hlt, (List.getElem?_eq_some_iff.mp ha).2]
    rw [ed] at hc
    have hc : c + ((if a * l < 0 then 1 else 0) + chg (if a = 0 then l else a) (S.drop (i + 1))) = chg 0 S := hc
    have la : Lt2 w a := bS a (List.mem_of_getElem? ha)
    refine sd_seq (SD.imp (P := fun o => o = .nx [some (.d d), some (.d (pD u)), some (.d (pD v)), some (.d (.int ((c + (if a * l < 0 then 1 else 0) : Nat) : Int))), some (.d (.int l)), some (.d (.int a))]) ?_ ?_)
    · refine sd_if (td_test (ed_lt (ed_mul (ed_var rfl) (ed_var rfl) (la.cm hl (by omega))) ed_int)) (fun hb => ?_) (fun hb => ?_)
      · have hb : a * l < 0 := of_decide_eq_true hb
        refine sd_set (ed_add (ed_var rfl) ed_int) ?_
        rw [if_pos hb]; rfl
      · have hb : ¬ a * l < 0 := of_decide_eq_false hb
        refine sd_next ?_
        rw [if_neg hb]; rfl
    · rintro o rfl
      show SD K B0 B _ _ _
      refine sd_if (td_test (ed_neI (ed_var rfl) ed_int)) (fun hb => ?_) (fun hb => ?_)
      · have hb : a ≠ 0 := by simpa using hb
        rw [if_neg hb] at hc
        exact sd_set (ed_var rfl) ⟨_, a, _, rfl, by omega, la⟩
      · have hb : a = 0 := by simpa using hb
        rw [if_pos hb] at hc
        exact sd_next ⟨_, l, _, rfl, by omega, hl⟩
  · rintro ρ' ⟨c, l, z, rfl, hc, hl⟩
    show SD K B0 B _ _ _
    rw [rD_len, List.drop_length] at hc
    have hc : c = chg 0 S := by simpa [chg] using hc
    rw [← hc]
    exact sd_ret (ed_var rfl) rfl
theorem partV_self {u : Int × Int} (h0 : 0 < u.2) (hg : Int.gcd u.1 u.2 = 1) : partV u.1 u.2 = u := by
  unfold partV partS
  rw [if_neg (by omega), hg]
  show (u.1.fdiv 1, u.2.fdiv 1) = u
  rw [Int.fdiv_one, Int.fdiv_one]
theorem pure__law_is_part (ds : List PyData) (r : Res) (h : F__law_is_part ds r) (B0 B : Hp) : SD K B0 B (t__law_is_part K) (startR N__law_is_part ds) (fin r) := by
  obtain ⟨u, rfl, h0, hz, hg, rfl⟩ := h
  unfold t__law_is_part
  have e := partV_self h0 hg
  have p0 : F__law_part [.int u.1, .int u.2] (.rt (pD u)) := ⟨u.1, u.2, rfl, by omega, hz, by rw [e]⟩
  have ee := eqv_pD u u
  unfold pD at *
  apply sd_seq; apply sd_if; (case h => walk_at "ev" <;> (first | (exact ⟨_, rfl, rfl⟩) | walk_at "rt1")); all_goals intro hb
  · exact absurd hb (by simp [eqv_int])
  · refine sd_next ?_
    apply sd_ret; (case h => walk_at "ev" <;> (first | (exact p0) | walk_at "rt1"))
    · show PyData.bool _ = PyData.bool _
      rw [ee]; simp [h0]
end
end Rt

namespace Rt
open PySem PySem.Spec PyProof.Rows L2 Evl
/-! ### sign changes: what does not make them more -/
/-- the same sign -/
def SS (a b : Int) : Prop := (0 < a ↔ 0 < b) ∧ (a < 0 ↔ b < 0)
theorem SS.refl (a : Int) : SS a a := ⟨Iff.rfl, Iff.rfl⟩
theorem SS.zero {a b : Int} (h : SS a b) : a = 0 ↔ b = 0 := by obtain ⟨h1, h2⟩ := h; omega
theorem SS.mul {a b c d : Int} (h : SS a b) (k : SS c d) : a * c < 0 ↔ b * d < 0 := by
  have key : ∀ x y : Int, x * y < 0 ↔ (0 < x ∧ y < 0) ∨ (x < 0 ∧ 0 < y) := fun x y => by
    constructor
    · intro h
      rcases Int.lt_trichotomy x 0 with p | p | p
      · right; refine ⟨p, ?_⟩
        by_cases q : 0 < y
        · exact q
        · have := Int.mul_nonneg_of_nonpos_of_nonpos (Int.le_of_lt p) (Int.not_lt.mp q); omega
      · subst p; simp at h
      · left; refine ⟨p, ?_⟩
        by_cases q : y < 0
        · exact q
        · have := Int.mul_nonneg (Int.le_of_lt p) (Int.not_lt.mp q); omega
    · rintro (⟨p, q⟩ | ⟨p, q⟩)
      · exact Int.mul_neg_of_pos_of_neg p q
      · exact Int.mul_neg_of_neg_of_pos p q
  rw [key, key]
  obtain ⟨h1, h2⟩ := h
  obtain ⟨k1, k2⟩ := k
  rw [h1, h2, k1, k2]
inductive Al2 : List Int → List Int → Prop
  | nil : Al2 [] []
  | cons {a b : Int} {xs ys : List Int} : SS a b → Al2 xs ys → Al2 (a :: xs) (b :: ys)
theorem chg_ss : ∀ {xs ys : List Int} {l m : Int}, SS l m → Al2 xs ys → chg l xs = chg m ys
  | _, _, l, m, h, .nil => rfl
  | _, _, l, m, h, @Al2.cons a b xs ys k t => by
    show (if a * l < 0 then 1 else 0) + chg (if a = 0 then l else a) xs = (if b * m < 0 then 1 else 0) + chg (if b = 0 then m else b) ys
    have e1 : (if a * l < 0 then 1 else 0) = (if b * m < 0 then 1 else 0 : Nat) := by
      by_cases c : a * l < 0
      · rw [if_pos c, if_pos ((k.mul h).mp c)]
      · rw [if_neg c, if_neg (fun z => c ((k.mul h).mpr z))]
    rw [e1]
    congr 1
    by_cases c : a = 0
    · rw [if_pos c, if_pos (k.zero.mp c)]; exact chg_ss h t
    · rw [if_neg c, if_neg (fun z => c (k.zero.mpr z))]; exact chg_ss k t
theorem ss_all (xs : List Int) : Al2 xs xs := by
  induction xs with
  | nil => exact .nil
  | cons a xs ih => exact .cons (SS.refl a) ih
theorem chg_l {xs : List Int} {l m : Int} (h : SS l m) : chg l xs = chg m xs := chg_ss h (ss_all xs)
/-- another one before: at most one more; none more where it was nought -/
theorem chg_swap : ∀ (xs : List Int) (l m : Int), m ≠ 0 → chg l xs ≤ (if m * l < 0 then 1 else 0) + chg m xs
  | [], l, m, _ => Nat.zero_le _
  | a :: xs, l, m, hm => by
    show (if a * l < 0 then 1 else 0) + chg (if a = 0 then l else a) xs ≤ (if m * l < 0 then 1 else 0) + ((if a * m < 0 then 1 else 0) + chg (if a = 0 then m else a) xs)
    by_cases c : a = 0
    · subst c
      have z1 : ¬ (0 : Int) * l < 0 := by simp
      have z2 : ¬ (0 : Int) * m < 0 := by simp
      rw [if_neg z1, if_neg z2, if_pos rfl, if_pos rfl]
      have := chg_swap xs l m hm
      omega
    · rw [if_neg c, if_neg c]
      have key : a * l < 0 → m * l < 0 ∨ a * m < 0 := fun h => by
        by_cases h1 : m * l < 0
        · exact .inl h1
        · right
          have h1 := Int.not_lt.mp h1
          rcases Int.lt_trichotomy l 0 with p | p | p
          · have : 0 < a := by
              by_cases q : 0 < a
              · exact q
              · have := Int.mul_nonneg_of_nonpos_of_nonpos (Int.not_lt.mp q) (Int.le_of_lt p); omega
            have : m < 0 := by
              by_cases q : m < 0
              · exact q
              · have := Int.mul_neg_of_pos_of_neg (show 0 < m by omega) p; omega
            exact Int.mul_neg_of_pos_of_neg (by assumption) this
          · subst p; simp at h
          · have : a < 0 := by
              by_cases q : a < 0
              · exact q
              · have := Int.mul_nonneg (Int.not_lt.mp q) (Int.le_of_lt p); omega
            have : 0 < m := by
              by_cases q : 0 < m
              · exact q
              · have := Int.mul_neg_of_neg_of_pos (show m < 0 by omega) p; omega
            exact Int.mul_neg_of_neg_of_pos (by assumption) this
      by_cases h : a * l < 0
      · rw [if_pos h]
        rcases key h with k | k
        · rw [if_pos k]; omega
        · rw [if_pos k]; omega
      · rw [if_neg h]; omega
theorem chg_del (a : Int) (xs : List Int) (l : Int) : chg l xs ≤ chg l (a :: xs) := by
  show _ ≤ (if a * l < 0 then 1 else 0) + chg (if a = 0 then l else a) xs
  by_cases c : a = 0
  · rw [if_pos c]; omega
  · rw [if_neg c]; exact chg_swap xs l a c
/-- an added multiple of the next one -/
theorem chg_add {A C : Int} (hA : 0 < A) (hC : 0 ≤ C) (a b : Int) (xs : List Int) (l : Int) : chg l ((A * a + C * b) :: b :: xs) ≤ chg l (a :: b :: xs) := by
  have sA : SS a (A * a) := by
    constructor
    · constructor
      · exact fun h => Int.mul_pos hA h
      · intro h
        by_cases q : 0 < a
        · exact q
        · have := Int.mul_nonpos_of_nonneg_of_nonpos (Int.le_of_lt hA) (Int.not_lt.mp q); omega
    · constructor
      · exact fun h => Int.mul_neg_of_pos_of_neg hA h
      · intro h
        by_cases q : a < 0
        · exact q
        · have := Int.mul_nonneg (Int.le_of_lt hA) (Int.not_lt.mp q); omega
  generalize hs : A * a + C * b = s
  by_cases h0 : s = 0
  · -- nought: left out
    have : chg l (s :: b :: xs) = chg l (b :: xs) := by
      show (if s * l < 0 then 1 else 0) + chg (if s = 0 then l else s) (b :: xs) = _
      rw [h0, if_neg (by simp), if_pos rfl, Nat.zero_add]
    rw [this]; exact chg_del a _ l
  · by_cases hsa : SS s a
    · exact Nat.le_of_eq (chg_ss (SS.refl l) (.cons hsa (ss_all (b :: xs))))
    · -- then it has the sign of b
      have hb : SS s b := by
        have cb : (0 < b → 0 ≤ C * b) ∧ (b < 0 → C * b ≤ 0) ∧ (b = 0 → C * b = 0) :=
          ⟨fun h => Int.mul_nonneg hC (Int.le_of_lt h), fun h => Int.mul_nonpos_of_nonneg_of_nonpos hC (Int.le_of_lt h), fun h => by rw [h]; simp⟩
        obtain ⟨c1, c2, c3⟩ := cb
        obtain ⟨s1, s2⟩ := sA
        unfold SS at hsa ⊢
        generalize A * a = x at *
        generalize C * b = y at *
        rcases Int.lt_trichotomy a 0 with p | p | p <;> rcases Int.lt_trichotomy b 0 with q | q | q <;> omega
      have e : chg l (s :: b :: xs) = chg l (b :: xs) := by
        have hb0 : b ≠ 0 := fun z => h0 (hb.zero.mpr z)
        show (if s * l < 0 then 1 else 0) + ((if b * (if s = 0 then l else s) < 0 then 1 else 0) + chg (if b = 0 then (if s = 0 then l else s) else b) xs) = (if b * l < 0 then 1 else 0) + chg (if b = 0 then l else b) xs
        rw [if_neg h0, if_neg hb0, if_neg hb0]
        have n1 : ¬ b * s < 0 := fun z => by
          have := (SS.mul hb (SS.refl b)).mp (by rw [Int.mul_comm]; exact z)
          have : 0 ≤ b * b := by rw [← Int.natAbs_mul_self']; exact Int.mul_nonneg (Int.natCast_nonneg _) (Int.natCast_nonneg _)
          omega
        rw [if_neg n1]
        by_cases c : s * l < 0
        · rw [if_pos c, if_pos ((hb.mul (SS.refl l)).mp c)]; omega
        · rw [if_neg c, if_neg (fun z => c ((hb.mul (SS.refl l)).mpr z))]; omega
      rw [e]; exact chg_del a _ l
/-- each one times A, and C times the next one more -/
def stepA (A C : Int) : List Int → List Int
  | [] => []
  | [b] => [A * b]
  | b :: d :: r => (A * b + C * d) :: stepA A C (d :: r)
theorem ss_mul {A : Int} (hA : 0 < A) (a : Int) : SS (A * a) a := by
  constructor
  · constructor
    · intro h
      by_cases q : 0 < a
      · exact q
      · have := Int.mul_nonpos_of_nonneg_of_nonpos (Int.le_of_lt hA) (Int.not_lt.mp q); omega
    · exact fun h => Int.mul_pos hA h
  · constructor
    · intro h
      by_cases q : a < 0
      · exact q
      · have := Int.mul_nonneg (Int.le_of_lt hA) (Int.not_lt.mp q); omega
    · exact fun h => Int.mul_neg_of_pos_of_neg hA h
theorem chg_cons_le {l a : Int} {xs ys : List Int} (h : ∀ l, chg l xs ≤ chg l ys) : chg l (a :: xs) ≤ chg l (a :: ys) := by
  show _ + chg _ xs ≤ _ + chg _ ys
  exact Nat.add_le_add_left (h _) _
theorem chg_stepA {A C : Int} (hA : 0 < A) (hC : 0 ≤ C) : ∀ (xs : List Int) (l : Int), chg l (stepA A C xs) ≤ chg l xs
  | [], l => Nat.le_refl _
  | [b], l => by exact Nat.le_of_eq (chg_ss (SS.refl l) (.cons (ss_mul hA b) .nil))
  | b :: d :: r, l => Nat.le_trans (chg_cons_le fun l => chg_stepA hA hC (d :: r) l) (chg_add hA hC b d r l)
/-- the row at A z + C -/
def joinA (A C a : Int) : List Int → List Int
  | [] => [a]
  | t :: ts => (a + C * t) :: stepA A C (t :: ts)
def shiftL (A C : Int) : List Int → List Int
  | [] => []
  | a :: r => joinA A C a (shiftL A C r)
theorem chg_shift {A C : Int} (hA : 0 < A) (hC : 0 ≤ C) : ∀ (xs : List Int) (l : Int), chg l (shiftL A C xs) ≤ chg l xs
  | [], l => Nat.le_refl _
  | a :: r, l => by
    have ih := chg_shift hA hC r
    have h1 : chg l (a :: shiftL A C r) ≤ chg l (a :: r) := chg_cons_le ih
    refine Nat.le_trans ?_ h1
    show chg l (joinA A C a (shiftL A C r)) ≤ _
    cases shiftL A C r with
    | nil => exact Nat.le_refl _
    | cons t ts =>
      show chg l ((a + C * t) :: stepA A C (t :: ts)) ≤ _
      refine Nat.le_trans (chg_cons_le fun l => chg_stepA hA hC (t :: ts) l) ?_
      have := chg_add (A := 1) (by decide) hC a t ts l
      rwa [Int.one_mul] at this
theorem stepA_len (A C : Int) : ∀ xs : List Int, (stepA A C xs).length = xs.length
  | [] => rfl
  | [b] => rfl
  | b :: d :: r => congrArg (· + 1) (stepA_len A C (d :: r))
theorem shiftL_len (A C : Int) : ∀ xs : List Int, (shiftL A C xs).length = xs.length
  | [] => rfl
  | a :: r => by
    have ih := shiftL_len A C r
    show (joinA A C a (shiftL A C r)).length = r.length + 1
    cases h : shiftL A C r with
    | nil => rw [h] at ih; show 1 = _; simp only [List.length_nil, List.length_cons] at *; omega
    | cons t ts => rw [h] at ih; show (stepA A C (t :: ts)).length + 1 = r.length + 1; rw [stepA_len, ih]
theorem hor_stepA (A C t b : Int) : ∀ (x : Int) (r : List Int), (hor t b (stepA A C (x :: r))).1 * t + C * x * b ^ (r.length + 1) = (A * t + C * b) * (hor t b (x :: r)).1
  | x, [] => by
    show ((0 * t + A * x * 1) * t) + C * x * b ^ 1 = (A * t + C * b) * (0 * t + x * 1)
    rw [Int.pow_succ, Int.pow_zero]; grind
  | x, d :: r => by
    have ih := hor_stepA A C t b d r
    have e1 : (hor t b (stepA A C (x :: d :: r))).1 = (hor t b (stepA A C (d :: r))).1 * t + (A * x + C * d) * b ^ (r.length + 1) := by
      show (hor t b (stepA A C (d :: r))).1 * t + (A * x + C * d) * (hor t b (stepA A C (d :: r))).2 = _
      rw [hor_snd, stepA_len]; rfl
    have e2 : (hor t b (x :: d :: r)).1 = (hor t b (d :: r)).1 * t + x * b ^ (r.length + 1) := by
      show (hor t b (d :: r)).1 * t + x * (hor t b (d :: r)).2 = _
      rw [hor_snd]; rfl
    rw [e1, e2]
    show ((hor t b (stepA A C (d :: r))).1 * t + (A * x + C * d) * b ^ (r.length + 1)) * t + C * x * b ^ (r.length + 1 + 1) = _
    rw [Int.pow_succ b (r.length + 1)]
    generalize b ^ (r.length + 1) = q at *
    generalize (hor t b (stepA A C (d :: r))).1 = s at *
    generalize (hor t b (d :: r)).1 = w at *
    grind
theorem hor_shift (A C t b : Int) : ∀ r : List Int, (hor t b (shiftL A C r)).1 = (hor (A * t + C * b) b r).1
  | [] => rfl
  | a :: r => by
    have ih := hor_shift A C t b r
    have il := shiftL_len A C r
    have e : (hor (A * t + C * b) b (a :: r)).1 = (hor (A * t + C * b) b r).1 * (A * t + C * b) + a * b ^ r.length := by
      show _ + a * (hor (A * t + C * b) b r).2 = _
      rw [hor_snd]
    rw [e, ← ih]
    show (hor t b (joinA A C a (shiftL A C r))).1 = _
    cases h : shiftL A C r with
    | nil =>
      rw [h] at il
      have : r.length = 0 := il.symm
      rw [this]
      show 0 * t + a * 1 = 0 * (A * t + C * b) + a * b ^ 0
      rw [Int.pow_zero]; omega
    | cons x s =>
      rw [h] at il
      have hs := hor_stepA A C t b x s
      show (hor t b (stepA A C (x :: s))).1 * t + (a + C * x) * (hor t b (stepA A C (x :: s))).2 = _
      rw [hor_snd, stepA_len, show (x :: s).length = s.length + 1 from rfl, show r.length = s.length + 1 by rw [← il]; rfl]
      generalize b ^ (s.length + 1) = q at *
      generalize (hor t b (stepA A C (x :: s))).1 = y at *
      generalize (hor t b (x :: s)).1 = w at *
      grind
/-! ### there and back -/
def firstN : List Int → Int
  | [] => 0
  | a :: xs => if a = 0 then firstN xs else a
def lastN : Int → List Int → Int
  | l, [] => l
  | l, a :: xs => lastN (if a = 0 then l else a) xs
theorem chg_first : ∀ (xs : List Int) (l : Int), chg l xs = (if firstN xs * l < 0 then 1 else 0) + chg 0 xs
  | [], l => by show 0 = (if (0 : Int) * l < 0 then 1 else 0) + 0; rw [if_neg (by simp)]
  | a :: xs, l => by
    show (if a * l < 0 then 1 else 0) + chg (if a = 0 then l else a) xs = (if (if a = 0 then firstN xs else a) * l < 0 then 1 else 0) + ((if a * 0 < 0 then 1 else 0) + chg (if a = 0 then 0 else a) xs)
    have z : ¬ a * 0 < 0 := by simp
    rw [if_neg z]
    by_cases c : a = 0
    · subst c
      have z1 : ¬ (0 : Int) * l < 0 := by simp
      rw [if_neg z1]
      show 0 + chg l xs = (if firstN xs * l < 0 then 1 else 0) + (0 + chg 0 xs)
      rw [chg_first xs l]; omega
    · rw [if_neg c, if_neg c, if_neg c]; omega
theorem chg_snoc (a : Int) : ∀ (xs : List Int) (l : Int), chg l (xs ++ [a]) = chg l xs + (if a * lastN l xs < 0 then 1 else 0)
  | [], l => by show (if a * l < 0 then 1 else 0) + 0 = 0 + (if a * l < 0 then 1 else 0); omega
  | b :: xs, l => by
    show (if b * l < 0 then 1 else 0) + chg (if b = 0 then l else b) (xs ++ [a]) = (if b * l < 0 then 1 else 0) + chg (if b = 0 then l else b) xs + (if a * lastN (if b = 0 then l else b) xs < 0 then 1 else 0)
    rw [chg_snoc a xs]; omega
theorem lastN_snoc (a : Int) : ∀ (xs : List Int) (l : Int), lastN l (xs ++ [a]) = if a = 0 then lastN l xs else a
  | [], l => rfl
  | b :: xs, l => lastN_snoc a xs _
theorem lastN_rev : ∀ xs : List Int, lastN 0 xs.reverse = firstN xs
  | [] => rfl
  | a :: xs => by rw [List.reverse_cons, lastN_snoc, lastN_rev xs]; rfl
theorem chg_rev : ∀ xs : List Int, chg 0 xs.reverse = chg 0 xs
  | [] => rfl
  | a :: xs => by
    rw [List.reverse_cons, chg_snoc, chg_rev xs, lastN_rev]
    show _ = (if a * 0 < 0 then 1 else 0) + chg (if a = 0 then 0 else a) xs
    have z : ¬ a * 0 < 0 := by simp
    have e : (if a = 0 then 0 else a) = a := by split <;> omega
    rw [if_neg z, e, chg_first xs a, Int.mul_comm a]; omega
/-! ### a row by both its ends -/
theorem hor_add : ∀ {p q : List Int} (t b : Int), p.length = q.length → (hor t b (addL p q)).1 = (hor t b p).1 + (hor t b q).1
  | [], [], t, b, _ => rfl
  | [], _ :: _, _, _, h => by simp at h
  | _ :: _, [], _, _, h => by simp at h
  | a :: p, c :: q, t, b, h => by
    have h' : p.length = q.length := by simpa using h
    have ih := hor_add (p := p) (q := q) t b h'
    have hl : (addL p q).length = q.length := by rw [addL_len]; omega
    show (hor t b (addL p q)).1 * t + (a + c) * (hor t b (addL p q)).2 = ((hor t b p).1 * t + a * (hor t b p).2) + ((hor t b q).1 * t + c * (hor t b q).2)
    rw [ih, hor_snd, hor_snd, hor_snd, hl, h']
    generalize b ^ q.length = w
    grind
theorem hor_rep (t b : Int) : ∀ n, (hor t b (List.replicate n 0)).1 = 0
  | 0 => rfl
  | n + 1 => by
    rw [List.replicate_succ]
    show (hor t b (List.replicate n 0)).1 * t + 0 * _ = 0
    rw [hor_rep t b n]; omega
theorem hor_mul2 (t b c0 c1 : Int) : ∀ {p : List Int}, p ≠ [] → (hor t b (mulL p [c0, c1])).1 = (hor t b p).1 * (c0 * b + c1 * t)
  | [], h => absurd rfl h
  | [a], _ => by
    show ((0 * t + a * c1 * 1) * t + (a * c0 + 0) * (1 * b)) = (0 * t + a * 1) * (c0 * b + c1 * t)
    grind
  | a :: d :: p, _ => by
    have ih := hor_mul2 t b c0 c1 (p := d :: p) (by simp)
    have hl := mulL_len (p := d :: p) (q := [c0, c1]) (by simp) (by simp)
    have e : (hor t b (a :: d :: p)).1 = (hor t b (d :: p)).1 * t + a * b ^ (p.length + 1) := by
      show (hor t b (d :: p)).1 * t + a * (hor t b (d :: p)).2 = _
      rw [hor_snd]; rfl
    rw [e]
    show (hor t b ((a * c0 + 0) :: addL [a * c1] (mulL (d :: p) [c0, c1]))).1 = _
    cases hq : mulL (d :: p) [c0, c1] with
    | nil => rw [hq] at hl; simp only [List.length_nil, List.length_cons] at hl; omega
    | cons m0 ms =>
      rw [hq] at hl ih
      have hms : ms.length = p.length + 1 := by simp only [List.length_cons, List.length_nil] at hl; omega
      have e2 : (hor t b (m0 :: ms)).1 = (hor t b ms).1 * t + m0 * b ^ ms.length := by
        show (hor t b ms).1 * t + m0 * (hor t b ms).2 = _
        rw [hor_snd]
      show (hor t b ((a * c1 + m0) :: ms)).1 * t + (a * c0 + 0) * (hor t b ((a * c1 + m0) :: ms)).2 = _
      have e3 : (hor t b ((a * c1 + m0) :: ms)).1 = (hor t b ms).1 * t + (a * c1 + m0) * b ^ ms.length := by
        show (hor t b ms).1 * t + (a * c1 + m0) * (hor t b ms).2 = _
        rw [hor_snd]
      rw [e3, hor_snd, show ((a * c1 + m0) :: ms).length = ms.length + 1 from rfl, Int.pow_succ]
      rw [e2] at ih
      rw [hms] at ih ⊢
      generalize b ^ (p.length + 1) = w at *
      clear hl hq hms e2 e3 e
      generalize (hor t b ms).1 = x at *
      generalize (hor t b (d :: p)).1 = y at *
      have q : x * t + (a * c1 + m0) * w = y * (c0 * b + c1 * t) + a * c1 * w := by rw [← ih]; grind
      rw [q]
      clear ih q
      grind
theorem hor_facP (t b a0 a1 b0 b1 x : Int) (k : Nat) : ∀ j, (hor t b (facP [a0, a1] [b0, b1] x k j)).1 = x * (a0 * b + a1 * t) ^ (min j k) * (b0 * b + b1 * t) ^ (j - k)
  | 0 => by show 0 * t + x * 1 = _; simp
  | j + 1 => by
    have hl := facP_len (A := [a0, a1]) (B := [b0, b1]) rfl rfl x k j
    have ne : facP [a0, a1] [b0, b1] x k j ≠ [] := by intro z; rw [z] at hl; simp at hl
    show (hor t b (mulL (facP [a0, a1] [b0, b1] x k j) (if j < k then [a0, a1] else [b0, b1]))).1 = _
    by_cases h : j < k
    · rw [if_pos h, hor_mul2 t b a0 a1 ne, hor_facP t b a0 a1 b0 b1 x k j, Nat.min_eq_left (by omega : j + 1 ≤ k), Nat.min_eq_left (by omega : j ≤ k), show j + 1 - k = 0 by omega, show j - k = 0 by omega, Int.pow_succ]
      generalize (a0 * b + a1 * t) = w; generalize w ^ j = p; grind
    · rw [if_neg h, hor_mul2 t b b0 b1 ne, hor_facP t b a0 a1 b0 b1 x k j, Nat.min_eq_right (by omega : k ≤ j + 1), Nat.min_eq_right (by omega : k ≤ j), show j + 1 - k = (j - k) + 1 by omega, Int.pow_succ]
      generalize (b0 * b + b1 * t) = w; generalize w ^ (j - k) = p; generalize (a0 * b + a1 * t) ^ k = q; grind
theorem hor_seenK (t b a0 a1 b0 b1 : Int) (xs : List Int) : ∀ K, K ≤ xs.length → (hor t b (seenK [a0, a1] [b0, b1] xs K)).1 = tot (a0 * b + a1 * t) (b0 * b + b1 * t) xs K
  | 0, _ => hor_rep t b _
  | K + 1, h => by
    show (hor t b (addL _ _)).1 = tot _ _ xs K + term _ _ xs K
    rw [hor_add t b (by rw [seenK_len rfl rfl xs K (by omega), facP_len rfl rfl]; omega), hor_seenK t b a0 a1 b0 b1 xs K (by omega), hor_facP, Nat.min_eq_right (by omega : K ≤ xs.length - 1)]; rfl
/-- the row seen from the stretch, in both letters -/
theorem seen_hom (u v : Int × Int) (xs : List Int) (t b : Int) : (hor t b (seenL u v xs)).1 = (hor (u.1 * v.2 * b + v.1 * u.2 * t) (u.2 * v.2 * b + u.2 * v.2 * t) xs).1 := by
  unfold seenL
  rw [hor_seenK _ _ _ _ _ _ _ _ (Nat.le_refl _), hor_tot]
theorem hor_scale (c t b : Int) : ∀ xs : List Int, c * (hor (c * t) (c * b) xs).1 = c ^ xs.length * (hor t b xs).1
  | [] => by show c * 0 = c ^ 0 * 0; simp
  | x :: xs => by
    have ih := hor_scale c t b xs
    show c * ((hor (c * t) (c * b) xs).1 * (c * t) + x * (hor (c * t) (c * b) xs).2) = c ^ (xs.length + 1) * ((hor t b xs).1 * t + x * (hor t b xs).2)
    rw [hor_snd, hor_snd, Int.mul_pow, Int.pow_succ c]
    generalize c ^ xs.length = w at *
    generalize b ^ xs.length = y at *
    generalize (hor (c * t) (c * b) xs).1 = p at *
    generalize (hor t b xs).1 = q at *
    grind
/-- each number of a row times as many g as numbers stand behind it -/
def wtL (g : Int) : List Int → List Int
  | [] => []
  | a :: r => a * g ^ r.length :: wtL g r
theorem wtL_len (g : Int) : ∀ r : List Int, (wtL g r).length = r.length
  | [] => rfl
  | a :: r => congrArg (· + 1) (wtL_len g r)
theorem hor_wt (g t b : Int) : ∀ r : List Int, (hor t b (wtL g r)).1 = (hor t (g * b) r).1
  | [] => rfl
  | a :: r => by
    show (hor t b (wtL g r)).1 * t + a * g ^ r.length * (hor t b (wtL g r)).2 = (hor t (g * b) r).1 * t + a * (hor t (g * b) r).2
    rw [hor_wt g t b r, hor_snd, hor_snd, wtL_len, Int.mul_pow, Int.mul_assoc]
theorem al_wt {g : Int} (hg : 0 < g) : ∀ r : List Int, Al2 (wtL g r) r
  | [] => .nil
  | a :: r => .cons (by rw [Int.mul_comm]; exact ss_mul (Int.pow_pos hg) a) (al_wt hg r)
theorem al_smul {g : Int} (hg : 0 < g) : ∀ r : List Int, Al2 (smul g r) r
  | [] => .nil
  | a :: r => .cons (ss_mul hg a) (al_smul hg r)
theorem hor_snoc (t b a : Int) : ∀ xs : List Int, (hor t b (xs ++ [a])).1 = (hor t b xs).1 * b + a * t ^ xs.length
  | [] => by show 0 * t + a * 1 = 0 * b + a * t ^ 0; rw [Int.pow_zero]; omega
  | x :: xs => by
    show (hor t b (xs ++ [a])).1 * t + x * (hor t b (xs ++ [a])).2 = ((hor t b xs).1 * t + x * (hor t b xs).2) * b + a * t ^ (xs.length + 1)
    rw [hor_snoc t b a xs, hor_snd, hor_snd, List.length_append, show xs.length + [a].length = xs.length + 1 from rfl, Int.pow_succ b, Int.pow_succ t]
    generalize b ^ xs.length = p
    generalize t ^ xs.length = q
    grind
theorem hor_rev (t b : Int) : ∀ xs : List Int, (hor t b xs.reverse).1 = (hor b t xs).1
  | [] => rfl
  | x :: xs => by
    rw [List.reverse_cons, hor_snoc, hor_rev t b xs, List.length_reverse]
    show _ = (hor b t xs).1 * b + x * (hor b t xs).2
    rw [hor_snd]
theorem hor_ev (y : Int) : ∀ xs : List Int, (hor y 1 xs).1 = ev xs y
  | [] => rfl
  | x :: xs => by
    show (hor y 1 xs).1 * y + x * (hor y 1 xs).2 = x + y * ev xs y
    rw [hor_ev y xs, hor_snd, Int.one_pow]; grind
/-- a stretch cut off at its high end -/
theorem turns_left {u v w : Int × Int} (hu : 0 < u.2) (hv : 0 < v.2) (hw : 0 < w.2) (h1 : u.1 * w.2 < w.1 * u.2) (h2 : w.1 * v.2 < v.1 * w.2) (h3 : u.1 * v.2 < v.1 * u.2) (xs : List Int) : turnsL u w xs ≤ turnsL u v xs := by
  have k0 : 0 < v.1 * u.2 - u.1 * v.2 := by omega
  have l0 : 0 < v.1 * w.2 - w.1 * v.2 := by omega
  have m0 : 0 < w.1 * u.2 - u.1 * w.2 := by omega
  have c0 : 0 < (v.1 * u.2 - u.1 * v.2) * v.2 := Int.mul_pos k0 hv
  have A0 : 0 < (v.1 * u.2 - u.1 * v.2) * w.2 := Int.mul_pos k0 hw
  have C0 : 0 < (v.1 * w.2 - w.1 * v.2) * u.2 := Int.mul_pos l0 hu
  have g0 : 0 < v.2 * (w.1 * u.2 - u.1 * w.2) := Int.mul_pos hv m0
  have key : smul (((v.1 * u.2 - u.1 * v.2) * v.2) ^ xs.length) (seenL u w xs) = smul ((v.1 * u.2 - u.1 * v.2) * v.2) (shiftL ((v.1 * u.2 - u.1 * v.2) * w.2) ((v.1 * w.2 - w.1 * v.2) * u.2) (wtL (v.2 * (w.1 * u.2 - u.1 * w.2)) (seenL u v xs).reverse)).reverse := by
    refine eq_of_ev ?_ fun y => ?_
    · unfold Rt.smul
      rw [List.length_map, List.length_map, List.length_reverse, shiftL_len, wtL_len, List.length_reverse, seen_len, seen_len]
    · rw [ev_smul, ev_smul, ← hor_ev y (seenL u w xs), ← hor_ev y (List.reverse _), hor_rev, hor_shift, hor_wt, hor_rev, seen_hom, seen_hom, ← hor_scale]
      congr 3
      · grind
      · grind
  have e1 : turnsL u w xs = chg 0 (shiftL ((v.1 * u.2 - u.1 * v.2) * w.2) ((v.1 * w.2 - w.1 * v.2) * u.2) (wtL (v.2 * (w.1 * u.2 - u.1 * w.2)) (seenL u v xs).reverse)) := by
    show chg 0 (seenL u w xs) = _
    rw [← chg_ss (SS.refl 0) (al_smul (Int.pow_pos c0 (m := xs.length)) (seenL u w xs)), key, chg_ss (SS.refl 0) (al_smul c0 _), chg_rev]
  rw [e1]
  refine Nat.le_trans (chg_shift A0 (Int.le_of_lt C0) _ _) ?_
  rw [chg_ss (SS.refl 0) (al_wt g0 _), chg_rev]
  exact Nat.le_refl _
/-- a stretch cut off at its low end -/
theorem turns_right {u v w : Int × Int} (hu : 0 < u.2) (hv : 0 < v.2) (hw : 0 < w.2) (h1 : u.1 * w.2 < w.1 * u.2) (h2 : w.1 * v.2 < v.1 * w.2) (h3 : u.1 * v.2 < v.1 * u.2) (xs : List Int) : turnsL w v xs ≤ turnsL u v xs := by
  have k0 : 0 < v.1 * u.2 - u.1 * v.2 := by omega
  have l0 : 0 < v.1 * w.2 - w.1 * v.2 := by omega
  have m0 : 0 < w.1 * u.2 - u.1 * w.2 := by omega
  have c0 : 0 < (v.1 * u.2 - u.1 * v.2) * u.2 := Int.mul_pos k0 hu
  have A0 : 0 < (v.1 * u.2 - u.1 * v.2) * w.2 := Int.mul_pos k0 hw
  have C0 : 0 < v.2 * (w.1 * u.2 - u.1 * w.2) := Int.mul_pos hv m0
  have g0 : 0 < u.2 * (v.1 * w.2 - w.1 * v.2) := Int.mul_pos hu l0
  have key : smul (((v.1 * u.2 - u.1 * v.2) * u.2) ^ xs.length) (seenL w v xs) = smul ((v.1 * u.2 - u.1 * v.2) * u.2) (shiftL ((v.1 * u.2 - u.1 * v.2) * w.2) (v.2 * (w.1 * u.2 - u.1 * w.2)) (wtL (u.2 * (v.1 * w.2 - w.1 * v.2)) (seenL u v xs))) := by
    refine eq_of_ev ?_ fun y => ?_
    · unfold Rt.smul
      rw [List.length_map, List.length_map, shiftL_len, wtL_len, seen_len, seen_len]
    · rw [ev_smul, ev_smul, ← hor_ev y (seenL w v xs), ← hor_ev y (shiftL _ _ _), hor_shift, hor_wt, seen_hom, seen_hom, ← hor_scale]
      congr 3
      · grind
      · grind
  have e1 : turnsL w v xs = chg 0 (shiftL ((v.1 * u.2 - u.1 * v.2) * w.2) (v.2 * (w.1 * u.2 - u.1 * w.2)) (wtL (u.2 * (v.1 * w.2 - w.1 * v.2)) (seenL u v xs))) := by
    show chg 0 (seenL w v xs) = _
    rw [← chg_ss (SS.refl 0) (al_smul (Int.pow_pos c0 (m := xs.length)) (seenL w v xs)), key, chg_ss (SS.refl 0) (al_smul c0 _)]
  rw [e1]
  refine Nat.le_trans (chg_shift A0 (Int.le_of_lt C0) _ _) ?_
  rw [chg_ss (SS.refl 0) (al_wt g0 _)]
  exact Nat.le_refl _
/-! ### the signs at the ends -/
theorem neg_iff (x y : Int) : x * y < 0 ↔ (0 < x ∧ y < 0) ∨ (x < 0 ∧ 0 < y) := by
  constructor
  · intro h
    rcases Int.lt_trichotomy x 0 with p | p | p
    · right; refine ⟨p, ?_⟩
      by_cases q : 0 < y
      · exact q
      · have := Int.mul_nonneg_of_nonpos_of_nonpos (Int.le_of_lt p) (Int.not_lt.mp q); omega
    · subst p; simp at h
    · left; refine ⟨p, ?_⟩
      by_cases q : y < 0
      · exact q
      · have := Int.mul_nonneg (Int.le_of_lt p) (Int.not_lt.mp q); omega
  · rintro (⟨p, q⟩ | ⟨p, q⟩)
    · exact Int.mul_neg_of_pos_of_neg p q
    · exact Int.mul_neg_of_neg_of_pos p q
theorem lastN_ne : ∀ (xs : List Int) {l : Int}, l ≠ 0 → lastN l xs ≠ 0
  | [], l, h => h
  | a :: xs, l, h => lastN_ne xs (by split <;> assumption)
theorem chg_par : ∀ (xs : List Int) {l : Int}, l ≠ 0 → (lastN l xs * l < 0 ↔ chg l xs % 2 = 1)
  | [], l, h => by
    show l * l < 0 ↔ 0 % 2 = 1
    have : 0 ≤ l * l := by rw [← Int.natAbs_mul_self']; exact Int.mul_nonneg (Int.natCast_nonneg _) (Int.natCast_nonneg _)
    omega
  | a :: xs, l, h => by
    show lastN (if a = 0 then l else a) xs * l < 0 ↔ ((if a * l < 0 then 1 else 0) + chg (if a = 0 then l else a) xs) % 2 = 1
    by_cases c : a = 0
    · subst c
      have z : ¬ (0 : Int) * l < 0 := by simp
      rw [if_neg z, if_pos rfl, Nat.zero_add]
      exact chg_par xs h
    · rw [if_neg c]
      have ih := chg_par xs c
      have hn := lastN_ne xs c
      generalize lastN a xs = w at *
      rw [neg_iff] at ih ⊢
      by_cases d : a * l < 0
      · rw [if_pos d]
        rw [neg_iff] at d
        omega
      · rw [if_neg d]
        rw [neg_iff] at d
        omega
theorem lastN_last : ∀ (xs : List Int) {l : Int}, lastZ (l :: xs) ≠ 0 → lastN l xs = lastZ (l :: xs)
  | [], l, _ => rfl
  | a :: xs, l, h => by
    rw [lastZ_cons] at h ⊢
    show lastN (if a = 0 then l else a) xs = lastZ (a :: xs)
    by_cases c : a = 0
    · subst c
      rw [if_pos rfl]
      cases xs with
      | nil => exact absurd rfl h
      | cons b ys =>
        rw [lastZ_cons]
        rw [lastZ_cons] at h
        have := lastN_last (b :: ys) (l := l) (by rw [lastZ_cons]; exact h)
        rw [this, lastZ_cons]
    · rw [if_neg c]; exact lastN_last xs h
theorem hor_last : ∀ {xs : List Int}, xs ≠ [] → (hor 1 0 xs).1 = lastZ xs
  | [], h => absurd rfl h
  | [a], _ => by show 0 * 1 + a * 1 = a; omega
  | a :: b :: xs, _ => by
    show (hor 1 0 (b :: xs)).1 * 1 + a * (hor 1 0 (b :: xs)).2 = _
    rw [hor_last (xs := b :: xs) (by simp), hor_snd, lastZ_cons, show (b :: xs).length = xs.length + 1 from rfl, Int.pow_succ]
    simp
theorem ss_of {c d x y : Int} (hc : 0 < c) (hd : 0 < d) (h : c * x = d * y) : SS x y := by
  have h1 := ss_mul hc x
  have h2 := ss_mul hd y
  rw [h] at h1
  unfold SS at *
  omega
theorem seen_first {u v : Int × Int} (hv : 0 < v.2) (xs : List Int) : SS (ev (seenL u v xs) 0) (hor u.1 u.2 xs).1 := by
  have e := seen_hom u v xs 0 1
  rw [hor_ev] at e
  have e2 := hor_scale v.2 u.1 u.2 xs
  refine ss_of hv (Int.pow_pos hv (m := xs.length)) ?_
  rw [e, ← e2]
  congr 3 <;> grind
theorem seen_last {u v : Int × Int} (hu : 0 < u.2) {xs : List Int} (hx : xs ≠ []) : SS (lastZ (seenL u v xs)) (hor v.1 v.2 xs).1 := by
  have ne : seenL u v xs ≠ [] := by
    intro z
    have := seen_len u v xs
    rw [z] at this
    exact hx (List.length_eq_zero_iff.mp this.symm)
  have e := seen_hom u v xs 1 0
  rw [hor_last ne] at e
  have e2 := hor_scale u.2 v.1 v.2 xs
  refine ss_of hu (Int.pow_pos hu (m := xs.length)) ?_
  rw [e, ← e2]
  congr 3 <;> grind
/-- unlike signs at the ends: an odd number of turns; like ones: an even one -/
theorem turns_par {u v : Int × Int} (hu : 0 < u.2) (hv : 0 < v.2) {xs : List Int} (hx : xs ≠ []) (h1 : (hor u.1 u.2 xs).1 ≠ 0) (h2 : (hor v.1 v.2 xs).1 ≠ 0) : (hor u.1 u.2 xs).1 * (hor v.1 v.2 xs).1 < 0 ↔ turnsL u v xs % 2 = 1 := by
  have s1 := seen_first (u := u) hv xs
  have s2 := seen_last (v := v) hu hx
  have ln := seen_len u v xs
  unfold turnsL
  generalize seenL u v xs = S at *
  cases S with
  | nil => exact absurd (List.length_eq_zero_iff.mp ln.symm) hx
  | cons a r =>
    have ea : ev (a :: r) 0 = a := by show a + 0 * ev r 0 = a; omega
    rw [ea] at s1
    have a0 : a ≠ 0 := fun z => h1 (s1.zero.mp z)
    have l0 : lastZ (a :: r) ≠ 0 := fun z => h2 (s2.zero.mp z)
    have e : chg 0 (a :: r) = chg a r := by
      show (if a * 0 < 0 then 1 else 0) + chg (if a = 0 then 0 else a) r = _
      rw [if_neg (by simp), if_neg a0, Nat.zero_add]
    rw [e, ← chg_par r a0, lastN_last r l0, ← SS.mul s1 s2, Int.mul_comm]
/-- a cut that keeps unlike signs keeps the one turn -/
theorem one_left {u v w : Int × Int} (hu : 0 < u.2) (hv : 0 < v.2) (hw : 0 < w.2) (h1 : u.1 * w.2 < w.1 * u.2) (h2 : w.1 * v.2 < v.1 * w.2) (h3 : u.1 * v.2 < v.1 * u.2) {xs : List Int} (hx : xs ≠ []) (t : turnsL u v xs = 1) (n : (hor u.1 u.2 xs).1 * (hor w.1 w.2 xs).1 < 0) : turnsL u w xs = 1 := by
  have le := turns_left hu hv hw h1 h2 h3 xs
  have a : (hor u.1 u.2 xs).1 ≠ 0 := fun z => by rw [z] at n; simp at n
  have b : (hor w.1 w.2 xs).1 ≠ 0 := fun z => by rw [z] at n; simp at n
  have := (turns_par hu hw hx a b).mp n
  omega
theorem one_right {u v w : Int × Int} (hu : 0 < u.2) (hv : 0 < v.2) (hw : 0 < w.2) (h1 : u.1 * w.2 < w.1 * u.2) (h2 : w.1 * v.2 < v.1 * w.2) (h3 : u.1 * v.2 < v.1 * u.2) {xs : List Int} (hx : xs ≠ []) (t : turnsL u v xs = 1) (n : (hor w.1 w.2 xs).1 * (hor v.1 v.2 xs).1 < 0) : turnsL w v xs = 1 := by
  have le := turns_right hu hv hw h1 h2 h3 xs
  have a : (hor w.1 w.2 xs).1 ≠ 0 := fun z => by rw [z] at n; simp at n
  have b : (hor v.1 v.2 xs).1 ≠ 0 := fun z => by rw [z] at n; simp at n
  have := (turns_par hw hv hx a b).mp n
  omega
end Rt

namespace Rt
open PySem PySem.Spec PyProof.Rows L2 Evl
/-! the steps that need no thought; «walk_at "ev"» goes on till it is stuck -/
local macro_rules | `(tactic| walk_at "rt1") => `(tactic| first
  | ((with_reducible show _ = true → ED _ _ _ _); intro _) | ((with_reducible show _ = false → ED _ _ _ _); intro _) | ((with_reducible show _ = true → TD _ _ _ _); intro _) | ((with_reducible show _ = false → TD _ _ _ _); intro _)
  | with_reducible exact ed_int | with_reducible exact ed_bl | with_reducible exact ed_non | with_reducible exact ad_nil | with_reducible exact od_none | with_reducible exact td_yes
  | ((with_reducible apply ed_var); exact rfl)
  | (with_reducible apply ad_cons)
  | (with_reducible apply td_test) | (with_reducible apply td_truth) | (with_reducible apply td_not) | (with_reducible apply td_and) | (with_reducible apply td_or)
  | (with_reducible apply ed_add) | (with_reducible apply ed_sub) | (with_reducible apply ed_mul) | (with_reducible apply ed_mod) | (with_reducible apply ed_fdivP) | (with_reducible apply ed_pow) | (with_reducible apply ed_neg)
  | (with_reducible apply ed_lt) | (with_reducible apply ed_le) | (with_reducible apply ed_gt) | (with_reducible apply ed_ge)
  | (with_reducible apply ed_eqD) | (with_reducible apply ed_neD)
  | (with_reducible apply ed_ix) | (with_reducible apply ed_len) | (with_reducible apply ed_abs) | (with_reducible apply ed_gcd) | (with_reducible apply ed_isi)
  | (with_reducible apply ed_tup) | (with_reducible apply ed_tuple) | (with_reducible apply ed_andV) | (with_reducible apply ed_orV) | (with_reducible apply ed_notV)
  | (with_reducible apply od_some)
  | (with_reducible apply ef_lst) | (with_reducible apply ef_list) | (with_reducible apply ef_sl) | (with_reducible apply ef_cat)
  | (with_reducible apply EF.ed; with_reducible apply ef_lst) | (with_reducible apply EF.ed; with_reducible apply ef_list) | (with_reducible apply EF.ed; with_reducible apply ef_sl) | (with_reducible apply EF.ed; with_reducible apply ef_cat)
  | (with_reducible apply ed_call)
  | ((with_reducible show SeqD _ _); first | exact SeqD.l _ | exact SeqD.t _ | assumption)
  | ((with_reducible show Truth _ _); first | exact Truth.bool _ | exact Truth.int _ | exact Truth.l _ | exact Truth.t _)
  | ((with_reducible show SeqAt.shaped _ = true); exact rfl)
  | ((with_reducible show atI _ _ = some _); first | exact rfl | assumption)
  | ((with_reducible show kitB _ _ = some _); first | exact rfl | decide +kernel)
  | ((with_reducible show List.length _ = _); rfl)
  | ((with_reducible show List.length _ ≤ 100000); first | exact Nat.le_of_ble_eq_true rfl | (simp; done) | (simp; omega)))
local macro_rules | `(tactic| walk_at "ev") => `(tactic| repeat' walk_at "rt1")
def celN (ns : List Int) (c : Int) : Int := if (ns.getD 1 0).fmod 4 = 1 then c.fmod (2 * 10 ^ 20) - 10 ^ 20 else c.fmod 19 - 9
def rowN (ns : List Int) (k many : Int) : List Int := ((ns.drop k.toNat).take ((k + many).toNat - k.toNat)).map (celN ns)
def endN (c m : Int) : Int × Int := if m.fmod 5 = 1 then partV (c.fmod (2 * 10 ^ 12) - 10 ^ 12) (1 + (m.fdiv 5).fmod (10 ^ 12)) else partV (c.fmod 41 - 20) (1 + (m.fdiv 5).fmod 9)
theorem celN_lt (ns : List Int) (c : Int) : (celN ns c).natAbs ≤ 2 ^ 67 := by
  unfold celN
  split
  · have h1 := Int.fmod_nonneg_of_pos c (b := 2 * 10 ^ 20) (by decide)
    have h2 := Int.fmod_lt_of_pos c (b := 2 * 10 ^ 20) (by decide)
    have e : (2 * 10 ^ 20 : Int) = 200000000000000000000 := by decide
    have e2 : (10 ^ 20 : Int) = 100000000000000000000 := by decide
    rw [e] at h1 h2 ⊢; rw [e2]
    generalize c.fmod 200000000000000000000 = r at *
    have : (2 : Nat) ^ 67 = 147573952589676412928 := by decide
    omega
  · have h1 := Int.fmod_nonneg_of_pos c (b := 19) (by decide)
    have h2 := Int.fmod_lt_of_pos c (b := 19) (by decide)
    omega
/-- a part in lowest terms, of at most m bits -/
structure Low (m : Nat) (u : Int × Int) : Prop where
  pos : 0 < u.2
  gcd : Int.gcd u.1 u.2 = 1
  l1 : Lt2 m u.1
  l2 : Lt2 m u.2
theorem low_part {m : Nat} {a b : Int} (hb : 0 < b) (ha : Lt2 m a) (hb2 : Lt2 m b) : Low m (partV a b) :=
  ⟨partV_pos (by omega), partV_gcd (by omega), ha.of_le (partV_le (by omega)).1, hb2.of_le (partV_le (by omega)).2⟩
theorem endN_low (c m : Int) : Low 42 (endN c m) := by
  unfold endN
  split
  · have h1 := Int.fmod_nonneg_of_pos c (b := 2 * 10 ^ 12) (by decide)
    have h2 := Int.fmod_lt_of_pos c (b := 2 * 10 ^ 12) (by decide)
    have h3 := Int.fmod_nonneg_of_pos (m.fdiv 5) (b := 10 ^ 12) (by decide)
    have h4 := Int.fmod_lt_of_pos (m.fdiv 5) (b := 10 ^ 12) (by decide)
    have e : (2 * 10 ^ 12 : Int) = 2000000000000 := by decide
    have e2 : (10 ^ 12 : Int) = 1000000000000 := by decide
    rw [e] at h1 h2 ⊢; rw [e2] at h3 h4 ⊢
    exact low_part (by omega) (by unfold Lt2; omega) (by unfold Lt2; omega)
  · have h1 := Int.fmod_nonneg_of_pos c (b := 41) (by decide)
    have h2 := Int.fmod_lt_of_pos c (b := 41) (by decide)
    have h3 := Int.fmod_nonneg_of_pos (m.fdiv 5) (b := 9) (by decide)
    have h4 := Int.fmod_lt_of_pos (m.fdiv 5) (b := 9) (by decide)
    exact low_part (by omega) (by unfold Lt2; omega) (by unfold Lt2; omega)
theorem low_ext {m n : Nat} {u v : Int × Int} (hu : Low m u) (hv : Low n v) (h : u.1 * v.2 = v.1 * u.2) : u = v := by
  obtain ⟨a, b⟩ := u
  obtain ⟨c, d⟩ := v
  have h : a * d = c * b := h
  have g1 : Int.gcd a b = 1 := hu.gcd
  have g2 : Int.gcd c d = 1 := hv.gcd
  have p1 : 0 < b := hu.pos
  have p2 : 0 < d := hv.pos
  have d1 : b ∣ d := by
    have : b ∣ a * d := ⟨c, by rw [h, Int.mul_comm]⟩
    exact Int.natAbs_dvd_natAbs.mp (Nat.Coprime.dvd_of_dvd_mul_left (show Nat.Coprime b.natAbs a.natAbs from by rw [Nat.coprime_comm]; exact g1) (by rw [← Int.natAbs_mul]; exact Int.natAbs_dvd_natAbs.mpr this))
  have d2 : d ∣ b := by
    have : d ∣ c * b := ⟨a, by rw [← h, Int.mul_comm]⟩
    exact Int.natAbs_dvd_natAbs.mp (Nat.Coprime.dvd_of_dvd_mul_left (show Nat.Coprime d.natAbs c.natAbs from by rw [Nat.coprime_comm]; exact g2) (by rw [← Int.natAbs_mul]; exact Int.natAbs_dvd_natAbs.mpr this))
  have e : b = d := Int.le_antisymm (Int.le_of_dvd p2 d1) (Int.le_of_dvd p1 d2)
  subst e
  have e2 : a = c := Int.eq_of_mul_eq_mul_right (by omega) h
  rw [e2]
def F__law_row (ds : List PyData) (r : Res) : Prop := ∃ (ns : List Int) (k many : Int), ds = [.list (rD ns), .int k, .int many] ∧ 0 ≤ k ∧ 0 ≤ many ∧ ns.length ≤ 1000 ∧ r = .rf (rD (rowN ns k many))
def F__law_end (ds : List PyData) (r : Res) : Prop := ∃ c m : Int, ds = [.int c, .int m] ∧ r = .rt (pD (endN c m))
abbrev sp__law_row (K : PySem.W.Frag) : Sp := spD K 3 F__law_row
abbrev sp__law_end (K : PySem.W.Frag) : Sp := spD K 2 F__law_end
def pegD (xs : List Int) (u v : Int × Int) : PyData := .tuple [.tuple (rD xs), pD u, pD v]
/-- a row alone in a stretch: numbers below 2 ^ n, ends below 2 ^ m -/
structure PegOk (n m : Nat) (xs : List Int) (u v : Int × Int) : Prop where
  l2 : 2 ≤ xs.length
  len : xs.length ≤ 100
  good : Good xs
  bd : Bd (2 ^ n) xs
  lu : Low m u
  lv : Low m v
  lt : u.1 * v.2 < v.1 * u.2
  nu : (hor u.1 u.2 xs).1 ≠ 0
  nv : (hor v.1 v.2 xs).1 ≠ 0
  one : turnsL u v xs = 1
def F__law_is_peg (ds : List PyData) (r : Res) : Prop := ∃ (xs : List Int) (u v : Int × Int) (n m : Nat), ds = [pegD xs u v] ∧ PegOk n m xs u v ∧ n ≤ 7000 ∧ m ≤ 7000 ∧ r = .rt (.bool true)
abbrev sp__law_is_peg (K : PySem.W.Frag) : Sp := spD K 1 F__law_is_peg
theorem bare_self {xs : List Int} (h : Good xs) : bareL xs = xs := by
  have h1 : 0 < lastZ xs := h.1
  have e : barS xs = 1 := by unfold barS; rw [if_neg (by omega), h.2]; rfl
  unfold bareL
  rw [e]
  have : (fun a : Int => a.fdiv 1) = id := by funext a; exact Int.fdiv_one a
  rw [this, List.map_id]
def t__law_row (K : PySem.W.Frag) : TS := (tSeq (tAsg (tLst tNil) (gName 3))
  (tSeq (tFor (iSeq K (tSl (rSlS K) (tVar 0) (tPart (tVar 1)) (tPart (tOp (rI0 fun i j => .int (i + j)) (tVar 1) (tVar 2))))) (gName 4) (tIfS (tTest (tOp (rEqD K) (tOp (rI (fun _ j => j ≠ 0) fun i j => .int (i.fmod j)) (tCall (sp__law_cell_at K) [] E0 (tCons (tVar 0) (tCons (tC (.int 1)) tNil))) (tC (.int 4))) (tC (.int 1)))) (tDrop (tBM K "list" rAppend (tVar 3) (tCons (tOp (rI0 fun i j => .int (i - j)) (tOp (rI (fun _ j => j ≠ 0) fun i j => .int (i.fmod j)) (tVar 4) (tOp (rI CMulX fun i j => .int (i * j)) (tC (.int 2)) (tOp (rI CPow fun i j => .int (i ^ j.toNat)) (tC (.int 10)) (tC (.int 20))))) (tOp (rI CPow fun i j => .int (i ^ j.toNat)) (tC (.int 10)) (tC (.int 20)))) tNil))) (tDrop (tBM K "list" rAppend (tVar 3) (tCons (tOp (rI0 fun i j => .int (i - j)) (tOp (rI (fun _ j => j ≠ 0) fun i j => .int (i.fmod j)) (tVar 4) (tC (.int 19))) (tC (.int 9))) tNil)))))
  (tRet (tVar 3))))
abbrev N__law_row : List Str := ["_law_script", "_law_k", "_law_many", "_law_row_here", "_law_cell"]
def t__law_end (K : PySem.W.Frag) : TS := (tSeq (tIfS (tTest (tOp (rEqD K) (tOp (rI (fun _ j => j ≠ 0) fun i j => .int (i.fmod j)) (tVar 1) (tC (.int 5))) (tC (.int 1)))) (tRet (tCall (sp__law_part K) [] E0 (tCons (tOp (rI0 fun i j => .int (i - j)) (tOp (rI (fun _ j => j ≠ 0) fun i j => .int (i.fmod j)) (tVar 0) (tOp (rI CMulX fun i j => .int (i * j)) (tC (.int 2)) (tOp (rI CPow fun i j => .int (i ^ j.toNat)) (tC (.int 10)) (tC (.int 12))))) (tOp (rI CPow fun i j => .int (i ^ j.toNat)) (tC (.int 10)) (tC (.int 12)))) (tCons (tOp (rI0 fun i j => .int (i + j)) (tC (.int 1)) (tOp (rI (fun _ j => j ≠ 0) fun i j => .int (i.fmod j)) (tOp (rI CDivQ fun i j => .int (i.fdiv j)) (tVar 1) (tC (.int 5))) (tOp (rI CPow fun i j => .int (i ^ j.toNat)) (tC (.int 10)) (tC (.int 12))))) tNil)))) tNext)
  (tRet (tCall (sp__law_part K) [] E0 (tCons (tOp (rI0 fun i j => .int (i - j)) (tOp (rI (fun _ j => j ≠ 0) fun i j => .int (i.fmod j)) (tVar 0) (tC (.int 41))) (tC (.int 20))) (tCons (tOp (rI0 fun i j => .int (i + j)) (tC (.int 1)) (tOp (rI (fun _ j => j ≠ 0) fun i j => .int (i.fmod j)) (tOp (rI CDivQ fun i j => .int (i.fdiv j)) (tVar 1) (tC (.int 5))) (tC (.int 9)))) tNil)))))
abbrev N__law_end : List Str := ["_law_cell", "_law_more"]
def t__law_is_peg (K : PySem.W.Frag) : TS := (tSeq (tIfS (tOr (tNot (tTruth K (tCB (rIsi K) (tCons (tVar 0) (tCons (tC (.ty "tuple")) tNil))))) (tOr (tTest (tOp (rNeD K) (tLen K (tVar 0)) (tC (.int 3)))) (tNot (tTruth K (tCB (rIsi K) (tCons (tOp (rIx K) (tVar 0) (tC (.int 0))) (tCons (tC (.ty "tuple")) tNil))))))) (tRet (tC (.bl false))) tNext)
  (tSeq (tAsg (tCB (rListS K) (tCons (tOp (rIx K) (tVar 0) (tC (.int 0))) tNil)) (gName 1))
  (tSeq (tIfS (tOr (tTest (tOp (rI0 fun i j => .bl (decide (i < j))) (tLen K (tVar 1)) (tC (.int 2)))) (tOr (tTest (tOp (rI0 fun i j => .bl (decide (j < i))) (tLen K (tLc (iSeq K (tVar 1)) (gName 4) (tNot (tTruth K (tCall (sp__law_whole K) [] E0 (tCons (tVar 4) tNil)))) (tVar 4) [4])) (tC (.int 0)))) (tTest (tOp (rI0 fun i j => .bl (decide (i < j))) (tOp (rIx K) (tVar 1) (tUn (rU fun i => .int (-i)) (tC (.int 1)))) (tC (.int 1)))))) (tRet (tC (.bl false))) tNext)
  (tSeq (tIfS (tOr (tTest (tOp (rNeD K) (tCall (sp__law_smallest K) [] E0 (tCons (tVar 1) tNil)) (tVar 1))) (tOr (tNot (tTruth K (tCall (sp__law_is_part K) [] E0 (tCons (tOp (rIx K) (tVar 0) (tC (.int 1))) tNil)))) (tNot (tTruth K (tCall (sp__law_is_part K) [] E0 (tCons (tOp (rIx K) (tVar 0) (tC (.int 2))) tNil)))))) (tRet (tC (.bl false))) tNext)
  (tSeq (tAsg (tCall (sp__law_value K) [] E0 (tCons (tVar 1) (tCons (tOp (rIx K) (tVar 0) (tC (.int 1))) tNil))) (gName 2))
  (tSeq (tAsg (tCall (sp__law_value K) [] E0 (tCons (tVar 1) (tCons (tOp (rIx K) (tVar 0) (tC (.int 2))) tNil))) (gName 3))
  (tSeq (tIfS (tOr (tTest (tOp (rI0 fun i j => .bl (decide (j ≤ i))) (tOp (rI CMulX fun i j => .int (i * j)) (tOp (rIx K) (tOp (rIx K) (tVar 0) (tC (.int 1))) (tC (.int 0))) (tOp (rIx K) (tOp (rIx K) (tVar 0) (tC (.int 2))) (tC (.int 1)))) (tOp (rI CMulX fun i j => .int (i * j)) (tOp (rIx K) (tOp (rIx K) (tVar 0) (tC (.int 2))) (tC (.int 0))) (tOp (rIx K) (tOp (rIx K) (tVar 0) (tC (.int 1))) (tC (.int 1)))))) (tOr (tTest (tOp (rEqD K) (tVar 2) (tC (.int 0)))) (tTest (tOp (rEqD K) (tVar 3) (tC (.int 0)))))) (tRet (tC (.bl false))) tNext)
  (tRet (tOp (rEqD K) (tCall (sp__law_turns K) [] E0 (tCons (tVar 1) (tCons (tOp (rIx K) (tVar 0) (tC (.int 1))) (tCons (tOp (rIx K) (tVar 0) (tC (.int 2))) tNil)))) (tC (.int 1)))))))))))
abbrev N__law_is_peg : List Str := ["_law_found", "_law_row", "_law_low", "_law_high", "_law_one"]
section
variable {K : PySem.W.Frag}
theorem pure__law_row (ds : List PyData) (r : Res) (h : F__law_row ds r) (B0 B : Hp) : SD K B0 B (t__law_row K) (startR N__law_row ds) (fin r) := by
  obtain ⟨ns, k, many, rfl, hk, hm, hl, rfl⟩ := h
  unfold t__law_row rowN
  have sl : EF K (tSl (rSlS K) (tVar 0) (tPart (tVar 1)) (tPart (tOp (rI0 fun i j => .int (i + j)) (tVar 1) (tVar 2)))) [some (.d (.list (rD ns))), some (.d (.int k)), some (.d (.int many)), some (.own []), none] (rD ((ns.drop k.toNat).take ((k + many).toNat - k.toNat))) := (ef_sl (ed_var rfl) (od_some (ed_var rfl)) (od_some (ed_add (ed_var rfl) (ed_var rfl)))).cast (cut_I ns hk (by omega))
  have ll : ((ns.drop k.toNat).take ((k + many).toNat - k.toNat)).length ≤ 1000 := by rw [List.length_take, List.length_drop]; omega
  generalize (ns.drop k.toNat).take ((k + many).toNat - k.toNat) = xs at *
  refine sd_seq (sd_setF (ef_lst ad_nil (by decide)) ?_)
  refine sd_seq (sd_for (id_seq (EF.ed sl) (SeqD.l _)) (fun i ρ => ∃ z, ρ = [some (.d (.list (rD ns))), some (.d (.int k)), some (.d (.int many)), some (.own (rD ((xs.take i).map (celN ns)))), z]) ⟨none, rfl⟩ ?_ ?_)
  · rintro i d ρ' hi ⟨z, rfl⟩
    obtain ⟨c, hc, rfl⟩ := rD_get hi
    refine ⟨_, gd_name, ?_⟩
    have cp : CPow 10 20 := ⟨by decide, by decide, by decide⟩
    have c2 : CMulX 2 (10 ^ (20 : Int).toNat) := (Lt2.of_lt (n := 3) (by decide)).cm (Lt2.of_lt (n := 80) (by decide)) (by decide)
    have fl : ((xs.take i).map (celN ns)).length ≤ 1000 := by rw [List.length_map, List.length_take]; omega
    have en : rD ((xs.take i).map (celN ns)) ++ [PyData.int (celN ns c)] = rD ((xs.take (i + 1)).map (celN ns)) := by
      rw [take_snoc hc]; unfold rD; rw [List.map_append, List.map_append]; rfl
    have cell : ED K (tCall (sp__law_cell_at K) [] E0 (tCons (tVar 0) (tCons (tC (.int 1)) tNil))) [some (.d (.list (rD ns))), some (.d (.int k)), some (.d (.int many)), some (.own (rD ((xs.take i).map (celN ns)))), some (.d (.int c))] (.int (ns.getD 1 0)) := ed_call (ad_cons (ed_var rfl) (ad_cons ed_int ad_nil)) ⟨ns, 1, rfl, by decide, rfl⟩ rfl
    refine sd_if (td_test (ed_eqI (ed_mod cell ed_int (by decide)) ed_int)) (fun hb => ?_) (fun hb => ?_)
    · have hb : (ns.getD 1 0).fmod 4 = 1 := of_decide_eq_true hb
      have e : celN ns c = c.fmod (2 * 10 ^ 20) - 10 ^ 20 := by unfold celN; rw [if_pos hb]
      refine sd_app (ds := rD ((xs.take i).map (celN ns))) (d := .int (celN ns c)) rfl ?_ (by rw [rD_len]; omega) ⟨_, by rw [en]; rfl⟩
      rw [e]
      exact ed_sub (ed_mod (ed_var rfl) (ed_mul ed_int (ed_pow ed_int ed_int cp) c2) (by decide)) (ed_pow ed_int ed_int cp)
    · have hb : ¬ (ns.getD 1 0).fmod 4 = 1 := of_decide_eq_false hb
      have e : celN ns c = c.fmod 19 - 9 := by unfold celN; rw [if_neg hb]
      refine sd_app (ds := rD ((xs.take i).map (celN ns))) (d := .int (celN ns c)) rfl ?_ (by rw [rD_len]; omega) ⟨_, by rw [en]; rfl⟩
      rw [e]
      exact ed_sub (ed_mod (ed_var rfl) ed_int (by decide)) ed_int
  · rintro ρ' ⟨z, rfl⟩
    show SD K B0 B _ _ _
    rw [rD_len, List.take_length]
    exact sd_retO (i := 3) rfl rfl
theorem pure__law_end (ds : List PyData) (r : Res) (h : F__law_end ds r) (B0 B : Hp) : SD K B0 B (t__law_end K) (startR N__law_end ds) (fin r) := by
  obtain ⟨c, m, rfl, rfl⟩ := h
  have cp : CPow 10 12 := ⟨by decide, by decide, by decide⟩
  have c2 : CMulX 2 (10 ^ (12 : Int).toNat) := (Lt2.of_lt (n := 3) (by decide)).cm (Lt2.of_lt (n := 80) (by decide)) (by decide)
  have c5 : CDivQ m 5 := Lt2.cd (n := 4) (by decide) (Lt2.of_lt (by decide)) (by decide)
  have h3 := Int.fmod_nonneg_of_pos (m.fdiv 5) (b := 10 ^ 12) (by decide)
  have h4 := Int.fmod_lt_of_pos (m.fdiv 5) (b := 10 ^ 12) (by decide)
  have h5 := Int.fmod_nonneg_of_pos (m.fdiv 5) (b := 9) (by decide)
  have h6 := Int.fmod_lt_of_pos (m.fdiv 5) (b := 9) (by decide)
  unfold t__law_end endN
  refine sd_seq (sd_if (td_test (ed_eqI (ed_mod (ed_var rfl) ed_int (by decide)) ed_int)) (fun hb => ?_) (fun hb => ?_))
  · have hb : m.fmod 5 = 1 := of_decide_eq_true hb
    rw [if_pos hb]
    refine sd_ret (d := pD (partV (c.fmod (2 * 10 ^ 12) - 10 ^ 12) (1 + (m.fdiv 5).fmod (10 ^ 12)))) (ed_call (ad_cons (ed_sub (ed_mod (ed_var rfl) (ed_mul ed_int (ed_pow ed_int ed_int cp) c2) (by decide)) (ed_pow ed_int ed_int cp)) (ad_cons (ed_add ed_int (ed_mod (ed_fdivP (ed_var rfl) ed_int c5) (ed_pow ed_int ed_int cp) (by decide))) ad_nil)) ⟨_, _, rfl, ?_, ?_, rfl⟩ rfl) rfl
    · show 1 + (m.fdiv 5).fmod (10 ^ 12) ≠ 0
      omega
    · show Lt2 8000 (1 + (m.fdiv 5).fmod (10 ^ 12))
      have e2 : (10 ^ 12 : Int) = 1000000000000 := by decide
      rw [e2] at h3 h4 ⊢
      exact Lt2.mono (n := 42) (by unfold Lt2; omega) (by decide)
  · have hb : ¬ m.fmod 5 = 1 := of_decide_eq_false hb
    rw [if_neg hb]
    refine sd_next ?_
    refine sd_ret (d := pD (partV (c.fmod 41 - 20) (1 + (m.fdiv 5).fmod 9))) (ed_call (ad_cons (ed_sub (ed_mod (ed_var rfl) ed_int (by decide)) ed_int) (ad_cons (ed_add ed_int (ed_mod (ed_fdivP (ed_var rfl) ed_int c5) ed_int (by decide))) ad_nil)) ⟨_, _, rfl, by omega, Lt2.mono (n := 42) (by unfold Lt2; omega) (by decide), rfl⟩ rfl) rfl
theorem pure__law_is_peg (ds : List PyData) (r : Res) (h : F__law_is_peg ds r) (B0 B : Hp) : SD K B0 B (t__law_is_peg K) (startR N__law_is_peg ds) (fin r) := by
  obtain ⟨xs, u, v, n, m, rfl, p, hn, hm, rfl⟩ := h
  have z := p.good.ne
  have nx := lastZ_ne z
  have l2 := p.l2
  have ll := p.len
  have gl : 0 < lastZ xs := p.good.1
  have sq : SeqD (pegD xs u v) [.tuple (rD xs), pD u, pD v] := SeqD.t _
  have su := pD_seq u
  have sv := pD_seq v
  have sx := shaped_l xs
  have ex : PyData.eqv (.list (rD xs)) (.list (rD xs)) = true := by rw [eqv_l]; simp
  have sz : Sz 8000 xs := p.bd.sz.mono (by omega)
  have lu8 := p.lu.l2.mono (show m ≤ 8000 by omega)
  have lv8 := p.lv.l2.mono (show m ≤ 8000 by omega)
  have fs : F__law_smallest [.list (rD xs)] (.rf (rD xs)) := ⟨_, xs, 8000, rfl, SeqD.l _, z, by omega, sz, by decide, by rw [bare_self p.good]⟩
  have fu : F__law_is_part [pD u] (.rt (.bool true)) := ⟨u, rfl, p.lu.pos, lu8, p.lu.gcd, rfl⟩
  have fv : F__law_is_part [pD v] (.rt (.bool true)) := ⟨v, rfl, p.lv.pos, lv8, p.lv.gcd, rfl⟩
  have big : 8000 + (xs.length + 2) * (7001 + 1) ≤ 100000000 := by
    have : (xs.length + 2) * (7001 + 1) ≤ 102 * 7002 := Nat.mul_le_mul_right _ (by omega)
    omega
  have vu : F__law_value [.list (rD xs), pD u] (.rt (.int (hor u.1 u.2 xs).1)) := ⟨_, xs, u.1, u.2, 8000, 7001, rfl, SeqD.l _, by omega, sz, p.lu.l1.mono (by omega), p.lu.l2.mono (by omega), by decide, big, rfl⟩
  have vv : F__law_value [.list (rD xs), pD v] (.rt (.int (hor v.1 v.2 xs).1)) := ⟨_, xs, v.1, v.2, 8000, 7001, rfl, SeqD.l _, by omega, sz, p.lv.l1.mono (by omega), p.lv.l2.mono (by omega), by decide, big, rfl⟩
  have ft : F__law_turns [.list (rD xs), pD u, pD v] (.rt (.int 1)) := ⟨_, xs, u, v, n, m, rfl, SeqD.l _, ll, p.bd, p.lu.l1, p.lu.l2, p.lv.l1, p.lv.l2, by omega, by omega, by rw [p.one]; rfl⟩
  have cuv : CMulX u.1 v.2 := p.lu.l1.cm p.lv.l2 (by omega)
  have cvu : CMulX v.1 u.2 := p.lv.l1.cm p.lu.l2 (by omega)
  have lt := p.lt
  have nu := p.nu
  have nv := p.nv
  generalize (hor u.1 u.2 xs).1 = a at *
  generalize (hor v.1 v.2 xs).1 = b at *
  unfold t__law_is_peg
  show SD K B0 B _ [some (.d (pegD xs u v)), none, none, none, none] _
  have x0 : ∀ ρ : Rho, ρ[0]? = some (some (.d (pegD xs u v))) → ED K (tOp (rIx K) (tVar 0) (tC (.int 0))) ρ (.tuple (rD xs)) := fun ρ h => ed_ix (ed_var h) sq ed_int rfl
  have x1 : ∀ ρ : Rho, ρ[0]? = some (some (.d (pegD xs u v))) → ED K (tOp (rIx K) (tVar 0) (tC (.int 1))) ρ (pD u) := fun ρ h => ed_ix (ed_var h) sq ed_int rfl
  have x2 : ∀ ρ : Rho, ρ[0]? = some (some (.d (pegD xs u v))) → ED K (tOp (rIx K) (tVar 0) (tC (.int 2))) ρ (pD v) := fun ρ h => ed_ix (ed_var h) sq ed_int rfl
  refine sd_seq (sd_if (b := false) ((td_or (td_not (td_truth (ed_isi (ed_var rfl) rfl) (Truth.bool _))) fun _ => td_or (td_test (ed_neI ((ed_len (ed_var rfl) sq).cast (show PyData.int ((3 : Nat) : Int) = .int 3 from rfl)) ed_int)) fun _ => td_not (td_truth (ed_isi (x0 _ rfl) rfl) (Truth.bool _))).cast (by decide)) (fun hb => nomatch hb) (fun _ => ?_))
  refine sd_next ?_
  refine sd_seq (sd_setF (ef_list (x0 _ rfl) (SeqD.t _)) ?_)
  refine sd_frz (i := 1) rfl ?_
  show SD K B0 B _ [some (.d (pegD xs u v)), some (.d (.list (rD xs))), none, none, none] _
  have lcw : ED K (tLen K (tLc (iSeq K (tVar 1)) (gName 4) (tNot (tTruth K (tCall (sp__law_whole K) [] E0 (tCons (tVar 4) tNil)))) (tVar 4) [4])) [some (.d (pegD xs u v)), some (.d (.list (rD xs))), none, none, none] (.int 0) := by
    refine (ed_len (EF.ed (ef_lcG (b := fun _ => false) (fun _ => .int 0) (id_seq (ed_var rfl) (SeqD.l _)) (by rw [rD_len]; omega) fun i d hi => ?_)) (SeqD.l _)).cast ?_
    · obtain ⟨a, ha, rfl⟩ := rD_get hi
      exact ⟨_, gc_name, td_not (td_truth (ed_call (F := F__law_whole) (ad_cons (ed_var rfl) ad_nil) ⟨a, rfl, rfl⟩ rfl) (Truth.bool _)), fun z => nomatch z⟩
    · simp
  refine sd_seq (sd_if (b := false) ((td_or (td_test (ed_lt (ed_lenR (ed_var rfl) (SeqD.l _)) ed_int)) fun _ => td_or (td_test (ed_gt lcw ed_int)) fun _ => td_test (ed_lt (ed_ix (ed_var rfl) (SeqD.l _) (ed_neg ed_int) (rD_last' nx)) ed_int)).cast (by simp; omega)) (fun hb => nomatch hb) (fun _ => ?_))
  refine sd_next ?_
  refine sd_seq (sd_if (b := false) ((td_or (td_test (ed_neD (EF.ed (ef_call (ad_cons (ed_var rfl) ad_nil) fs rfl)) (ed_var rfl) sx sx)) fun _ => td_or (td_not (td_truth (ed_call (ad_cons (x1 _ rfl) ad_nil) fu rfl) (Truth.bool _))) fun _ => td_not (td_truth (ed_call (ad_cons (x2 _ rfl) ad_nil) fv rfl) (Truth.bool _))).cast (by rw [ex]; rfl)) (fun hb => nomatch hb) (fun _ => ?_))
  refine sd_next ?_
  refine sd_seq (sd_set (ed_call (ad_cons (ed_var rfl) (ad_cons (x1 _ rfl) ad_nil)) vu rfl) ?_)
  refine sd_seq (sd_set (ed_call (ad_cons (ed_var rfl) (ad_cons (x2 _ rfl) ad_nil)) vv rfl) ?_)
  refine sd_seq (sd_if (b := false) ((td_or (td_test (ed_ge (ed_mul (ed_ix (x1 _ rfl) su ed_int rfl) (ed_ix (x2 _ rfl) sv ed_int rfl) cuv) (ed_mul (ed_ix (x2 _ rfl) sv ed_int rfl) (ed_ix (x1 _ rfl) su ed_int rfl) cvu))) fun _ => td_or (td_test (ed_eqI (ed_var rfl) ed_int)) fun _ => td_test (ed_eqI (ed_var rfl) ed_int)).cast (by simp [nu, nv]; omega)) (fun hb => nomatch hb) (fun _ => ?_))
  refine sd_next ?_
  exact sd_ret (d := .bool true) (ed_eqI (ed_call (ad_cons (ed_var rfl) (ad_cons (x1 _ rfl) (ad_cons (x2 _ rfl) ad_nil))) ft rfl) ed_int) rfl
end
end Rt

/-! slices backwards, xs[i] += e, lcm -/
namespace HT
open PySem PySem.Spec PyProof.Rows L2
section
variable {prog : Program} {w : World} {A : Around} {E : Value → Shared → Prop} {s : Shared}
/-- how many items xs[lo::-1] has -/
def mIx (n : Nat) : Option Int → Nat
  | none => n
  | some v => if v < 0 then (v + n + 1).toNat else min (v.toNat + 1) n
theorem mIx_le (n : Nat) (lo : Option Int) : mIx n lo ≤ n := by
  cases lo with
  | none => exact Nat.le_refl _
  | some v =>
    show (if v < 0 then (v + n + 1).toNat else min (v.toNat + 1) n) ≤ n
    split <;> omega
theorem adjust_neg (lo : Option Int) (n : Nat) : Builtin.Slice.sliceAdjust lo none (-1) (n : Int) = (((mIx n lo : Nat) : Int) - 1, -1) := by
  have h1 : ((-1 : Int) < 0) := by decide
  unfold Builtin.Slice.sliceAdjust
  simp only [h1, if_true]
  refine Prod.ext ?_ rfl
  cases lo with
  | none => rfl
  | some v =>
    show (if v < 0 then max (v + (n : Int)) (-1) else min v ((n : Int) - 1)) = ((if v < 0 then (v + n + 1).toNat else min (v.toNat + 1) n : Nat) : Int) - 1
    by_cases hv : v < 0
    · rw [if_pos hv, if_pos hv]; omega
    · rw [if_neg hv, if_neg hv]; omega
theorem places_neg (m : Nat) : Builtin.Slice.slicePlaces ((m : Int) - 1) (-1) (-1) = m := by
  unfold Builtin.Slice.slicePlaces
  rw [if_neg (by decide)]
  have : (-(-1 : Int)) = 1 := by decide
  rw [this, Int.ediv_one]
  split <;> omega
theorem fmap_map {α β : Type} {f : α → Option β} {g : α → β} : ∀ (l : List α), (∀ k ∈ l, f k = some (g k)) → l.filterMap f = l.map g
  | [], _ => rfl
  | a :: l, h => by
    rw [List.filterMap_cons, h a List.mem_cons_self, List.map_cons, fmap_map l fun k hk => h k (List.mem_cons_of_mem _ hk)]
theorem pick_neg (xs : Array Value) (m : Nat) (hm : m ≤ xs.size) : ((List.range m).filterMap fun (k : Nat) => xs[((m : Int) - 1 + (k : Int) * (-1)).toNat]?).toArray = ((xs.toList.take m).reverse).toArray := by
  congr 1
  have e : ∀ k ∈ List.range m, xs[((m : Int) - 1 + (k : Int) * (-1)).toNat]? = some (xs.toList.getD (m - 1 - k) .none) := fun k hk => by
    have hk := List.mem_range.mp hk
    have : ((m : Int) - 1 + (k : Int) * (-1)).toNat = m - 1 - k := by omega
    rw [this, List.getD_eq_getElem?_getD, ← Array.getElem?_toList]
    have h : m - 1 - k < xs.toList.length := by rw [Array.length_toList]; omega
    rw [List.getElem?_eq_getElem h]; rfl
  have e2 : (List.range m).filterMap (fun (k : Nat) => xs[((m : Int) - 1 + (k : Int) * (-1)).toNat]?) = (List.range m).map fun k => xs.toList.getD (m - 1 - k) .none := by
    exact fmap_map _ e
  rw [e2]
  apply List.ext_getElem
  · rw [List.length_map, List.length_range, List.length_reverse, List.length_take, Array.length_toList]; omega
  · intro i h1 h2
    rw [List.getElem_map, List.getElem_range, List.getElem_reverse, List.getElem_take]
    rw [List.length_map, List.length_range] at h1
    have h : m - 1 - i < xs.toList.length := by rw [Array.length_toList]; omega
    rw [List.getD_eq_getElem?_getD, List.getElem?_eq_getElem h]
    show xs.toList[m - 1 - i] = _
    congr 1
    rw [List.length_take, Array.length_toList]; omega
theorem sliceApplied_neg {sl : Addr} {vl vk : Value} {lo : Option Int} {n : Nat} {Q : Int × Int × Nat → Shared → Prop} (hs : s.heap.IsSliceOf sl vl .none vk) (pl : IsPart vl lo) (pk : IsPart vk (some (-1)))
    (h : Q (((mIx n lo : Nat) : Int) - 1, -1, mIx n lo) s) : wpAny (model prog w) A (Builtin.Slice.sliceApplied (.ref sl) (pure (n : Int))) Q E s := by
  obtain ⟨os, hos, hcs, hds⟩ := id hs
  unfold Builtin.Slice.sliceApplied Builtin.Slice.sliceFields
  refine wpAny_bind (wpAny_bind (wpAny_field hos hds (x := vl) rfl (wpAny_bind (wpAny_field hos hds (x := .none) rfl (wpAny_bind (wpAny_field hos hds (x := vk) rfl (wpAny_pure ?_)))))))
  refine wpAny_bind (slicePart_ pk ?_)
  show wpAny _ _ (if ((-1 : Int) == 0) = true then _ else _) _ _ s
  rw [if_neg (by decide)]
  refine wpAny_bind (slicePart_ pl (wpAny_bind (slicePart_none (wpAny_bind (wpAny_pure ?_)))))
  show wpAny _ _ (match Builtin.Slice.sliceAdjust lo none (-1) (n : Int) with | (lo, hi) => pure (lo, (-1 : Int), Builtin.Slice.slicePlaces lo hi (-1))) _ _ s
  rw [adjust_neg lo n]
  show wpAny _ _ (pure (((mIx n lo : Nat) : Int) - 1, (-1 : Int), Builtin.Slice.slicePlaces (((mIx n lo : Nat) : Int) - 1) (-1) (-1))) _ _ s
  rw [places_neg]
  exact wpAny_pure h
theorem getItem_tuple_neg {t sl : Addr} {items : Array Value} {vl vk : Value} {lo : Option Int} {Q : Value → Shared → Prop} (ht : IsTup s.heap t items) (hs : s.heap.IsSliceOf sl vl .none vk) (pl : IsPart vl lo) (pk : IsPart vk (some (-1)))
    (h : Q (.ref s.heap.objs.size) { s with heap := s.heap.push { cls := .type "tuple", data := .seq ((items.toList.take (mIx items.size lo)).reverse).toArray } })
    (hsz : items.size ≤ sizeLine) : wpAny (model prog w) A (getItem (.ref t) (.ref sl)) Q E s := by
  have hm := mIx_le items.size lo
  have htake : sizeOk (.seq ((items.toList.take (mIx items.size lo)).reverse).toArray) := by
    show ((items.toList.take (mIx items.size lo)).reverse).toArray.size ≤ sizeLine
    rw [List.size_toArray, List.length_reverse, List.length_take, Array.length_toList]
    omega
  obtain ⟨os, hos, hcs, hds⟩ := id hs
  have hTs : s.TypeIs (.ref sl) "slice" := ⟨os, hos, hcs⟩
  unfold getItem
  try with_reducible refine wpAny_holding ?_
  first | refine wpAny_bind (wpAny_pure ?_) | skip
  refine wpAny_bind (wpAny_sequenceKey ht.typeIs (by decide) ?_)
  refine wpAny_bind (wpAny_callSpecial?_slot (name := Str.ofString "__getitem__") ht.typeIs PyProof.Rows.slot_tuple_getitem
    (wpAny_call_entry PyProof.Rows.slot_tuple_getitem ht.typeIs entry_tuple_getitem ?_ (args_tuple_getitem _ _)))
  show wpAny _ _ (Builtin.Tuple.tupleItemsOf (.ref t) >>= _) _ _ s
  refine wpAny_bind (tupleItemsOf_ ht ?_)
  refine wpAny_bind (wpAny_typeOf hTs ?_)
  rw [if_pos (by decide)]
  refine wpAny_bind (sliceApplied_neg hs pl pk ?_)
  have hno : ¬ (((((mIx items.size lo : Nat) : Int) - 1) == 0 && (-1 : Int) == 1 && mIx items.size lo == items.size) = true) := by
    intro q
    rw [Bool.and_eq_true, Bool.and_eq_true] at q
    exact absurd q.1.2 (by decide)
  show wpAny _ _ (if (((((mIx items.size lo : Nat) : Int) - 1) == 0 && (-1 : Int) == 1 && mIx items.size lo == items.size) = true) then _ else _) _ _ s
  rw [if_neg hno, pick_neg _ _ hm]
  first
    | exact wpAny_bind (m := Builtin.Tuple.tupleExact _) (wpAny_newObj_type (wpAny_pure ⟨_, rfl, wpAny_pure h⟩) htake)
    | exact wpAny_bind (m := Builtin.Tuple.tupleExact _) (wpAny_newObj_type (wpAny_bind (wpAny_pure (wpAny_pure ⟨_, rfl, wpAny_pure h⟩))) htake)
    | exact wpAny_bind (wpAny_bind (m := Builtin.Tuple.tupleExact _) (wpAny_newObj_type (wpAny_pure (wpAny_pure ⟨_, rfl, wpAny_pure h⟩)) htake))
    | exact wpAny_bind (wpAny_bind (m := Builtin.Tuple.tupleExact _) (wpAny_newObj_type (wpAny_pure ⟨_, rfl, wpAny_pure h⟩) htake))
theorem slicePick_neg (items : Array Value) (lo : Option Int) : slicePick items lo none (some (-1)) = ((items.toList.take (mIx items.size lo)).reverse).toArray := by
  rw [← pick_neg _ _ (mIx_le items.size lo)]
  unfold slicePick
  have e : sliceBounds lo none (some (-1)) items.size = (((mIx items.size lo : Nat) : Int) - 1, -1, -1) := by
    refine Prod.ext ?_ rfl
    cases lo with
    | none => rfl
    | some v =>
      show (let i := if v < 0 then v + (items.size : Int) else v; if (-1 : Int) > 0 then max 0 (min i items.size) else max (-1) (min i ((items.size : Int) - 1))) = ((if v < 0 then (v + items.size + 1).toNat else min (v.toNat + 1) items.size : Nat) : Int) - 1
      dsimp only
      rw [if_neg (by decide)]
      split <;> omega
  rw [e]
  congr 1
  show (sliceRange (((mIx items.size lo : Nat) : Int) - 1) (-1) (-1)).filterMap _ = _
  unfold sliceRange
  rw [if_neg (by decide)]
  have e1 : (if ((mIx items.size lo : Nat) : Int) - 1 > -1 then ((mIx items.size lo : Nat) - 1 - -1 - -1 - 1) / (- -1) else 0 : Int) = (mIx items.size lo : Nat) := by
    rw [show (- -1 : Int) = 1 by decide, Int.ediv_one]
    split <;> omega
  dsimp only
  rw [e1, Int.toNat_natCast, List.filterMap_map]
  congr 1
  funext k
  show items[(((mIx items.size lo : Nat) : Int) - 1 + -1 * (k : Int)).toNat]? = _
  rw [show -1 * (k : Int) = (k : Int) * -1 from Int.mul_comm _ _]
end
end HT
namespace L2
open PySem PySem.Spec PyProof.Rows
/-- a slice backwards: the slice object stands at sl -/
def SlR3 (X : Cx) (r : V → Option Int → Hp → VK → Prop) : Prop :=
  ∀ (pins : List (Addr × Obj)) (s : Shared) (σ : St) (H : Hp) (x : V) (v vl vk : Value) (lo : Option Int) (sl : Addr) (Q : VK), Inv X pins σ H s → RelV x v → s.heap.IsSliceOf sl vl .none vk → IsPart vl lo → IsPart vk (some (-1)) → r x lo H Q →
    ∃ T id, typeLookup (.type T) "__getitem__" = pure (some (.builtin id)) ∧ s.TypeIs v T ∧ wpAny (model X.prog X.w) X.A (getItem v (.ref sl)) (EP X pins σ Q) X.xe s
def tSl3 (r : V → Option Int → Hp → VK → Prop) (te : TE) (tl tk : TO) : TE := fun σ H Q => te σ H fun x H1 => tl σ H1 fun l H2 => tk σ H2 fun k H3 => k = some (-1) ∧ r x l H3 Q
section
variable {X : Cx} {e : Expr} {lo : Option Expr} {st : Expr} {te : TE} {tl tk : TO} {p2 pos : Pos}
/-- a[lo::st] -/
theorem pe_slice3 {r : V → Option Int → Hp → VK → Prop} (hr : SlR3 X r) (he : PE X e te) (hl : PO X lo tl) (hk : PO X (some st) tk) : PE X (.Subscript e (.Slice lo none (some st) p2) pos) (tSl3 r te tl tk) := by
  refine ⟨fun pins s σ H Q I h => ?_⟩
  refine Subscript_ (thn (he.run pins s σ H _ I h) fun v s1 ⟨x, H1, I1, r1, q1⟩ => ?_)
  refine wpAny_Slice (thn (hl.run pins s1 σ H1 _ I1 q1) fun vl s2 ⟨l, H2, I2, pl, q2⟩ => ?_)
  rw [evalPart_none]
  refine wpAny_pure (thn (hk.run pins s2 σ H2 _ I2 q2) fun vk s3 ⟨k, H3, I3, pk, ek, q3⟩ => ?_)
  subst ek
  have I4 : Inv X pins σ H3 { s3 with heap := s3.heap.push { cls := .type "slice", data := .fields #[vl, .none, vk] } } := I3.kept (t' := s3.toks) fun b ob q => Heap.get?_push_of_some _ q
  obtain ⟨T, id, hT, ht, hg⟩ := hr pins { s3 with heap := s3.heap.push { cls := .type "slice", data := .fields #[vl, .none, vk] } } σ H3 x v vl vk l s3.heap.objs.size Q I4 r1 (Heap.IsSliceOf.new ..) pl pk q3
  show wpAny (model X.prog X.w) X.A (subscriptTail e (.Slice lo none (some st) p2) v (.ref s3.heap.objs.size)) (EP X pins σ Q) X.xe { s3 with heap := s3.heap.push { cls := .type "slice", data := .fields #[vl, .none, vk] } }
  exact tail_any (ops := [v, .ref s3.heap.objs.size]) ht hT hg (by with_unfolding_all rfl)
/-- the items of xs[lo::-1] -/
def revV (xs : List V) (lo : Option Int) : List V := (xs.take (HT.mIx xs.length lo)).reverse
theorem revV_length (xs : List V) (lo : Option Int) : (revV xs lo).length ≤ xs.length := by
  unfold revV
  rw [List.length_reverse, List.length_take]
  omega
def rSl3 (K : PySem.W.Frag) : V → Option Int → Hp → VK → Prop := fun x lo H Q => ∃ a xs, x = .ref a ∧ ((SqL K H a xs ∧ ∀ p, H p = none → Q (.ref p) (upd H p (.lst (revV xs lo)))) ∨ (SqT K H a xs ∧ ∀ p, H p = none → Q (.ref p) (upd H p (.tup (revV xs lo)))))
theorem sl3_seq : SlR3 X (rSl3 X.K) := by
  intro pins s σ H x v vl vk lo sl Q I rx hs pl pk h
  obtain ⟨a, xs, rfl, h⟩ := h
  cases rx
  rcases h with ⟨hx, q⟩ | ⟨hx, q⟩
  · obtain ⟨its, r, ht, hz⟩ := I.list hx
    have hlen := r.length
    refine ⟨"list", _, slot_list_getitem.lookup, ht.isList.typeIs, ?_⟩
    refine wpAny_getItem_list_slice ht.isList hs pl .none pk (by simp) ?_ (by rw [List.size_toArray] <;> omega)
    rw [HT.slicePick_neg]
    have hl2 : its.toArray.size = xs.length := by rw [List.size_toArray]; exact hlen.symm
    rw [hl2]
    refine ⟨.ref s.heap.objs.size, _, I.laid (t' := s.toks) (o := .lst (revV xs lo)) (fun b ob q => Heap.get?_push_of_some _ q) (Nat.le_refl _) ?_, rfl, q _ (I.hok.fresh (Nat.le_refl _))⟩
    exact ⟨Nat.le_trans (revV_length xs lo) hz, _, 0, (r.take (HT.mIx xs.length lo)).reverse, Heap.get?_push_size _ rfl⟩
  · obtain ⟨its, r, ht, hz⟩ := I.tuple hx
    have hlen := r.length
    refine ⟨"tuple", _, PyProof.Rows.slot_tuple_getitem.lookup, ht.typeIs, ?_⟩
    refine HT.getItem_tuple_neg ht hs pl pk ?_ (by rw [List.size_toArray] <;> omega)
    have hl2 : its.toArray.size = xs.length := by rw [List.size_toArray]; exact hlen.symm
    rw [hl2]
    refine ⟨.ref s.heap.objs.size, _, I.laid (t' := s.toks) (o := .tup (revV xs lo)) (fun b ob q => Heap.get?_push_of_some _ q) (Nat.le_refl _) ?_, rfl, q _ (I.hok.fresh (Nat.le_refl _))⟩
    exact ⟨Nat.le_trans (revV_length xs lo) hz, _, (r.take (HT.mIx xs.length lo)).reverse, IsTup.new _ _⟩
/-- xs[i] += e: the read -/
def rGetL (K : PySem.W.Frag) : V → V → Hp → VK → Prop := fun x y H Q => ∃ p xs i v, x = .ref p ∧ y = .int i ∧ 0 ≤ i ∧ SqL K H p xs ∧ xs[i.toNat]? = some v ∧ Q v H
theorem get_list : PGet X (rGetL X.K) := by
  intro pins s σ H x y v u Q I rx ry h
  obtain ⟨p, xs, i, z, rfl, rfl, h0, hq, he, q⟩ := h
  cases rx
  obtain ⟨t, rfl⟩ := ry
  obtain ⟨its, r, pl, hz⟩ := I.list hq
  obtain ⟨w, ew, rw'⟩ := r.get he
  have hl := r.length
  have hn := line63
  have hlt := (List.getElem?_eq_some_iff.mp he).1
  exact wpAny_getItem_list pl.isList h0 (by omega) (by simpa using ew) ⟨z, H, I, rw', q⟩
def rLcm : List V → Hp → VK → Prop := fun vs H Q => ∃ a b : Int, vs = [.int a, .int b] ∧ a.natAbs < 2 ^ 13000 ∧ b.natAbs < 2 ^ 13000 ∧ Q (.int ((Nat.lcm a.natAbs b.natAbs : Nat) : Int)) H
theorem cr_lcm : CallR X (.builtin "math.lcm") rLcm := by
  intro pins s σ H vs us Q I r h
  obtain ⟨a, b, rfl, ha, hb, q⟩ := h
  obtain ⟨t, u, rfl⟩ := Vals.int2 r
  have e1 : Nat.lcm 1 a.natAbs = a.natAbs := Nat.lcm_one_left _
  have p1 : (1 : Nat) < 2 ^ 13000 := Nat.one_lt_two_pow (by decide)
  have h1 : (max 1 a.natAbs).log2 ≤ 12999 := PySem.W.mg_log (Nat.max_lt.mpr ⟨p1, ha⟩)
  have h2 : (max a.natAbs b.natAbs).log2 ≤ 12999 := PySem.W.mg_log (Nat.max_lt.mpr ⟨ha, hb⟩)
  have hsz : ((((Nat.lcm 1 a.natAbs).lcm b.natAbs : Nat) : Int)).natAbs.log2 < bitsLine := by
    rw [e1, Int.natAbs_natCast]
    have : Nat.lcm a.natAbs b.natAbs < 2 ^ (25999 + 1) := by
      refine Nat.lt_of_le_of_lt (Nat.div_le_self _ _) ?_
      rw [show 25999 + 1 = 13000 + 13000 from rfl, Nat.pow_add]
      exact Nat.mul_lt_mul'' ha hb
    exact Nat.lt_of_le_of_lt (PySem.W.mg_log this) (by decide)
  have g := PySem.W.mg_run_lcm a t b u (by omega) (by omega) hsz
  rw [e1] at g
  exact call_function_meets PySem.W.MGF.kind_lcm PySem.W.MGF.plain_lcm PySem.W.MGF.entry_lcm (PySem.W.MGF.args_lcm _ _) g.meets ⟨.int _, H, I.tok _, ⟨_, rfl⟩, q⟩
end
end L2
namespace Rt
open PySem L2 Evl
section
variable {K : PySem.W.Frag} {B0 B : Hp} {ρ : Rho} {ta tb te tk : TE} {tar : TA} {tl th : TO} {d e f : PyData} {ds es : List PyData} {i j : Int} {lo : Option Int} {P : Out → Prop} {n : Nat}
def revD (xs : List PyData) (lo : Option Int) : List PyData := (xs.take (HT.mIx xs.length lo)).reverse
theorem rev_dp {G : Hp} {vs : List V} (h : DpAll K G vs ds) (lo : Option Int) : DpAll K G (revV vs lo) (revD ds lo) := by
  unfold revV revD
  rw [h.len]
  exact (h.tk _).rev
theorem ef_sl3 (ha : ED K te ρ (.list ds)) (h1 : OD K tl ρ lo) (h2 : OD K th ρ (some (-1))) : EF K (tSl3 (rSl3 K) te tl th) ρ (revD ds lo) := fun G H σ I Q q =>
  ha G H σ I _ fun v G1 H1 s1 hv => h1 G1 H1 σ (I.step s1) _ fun G2 H2 s2 => h2 G2 H2 σ (I.step (s1.trans s2)) _ fun G3 H3 s3 => by
    have sA := (s1.trans s2).trans s3
    cases hv with
    | lst hq ha2 =>
      exact ⟨rfl, _, _, rfl, .inl ⟨ex_l ((s2.trans s3).g.trans s3.gh) hq, fun p hp => q p _ G3 _ (sA.trans (Step.allocO s3.gh hp)) (fresh_back sA.h hp) (fresh_back s3.gh hp) upd_same (dpa_mono (s2.trans s3).g _ _ (rev_dp ha2 lo))⟩⟩
theorem ed_sl3T (ha : ED K te ρ (.tuple ds)) (h1 : OD K tl ρ lo) (h2 : OD K th ρ (some (-1))) : ED K (tSl3 (rSl3 K) te tl th) ρ (.tuple (revD ds lo)) := fun G H σ I Q q =>
  ha G H σ I _ fun v G1 H1 s1 hv => h1 G1 H1 σ (I.step s1) _ fun G2 H2 s2 => h2 G2 H2 σ (I.step (s1.trans s2)) _ fun G3 H3 s3 => by
    have sA := (s1.trans s2).trans s3
    have s23 := s2.trans s3
    cases hv with
    | tup hq ha2 =>
      exact ⟨rfl, _, _, rfl, .inr ⟨ex_t (s23.g.trans s3.gh) hq, fun p hp => q (.ref p) (upd G3 p (.tup _)) _ (sA.trans (Step.alloc s3.gh hp)) (.tup (st_of upd_same) (dpa_mono (s23.g.trans (Ex.new (fresh_back s3.gh hp))) _ _ (rev_dp ha2 lo)))⟩⟩
theorem revD_none (xs : List PyData) : revD xs none = xs.reverse := by
  unfold revD
  show (xs.take xs.length).reverse = _
  rw [List.take_length]
/-- a list or a tuple, kept in kind -/
def likeD : PyData → List PyData → PyData
  | .tuple _, es => .tuple es
  | _, es => .list es
theorem likeD_seq (s : SeqD d ds) (es : List PyData) : SeqD (likeD d es) es := by
  cases s with
  | l => exact .l _
  | t => exact .t _
theorem ed_sl3 (ha : ED K te ρ d) (s : SeqD d ds) (h1 : OD K tl ρ lo) (h2 : OD K th ρ (some (-1))) : ED K (tSl3 (rSl3 K) te tl th) ρ (likeD d (revD ds lo)) := by
  cases s with
  | l => exact (ef_sl3 ha h1 h2).ed
  | t => exact ed_sl3T ha h1 h2
/-- xs[k] += e, xs one's own -/
theorem sd_augI {g : Int → Int → Int} {kx : TE} {k a b : Int} {ii : Nat} (h : ρ[ii]? = some (some (.own ds))) (hk : ED K kx ρ (.int k)) (h0 : 0 ≤ k) (hm : ds[k.toNat]? = some (.int a)) (he : ED K te ρ (.int b)) (kk : P (.nx (ρ.set ii (some (.own (ds.set k.toNat (.int (g a b)))))))) :
    SD K B0 B (tAugS (tVar ii) kx te (rGetL K) (ipI g) rSetL) ρ P := fun G H σ D I bb q => by
  obtain ⟨p, vs, h1, h2, h3, h4⟩ := I.own ii ds h
  refine ⟨_, h1, hk G H σ I _ fun y G1 H1 s1 hy => ?_⟩
  cases dp_int hy
  have I1 := I.step s1
  obtain ⟨p1, vs1, a1, a2, a3, a4⟩ := I1.own ii ds h
  rw [h1] at a1; cases a1
  obtain ⟨w, hw, hd⟩ := a4.get hm
  refine ⟨p, vs1, k, w, rfl, rfl, h0, sq_of a2, hw, ?_⟩
  cases dp_int hd
  refine he G1 H1 σ I1 _ fun z G2 H2 s2 hz => ?_
  cases dp_int hz
  refine ⟨a, b, rfl, rfl, ?_⟩
  have I2 := I1.step s2
  have b2 := (bb.step s1).step s2
  obtain ⟨p2, vs2, c1, c2, c3, c4⟩ := I2.own ii ds h
  rw [h1] at c1; cases c1
  have hlt : k.toNat < vs2.length := by rw [c4.len]; exact (List.getElem?_eq_some_iff.mp hm).1
  refine ⟨p, vs2, k, k.toNat, rfl, rfl, c2, ?_, ?_⟩
  · unfold ixN
    rw [if_pos h0, if_pos (by omega)]
  · exact q _ kk G2 _ σ (s1.trans s2).g (I2.mut h h1 (c4.st k.toNat (.int _))) (b2.mut I2 h h1)
/-- range(a, b, -1) -/
def dwnD (lo : Int) (n : Nat) : List PyData := (List.range n).map fun k => .int (lo - (k : Nat))
theorem id_rngN {m n : Int} (h : AD K tar ρ [.int m, .int n, .int (-1)]) (h1 : -(2 ^ 62) ≤ m ∧ m < 2 ^ 62 ∧ -(2 ^ 62) ≤ n ∧ n < 2 ^ 62) : ID K (iRng3 tar) ρ (dwnD m (m - n).toNat) := fun G H σ I R q => h G H σ I _ fun vs G2 H2 s hv => by
  cases hv with
  | cons a b =>
    cases b with
    | cons b c =>
      cases c with
      | cons c c2 =>
        cases c2
        cases dp_int a; cases dp_int b; cases dp_int c
        refine ⟨m, n, -1, (m - n).toNat, rfl, RgC.neg h1.1 h1.2.1 h1.2.2.1 h1.2.2.2, q _ G2 H2 s ⟨fun i G' H' e1 e2 hi => ?_, fun i d G' H' e1 e2 hi => ?_⟩⟩
        · unfold dwnD at hi
          rw [List.length_map, List.length_range] at hi
          exact hi
        · have hlt : i < (m - n).toNat := by have := (List.getElem?_eq_some_iff.mp hi).1; unfold dwnD at this; rwa [List.length_map, List.length_range] at this
          refine ⟨hlt, fun x H3 hy => ?_⟩
          obtain ⟨rfl, rfl⟩ := hy
          unfold dwnD at hi
          rw [List.getElem?_map, List.getElem?_range hlt] at hi
          cases hi
          have e : m + (i : Nat) * (-1) = m - (i : Nat) := by omega
          rw [e]
          exact ⟨G', Step.refl e2, .int _⟩
theorem ed_lcm (ha : ED K ta ρ (.int i)) (hb : ED K tb ρ (.int j)) (h1 : i.natAbs < 2 ^ 13000) (h2 : j.natAbs < 2 ^ 13000) : ED K (tCB rLcm (tCons ta (tCons tb tNil))) ρ (.int ((Nat.lcm i.natAbs j.natAbs : Nat) : Int)) := fun G H σ I Q q =>
  ha G H σ I _ fun v G1 H1 s1 hv => hb G1 H1 σ (I.step s1) _ fun y G2 H2 s2 hy => by
    cases dp_int hv; cases dp_int hy
    exact ⟨i, j, rfl, h1, h2, q _ G2 H2 (s1.trans s2) (.int _)⟩
end
end Rt

namespace Rt
open PySem PySem.Spec PyProof.Rows L2 Evl
/-! the steps that need no thought; «walk_at "ev"» goes on till it is stuck -/
local macro_rules | `(tactic| walk_at "rt1") => `(tactic| first
  | ((with_reducible show _ = true → ED _ _ _ _); intro _) | ((with_reducible show _ = false → ED _ _ _ _); intro _) | ((with_reducible show _ = true → TD _ _ _ _); intro _) | ((with_reducible show _ = false → TD _ _ _ _); intro _)
  | with_reducible exact ed_int | with_reducible exact ed_bl | with_reducible exact ed_non | with_reducible exact ad_nil | with_reducible exact od_none | with_reducible exact td_yes
  | ((with_reducible apply ed_var); exact rfl)
  | (with_reducible apply ad_cons)
  | (with_reducible apply td_test) | (with_reducible apply td_truth) | (with_reducible apply td_not) | (with_reducible apply td_and) | (with_reducible apply td_or)
  | (with_reducible apply ed_add) | (with_reducible apply ed_sub) | (with_reducible apply ed_mul) | (with_reducible apply ed_mod) | (with_reducible apply ed_fdivP) | (with_reducible apply ed_pow) | (with_reducible apply ed_neg)
  | (with_reducible apply ed_lt) | (with_reducible apply ed_le) | (with_reducible apply ed_gt) | (with_reducible apply ed_ge)
  | (with_reducible apply ed_eqD) | (with_reducible apply ed_neD)
  | (with_reducible apply ed_ix) | (with_reducible apply ed_len) | (with_reducible apply ed_abs) | (with_reducible apply ed_gcd) | (with_reducible apply ed_isi)
  | (with_reducible apply ed_tup) | (with_reducible apply ed_tuple) | (with_reducible apply ed_andV) | (with_reducible apply ed_orV) | (with_reducible apply ed_notV)
  | (with_reducible apply od_some)
  | (with_reducible apply ef_lst) | (with_reducible apply ef_list) | (with_reducible apply ef_sl) | (with_reducible apply ef_cat)
  | (with_reducible apply EF.ed; with_reducible apply ef_lst) | (with_reducible apply EF.ed; with_reducible apply ef_list) | (with_reducible apply EF.ed; with_reducible apply ef_sl) | (with_reducible apply EF.ed; with_reducible apply ef_cat)
  | (with_reducible apply ed_call)
  | ((with_reducible show SeqD _ _); first | exact SeqD.l _ | exact SeqD.t _ | assumption)
  | ((with_reducible show Truth _ _); first | exact Truth.bool _ | exact Truth.int _ | exact Truth.l _ | exact Truth.t _)
  | ((with_reducible show SeqAt.shaped _ = true); exact rfl)
  | ((with_reducible show atI _ _ = some _); first | exact rfl | assumption)
  | ((with_reducible show kitB _ _ = some _); first | exact rfl | decide +kernel)
  | ((with_reducible show List.length _ = _); rfl)
  | ((with_reducible show List.length _ ≤ 100000); first | exact Nat.le_of_ble_eq_true rfl | (simp; done) | (simp; omega)))
local macro_rules | `(tactic| walk_at "ev") => `(tactic| repeat' walk_at "rt1")
theorem ext_getD {p q : List Int} (hl : p.length = q.length) (h : ∀ i, p.getD i 0 = q.getD i 0) : p = q := by
  apply List.ext_getElem hl
  intro i h1 h2
  have := h i
  rw [List.getD_eq_getElem?_getD, List.getD_eq_getElem?_getD, List.getElem?_eq_getElem h1, List.getElem?_eq_getElem h2] at this
  exact this
/-- each number times p, p times b, and so on -/
def pwL (b p : Int) : List Int → List Int
  | [] => []
  | x :: r => x * p :: pwL b (p * b) r
theorem pwL_get (b : Int) : ∀ (xs : List Int) (p : Int) (i : Nat), (pwL b p xs)[i]? = xs[i]?.map fun x => x * (p * b ^ i)
  | [], p, i => by simp [pwL]
  | x :: r, p, 0 => by simp [pwL]
  | x :: r, p, i + 1 => by
    show (pwL b (p * b) r)[i]? = r[i]?.map _
    rw [pwL_get b r (p * b) i]
    congr 1
    funext x
    rw [Int.pow_succ]
    grind
theorem pwL_len (b : Int) : ∀ (xs : List Int) (p : Int), (pwL b p xs).length = xs.length
  | [], p => rfl
  | x :: r, p => congrArg (· + 1) (pwL_len b r (p * b))
theorem hor_pw (t c b : Int) : ∀ (xs : List Int) (p : Int), (hor t c (pwL b p xs)).1 = p * (hor (b * t) c xs).1
  | [], p => by simp [pwL, hor]
  | x :: r, p => by
    show (hor t c (pwL b (p * b) r)).1 * t + x * p * (hor t c (pwL b (p * b) r)).2 = p * ((hor (b * t) c r).1 * (b * t) + x * (hor (b * t) c r).2)
    rw [hor_pw t c b r (p * b), hor_snd, hor_snd, pwL_len]
    grind
theorem pow_lt2 {k : Nat} {b : Int} (hb : Lt2 k b) : ∀ i, Lt2 (i * k + 1) (b ^ i)
  | 0 => by unfold Lt2; rw [Int.pow_zero]; exact Nat.one_lt_two_pow (by omega)
  | i + 1 => by
    rw [Int.pow_succ]
    exact ((pow_lt2 hb i).mul hb).mono (by rw [Nat.succ_mul]; omega)
theorem sz_pw {n k : Nat} {b : Int} {xs : List Int} (h : Sz n xs) (hb : Lt2 k b) : Sz (n + xs.length * k + 1) (pwL b 1 xs) := fun a ha => by
  obtain ⟨i, hi⟩ := List.mem_iff_getElem?.mp ha
  rw [pwL_get] at hi
  cases q : xs[i]? with
  | none => rw [q] at hi; cases hi
  | some x =>
    rw [q] at hi
    have hi : x * (1 * b ^ i) = a := Option.some.inj hi
    subst hi
    have hx := h x (List.mem_of_getElem? q)
    have hlt := (List.getElem?_eq_some_iff.mp q).1
    rw [Int.one_mul]
    refine (hx.mul (pow_lt2 hb i)).mono ?_
    have := Nat.mul_le_mul_right k (Nat.le_of_lt hlt)
    omega
/-- each number, and b times the next one as it has become -/
def synL (b : Int) : List Int → List Int
  | [] => []
  | x :: r => (x + b * (synL b r).headD 0) :: synL b r
theorem synL_len (b : Int) : ∀ xs : List Int, (synL b xs).length = xs.length
  | [] => rfl
  | x :: r => congrArg (· + 1) (synL_len b r)
theorem hor_syn (T c b : Int) : ∀ (x : Int) (r : List Int), (hor T c (x :: r)).1 = (T - b * c) * (hor T c (synL b r)).1 + (x + b * (synL b r).headD 0) * c ^ r.length
  | x, [] => by show 0 * T + x * 1 = (T - b * c) * 0 + (x + b * 0) * c ^ 0; rw [Int.pow_zero]; grind
  | x, y :: r => by
    have ih := hor_syn T c b y r
    show (hor T c (y :: r)).1 * T + x * (hor T c (y :: r)).2 = (T - b * c) * ((hor T c (synL b r)).1 * T + (y + b * (synL b r).headD 0) * (hor T c (synL b r)).2) + (x + b * (y + b * (synL b r).headD 0)) * c ^ (r.length + 1)
    rw [ih, hor_snd, hor_snd, synL_len]
    show _ + x * c ^ (r.length + 1) = _
    rw [Int.pow_succ]
    generalize (hor T c (synL b r)).1 = h1
    generalize (synL b r).headD 0 = h2
    generalize c ^ r.length = h3
    grind
theorem sz_syn {k : Nat} {b : Int} (hb : Lt2 k b) : ∀ {n : Nat} {xs : List Int}, Sz n xs → Sz (n + xs.length * (k + 1)) (synL b xs)
  | n, [], h => sz_nil
  | n, x :: r, h => by
    have ih := sz_syn hb (n := n) (xs := r) fun a ha => h a (List.mem_cons_of_mem _ ha)
    have e : (r.length + 1) * (k + 1) = r.length * (k + 1) + (k + 1) := Nat.succ_mul _ _
    have hd : Lt2 (n + r.length * (k + 1)) ((synL b r).headD 0) := by
      cases q : synL b r with
      | nil => exact Lt2.zero
      | cons z zs => exact ih z (by rw [q]; exact List.mem_cons_self)
    intro a ha
    show Lt2 (n + (r.length + 1) * (k + 1)) a
    rcases List.mem_cons.mp ha with rfl | ha
    · exact ((((h x List.mem_cons_self).mono (by omega : n ≤ n + r.length * (k + 1) + k)).add ((hb.mul hd).mono (by omega : k + (n + r.length * (k + 1)) ≤ n + r.length * (k + 1) + k)))).mono (by omega)
    · exact (ih a ha).mono (by omega)
/-- the row at a number and b -/
def movN (b : Int) : Nat → List Int → List Int
  | 0, xs => xs
  | n + 1, xs => match synL b xs with
    | [] => []
    | h :: t => h :: movN b n t
theorem movN_nil (b : Int) (n : Nat) : movN b n [] = [] := by cases n <;> rfl
theorem movN_len (b : Int) : ∀ (n : Nat) (xs : List Int), (movN b n xs).length = xs.length
  | 0, xs => rfl
  | n + 1, [] => by rw [movN_nil]
  | n + 1, x :: r => by
    show (movN b n (synL b r)).length + 1 = r.length + 1
    rw [movN_len b n, synL_len]
def movL (b : Int) (xs : List Int) : List Int := movN b xs.length xs
theorem hor_movN (t c b : Int) : ∀ (n : Nat) (xs : List Int), xs.length ≤ n → (hor t c (movN b n xs)).1 = (hor (t + b * c) c xs).1
  | 0, xs, h => by
    have : xs = [] := List.length_eq_zero_iff.mp (by omega)
    subst this; rfl
  | n + 1, [], h => by rw [movN_nil]; rfl
  | n + 1, x :: r, h => by
    show (hor t c (movN b n (synL b r))).1 * t + (x + b * (synL b r).headD 0) * (hor t c (movN b n (synL b r))).2 = _
    rw [hor_syn (t + b * c) c b x r, hor_movN t c b n (synL b r) (by rw [synL_len]; simp only [List.length_cons] at h; omega), hor_snd, movN_len, synL_len]
    grind
theorem hor_mov (t c b : Int) (xs : List Int) : (hor t c (movL b xs)).1 = (hor (t + b * c) c xs).1 := hor_movN t c b _ xs (Nat.le_refl _)
theorem movL_len (b : Int) (xs : List Int) : (movL b xs).length = xs.length := movN_len b _ xs
theorem sz_movN {k : Nat} {b : Int} (hb : Lt2 k b) : ∀ (m : Nat) {n l : Nat} {xs : List Int}, Sz n xs → xs.length ≤ l → Sz (n + m * (l * (k + 1))) (movN b m xs)
  | 0, n, l, xs, h, hl => h.mono (by omega)
  | m + 1, n, l, [], h, hl => by rw [movN_nil]; exact sz_nil
  | m + 1, n, l, x :: r, h, hl => by
    have s := sz_syn hb h
    have e1 : (x :: r).length * (k + 1) ≤ l * (k + 1) := Nat.mul_le_mul_right _ hl
    have s2 : Sz (n + l * (k + 1)) (synL b (x :: r)) := s.mono (by omega)
    have ih := sz_movN hb m (n := n + l * (k + 1)) (l := l) (xs := synL b r) (fun a ha => s2 a (List.mem_cons_of_mem _ ha)) (by rw [synL_len]; simp only [List.length_cons] at hl; omega)
    have e2 : (m + 1) * (l * (k + 1)) = m * (l * (k + 1)) + l * (k + 1) := Nat.succ_mul _ _
    intro a ha
    rcases List.mem_cons.mp ha with rfl | ha
    · exact (s2 _ List.mem_cons_self).mono (by omega)
    · exact (ih a ha).mono (by omega)
/-- the bottom, the low end, the width of a stretch -/
def lcmP (u v : Int × Int) : Int := ((Nat.lcm u.2.natAbs v.2.natAbs : Nat) : Int)
def lowP (u v : Int × Int) : Int := u.1 * (lcmP u v).fdiv u.2
def widP (u v : Int × Int) : Int := v.1 * (lcmP u v).fdiv v.2 - lowP u v
/-- the row as the program sees it -/
def seeP (u v : Int × Int) (xs : List Int) : List Int := (movL 1 (pwL (widP u v) 1 (movL (lowP u v) (pwL (lcmP u v) 1 xs.reverse).reverse)).reverse).reverse
theorem seeP_len (u v : Int × Int) (xs : List Int) : (seeP u v xs).length = xs.length := by
  unfold seeP
  rw [List.length_reverse, movL_len, List.length_reverse, pwL_len, movL_len, List.length_reverse, pwL_len, List.length_reverse]
theorem hor_seeP (u v : Int × Int) (xs : List Int) (t c : Int) : (hor t c (seeP u v xs)).1 = (hor (widP u v * t + lowP u v * (c + t)) (lcmP u v * (c + t)) xs).1 := by
  unfold seeP
  rw [hor_rev, hor_mov, hor_rev, hor_pw, hor_mov, hor_rev, hor_pw, hor_rev]
  rw [Int.one_mul, Int.one_mul, Int.one_mul]
theorem lcm_facts {u v : Int × Int} (hu : 0 < u.2) (hv : 0 < v.2) : ∃ g : Int, 0 < g ∧ u.2 * v.2 = g * lcmP u v ∧ u.1 * v.2 = g * lowP u v ∧ v.1 * u.2 = g * (lowP u v + widP u v) ∧ 0 < lcmP u v := by
  obtain ⟨a, b⟩ := u
  obtain ⟨c, d⟩ := v
  simp only at hu hv
  have hg : 0 < Nat.gcd b.natAbs d.natAbs := Nat.gcd_pos_of_pos_left _ (by omega)
  have hm : Nat.gcd b.natAbs d.natAbs * Nat.lcm b.natAbs d.natAbs = b.natAbs * d.natAbs := Nat.gcd_mul_lcm _ _
  obtain ⟨p, hp⟩ : b.natAbs ∣ Nat.lcm b.natAbs d.natAbs := Nat.dvd_lcm_left _ _
  obtain ⟨q, hq⟩ : d.natAbs ∣ Nat.lcm b.natAbs d.natAbs := Nat.dvd_lcm_right _ _
  have eb : (b.natAbs : Int) = b := by omega
  have ed : (d.natAbs : Int) = d := by omega
  unfold widP lowP lcmP
  simp only
  generalize Nat.gcd b.natAbs d.natAbs = g at *
  generalize Nat.lcm b.natAbs d.natAbs = L at *
  have f1 : ((L : Nat) : Int).fdiv b = p := by
    rw [hp, Int.natCast_mul, eb]
    exact Int.mul_fdiv_cancel_left (p : Int) (by omega)
  have f2 : ((L : Nat) : Int).fdiv d = q := by
    rw [hq, Int.natCast_mul, ed]
    exact Int.mul_fdiv_cancel_left (q : Int) (by omega)
  have hmI : (g : Int) * (L : Int) = b * d := by
    have := congrArg (fun n : Nat => (n : Int)) hm
    simp only [Int.natCast_mul, eb, ed] at this
    exact this
  have hpI : (L : Int) = b * p := by rw [hp, Int.natCast_mul, eb]
  have hqI : (L : Int) = d * q := by rw [hq, Int.natCast_mul, ed]
  rw [f1, f2]
  have k1 : (g : Int) * p = d := by
    have : b * ((g : Int) * p) = b * d := by rw [← hmI, hpI]; grind
    exact Int.eq_of_mul_eq_mul_left (by omega) this
  have k2 : (g : Int) * q = b := by
    have : d * ((g : Int) * q) = d * b := by rw [Int.mul_comm d b, ← hmI, hqI]; grind
    exact Int.eq_of_mul_eq_mul_left (by omega) this
  refine ⟨g, by omega, hmI.symm, by rw [← k1]; grind, by rw [← k2]; grind, ?_⟩
  have : 0 < (g : Int) * L := by rw [hmI]; exact Int.mul_pos hu hv
  exact Int.pos_of_mul_pos_right this (by omega)
theorem chg_seeP {u v : Int × Int} (hu : 0 < u.2) (hv : 0 < v.2) (xs : List Int) : chg 0 (seeP u v xs) = turnsL u v xs := by
  obtain ⟨g, hg, e1, e2, e3, _⟩ := lcm_facts hu hv
  have key : smul g (seenL u v xs) = smul (g ^ xs.length) (seeP u v xs) := by
    refine ext_getD ?_ fun i => ?_
    · show (List.map _ _).length = (List.map _ _).length
      rw [List.length_map, List.length_map, seen_len, seeP_len]
    · refine same_of i (N := 0) fun n _ => ?_
      rw [ev_smul, ev_smul, ← hor_ev, ← hor_ev, seen_hom, hor_seeP, e1, e2, e3]
      have := hor_scale g (widP u v * n + lowP u v * (1 + n)) (lcmP u v * (1 + n)) xs
      rw [← this]
      congr 2
      congr 1
      · grind
      · grind
  have h1 := chg_ss (SS.refl 0) (al_smul hg (seenL u v xs))
  have hg2 : 0 < g ^ xs.length := Int.pow_pos hg
  have h2 := chg_ss (SS.refl 0) (al_smul hg2 (seeP u v xs))
  unfold turnsL
  rw [← h1, key, h2]
theorem sgn_opp {a : Int} (ha : a ≠ 0) (l : Int) : sgn a = -sgn l ↔ a * l < 0 := by
  rw [neg_iff]
  unfold sgn
  split <;> split <;> (try split) <;> (try split) <;> omega
/-! ### the promises -/
def F_powered (ds : List PyData) (r : Res) : Prop := ∃ (d : PyData) (xs : List Int) (b : Int) (n k : Nat), ds = [d, .int b] ∧ SeqD d (rD xs) ∧ xs.length ≤ 1000 ∧ Sz n xs ∧ Lt2 k b ∧ n + (xs.length + 1) * k ≤ 100000000 ∧ r = .rf (rD (pwL b 1 xs))
def F_moved (ds : List PyData) (r : Res) : Prop := ∃ (d : PyData) (xs : List Int) (b : Int) (n k : Nat), ds = [d, .int b] ∧ SeqD d (rD xs) ∧ xs.length ≤ 1000 ∧ Sz n xs ∧ Lt2 k b ∧ n + (xs.length + 1) * (xs.length * (k + 1)) ≤ 100000000 ∧ r = .rf (rD (movL b xs))
def F_seen (ds : List PyData) (r : Res) : Prop := ∃ (d : PyData) (xs : List Int) (u v : Int × Int) (n m : Nat), ds = [d, pD u, pD v] ∧ SeqD d (rD xs) ∧ xs.length ≤ 40 ∧ Sz n xs ∧ n ≤ 1000000 ∧ Low m u ∧ Low m v ∧ m ≤ 8000 ∧ r = .rf (rD (seeP u v xs))
def F_turns (ds : List PyData) (r : Res) : Prop := ∃ (d : PyData) (xs : List Int) (u v : Int × Int) (n m : Nat), ds = [d, pD u, pD v] ∧ SeqD d (rD xs) ∧ xs.length ≤ 40 ∧ Sz n xs ∧ n ≤ 1000000 ∧ Low m u ∧ Low m v ∧ m ≤ 8000 ∧ r = .rt (.int (turnsL u v xs))
abbrev sp_powered (K : PySem.W.Frag) : Sp := spD K 2 F_powered
abbrev sp_moved (K : PySem.W.Frag) : Sp := spD K 2 F_moved
abbrev sp_seen (K : PySem.W.Frag) : Sp := spD K 3 F_seen
abbrev sp_turns (K : PySem.W.Frag) : Sp := spD K 3 F_turns
def t_powered (K : PySem.W.Frag) : TS := (tSeq (tAsg (tLst tNil) (gName 2))
  (tSeq (tAsg (tC (.int 1)) (gName 3))
  (tSeq (tFor (iSeq K (tVar 0)) (gName 4) (tSeq (tDrop (tBM K "list" rAppend (tVar 2) (tCons (tOp (rI CMulX fun i j => .int (i * j)) (tVar 4) (tVar 3)) tNil)))
  (tAsg (tOp (rI CMulX fun i j => .int (i * j)) (tVar 3) (tVar 1)) (gName 3))))
  (tRet (tVar 2)))))
abbrev N_powered : List Str := ["row", "by", "found", "power", "number"]
def t_moved (K : PySem.W.Frag) : TS := (tSeq (tAsg (tCB (rListS K) (tCons (tVar 0) tNil)) (gName 2))
  (tSeq (tFor (iRng1 (tCons (tOp (rI0 fun i j => .int (i - j)) (tLen K (tVar 0)) (tC (.int 1))) tNil)) (gName 3) (tFor (iRng3 (tCons (tOp (rI0 fun i j => .int (i - j)) (tLen K (tVar 0)) (tC (.int 2))) (tCons (tOp (rI0 fun i j => .int (i - j)) (tVar 3) (tC (.int 1))) (tCons (tUn (rU fun i => .int (-i)) (tC (.int 1))) tNil)))) (gName 4) (tAugS (tVar 2) (tVar 4) (tOp (rI CMulX fun i j => .int (i * j)) (tVar 1) (tOp (rIx K) (tVar 2) (tOp (rI0 fun i j => .int (i + j)) (tVar 4) (tC (.int 1))))) (rGetL K) (ipI fun i j => i + j) rSetL)))
  (tRet (tVar 2))))
abbrev N_moved : List Str := ["row", "by", "found", "first", "at"]
def t_seen (K : PySem.W.Frag) : TS := (tSeq (tAsg (tCB rLcm (tCons (tOp (rIx K) (tVar 1) (tC (.int 1))) (tCons (tOp (rIx K) (tVar 2) (tC (.int 1))) tNil))) (gName 3))
  (tSeq (tAsg (tOp (rI CMulX fun i j => .int (i * j)) (tOp (rIx K) (tVar 1) (tC (.int 0))) (tOp (rI CDivQ fun i j => .int (i.fdiv j)) (tVar 3) (tOp (rIx K) (tVar 1) (tC (.int 1))))) (gName 4))
  (tSeq (tAsg (tOp (rI0 fun i j => .int (i - j)) (tOp (rI CMulX fun i j => .int (i * j)) (tOp (rIx K) (tVar 2) (tC (.int 0))) (tOp (rI CDivQ fun i j => .int (i.fdiv j)) (tVar 3) (tOp (rIx K) (tVar 2) (tC (.int 1))))) (tVar 4)) (gName 5))
  (tSeq (tAsg (tSl3 (rSl3 K) (tCall (sp_powered K) [] E0 (tCons (tSl3 (rSl3 K) (tVar 0) tNoPart (tPart (tUn (rU fun i => .int (-i)) (tC (.int 1))))) (tCons (tVar 3) tNil))) tNoPart (tPart (tUn (rU fun i => .int (-i)) (tC (.int 1))))) (gName 6))
  (tSeq (tAsg (tCall (sp_powered K) [] E0 (tCons (tCall (sp_moved K) [] E0 (tCons (tVar 6) (tCons (tVar 4) tNil))) (tCons (tVar 5) tNil))) (gName 7))
  (tRet (tSl3 (rSl3 K) (tCall (sp_moved K) [] E0 (tCons (tSl3 (rSl3 K) (tVar 7) tNoPart (tPart (tUn (rU fun i => .int (-i)) (tC (.int 1))))) (tCons (tC (.int 1)) tNil))) tNoPart (tPart (tUn (rU fun i => .int (-i)) (tC (.int 1)))))))))))
abbrev N_seen : List Str := ["row", "low", "high", "bottom", "start", "width", "whole", "held"]
def t_turns (K : PySem.W.Frag) : TS := (tSeq (tAsg (tC (.int 0)) (gName 3))
  (tSeq (tAsg (tC (.int 0)) (gName 4))
  (tSeq (tFor (iSeq K (tCall (sp_seen K) [] E0 (tCons (tVar 0) (tCons (tVar 1) (tCons (tVar 2) tNil))))) (gName 5) (tIfS (tTest (tOp (rNeD K) (tVar 5) (tC (.int 0)))) (tSeq (tIfS (tTest (tOp (rEqD K) (tCall (sp_sign K) [] E0 (tCons (tVar 5) tNil)) (tUn (rU fun i => .int (-i)) (tVar 4)))) (tAug 3 (tC (.int 1)) (ipI fun i j => i + j)) tNext)
  (tAsg (tCall (sp_sign K) [] E0 (tCons (tVar 5) tNil)) (gName 4))) tNext))
  (tRet (tVar 3)))))
abbrev N_turns : List Str := ["row", "low", "high", "many", "ahead", "number"]
theorem take_one {α : Type} {l : List α} {i : Nat} {a : α} (h : l[i]? = some a) : l.take (i + 1) = l.take i ++ [a] := by
  rw [List.take_succ, h]; rfl
theorem rev_rD (xs : List Int) : revD (rD xs) none = rD xs.reverse := by rw [revD_none]; unfold rD; rw [List.map_reverse]
section
variable {K : PySem.W.Frag}
theorem pure_powered (ds : List PyData) (r : Res) (h : F_powered ds r) (B0 B : Hp) : SD K B0 B (t_powered K) (startR N_powered ds) (fin r) := by
  obtain ⟨d, xs, b, n, k, rfl, hs, hl, hx, hb, hz, rfl⟩ := h
  unfold t_powered
  have ez : (xs.length + 1) * k = xs.length * k + k := Nat.succ_mul _ _
  apply sd_seq; apply sd_setF; (case h => walk_at "ev" )
  apply sd_seq; apply sd_set; (case h => walk_at "ev" )
  refine sd_seq (sd_for (id_seq (ed_var rfl) hs) (fun i ρ => ∃ z, ρ = [some (.d d), some (.d (.int b)), some (.own (rD ((pwL b 1 xs).take i))), some (.d (.int (b ^ i))), z]) ⟨none, by rw [List.take_zero, Int.pow_zero]; rfl⟩ ?_ ?_)
  · rintro i x ρ' hi ⟨z, rfl⟩
    obtain ⟨a, ha, rfl⟩ := rD_get hi
    have hlt := (List.getElem?_eq_some_iff.mp ha).1
    refine ⟨_, gd_name, ?_⟩
    have hp := pow_lt2 hb i
    have e1 : i * k ≤ xs.length * k := Nat.mul_le_mul_right _ (Nat.le_of_lt hlt)
    have ha' := hx a (List.mem_of_getElem? ha)
    have et : rD ((pwL b 1 xs).take (i + 1)) = rD ((pwL b 1 xs).take i) ++ [.int (a * b ^ i)] := by
      rw [take_one (a := a * b ^ i) (by rw [pwL_get, ha]; show some (a * (1 * b ^ i)) = _; rw [Int.one_mul])]
      unfold rD; rw [List.map_append]; rfl
    show SD K B0 B _ [some (.d d), some (.d (.int b)), some (.own (rD ((pwL b 1 xs).take i))), some (.d (.int (b ^ i))), some (.d (.int a))] _
    refine sd_seq (sd_app (i := 2) (ds := rD ((pwL b 1 xs).take i)) (d := .int (a * b ^ i)) rfl (ed_mul (ed_var rfl) (ed_var rfl) (ha'.cm hp (by omega))) (by rw [rD_len, List.length_take]; omega) ?_)
    refine sd_set (ed_mul (ed_var rfl) (ed_var rfl) (hp.cm hb (by omega))) ⟨some (.d (.int a)), ?_⟩
    rw [et, Int.pow_succ]
    rfl
  · rintro ρ' ⟨z, rfl⟩
    show SD K B0 B _ _ _
    rw [rD_len, List.take_of_length_le (by rw [pwL_len]; exact Nat.le_refl _)]
    exact sd_retO (i := 2) rfl rfl
theorem getD_cut {xs : List Int} {i : Nat} (h : i < xs.length) : xs.drop i = xs.getD i 0 :: xs.drop (i + 1) := by
  rw [List.getD_eq_getElem?_getD, List.getElem?_eq_getElem h, List.drop_eq_getElem_cons h]; rfl
theorem movN_one (b : Int) (n : Nat) (x : Int) : movN b (n + 1) [x] = [x] := by
  show (x + b * 0) :: movN b n [] = [x]
  rw [movN_nil, Int.mul_zero, Int.add_zero]
theorem pure_moved (ds : List PyData) (r : Res) (h : F_moved ds r) (B0 B : Hp) : SD K B0 B (t_moved K) (startR N_moved ds) (fin r) := by
  obtain ⟨d, xs, b, n, k, rfl, hs, hl, hx, hb, hz, rfl⟩ := h
  unfold t_moved
  refine sd_seq (sd_setF (ef_list (ed_var rfl) hs) ?_)
  generalize hL : xs.length = L at *
  generalize hq : L * (k + 1) = q at *
  have ez : (L + 1) * q = L * q + q := Nat.succ_mul _ _
  show SD K B0 B _ [some (.d d), some (.d (.int b)), some (.own (rD xs)), none, none] _
  refine sd_seq (sd_for (id_rng1 (n := (L : Int) - 1) (ad_cons (ed_sub ((ed_lenR (ed_var rfl) hs).cast (by rw [hL])) ed_int) ad_nil) (by omega) (by omega)) (fun f ρ => ∃ (ys : List Int) (z1 z2 : Option SV), ρ = [some (.d d), some (.d (.int b)), some (.own (rD ys)), z1, z2] ∧ ys.length = L ∧ f ≤ L ∧ ys.take f ++ movN b (L - f) (ys.drop f) = movL b xs ∧ Sz (n + f * q) ys) ⟨xs, none, none, rfl, hL, Nat.zero_le _, ?_, hx.mono (by omega)⟩ ?_ ?_)
  · rw [List.take_zero, List.drop_zero, Nat.sub_zero]
    show movN b L xs = movN b xs.length xs
    rw [hL]
  · rintro f x ρ' hi ⟨ys, z1, z2, rfl, hyl, hf, hm, hsz⟩
    have hlt : f < ((L : Int) - 1).toNat := by have := (List.getElem?_eq_some_iff.mp hi).1; unfold intsD at this; rwa [List.length_map, List.length_range] at this
    have hxe : x = .int (f : Int) := by
      unfold intsD at hi
      rw [List.getElem?_map, List.getElem?_range hlt] at hi
      have := Option.some.inj hi
      rw [← this]; show PyData.int (0 + (f : Int)) = _; rw [Int.zero_add]
    subst hxe
    refine ⟨_, gd_name, ?_⟩
    show SD K B0 B _ [some (.d d), some (.d (.int b)), some (.own (rD ys)), some (.d (.int (f : Int))), z2] _
    have hfq : (f + 1) * q ≤ L * q := Nat.mul_le_mul_right _ (by omega)
    have hfs : (f + 1) * q = f * q + q := Nat.succ_mul _ _
    have hsy := sz_syn hb hsz
    refine sd_for (id_rngN (m := (L : Int) - 2) (n := (f : Int) - 1) (ad_cons (ed_sub ((ed_lenR (ed_var rfl) hs).cast (by rw [hL])) ed_int) (ad_cons (ed_sub (ed_var rfl) ed_int) (ad_cons (ed_neg ed_int) ad_nil))) (by omega)) (fun j ρ => ∃ (z2 : Option SV), ρ = [some (.d d), some (.d (.int b)), some (.own (rD (ys.take (L - 1 - j) ++ synL b (ys.drop (L - 1 - j))))), some (.d (.int (f : Int))), z2] ∧ j ≤ L - 1 - f) ⟨z2, ?_, Nat.zero_le _⟩ ?_ ?_
    · have e : ys.take (L - 1 - 0) ++ synL b (ys.drop (L - 1 - 0)) = ys := by
        rw [Nat.sub_zero, getD_cut (by omega), List.drop_of_length_le (by omega)]
        show ys.take (L - 1) ++ [_ + b * 0] = ys
        rw [Int.mul_zero, Int.add_zero]
        have := List.take_append_drop (L - 1) ys
        rw [getD_cut (i := L - 1) (by omega), List.drop_of_length_le (i := L - 1 + 1) (by omega)] at this
        exact this
      rw [e]
    · rintro j y ρ' hj ⟨z3, rfl, hj2⟩
      have hjl : j < ((L : Int) - 2 - ((f : Int) - 1)).toNat := by have := (List.getElem?_eq_some_iff.mp hj).1; unfold dwnD at this; rwa [List.length_map, List.length_range] at this
      have hye : y = .int ((L - 2 - j : Nat) : Int) := by
        unfold dwnD at hj
        rw [List.getElem?_map, List.getElem?_range hjl] at hj
        have := Option.some.inj hj
        rw [← this]
        show PyData.int ((L : Int) - 2 - (j : Int)) = _
        congr 1
        omega
      subst hye
      refine ⟨_, gd_name, ?_⟩
      generalize ha : L - 2 - j = a at *
      have e1 : L - 1 - j = a + 1 := by omega
      have e2 : L - 1 - (j + 1) = a := by omega
      rw [e1, e2]
      have tl : (ys.take (a + 1)).length = a + 1 := by rw [List.length_take]; omega
      have h1 : (ys.take (a + 1) ++ synL b (ys.drop (a + 1)))[a]? = some (ys.getD a 0) := by
        rw [List.getElem?_append_left (by omega), List.getElem?_take, if_pos (by omega), List.getD_eq_getElem?_getD, List.getElem?_eq_getElem (by omega)]; rfl
      have h2 : (ys.take (a + 1) ++ synL b (ys.drop (a + 1)))[a + 1]? = some ((synL b (ys.drop (a + 1))).headD 0) := by
        rw [List.getElem?_append_right (by omega), tl, Nat.sub_self]
        cases q2 : synL b (ys.drop (a + 1)) with
        | nil =>
          have := synL_len b (ys.drop (a + 1))
          rw [q2, List.length_drop] at this
          simp only [List.length_nil] at this
          omega
        | cons z zs => rfl
      have hd : (synL b (ys.drop (a + 1))).headD 0 = (synL b (ys.drop (a + 1))).headD 0 := rfl
      have e3 : (ys.take (a + 1) ++ synL b (ys.drop (a + 1))).set a (ys.getD a 0 + b * (synL b (ys.drop (a + 1))).headD 0) = ys.take a ++ synL b (ys.drop a) := by
        rw [getD_cut (xs := ys) (i := a) (by omega)]
        show _ = ys.take a ++ (ys.getD a 0 + b * (synL b (ys.drop (a + 1))).headD 0) :: synL b (ys.drop (a + 1))
        rw [take_one (a := ys.getD a 0) (by rw [List.getD_eq_getElem?_getD, List.getElem?_eq_getElem (by omega)]; rfl), List.append_assoc, List.set_append_right _ _ (by rw [List.length_take]; omega), List.length_take, Nat.min_eq_left (by omega), Nat.sub_self]
        rfl
      have hk1 : Lt2 (n + f * q + q) ((synL b (ys.drop (a + 1))).headD 0) := by
        have sd : Sz (n + f * q) (ys.drop (a + 1)) := fun w hw => hsz w (List.mem_of_mem_drop hw)
        have s2 := sz_syn hb sd
        have ll : (ys.drop (a + 1)).length * (k + 1) ≤ q := by rw [← hq]; exact Nat.mul_le_mul_right _ (by rw [List.length_drop]; omega)
        cases q2 : synL b (ys.drop (a + 1)) with
        | nil => exact Lt2.zero
        | cons z zs => exact (s2 z (by rw [q2]; exact List.mem_cons_self)).mono (by omega)
      have kq : k ≤ q := by
        have : 1 * (k + 1) ≤ L * (k + 1) := Nat.mul_le_mul_right _ (by omega)
        omega
      show SD K B0 B _ [some (.d d), some (.d (.int b)), some (.own (rD (ys.take (a + 1) ++ synL b (ys.drop (a + 1))))), some (.d (.int (f : Int))), some (.d (.int (a : Int)))] _
      generalize hZ : ys.take (a + 1) ++ synL b (ys.drop (a + 1)) = Z at *
      refine sd_augI (g := fun i j => i + j) (ii := 2) (ds := rD Z) (a := ys.getD a 0) (b := b * (synL b (ys.drop (a + 1))).headD 0) rfl (ed_var rfl) (by omega) ?_ (ed_mul (ed_var rfl) (ed_ixO (k := 2) (ds := rD Z) rfl (ed_add (ed_var rfl) ed_int) ?_) (hb.cm hk1 (by omega))) ⟨some (.d (.int (a : Int))), ?_, by omega⟩
      · rw [Int.toNat_natCast]; unfold rD; rw [List.getElem?_map, h1]; rfl
      · have : ((a : Int) + 1) = ((a + 1 : Nat) : Int) := rfl
        rw [this]
        have hlt2 := (List.getElem?_eq_some_iff.mp h2).1
        refine atI_mk (k := a + 1) ?_ (by unfold rD; rw [List.getElem?_map, h2]; rfl)
        unfold ixN
        rw [if_pos (by omega), rD_len, if_pos (by omega)]; rfl
      · rw [← e3]
        show [_, _, some (SV.own ((rD Z).set ((a : Int)).toNat _)), _, _] = _
        rw [Int.toNat_natCast]
        unfold rD
        rw [List.map_set]
    · rintro ρ' ⟨z3, rfl, _⟩
      have el : (dwnD ((L : Int) - 2) ((L : Int) - 2 - ((f : Int) - 1)).toNat).length = L - 1 - f := by
        unfold dwnD
        rw [List.length_map, List.length_range]; omega
      rw [el]
      have e4 : L - 1 - (L - 1 - f) = f := by omega
      rw [e4]
      refine ⟨ys.take f ++ synL b (ys.drop f), _, _, rfl, ?_, by omega, ?_, ?_⟩
      · rw [List.length_append, synL_len, List.length_take, List.length_drop]; omega
      · rw [← hm]
        have hc := getD_cut (xs := ys) (i := f) (by omega)
        have e5 : L - f = (L - (f + 1)) + 1 := by omega
        rw [hc, e5]
        show (ys.take f ++ ((ys.getD f 0 + b * (synL b (ys.drop (f + 1))).headD 0) :: synL b (ys.drop (f + 1)))).take (f + 1) ++ movN b (L - (f + 1)) ((ys.take f ++ ((ys.getD f 0 + b * (synL b (ys.drop (f + 1))).headD 0) :: synL b (ys.drop (f + 1)))).drop (f + 1)) = ys.take f ++ (ys.getD f 0 + b * (synL b (ys.drop (f + 1))).headD 0) :: movN b (L - (f + 1)) (synL b (ys.drop (f + 1)))
        have tf : (ys.take f).length = f := by rw [List.length_take]; omega
        rw [List.take_append, List.drop_append, tf, List.take_of_length_le (l := ys.take f) (by omega), List.drop_of_length_le (l := ys.take f) (by omega)]
        have : f + 1 - f = 1 := by omega
        rw [this]
        simp
      · intro w hw
        rcases List.mem_append.mp hw with h | h
        · exact (hsz w (List.mem_of_mem_take h)).mono (by omega)
        · have sd : Sz (n + f * q) (ys.drop f) := fun w hw => hsz w (List.mem_of_mem_drop hw)
          have ll : (ys.drop f).length * (k + 1) ≤ q := by rw [← hq]; exact Nat.mul_le_mul_right _ (by rw [List.length_drop]; omega)
          exact (sz_syn hb sd w h).mono (by omega)
  · rintro ρ' ⟨ys, z1, z2, rfl, hyl, hf, hm, hsz⟩
    show SD K B0 B _ _ _
    refine sd_retO (i := 2) rfl ?_
    have el : (intsD 0 ((L : Int) - 1).toNat).length = L - 1 := by unfold intsD; rw [List.length_map, List.length_range]; omega
    rw [el] at hm hf
    have : ys = movL b xs := by
      rw [← hm]
      by_cases h0 : L = 0
      · subst h0
        have : ys = [] := List.length_eq_zero_iff.mp hyl
        subst this; rfl
      · have e5 : L - (L - 1) = 0 + 1 := by omega
        rw [e5, getD_cut (xs := ys) (i := L - 1) (by omega), List.drop_of_length_le (i := L - 1 + 1) (by omega), movN_one]
        have := List.take_append_drop (L - 1) ys
        rw [getD_cut (i := L - 1) (by omega), List.drop_of_length_le (i := L - 1 + 1) (by omega)] at this
        exact this.symm
    subst this
    rfl
theorem pure_seen (ds : List PyData) (r : Res) (h : F_seen ds r) (B0 B : Hp) : SD K B0 B (t_seen K) (startR N_seen ds) (fin r) := by
  obtain ⟨d, xs, u, v, n, m, rfl, hs, hl, hx, hn, lu, lv, hm, rfl⟩ := h
  unfold t_seen
  have su := pD_seq u
  have sv := pD_seq v
  have pu := lu.pos
  have pv := lv.pos
  have l13 : ∀ {a : Int}, Lt2 m a → a.natAbs < 2 ^ 13000 := fun h => Nat.lt_of_lt_of_le h (Nat.pow_le_pow_right (by decide) (by omega))
  have hL : Lt2 (m + m) (lcmP u v) := by
    show (((Nat.lcm u.2.natAbs v.2.natAbs : Nat) : Int)).natAbs < 2 ^ (m + m)
    rw [Int.natAbs_natCast]
    refine Nat.lt_of_le_of_lt (Nat.div_le_self _ _) ?_
    rw [Nat.pow_add]
    exact Nat.mul_lt_mul'' lu.l2 lv.l2
  have hd1 : Lt2 (m + m) ((lcmP u v).fdiv u.2) := hL.of_le (natAbs_fdiv_le (Int.natAbs_dvd_natAbs.mp (by show u.2.natAbs ∣ (((Nat.lcm u.2.natAbs v.2.natAbs : Nat) : Int)).natAbs; rw [Int.natAbs_natCast]; exact Nat.dvd_lcm_left _ _)) (by omega))
  have hd2 : Lt2 (m + m) ((lcmP u v).fdiv v.2) := hL.of_le (natAbs_fdiv_le (Int.natAbs_dvd_natAbs.mp (by show v.2.natAbs ∣ (((Nat.lcm u.2.natAbs v.2.natAbs : Nat) : Int)).natAbs; rw [Int.natAbs_natCast]; exact Nat.dvd_lcm_right _ _)) (by omega))
  have hlo : Lt2 (m + (m + m)) (lowP u v) := lu.l1.mul hd1
  have hwi : Lt2 (m + (m + m) + 1) (widP u v) := (lv.l1.mul hd2).sub hlo
  refine sd_seq (sd_set (d := .int (lcmP u v)) (ed_lcm (ed_ix (ed_var rfl) su ed_int rfl) (ed_ix (ed_var rfl) sv ed_int rfl) (l13 lu.l2) (l13 lv.l2)) ?_)
  refine sd_seq (sd_set (d := .int (lowP u v)) (ed_mul (ed_ix (ed_var rfl) su ed_int rfl) (ed_fdivP (ed_var rfl) (ed_ix (ed_var rfl) su ed_int rfl) (lu.l2.cd (by omega) (by omega))) (lu.l1.cm hd1 (by omega))) ?_)
  refine sd_seq (sd_set (d := .int (widP u v)) (ed_sub (ed_mul (ed_ix (ed_var rfl) sv ed_int rfl) (ed_fdivP (ed_var rfl) (ed_ix (ed_var rfl) sv ed_int rfl) (lv.l2.cd (by omega) (by omega))) (lv.l1.cm hd2 (by omega))) (ed_var rfl)) ?_)
  unfold seeP
  show SD K B0 B _ [some (.d d), some (.d (pD u)), some (.d (pD v)), some (.d (.int (lcmP u v))), some (.d (.int (lowP u v))), some (.d (.int (widP u v))), none, none] _
  generalize lcmP u v = L at *
  generalize lowP u v = s at *
  generalize widP u v = w at *
  have t1 : xs.length * (m + m) ≤ 40 * (m + m) := Nat.mul_le_mul_right _ hl
  have hx' : Sz n xs.reverse := fun a ha => hx a (List.mem_reverse.mp ha)
  have z1 := sz_pw hx' hL
  rw [List.length_reverse] at z1
  have mone : OD K (tPart (tUn (rU fun i => .int (-i)) (tC (.int 1)))) [some (.d d), some (.d (pD u)), some (.d (pD v)), some (.d (.int L)), some (.d (.int s)), some (.d (.int w)), none, none] (some (-1)) := od_some (ed_neg ed_int)
  refine sd_seq (sd_setF (ds := rD (pwL L 1 xs.reverse).reverse) ((ef_sl3 (EF.ed (ef_call (ad_cons (ed_sl3 (ed_var rfl) hs od_none mone) (ad_cons (ed_var rfl) ad_nil)) ⟨_, xs.reverse, L, n, m + m, rfl, by rw [rev_rD]; exact likeD_seq hs _, by rw [List.length_reverse]; omega, hx', hL, by rw [List.length_reverse, Nat.succ_mul]; omega, rfl⟩ rfl)) od_none mone).cast (rev_rD _)) ?_)
  refine sd_frz (i := 6) rfl ?_
  have w1 : Sz (n + 80 * m + 1) (pwL L 1 xs.reverse).reverse := fun a ha => (z1 a (List.mem_reverse.mp ha)).mono (by omega)
  have wl : (pwL L 1 xs.reverse).reverse.length = xs.length := by rw [List.length_reverse, pwL_len, List.length_reverse]
  generalize (pwL L 1 xs.reverse).reverse = W at *
  have q1 : W.length * (m + (m + m) + 1) ≤ 40 * (m + (m + m) + 1) := Nat.mul_le_mul_right _ (by omega)
  have q2 : W.length * (W.length * (m + (m + m) + 1)) ≤ 40 * (40 * (m + (m + m) + 1)) := Nat.mul_le_mul (by omega) q1
  have z2 : Sz (n + 80 * m + 1 + 40 * (40 * (m + (m + m) + 1))) (movL s W) := fun a ha => (sz_movN hlo W.length w1 (Nat.le_refl _) a ha).mono (by omega)
  have q1' : (W.length + 1) * (W.length * (m + (m + m) + 1)) = W.length * (W.length * (m + (m + m) + 1)) + W.length * (m + (m + m) + 1) := Nat.succ_mul _ _
  have ml := movL_len s W
  have mlx : (movL s W).length = xs.length := by omega
  have q3 : (movL s W).length * (m + (m + m) + 1) ≤ 40 * (m + (m + m) + 1) := Nat.mul_le_mul_right _ (by omega)
  have q3' : ((movL s W).length + 1) * (m + (m + m) + 1) = (movL s W).length * (m + (m + m) + 1) + (m + (m + m) + 1) := Nat.succ_mul _ _
  have z3 : Sz (n + 80 * m + 2 + 40 * (40 * (m + (m + m) + 1)) + 40 * (m + (m + m) + 1)) (pwL w 1 (movL s W)) := fun a ha => (sz_pw z2 hwi a ha).mono (by omega)
  show SD K B0 B _ [some (.d d), some (.d (pD u)), some (.d (pD v)), some (.d (.int L)), some (.d (.int s)), some (.d (.int w)), some (.d (.list (rD W))), none] _
  refine sd_seq (sd_setF (ds := rD (pwL w 1 (movL s W))) (ef_call (ad_cons (EF.ed (ef_call (es := rD (movL s W)) (ad_cons (ed_var rfl) (ad_cons (ed_var rfl) ad_nil)) ⟨_, W, s, n + 80 * m + 1, m + (m + m), rfl, SeqD.l _, by omega, w1, hlo, by omega, rfl⟩ rfl)) (ad_cons (ed_var rfl) ad_nil)) ⟨_, movL s W, w, _, _, rfl, SeqD.l _, by omega, z2, hwi, by omega, rfl⟩ rfl) ?_)
  refine sd_frz (i := 7) rfl ?_
  have pl : (pwL w 1 (movL s W)).length = xs.length := by rw [pwL_len]; exact mlx
  generalize pwL w 1 (movL s W) = R at *
  have z4 : Sz (n + 80 * m + 2 + 40 * (40 * (m + (m + m) + 1)) + 40 * (m + (m + m) + 1)) R.reverse := fun a ha => z3 a (List.mem_reverse.mp ha)
  have one2 : Lt2 1 1 := by unfold Lt2; decide
  have q5 : R.reverse.length * (1 + 1) ≤ 40 * 2 := Nat.mul_le_mul_right _ (by rw [List.length_reverse]; omega)
  have q6 : (R.reverse.length + 1) * (R.reverse.length * (1 + 1)) ≤ 41 * (40 * 2) := Nat.mul_le_mul (by rw [List.length_reverse]; omega) q5
  show SD K B0 B _ [some (.d d), some (.d (pD u)), some (.d (pD v)), some (.d (.int L)), some (.d (.int s)), some (.d (.int w)), some (.d (.list (rD W))), some (.d (.list (rD R)))] _
  refine sd_retF (ds := rD (movL 1 R.reverse).reverse) ((ef_sl3 (EF.ed (ef_call (es := rD (movL 1 R.reverse)) (ad_cons ((EF.ed (ef_sl3 (ed_var rfl) od_none (od_some (ed_neg ed_int)))).cast (by rw [rev_rD])) (ad_cons ed_int ad_nil)) ⟨_, R.reverse, 1, _, 1, rfl, SeqD.l _, by rw [List.length_reverse]; omega, z4, one2, by omega, rfl⟩ rfl)) od_none (od_some (ed_neg ed_int))).cast (rev_rD _)) rfl
theorem pure_turns (ds : List PyData) (r : Res) (h : F_turns ds r) (B0 B : Hp) : SD K B0 B (t_turns K) (startR N_turns ds) (fin r) := by
  obtain ⟨d, xs, u, v, n, m, rfl, hs, hl, hx, hn, lu, lv, hm, rfl⟩ := h
  unfold t_turns
  have call := EF.ed (ef_call (K := K) (E := E0) (F := F_seen) (n := 3) (ρ := [some (.d d), some (.d (pD u)), some (.d (pD v)), some (.d (.int 0)), some (.d (.int 0)), none]) (ad_cons (ed_var (n := 0) rfl) (ad_cons (ed_var (n := 1) rfl) (ad_cons (ed_var (n := 2) rfl) ad_nil))) ⟨d, xs, u, v, n, m, rfl, hs, hl, hx, hn, lu, lv, hm, rfl⟩ rfl)
  have ec := chg_seeP lu.pos lv.pos xs
  rw [← ec]
  generalize seeP u v xs = S at *
  apply sd_seq; apply sd_set; (case h => walk_at "ev" )
  apply sd_seq; apply sd_set; (case h => walk_at "ev" )
  refine sd_seq (sd_for (id_seq call (SeqD.l _)) (fun i ρ => ∃ (c : Nat) (l : Int) (z : Option SV), ρ = [some (.d d), some (.d (pD u)), some (.d (pD v)), some (.d (.int (c : Int))), some (.d (.int (sgn l))), z] ∧ c + chg l (S.drop i) = chg 0 S) ⟨0, 0, none, rfl, by rw [List.drop_zero]; omega⟩ ?_ ?_)
  · rintro i e ρ' hi ⟨c, l, z, rfl, hc⟩
    obtain ⟨a, ha, rfl⟩ := rD_get hi
    refine ⟨_, gd_name, ?_⟩
    have hlt := (List.getElem?_eq_some_iff.mp ha).1
    have ed : S.drop i = a :: S.drop (i + 1) := by
      rw [List.drop_eq_getElem_cons hlt, (List.getElem?_eq_some_iff.mp ha).2]
    rw [ed] at hc
    have hc : c + ((if a * l < 0 then 1 else 0) + chg (if a = 0 then l else a) (S.drop (i + 1))) = chg 0 S := hc
    show SD K B0 B _ [some (.d d), some (.d (pD u)), some (.d (pD v)), some (.d (.int (c : Int))), some (.d (.int (sgn l))), some (.d (.int a))] _
    have sg : ∀ {c : Int}, ED K (tCall (sp_sign K) [] E0 (tCons (tVar 5) tNil)) [some (.d d), some (.d (pD u)), some (.d (pD v)), some (.d (.int c)), some (.d (.int (sgn l))), some (.d (.int a))] (.int (sgn a)) := fun {c} => ed_call (ad_cons (ed_var rfl) ad_nil) ⟨a, rfl, rfl⟩ rfl
    refine sd_if (td_test (ed_neI (ed_var rfl) ed_int)) (fun hb => ?_) (fun hb => ?_)
    · have hb : a ≠ 0 := by simpa using hb
      rw [if_neg hb] at hc
      refine sd_seq (SD.imp (P := fun o => o = .nx [some (.d d), some (.d (pD u)), some (.d (pD v)), some (.d (.int ((c + (if a * l < 0 then 1 else 0) : Nat) : Int))), some (.d (.int (sgn l))), some (.d (.int a))]) ?_ ?_)
      · refine sd_if (td_test (ed_eqI sg (ed_neg (ed_var rfl)))) (fun h2 => ?_) (fun h2 => ?_)
        · have h2 : a * l < 0 := (sgn_opp hb l).mp (of_decide_eq_true h2)
          refine sd_aug (i := 3) (f := fun i j => i + j) rfl ed_int ?_
          rw [if_pos h2]; rfl
        · have h2 : ¬ a * l < 0 := fun z => of_decide_eq_false h2 ((sgn_opp hb l).mpr z)
          refine sd_next ?_
          rw [if_neg h2]; rfl
      · rintro o rfl
        exact sd_set sg ⟨_, a, _, rfl, by omega⟩
    · have hb : a = 0 := by simpa using hb
      rw [if_pos hb] at hc
      have h3 : ¬ a * l < 0 := by rw [hb, Int.zero_mul]; decide
      rw [if_neg h3] at hc
      exact sd_next ⟨c, l, _, rfl, by omega⟩
  · rintro ρ' ⟨c, l, z, rfl, hc⟩
    show SD K B0 B _ _ _
    rw [rD_len, List.drop_length] at hc
    have hc : c = chg 0 S := by simpa [chg] using hc
    rw [← hc]
    exact sd_ret (ed_var rfl) rfl
end
end Rt

/-! a row that turns once in a stretch: its sign goes from one to the other there; halving keeps it so -/
namespace Rt
open PySem PySem.Spec
theorem mul_le_l {a b c : Int} (hc : 0 ≤ c) (h : a ≤ b) : c * a ≤ c * b := Int.mul_le_mul_of_nonneg_left h hc
theorem hor_pos_mono {t1 c1 t2 c2 : Int} (h1 : 0 < t1) (h2 : 0 < c1) (h3 : 0 < t2) (h4 : 0 < c2) (h : t1 * c2 ≤ t2 * c1) : ∀ {P : List Int}, (∀ a ∈ P, 0 ≤ a) → (hor t2 c2 P).1 * t1 ^ P.length * t2 ≤ (hor t1 c1 P).1 * t2 ^ P.length * t1
  | [], _ => by simp [hor]
  | a :: r, ha => by
    have ih := hor_pos_mono h1 h2 h3 h4 h (P := r) fun b hb => ha b (List.mem_cons_of_mem _ hb)
    have a0 := ha a List.mem_cons_self
    show ((hor t2 c2 r).1 * t2 + a * (hor t2 c2 r).2) * t1 ^ (r.length + 1) * t2 ≤ ((hor t1 c1 r).1 * t1 + a * (hor t1 c1 r).2) * t2 ^ (r.length + 1) * t1
    rw [hor_snd, hor_snd, Int.pow_succ, Int.pow_succ]
    have tt : 0 ≤ t1 * t2 := Int.le_of_lt (Int.mul_pos h1 h3)
    have pw : (t1 * c2) ^ r.length ≤ (t2 * c1) ^ r.length := by
      have x0 : 0 ≤ t1 * c2 := Int.le_of_lt (Int.mul_pos h1 h4)
      generalize t1 * c2 = x at *
      generalize t2 * c1 = y at *
      generalize r.length = n
      induction n with
      | zero => simp
      | succ n ih2 =>
        rw [Int.pow_succ, Int.pow_succ]
        have : 0 ≤ x ^ n := Int.pow_nonneg x0
        exact Int.mul_le_mul ih2 h x0 (Int.le_trans this ih2)
    have k1 := mul_le_l tt ih
    have k2 := mul_le_l (Int.mul_nonneg a0 tt) pw
    rw [Int.mul_pow, Int.mul_pow] at k2
    generalize (hor t2 c2 r).1 = x2 at *
    generalize (hor t1 c1 r).1 = x1 at *
    generalize t1 ^ r.length = p1 at *
    generalize t2 ^ r.length = p2 at *
    generalize c1 ^ r.length = q1 at *
    generalize c2 ^ r.length = q2 at *
    have e1 : (x2 * t2 + a * q2) * (p1 * t1) * t2 = t1 * t2 * (x2 * p1 * t2) + a * (t1 * t2) * (p1 * q2) := by grind
    have e2 : (x1 * t1 + a * q1) * (p2 * t2) * t1 = t1 * t2 * (x1 * p2 * t1) + a * (t1 * t2) * (p2 * q1) := by grind
    omega
theorem hor_neg_mono {t1 c1 t2 c2 : Int} (h1 : 0 < t1) (h2 : 0 < c1) (h3 : 0 < t2) (h4 : 0 < c2) (h : t1 * c2 ≤ t2 * c1) : ∀ {N : List Int}, (∀ a ∈ N, a ≤ 0) → (hor t2 c2 N).1 * c1 ^ N.length * c2 ≤ (hor t1 c1 N).1 * c2 ^ N.length * c1 ∧ (hor t2 c2 N).1 * c1 ^ N.length * c2 ≤ 0 ∧ ((∃ a ∈ N, a < 0) → (hor t2 c2 N).1 * c1 ^ N.length * c2 < 0)
  | [], _ => by
    refine ⟨by simp [hor], by simp [hor], fun ⟨a, h, _⟩ => nomatch h⟩
  | a :: r, ha => by
    have a0 := ha a List.mem_cons_self
    have neg : ∀ {t c : Int}, 0 < t → 0 < c → ∀ {N : List Int}, (∀ a ∈ N, a ≤ 0) → (hor t c N).1 ≤ 0 ∧ ((∃ a ∈ N, a < 0) → (hor t c N).1 < 0) := fun {t c} ht hc => by
      intro N
      induction N with
      | nil => intro _; exact ⟨Int.le_refl _, fun ⟨a, h, _⟩ => nomatch h⟩
      | cons b s ih =>
        intro hb
        obtain ⟨i1, i2⟩ := ih fun c hc => hb c (List.mem_cons_of_mem _ hc)
        have b0 := hb b List.mem_cons_self
        have cp : 0 < c ^ s.length := Int.pow_pos hc
        have k1 : (hor t c s).1 * t ≤ 0 := Int.mul_nonpos_of_nonpos_of_nonneg i1 (Int.le_of_lt ht)
        have k2 : b * c ^ s.length ≤ 0 := Int.mul_nonpos_of_nonpos_of_nonneg b0 (Int.le_of_lt cp)
        have e : (hor t c (b :: s)).1 = (hor t c s).1 * t + b * c ^ s.length := by
          show (hor t c s).1 * t + b * (hor t c s).2 = _
          rw [hor_snd]
        rw [e]
        refine ⟨by omega, fun ⟨z, hz, z0⟩ => ?_⟩
        rcases List.mem_cons.mp hz with rfl | hz
        · have := Int.mul_neg_of_neg_of_pos z0 cp; omega
        · have := Int.mul_neg_of_neg_of_pos (i2 ⟨z, hz, z0⟩) ht; omega
    obtain ⟨n1, n2⟩ := neg h3 h4 ha
    have w0 : 0 < c1 ^ (a :: r).length * c2 := Int.mul_pos (Int.pow_pos h2) h4
    obtain ⟨i1, i2, _⟩ := hor_neg_mono h1 h2 h3 h4 h (N := r) fun b hb => ha b (List.mem_cons_of_mem _ hb)
    refine ⟨?_, by rw [Int.mul_assoc]; exact Int.mul_nonpos_of_nonpos_of_nonneg n1 (Int.le_of_lt w0), fun hz => by rw [Int.mul_assoc]; exact Int.mul_neg_of_neg_of_pos (n2 hz) w0⟩
    show ((hor t2 c2 r).1 * t2 + a * (hor t2 c2 r).2) * c1 ^ (r.length + 1) * c2 ≤ ((hor t1 c1 r).1 * t1 + a * (hor t1 c1 r).2) * c2 ^ (r.length + 1) * c1
    rw [hor_snd, hor_snd, Int.pow_succ, Int.pow_succ]
    generalize (hor t2 c2 r).1 = x2 at *
    generalize (hor t1 c1 r).1 = x1 at *
    generalize c1 ^ r.length = q1 at *
    generalize c2 ^ r.length = q2 at *
    have tc : 0 ≤ t1 * c2 := Int.le_of_lt (Int.mul_pos h1 h4)
    have k1 := mul_le_l tc i1
    have k2 : t2 * c1 * (x2 * q1 * c2) ≤ t1 * c2 * (x2 * q1 * c2) := Int.mul_le_mul_of_nonpos_right h i2
    have e1 : (x2 * t2 + a * q2) * (q1 * c1) * c2 = t2 * c1 * (x2 * q1 * c2) + a * (q1 * c1 * (q2 * c2)) := by grind
    have e2 : (x1 * t1 + a * q1) * (q2 * c2) * c1 = t1 * c2 * (x1 * q2 * c1) + a * (q1 * c1 * (q2 * c2)) := by grind
    omega
theorem hor_app (t c : Int) (N : List Int) : ∀ P : List Int, (hor t c (P ++ N)).1 = c ^ N.length * (hor t c P).1 + t ^ P.length * (hor t c N).1
  | [] => by simp [hor]
  | a :: r => by
    show (hor t c (r ++ N)).1 * t + a * (hor t c (r ++ N)).2 = c ^ N.length * ((hor t c r).1 * t + a * (hor t c r).2) + t ^ (r.length + 1) * (hor t c N).1
    rw [hor_app t c N r, hor_snd, hor_snd, List.length_append, Int.pow_add, Int.pow_succ]
    generalize c ^ N.length = x
    generalize c ^ r.length = y
    grind
theorem split_mono {t1 c1 t2 c2 : Int} (h1 : 0 < t1) (h2 : 0 < c1) (h3 : 0 < t2) (h4 : 0 < c2) (h : t1 * c2 < t2 * c1) {P N : List Int} (hP : ∀ a ∈ P, 0 ≤ a) (hN : ∀ a ∈ N, a ≤ 0) (hn : ∃ a ∈ N, a < 0) (h0 : (hor t1 c1 (P ++ N)).1 ≤ 0) : (hor t2 c2 (P ++ N)).1 < 0 := by
  have A := hor_pos_mono h1 h2 h3 h4 (Int.le_of_lt h) hP
  obtain ⟨B1, B2, B3⟩ := hor_neg_mono h1 h2 h3 h4 (Int.le_of_lt h) hN
  have B4 := B3 hn
  rw [hor_app] at h0 ⊢
  have w1 : 0 < t2 ^ P.length * t1 * (c2 ^ N.length * c2 * c1) := Int.mul_pos (Int.mul_pos (Int.pow_pos h3) h1) (Int.mul_pos (Int.mul_pos (Int.pow_pos h4) h4) h2)
  have w2 : 0 < t1 ^ P.length * t2 * (c1 ^ N.length * c1 * c2) := Int.mul_pos (Int.mul_pos (Int.pow_pos h1) h3) (Int.mul_pos (Int.mul_pos (Int.pow_pos h2) h2) h4)
  have cc : 0 ≤ c1 ^ N.length * c1 * (c2 ^ N.length * c2) := Int.le_of_lt (Int.mul_pos (Int.mul_pos (Int.pow_pos h2) h2) (Int.mul_pos (Int.pow_pos h4) h4))
  have tt : 0 < t1 ^ P.length * t2 ^ P.length := Int.mul_pos (Int.pow_pos h1) (Int.pow_pos h3)
  have k1 := mul_le_l cc A
  have tc : 0 ≤ t1 ^ P.length * t2 ^ P.length * (t1 * c2) := Int.mul_nonneg (Int.le_of_lt tt) (Int.le_of_lt (Int.mul_pos h1 h4))
  have k2 := mul_le_l tc B1
  have k3 : t1 ^ P.length * t2 ^ P.length * (t2 * c1) * ((hor t2 c2 N).1 * c1 ^ N.length * c2) < t1 ^ P.length * t2 ^ P.length * (t1 * c2) * ((hor t2 c2 N).1 * c1 ^ N.length * c2) :=
    Int.mul_lt_mul_of_neg_right (Int.mul_lt_mul_of_pos_left h tt) B4
  have h0' : (c1 ^ N.length * (hor t1 c1 P).1 + t1 ^ P.length * (hor t1 c1 N).1) * (t2 ^ P.length * t1 * (c2 ^ N.length * c2 * c1)) ≤ 0 := Int.mul_nonpos_of_nonpos_of_nonneg h0 (Int.le_of_lt w1)
  have fin : (c2 ^ N.length * (hor t2 c2 P).1 + t2 ^ P.length * (hor t2 c2 N).1) * (t1 ^ P.length * t2 * (c1 ^ N.length * c1 * c2)) < 0 := by
    generalize (hor t1 c1 P).1 = a1 at *
    generalize (hor t2 c2 P).1 = a2 at *
    generalize (hor t1 c1 N).1 = b1 at *
    generalize (hor t2 c2 N).1 = b2 at *
    generalize t1 ^ P.length = p1 at *
    generalize t2 ^ P.length = p2 at *
    generalize c1 ^ N.length = q1 at *
    generalize c2 ^ N.length = q2 at *
    have e1 : (q1 * a1 + p1 * b1) * (p2 * t1 * (q2 * c2 * c1)) = q1 * c1 * (q2 * c2) * (a1 * p2 * t1) + p1 * p2 * (t1 * c2) * (b1 * q2 * c1) := by grind
    have e2 : (q2 * a2 + p2 * b2) * (p1 * t2 * (q1 * c1 * c2)) = q1 * c1 * (q2 * c2) * (a2 * p1 * t2) + p1 * p2 * (t2 * c1) * (b2 * q1 * c2) := by grind
    omega
  by_cases z : c2 ^ N.length * (hor t2 c2 P).1 + t2 ^ P.length * (hor t2 c2 N).1 < 0
  · exact z
  · have := Int.mul_nonneg (Int.not_lt.mp z) (Int.le_of_lt w2)
    omega
theorem all_neg : ∀ {S : List Int} {l : Int}, l < 0 → chg l S = 0 → ∀ a ∈ S, a ≤ 0
  | [], _, _, _, _, h => nomatch h
  | a :: r, l, hl, hc, b, hb => by
    have hc : (if a * l < 0 then 1 else 0) + chg (if a = 0 then l else a) r = 0 := hc
    have a0 : a ≤ 0 := by
      by_cases z : a * l < 0
      · rw [if_pos z] at hc; omega
      · rw [neg_iff] at z; omega
    rcases List.mem_cons.mp hb with rfl | hb
    · exact a0
    · refine all_neg (l := if a = 0 then l else a) (by split <;> omega) (by omega) b hb
theorem split_of : ∀ {S : List Int} {l : Int}, 0 < l → chg l S = 1 → ∃ P N, S = P ++ N ∧ (∀ a ∈ P, 0 ≤ a) ∧ (∀ a ∈ N, a ≤ 0) ∧ ∃ a ∈ N, a < 0
  | [], _, _, hc => nomatch hc
  | a :: r, l, hl, hc => by
    have hc : (if a * l < 0 then 1 else 0) + chg (if a = 0 then l else a) r = 1 := hc
    by_cases z : a < 0
    · have zl := Int.mul_neg_of_neg_of_pos z hl
      rw [if_pos zl, if_neg (by omega)] at hc
      refine ⟨[], a :: r, rfl, fun _ h => (nomatch h), fun b hb => ?_, a, List.mem_cons_self, z⟩
      rcases List.mem_cons.mp hb with rfl | hb
      · exact Int.le_of_lt z
      · exact all_neg z (by omega) b hb
    · have zl : ¬ a * l < 0 := by rw [neg_iff]; omega
      rw [if_neg zl] at hc
      obtain ⟨P, N, e, h1, h2, h3⟩ := split_of (S := r) (l := if a = 0 then l else a) (by split <;> omega) (by omega)
      refine ⟨a :: P, N, by rw [e]; rfl, fun b hb => ?_, h2, h3⟩
      rcases List.mem_cons.mp hb with rfl | hb
      · omega
      · exact h1 b hb
/-- the sign of a row that turns once and begins above nought: once it isn't above nought, it is below from there on -/
theorem turn_mono {t1 c1 t2 c2 : Int} (h1 : 0 < t1) (h2 : 0 < c1) (h3 : 0 < t2) (h4 : 0 < c2) (h : t1 * c2 < t2 * c1) {a : Int} {r : List Int} (ha : 0 < a) (hc : chg 0 (a :: r) = 1) (h0 : (hor t1 c1 (a :: r)).1 ≤ 0) : (hor t2 c2 (a :: r)).1 < 0 := by
  have hc : (if a * 0 < 0 then 1 else 0) + chg (if a = 0 then 0 else a) r = 1 := hc
  rw [if_neg (by simp), if_neg (by omega), Nat.zero_add] at hc
  obtain ⟨P, N, e, p, n, x⟩ := split_of ha hc
  have e2 : a :: r = (a :: P) ++ N := by rw [e]; rfl
  rw [e2] at h0 ⊢
  exact split_mono h1 h2 h3 h4 h (fun b hb => by
    rcases List.mem_cons.mp hb with rfl | hb
    · exact Int.le_of_lt ha
    · exact p b hb) n x h0
theorem hor_smul (k t c : Int) : ∀ r : List Int, (hor t c (smul k r)).1 = k * (hor t c r).1
  | [] => by simp [smul, hor]
  | a :: r => by
    show (hor t c (smul k r)).1 * t + k * a * (hor t c (smul k r)).2 = k * ((hor t c r).1 * t + a * (hor t c r).2)
    rw [hor_smul k t c r, hor_snd, hor_snd]
    have : (smul k r).length = r.length := List.length_map _
    rw [this]; grind
theorem chg_opp : ∀ (r : List Int) (l : Int), chg (-l) (smul (-1) r) = chg l r
  | [], l => rfl
  | a :: r, l => by
    show (if -1 * a * -l < 0 then 1 else 0) + chg (if -1 * a = 0 then -l else -1 * a) (smul (-1) r) = (if a * l < 0 then 1 else 0) + chg (if a = 0 then l else a) r
    have e : -1 * a * -l = a * l := by grind
    rw [e, ← chg_opp r]
    congr 2
    split <;> split <;> omega
/-- what stands for a point of a stretch in the row that is seen from it -/
theorem seen_at {u v X : Int × Int} (hu : 0 < u.2) (hv : 0 < v.2) (hX : 0 < X.2) (huv : u.1 * v.2 < v.1 * u.2) (xs : List Int) :
    SS (hor ((X.1 * u.2 - u.1 * X.2) * v.2) ((v.1 * X.2 - X.1 * v.2) * u.2) (seenL u v xs)).1 (hor X.1 X.2 xs).1 := by
  have k0 : 0 < u.2 * v.2 * (v.1 * u.2 - u.1 * v.2) := Int.mul_pos (Int.mul_pos hu hv) (by omega)
  rw [seen_hom]
  refine ss_of k0 (Int.pow_pos k0 (m := xs.length)) ?_
  rw [← hor_scale]
  congr 3 <;> grind
/-- the ends' signs, and the way between -/
theorem one_mono {u v X Y : Int × Int} (hu : 0 < u.2) (hv : 0 < v.2) (hX : 0 < X.2) (hY : 0 < Y.2) (h1 : u.1 * X.2 < X.1 * u.2) (h2 : X.1 * Y.2 < Y.1 * X.2) (h3 : Y.1 * v.2 < v.1 * Y.2) {xs : List Int} (t : turnsL u v xs = 1)
    (n : (hor u.1 u.2 xs).1 ≠ 0) (h0 : (hor u.1 u.2 xs).1 * (hor X.1 X.2 xs).1 ≤ 0) : (hor u.1 u.2 xs).1 * (hor Y.1 Y.2 xs).1 < 0 := by
  have lt_tr : ∀ {a b c : Int × Int}, 0 < a.2 → 0 < b.2 → 0 < c.2 → a.1 * b.2 < b.1 * a.2 → b.1 * c.2 < c.1 * b.2 → a.1 * c.2 < c.1 * a.2 := fun {a b c} pa pb pc x y => by
    have x1 := Int.mul_lt_mul_of_pos_right x pc
    have y1 := Int.mul_lt_mul_of_pos_right y pa
    have e : a.1 * c.2 * b.2 < c.1 * a.2 * b.2 := by
      have e1 : a.1 * b.2 * c.2 = a.1 * c.2 * b.2 := by grind
      have e2 : b.1 * a.2 * c.2 = b.1 * c.2 * a.2 := by grind
      have e3 : c.1 * b.2 * a.2 = c.1 * a.2 * b.2 := by grind
      omega
    exact Int.lt_of_mul_lt_mul_right e (Int.le_of_lt pb)
  have uY := lt_tr hu hX hY h1 h2
  have Xv := lt_tr hX hY hv h2 h3
  have uv := lt_tr hu hX hv h1 Xv
  have s0 := seen_first (u := u) hv xs
  have sX := seen_at hu hv hX uv xs
  have sY := seen_at hu hv hY uv xs
  have p1 : 0 < (X.1 * u.2 - u.1 * X.2) * v.2 := Int.mul_pos (by omega) hv
  have p2 : 0 < (v.1 * X.2 - X.1 * v.2) * u.2 := Int.mul_pos (by omega) hu
  have p3 : 0 < (Y.1 * u.2 - u.1 * Y.2) * v.2 := Int.mul_pos (by omega) hv
  have p4 : 0 < (v.1 * Y.2 - Y.1 * v.2) * u.2 := Int.mul_pos (by omega) hu
  have p5 : (X.1 * u.2 - u.1 * X.2) * v.2 * ((v.1 * Y.2 - Y.1 * v.2) * u.2) < (Y.1 * u.2 - u.1 * Y.2) * v.2 * ((v.1 * X.2 - X.1 * v.2) * u.2) := by
    have k : 0 < u.2 * v.2 * ((v.1 * u.2 - u.1 * v.2) * (Y.1 * X.2 - X.1 * Y.2)) := Int.mul_pos (Int.mul_pos hu hv) (Int.mul_pos (by omega) (by omega))
    have e : (Y.1 * u.2 - u.1 * Y.2) * v.2 * ((v.1 * X.2 - X.1 * v.2) * u.2) - (X.1 * u.2 - u.1 * X.2) * v.2 * ((v.1 * Y.2 - Y.1 * v.2) * u.2) = u.2 * v.2 * ((v.1 * u.2 - u.1 * v.2) * (Y.1 * X.2 - X.1 * Y.2)) := by grind
    omega
  have hl := seen_len u v xs
  unfold turnsL at t
  generalize seenL u v xs = S at *
  generalize (X.1 * u.2 - u.1 * X.2) * v.2 = t1 at *
  generalize (v.1 * X.2 - X.1 * v.2) * u.2 = c1 at *
  generalize (Y.1 * u.2 - u.1 * Y.2) * v.2 = t2 at *
  generalize (v.1 * Y.2 - Y.1 * v.2) * u.2 = c2 at *
  generalize (hor u.1 u.2 xs).1 = f0 at *
  generalize (hor X.1 X.2 xs).1 = fX at *
  generalize (hor Y.1 Y.2 xs).1 = fY at *
  cases S with
  | nil => exact absurd t (by decide)
  | cons a r =>
    have ea : ev (a :: r) 0 = a := by show a + 0 * ev r 0 = a; omega
    rw [ea] at s0
    have nle : ∀ {x y : Int}, x * y ≤ 0 → (0 < x → y ≤ 0) ∧ (x < 0 → 0 ≤ y) := fun {x y} h => by
      constructor
      · intro hx
        by_cases z : y ≤ 0
        · exact z
        · have := Int.mul_pos hx (Int.not_le.mp z); omega
      · intro hx
        by_cases z : 0 ≤ y
        · exact z
        · have := Int.mul_pos_of_neg_of_neg hx (Int.not_le.mp z); omega
    obtain ⟨n1, n2⟩ := nle h0
    unfold SS at *
    rcases Int.lt_trichotomy f0 0 with z | z | z
    · have a0 : 0 < -1 * a := by omega
      have e : chg 0 (smul (-1) (a :: r)) = 1 := by
        have := chg_opp (a :: r) 0
        rw [Int.neg_zero] at this
        rw [this]; exact t
      have := turn_mono p1 p2 p3 p4 p5 (a := -1 * a) (r := smul (-1) r) a0 e (by
        show (hor t1 c1 (smul (-1) (a :: r))).1 ≤ 0
        rw [hor_smul]
        have := n2 z
        omega)
      have : (hor t2 c2 (smul (-1) (a :: r))).1 < 0 := this
      rw [hor_smul] at this
      exact Int.mul_neg_of_neg_of_pos z (by omega)
    · exact absurd z n
    · have a0 : 0 < a := by omega
      have := turn_mono p1 p2 p3 p4 p5 (a := a) (r := r) a0 t (by have := n1 z; omega)
      exact Int.mul_neg_of_pos_of_neg z (by omega)
end Rt

namespace Rt
open PySem PySem.Spec PyProof.Rows L2 Evl
/-! the steps that need no thought; «walk_at "ev"» goes on till it is stuck -/
local macro_rules | `(tactic| walk_at "rt1") => `(tactic| first
  | ((with_reducible show _ = true → ED _ _ _ _); intro _) | ((with_reducible show _ = false → ED _ _ _ _); intro _) | ((with_reducible show _ = true → TD _ _ _ _); intro _) | ((with_reducible show _ = false → TD _ _ _ _); intro _)
  | with_reducible exact ed_int | with_reducible exact ed_bl | with_reducible exact ed_non | with_reducible exact ad_nil | with_reducible exact od_none | with_reducible exact td_yes
  | ((with_reducible apply ed_var); exact rfl)
  | (with_reducible apply ad_cons)
  | (with_reducible apply td_test) | (with_reducible apply td_truth) | (with_reducible apply td_not) | (with_reducible apply td_and) | (with_reducible apply td_or)
  | (with_reducible apply ed_add) | (with_reducible apply ed_sub) | (with_reducible apply ed_mul) | (with_reducible apply ed_mod) | (with_reducible apply ed_fdivP) | (with_reducible apply ed_pow) | (with_reducible apply ed_neg)
  | (with_reducible apply ed_lt) | (with_reducible apply ed_le) | (with_reducible apply ed_gt) | (with_reducible apply ed_ge)
  | (with_reducible apply ed_eqD) | (with_reducible apply ed_neD)
  | (with_reducible apply ed_ix) | (with_reducible apply ed_len) | (with_reducible apply ed_abs) | (with_reducible apply ed_gcd) | (with_reducible apply ed_isi)
  | (with_reducible apply ed_tup) | (with_reducible apply ed_tuple) | (with_reducible apply ed_andV) | (with_reducible apply ed_orV) | (with_reducible apply ed_notV)
  | (with_reducible apply od_some)
  | (with_reducible apply ef_lst) | (with_reducible apply ef_list) | (with_reducible apply ef_sl) | (with_reducible apply ef_cat)
  | (with_reducible apply EF.ed; with_reducible apply ef_lst) | (with_reducible apply EF.ed; with_reducible apply ef_list) | (with_reducible apply EF.ed; with_reducible apply ef_sl) | (with_reducible apply EF.ed; with_reducible apply ef_cat)
  | (with_reducible apply ed_call)
  | ((with_reducible show SeqD _ _); first | exact SeqD.l _ | exact SeqD.t _ | assumption)
  | ((with_reducible show Truth _ _); first | exact Truth.bool _ | exact Truth.int _ | exact Truth.l _ | exact Truth.t _)
  | ((with_reducible show SeqAt.shaped _ = true); exact rfl)
  | ((with_reducible show atI _ _ = some _); first | exact rfl | assumption)
  | ((with_reducible show kitB _ _ = some _); first | exact rfl | decide +kernel)
  | ((with_reducible show List.length _ = _); rfl)
  | ((with_reducible show List.length _ ≤ 100000); first | exact Nat.le_of_ble_eq_true rfl | (simp; done) | (simp; omega)))
local macro_rules | `(tactic| walk_at "ev") => `(tactic| repeat' walk_at "rt1")
section
variable {K : PySem.W.Frag} {ρ : Rho} {d e f : PyData} {i j k : Nat}
theorem gd_triple : GD K (gTup K 3 (gCons (gName i) (gCons (gName j) (gCons (gName k) gNil)))) (.tuple [d, e, f]) ρ (((ρ.set i (some (.d d))).set j (some (.d e))).set k (some (.d f))) := fun G H σ v I hv Q q => by
  cases hv with
  | tup h1 h2 =>
    cases h2 with
    | cons h2 h3 =>
      cases h3 with
      | cons h3 h4 =>
        cases h4 with
        | cons h4 h5 =>
          cases h5
          exact ⟨_, _, rfl, ex_t I.gh h1, rfl, _, _, rfl, _, _, rfl, _, _, rfl, rfl, q _ (((I.set h2 i).set h3 j).set h4 k) ((ownSub_set.trans ownSub_set).trans ownSub_set)⟩
end
/-! ### points, stretches, halving -/
def PL (p q : Int × Int) : Prop := p.1 * q.2 < q.1 * p.2
theorem PL.trans {a b c : Int × Int} (pa : 0 < a.2) (pb : 0 < b.2) (pc : 0 < c.2) (x : PL a b) (y : PL b c) : PL a c := by
  have x1 := Int.mul_lt_mul_of_pos_right x pc
  have y1 := Int.mul_lt_mul_of_pos_right y pa
  have e : a.1 * c.2 * b.2 < c.1 * a.2 * b.2 := by
    have e1 : a.1 * b.2 * c.2 = a.1 * c.2 * b.2 := by grind
    have e2 : b.1 * a.2 * c.2 = b.1 * c.2 * a.2 := by grind
    have e3 : c.1 * b.2 * a.2 = c.1 * a.2 * b.2 := by grind
    omega
  exact Int.lt_of_mul_lt_mul_right e (Int.le_of_lt pb)
def midV (u v : Int × Int) : Int × Int := partV (u.1 * v.2 + v.1 * u.2) (2 * u.2 * v.2)
theorem mid_bot {u v : Int × Int} (hu : 0 < u.2) (hv : 0 < v.2) : 0 < 2 * u.2 * v.2 := Int.mul_pos (Int.mul_pos (by decide) hu) hv
theorem mid_pos {u v : Int × Int} (hu : 0 < u.2) (hv : 0 < v.2) : 0 < (midV u v).2 := partV_pos (by have := mid_bot hu hv; omega)
theorem mid_gcd {u v : Int × Int} (hu : 0 < u.2) (hv : 0 < v.2) : Int.gcd (midV u v).1 (midV u v).2 = 1 := partV_gcd (by have := mid_bot hu hv; omega)
theorem mid_eq {u v : Int × Int} (hu : 0 < u.2) (hv : 0 < v.2) : (midV u v).1 * (2 * u.2 * v.2) = (u.1 * v.2 + v.1 * u.2) * (midV u v).2 := partV_cross (by have := mid_bot hu hv; omega)
theorem mid_l {u v : Int × Int} (hu : 0 < u.2) (hv : 0 < v.2) (h : PL u v) : PL u (midV u v) := by
  have e := mid_eq hu hv
  have p := mid_pos hu hv
  unfold PL at *
  generalize midV u v = w at *
  have k := Int.mul_lt_mul_of_pos_right (Int.mul_lt_mul_of_pos_right h hu) p
  refine Int.lt_of_mul_lt_mul_right (a := 2 * u.2 * v.2) ?_ (Int.le_of_lt (mid_bot hu hv))
  have e1 : w.1 * u.2 * (2 * u.2 * v.2) = (u.1 * v.2 + v.1 * u.2) * w.2 * u.2 := by rw [← e]; grind
  rw [e1]
  have e2 : u.1 * w.2 * (2 * u.2 * v.2) = u.1 * v.2 * u.2 * w.2 + u.1 * v.2 * w.2 * u.2 := by grind
  have e3 : (u.1 * v.2 + v.1 * u.2) * w.2 * u.2 = u.1 * v.2 * w.2 * u.2 + v.1 * u.2 * u.2 * w.2 := by grind
  omega
theorem mid_r {u v : Int × Int} (hu : 0 < u.2) (hv : 0 < v.2) (h : PL u v) : PL (midV u v) v := by
  have e := mid_eq hu hv
  have p := mid_pos hu hv
  unfold PL at *
  generalize midV u v = w at *
  have k := Int.mul_lt_mul_of_pos_right (Int.mul_lt_mul_of_pos_right h hv) p
  refine Int.lt_of_mul_lt_mul_right (a := 2 * u.2 * v.2) ?_ (Int.le_of_lt (mid_bot hu hv))
  have e1 : w.1 * v.2 * (2 * u.2 * v.2) = (u.1 * v.2 + v.1 * u.2) * w.2 * v.2 := by rw [← e]; grind
  rw [e1]
  have e2 : v.1 * w.2 * (2 * u.2 * v.2) = v.1 * u.2 * v.2 * w.2 + v.1 * u.2 * w.2 * v.2 := by grind
  have e3 : (u.1 * v.2 + v.1 * u.2) * w.2 * v.2 = u.1 * v.2 * v.2 * w.2 + v.1 * u.2 * w.2 * v.2 := by grind
  omega
def halfV (xs : List Int) (u v : Int × Int) : (Int × Int) × (Int × Int) :=
  if sgn (hor (midV u v).1 (midV u v).2 xs).1 = 0 then (midV u (midV u v), midV (midV u v) v)
  else if sgn (hor (midV u v).1 (midV u v).2 xs).1 = sgn (hor u.1 u.2 xs).1 then (midV u v, v) else (u, midV u v)
/-- a row that turns once in a stretch -/
structure Pg (xs : List Int) (u v : Int × Int) : Prop where
  ne : xs ≠ []
  pu : 0 < u.2
  pv : 0 < v.2
  lt : PL u v
  nu : (hor u.1 u.2 xs).1 ≠ 0
  nv : (hor v.1 v.2 xs).1 ≠ 0
  one : turnsL u v xs = 1
section
variable {xs : List Int} {u v w x : Int × Int}
theorem Pg.opp (p : Pg xs u v) : (hor u.1 u.2 xs).1 * (hor v.1 v.2 xs).1 < 0 := (turns_par p.pu p.pv p.ne p.nu p.nv).mpr (by rw [p.one])
theorem Pg.left (p : Pg xs u v) (hw : 0 < w.2) (h1 : PL u w) (h2 : PL w v) (n : (hor u.1 u.2 xs).1 * (hor w.1 w.2 xs).1 < 0) : Pg xs u w :=
  ⟨p.ne, p.pu, hw, h1, p.nu, fun z => by rw [z] at n; simp at n, one_left p.pu p.pv hw h1 h2 p.lt p.ne p.one n⟩
theorem Pg.right (p : Pg xs u v) (hw : 0 < w.2) (h1 : PL u w) (h2 : PL w v) (n : (hor w.1 w.2 xs).1 * (hor v.1 v.2 xs).1 < 0) : Pg xs w v :=
  ⟨p.ne, hw, p.pv, h2, fun z => by rw [z] at n; simp at n, p.nv, one_right p.pu p.pv hw h1 h2 p.lt p.ne p.one n⟩
theorem Pg.mono (p : Pg xs u v) (hw : 0 < w.2) (hx : 0 < x.2) (h1 : PL u w) (h2 : PL w x) (h3 : PL x v) (n : (hor u.1 u.2 xs).1 * (hor w.1 w.2 xs).1 ≤ 0) : (hor u.1 u.2 xs).1 * (hor x.1 x.2 xs).1 < 0 :=
  one_mono p.pu p.pv hw hx h1 h2 h3 p.one p.nu n
theorem sgn_zero {a : Int} : sgn a = 0 ↔ a = 0 := by unfold sgn; split <;> (try split) <;> omega
theorem sgn_eq {a b : Int} : sgn a = sgn b ↔ (0 < a ↔ 0 < b) ∧ (a < 0 ↔ b < 0) := by unfold sgn; split <;> split <;> (try split) <;> (try split) <;> omega
theorem opp_tr {a b c : Int} (h1 : a * b < 0) (h2 : 0 < a * c) : c * b < 0 := by
  rw [neg_iff] at h1 ⊢
  have k : (0 < a → 0 < c) ∧ (a < 0 → c < 0) := by
    constructor
    · intro h
      by_cases z : 0 < c
      · exact z
      · have := Int.mul_nonpos_of_nonneg_of_nonpos (Int.le_of_lt h) (Int.not_lt.mp z); omega
    · intro h
      by_cases z : c < 0
      · exact z
      · have := Int.mul_nonpos_of_nonpos_of_nonneg (Int.le_of_lt h) (Int.not_lt.mp z); omega
  omega
theorem Pg.half (p : Pg xs u v) : Pg xs (halfV xs u v).1 (halfV xs u v).2 := by
  have m1 := mid_l p.pu p.pv p.lt
  have m2 := mid_r p.pu p.pv p.lt
  have mp := mid_pos p.pu p.pv
  have o := p.opp
  unfold halfV
  generalize midV u v = w at *
  split
  · rename_i h
    have h0 := sgn_zero.mp h
    have a1 := mid_l p.pu mp m1
    have a2 := mid_r p.pu mp m1
    have ap := mid_pos p.pu mp
    have b1 := mid_l mp p.pv m2
    have b2 := mid_r mp p.pv m2
    have bp := mid_pos mp p.pv
    show Pg xs (midV u w) (midV w v)
    generalize midV u w = a at *
    generalize midV w v = b at *
    have sa : 0 < (hor u.1 u.2 xs).1 * (hor a.1 a.2 xs).1 := by
      by_cases z : 0 < (hor u.1 u.2 xs).1 * (hor a.1 a.2 xs).1
      · exact z
      · have := p.mono ap mp a1 a2 m2 (Int.not_lt.mp z)
        rw [h0] at this; simp at this
    have sb := p.mono mp bp m1 b1 b2 (by rw [h0]; simp)
    have q := p.left bp (m1.trans p.pu mp bp b1) b2 sb
    exact q.right ap a1 (a2.trans ap mp bp b1) (opp_tr sb sa)
  · rename_i h
    have h0 : (hor w.1 w.2 xs).1 ≠ 0 := fun z => h (sgn_zero.mpr z)
    have hu := p.nu
    split
    · rename_i h2
      rw [sgn_eq] at h2
      show Pg xs w v
      refine p.right mp m1 m2 ?_
      rw [neg_iff] at o ⊢
      omega
    · rename_i h2
      rw [sgn_eq] at h2
      show Pg xs u w
      refine p.left mp m1 m2 ?_
      rw [neg_iff]
      omega
/-- half as wide -/
theorem mid_wide (hu : 0 < u.2) (hv : 0 < v.2) : (midV u v).1 * (2 * u.2 * v.2) = (u.1 * v.2 + v.1 * u.2) * (midV u v).2 := mid_eq hu hv
theorem half_wide (p : Pg xs u v) : 2 * ((halfV xs u v).2.1 * (halfV xs u v).1.2 - (halfV xs u v).1.1 * (halfV xs u v).2.2) * (u.2 * v.2) = (v.1 * u.2 - u.1 * v.2) * ((halfV xs u v).1.2 * (halfV xs u v).2.2) := by
  have e := mid_eq p.pu p.pv
  have mp := mid_pos p.pu p.pv
  unfold halfV
  split
  · have e1 := mid_eq p.pu mp
    have e2 := mid_eq mp p.pv
    show 2 * ((midV (midV u v) v).1 * (midV u (midV u v)).2 - (midV u (midV u v)).1 * (midV (midV u v) v).2) * (u.2 * v.2) = (v.1 * u.2 - u.1 * v.2) * ((midV u (midV u v)).2 * (midV (midV u v) v).2)
    generalize midV u v = w at *
    generalize midV u w = a at *
    generalize midV w v = b at *
    refine Int.eq_of_mul_eq_mul_right (a := 2 * w.2) (by omega) ?_
    have k1 : 2 * (b.1 * a.2) * (u.2 * v.2) * (2 * w.2) = 2 * a.2 * u.2 * (b.1 * (2 * w.2 * v.2)) := by grind
    have k2 : 2 * (a.1 * b.2) * (u.2 * v.2) * (2 * w.2) = 2 * b.2 * v.2 * (a.1 * (2 * u.2 * w.2)) := by grind
    have k3 : 2 * a.2 * u.2 * ((w.1 * v.2 + v.1 * w.2) * b.2) - 2 * b.2 * v.2 * ((u.1 * w.2 + w.1 * u.2) * a.2) = 2 * (v.1 * u.2 - u.1 * v.2) * (a.2 * b.2) * w.2 := by grind
    have k4 : 2 * (b.1 * a.2 - a.1 * b.2) * (u.2 * v.2) * (2 * w.2) = 2 * (b.1 * a.2) * (u.2 * v.2) * (2 * w.2) - 2 * (a.1 * b.2) * (u.2 * v.2) * (2 * w.2) := by grind
    rw [k4, k1, k2, e1, e2, k3]
    grind
  · split
    · show 2 * (v.1 * (midV u v).2 - (midV u v).1 * v.2) * (u.2 * v.2) = (v.1 * u.2 - u.1 * v.2) * ((midV u v).2 * v.2)
      generalize midV u v = w at *
      have k : 2 * (v.1 * w.2 - w.1 * v.2) * (u.2 * v.2) = 2 * v.1 * w.2 * u.2 * v.2 - v.2 * (w.1 * (2 * u.2 * v.2)) := by grind
      rw [k, e]; grind
    · show 2 * ((midV u v).1 * u.2 - u.1 * (midV u v).2) * (u.2 * v.2) = (v.1 * u.2 - u.1 * v.2) * (u.2 * (midV u v).2)
      generalize midV u v = w at *
      have k : 2 * (w.1 * u.2 - u.1 * w.2) * (u.2 * v.2) = u.2 * (w.1 * (2 * u.2 * v.2)) - 2 * u.1 * w.2 * u.2 * v.2 := by grind
      rw [k, e]; grind
/-- in lowest terms, the bottom divides D, the number is at most M from nought -/
structure Dy (D M : Int) (u : Int × Int) : Prop where
  pos : 0 < u.2
  gcd : Int.gcd u.1 u.2 = 1
  dvd : u.2 ∣ D
  lo : -(M * u.2) ≤ u.1
  hi : u.1 ≤ M * u.2
theorem Dy.up {D M : Int} (h : Dy D M u) (k : Int) : Dy (k * D) M u := ⟨h.pos, h.gcd, Int.dvd_trans h.dvd (Int.dvd_mul_left k D), h.lo, h.hi⟩
theorem Dy.mid {D M : Int} (hD : 0 < D) (a : Dy D M u) (b : Dy D M v) : Dy (2 * D) M (midV u v) := by
  have mp := mid_pos a.pos b.pos
  have mg := mid_gcd a.pos b.pos
  have e := mid_eq a.pos b.pos
  have pb := mid_bot a.pos b.pos
  obtain ⟨p, hp⟩ := a.dvd
  obtain ⟨q, hq⟩ := b.dvd
  have b1 : -(M * (midV u v).2) ≤ (midV u v).1 ∧ (midV u v).1 ≤ M * (midV u v).2 := by
    have l1 := Int.mul_le_mul_of_nonneg_right a.lo (Int.le_of_lt b.pos)
    have l2 := Int.mul_le_mul_of_nonneg_right b.lo (Int.le_of_lt a.pos)
    have h1 := Int.mul_le_mul_of_nonneg_right a.hi (Int.le_of_lt b.pos)
    have h2 := Int.mul_le_mul_of_nonneg_right b.hi (Int.le_of_lt a.pos)
    generalize midV u v = w at *
    have x1 : -(2 * (M * u.2 * v.2)) ≤ u.1 * v.2 + v.1 * u.2 := by
      have y1 : -(M * u.2) * v.2 = -(M * u.2 * v.2) := by grind
      have y2 : -(M * v.2) * u.2 = -(M * u.2 * v.2) := by grind
      omega
    have x2 : u.1 * v.2 + v.1 * u.2 ≤ 2 * (M * u.2 * v.2) := by
      have y2 : M * v.2 * u.2 = M * u.2 * v.2 := by grind
      omega
    have z1 := Int.mul_le_mul_of_nonneg_right x1 (Int.le_of_lt mp)
    have z2 := Int.mul_le_mul_of_nonneg_right x2 (Int.le_of_lt mp)
    rw [← e] at z1 z2
    constructor
    · refine Int.le_of_mul_le_mul_right (a := 2 * u.2 * v.2) ?_ pb
      have : -(M * w.2) * (2 * u.2 * v.2) = -(2 * (M * u.2 * v.2)) * w.2 := by grind
      omega
    · refine Int.le_of_mul_le_mul_right (a := 2 * u.2 * v.2) ?_ pb
      have : M * w.2 * (2 * u.2 * v.2) = 2 * (M * u.2 * v.2) * w.2 := by grind
      omega
  refine ⟨mp, mg, ?_, b1.1, b1.2⟩
  generalize midV u v = w at *
  have k : 2 * D * w.1 = (u.1 * p + v.1 * q) * w.2 := by
    have : D * (v.2 * q) * (2 * D * w.1) = D * (v.2 * q) * ((u.1 * p + v.1 * q) * w.2) := by
      have y : 2 * D * w.1 * (D * (v.2 * q)) = D * (w.1 * (2 * u.2 * v.2)) * (p * q) := by
        have : D * D = D * (u.2 * p) := by rw [← hp]
        grind
      have y2 : D * ((u.1 * v.2 + v.1 * u.2) * w.2) * (p * q) = D * (v.2 * q) * (u.1 * p * w.2) + D * (u.2 * p) * (v.1 * q * w.2) := by grind
      rw [e, y2, ← hp, ← hq] at y
      rw [← hq, Int.mul_comm, ← hq] at *
      grind
    rw [← hq] at this
    exact Int.eq_of_mul_eq_mul_left (by have := Int.mul_pos hD hD; omega) this
  have c : Nat.Coprime w.2.natAbs w.1.natAbs := by rw [Nat.coprime_comm]; exact mg
  refine Int.natAbs_dvd_natAbs.mp (c.dvd_of_dvd_mul_right ?_)
  rw [← Int.natAbs_mul]
  exact Int.natAbs_dvd_natAbs.mpr ⟨_, by rw [k, Int.mul_comm]⟩
theorem Dy.low {D M : Int} {a b : Nat} (hD : 0 < D) (h : Dy D M u) (h1 : Lt2 a D) (h2 : Lt2 b M) (hM : 0 ≤ M) : Low (a + b) u := by
  have l2 : Lt2 a u.2 := by
    have := Int.le_of_dvd hD h.dvd
    have := h.pos
    exact h1.of_le (by omega)
  refine ⟨h.pos, h.gcd, ?_, l2.mono (by omega)⟩
  have m := h2.mul l2
  have n0 := Int.mul_nonneg hM (Int.le_of_lt h.pos)
  have := h.lo
  have := h.hi
  exact (m.of_le (by omega)).mono (by omega)
theorem half_dy {D M : Int} (hD : 0 < D) (a : Dy D M u) (b : Dy D M v) (xs : List Int) : Dy (4 * D) M (halfV xs u v).1 ∧ Dy (4 * D) M (halfV xs u v).2 := by
  have m := Dy.mid hD a b
  have e : 2 * (2 * D) = 4 * D := by omega
  unfold halfV
  split
  · have h1 := Dy.mid (by omega : 0 < 2 * D) (a.up 2) m
    have h2 := Dy.mid (by omega : 0 < 2 * D) m (b.up 2)
    rw [e] at h1 h2
    exact ⟨h1, h2⟩
  · have h3 := m.up 2
    rw [e] at h3
    split
    · exact ⟨h3, b.up 4⟩
    · exact ⟨a.up 4, h3⟩
/-- within the stretch -/
theorem half_in (p : Pg xs u v) : ¬ PL (halfV xs u v).1 u ∧ ¬ PL v (halfV xs u v).2 := by
  have m1 := mid_l p.pu p.pv p.lt
  have m2 := mid_r p.pu p.pv p.lt
  have mp := mid_pos p.pu p.pv
  have no : ∀ {a b : Int × Int}, PL a b → ¬ PL b a := fun h k => by unfold PL at *; omega
  have nr : ∀ {a : Int × Int}, ¬ PL a a := fun h => by unfold PL at *; omega
  unfold halfV
  split
  · have a1 := mid_l p.pu mp m1
    have b2 := mid_r mp p.pv m2
    exact ⟨no a1, no b2⟩
  · split
    · exact ⟨no m1, nr⟩
    · exact ⟨nr, no m2⟩
end
/-! ### the promises -/
def F_part (C : Addr) (ds : List PyData) (r : Res) : Prop := ∃ a b : Int, ds = [.int a, .int b] ∧ Lt2 8900 b ∧ ((b = 0 ∧ r = .xc C) ∨ (b ≠ 0 ∧ r = .rt (pD (partV a b))))
def F_below (ds : List PyData) (r : Res) : Prop := ∃ (x y : Int × Int) (m : Nat), ds = [pD x, pD y] ∧ (Lt2 m x.1 ∧ Lt2 m x.2 ∧ Lt2 m y.1 ∧ Lt2 m y.2) ∧ m ≤ 10000000 ∧ r = .rt (.bool (decide (x.1 * y.2 < y.1 * x.2)))
def F_part_sum (ds : List PyData) (r : Res) : Prop := ∃ (x y : Int × Int) (m k l : Nat), ds = [pD x, pD y] ∧ Lt2 m x.1 ∧ Lt2 k x.2 ∧ Lt2 m y.1 ∧ Lt2 l y.2 ∧ m ≤ 1000000 ∧ k + l ≤ 8900 ∧ 0 < x.2 ∧ 0 < y.2 ∧ r = .rt (pD (partV (x.1 * y.2 + y.1 * x.2) (x.2 * y.2)))
def F_turned (ds : List PyData) (r : Res) : Prop := ∃ x : Int × Int, ds = [pD x] ∧ r = .rt (pD (-x.1, x.2))
def F_middle (ds : List PyData) (r : Res) : Prop := ∃ (x y : Int × Int) (m k l : Nat), ds = [pD x, pD y] ∧ Lt2 m x.1 ∧ Lt2 k x.2 ∧ Lt2 m y.1 ∧ Lt2 l y.2 ∧ m ≤ 1000000 ∧ 2 + k + l ≤ 8900 ∧ 0 < x.2 ∧ 0 < y.2 ∧ r = .rt (pD (midV x y))
/-- a peg with its sizes: numbers below 2 ^ n, the ends' bottoms divide D < 2 ^ a, the ends at most M < 2 ^ b -/
structure PgS (n a b : Nat) (D M : Int) (xs : List Int) (u v : Int × Int) : Prop where
  pg : Pg xs u v
  len : xs.length ≤ 100
  sz : Sz n xs
  d0 : 0 < D
  m0 : 0 ≤ M
  ld : Lt2 a D
  lm : Lt2 b M
  du : Dy D M u
  dv : Dy D M v
theorem PgS.half {n a b : Nat} {D M : Int} {xs : List Int} {u v : Int × Int} (p : PgS n a b D M xs u v) : PgS n (a + 2) b (4 * D) M xs (halfV xs u v).1 (halfV xs u v).2 := by
  obtain ⟨d1, d2⟩ := half_dy p.d0 p.du p.dv xs
  refine ⟨p.pg.half, p.len, p.sz, by have := p.d0; omega, p.m0, ?_, p.lm, d1, d2⟩
  have l := p.ld
  unfold Lt2 at *
  rw [Int.natAbs_mul, Nat.pow_add]
  have : (4 : Int).natAbs = 2 ^ 2 := rfl
  rw [this, Nat.mul_comm]
  exact Nat.mul_lt_mul_of_pos_right l (by decide)
def F_halved (ds : List PyData) (r : Res) : Prop := ∃ (xs : List Int) (u v : Int × Int) (n a b : Nat) (D M : Int), ds = [pegD xs u v] ∧ PgS n a b D M xs u v ∧ n ≤ 1000000 ∧ a ≤ 4000 ∧ b ≤ 4000 ∧ r = .rt (pegD xs (halfV xs u v).1 (halfV xs u v).2)
/-- halving as long as the stretch is wider than w -/
inductive NarTo (xs : List Int) (w : Int × Int) : Int × Int → Int × Int → Int × Int → Int × Int → Prop
  | stop {u v : Int × Int} : ¬ w.1 * (v.2 * u.2) < (v.1 * u.2 + -u.1 * v.2) * w.2 → NarTo xs w u v u v
  | step {u v u' v' : Int × Int} : w.1 * (v.2 * u.2) < (v.1 * u.2 + -u.1 * v.2) * w.2 → NarTo xs w (halfV xs u v).1 (halfV xs u v).2 u' v' → NarTo xs w u v u' v'
/-- at most k halvings -/
def Thin (k : Nat) (w u v : Int × Int) : Prop := (v.1 * u.2 + -u.1 * v.2) * w.2 ≤ 2 ^ k * (w.1 * (v.2 * u.2))
def F_narrowed (C : Addr) (ds : List PyData) (r : Res) : Prop := ∃ (xs : List Int) (u v w : Int × Int) (n a b k : Nat) (D M : Int), ds = [pegD xs u v, pD w] ∧ PgS n a b D M xs u v ∧ n ≤ 1000000 ∧ Lt2 100000 w.1 ∧ Lt2 100000 w.2 ∧ 0 < w.2 ∧ ((w.1 ≤ 0 ∧ r = .xc C) ∨ (0 < w.1 ∧ Thin k w u v ∧ a + 2 * k ≤ 4000 ∧ b ≤ 4000 ∧ ∃ u' v', NarTo xs w u v u' v' ∧ r = .rt (pegD xs u' v')))
abbrev sp_part (K : PySem.W.Frag) (C : Addr) : Sp := spD K 2 (F_part C)
abbrev sp_below (K : PySem.W.Frag) : Sp := spD K 2 F_below
abbrev sp_part_sum (K : PySem.W.Frag) : Sp := spD K 2 F_part_sum
abbrev sp_turned (K : PySem.W.Frag) : Sp := spD K 1 F_turned
abbrev sp_middle (K : PySem.W.Frag) : Sp := spD K 2 F_middle
abbrev sp_halved (K : PySem.W.Frag) : Sp := spD K 1 F_halved
abbrev sp_narrowed (K : PySem.W.Frag) (C : Addr) : Sp := spD K 2 (F_narrowed C)
theorem half_thin {k : Nat} {xs : List Int} {w u v : Int × Int} (p : Pg xs u v) (h : Thin (k + 1) w u v) : Thin k w (halfV xs u v).1 (halfV xs u v).2 := by
  have e := half_wide p
  have q := p.half
  unfold Thin at *
  have pu := p.pu
  have pv := p.pv
  have qu := q.pu
  have qv := q.pv
  generalize (halfV xs u v).1 = u' at *
  generalize (halfV xs u v).2 = v' at *
  have uv : 0 < u.2 * v.2 := Int.mul_pos pu pv
  have uv' : 0 ≤ u'.2 * v'.2 := Int.le_of_lt (Int.mul_pos qu qv)
  refine Int.le_of_mul_le_mul_right (a := 2 * (u.2 * v.2)) ?_ (by omega)
  have m := Int.mul_le_mul_of_nonneg_right h uv'
  have e1 : (v'.1 * u'.2 + -u'.1 * v'.2) * w.2 * (2 * (u.2 * v.2)) = (2 * (v'.1 * u'.2 - u'.1 * v'.2) * (u.2 * v.2)) * w.2 := by grind
  have e2 : (v.1 * u.2 + -u.1 * v.2) * w.2 * (u'.2 * v'.2) = (v.1 * u.2 - u.1 * v.2) * (u'.2 * v'.2) * w.2 := by grind
  rw [e1, e, ← e2]
  refine Int.le_trans m (Int.le_of_eq ?_)
  rw [Int.pow_succ]
  generalize (2 : Int) ^ k = z
  grind
theorem thin_zero {w u v : Int × Int} (h : Thin 0 w u v) : ¬ w.1 * (v.2 * u.2) < (v.1 * u.2 + -u.1 * v.2) * w.2 := by
  unfold Thin at h
  rw [Int.pow_zero, Int.one_mul] at h
  omega
/-- what narrowing leads to -/
theorem nar_ex {xs : List Int} {w : Int × Int} : ∀ (k : Nat) {u v : Int × Int} {n a b : Nat} {D M : Int}, PgS n a b D M xs u v → Thin k w u v → ∃ u' v' D', NarTo xs w u v u' v' ∧ PgS n (a + 2 * k) b D' M xs u' v' ∧ ¬ PL u' u ∧ ¬ PL v v' ∧ ¬ w.1 * (v'.2 * u'.2) < (v'.1 * u'.2 + -u'.1 * v'.2) * w.2 := fun k => by
  have nr : ∀ {a : Int × Int}, ¬ PL a a := fun h => by unfold PL at *; omega
  have up : ∀ {n a a' b : Nat} {D M : Int} {u v : Int × Int}, PgS n a b D M xs u v → a ≤ a' → PgS n a' b D M xs u v := fun p h => ⟨p.pg, p.len, p.sz, p.d0, p.m0, p.ld.mono h, p.lm, p.du, p.dv⟩
  have nle : ∀ {a b c : Int × Int}, 0 < a.2 → 0 < b.2 → 0 < c.2 → ¬ PL a b → ¬ PL b c → ¬ PL a c := fun {a b c} pa pb pc h1 h2 h3 => by
    rcases Int.lt_or_eq_of_le (Int.not_lt.mp h1) with z | z
    · exact h2 (PL.trans pb pa pc z h3)
    · refine h2 ?_
      unfold PL at *
      have := Int.mul_lt_mul_of_pos_right h3 pb
      refine Int.lt_of_mul_lt_mul_right (a := a.2) ?_ (Int.le_of_lt pa)
      have e1 : b.1 * c.2 * a.2 = a.1 * c.2 * b.2 := by
        have : b.1 * a.2 * c.2 = a.1 * b.2 * c.2 := by rw [z]
        grind
      have e2 : c.1 * b.2 * a.2 = c.1 * a.2 * b.2 := by grind
      omega
  induction k with
  | zero => intro u v n a b D M p h; exact ⟨u, v, D, .stop (thin_zero h), up p (by omega), nr, nr, thin_zero h⟩
  | succ k ih =>
    intro u v n a b D M p h
    by_cases c : w.1 * (v.2 * u.2) < (v.1 * u.2 + -u.1 * v.2) * w.2
    · obtain ⟨u', v', D', h1, h2, h3, h4, h5⟩ := ih p.half (half_thin p.pg h)
      obtain ⟨i1, i2⟩ := half_in p.pg
      have q := p.pg.half
      exact ⟨u', v', D', .step c h1, up h2 (by omega), nle h2.pg.pu q.pu p.pg.pu h3 i1, nle p.pg.pv q.pv h2.pg.pv i2 h4, h5⟩
    · exact ⟨u, v, D, .stop c, up p (by omega), nr, nr, c⟩
def t_part (K : PySem.W.Frag) (C_NoPart : Addr) (E : XK) : TS := (tSeq (tIfS (tTest (tOp (rEqD K) (tVar 1) (tC (.int 0)))) (fun _ _ H => E (.ref C_NoPart) none H) tNext)
  (tSeq (tAsg (tCB rGcd (tCons (tVar 0) (tCons (tVar 1) tNil))) (gName 2))
  (tSeq (tIfS (tTest (tOp (rI0 fun i j => .bl (decide (i < j))) (tVar 1) (tC (.int 0)))) (tAsg (tUn (rU fun i => .int (-i)) (tVar 2)) (gName 2)) tNext)
  (tRet (tTup (tCons (tOp (rI CDivQ fun i j => .int (i.fdiv j)) (tVar 0) (tVar 2)) (tCons (tOp (rI CDivQ fun i j => .int (i.fdiv j)) (tVar 1) (tVar 2)) tNil)))))))
abbrev N_part : List Str := ["top", "bottom", "common"]
def t_below (K : PySem.W.Frag) : TS := (tRet (tOp (rI0 fun i j => .bl (decide (i < j))) (tOp (rI CMulX fun i j => .int (i * j)) (tOp (rIx K) (tVar 0) (tC (.int 0))) (tOp (rIx K) (tVar 1) (tC (.int 1)))) (tOp (rI CMulX fun i j => .int (i * j)) (tOp (rIx K) (tVar 1) (tC (.int 0))) (tOp (rIx K) (tVar 0) (tC (.int 1))))))
abbrev N_below : List Str := ["one", "other"]
def t_part_sum (K : PySem.W.Frag) (C_NoPart : Addr) : TS := (tRet (tCall (sp_part K C_NoPart) [] E0 (tCons (tOp (rI0 fun i j => .int (i + j)) (tOp (rI CMulX fun i j => .int (i * j)) (tOp (rIx K) (tVar 0) (tC (.int 0))) (tOp (rIx K) (tVar 1) (tC (.int 1)))) (tOp (rI CMulX fun i j => .int (i * j)) (tOp (rIx K) (tVar 1) (tC (.int 0))) (tOp (rIx K) (tVar 0) (tC (.int 1))))) (tCons (tOp (rI CMulX fun i j => .int (i * j)) (tOp (rIx K) (tVar 0) (tC (.int 1))) (tOp (rIx K) (tVar 1) (tC (.int 1)))) tNil))))
abbrev N_part_sum : List Str := ["one", "other"]
def t_turned (K : PySem.W.Frag) : TS := (tRet (tTup (tCons (tUn (rU fun i => .int (-i)) (tOp (rIx K) (tVar 0) (tC (.int 0)))) (tCons (tOp (rIx K) (tVar 0) (tC (.int 1))) tNil))))
abbrev N_turned : List Str := ["at"]
def t_middle (K : PySem.W.Frag) (C_NoPart : Addr) : TS := (tRet (tCall (sp_part K C_NoPart) [] E0 (tCons (tOp (rI0 fun i j => .int (i + j)) (tOp (rI CMulX fun i j => .int (i * j)) (tOp (rIx K) (tVar 0) (tC (.int 0))) (tOp (rIx K) (tVar 1) (tC (.int 1)))) (tOp (rI CMulX fun i j => .int (i * j)) (tOp (rIx K) (tVar 1) (tC (.int 0))) (tOp (rIx K) (tVar 0) (tC (.int 1))))) (tCons (tOp (rI CMulX fun i j => .int (i * j)) (tOp (rI CMulX fun i j => .int (i * j)) (tC (.int 2)) (tOp (rIx K) (tVar 0) (tC (.int 1)))) (tOp (rIx K) (tVar 1) (tC (.int 1)))) tNil))))
abbrev N_middle : List Str := ["low", "high"]
def t_halved (K : PySem.W.Frag) : TS := (tSeq (tAsg (tVar 0) (gTup K 3 (gCons (gName 1) (gCons (gName 2) (gCons (gName 3) gNil)))))
  (tSeq (tAsg (tCall (sp_middle K) [] E0 (tCons (tVar 2) (tCons (tVar 3) tNil))) (gName 4))
  (tSeq (tAsg (tCall (sp_sign_at K) [] E0 (tCons (tVar 1) (tCons (tVar 4) tNil))) (gName 5))
  (tSeq (tIfS (tTest (tOp (rEqD K) (tVar 5) (tC (.int 0)))) (tRet (tTup (tCons (tVar 1) (tCons (tCall (sp_middle K) [] E0 (tCons (tVar 2) (tCons (tVar 4) tNil))) (tCons (tCall (sp_middle K) [] E0 (tCons (tVar 4) (tCons (tVar 3) tNil))) tNil))))) tNext)
  (tSeq (tIfS (tTest (tOp (rEqD K) (tVar 5) (tCall (sp_sign_at K) [] E0 (tCons (tVar 1) (tCons (tVar 2) tNil))))) (tRet (tTup (tCons (tVar 1) (tCons (tVar 4) (tCons (tVar 3) tNil))))) tNext)
  (tRet (tTup (tCons (tVar 1) (tCons (tVar 2) (tCons (tVar 4) tNil))))))))))
abbrev N_halved : List Str := ["one", "row", "low", "high", "at", "found"]
def t_narrowed (K : PySem.W.Frag) (C_NoStretch : Addr) (E : XK) : TS := (tSeq (tIfS (tTest (tOp (rI0 fun i j => .bl (decide (i ≤ j))) (tOp (rIx K) (tVar 1) (tC (.int 0))) (tC (.int 0)))) (fun _ _ H => E (.ref C_NoStretch) none H) tNext)
  (tSeq (tWhile (tTruth K (tCall (sp_below K) [] E0 (tCons (tVar 1) (tCons (tCall (sp_part_sum K) [] E0 (tCons (tOp (rIx K) (tVar 0) (tC (.int 2))) (tCons (tCall (sp_turned K) [] E0 (tCons (tOp (rIx K) (tVar 0) (tC (.int 1))) tNil)) tNil))) tNil)))) (tAsg (tCall (sp_halved K) [] E0 (tCons (tVar 0) tNil)) (gName 0)))
  (tRet (tVar 0))))
abbrev N_narrowed : List Str := ["one", "width"]
section
variable {K : PySem.W.Frag} {C C2 : Addr}
theorem pure_part (ds : List PyData) (r : Res) (h : F_part C ds r) (B0 B : Hp) (E : XK) (hE : ∀ D, r = .xc D → ∀ G H, Step B0 B G H → E (.ref D) none H) : SD K B0 B (t_part K C E) (startR N_part ds) (fin r) := by
  obtain ⟨a, b, rfl, hz, h⟩ := h
  unfold t_part
  apply sd_seq; apply sd_if; (case h => walk_at "ev" ); all_goals intro hb
  · have hb : b = 0 := by simpa [eqv_int] using hb
    rcases h with ⟨_, rfl⟩ | ⟨z, _⟩
    · exact sd_raise (hE C rfl)
    · exact absurd hb z
  · have hb : b ≠ 0 := by simpa [eqv_int] using hb
    rcases h with ⟨z, _⟩ | ⟨_, rfl⟩
    · exact absurd z hb
    · have s0 := partS_ne (a := a) hb
      have sz : Lt2 8900 (partS a b) := hz.of_le (partS_le hb)
      refine sd_next ?_
      apply sd_seq; apply sd_set; (case h => walk_at "ev" )
      apply sd_seq; apply sd_if; (case h => walk_at "ev" ); all_goals intro hb
      · have hc : b < 0 := of_decide_eq_true hb
        have es : partS a b = -((Nat.gcd a.natAbs b.natAbs : Nat) : Int) := by unfold partS; rw [if_pos hc]; rfl
        apply sd_set; (case h => walk_at "ev" )
        rw [← es]
        apply sd_ret; (case h => walk_at "ev" <;> (first | (exact sz.cd s0 (by decide)) | walk_at "rt1"))
        rfl
      · have hc : ¬ b < 0 := of_decide_eq_false hb
        have es : partS a b = ((Nat.gcd a.natAbs b.natAbs : Nat) : Int) := by unfold partS; rw [if_neg hc]; rfl
        rw [← es]
        refine sd_next ?_
        apply sd_ret; (case h => walk_at "ev" <;> (first | (exact sz.cd s0 (by decide)) | walk_at "rt1"))
        rfl
theorem pure_below (ds : List PyData) (r : Res) (h : F_below ds r) (B0 B : Hp) : SD K B0 B (t_below K) (startR N_below ds) (fin r) := by
  obtain ⟨x, y, m, rfl, ⟨h1, h2, h3, h4⟩, hm, rfl⟩ := h
  unfold t_below pD
  apply sd_ret; (case h => walk_at "ev" <;> (first | (first | exact h1.cm h4 (by omega) | exact h3.cm h2 (by omega)) | walk_at "rt1"))
  rfl
theorem pure_part_sum (ds : List PyData) (r : Res) (h : F_part_sum ds r) (B0 B : Hp) : SD K B0 B (t_part_sum K C) (startR N_part_sum ds) (fin r) := by
  obtain ⟨x, y, m, k, l, rfl, h1, h2, h3, h4, hm, hkl, p1, p2, rfl⟩ := h
  unfold t_part_sum pD
  have p : 0 < x.2 * y.2 := Int.mul_pos p1 p2
  apply sd_ret; (case h => walk_at "ev" <;> (first | (first | exact h1.cm h4 (by omega) | exact h3.cm h2 (by omega) | exact h2.cm h4 (by omega) | exact ⟨_, _, rfl, (h2.mul h4).mono (by omega), .inr ⟨by omega, rfl⟩⟩) | walk_at "rt1"))
  rfl
theorem pure_turned (ds : List PyData) (r : Res) (h : F_turned ds r) (B0 B : Hp) : SD K B0 B (t_turned K) (startR N_turned ds) (fin r) := by
  obtain ⟨x, rfl, rfl⟩ := h
  unfold t_turned pD
  apply sd_ret; (case h => walk_at "ev" )
  rfl
theorem pure_middle (ds : List PyData) (r : Res) (h : F_middle ds r) (B0 B : Hp) : SD K B0 B (t_middle K C) (startR N_middle ds) (fin r) := by
  obtain ⟨x, y, m, k, l, rfl, h1, h2, h3, h4, hm, hkl, p1, p2, rfl⟩ := h
  unfold t_middle
  have sx := pD_seq x
  have sy := pD_seq y
  have t2 : Lt2 2 (2 : Int) := by unfold Lt2; decide
  have p := mid_bot p1 p2
  refine sd_ret (d := pD (midV x y)) (ed_call (ad_cons (ed_add (ed_mul (ed_ix (ed_var rfl) sx ed_int rfl) (ed_ix (ed_var rfl) sy ed_int rfl) (h1.cm h4 (by omega))) (ed_mul (ed_ix (ed_var rfl) sy ed_int rfl) (ed_ix (ed_var rfl) sx ed_int rfl) (h3.cm h2 (by omega)))) (ad_cons (ed_mul (ed_mul ed_int (ed_ix (ed_var rfl) sx ed_int rfl) (t2.cm h2 (by omega))) (ed_ix (ed_var rfl) sy ed_int rfl) ((t2.mul h2).cm h4 (by omega))) ad_nil)) ⟨_, _, rfl, ((t2.mul h2).mul h4).mono (by omega), .inr ⟨by omega, rfl⟩⟩ rfl) rfl
theorem pegD_seq (xs : List Int) (u v : Int × Int) : SeqD (pegD xs u v) [.tuple (rD xs), pD u, pD v] := SeqD.t _
theorem Dy.lb {D M : Int} {a b : Nat} {u : Int × Int} (hD : 0 < D) (h : Dy D M u) (h1 : Lt2 a D) : Lt2 a u.2 := by
  have := Int.le_of_dvd hD h.dvd
  have := h.pos
  exact h1.of_le (by omega)
theorem pure_halved (ds : List PyData) (r : Res) (h : F_halved ds r) (B0 B : Hp) : SD K B0 B (t_halved K) (startR N_halved ds) (fin r) := by
  obtain ⟨xs, u, v, n, a, b, D, M, rfl, p, hn, ha, hb, rfl⟩ := h
  unfold t_halved
  have lu := p.du.low p.d0 p.ld p.lm p.m0
  have lv := p.dv.low p.d0 p.ld p.lm p.m0
  have bu := Dy.lb (b := b) p.d0 p.du p.ld
  have bv := Dy.lb (b := b) p.d0 p.dv p.ld
  have D2 : 0 < 2 * D := by have := p.d0; omega
  have ld2 : Lt2 (a + 1) (2 * D) := by
    have l := p.ld
    unfold Lt2 at *
    rw [Int.natAbs_mul, Nat.pow_succ, Nat.mul_comm]
    exact Nat.mul_lt_mul_of_pos_right l (by decide)
  have dm := Dy.mid p.d0 p.du p.dv
  have lm := dm.low D2 ld2 p.lm p.m0
  have bm := Dy.lb (b := b) D2 dm ld2
  have hl := p.len
  have es : (xs.length + 2) * (a + 1 + b + 1) ≤ 102 * 8002 := Nat.mul_le_mul (by omega) (by omega)
  have sg : ∀ (i j : Nat) (w : Int × Int) (ρ : Rho), ρ[i]? = some (some (.d (.tuple (rD xs)))) → ρ[j]? = some (some (.d (pD w))) → Lt2 (a + 1 + b) w.1 → Lt2 (a + 1 + b) w.2 → ED K (tCall (sp_sign_at K) [] E0 (tCons (tVar i) (tCons (tVar j) tNil))) ρ (.int (sgn (hor w.1 w.2 xs).1)) :=
    fun i j w ρ h1 h2 l1 l2 => ed_call (ad_cons (ed_var h1) (ad_cons (ed_var h2) ad_nil)) ⟨_, xs, w.1, w.2, n, a + 1 + b, rfl, SeqD.t _, p.sz, l1, l2, by omega, by omega, rfl⟩ rfl
  refine sd_seq (sd_asg (ed_var rfl) (gd_triple (d := .tuple (rD xs)) (e := pD u) (f := pD v)) ?_)
  refine sd_seq (sd_set (d := pD (midV u v)) (ed_call (ad_cons (ed_var rfl) (ad_cons (ed_var rfl) ad_nil)) ⟨u, v, a + b, a, a, rfl, lu.l1, bu, lv.l1, bv, by omega, by omega, p.pg.pu, p.pg.pv, rfl⟩ rfl) ?_)
  refine sd_seq (sd_set (sg 1 4 (midV u v) _ rfl rfl lm.l1 lm.l2) ?_)
  unfold halfV
  have mp := dm.pos
  have pu := p.pg.pu
  have pv := p.pg.pv
  generalize midV u v = w at *
  show SD K B0 B _ [some (.d (pegD xs u v)), some (.d (.tuple (rD xs))), some (.d (pD u)), some (.d (pD v)), some (.d (pD w)), some (.d (.int (sgn (hor w.1 w.2 xs).1)))] _
  refine sd_seq (sd_if (td_test (ed_eqI (ed_var rfl) ed_int)) (fun hb => ?_) (fun hb => ?_))
  · rw [if_pos (of_decide_eq_true hb)]
    refine sd_ret (ed_tup (ad_cons (ed_var rfl) (ad_cons (ed_call (ad_cons (ed_var rfl) (ad_cons (ed_var rfl) ad_nil)) ⟨u, w, a + 1 + b, a, a + 1, rfl, lu.l1.mono (by omega), bu, lm.l1, bm, by omega, by omega, pu, mp, rfl⟩ rfl) (ad_cons (ed_call (ad_cons (ed_var rfl) (ad_cons (ed_var rfl) ad_nil)) ⟨w, v, a + 1 + b, a + 1, a, rfl, lm.l1, bm, lv.l1.mono (by omega), bv, by omega, by omega, mp, pv, rfl⟩ rfl) ad_nil))) (Nat.le_of_ble_eq_true rfl)) rfl
  · rw [if_neg (of_decide_eq_false hb)]
    refine sd_next ?_
    refine sd_seq (sd_if (td_test (ed_eqI (ed_var rfl) (sg 1 2 u _ rfl rfl (lu.l1.mono (by omega)) (lu.l2.mono (by omega))))) (fun hb => ?_) (fun hb => ?_))
    · rw [if_pos (of_decide_eq_true hb)]
      exact sd_ret (ed_tup (ad_cons (ed_var rfl) (ad_cons (ed_var rfl) (ad_cons (ed_var rfl) ad_nil))) (Nat.le_of_ble_eq_true rfl)) rfl
    · rw [if_neg (of_decide_eq_false hb)]
      refine sd_next ?_
      exact sd_ret (ed_tup (ad_cons (ed_var rfl) (ad_cons (ed_var rfl) (ad_cons (ed_var rfl) ad_nil))) (Nat.le_of_ble_eq_true rfl)) rfl
theorem below_part {w : Int × Int} {t b : Int} (hb : 0 < b) : (w.1 * (partV t b).2 < (partV t b).1 * w.2) ↔ w.1 * b < t * w.2 := by
  have e := partV_cross (a := t) (b := b) (by omega)
  have p := partV_pos (a := t) (b := b) (by omega)
  generalize partV t b = z at *
  constructor
  · intro h
    have k := Int.mul_lt_mul_of_pos_right h hb
    refine Int.lt_of_mul_lt_mul_right (a := z.2) ?_ (Int.le_of_lt p)
    have e1 : t * w.2 * z.2 = z.1 * w.2 * b := by
      have : t * z.2 * w.2 = z.1 * b * w.2 := by rw [e]
      grind
    have e2 : w.1 * b * z.2 = w.1 * z.2 * b := by grind
    omega
  · intro h
    have k := Int.mul_lt_mul_of_pos_right h p
    refine Int.lt_of_mul_lt_mul_right (a := b) ?_ (Int.le_of_lt hb)
    have e1 : t * w.2 * z.2 = z.1 * w.2 * b := by
      have : t * z.2 * w.2 = z.1 * b * w.2 := by rw [e]
      grind
    have e2 : w.1 * b * z.2 = w.1 * z.2 * b := by grind
    omega
theorem Lt2.neg {n : Nat} {a : Int} (h : Lt2 n a) : Lt2 n (-a) := by unfold Lt2 at *; rw [Int.natAbs_neg]; exact h
theorem pure_narrowed (ds : List PyData) (r : Res) (h : F_narrowed C ds r) (B0 B : Hp) (E : XK) (hE : ∀ D, r = .xc D → ∀ G H, Step B0 B G H → E (.ref D) none H) : SD K B0 B (t_narrowed K C E) (startR N_narrowed ds) (fin r) := by
  obtain ⟨xs, u, v, w, n, a, b, k, D, M, rfl, p, hn, lw1, lw2, w2, h⟩ := h
  unfold t_narrowed
  have sw := pD_seq w
  refine sd_seq (sd_if (td_test (ed_le (ed_ix (ed_var rfl) sw ed_int rfl) ed_int)) (fun hb => ?_) (fun hb => ?_))
  · have hb : w.1 ≤ 0 := of_decide_eq_true hb
    rcases h with ⟨_, rfl⟩ | ⟨z, _⟩
    · exact sd_raise (hE C rfl)
    · exact absurd z (by omega)
  · have hb : ¬ w.1 ≤ 0 := of_decide_eq_false hb
    rcases h with ⟨z, _⟩ | ⟨_, th, ha, hb4, u', v', nt, rfl⟩
    · exact absurd z hb
    refine sd_next ?_
    refine sd_seq (sd_while (fun m ρ => ∃ (u v : Int × Int) (a : Nat) (D : Int), ρ = [some (.d (pegD xs u v)), some (.d (pD w))] ∧ PgS n a b D M xs u v ∧ Thin m w u v ∧ a + 2 * m ≤ 4000 ∧ NarTo xs w u v u' v') k ⟨u, v, a, D, rfl, p, th, ha, nt⟩ ?_)
    clear nt ha th p
    rintro m ρ ⟨u, v, a, D, rfl, p, th, ha, nt⟩
    have lu := p.du.low p.d0 p.ld p.lm p.m0
    have lv := p.dv.low p.d0 p.ld p.lm p.m0
    have bu := Dy.lb (b := b) p.d0 p.du p.ld
    have bv := Dy.lb (b := b) p.d0 p.dv p.ld
    have sp := pegD_seq xs u v
    have pp : 0 < v.2 * u.2 := Int.mul_pos p.pg.pv p.pg.pu
    have lp := low_part (m := 20000) pp ((((lv.l1.mul bu).mono (by omega : a + b + a ≤ 19999)).add ((lu.l1.neg.mul bv).mono (by omega : a + b + a ≤ 19999))).mono (by omega)) ((bv.mul bu).mono (by omega))
    refine ⟨decide (w.1 * (v.2 * u.2) < (v.1 * u.2 + -u.1 * v.2) * w.2), td_truth (ed_call (ad_cons (ed_var rfl) (ad_cons (ed_call (ad_cons (ed_ix (ed_var rfl) sp ed_int rfl) (ad_cons (ed_call (F := F_turned) (ad_cons (ed_ix (ed_var rfl) sp ed_int rfl) ad_nil) ⟨u, rfl, rfl⟩ rfl) ad_nil)) (F := F_part_sum) ⟨v, (-u.1, u.2), a + b, a, a, rfl, lv.l1, bv, lu.l1.neg, bu, by omega, by omega, p.pg.pv, p.pg.pu, rfl⟩ rfl) ad_nil)) (F := F_below) ⟨w, _, 100000, rfl, ⟨lw1, lw2, lp.l1.mono (by decide), lp.l2.mono (by decide)⟩, by decide, ?_⟩ rfl) (Truth.bool _), fun hb => ?_, fun hb => ?_⟩
    · congr 2
      rw [decide_eq_decide]
      exact (below_part pp).symm
    · have hb := of_decide_eq_true hb
      cases m with
      | zero => exact absurd hb (thin_zero th)
      | succ m =>
        cases nt with
        | stop z => exact absurd hb z
        | step z nt =>
          refine sd_set (ed_call (ad_cons (ed_var rfl) ad_nil) ⟨xs, u, v, n, a, b, D, M, rfl, p, hn, by omega, hb4, rfl⟩ rfl) ⟨m, Nat.lt_succ_self m, _, _, a + 2, 4 * D, rfl, p.half, half_thin p.pg th, by omega, nt⟩
    · have hb := of_decide_eq_false hb
      cases nt with
      | stop z => exact sd_ret (ed_var rfl) rfl
      | step z nt => exact absurd z hb
end
end Rt

namespace Rt
open PySem PySem.Spec PyProof.Rows L2 Evl
/-! the steps that need no thought; «walk_at "ev"» goes on till it is stuck -/
local macro_rules | `(tactic| walk_at "rt1") => `(tactic| first
  | ((with_reducible show _ = true → ED _ _ _ _); intro _) | ((with_reducible show _ = false → ED _ _ _ _); intro _) | ((with_reducible show _ = true → TD _ _ _ _); intro _) | ((with_reducible show _ = false → TD _ _ _ _); intro _)
  | with_reducible exact ed_int | with_reducible exact ed_bl | with_reducible exact ed_non | with_reducible exact ad_nil | with_reducible exact od_none | with_reducible exact td_yes
  | ((with_reducible apply ed_var); exact rfl)
  | (with_reducible apply ad_cons)
  | (with_reducible apply td_test) | (with_reducible apply td_truth) | (with_reducible apply td_not) | (with_reducible apply td_and) | (with_reducible apply td_or)
  | (with_reducible apply ed_add) | (with_reducible apply ed_sub) | (with_reducible apply ed_mul) | (with_reducible apply ed_mod) | (with_reducible apply ed_fdivP) | (with_reducible apply ed_pow) | (with_reducible apply ed_neg)
  | (with_reducible apply ed_lt) | (with_reducible apply ed_le) | (with_reducible apply ed_gt) | (with_reducible apply ed_ge)
  | (with_reducible apply ed_eqD) | (with_reducible apply ed_neD)
  | (with_reducible apply ed_ix) | (with_reducible apply ed_len) | (with_reducible apply ed_abs) | (with_reducible apply ed_gcd) | (with_reducible apply ed_isi)
  | (with_reducible apply ed_tup) | (with_reducible apply ed_tuple) | (with_reducible apply ed_andV) | (with_reducible apply ed_orV) | (with_reducible apply ed_notV)
  | (with_reducible apply od_some)
  | (with_reducible apply ef_lst) | (with_reducible apply ef_list) | (with_reducible apply ef_sl) | (with_reducible apply ef_cat)
  | (with_reducible apply EF.ed; with_reducible apply ef_lst) | (with_reducible apply EF.ed; with_reducible apply ef_list) | (with_reducible apply EF.ed; with_reducible apply ef_sl) | (with_reducible apply EF.ed; with_reducible apply ef_cat)
  | (with_reducible apply ed_call)
  | ((with_reducible show SeqD _ _); first | exact SeqD.l _ | exact SeqD.t _ | assumption)
  | ((with_reducible show Truth _ _); first | exact Truth.bool _ | exact Truth.int _ | exact Truth.l _ | exact Truth.t _)
  | ((with_reducible show SeqAt.shaped _ = true); exact rfl)
  | ((with_reducible show atI _ _ = some _); first | exact rfl | assumption)
  | ((with_reducible show kitB _ _ = some _); first | exact rfl | decide +kernel)
  | ((with_reducible show List.length _ = _); rfl)
  | ((with_reducible show List.length _ ≤ 100000); first | exact Nat.le_of_ble_eq_true rfl | (simp; done) | (simp; omega)))
local macro_rules | `(tactic| walk_at "ev") => `(tactic| repeat' walk_at "rt1")
/-- a row times a number turns as often -/
theorem seen_smul (u v : Int × Int) (k : Int) (xs : List Int) : seenL u v (smul k xs) = smul k (seenL u v xs) := by
  refine ext_getD ?_ fun i => ?_
  · rw [seen_len]
    show (List.map _ _).length = (List.map _ _).length
    rw [List.length_map, List.length_map, seen_len]
  · refine same_of i (N := 0) fun n _ => ?_
    rw [ev_smul, ← hor_ev, ← hor_ev, seen_hom, seen_hom, hor_smul]
theorem turns_smul {k : Int} (hk : k ≠ 0) (u v : Int × Int) (xs : List Int) : turnsL u v (smul k xs) = turnsL u v xs := by
  unfold turnsL
  rw [seen_smul]
  generalize seenL u v xs = S
  have pos : ∀ k : Int, 0 < k → chg 0 (smul k S) = chg 0 S := fun k hk => chg_ss (SS.refl 0) (al_smul hk S)
  by_cases h : 0 < k
  · exact pos k h
  · have e : smul k S = smul (-1) (smul (-k) S) := by
      unfold smul
      rw [List.map_map]
      congr 1
      funext a
      show k * a = -1 * (-k * a)
      grind
    have o := chg_opp (smul (-k) S) 0
    rw [Int.neg_zero] at o
    rw [e, o, pos (-k) (by omega)]
theorem hor_bare (xs : List Int) (t b : Int) : (hor t b xs).1 = barS xs * (hor t b (bareL xs)).1 := by
  rw [← hor_smul, smul_bare]
theorem turns_bare {xs : List Int} (h : lastZ xs ≠ 0) (u v : Int × Int) : turnsL u v (bareL xs) = turnsL u v xs := by
  have := turns_smul (barS_ne h) u v (bareL xs)
  rw [smul_bare] at this
  exact this.symm
def F_bare (ds : List PyData) (r : Res) : Prop := ∃ (d : PyData) (xs : List Int) (n : Nat), ds = [d] ∧ SeqD d (rD xs) ∧ lastZ xs ≠ 0 ∧ xs.length ≤ 1000 ∧ Sz n xs ∧ n ≤ 8900 ∧ r = .rf (rD (bareL xs))
def F_alone (ds : List PyData) (r : Res) : Prop := ∃ (d : PyData) (xs : List Int) (u v : Int × Int) (n m : Nat), ds = [d, pD u, pD v] ∧ SeqD d (rD xs) ∧ xs.length ≤ 40 ∧ Sz n xs ∧ n ≤ 1000000 ∧ Low m u ∧ Low m v ∧ 1 ≤ m ∧ m ≤ 8000 ∧
  r = .rt (.bool (decide (sgn (hor u.1 u.2 xs).1 * sgn (hor v.1 v.2 xs).1 = -1) && decide ((turnsL u v xs : Int) = 1)))
def onePeg (t b : Int) : PyData := pegD [-t, b] (partV (t * 1 + -1 * b) (b * 1)) (partV (t * 1 + 1 * b) (b * 1))
def F_of_part (ds : List PyData) (r : Res) : Prop := ∃ (u : Int × Int) (m : Nat), ds = [pD u] ∧ Low m u ∧ m ≤ 4000 ∧ r = .rt (onePeg u.1 u.2)
abbrev sp_bare (K : PySem.W.Frag) : Sp := spD K 1 F_bare
abbrev sp_alone (K : PySem.W.Frag) : Sp := spD K 3 F_alone
abbrev sp_of_part (K : PySem.W.Frag) : Sp := spD K 1 F_of_part
theorem sgn_pm (a b : Int) : sgn a * sgn b = -1 ↔ a * b < 0 := by
  rw [neg_iff]
  unfold sgn
  split <;> (try split) <;> (try split) <;> (try split) <;> omega
theorem sgn_lt (a : Int) : Lt2 1 (sgn a) := by
  unfold sgn Lt2
  split <;> (try split) <;> decide
/-- the peg of a part is one -/
theorem two_turns {u v : Int × Int} {xs : List Int} (h : xs.length = 2) : turnsL u v xs ≤ 1 := by
  have l := seen_len u v xs
  unfold turnsL
  rw [h] at l
  match seenL u v xs, l with
  | [a, b], _ =>
    show (if a * 0 < 0 then 1 else 0) + ((if b * (if a = 0 then 0 else a) < 0 then 1 else 0) + 0) ≤ 1
    rw [if_neg (by simp)]
    have k : ∀ (p : Prop) [Decidable p], (if p then 1 else 0 : Nat) ≤ 1 := fun p _ => by split <;> omega
    have := k (b * (if a = 0 then 0 else a) < 0)
    omega
theorem one_peg {m : Nat} {u : Int × Int} (l : Low m u) : PegOk m (m + 1) [-u.1, u.2] (partV (u.1 * 1 + -1 * u.2) (u.2 * 1)) (partV (u.1 * 1 + 1 * u.2) (u.2 * 1)) := by
  obtain ⟨t, b⟩ := u
  have hb : 0 < b := l.pos
  have hg : Int.gcd t b = 1 := l.gcd
  have l1 : Lt2 m t := l.l1
  have l2 : Lt2 m b := l.l2
  have e1 : t * 1 + -1 * b = t - b := by omega
  have e2 : t * 1 + 1 * b = t + b := by omega
  show PegOk m (m + 1) [-t, b] (partV (t * 1 + -1 * b) (b * 1)) (partV (t * 1 + 1 * b) (b * 1))
  rw [e1, e2, Int.mul_one]
  have c1 := partV_cross (a := t - b) (b := b) (by omega)
  have c2 := partV_cross (a := t + b) (b := b) (by omega)
  have lo1 := low_part (m := m + 1) hb (l1.sub l2) (l2.mono (by omega))
  have lo2 := low_part (m := m + 1) hb (l1.add l2) (l2.mono (by omega))
  generalize partV (t - b) b = p at *
  generalize partV (t + b) b = q at *
  have hp := lo1.pos
  have hq := lo2.pos
  have ev2 : ∀ x y : Int, (hor x y [-t, b]).1 = b * x - t * y := fun x y => by
    show (0 * x + b * 1) * x + -t * (1 * y) = _
    grind
  have vp : (hor p.1 p.2 [-t, b]).1 = -(b * p.2) := by
    rw [ev2]
    have : b * p.1 = (t - b) * p.2 := by rw [← c1]; exact Int.mul_comm _ _
    rw [this]; grind
  have vq : (hor q.1 q.2 [-t, b]).1 = b * q.2 := by
    rw [ev2]
    have : b * q.1 = (t + b) * q.2 := by rw [← c2]; exact Int.mul_comm _ _
    rw [this]; grind
  have bp : 0 < b * p.2 := Int.mul_pos hb hp
  have bq : 0 < b * q.2 := Int.mul_pos hb hq
  have lt : p.1 * q.2 < q.1 * p.2 := by
    refine Int.lt_of_mul_lt_mul_right (a := b) ?_ (Int.le_of_lt hb)
    have k1 : p.1 * q.2 * b = (t - b) * p.2 * q.2 := by rw [← c1]; grind
    have k2 : q.1 * p.2 * b = (t + b) * p.2 * q.2 := by
      have : q.1 * p.2 * b = q.1 * b * p.2 := by grind
      rw [this, c2]; grind
    have k3 : 0 < b * p.2 * q.2 := Int.mul_pos bp hq
    have k4 : (t + b) * p.2 * q.2 = (t - b) * p.2 * q.2 + 2 * (b * p.2 * q.2) := by grind
    omega
  have odd := (turns_par hp hq (xs := [-t, b]) (by simp) (by rw [vp]; omega) (by rw [vq]; omega)).mp (by rw [vp, vq]; exact Int.mul_neg_of_neg_of_pos (by omega) bq)
  have le := two_turns (u := p) (v := q) (xs := [-t, b]) rfl
  refine ⟨Nat.le_refl _, by show 2 ≤ 100; decide, ⟨hb, ?_⟩, ?_, lo1, lo2, lt, by rw [vp]; omega, by rw [vq]; omega, by omega⟩
  · show Nat.gcd (-t).natAbs (Nat.gcd b.natAbs 0) = 1
    rw [Nat.gcd_zero_right, Int.natAbs_neg]; exact hg
  · intro a ha
    rcases List.mem_cons.mp ha with rfl | ha
    · rw [Int.natAbs_neg]; exact Nat.le_of_lt l1
    · rw [List.mem_singleton.mp ha]; exact Nat.le_of_lt l2
def t_bare (K : PySem.W.Frag) : TS := (tSeq (tAsg (tC (.int 0)) (gName 1))
  (tSeq (tFor (iSeq K (tVar 0)) (gName 2) (tAsg (tCB rGcd (tCons (tVar 1) (tCons (tVar 2) tNil))) (gName 1)))
  (tSeq (tIfS (tTest (tOp (rI0 fun i j => .bl (decide (i < j))) (tOp (rIx K) (tVar 0) (tUn (rU fun i => .int (-i)) (tC (.int 1)))) (tC (.int 0)))) (tAsg (tUn (rU fun i => .int (-i)) (tVar 1)) (gName 1)) tNext)
  (tRet (tLc (iSeq K (tVar 0)) (gName 2) tYes (tOp (rI CDivQ fun i j => .int (i.fdiv j)) (tVar 2) (tVar 1)) [2])))))
abbrev N_bare : List Str := ["row", "common", "number"]
def t_alone (K : PySem.W.Frag) : TS := (tRet (tAndV (tOp (rEqD K) (tOp (rI CMulX fun i j => .int (i * j)) (tCall (sp_sign_at K) [] E0 (tCons (tVar 0) (tCons (tVar 1) tNil))) (tCall (sp_sign_at K) [] E0 (tCons (tVar 0) (tCons (tVar 2) tNil)))) (tUn (rU fun i => .int (-i)) (tC (.int 1)))) (tOp (rEqD K) (tCall (sp_turns K) [] E0 (tCons (tVar 0) (tCons (tVar 1) (tCons (tVar 2) tNil)))) (tC (.int 1)))))
abbrev N_alone : List Str := ["row", "low", "high"]
def t_of_part (K : PySem.W.Frag) : TS := (tRet (tTup (tCons (tTup (tCons (tUn (rU fun i => .int (-i)) (tOp (rIx K) (tVar 0) (tC (.int 0)))) (tCons (tOp (rIx K) (tVar 0) (tC (.int 1))) tNil))) (tCons (tCall (sp_part_sum K) [] E0 (tCons (tVar 0) (tCons (tTup (tCons (tUn (rU fun i => .int (-i)) (tC (.int 1))) (tCons (tC (.int 1)) tNil))) tNil))) (tCons (tCall (sp_part_sum K) [] E0 (tCons (tVar 0) (tCons (tTup (tCons (tC (.int 1)) (tCons (tC (.int 1)) tNil))) tNil))) tNil)))))
abbrev N_of_part : List Str := ["at"]
theorem bar_lt {n : Nat} {xs : List Int} (h : Sz n xs) (hz : lastZ xs ≠ 0) : Lt2 n (barS xs) := by
  have hx := lastZ_ne hz
  have hm : lastZ xs ∈ xs := by
    unfold lastZ
    rw [List.getLast?_eq_some_getLast hx]
    exact List.getLast_mem hx
  have d := Int.natAbs_dvd_natAbs.mpr (barS_dvd hm)
  exact (h _ hm).of_le (Nat.le_of_dvd (by omega) d)
theorem seq_last {d : PyData} {xs : List Int} (s : SeqD d (rD xs)) (h : xs ≠ []) : atI (rD xs) (-1) = some (.int (lastZ xs)) := by
  rw [rD_last h]; unfold lastZ; rw [List.getLast?_eq_some_getLast h]; rfl
section
variable {K : PySem.W.Frag}
theorem pure_bare (ds : List PyData) (r : Res) (h : F_bare ds r) (B0 B : Hp) : SD K B0 B (t_bare K) (startR N_bare ds) (fin r) := by
  obtain ⟨e, xs, n, rfl, hs, hz, hl, hsz, hn, rfl⟩ := h
  unfold t_bare
  have hx := lastZ_ne hz
  have lb := bar_lt hsz hz
  apply sd_seq; apply sd_set; (case h => walk_at "ev" )
  refine sd_seq (sd_for (id_seq (ed_var rfl) hs) (fun i ρ => ∃ z, ρ = [some (.d e), some (.d (.int (cont (xs.take i) : Int))), z]) ⟨none, rfl⟩ ?_ ?_)
  · rintro i d ρ' hi ⟨z, rfl⟩
    obtain ⟨a, ha, rfl⟩ := rD_get hi
    refine ⟨_, gd_name, ?_⟩
    apply sd_set; (case h => walk_at "ev" )
    refine ⟨some (.d (.int a)), ?_⟩
    rw [take_one ha, cont_snoc]
    rfl
  · rintro ρ' ⟨z, rfl⟩
    show SD K B0 B _ _ _
    rw [rD_len, List.take_length]
    have fin2 : ∀ z, SD K B0 B (tRet (tLc (iSeq K (tVar 0)) (gName 2) tYes (tOp (rI CDivQ fun i j => V.int (i.fdiv j)) (tVar 2) (tVar 1)) [2])) [some (.d e), some (.d (.int (barS xs))), z] (fin (.rf (rD (bareL xs)))) := fun z => by
      refine sd_retF (ds := rD (bareL xs)) ?_ rfl
      refine (ef_lc (ds := rD xs) (fun i => .int ((xs.getD i 0).fdiv (barS xs))) (id_seq (ed_var rfl) hs) (by rw [rD_len]; omega) fun i d hi => ?_).cast ?_
      · obtain ⟨a, ha, rfl⟩ := rD_get hi
        have ea : xs.getD i 0 = a := by rw [List.getD_eq_getElem?_getD, ha]; rfl
        refine ⟨_, gc_name, ?_⟩
        rw [ea]
        exact ed_fdivP (ed_var rfl) (ed_var rfl) (lb.cd (barS_ne hz) (by omega))
      · rw [rD_len]
        unfold rD bareL
        rw [List.map_map]
        exact map_range fun i a ha => by rw [List.getD_eq_getElem?_getD, ha]; rfl
    refine sd_seq (sd_if (td_test (ed_lt (ed_ix (ed_var rfl) hs (ed_neg ed_int) (seq_last hs hx)) ed_int)) (fun hb => ?_) (fun hb => ?_))
    · have hb : lastZ xs < 0 := of_decide_eq_true hb
      have es : barS xs = -(cont xs : Int) := by unfold barS; rw [if_pos hb]
      apply sd_set; (case h => walk_at "ev" )
      rw [← es]
      exact fin2 z
    · have hb : ¬ lastZ xs < 0 := of_decide_eq_false hb
      have es : barS xs = (cont xs : Int) := by unfold barS; rw [if_neg hb]
      rw [← es]
      exact sd_next (fin2 z)
theorem pure_alone (ds : List PyData) (r : Res) (h : F_alone ds r) (B0 B : Hp) : SD K B0 B (t_alone K) (startR N_alone ds) (fin r) := by
  obtain ⟨d, xs, u, v, n, m, rfl, hs, hl, hsz, hn, lu, lv, h1, hm, rfl⟩ := h
  unfold t_alone
  have z : (xs.length + 2) * (m + 1) ≤ 42 * 8001 := Nat.mul_le_mul (by omega) (by omega)
  have c : CMulX (sgn (hor u.1 u.2 xs).1) (sgn (hor v.1 v.2 xs).1) := (sgn_lt _).cm (sgn_lt _) (by decide)
  refine sd_ret (ed_andV (ed_eqI (ed_mul (ed_call (ad_cons (ed_var rfl) (ad_cons (ed_var rfl) ad_nil)) ⟨d, xs, u.1, u.2, n, m, rfl, hs, hsz, lu.l1, lu.l2, h1, by omega, rfl⟩ rfl) (ed_call (ad_cons (ed_var rfl) (ad_cons (ed_var rfl) ad_nil)) ⟨d, xs, v.1, v.2, n, m, rfl, hs, hsz, lv.l1, lv.l2, h1, by omega, rfl⟩ rfl) c) (ed_neg ed_int)) fun _ => ed_eqI (ed_call (ad_cons (ed_var rfl) (ad_cons (ed_var rfl) (ad_cons (ed_var rfl) ad_nil))) ⟨d, xs, u, v, n, m, rfl, hs, hl, hsz, hn, lu, lv, hm, rfl⟩ rfl) ed_int) rfl
theorem pure_of_part (ds : List PyData) (r : Res) (h : F_of_part ds r) (B0 B : Hp) : SD K B0 B (t_of_part K) (startR N_of_part ds) (fin r) := by
  obtain ⟨u, m, rfl, lu, hm, rfl⟩ := h
  unfold t_of_part
  have su := pD_seq u
  have o1 : Lt2 1 (1 : Int) := by unfold Lt2; decide
  have o2 : Lt2 1 (-1 : Int) := by unfold Lt2; decide
  refine sd_ret (d := onePeg u.1 u.2) (ed_tup (ad_cons (ed_tup (ad_cons (ed_neg (ed_ix (ed_var rfl) su ed_int rfl)) (ad_cons (ed_ix (ed_var rfl) su ed_int rfl) ad_nil)) (Nat.le_of_ble_eq_true rfl)) (ad_cons (ed_call (ad_cons (ed_var rfl) (ad_cons (ed_tup (ad_cons (ed_neg ed_int) (ad_cons ed_int ad_nil)) (Nat.le_of_ble_eq_true rfl)) ad_nil)) ⟨u, (-1, 1), m + 1, m, 1, rfl, lu.l1.mono (by omega), lu.l2, o2.mono (by omega), o1, by omega, by omega, lu.pos, by decide, rfl⟩ rfl) (ad_cons (ed_call (ad_cons (ed_var rfl) (ad_cons (ed_tup (ad_cons ed_int (ad_cons ed_int ad_nil)) (Nat.le_of_ble_eq_true rfl)) ad_nil)) ⟨u, (1, 1), m + 1, m, 1, rfl, lu.l1.mono (by omega), lu.l2, o1.mono (by omega), o1, by omega, by omega, lu.pos, by decide, rfl⟩ rfl) ad_nil))) (Nat.le_of_ble_eq_true rfl)) rfl
end
end Rt

namespace Rt
open PySem PySem.Spec PyProof.Rows L2 Evl
/-- the form of a row of three is never nought but at nought -/
def Firm (c b a : Int) : Prop := ∀ p q : Int, (p ≠ 0 ∨ q ≠ 0) → a * p * p + b * p * q + c * q * q ≠ 0
/-- the kinds of factors -/
inductive Kd : List Int → Prop
  | l (e d : Int) : 0 < d → Int.gcd e d = 1 → e.natAbs ≤ 2 ^ 30 → d.natAbs ≤ 2 ^ 30 → Kd [e, d]
  | q (c b a : Int) : 0 < a → Firm c b a → cont [c, b, a] = 1 → c.natAbs ≤ 2 ^ 30 → b.natAbs ≤ 2 ^ 30 → a.natAbs ≤ 2 ^ 30 → Kd [c, b, a]
  | c (k : Int) : k.natAbs ≤ 2 ^ 30 → (∀ d e : Int, d ≠ 0 → k * d * d * d ≠ e * e * e) → Kd [k, 0, 0, 1]
theorem bd2 {m : Nat} {a b : Int} (h1 : a.natAbs ≤ m) (h2 : b.natAbs ≤ m) : Bd m [a, b] := fun x hx => by
  rcases List.mem_cons.mp hx with rfl | hx
  · exact h1
  · rw [List.mem_singleton.mp hx]; exact h2
theorem bd3 {m : Nat} {a b c : Int} (h1 : a.natAbs ≤ m) (h2 : b.natAbs ≤ m) (h3 : c.natAbs ≤ m) : Bd m [a, b, c] := fun x hx => by
  rcases List.mem_cons.mp hx with rfl | hx
  · exact h1
  · exact bd2 h2 h3 x hx
theorem bd4 {m : Nat} {a b c d : Int} (h1 : a.natAbs ≤ m) (h2 : b.natAbs ≤ m) (h3 : c.natAbs ≤ m) (h4 : d.natAbs ≤ m) : Bd m [a, b, c, d] := fun x hx => by
  rcases List.mem_cons.mp hx with rfl | hx
  · exact h1
  · exact bd3 h2 h3 h4 x hx
theorem Kd.small {f : List Int} (h : Kd f) : Small f := by
  cases h with
  | l e d h1 h2 h3 h4 => exact ⟨Nat.le_of_ble_eq_true rfl, bd2 h3 h4⟩
  | q c b a h1 h2 h3 h4 h5 h6 => exact ⟨Nat.le_of_ble_eq_true rfl, bd3 h4 h5 h6⟩
  | c k h1 h2 => exact ⟨Nat.le_of_ble_eq_true rfl, bd4 h1 (by decide) (by decide) (by decide)⟩
theorem Kd.len {f : List Int} (h : Kd f) : 2 ≤ f.length := by cases h <;> simp
theorem Kd.good {f : List Int} (h : Kd f) : Good f := by
  cases h with
  | l e d h1 h2 h3 h4 => exact ⟨h1, by show Nat.gcd e.natAbs (Nat.gcd d.natAbs 0) = 1; rw [Nat.gcd_zero_right]; exact h2⟩
  | q c b a h1 h2 h3 h4 h5 h6 => exact ⟨h1, h3⟩
  | c k h1 h2 => exact ⟨show (0:Int) < 1 by decide, by show Nat.gcd k.natAbs (Nat.gcd 0 (Nat.gcd 0 (Nat.gcd 1 0))) = 1; simp⟩
theorem Kd.self {f : List Int} (h : Kd f) : Cop (ev f) (der f) := by
  cases h with
  | l e d h1 h2 h3 h4 => exact ⟨d, by omega, fun x => ⟨0, 1, by simp [ev, der]⟩⟩
  | q c b a h1 h2 h3 h4 h5 h6 =>
    refine ⟨4 * a * c - b * b, fun z => ?_, fun x => ⟨4 * a, -(2 * a * x + b), by simp only [ev, der]; grind⟩⟩
    exact h2 (-b) (2 * a) (.inr (by omega)) (by grind)
  | c k h1 h2 =>
    refine ⟨3 * k, fun z => ?_, fun x => ⟨3, -x, by simp only [ev, der]; grind⟩⟩
    exact h2 1 0 (by decide) (by have : k = 0 := by omega
                                 rw [this]; decide)
theorem same_dv {f g : List Int} (hf : Good f) (hg : Good g) {a b : Int} (ha : a ≠ 0) (hb : b ≠ 0) (h : ∀ x, a * ev f x = b * ev g x) : f = g :=
  eq_of_dv ⟨b, hb, fun x => ⟨a, by have := h x; grind⟩⟩ ⟨a, ha, fun x => ⟨b, by have := h x; grind⟩⟩ hf.1 hg.1 hf.2 hg.2
theorem Kd.cop {f g : List Int} (hf : Kd f) (hg : Kd g) (hne : f ≠ g) : Cop (ev f) (ev g) := by
  have gf := hf.good
  have gg := hg.good
  have LQ : ∀ (e d c b a : Int), 0 < d → Firm c b a → Cop (ev [e, d]) (ev [c, b, a]) := fun e d c b a hd h =>
    ⟨c * d * d - b * d * e + a * e * e, fun z => h e (-d) (.inr (by omega)) (by grind), fun x => ⟨-(a * d * x + b * d - a * e), d * d, by simp only [ev]; grind⟩⟩
  have LC : ∀ (e d k : Int), 0 < d → (∀ d e : Int, d ≠ 0 → k * d * d * d ≠ e * e * e) → Cop (ev [e, d]) (ev [k, 0, 0, 1]) := fun e d k hd h =>
    ⟨k * d * d * d - e * e * e, fun z => h d e (by omega) (by omega), fun x => ⟨-(d * d * x * x - d * e * x + e * e), d * d * d, by simp only [ev]; grind⟩⟩
  have QC : ∀ (c b a k : Int), 0 < a → Firm c b a → (∀ d e : Int, d ≠ 0 → k * d * d * d ≠ e * e * e) → Cop (ev [c, b, a]) (ev [k, 0, 0, 1]) := fun c b a k ha h hk => by
    by_cases hs : b * b - a * c = 0
    · refine ⟨k * a * a + b * c, fun z => hk a (-b) (by omega) (by grind), fun x => ⟨-(a * x - b), a * a, ?_⟩⟩
      simp only [ev]; grind
    · refine ⟨c * (b * b - a * c) * (b * b - a * c) - b * (b * b - a * c) * (k * a * a + b * c) + a * (k * a * a + b * c) * (k * a * a + b * c), fun z => h (k * a * a + b * c) (-(b * b - a * c)) (.inr (by omega)) (by grind), fun x => ?_⟩
      refine ⟨(b * b - a * c) * (b * b - a * c) + (a * (b * b - a * c) * x + b * (b * b - a * c) - a * (k * a * a + b * c)) * (a * x - b), -(a * a * (a * (b * b - a * c) * x + b * (b * b - a * c) - a * (k * a * a + b * c))), ?_⟩
      simp only [ev]
      grind
  cases hf with
  | l e d h1 h2 h3 h4 =>
    cases hg with
    | l e' d' k1 k2 k3 k4 =>
      refine ⟨d' * e - d * e', fun z => hne (same_dv gf gg (a := d') (b := d) (by omega) (by omega) fun x => ?_), fun x => ⟨d', -d, ?_⟩⟩
      · simp only [ev]; grind
      · simp only [ev]; grind
    | q c b a k1 k2 k3 k4 k5 k6 => exact LQ e d c b a h1 k2
    | c k k1 k2 => exact LC e d k h1 k2
  | q c b a h1 h2 h3 h4 h5 h6 =>
    cases hg with
    | l e d k1 k2 k3 k4 => exact (LQ e d c b a k1 h2).symm
    | q c' b' a' k1 k2 k3 k4 k5 k6 =>
      by_cases hp : a * b' - a' * b = 0
      · refine ⟨a * c' - a' * c, fun z => hne (same_dv gf gg (a := a') (b := a) (by omega) (by omega) fun x => ?_), fun x => ⟨-a', a, ?_⟩⟩
        · simp only [ev]; grind
        · simp only [ev]; grind
      · generalize hP : a * b' - a' * b = p at *
        generalize hQ : a * c' - a' * c = q at *
        refine ⟨c * p * p - b * p * q + a * q * q, fun z => h2 q (-p) (.inr (by omega)) (by grind), fun x => ⟨p * p + (a * p * x + b * p - a * q) * a', -((a * p * x + b * p - a * q) * a), ?_⟩⟩
        simp only [ev]
        subst hP hQ
        grind
    | c k k1 k2 => exact QC c b a k h1 h2 k2
  | c k h1 h2 =>
    cases hg with
    | l e d k1 k2 k3 k4 => exact (LC e d k k1 h2).symm
    | q c b a k1 k2 k3 k4 k5 k6 => exact (QC c b a k k1 k2 h2).symm
    | c k' k1 k2 =>
      refine ⟨k - k', fun z => hne (by have : k = k' := by omega
                                       rw [this]), fun x => ⟨1, -1, ?_⟩⟩
      simp only [ev]; omega
/-! ### which rows these are -/
theorem firm_sq {m : Int} (h0 : 0 < m) (hm : ∀ t : Int, t * t ≠ m) : Firm (-m) 0 1 := fun p q hpq z => by
  have z : p * p = m * (q * q) := by grind
  by_cases hq : q = 0
  · subst hq
    have : p * p = 0 := by rw [z]; simp
    rcases Int.mul_eq_zero.mp this with h | h <;> (rcases hpq with h' | h' <;> first | exact h' h | exact h' rfl)
  · have d : q ^ 2 ∣ p ^ 2 := ⟨m, by rw [Int.pow_succ, Int.pow_succ, Int.pow_zero, Int.pow_succ, Int.pow_succ, Int.pow_zero]; grind⟩
    obtain ⟨t, ht⟩ := (Int.pow_dvd_pow_iff (by decide)).mp d
    refine hm t (Int.eq_of_mul_eq_mul_left (a := q * q) (Int.mul_ne_zero hq hq) ?_)
    rw [ht] at z
    grind
theorem sq_ne {m : Int} (n : Nat) (h1 : (n : Int) * n < m) (h2 : m < ((n : Int) + 1) * ((n : Int) + 1)) : ∀ t : Int, t * t ≠ m := fun t z => by
  have e : t * t = (t.natAbs : Int) * t.natAbs := by rw [← Int.natAbs_mul_self' t]
  rw [e] at z
  generalize t.natAbs = u at *
  rcases Nat.lt_or_ge n u with c | c
  · have : (n + 1) * (n + 1) ≤ u * u := Nat.mul_le_mul c c
    have : (((n + 1) * (n + 1) : Nat) : Int) ≤ ((u * u : Nat) : Int) := by omega
    push_cast at this
    omega
  · have : u * u ≤ n * n := Nat.mul_le_mul c c
    have : ((u * u : Nat) : Int) ≤ ((n * n : Nat) : Int) := by omega
    push_cast at this
    omega
theorem firm_def {c b a : Int} (ha : 0 < a) (h : b * b < 4 * a * c) : Firm c b a := fun p q hpq z => by
  have e : (2 * a * p + b * q) * (2 * a * p + b * q) + (4 * a * c - b * b) * (q * q) = 0 := by grind
  have s1 : 0 ≤ (2 * a * p + b * q) * (2 * a * p + b * q) := by rw [← Int.natAbs_mul_self']; exact Int.mul_nonneg (Int.natCast_nonneg _) (Int.natCast_nonneg _)
  have s2 : 0 ≤ q * q := by rw [← Int.natAbs_mul_self']; exact Int.mul_nonneg (Int.natCast_nonneg _) (Int.natCast_nonneg _)
  by_cases hq : q = 0
  · subst hq
    have e2 : a * p * p = 0 := by grind
    rcases Int.mul_eq_zero.mp e2 with h1 | h1
    · rcases Int.mul_eq_zero.mp h1 with h1 | h1
      · omega
      · rcases hpq with h' | h' <;> first | exact h' h1 | exact h' rfl
    · rcases hpq with h' | h' <;> first | exact h' h1 | exact h' rfl
  · have s3 : 0 < q * q := by
      rcases Int.lt_or_eq_of_le s2 with h1 | h1
      · exact h1
      · rcases Int.mul_eq_zero.mp h1.symm with h1 | h1 <;> exact absurd h1 hq
    have := Int.mul_pos (show 0 < 4 * a * c - b * b by omega) s3
    omega
theorem cube_ne {k : Int} (hk : ∀ t : Int, t * t * t ≠ k) : ∀ d e : Int, d ≠ 0 → k * d * d * d ≠ e * e * e := fun d e hd z => by
  have dv : d ^ 3 ∣ e ^ 3 := ⟨k, by rw [Int.pow_succ, Int.pow_succ, Int.pow_succ, Int.pow_zero, Int.pow_succ, Int.pow_succ, Int.pow_succ, Int.pow_zero]; grind⟩
  obtain ⟨t, ht⟩ := (Int.pow_dvd_pow_iff (by decide)).mp dv
  refine hk t (Int.eq_of_mul_eq_mul_left (a := d * d * d) (Int.mul_ne_zero (Int.mul_ne_zero hd hd) hd) ?_)
  rw [ht] at z
  grind
theorem cub_ne {k : Int} (hk : k.natAbs ≠ 0) (h1 : k.natAbs ≠ 1) (h8 : k.natAbs < 8) : ∀ t : Int, t * t * t ≠ k := fun t z => by
  have e := congrArg Int.natAbs z
  rw [Int.natAbs_mul, Int.natAbs_mul] at e
  generalize t.natAbs = u at *
  rcases Nat.lt_or_ge 1 u with c | c
  · have := Nat.mul_le_mul (Nat.mul_le_mul c c) c
    omega
  · rcases Nat.le_one_iff_eq_zero_or_eq_one.mp c with rfl | rfl
    · simp at e; omega
    · simp at e; omega
end Rt

namespace Rt
open PySem PySem.Spec PyProof.Rows L2 Evl
/-! the steps that need no thought; «walk_at "ev"» goes on till it is stuck -/
local macro_rules | `(tactic| walk_at "rt1") => `(tactic| first
  | ((with_reducible show _ = true → ED _ _ _ _); intro _) | ((with_reducible show _ = false → ED _ _ _ _); intro _) | ((with_reducible show _ = true → TD _ _ _ _); intro _) | ((with_reducible show _ = false → TD _ _ _ _); intro _)
  | with_reducible exact ed_int | with_reducible exact ed_bl | with_reducible exact ed_non | with_reducible exact ad_nil | with_reducible exact od_none | with_reducible exact td_yes
  | ((with_reducible apply ed_var); exact rfl)
  | (with_reducible apply ad_cons)
  | (with_reducible apply td_test) | (with_reducible apply td_truth) | (with_reducible apply td_not) | (with_reducible apply td_and) | (with_reducible apply td_or)
  | (with_reducible apply ed_add) | (with_reducible apply ed_sub) | (with_reducible apply ed_mul) | (with_reducible apply ed_mod) | (with_reducible apply ed_fdivP) | (with_reducible apply ed_pow) | (with_reducible apply ed_neg)
  | (with_reducible apply ed_lt) | (with_reducible apply ed_le) | (with_reducible apply ed_gt) | (with_reducible apply ed_ge)
  | (with_reducible apply ed_eqD) | (with_reducible apply ed_neD)
  | (with_reducible apply ed_ix) | (with_reducible apply ed_len) | (with_reducible apply ed_abs) | (with_reducible apply ed_gcd) | (with_reducible apply ed_isi)
  | (with_reducible apply ed_tup) | (with_reducible apply ed_tuple) | (with_reducible apply ed_andV) | (with_reducible apply ed_orV) | (with_reducible apply ed_notV)
  | (with_reducible apply od_some)
  | (with_reducible apply ef_lst) | (with_reducible apply ef_list) | (with_reducible apply ef_sl) | (with_reducible apply ef_cat)
  | (with_reducible apply EF.ed; with_reducible apply ef_lst) | (with_reducible apply EF.ed; with_reducible apply ef_list) | (with_reducible apply EF.ed; with_reducible apply ef_sl) | (with_reducible apply EF.ed; with_reducible apply ef_cat)
  | (with_reducible apply ed_call)
  | ((with_reducible show SeqD _ _); first | exact SeqD.l _ | exact SeqD.t _ | assumption)
  | ((with_reducible show Truth _ _); first | exact Truth.bool _ | exact Truth.int _ | exact Truth.l _ | exact Truth.t _)
  | ((with_reducible show SeqAt.shaped _ = true); exact rfl)
  | ((with_reducible show atI _ _ = some _); first | exact rfl | assumption)
  | ((with_reducible show kitB _ _ = some _); first | exact rfl | decide +kernel)
  | ((with_reducible show List.length _ = _); rfl)
  | ((with_reducible show List.length _ ≤ 100000); first | exact Nat.le_of_ble_eq_true rfl | (simp; done) | (simp; omega)))
local macro_rules | `(tactic| walk_at "ev") => `(tactic| repeat' walk_at "rt1")
def pre0 (cs : List Int) : List Int := cs.map fun c => c.fmod 13 - 6
def rowBy (cs : List Int) : List Int := if (pre0 cs).length < 2 then [-2, 0, 1] else bareL (if lastZ (pre0 cs) = 0 then (pre0 cs).set ((pre0 cs).length - 1) 1 else pre0 cs)
theorem bd_bare {m : Nat} {p : List Int} (h : Bd m p) (hp : lastZ p ≠ 0) : Bd m (bareL p) := by
  intro a ha
  unfold bareL at ha
  obtain ⟨b, hb, rfl⟩ := List.mem_map.mp ha
  exact Nat.le_trans (natAbs_fdiv_le (barS_dvd hb) (barS_ne hp)) (h b hb)
theorem pre0_bd (cs : List Int) : Bd 6 (pre0 cs) := fun a ha => by
  unfold pre0 at ha
  obtain ⟨c, _, rfl⟩ := List.mem_map.mp ha
  have h1 := Int.fmod_nonneg_of_pos c (b := 13) (by decide)
  have h2 := Int.fmod_lt_of_pos c (b := 13) (by decide)
  omega
theorem set_last {xs : List Int} (h : xs ≠ []) (a : Int) : lastZ (xs.set (xs.length - 1) a) = a := by
  have p := List.length_pos_iff.mpr h
  have ls : (xs.set (xs.length - 1) a).length = xs.length := List.length_set
  have ne : xs.set (xs.length - 1) a ≠ [] := by intro z; rw [z] at ls; simp only [List.length_nil] at ls; omega
  rw [← lastZ_getD ne, ls, getD_set (by omega), if_pos rfl]
theorem rowBy_ok (cs : List Int) (hl : cs.length ≤ 90) : Good (rowBy cs) ∧ 2 ≤ (rowBy cs).length ∧ (rowBy cs).length ≤ 90 ∧ Bd 6 (rowBy cs) := by
  unfold rowBy
  have l0 : (pre0 cs).length = cs.length := List.length_map _
  split
  · exact ⟨⟨by decide, by decide⟩, by decide, by decide, bd3 (by decide) (by decide) (by decide)⟩
  · rename_i h
    have ne : pre0 cs ≠ [] := by intro z; rw [z] at h; simp at h
    have bl : ∀ p : List Int, (bareL p).length = p.length := fun p => List.length_map _
    split
    · have e := set_last ne 1
      have ls : ((pre0 cs).set ((pre0 cs).length - 1) 1).length = (pre0 cs).length := List.length_set
      refine ⟨bare_good (by rw [e]; decide), by rw [bl]; omega, by rw [bl]; omega, bd_bare (fun a ha => ?_) (by rw [e]; decide)⟩
      rcases List.mem_or_eq_of_mem_set ha with h | h
      · exact pre0_bd cs a h
      · rw [h]; decide
    · rename_i h2
      exact ⟨bare_good h2, by rw [bl]; omega, by rw [bl]; omega, bd_bare (pre0_bd cs) h2⟩
def F__law_row_by (ds : List PyData) (r : Res) : Prop := ∃ cs : List Int, ds = [.list (rD cs)] ∧ cs.length ≤ 90 ∧ r = .rf (rD (rowBy cs))
/-- the stretches from a whole number to the next one in which the row turns just once -/
def alone (xs : List Int) (k : Nat) : Bool := decide ((hor ((k : Int) - 9) 1 xs).1 * (hor ((k : Int) - 8) 1 xs).1 < 0) && decide (turnsL ((k : Int) - 9, 1) ((k : Int) - 8, 1) xs = 1)
def cands (xs : List Int) (n : Nat) : List Nat := (List.range n).filter (alone xs)
def pegK (xs : List Int) (k : Nat) : PyData := pegD xs ((k : Int) - 9, 1) ((k : Int) - 8, 1)
def drawN (cs : List Int) (draw : Int) : Nat := (cands (rowBy cs) 18).getD (draw.fmod ((cands (rowBy cs) 18).length : Int)).toNat 0
def pegBy (cs : List Int) (draw : Int) : List Int × (Int × Int) × (Int × Int) :=
  if cands (rowBy cs) 18 = [] then ([-2, 0, 1], (1, 1), (2, 1)) else (rowBy cs, ((drawN cs draw : Int) - 9, 1), ((drawN cs draw : Int) - 8, 1))
def F__law_peg_by (ds : List PyData) (r : Res) : Prop := ∃ (cs : List Int) (draw : Int), ds = [.list (rD cs), .int draw] ∧ cs.length ≤ 90 ∧ r = .rt (pegD (pegBy cs draw).1 (pegBy cs draw).2.1 (pegBy cs draw).2.2)
def F__law_doubled (ds : List PyData) (r : Res) : Prop := ∃ n : Nat, ds = [.int (n : Int)] ∧ n ≤ 1000 ∧ r = .rt (.int (2 ^ n))
def F__law_below (ds : List PyData) (r : Res) : Prop := ∃ u v : Int × Int, ds = [pD u, pD v] ∧ Lt2 8000 u.1 ∧ Lt2 8000 u.2 ∧ Lt2 8000 v.1 ∧ Lt2 8000 v.2 ∧ r = .rt (.bool (decide (u.1 * v.2 < v.1 * u.2)))
abbrev sp__law_row_by (K : PySem.W.Frag) : Sp := spD K 1 F__law_row_by
abbrev sp__law_peg_by (K : PySem.W.Frag) : Sp := spD K 2 F__law_peg_by
abbrev sp__law_doubled (K : PySem.W.Frag) : Sp := spD K 1 F__law_doubled
abbrev sp__law_below (K : PySem.W.Frag) : Sp := spD K 2 F__law_below
theorem low_int {k : Int} (h : -9 ≤ k ∧ k ≤ 10) : Low 5 (k, 1) := ⟨show (0 : Int) < 1 by decide, Int.gcd_one_right _, by show Lt2 5 k; unfold Lt2; omega, by show Lt2 5 1; unfold Lt2; decide⟩
theorem cands_mem {xs : List Int} {n k : Nat} (h : k ∈ cands xs n) : k < n ∧ alone xs k = true := by
  unfold cands at h
  obtain ⟨h1, h2⟩ := List.mem_filter.mp h
  exact ⟨List.mem_range.mp h1, h2⟩
theorem pegBy_ok (cs : List Int) (draw : Int) (hl : cs.length ≤ 90) : PegOk 3 5 (pegBy cs draw).1 (pegBy cs draw).2.1 (pegBy cs draw).2.2 := by
  unfold pegBy
  split
  · exact ⟨by decide, by decide, ⟨by decide, by decide⟩, bd3 (by decide) (by decide) (by decide), low_int (k := 1) (by decide), low_int (k := 2) (by decide), by decide, by decide, by decide, by decide⟩
  · rename_i h
    obtain ⟨g1, g2, g3, g4⟩ := rowBy_ok cs hl
    have p : 0 < (cands (rowBy cs) 18).length := List.length_pos_iff.mpr h
    have f1 := Int.fmod_nonneg_of_pos draw (b := ((cands (rowBy cs) 18).length : Int)) (by omega)
    have f2 := Int.fmod_lt_of_pos draw (b := ((cands (rowBy cs) 18).length : Int)) (by omega)
    have hk : drawN cs draw ∈ cands (rowBy cs) 18 := by
      unfold drawN
      rw [List.getD_eq_getElem?_getD, List.getElem?_eq_getElem (by omega)]
      exact List.getElem_mem _
    obtain ⟨k1, k2⟩ := cands_mem hk
    generalize drawN cs draw = k at *
    unfold alone at k2
    rw [Bool.and_eq_true] at k2
    have a1 : (hor ((k : Int) - 9) 1 (rowBy cs)).1 * (hor ((k : Int) - 8) 1 (rowBy cs)).1 < 0 := of_decide_eq_true k2.1
    have a2 : turnsL ((k : Int) - 9, 1) ((k : Int) - 8, 1) (rowBy cs) = 1 := of_decide_eq_true k2.2
    exact ⟨g2, by show (rowBy cs).length ≤ 100; omega, g1, g4.mono (by decide), low_int (by omega), low_int (by omega), by show ((k : Int) - 9) * 1 < ((k : Int) - 8) * 1; omega, fun z => by rw [show (hor ((k : Int) - 9) 1 (rowBy cs)).1 = 0 from z] at a1; simp at a1, fun z => by rw [show (hor ((k : Int) - 8) 1 (rowBy cs)).1 = 0 from z] at a1; simp at a1, a2⟩
theorem pegs_lay (xs : List Int) : ∀ ks : List Nat, PyData.canLayAll0 (ks.map (pegK xs)) = true ∧ PyData.depthAll (ks.map (pegK xs)) ≤ 3
  | [] => ⟨rfl, Nat.zero_le _⟩
  | k :: ks => by
    obtain ⟨h1, h2⟩ := pegs_lay xs ks
    constructor
    · show ((PyData.canLayAll0 (rD xs) && true) && PyData.canLayAll0 (ks.map (pegK xs))) = true
      rw [canLayAll_rD, h1]; rfl
    · show max (max (PyData.depthAll (rD xs) + 1) 1 + 1) (PyData.depthAll (ks.map (pegK xs))) ≤ 3
      rw [depthAll_rD]; omega
theorem pegs_shaped (xs : List Int) (ks : List Nat) : SeqAt.shaped (.list (ks.map (pegK xs))) = true := by
  obtain ⟨h1, h2⟩ := pegs_lay xs ks
  show (PyData.canLayAll0 (ks.map (pegK xs)) && decide (PyData.depthAll (ks.map (pegK xs)) + 1 ≤ 64)) = true
  rw [h1, decide_eq_true (by omega)]; rfl
theorem pegs_nil (xs : List Int) (ks : List Nat) : PyData.eqv (.list (ks.map (pegK xs))) (.list []) = decide (ks = []) := by cases ks <;> rfl
def t__law_row_by (K : PySem.W.Frag) : TS := (tSeq (tAsg (tLc (iSeq K (tVar 0)) (gName 2) tYes (tOp (rI0 fun i j => .int (i - j)) (tOp (rI (fun _ j => j ≠ 0) fun i j => .int (i.fmod j)) (tVar 2) (tC (.int 13))) (tC (.int 6))) [2]) (gName 1))
  (tSeq (tIfS (tTest (tOp (rI0 fun i j => .bl (decide (i < j))) (tLen K (tVar 1)) (tC (.int 2)))) (tRet (tLst (tCons (tUn (rU fun i => .int (-i)) (tC (.int 2))) (tCons (tC (.int 0)) (tCons (tC (.int 1)) tNil))))) tNext)
  (tSeq (tIfS (tTest (tOp (rEqD K) (tOp (rIx K) (tVar 1) (tUn (rU fun i => .int (-i)) (tC (.int 1)))) (tC (.int 0)))) (tAsg (tC (.int 1)) (gSub (tVar 1) (tUn (rU fun i => .int (-i)) (tC (.int 1))) rSetL)) tNext)
  (tRet (tCall (sp__law_smallest K) [] E0 (tCons (tVar 1) tNil))))))
abbrev N__law_row_by : List Str := ["_law_cells", "_law_row", "_law_cell"]
def t__law_peg_by (K : PySem.W.Frag) : TS := (tSeq (tAsg (tCall (sp__law_row_by K) [] E0 (tCons (tVar 0) tNil)) (gName 2))
  (tSeq (tAsg (tLc (iRng2 (tCons (tUn (rU fun i => .int (-i)) (tC (.int 9))) (tCons (tC (.int 10)) tNil))) (gName 5) tYes (tCall (sp__law_value K) [] E0 (tCons (tVar 2) (tCons (tTup (tCons (tVar 5) (tCons (tC (.int 1)) tNil))) tNil))) [5]) (gName 3))
  (tSeq (tAsg (tLst tNil) (gName 4))
  (tSeq (tFor (iRng1 (tCons (tC (.int 18)) tNil)) (gName 5) (tIfS (tAnd (tTest (tOp (rI0 fun i j => .bl (decide (i < j))) (tOp (rI CMulX fun i j => .int (i * j)) (tOp (rIx K) (tVar 3) (tVar 5)) (tOp (rIx K) (tVar 3) (tOp (rI0 fun i j => .int (i + j)) (tVar 5) (tC (.int 1))))) (tC (.int 0)))) (tTest (tOp (rEqD K) (tCall (sp__law_turns K) [] E0 (tCons (tVar 2) (tCons (tTup (tCons (tOp (rI0 fun i j => .int (i - j)) (tVar 5) (tC (.int 9))) (tCons (tC (.int 1)) tNil))) (tCons (tTup (tCons (tOp (rI0 fun i j => .int (i - j)) (tVar 5) (tC (.int 8))) (tCons (tC (.int 1)) tNil))) tNil)))) (tC (.int 1))))) (tDrop (tBM K "list" rAppend (tVar 4) (tCons (tTup (tCons (tCB (rTupS K) (tCons (tVar 2) tNil)) (tCons (tTup (tCons (tOp (rI0 fun i j => .int (i - j)) (tVar 5) (tC (.int 9))) (tCons (tC (.int 1)) tNil))) (tCons (tTup (tCons (tOp (rI0 fun i j => .int (i - j)) (tVar 5) (tC (.int 8))) (tCons (tC (.int 1)) tNil))) tNil)))) tNil))) tNext))
  (tSeq (tIfS (tTest (tOp (rEqD K) (tVar 4) (tLst tNil))) (tRet (tTup (tCons (tTup (tCons (tUn (rU fun i => .int (-i)) (tC (.int 2))) (tCons (tC (.int 0)) (tCons (tC (.int 1)) tNil)))) (tCons (tTup (tCons (tC (.int 1)) (tCons (tC (.int 1)) tNil))) (tCons (tTup (tCons (tC (.int 2)) (tCons (tC (.int 1)) tNil))) tNil))))) tNext)
  (tRet (tOp (rIx K) (tVar 4) (tOp (rI (fun _ j => j ≠ 0) fun i j => .int (i.fmod j)) (tVar 1) (tLen K (tVar 4))))))))))
abbrev N__law_peg_by : List Str := ["_law_cells", "_law_draw", "_law_row", "_law_values", "_law_found", "_law_k"]
def t__law_doubled (K : PySem.W.Frag) : TS := (tSeq (tAsg (tC (.int 1)) (gName 1))
  (tSeq (tFor (iRng1 (tCons (tVar 0) tNil)) (gName 2) (tAsg (tOp (rI CMulX fun i j => .int (i * j)) (tVar 1) (tC (.int 2))) (gName 1)))
  (tRet (tVar 1))))
abbrev N__law_doubled : List Str := ["_law_many", "_law_size", "_law_k"]
def t__law_below (K : PySem.W.Frag) : TS := (tRet (tOp (rI0 fun i j => .bl (decide (i < j))) (tOp (rI CMulX fun i j => .int (i * j)) (tOp (rIx K) (tVar 0) (tC (.int 0))) (tOp (rIx K) (tVar 1) (tC (.int 1)))) (tOp (rI CMulX fun i j => .int (i * j)) (tOp (rIx K) (tVar 1) (tC (.int 0))) (tOp (rIx K) (tVar 0) (tC (.int 1))))))
abbrev N__law_below : List Str := ["_law_one", "_law_other"]
section
variable {K : PySem.W.Frag}
theorem pure__law_doubled (ds : List PyData) (r : Res) (h : F__law_doubled ds r) (B0 B : Hp) : SD K B0 B (t__law_doubled K) (startR N__law_doubled ds) (fin r) := by
  obtain ⟨n, rfl, hn, rfl⟩ := h
  unfold t__law_doubled
  apply sd_seq; apply sd_set; (case h => walk_at "ev" )
  refine sd_seq (sd_for (id_rng1 (n := (n : Int)) (ad_cons (ed_var rfl) ad_nil) (by omega) (by omega)) (fun i ρ => ∃ z, ρ = [some (.d (.int (n : Int))), some (.d (.int (2 ^ i))), z]) ⟨none, rfl⟩ ?_ ?_)
  · rintro i d ρ' hi ⟨z, rfl⟩
    obtain ⟨hi, rfl⟩ := ints_get' hi
    have hi : i < n := by omega
    refine ⟨_, gd_name, ?_⟩
    have l : Lt2 1001 ((2 : Int) ^ i) := by
      unfold Lt2
      rw [Int.natAbs_pow]
      exact Nat.pow_lt_pow_right (by decide) (show i < 1001 by omega)
    refine sd_set (ed_mul (ed_var rfl) ed_int (l.cm (Lt2.of_lt (n := 3) (by decide)) (by decide))) ⟨some (.d (.int (0 + (i : Nat)))), ?_⟩
    rw [Int.pow_succ]; rfl
  · rintro ρ' ⟨z, rfl⟩
    show SD K B0 B _ _ _
    rw [ints_len', Int.toNat_natCast]
    exact sd_ret (ed_var rfl) rfl
theorem pure__law_below (ds : List PyData) (r : Res) (h : F__law_below ds r) (B0 B : Hp) : SD K B0 B (t__law_below K) (startR N__law_below ds) (fin r) := by
  obtain ⟨u, v, rfl, h1, h2, h3, h4, rfl⟩ := h
  unfold t__law_below
  exact sd_ret (ed_lt (ed_mul (ed_ix (ed_var rfl) (pD_seq u) ed_int rfl) (ed_ix (ed_var rfl) (pD_seq v) ed_int rfl) (h1.cm h4 (by decide))) (ed_mul (ed_ix (ed_var rfl) (pD_seq v) ed_int rfl) (ed_ix (ed_var rfl) (pD_seq u) ed_int rfl) (h3.cm h2 (by decide)))) rfl
theorem pure__law_row_by (ds : List PyData) (r : Res) (h : F__law_row_by ds r) (B0 B : Hp) : SD K B0 B (t__law_row_by K) (startR N__law_row_by ds) (fin r) := by
  obtain ⟨cs, rfl, hl, rfl⟩ := h
  unfold t__law_row_by rowBy
  have lc : EF K (tLc (iSeq K (tVar 0)) (gName 2) tYes (tOp (rI0 fun i j => .int (i - j)) (tOp (rI (fun _ j => j ≠ 0) fun i j => .int (i.fmod j)) (tVar 2) (tC (.int 13))) (tC (.int 6))) [2]) [some (.d (.list (rD cs))), none, none] (rD (pre0 cs)) := by
    refine (ef_lc (ds := rD cs) (fun i => .int ((cs.getD i 0).fmod 13 - 6)) (id_seq (ed_var rfl) (SeqD.l _)) (by rw [rD_len]; omega) fun i e hi => ?_).cast ?_
    · obtain ⟨a, ha, rfl⟩ := rD_get hi
      have ea : cs.getD i 0 = a := by rw [List.getD_eq_getElem?_getD, ha]; rfl
      refine ⟨_, gc_name, ?_⟩
      rw [ea]
      exact ed_sub (ed_mod (ed_var rfl) ed_int (by decide)) ed_int
    · rw [rD_len]
      unfold rD pre0
      rw [List.map_map]
      exact map_range fun i a ha => by rw [List.getD_eq_getElem?_getD, ha]; rfl
  have l0 : (pre0 cs).length = cs.length := List.length_map _
  have bd := pre0_bd cs
  refine sd_seq (sd_setF lc ?_)
  show SD K B0 B _ [some (.d (.list (rD cs))), some (.own (rD (pre0 cs))), none] _
  generalize pre0 cs = xs at *
  refine sd_seq (sd_if (td_test (ed_lt (ed_lenRO (k := 1) rfl) ed_int)) (fun hb => ?_) (fun hb => ?_))
  · have hb : xs.length < 2 := by have := of_decide_eq_true hb; omega
    rw [if_pos hb]
    exact sd_retF (ef_lst (ad_cons (ed_neg ed_int) (ad_cons ed_int (ad_cons ed_int ad_nil))) (by decide)) rfl
  · have hb : ¬ xs.length < 2 := by have := of_decide_eq_false hb; omega
    rw [if_neg hb]
    refine sd_next ?_
    have ne : xs ≠ [] := by intro z; rw [z] at hb; simp at hb
    have sm : ∀ ys : List Int, ys.length = xs.length → Bd 6 ys → lastZ ys ≠ 0 → SD K B0 B (tRet (tCall (sp__law_smallest K) [] E0 (tCons (tVar 1) tNil))) [some (.d (.list (rD cs))), some (.own (rD ys)), none] (fin (.rf (rD (bareL ys)))) := fun ys hy hb hz => by
      refine sd_frz (i := 1) rfl ?_
      exact sd_retF (ef_call (ad_cons (ed_var rfl) ad_nil) ⟨_, ys, 4, rfl, SeqD.l _, hz, by omega, (hb.mono (show 6 ≤ 2 ^ 3 by decide)).sz, by decide, rfl⟩ rfl) rfl
    refine sd_seq (sd_if (td_test (ed_eqI (ed_ixO (k := 1) rfl (ed_neg ed_int) (rD_last' ne)) ed_int)) (fun h => ?_) (fun h => ?_))
    · have h : lastZ xs = 0 := of_decide_eq_true h
      rw [if_pos h]
      refine sd_setI (i := 1) (ds := rD xs) (m := xs.length - 1) rfl ed_int (ed_neg ed_int) ?_ ?_
      · unfold ixN
        rw [if_neg (by decide), rD_len, if_pos (by omega)]
        congr 1; omega
      · have e : (rD xs).set (xs.length - 1) (.int 1) = rD (xs.set (xs.length - 1) 1) := by unfold rD; rw [List.map_set]
        show SD K B0 B _ [some (.d (.list (rD cs))), some (.own ((rD xs).set (xs.length - 1) (.int 1))), none] _
        rw [e]
        refine sm _ List.length_set (fun a ha => ?_) (by rw [set_last ne]; decide)
        rcases List.mem_or_eq_of_mem_set ha with h | h
        · exact bd a h
        · rw [h]; decide
    · have h : lastZ xs ≠ 0 := of_decide_eq_false h
      rw [if_neg h]
      exact sd_next (sm xs rfl bd h)
theorem pure__law_peg_by (ds : List PyData) (r : Res) (h : F__law_peg_by ds r) (B0 B : Hp) : SD K B0 B (t__law_peg_by K) (startR N__law_peg_by ds) (fin r) := by
  obtain ⟨cs, draw, rfl, hl, rfl⟩ := h
  unfold t__law_peg_by
  obtain ⟨g1, g2, g3, g4⟩ := rowBy_ok cs hl
  refine sd_seq (sd_setF (ef_call (ad_cons (ed_var rfl) ad_nil) ⟨cs, rfl, hl, rfl⟩ rfl) ?_)
  refine sd_frz (i := 2) rfl ?_
  have hp : ∀ d, pegD (pegBy cs draw).1 (pegBy cs draw).2.1 (pegBy cs draw).2.2 = d ↔ (if cands (rowBy cs) 18 = [] then pegD [-2, 0, 1] (1, 1) (2, 1) else pegK (rowBy cs) (drawN cs draw)) = d := fun d => by
    unfold pegBy
    split <;> exact Iff.rfl
  have hd : drawN cs draw = (cands (rowBy cs) 18).getD (draw.fmod ((cands (rowBy cs) 18).length : Int)).toNat 0 := rfl
  have hp := (hp _).mpr rfl
  rw [hp, hd]
  clear hp hd
  show SD K B0 B _ [some (.d (.list (rD cs))), some (.d (.int draw)), some (.d (.list (rD (rowBy cs)))), none, none, none] _
  generalize rowBy cs = xs at *
  have sz : Sz 4 xs := (g4.mono (show 6 ≤ 2 ^ 3 by decide)).sz
  have bd : Bd (2 ^ 3) xs := g4.mono (by decide)
  have big : 4 + (xs.length + 2) * (5 + 1) ≤ 100000000 := by omega
  have lk : ∀ k : Int, -9 ≤ k ∧ k ≤ 10 → Lt2 5 k := fun k h => by unfold Lt2; omega
  have l1 : Lt2 5 (1 : Int) := by unfold Lt2; decide
  have hv : ∀ k : Int, -9 ≤ k ∧ k ≤ 10 → Lt2 600 (hor k 1 xs).1 := fun k h => ((hor_lt (n := 4) (lk k h) l1 (by decide) sz).1).mono (by omega)
  have lc : EF K (tLc (iRng2 (tCons (tUn (rU fun i => .int (-i)) (tC (.int 9))) (tCons (tC (.int 10)) tNil))) (gName 5) tYes (tCall (sp__law_value K) [] E0 (tCons (tVar 2) (tCons (tTup (tCons (tVar 5) (tCons (tC (.int 1)) tNil))) tNil))) [5]) [some (.d (.list (rD cs))), some (.d (.int draw)), some (.d (.list (rD xs))), none, none, none] (rD ((List.range 19).map fun k : Nat => (hor ((k : Int) - 9) 1 xs).1)) := by
    refine (ef_lc (fun k => .int (hor ((k : Int) - 9) 1 xs).1) (id_rng2 (m := -9) (n := 10) (ad_cons (ed_neg ed_int) (ad_cons ed_int ad_nil)) (by decide)) (by rw [ints_len']; decide) fun i d hi => ?_).cast ?_
    · obtain ⟨hj, rfl⟩ := ints_get' hi
      have hi : i < 19 := hj
      refine ⟨_, gc_name, ?_⟩
      have e : (i : Int) - 9 = -9 + (i : Nat) := by omega
      rw [e]
      exact ed_call (ad_cons (ed_var rfl) (ad_cons (ed_tup (ad_cons (ed_var rfl) (ad_cons ed_int ad_nil)) (Nat.le_of_ble_eq_true rfl)) ad_nil)) ⟨_, xs, -9 + (i : Nat), 1, 4, 5, rfl, SeqD.l _, by omega, sz, lk _ (by omega), l1, by decide, big, rfl⟩ rfl
    · rw [ints_len']
      unfold rD
      rw [List.map_map]; rfl
  refine sd_seq (sd_set (EF.ed lc) ?_)
  refine sd_seq (sd_setF (ef_lst ad_nil (by decide)) ?_)
  have at19 : ∀ k : Nat, k < 19 → ∀ j : Int, j = k → atI (rD ((List.range 19).map fun k : Nat => (hor ((k : Int) - 9) 1 xs).1)) j = some (.int (hor ((k : Int) - 9) 1 xs).1) := fun k hk j hj => by
    subst hj
    have := rD_at (xs := (List.range 19).map fun k : Nat => (hor ((k : Int) - 9) 1 xs).1) (k := (k : Int)) (by omega) (by rw [List.length_map, List.length_range]; omega)
    rw [this, Int.toNat_natCast, List.getD_eq_getElem?_getD, List.getElem?_map, List.getElem?_range hk]; rfl
  generalize (List.range 19).map (fun k : Nat => (hor ((k : Int) - 9) 1 xs).1) = vs at *
  refine sd_seq (sd_for (id_rng1 (n := 18) (ad_cons ed_int ad_nil) (by decide) (by decide)) (fun i ρ => ∃ z, ρ = [some (.d (.list (rD cs))), some (.d (.int draw)), some (.d (.list (rD xs))), some (.d (.list (rD vs))), some (.own ((cands xs i).map (pegK xs))), z]) ⟨none, rfl⟩ ?_ ?_)
  · rintro i d ρ' hi ⟨z, rfl⟩
    obtain ⟨hj, rfl⟩ := ints_get' hi
    have hi : i < 18 := hj
    refine ⟨_, gd_name, ?_⟩
    have e9 : (0 : Int) + (i : Nat) - 9 = (i : Int) - 9 := by omega
    have e8 : (0 : Int) + (i : Nat) - 8 = (i : Int) - 8 := by omega
    have q8 : ((i + 1 : Nat) : Int) - 9 = (i : Int) - 8 := by omega
    have v1 := at19 i (by omega) (0 + (i : Nat)) (by omega)
    have v2 := at19 (i + 1) (by omega) (0 + (i : Nat) + 1) (by omega)
    rw [q8] at v2
    have h1 := hv ((i : Int) - 9) (by omega)
    have h2 := hv ((i : Int) - 8) (by omega)
    have tp : ∀ (c : Int) (ρ : Rho), ρ[5]? = some (some (.d (.int (0 + (i : Nat))))) → ED K (tTup (tCons (tOp (rI0 fun i j => .int (i - j)) (tVar 5) (tC (.int c))) (tCons (tC (.int 1)) tNil))) ρ (pD (0 + (i : Nat) - c, 1)) := fun c ρ h => ed_tup (ad_cons (ed_sub (ed_var h) ed_int) (ad_cons ed_int ad_nil)) (Nat.le_of_ble_eq_true rfl)
    have ft : F__law_turns [.list (rD xs), pD (0 + (i : Nat) - 9, 1), pD (0 + (i : Nat) - 8, 1)] (.rt (.int (turnsL ((i : Int) - 9, 1) ((i : Int) - 8, 1) xs))) := ⟨_, xs, (0 + (i : Nat) - 9, 1), (0 + (i : Nat) - 8, 1), 3, 5, rfl, SeqD.l _, by omega, bd, lk _ (by omega), l1, lk _ (by omega), l1, by decide, by decide, by rw [e9, e8]⟩
    have cl : (cands xs i).length ≤ 18 := by
      have := List.length_filter_le (alone xs) (List.range i)
      unfold cands
      rw [List.length_range] at this; omega
    have cs1 : cands xs (i + 1) = if alone xs i = true then cands xs i ++ [i] else cands xs i := by
      unfold cands
      rw [List.range_succ, List.filter_append, List.filter_cons]
      split <;> simp
    refine sd_if ((td_and (td_test (ed_lt (ed_mul (ed_ix (ed_var rfl) (SeqD.l _) (ed_var rfl) v1) (ed_ix (ed_var rfl) (SeqD.l _) (ed_add (ed_var rfl) ed_int) v2) (h1.cm h2 (by decide))) ed_int)) fun _ => td_test (ed_eqI (ed_call (ad_cons (ed_var rfl) (ad_cons (tp 9 _ rfl) (ad_cons (tp 8 _ rfl) ad_nil))) ft rfl) ed_int)).cast (show _ = alone xs i from by unfold alone; congr 1; exact decide_eq_decide.mpr (by omega))) (fun hb => ?_) (fun hb => ?_)
    · refine sd_app (ds := (cands xs i).map (pegK xs)) (d := pegK xs i) rfl ((ed_tup (ad_cons (ed_tuple (ed_var rfl) (SeqD.l _)) (ad_cons (tp 9 _ rfl) (ad_cons (tp 8 _ rfl) ad_nil))) (Nat.le_of_ble_eq_true rfl)).cast ?_) (by rw [List.length_map]; omega) ⟨some (.d (.int (0 + (i : Nat)))), ?_⟩
      · rw [e9, e8]; rfl
      · rw [cs1, if_pos hb, List.map_append]; rfl
    · refine sd_next ⟨some (.d (.int (0 + (i : Nat)))), ?_⟩
      rw [cs1, if_neg (by rw [hb]; decide)]; rfl
  · rintro ρ' ⟨z, rfl⟩
    show SD K B0 B _ _ _
    have e18 : (intsD 0 (Int.toNat 18)).length = 18 := ints_len' _ _
    rw [e18]
    refine sd_frz (i := 4) rfl ?_
    refine sd_seq (sd_if (td_test (ed_eqD (ed_var rfl) (EF.ed (ef_lst ad_nil (by decide))) (pegs_shaped xs _) rfl)) (fun hb => ?_) (fun hb => ?_))
    · rw [pegs_nil] at hb
      have hb : cands xs 18 = [] := of_decide_eq_true hb
      rw [if_pos hb]
      exact sd_ret (ed_tup (ad_cons (ed_tup (ad_cons (ed_neg ed_int) (ad_cons ed_int (ad_cons ed_int ad_nil))) (by decide)) (ad_cons (ed_tup (ad_cons ed_int (ad_cons ed_int ad_nil)) (by decide)) (ad_cons (ed_tup (ad_cons ed_int (ad_cons ed_int ad_nil)) (by decide)) ad_nil))) (by decide)) rfl
    · rw [pegs_nil] at hb
      have hb : cands xs 18 ≠ [] := of_decide_eq_false hb
      rw [if_neg hb]
      refine sd_next ?_
      have p : 0 < (cands xs 18).length := List.length_pos_iff.mpr hb
      have f1 := Int.fmod_nonneg_of_pos draw (b := ((cands xs 18).length : Int)) (by omega)
      have f2 := Int.fmod_lt_of_pos draw (b := ((cands xs 18).length : Int)) (by omega)
      have ea : atI ((cands xs 18).map (pegK xs)) (draw.fmod ((cands xs 18).length : Int)) = some (pegK xs ((cands xs 18).getD (draw.fmod ((cands xs 18).length : Int)).toNat 0)) := by
        refine atI_mk (k := (draw.fmod ((cands xs 18).length : Int)).toNat) ?_ ?_
        · unfold ixN
          rw [if_pos f1, List.length_map, if_pos (by omega)]
        · rw [List.getElem?_map, List.getD_eq_getElem?_getD, List.getElem?_eq_getElem (by omega)]; rfl
      exact sd_ret (ed_ix (ed_var rfl) (SeqD.l _) (ed_mod (ed_var rfl) ((ed_len (ed_var rfl) (SeqD.l _)).cast (by rw [List.length_map])) (by omega)) ea) rfl
end
end Rt

/-! a caught error that is handed on to a def -/
namespace Rt
open PySem PySem.Spec PyProof.Rows L2 Evl
/-- isinstance of a pinned error -/
theorem call_isP {X : Cx} {a : Addr} {oe : Obj} {cls : Value} {d : Option Addr} (hp : (a, oe) ∈ X.pn) (hz : Zc cls d oe) (hf : ∃ vs, oe.data = .fields vs) : CallR X (.builtin "isinstance") (rIsX X.K a cls d) := by
  intro pins s σ H xs us Q I r h
  obtain ⟨D, rfl, rfl, C, h⟩ := h
  have hget := (I.pin (a, oe) (List.mem_append.mpr (.inl hp))).1
  have J : PySem.W.InstAt s.heap a oe D none := by
    obtain ⟨fs, hfs⟩ := hf
    cases oe with
    | mk c1 c2 c3 c4 =>
      obtain ⟨z1, z2⟩ := hz
      simp only at z1 z2 hfs
      cases z1; cases z2; cases hfs
      exact ⟨hget, rfl, rfl, trivial⟩
  have kx := PySem.W.handS_kitx_exc (x := a) (ox := oe) C.hg C.hk C.hs C.hd C.ha C.hn C.ht C.hm
  rcases h with ⟨c, cv, b, rfl, hcv, e, q⟩ | ⟨tp, cs, ws, b, rfl, hT, k, e, q⟩
  · obtain ⟨u1, u2, rfl, r1, r2⟩ := vals2 r
    cases (show u1 = Value.ref a from r1)
    cases (hcv.eq r2)
    exact PySem.W.kia_one kx I.kIn J e (fun z => nomatch z) fun tk => ⟨.bl b, H, I.kept (t' := tk) fun _ _ z => z, rfl, q⟩
  · obtain ⟨u1, u2, rfl, r1, r2⟩ := vals2 r
    cases (show u1 = Value.ref a from r1)
    cases (show u2 = Value.ref tp from r2)
    obtain ⟨_, its, rv, o, h1, h2, n, h3⟩ := (show ObjOk X.prog X.w H s.heap tp (.tup cs) from I.hok tp _ hT)
    cases ClsV.all k rv
    cases o with
    | mk oc od dt sl =>
      simp only at h2 h3
      cases h2; cases h3
      exact PySem.W.kia_tup kx I.kIn J h1 e (fun z => nomatch z) fun tk => ⟨.bl b, H, I.kept (t' := tk) fun _ _ z => z, rfl, q⟩
/-- a def of one argument, an error: its body's reading by the error's place and class -/
structure Word (P : Program) (w : World) (K : PySem.W.Frag) (mg : Str → Option Value) (base : Heap) (k : Nat) (x : Str) (N : List Str) (t : Addr → Value → Option Addr → TS) : Prop where
  ex : ∃ (y : Str) (st : Stmt) (f : Addr) (fd : FuncData), Fun K x x st f fd ∧ mg x = some (.ref f) ∧ Binds K fd [y] [] ∧ FnScope N [y] (defScope st) ∧
    ∀ (cdv : Value) (A : Around) (outer : List PySem.Env) (s : Shared) (H : Hp) (a : Addr) (oe : Obj) (cls : Value) (d : Option Addr), Zc cls d oe → (∃ vs, oe.data = .fields vs) → L2H.RoomH k (A.deeper (envOfC x (defScope st) s.heap.objs.size f cdv)) →
      PSs (L2H.cxH CX0 P w K mg base N x (defScope st) f cdv A outer s H E0 (a, oe)) (defBody st) (t a cls d)
def tCallW (i : Nat) (N : List Str) (t : Addr → Value → Option Addr → TS) (a : Addr) (cls : Value) (d : Option Addr) : TE := fun σ H Q =>
  σ[i]? = some (some (.ref a)) ∧ t a cls d { nx := fun _ H' => Q .non H', rt := Q } (L2.start N [.ref a]) H
theorem run_w {X : Cx} {k : Nat} {x : Str} {N : List Str} {t : Addr → Value → Option Addr → TS} (W : Word X.prog X.w X.K X.mg X.base k x N t) {a : Addr} {oe : Obj} {cls : Value} {d : Option Addr} (hp : (a, oe) ∈ X.pn) (hz : Zc cls d oe) (hf : ∃ vs, oe.data = .fields vs) (hr : L2H.RoomH (k + 1) X.A)
    {i : Nat} {y : Str} {p q pos : Pos} (hg : Gl X x) (hN : X.N[i]? = some y) (hv : Vis X.env.scope y) (hdb : (x == ("__debug__" : Str)) = false := by decide) (hdy : (y == ("__debug__" : Str)) = false := by decide) (hcy : (y == ("__classdict__" : Str)) = false := by decide)
    (he : starEach [.Name y q] X.env = (false, eval (.Name y q) X.env) :: starEach [] X.env := by rfl) (hpl : (backTo pos (starEach [] X.env)).any (·.1) = false := by rfl) :
    PE X (.Call (.Name x p) [.Name y q] [] pos) (tCallW i N t a cls d) := by
  obtain ⟨z, st, f, fd, F, hm, hb, S, body⟩ := W.ex
  obtain ⟨oc, od, kV, doc, pm, an, cdv, ct, osl, rfl, lk, hcd⟩ := F.ex
  refine ⟨fun pins s σ H Q I h => ?_⟩
  obtain ⟨h1, h2⟩ := h
  refine wpAny_Call_Name_kw (ld_glob I hg hm ?_ hdb)
  have one := pa_cons (pe_var (pos := q) hN hv hdy hcy) (pa_nil (X := X))
  refine PySem.W.callWith_K (h₀ := X.base) I.ok.mod.kin F.kp (thn (one.run pos pins s σ H (fun vs H1 => vs = [.ref a] ∧ H1 = H) I ⟨.ref a, h1, rfl, rfl⟩) fun us s1 xx => ?_) he hpl
  obtain ⟨vs, H1, I1, r, rfl, rfl⟩ := xx
  refine ⟨I1.kIn, ?_⟩
  have b := hb s1 us I1.kIn (by rw [List.append_nil, ← r.length]; rfl)
  rw [List.append_nil] at b
  have pin := I1.pin (a, oe) (List.mem_append_left _ hp)
  have po : L2H.PinOk X.stack H1 s1 (a, oe) := ⟨pin.1, pin.2.1, fun hm => (List.mem_cons.mp (I1.stkSub a hm)).elim pin.2.2.1 pin.2.2.2.1, pin.2.2.2.2⟩
  have e0 := I1.env0
  have inK : X.K.In s1.heap := I1.kIn
  have nolim : s1.heap.NoLimit := e0.mod.nolimit.keeps fun b o e => (e0.bs b o e).1
  have kinds : ∀ e ∈ [z].zip us, (defScope st).names.lookup e.1 = some .local ∨ ((defScope st).names.lookup e.1 = some .cell ∧ ((cellsFrom (s1.heap.objs.size + 1) (defScope st).names []).lookup e.1).isSome = true) := fun e he => by
    rcases S.par e.1 (List.of_mem_zip (a := e.1) (b := e.2) he).1 with g | g
    · exact .inl g
    · exact .inr ⟨g, PySem.W.cellsFrom_some _ _ _ (.inl g)⟩
  refine wpAny_call (codeAny_mono (codeAny_call_function (R := fun r s' => ∃ u, r = .ok (.ret u) ∧ CE X.stack X.prog X.w H1 s1 Q u s') hr.depth (inK _ _ lk) rfl S.co S.gen rfl (PySem.W.codeRec_of inK hcd) (b _ _ _ _ ?_)) fun r s' hq => ?_)
  · refine wpAny_newFunctionEnv_cells S.kind kinds fun env henv s2 st2 => ?_
    subst henv
    refine ⟨nolim.keeps st2.toInCall.keep, codeAny_func ?_⟩
    have J := L2H.inv_startH (CX := CX0) (E := E0) S po e0 rfl r st2
    refine wpAny_mono ((body cdv X.A X.stack s1 H1 a oe cls d hz hf (hr.deeper _)).run [] s2 _ H1 { nx := fun _ H' => Q .non H', rt := Q } J h2) (fun fl s' hs => ?_) fun e s' hs => ?_
    · cases fl with
      | ret u =>
        obtain ⟨v, σ', H', J2, rv, g⟩ := hs
        exact ⟨u, rfl, v, H', J2.os, J2.bare, J2.base, J2.hok, rv, g⟩
      | next =>
        obtain ⟨σ', H', J2, g⟩ := hs
        exact ⟨.none, rfl, .non, H', J2.os, J2.bare, J2.base, J2.hok, rfl, g⟩
      | brk =>
        obtain ⟨_, _, _, g⟩ := hs
        exact g.elim
      | cont =>
        obtain ⟨_, _, _, g⟩ := hs
        exact g.elim
    · exact wpAny_mono hs (fun _ _ z => False.elim z) fun _ _ z => False.elim z
  · obtain ⟨u, rfl, ce⟩ := hq
    exact I1.after ce
/-! by data -/
section
variable {K : PySem.W.Frag} {B0 B : Hp} {ρ : Rho} {ta : TA} {te tk : TE} {d : PyData} {ds es : List PyData} {n i j : Nat} {F : List PyData → Res → Prop} {P : Out → Prop} {C Cx a : Addr} {c : V} {cv : Value} {cs : List V} {us : List Value} {b : Bool}
theorem ed_isW (h : ρ[i]? = some (some (.v (.ref a)))) (X : ExcC K C) (hc : ClsV c cv) (k : PySem.W.kitOne K (.ref C) cv = some b) : ED K (tCB (rIsX K a (.ref C) none) (tCons (tVar i) (tCons (tC c) tNil))) ρ (.bool b) := fun G H σ I Q q =>
  ⟨.ref a, I.raw i _ h, C, rfl, rfl, X, .inl ⟨c, cv, b, rfl, hc, k, q _ G H (Step.refl I.gh) (.bl b)⟩⟩
theorem ed_isWt (h : ρ[i]? = some (some (.v (.ref a)))) (X : ExcC K C) (hcs : Paired ClsV cs us) (hl : cs.length ≤ 1000) (k : PySem.W.kitAny K (.ref C) us = some b) : ED K (tCB (rIsX K a (.ref C) none) (tCons (tVar i) (tCons (tTup (tCls cs)) tNil))) ρ (.bool b) := fun G H σ I Q q =>
  ⟨.ref a, I.raw i _ h, tCls_ok cs _ _ _ ⟨Nat.le_trans hl (by decide), fun p hp => ⟨C, rfl, rfl, X, .inr ⟨p, cs, us, b, rfl, upd_same, hcs, k, q _ G _ (Step.allocO I.gh hp) (.bl b)⟩⟩⟩⟩
theorem dpa_flat {G : Hp} {vs : List V} (h : DpAll K G vs ds) : ∀ m : Nat, DpAll K G (List.replicate m vs).flatten (List.replicate m ds).flatten
  | 0 => .nil
  | m + 1 => by
    rw [List.replicate_succ, List.replicate_succ, List.flatten_cons, List.flatten_cons]
    exact h.app (dpa_flat h m)
theorem ef_rep {k : Nat} (h : EF K te ρ ds) (hk : ED K tk ρ (.int (k : Int))) (h1 : k ≤ 1000) (h2 : ds.length ≤ 10) : EF K (tOp rRep te tk) ρ (List.replicate k ds).flatten := fun G H σ I Q q =>
  h G H σ I _ fun p vs G2 H2 s hp hg hl hd => hk G2 H2 σ (I.step s) _ fun y G3 H3 s3 hy => by
    cases dp_int hy
    have e : vs.length ≤ 10 := by rw [hd.len]; exact h2
    have m : vs.length * k ≤ 10 * 1000 := Nat.mul_le_mul e h1
    refine ⟨p, (k : Int), vs, rfl, rfl, s3.h _ _ hl, by omega, by omega, by rw [Int.toNat_natCast]; exact Nat.le_trans m (by decide), fun p2 hp2 => ?_⟩
    rw [Int.toNat_natCast]
    exact q p2 _ G3 _ ((s.trans s3).trans (Step.allocO s3.gh hp2)) (fresh_back (s.trans s3).h hp2) (fresh_back s3.gh hp2) upd_same (dpa_flat (dpa_mono s3.g _ _ hd) k)
/-- a body's start with one value that is no data -/
theorem env_one {G H : Hp} {N : List Str} {x : V} (e : Ex G H) (hn : 1 ≤ N.length) : Env K G H (L2.start N [x]) (some (.v x) :: List.replicate (N.length - 1) none) := by
  refine ⟨e, ?_, fun i y q => ?_, fun i y q => ?_, fun i y q => ?_, fun i k xs ys p _ q => ?_⟩
  · unfold L2.start
    simp
  · cases i with
    | zero => cases q
    | succ i =>
      have q : (List.replicate (N.length - 1) (none : Option SV))[i]? = some (some (.d y)) := q
      rw [List.getElem?_replicate] at q
      split at q <;> cases q
  · cases i with
    | zero => cases q
    | succ i =>
      have q : (List.replicate (N.length - 1) (none : Option SV))[i]? = some (some (.own y)) := q
      rw [List.getElem?_replicate] at q
      split at q <;> cases q
  · cases i with
    | zero => cases q; rfl
    | succ i =>
      have q : (List.replicate (N.length - 1) (none : Option SV))[i]? = some (some (.v y)) := q
      rw [List.getElem?_replicate] at q
      split at q <;> cases q
  · cases i with
    | zero => cases q
    | succ i =>
      have q : (List.replicate (N.length - 1) (none : Option SV))[i]? = some (some (.own xs)) := q
      rw [List.getElem?_replicate] at q
      split at q <;> cases q
theorem base_one {G H : Hp} {σ : L2.St} {x : V} {m : Nat} (e : Ex G H) : Base G H G H σ (some (.v x) :: List.replicate m none) := ⟨Step.refl e, fun i xs p q => by
  cases i with
  | zero => cases q
  | succ i =>
    have q : (List.replicate m (none : Option SV))[i]? = some (some (.own xs)) := q
    rw [List.getElem?_replicate] at q
    split at q <;> cases q⟩
theorem ed_callW {N : List Str} {t : Addr → Value → Option Addr → TS} (h : ρ[i]? = some (some (.v (.ref a)))) (hn : 1 ≤ N.length)
    (hb : ∀ B0 B, SD K B0 B (t a (.ref C) none) (some (.v (.ref a)) :: List.replicate (N.length - 1) none) (fin (.rt d))) : ED K (tCallW i N t a (.ref C) none) ρ d := fun G H σ I Q q => by
  refine ⟨I.raw i _ h, hb G H G H _ _ (env_one I.gh hn) (base_one I.gh) fun o po => ?_⟩
  cases o with
  | rt d' => cases po; exact fun v G2 H2 s hv => q v G2 H2 s hv
  | nx ρ => cases po; exact fun G2 H2 σ2 _ I2 b2 => q .non G2 H2 b2.st .non
  | rf ds => cases po
  | bk ρ => cases po
  | ct ρ => cases po
/-- a suite that ends in a return -/
def RetOnly (P : Out → Prop) : Out → Prop
  | .rt d => P (.rt d)
  | .rf ds => P (.rf ds)
  | _ => False
/-- try: x = f(..); except X as n: suite -/
def tTryAs (K : PySem.W.Frag) (sp : Sp) (i j : Nat) (Cx : Addr) (ta : TA) (ts : Addr → Value → Option Addr → TS) : TS := fun D σ H =>
  (fun W => tAsg (tCallS sp (WE W) ta) (gName j)) (wAs K (.ref Cx) i ts (fun _ _ _ _ => False) D) D σ H
theorem sd_tryAs {ts : Addr → Value → Option Addr → TS} (ha : AD K ta ρ ds) (hn : ds.length = n) (hi : i < ρ.length)
    (h : (∃ d, F ds (.rt d) ∧ P (.nx (ρ.set j (some (.d d))))) ∨ ∃ C, F ds (.xc C) ∧ PySem.W.exmOne K (.ref C) (.ref Cx) = some true ∧ ∀ a, SD K B0 B (ts a (.ref C) none) (ρ.set i (some (.v (.ref a)))) (RetOnly P)) :
    SD K B0 B (tTryAs K (spD K n F) i j Cx ta ts) ρ P := fun G H σ D I b q => by
  show tAsg (tCallS _ _ ta) (gName j) D σ H
  rcases h with ⟨d, hF, k⟩ | ⟨C, hF, hm, k⟩
  · refine ha G H σ I _ fun vs G2 H2 s hv => ⟨hv.len.trans hn, G2, ds, .rt d, s.gh, hv, hF, fun v G3 H3 s3 h3 => ?_⟩
    have sA := s.trans s3
    exact q _ k G3 H3 _ sA.g ((I.step sA).set h3 j) ((b.step sA).set j)
  · refine ha G H σ I _ fun vs G2 H2 s hv => ⟨hv.len.trans hn, G2, ds, .xc C, s.gh, hv, hF, fun G3 H3 s3 => ?_⟩
    have sA := s.trans s3
    refine ⟨true, hm, fun _ a hna => ?_, fun z => nomatch z⟩
    refine k a G3 H3 _ _ ((I.step sA).setV i) ((b.step sA).setV i) fun o po => ?_
    cases o with
    | rt d => exact q _ po
    | rf ds => exact q _ po
    | nx ρ => exact False.elim po
    | bk ρ => exact False.elim po
    | ct ρ => exact False.elim po
end
end Rt
theorem L2H.RoomH.units {k : Nat} {A : PySem.Around} (r : L2H.RoomH k A) : A.units + 64 < PySem.cLine := by have := r.un; omega

namespace K06
open PySem PySem.Spec PyProof.Rows L2 Evl Rt
/-! the steps that need no thought; «walk_at "ev"» goes on till it is stuck -/
local macro_rules | `(tactic| walk_at "rt1") => `(tactic| first
  | ((with_reducible show _ = true → ED _ _ _ _); intro _) | ((with_reducible show _ = false → ED _ _ _ _); intro _) | ((with_reducible show _ = true → TD _ _ _ _); intro _) | ((with_reducible show _ = false → TD _ _ _ _); intro _)
  | with_reducible exact ed_int | with_reducible exact ed_bl | with_reducible exact ed_non | with_reducible exact ad_nil | with_reducible exact od_none | with_reducible exact td_yes
  | ((with_reducible apply ed_var); exact rfl)
  | (with_reducible apply ad_cons)
  | (with_reducible apply td_test) | (with_reducible apply td_truth) | (with_reducible apply td_not) | (with_reducible apply td_and) | (with_reducible apply td_or)
  | (with_reducible apply ed_add) | (with_reducible apply ed_sub) | (with_reducible apply ed_mul) | (with_reducible apply ed_mod) | (with_reducible apply ed_fdivP) | (with_reducible apply ed_pow) | (with_reducible apply ed_neg)
  | (with_reducible apply ed_lt) | (with_reducible apply ed_le) | (with_reducible apply ed_gt) | (with_reducible apply ed_ge)
  | (with_reducible apply ed_eqD) | (with_reducible apply ed_neD)
  | (with_reducible apply ed_ix) | (with_reducible apply ed_len) | (with_reducible apply ed_abs) | (with_reducible apply ed_gcd) | (with_reducible apply ed_isi)
  | (with_reducible apply ed_tup) | (with_reducible apply ed_tuple) | (with_reducible apply ed_andV) | (with_reducible apply ed_orV) | (with_reducible apply ed_notV)
  | (with_reducible apply od_some)
  | (with_reducible apply ef_lst) | (with_reducible apply ef_list) | (with_reducible apply ef_sl) | (with_reducible apply ef_cat)
  | (with_reducible apply EF.ed; with_reducible apply ef_lst) | (with_reducible apply EF.ed; with_reducible apply ef_list) | (with_reducible apply EF.ed; with_reducible apply ef_sl) | (with_reducible apply EF.ed; with_reducible apply ef_cat)
  | (with_reducible apply ed_call)
  | ((with_reducible show SeqD _ _); first | exact SeqD.l _ | exact SeqD.t _ | assumption)
  | ((with_reducible show Truth _ _); first | exact Truth.bool _ | exact Truth.int _ | exact Truth.l _ | exact Truth.t _)
  | ((with_reducible show SeqAt.shaped _ = true); exact rfl)
  | ((with_reducible show atI _ _ = some _); first | exact rfl | assumption)
  | ((with_reducible show kitB _ _ = some _); first | exact rfl | decide +kernel)
  | ((with_reducible show List.length _ = _); rfl)
  | ((with_reducible show List.length _ ≤ 100000); first | exact Nat.le_of_ble_eq_true rfl | (simp; done) | (simp; omega)))
local macro_rules | `(tactic| walk_at "ev") => `(tactic| repeat' walk_at "rt1")
def dueN (xs : List Int) (u v : Int × Int) : Nat := if xs.length < 2 ∨ lastZ xs = 0 then 1 else if v.1 * u.2 ≤ u.1 * v.2 then 2 else if (hor u.1 u.2 xs).1 = 0 ∨ (hor v.1 v.2 xs).1 = 0 ∨ turnsL u v xs ≠ 1 then 3 else 0
def wordS : Nat → Str
  | 0 => ""
  | 1 => "row"
  | 2 => "stretch"
  | _ => "alone"
def toldD (k : Nat) (p : PyData) : PyData := if k = 0 then .tuple [.str (wordS k), p] else .tuple [.str (wordS k), .none]
theorem due_le (xs : List Int) (u v : Int × Int) : dueN xs u v = 0 ∨ dueN xs u v = 1 ∨ dueN xs u v = 2 ∨ dueN xs u v = 3 := by
  unfold dueN
  split
  · omega
  · split
    · omega
    · split <;> omega
theorem due_ok {xs : List Int} {u v : Int × Int} (h : dueN xs u v = 0) : 2 ≤ xs.length ∧ lastZ xs ≠ 0 ∧ u.1 * v.2 < v.1 * u.2 ∧ (hor u.1 u.2 xs).1 ≠ 0 ∧ (hor v.1 v.2 xs).1 ≠ 0 ∧ turnsL u v xs = 1 := by
  unfold dueN at h
  split at h
  · omega
  · rename_i c1
    split at h
    · omega
    · rename_i c2
      split at h
      · omega
      · rename_i c3
        refine ⟨by omega, fun z => c1 (.inr z), by omega, fun z => c3 (.inl z), fun z => c3 (.inr (.inl z)), ?_⟩
        by_cases z : turnsL u v xs = 1
        · exact z
        · exact absurd (.inr (.inr z)) c3
theorem due_peg {xs : List Int} {u v : Int × Int} {n m : Nat} (h : dueN xs u v = 0) (hl : xs.length ≤ 100) (hb : Bd (2 ^ n) xs) (lu : Low m u) (lv : Low m v) : PegOk n m (bareL xs) u v := by
  obtain ⟨h1, h2, h3, h4, h5, h6⟩ := due_ok h
  have bl : (bareL xs).length = xs.length := List.length_map _
  have nz : ∀ {t b : Int}, (hor t b xs).1 ≠ 0 → (hor t b (bareL xs)).1 ≠ 0 := fun {t b} k z => k (by rw [hor_bare, z, Int.mul_zero])
  exact ⟨by omega, by omega, bare_good h2, bd_bare hb h2, lu, lv, h3, nz h4, nz h5, by rw [turns_bare h2]; exact h6⟩
/-! ### the promises -/
def F_peg (C1 C2 C3 : Addr) (ds : List PyData) (r : Res) : Prop := ∃ (d : PyData) (xs : List Int) (u v : Int × Int) (n m : Nat), ds = [d, pD u, pD v] ∧ SeqD d (rD xs) ∧ xs.length ≤ 40 ∧ Sz n xs ∧ n ≤ 8000 ∧ Low m u ∧ Low m v ∧ 1 ≤ m ∧ m ≤ 8000 ∧
  ((dueN xs u v = 0 ∧ r = .rt (pegD (bareL xs) u v)) ∨ (dueN xs u v = 1 ∧ r = .xc C1) ∨ (dueN xs u v = 2 ∧ r = .xc C2) ∨ (dueN xs u v = 3 ∧ r = .xc C3))
def F__law_due (ds : List PyData) (r : Res) : Prop := ∃ (xs : List Int) (u v : Int × Int) (n m : Nat), ds = [.list (rD xs), pD u, pD v] ∧ xs.length ≤ 40 ∧ Bd (2 ^ n) xs ∧ n ≤ 7000 ∧ Low m u ∧ Low m v ∧ 1 ≤ m ∧ m ≤ 7000 ∧ r = .rt (.str (wordS (dueN xs u v)))
def F__law_told (ds : List PyData) (r : Res) : Prop := ∃ (d : PyData) (xs : List Int) (u v : Int × Int) (n m : Nat), ds = [d, pD u, pD v] ∧ SeqD d (rD xs) ∧ xs.length ≤ 40 ∧ Sz n xs ∧ n ≤ 8000 ∧ Low m u ∧ Low m v ∧ 1 ≤ m ∧ m ≤ 8000 ∧ r = .rt (toldD (dueN xs u v) (pegD (bareL xs) u v))
def F_law (ds : List PyData) (r : Res) : Prop := ∃ ns : List Int, ns.length ≤ 63 ∧ ds = [.list (ns.map .int)] ∧ r = .rt (.bool true)
abbrev sp_peg (K : PySem.W.Frag) (C1 C2 C3 : Addr) : Sp := spD K 3 (F_peg C1 C2 C3)
abbrev sp__law_due (K : PySem.W.Frag) : Sp := spD K 3 F__law_due
abbrev sp__law_told (K : PySem.W.Frag) : Sp := spD K 3 F__law_told
abbrev sp_law (K : PySem.W.Frag) : Sp := spD K 1 F_law
def t_peg (K : PySem.W.Frag) (C_NoRow : Addr) (C_NoStretch : Addr) (C_NotAlone : Addr) (E : XK) : TS := (tSeq (tIfS (tOr (tTest (tOp (rI0 fun i j => .bl (decide (i < j))) (tLen K (tVar 0)) (tC (.int 2)))) (tTest (tOp (rEqD K) (tOp (rIx K) (tVar 0) (tUn (rU fun i => .int (-i)) (tC (.int 1)))) (tC (.int 0))))) (fun _ _ H => E (.ref C_NoRow) none H) tNext)
  (tSeq (tIfS (tNot (tTruth K (tCall (sp_below K) [] E0 (tCons (tVar 1) (tCons (tVar 2) tNil))))) (fun _ _ H => E (.ref C_NoStretch) none H) tNext)
  (tSeq (tIfS (tNot (tTruth K (tCall (sp_alone K) [] E0 (tCons (tVar 0) (tCons (tVar 1) (tCons (tVar 2) tNil)))))) (fun _ _ H => E (.ref C_NotAlone) none H) tNext)
  (tRet (tTup (tCons (tCB (rTupS K) (tCons (tCall (sp_bare K) [] E0 (tCons (tVar 0) tNil)) tNil)) (tCons (tVar 1) (tCons (tVar 2) tNil))))))))
def t__law_due (K : PySem.W.Frag) : TS := (tSeq (tIfS (tOr (tTest (tOp (rI0 fun i j => .bl (decide (i < j))) (tLen K (tVar 0)) (tC (.int 2)))) (tTest (tOp (rEqD K) (tOp (rIx K) (tVar 0) (tUn (rU fun i => .int (-i)) (tC (.int 1)))) (tC (.int 0))))) (tRet (tC (.str "row"))) tNext)
  (tSeq (tIfS (tTest (tOp (rI0 fun i j => .bl (decide (j ≤ i))) (tOp (rI CMulX fun i j => .int (i * j)) (tOp (rIx K) (tVar 1) (tC (.int 0))) (tOp (rIx K) (tVar 2) (tC (.int 1)))) (tOp (rI CMulX fun i j => .int (i * j)) (tOp (rIx K) (tVar 2) (tC (.int 0))) (tOp (rIx K) (tVar 1) (tC (.int 1)))))) (tRet (tC (.str "stretch"))) tNext)
  (tSeq (tIfS (tOr (tTest (tOp (rEqD K) (tCall (sp__law_value K) [] E0 (tCons (tVar 0) (tCons (tVar 1) tNil))) (tC (.int 0)))) (tOr (tTest (tOp (rEqD K) (tCall (sp__law_value K) [] E0 (tCons (tVar 0) (tCons (tVar 2) tNil))) (tC (.int 0)))) (tTest (tOp (rNeD K) (tCall (sp__law_turns K) [] E0 (tCons (tVar 0) (tCons (tVar 1) (tCons (tVar 2) tNil)))) (tC (.int 1)))))) (tRet (tC (.str "alone"))) tNext)
  (tRet (tC (.str ""))))))
abbrev N__law_word : List Str := ["_law_e", "_law_words"]
def t__law_word (K : PySem.W.Frag) (C_NoPart : Addr) (C_NoRow : Addr) (C_NoStretch : Addr) (C_NotAlone : Addr) (C_NoQuotient : Addr) : Addr → Value → Option Addr → TS := fun a cls d => (tSeq (tAsg (tOp (rCatS K) (tOp rRep (tLst (tCons (tC (.str "row")) tNil)) (tCB rInt1 (tCons (tCB (rIsX K a cls d) (tCons (tVar 0) (tCons (tC (.ref C_NoRow)) tNil))) tNil))) (tOp rRep (tLst (tCons (tC (.str "stretch")) tNil)) (tCB rInt1 (tCons (tCB (rIsX K a cls d) (tCons (tVar 0) (tCons (tC (.ref C_NoStretch)) tNil))) tNil)))) (gName 1))
  (tSeq (tAsg (tOp (rCatS K) (tVar 1) (tOp rRep (tLst (tCons (tC (.str "alone")) tNil)) (tCB rInt1 (tCons (tCB (rIsX K a cls d) (tCons (tVar 0) (tCons (tC (.ref C_NotAlone)) tNil))) tNil)))) (gName 1))
  (tSeq (tIfS (tOr (tTest (tOp (rNeD K) (tLen K (tVar 1)) (tC (.int 1)))) (tOr (tTruth K (tCB (rIsX K a cls d) (tCons (tVar 0) (tCons (tTup (tCls [.ref C_NoPart, .ref C_NoQuotient])) tNil)))) (tNot (tTruth K (tCB (rIsX K a cls d) (tCons (tVar 0) (tCons (tC (.ty "ValueError")) tNil))))))) (tRet (tC (.str "other"))) tNext)
  (tRet (tOp (rIx K) (tVar 1) (tC (.int 0)))))))
def t__law_told (K : PySem.W.Frag) (C_PegError : Addr) (C_NoPart : Addr) (C_NoRow : Addr) (C_NoStretch : Addr) (C_NotAlone : Addr) (C_NoQuotient : Addr) : TS := (tSeq (tTryAs K (sp_peg K C_NoRow C_NoStretch C_NotAlone) 3 4 C_PegError (tCons (tVar 0) (tCons (tVar 1) (tCons (tVar 2) tNil))) (fun a cls d => tRet (tTup (tCons (tCallW 3 N__law_word (t__law_word K C_NoPart C_NoRow C_NoStretch C_NotAlone C_NoQuotient) a cls d) (tCons (tC .non) tNil)))))
  (tRet (tTup (tCons (tC (.str "")) (tCons (tVar 4) tNil)))))
def t_law (K : PySem.W.Frag) : TS := (tSeq (tAsg (tCall (sp__law_row K) [] E0 (tCons (tVar 0) (tCons (tC (.int 8)) (tCons (tOp (rI (fun _ j => j ≠ 0) fun i j => .int (i.fmod j)) (tCall (sp__law_cell_at K) [] E0 (tCons (tVar 0) (tCons (tC (.int 0)) tNil))) (tC (.int 7))) tNil)))) (gName 1))
  (tSeq (tIfS (tAnd (tTest (tOp (rEqD K) (tOp (rI (fun _ j => j ≠ 0) fun i j => .int (i.fmod j)) (tOp (rI CDivQ fun i j => .int (i.fdiv j)) (tCall (sp__law_cell_at K) [] E0 (tCons (tVar 0) (tCons (tC (.int 0)) tNil))) (tC (.int 7))) (tC (.int 2))) (tC (.int 1)))) (tTest (tOp (rNeD K) (tVar 1) (tLst tNil)))) (tAsg (tCall (sp__law_by K) [] E0 (tCons (tVar 1) (tCons (tLst (tCons (tOp (rI0 fun i j => .int (i - j)) (tOp (rI (fun _ j => j ≠ 0) fun i j => .int (i.fmod j)) (tCall (sp__law_cell_at K) [] E0 (tCons (tVar 0) (tCons (tC (.int 6)) tNil))) (tC (.int 41))) (tC (.int 20))) (tCons (tOp (rI0 fun i j => .int (i + j)) (tC (.int 1)) (tOp (rI (fun _ j => j ≠ 0) fun i j => .int (i.fmod j)) (tCall (sp__law_cell_at K) [] E0 (tCons (tVar 0) (tCons (tC (.int 7)) tNil))) (tC (.int 9)))) tNil))) tNil))) (gName 1)) tNext)
  (tSeq (tAsg (tCall (sp__law_end K) [] E0 (tCons (tCall (sp__law_cell_at K) [] E0 (tCons (tVar 0) (tCons (tC (.int 2)) tNil))) (tCons (tCall (sp__law_cell_at K) [] E0 (tCons (tVar 0) (tCons (tC (.int 3)) tNil))) tNil))) (gName 2))
  (tSeq (tAsg (tCall (sp__law_end K) [] E0 (tCons (tCall (sp__law_cell_at K) [] E0 (tCons (tVar 0) (tCons (tC (.int 4)) tNil))) (tCons (tCall (sp__law_cell_at K) [] E0 (tCons (tVar 0) (tCons (tC (.int 5)) tNil))) tNil))) (gName 3))
  (tSeq (tIfS (tTest (tOp (rEqD K) (tOp (rI (fun _ j => j ≠ 0) fun i j => .int (i.fmod j)) (tOp (rI CDivQ fun i j => .int (i.fdiv j)) (tCall (sp__law_cell_at K) [] E0 (tCons (tVar 0) (tCons (tC (.int 1)) tNil))) (tC (.int 4))) (tC (.int 2))) (tC (.int 1)))) (tAsg (tCall (sp__law_part K) [] E0 (tCons (tOp (rI0 fun i j => .int (i + j)) (tOp (rI CMulX fun i j => .int (i * j)) (tOp (rIx K) (tVar 2) (tC (.int 0))) (tOp (rIx K) (tVar 3) (tC (.int 1)))) (tOp (rIx K) (tVar 2) (tC (.int 1)))) (tCons (tOp (rI CMulX fun i j => .int (i * j)) (tOp (rIx K) (tVar 2) (tC (.int 1))) (tOp (rIx K) (tVar 3) (tC (.int 1)))) tNil))) (gName 3)) tNext)
  (tSeq (tAsg (tCB (rListS K) (tCons (tVar 1) tNil)) (gName 4))
  (tSeq (tAsg (tCall (sp__law_told K) [] E0 (tCons (tVar 4) (tCons (tVar 2) (tCons (tVar 3) tNil)))) (gName 5))
  (tSeq (tIfS (tOr (tTest (tOp (rNeD K) (tOp (rIx K) (tVar 5) (tC (.int 0))) (tCall (sp__law_due K) [] E0 (tCons (tVar 1) (tCons (tVar 2) (tCons (tVar 3) tNil)))))) (tOr (tTest (tOp (rNeD K) (tVar 4) (tVar 1))) (tTest (tOp (rNeD K) (tCall (sp__law_told K) [] E0 (tCons (tCB (rTupS K) (tCons (tVar 1) tNil)) (tCons (tVar 2) (tCons (tVar 3) tNil)))) (tVar 5))))) (tRet (tC (.bl false))) tNext)
  (tSeq (tIfS (tAnd (tTest (tOp (rEqD K) (tOp (rIx K) (tVar 5) (tC (.int 0))) (tC (.str "")))) (tNot (tTruth K (tCall (sp__law_is_peg K) [] E0 (tCons (tOp (rIx K) (tVar 5) (tC (.int 1))) tNil))))) (tRet (tC (.bl false))) tNext)
  (tSeq (tIfS (tAnd (tTest (tOp (rEqD K) (tOp (rIx K) (tVar 5) (tC (.int 0))) (tC (.str "")))) (tTest (tOp (rNeD K) (tOp (rIx K) (tVar 5) (tC (.int 1))) (tTup (tCons (tCB (rTupS K) (tCons (tCall (sp__law_smallest K) [] E0 (tCons (tVar 1) tNil)) tNil)) (tCons (tVar 2) (tCons (tVar 3) tNil))))))) (tRet (tC (.bl false))) tNext)
  (tSeq (tAsg (tCall (sp_of_part K) [] E0 (tCons (tVar 2) tNil)) (gName 6))
  (tSeq (tIfS (tOr (tNot (tTruth K (tCall (sp__law_is_peg K) [] E0 (tCons (tVar 6) tNil)))) (tTest (tOp (rNeD K) (tOp (rIx K) (tVar 6) (tC (.int 0))) (tTup (tCons (tOp (rI0 fun i j => .int (i - j)) (tC (.int 0)) (tOp (rIx K) (tVar 2) (tC (.int 0)))) (tCons (tOp (rIx K) (tVar 2) (tC (.int 1))) tNil)))))) (tRet (tC (.bl false))) tNext)
  (tRet (tOp (rEqD K) (tSl (rSlS K) (tVar 6) (tPart (tC (.int 1))) tNoPart) (tTup (tCons (tCall (sp__law_part K) [] E0 (tCons (tOp (rI0 fun i j => .int (i - j)) (tOp (rIx K) (tVar 2) (tC (.int 0))) (tOp (rIx K) (tVar 2) (tC (.int 1)))) (tCons (tOp (rIx K) (tVar 2) (tC (.int 1))) tNil))) (tCons (tCall (sp__law_part K) [] E0 (tCons (tOp (rI0 fun i j => .int (i + j)) (tOp (rIx K) (tVar 2) (tC (.int 0))) (tOp (rIx K) (tVar 2) (tC (.int 1)))) (tCons (tOp (rIx K) (tVar 2) (tC (.int 1))) tNil))) tNil)))))))))))))))))
abbrev N_peg : List Str := ["row", "low", "high"]
abbrev N__law_due : List Str := ["_law_row_here", "_law_low", "_law_high"]
abbrev N__law_told : List Str := ["_law_row_here", "_law_low", "_law_high", "_law_e", "_law_found"]
abbrev N_law : List Str := ["_law_script", "_law_row_here", "_law_low", "_law_high", "_law_handed", "_law_told_here", "_law_found"]
structure Txt (K : PySem.W.Frag) (mg : Str → Option Value) (C_PegError C_NoPart C_NoRow C_NoStretch C_NotAlone C_NoQuotient : Addr) : Prop where
  b_gcd : mg "gcd" = some (.builtin "math.gcd")
  b_reversed : mg "reversed" = none
  b_lcm : mg "lcm" = some (.builtin "math.lcm")
  b_list : mg "list" = none
  b_len : mg "len" = none
  b_range : mg "range" = none
  b_tuple : mg "tuple" = none
  b_int : mg "int" = none
  b_isinstance : mg "isinstance" = none
  b_bool : mg "bool" = none
  b_abs : mg "abs" = none
  b_ValueError : mg "ValueError" = none
  m_PegError : mg "PegError" = some (.ref C_PegError)
  m_NoPart : mg "NoPart" = some (.ref C_NoPart)
  m_NoRow : mg "NoRow" = some (.ref C_NoRow)
  m_NoStretch : mg "NoStretch" = some (.ref C_NoStretch)
  m_NotAlone : mg "NotAlone" = some (.ref C_NotAlone)
  m_NoQuotient : mg "NoQuotient" = some (.ref C_NoQuotient)
  x_NoPart : PySem.W.excIn K C_NoPart [.type "ValueError", .type "Exception", .type "BaseException", .type "object"] "ValueError.__new__" = true
  k_NoPart : PySem.W.keepIn K (.ref C_NoPart) = true
  s_NoPart : PySem.W.subIn K (.ref C_NoPart) (.type "BaseException") = some true
  t_NoPart : PySem.W.typeIn K (.ref C_NoPart) = some (.type "type")
  x_NoRow : PySem.W.excIn K C_NoRow [.type "ValueError", .type "Exception", .type "BaseException", .type "object"] "ValueError.__new__" = true
  k_NoRow : PySem.W.keepIn K (.ref C_NoRow) = true
  s_NoRow : PySem.W.subIn K (.ref C_NoRow) (.type "BaseException") = some true
  t_NoRow : PySem.W.typeIn K (.ref C_NoRow) = some (.type "type")
  x_NoStretch : PySem.W.excIn K C_NoStretch [.type "ValueError", .type "Exception", .type "BaseException", .type "object"] "ValueError.__new__" = true
  k_NoStretch : PySem.W.keepIn K (.ref C_NoStretch) = true
  s_NoStretch : PySem.W.subIn K (.ref C_NoStretch) (.type "BaseException") = some true
  t_NoStretch : PySem.W.typeIn K (.ref C_NoStretch) = some (.type "type")
  x_NotAlone : PySem.W.excIn K C_NotAlone [.type "ValueError", .type "Exception", .type "BaseException", .type "object"] "ValueError.__new__" = true
  k_NotAlone : PySem.W.keepIn K (.ref C_NotAlone) = true
  s_NotAlone : PySem.W.subIn K (.ref C_NotAlone) (.type "BaseException") = some true
  t_NotAlone : PySem.W.typeIn K (.ref C_NotAlone) = some (.type "type")
  e_NoRow : ExcC K C_NoRow
  em_NoRow : PySem.W.exmOne K (.ref C_NoRow) (.ref C_PegError) = some true
  i_NoRow_NoPart : PySem.W.kitOne K (.ref C_NoRow) (.ref C_NoPart) = some false
  i_NoRow_NoRow : PySem.W.kitOne K (.ref C_NoRow) (.ref C_NoRow) = some true
  i_NoRow_NoStretch : PySem.W.kitOne K (.ref C_NoRow) (.ref C_NoStretch) = some false
  i_NoRow_NotAlone : PySem.W.kitOne K (.ref C_NoRow) (.ref C_NotAlone) = some false
  i_NoRow_NoQuotient : PySem.W.kitOne K (.ref C_NoRow) (.ref C_NoQuotient) = some false
  i_NoRow_b : PySem.W.kitOne K (.ref C_NoRow) (.type "ValueError") = some true
  e_NoStretch : ExcC K C_NoStretch
  em_NoStretch : PySem.W.exmOne K (.ref C_NoStretch) (.ref C_PegError) = some true
  i_NoStretch_NoPart : PySem.W.kitOne K (.ref C_NoStretch) (.ref C_NoPart) = some false
  i_NoStretch_NoRow : PySem.W.kitOne K (.ref C_NoStretch) (.ref C_NoRow) = some false
  i_NoStretch_NoStretch : PySem.W.kitOne K (.ref C_NoStretch) (.ref C_NoStretch) = some true
  i_NoStretch_NotAlone : PySem.W.kitOne K (.ref C_NoStretch) (.ref C_NotAlone) = some false
  i_NoStretch_NoQuotient : PySem.W.kitOne K (.ref C_NoStretch) (.ref C_NoQuotient) = some false
  i_NoStretch_b : PySem.W.kitOne K (.ref C_NoStretch) (.type "ValueError") = some true
  e_NotAlone : ExcC K C_NotAlone
  em_NotAlone : PySem.W.exmOne K (.ref C_NotAlone) (.ref C_PegError) = some true
  i_NotAlone_NoPart : PySem.W.kitOne K (.ref C_NotAlone) (.ref C_NoPart) = some false
  i_NotAlone_NoRow : PySem.W.kitOne K (.ref C_NotAlone) (.ref C_NoRow) = some false
  i_NotAlone_NoStretch : PySem.W.kitOne K (.ref C_NotAlone) (.ref C_NoStretch) = some false
  i_NotAlone_NotAlone : PySem.W.kitOne K (.ref C_NotAlone) (.ref C_NotAlone) = some true
  i_NotAlone_NoQuotient : PySem.W.kitOne K (.ref C_NotAlone) (.ref C_NoQuotient) = some false
  i_NotAlone_b : PySem.W.kitOne K (.ref C_NotAlone) (.type "ValueError") = some true
theorem ed_str {K : PySem.W.Frag} {ρ : Rho} {s : Str} : ED K (tC (.str s)) ρ (.str s) := fun G H σ I Q q => q _ G H (Step.refl I.gh) (.str s)
theorem eqv_str (s t : Str) : PyData.eqv (.str s) (.str t) = decide (s = t) := by
  show (s == t) = decide (s = t)
  by_cases h : s = t
  · rw [h]; simp
  · rw [decide_eq_false h]; exact beq_eq_false_iff_ne.mpr h
theorem shaped_peg (xs : List Int) (u v : Int × Int) : SeqAt.shaped (pegD xs u v) = true := by
  show ((PyData.canLayAll0 (rD xs) && true) && decide (max (PyData.depthAll (rD xs) + 1) 1 + 1 ≤ 64)) = true
  rw [canLayAll_rD, depthAll_rD]; rfl
theorem eqv_peg (xs : List Int) (u v : Int × Int) : PyData.eqv (pegD xs u v) (pegD xs u v) = true := by
  have e := eqvAll_rD xs xs
  have e1 := eqv_pD u u
  have e2 := eqv_pD v v
  show (PyData.eqvAll (rD xs) (rD xs) && (PyData.eqv (pD u) (pD u) && (PyData.eqv (pD v) (pD v) && true))) = true
  rw [e, e1, e2]; simp
theorem word_str : ∀ k : Nat, PyData.strOk (wordS k) = true
  | 0 => by decide +kernel
  | 1 => by decide +kernel
  | 2 => by decide +kernel
  | _ + 3 => by show PyData.strOk "alone" = true; decide +kernel
theorem shaped_told (k : Nat) (xs : List Int) (u v : Int × Int) : SeqAt.shaped (toldD k (pegD xs u v)) = true := by
  unfold toldD
  split
  · show ((PyData.strOk (wordS k) && ((PyData.canLayAll0 (rD xs) && true) && true)) && decide (max 0 (max (max (PyData.depthAll (rD xs) + 1) 1 + 1) 0) + 1 ≤ 64)) = true
    rw [canLayAll_rD, depthAll_rD, word_str]; rfl
  · show ((PyData.strOk (wordS k) && true) && true) = true
    rw [word_str]; rfl
theorem eqv_told (k : Nat) (xs : List Int) (u v : Int × Int) : PyData.eqv (toldD k (pegD xs u v)) (toldD k (pegD xs u v)) = true := by
  have e := eqv_str (wordS k) (wordS k)
  unfold toldD
  split
  · show (PyData.eqv (.str (wordS k)) (.str (wordS k)) && (PyData.eqv (pegD xs u v) (pegD xs u v) && true)) = true
    rw [e, eqv_peg]; simp
  · show (PyData.eqv (.str (wordS k)) (.str (wordS k)) && (true && true)) = true
    rw [e]; simp
theorem told_seq (k : Nat) (p : PyData) : ∃ e, SeqD (toldD k p) [.str (wordS k), e] ∧ (k = 0 → e = p) := by
  unfold toldD
  split
  · exact ⟨p, SeqD.t _, fun _ => rfl⟩
  · rename_i h; exact ⟨.none, SeqD.t _, fun z => absurd z h⟩
section
variable {K : PySem.W.Frag} {mg : Str → Option Value} {C_PegError C_NoPart C_NoRow C_NoStretch C_NotAlone C_NoQuotient : Addr}
theorem pure_peg (ds : List PyData) (r : Res) (h : F_peg C_NoRow C_NoStretch C_NotAlone ds r) (B0 B : Hp) (E : XK) (hE : ∀ D, r = .xc D → ∀ G H, Step B0 B G H → E (.ref D) none H) : SD K B0 B (t_peg K C_NoRow C_NoStretch C_NotAlone E) (startR N_peg ds) (fin r) := by
  obtain ⟨d, xs, u, v, n, m, rfl, hs, hl, hsz, hn, lu, lv, m1, hm, h⟩ := h
  unfold t_peg
  refine sd_seq (sd_if (td_or (td_test (ed_lt (ed_lenR (ed_var rfl) hs) ed_int)) fun hb => td_test (ed_eqI (ed_ix (ed_var rfl) hs (ed_neg ed_int) (seq_last hs (by rintro rfl; simp at hb))) ed_int)) (fun hb => ?_) (fun hb => ?_))
  · have c1 : xs.length < 2 ∨ lastZ xs = 0 := by
      rw [Bool.or_eq_true] at hb
      rcases hb with hb | hb
      · have := of_decide_eq_true hb; omega
      · exact .inr (of_decide_eq_true hb)
    have e : dueN xs u v = 1 := by unfold dueN; rw [if_pos c1]
    rcases h with ⟨z, _⟩ | ⟨_, rfl⟩ | ⟨z, _⟩ | ⟨z, _⟩
    · omega
    · exact sd_raise (hE _ rfl)
    · omega
    · omega
  · have c1 : ¬ (xs.length < 2 ∨ lastZ xs = 0) := by
      rw [Bool.or_eq_false_iff] at hb
      have h1 := of_decide_eq_false hb.1
      have h2 := of_decide_eq_false hb.2
      omega
    refine sd_next ?_
    refine sd_seq (sd_if (td_not (td_truth (ed_call (F := F_below) (ad_cons (ed_var rfl) (ad_cons (ed_var rfl) ad_nil)) ⟨u, v, m, rfl, ⟨lu.l1, lu.l2, lv.l1, lv.l2⟩, by omega, rfl⟩ rfl) (Truth.bool _))) (fun hb => ?_) (fun hb => ?_))
    · have c2 : ¬ u.1 * v.2 < v.1 * u.2 := by simpa using hb
      have e : dueN xs u v = 2 := by unfold dueN; rw [if_neg c1, if_pos (by omega)]
      rcases h with ⟨z, _⟩ | ⟨z, _⟩ | ⟨_, rfl⟩ | ⟨z, _⟩
      · omega
      · omega
      · exact sd_raise (hE _ rfl)
      · omega
    · have c2 : u.1 * v.2 < v.1 * u.2 := by simpa using hb
      refine sd_next ?_
      have al : ∀ {b : Bool}, (decide (sgn (hor u.1 u.2 xs).1 * sgn (hor v.1 v.2 xs).1 = -1) && decide ((turnsL u v xs : Int) = 1)) = b → (b = true ↔ ¬ ((hor u.1 u.2 xs).1 = 0 ∨ (hor v.1 v.2 xs).1 = 0 ∨ turnsL u v xs ≠ 1)) := fun {b} hb => by
        subst hb
        rw [Bool.and_eq_true, decide_eq_true_eq, decide_eq_true_eq, sgn_pm]
        constructor
        · rintro ⟨k1, k2⟩ (z | z | z)
          · rw [z] at k1; simp at k1
          · rw [z] at k1; simp at k1
          · omega
        · intro k
          have k3 : turnsL u v xs = 1 := by
            by_cases z : turnsL u v xs = 1
            · exact z
            · exact absurd (.inr (.inr z)) k
          refine ⟨(turns_par lu.pos lv.pos (by rintro rfl; simp at c1) (fun z => k (.inl z)) (fun z => k (.inr (.inl z)))).mpr (by rw [k3]), by omega⟩
      refine sd_seq (sd_if (td_not (td_truth (ed_call (F := F_alone) (ad_cons (ed_var rfl) (ad_cons (ed_var rfl) (ad_cons (ed_var rfl) ad_nil))) ⟨d, xs, u, v, n, m, rfl, hs, hl, hsz, by omega, lu, lv, m1, hm, rfl⟩ rfl) (Truth.bool _))) (fun hb => ?_) (fun hb => ?_))
      · have c3 : (hor u.1 u.2 xs).1 = 0 ∨ (hor v.1 v.2 xs).1 = 0 ∨ turnsL u v xs ≠ 1 := by
          by_cases z : (hor u.1 u.2 xs).1 = 0 ∨ (hor v.1 v.2 xs).1 = 0 ∨ turnsL u v xs ≠ 1
          · exact z
          · have := (al rfl).mpr z
            rw [this] at hb; cases hb
        have e : dueN xs u v = 3 := by unfold dueN; rw [if_neg c1, if_neg (by omega), if_pos c3]
        rcases h with ⟨z, _⟩ | ⟨z, _⟩ | ⟨z, _⟩ | ⟨_, rfl⟩
        · omega
        · omega
        · omega
        · exact sd_raise (hE _ rfl)
      · have c3 := (al rfl).mp (by simpa using hb)
        have e : dueN xs u v = 0 := by unfold dueN; rw [if_neg c1, if_neg (by omega), if_neg c3]
        rcases h with ⟨_, rfl⟩ | ⟨z, _⟩ | ⟨z, _⟩ | ⟨z, _⟩
        · refine sd_next ?_
          exact sd_ret (d := pegD (bareL xs) u v) (ed_tup (ad_cons (ed_tuple (EF.ed (ef_call (F := F_bare) (ad_cons (ed_var rfl) ad_nil) ⟨d, xs, n, rfl, hs, fun z => c1 (.inr z), by omega, hsz, by omega, rfl⟩ rfl)) (SeqD.l _)) (ad_cons (ed_var rfl) (ad_cons (ed_var rfl) ad_nil))) (Nat.le_of_ble_eq_true rfl)) rfl
        · omega
        · omega
        · omega
theorem pure__law_due (ds : List PyData) (r : Res) (h : F__law_due ds r) (B0 B : Hp) : SD K B0 B (t__law_due K) (startR N__law_due ds) (fin r) := by
  obtain ⟨xs, u, v, n, m, rfl, hl, hb0, hn, lu, lv, m1, hm, rfl⟩ := h
  unfold t__law_due
  have hs : SeqD (.list (rD xs)) (rD xs) := SeqD.l _
  have su := pD_seq u
  have sv := pD_seq v
  have z : (xs.length + 2) * (m + 1) ≤ 42 * 7001 := Nat.mul_le_mul (by omega) (by omega)
  refine sd_seq (sd_if (td_or (td_test (ed_lt (ed_lenR (ed_var rfl) hs) ed_int)) fun hb => td_test (ed_eqI (ed_ix (ed_var rfl) hs (ed_neg ed_int) (seq_last hs (by rintro rfl; simp at hb))) ed_int)) (fun hb => ?_) (fun hb => ?_))
  · have c1 : xs.length < 2 ∨ lastZ xs = 0 := by
      rw [Bool.or_eq_true] at hb
      rcases hb with hb | hb
      · have := of_decide_eq_true hb; omega
      · exact .inr (of_decide_eq_true hb)
    have e : dueN xs u v = 1 := by unfold dueN; rw [if_pos c1]
    rw [e]
    exact sd_ret ed_str rfl
  · have c1 : ¬ (xs.length < 2 ∨ lastZ xs = 0) := by
      rw [Bool.or_eq_false_iff] at hb
      have h1 := of_decide_eq_false hb.1
      have h2 := of_decide_eq_false hb.2
      omega
    refine sd_next ?_
    refine sd_seq (sd_if (td_test (ed_ge (ed_mul (ed_ix (ed_var rfl) su ed_int rfl) (ed_ix (ed_var rfl) sv ed_int rfl) (lu.l1.cm lv.l2 (by omega))) (ed_mul (ed_ix (ed_var rfl) sv ed_int rfl) (ed_ix (ed_var rfl) su ed_int rfl) (lv.l1.cm lu.l2 (by omega))))) (fun hb => ?_) (fun hb => ?_))
    · have c2 : v.1 * u.2 ≤ u.1 * v.2 := of_decide_eq_true hb
      have e : dueN xs u v = 2 := by unfold dueN; rw [if_neg c1, if_pos c2]
      rw [e]
      exact sd_ret ed_str rfl
    · have c2 : ¬ v.1 * u.2 ≤ u.1 * v.2 := of_decide_eq_false hb
      refine sd_next ?_
      have val : ∀ (i : Nat) (w : Int × Int) (ρ : Rho), Low m w → ρ[0]? = some (some (.d (.list (rD xs)))) → ρ[i]? = some (some (.d (pD w))) → ED K (tCall (sp__law_value K) [] E0 (tCons (tVar 0) (tCons (tVar i) tNil))) ρ (.int (hor w.1 w.2 xs).1) :=
        fun i w ρ l h1 h2 => ed_call (F := F__law_value) (ad_cons (ed_var h1) (ad_cons (ed_var h2) ad_nil)) ⟨_, xs, w.1, w.2, n + 1, m, rfl, hs, by omega, hb0.sz, l.l1, l.l2, m1, by omega, rfl⟩ rfl
      refine sd_seq (sd_if (td_or (td_test (ed_eqI (val 1 u _ lu rfl rfl) ed_int)) fun _ => td_or (td_test (ed_eqI (val 2 v _ lv rfl rfl) ed_int)) fun _ => td_test (ed_neI (ed_call (F := F__law_turns) (ad_cons (ed_var rfl) (ad_cons (ed_var rfl) (ad_cons (ed_var rfl) ad_nil))) ⟨_, xs, u, v, n, m, rfl, hs, by omega, hb0, lu.l1, lu.l2, lv.l1, lv.l2, by omega, by omega, rfl⟩ rfl) ed_int)) (fun hb => ?_) (fun hb => ?_))
      · have c3 : (hor u.1 u.2 xs).1 = 0 ∨ (hor v.1 v.2 xs).1 = 0 ∨ turnsL u v xs ≠ 1 := by
          rw [Bool.or_eq_true, Bool.or_eq_true] at hb
          rcases hb with hb | hb | hb
          · exact .inl (of_decide_eq_true hb)
          · exact .inr (.inl (of_decide_eq_true hb))
          · refine .inr (.inr fun z => ?_)
            rw [z] at hb; simp at hb
        have e : dueN xs u v = 3 := by unfold dueN; rw [if_neg c1, if_neg c2, if_pos c3]
        rw [e]
        exact sd_ret ed_str rfl
      · have c3 : ¬ ((hor u.1 u.2 xs).1 = 0 ∨ (hor v.1 v.2 xs).1 = 0 ∨ turnsL u v xs ≠ 1) := by
          rw [Bool.or_eq_false_iff, Bool.or_eq_false_iff] at hb
          rintro (z | z | z)
          · exact of_decide_eq_false hb.1 z
          · exact of_decide_eq_false hb.2.1 z
          · have k := hb.2.2
            have : (turnsL u v xs : Int) = 1 := by simpa using k
            omega
        have e : dueN xs u v = 0 := by unfold dueN; rw [if_neg c1, if_neg c2, if_neg c3]
        rw [e]
        refine sd_next ?_
        exact sd_ret ed_str rfl
/-- the word of an error -/
theorem word_sd {C : Addr} (e : ExcC K C) {b1 b2 b3 : Bool} (h1 : PySem.W.kitOne K (.ref C) (.ref C_NoRow) = some b1) (h2 : PySem.W.kitOne K (.ref C) (.ref C_NoStretch) = some b2) (h3 : PySem.W.kitOne K (.ref C) (.ref C_NotAlone) = some b3) (hp : PySem.W.kitOne K (.ref C) (.ref C_NoPart) = some false) (hq : PySem.W.kitOne K (.ref C) (.ref C_NoQuotient) = some false) (hv : PySem.W.kitOne K (.ref C) (.type "ValueError") = some true)
    {s : Str} (hs : ((List.replicate b1.toNat [PyData.str "row"]).flatten ++ (List.replicate b2.toNat [PyData.str "stretch"]).flatten) ++ (List.replicate b3.toNat [PyData.str "alone"]).flatten = [.str s]) (a : Addr) (B0 B : Hp) :
    SD K B0 B (t__law_word K C_NoPart C_NoRow C_NoStretch C_NotAlone C_NoQuotient a (.ref C) none) [some (.v (.ref a)), none] (fin (.rt (.str s))) := by
  unfold t__law_word
  have rep : ∀ {c : Addr} {b : Bool} {w : Str} (ρ : Rho), ρ[0]? = some (some (.v (.ref a))) → PySem.W.kitOne K (.ref C) (.ref c) = some b → EF K (tOp rRep (tLst (tCons (tC (.str w)) tNil)) (tCB rInt1 (tCons (tCB (rIsX K a (.ref C) none) (tCons (tVar 0) (tCons (tC (.ref c)) tNil))) tNil))) ρ (List.replicate b.toNat [PyData.str w]).flatten := fun {c b w} ρ h k =>
    ef_rep (ef_lst (ad_cons ed_str ad_nil) (Nat.le_of_ble_eq_true rfl)) ((ed_int1B (ed_isW h e (.own _) k)).cast (by cases b <;> rfl)) (by cases b <;> decide) (by show 1 ≤ 10; decide)
  have rl : ∀ (b : Bool) (w : Str), (List.replicate b.toNat [PyData.str w]).flatten.length ≤ 1 := fun b w => by cases b <;> simp
  refine sd_seq (sd_set (EF.ed (ef_cat (EF.ed (rep _ rfl h1)) (EF.ed (rep _ rfl h2)) (by have := rl b1 "row"; have := rl b2 "stretch"; omega))) ?_)
  refine sd_seq (sd_set (d := .list [.str s]) ((EF.ed (ef_cat (ed_var rfl) (EF.ed (rep _ rfl h3)) (by rw [List.length_append]; have := rl b1 "row"; have := rl b2 "stretch"; have := rl b3 "alone"; omega))).cast (by rw [hs])) ?_)
  refine sd_seq (sd_if (b := false) ((td_or (td_test (ed_neI ((ed_len (ed_var rfl) (SeqD.l [PyData.str s])).cast (show PyData.int ((1 : Nat) : Int) = .int 1 from rfl)) ed_int)) fun _ => td_or (td_truth (ed_isWt (us := [.ref C_NoPart, .ref C_NoQuotient]) rfl e (.cons (.own _) (.cons (.own _) .nil)) (show 2 ≤ 1000 from by decide) (kitAny_cons hp (fun _ => kitAny_cons hq (fun _ => rfl) (fun z => nomatch z)) (fun z => nomatch z))) (Truth.bool _)) fun _ => td_not (td_truth (ed_isW rfl e (.ty _) hv) (Truth.bool _))).cast rfl) (fun hb => nomatch hb) (fun _ => ?_))
  refine sd_next ?_
  exact sd_ret (ed_ix (ed_var rfl) (SeqD.l _) ed_int rfl) rfl
theorem pure__law_told (T : Txt K mg C_PegError C_NoPart C_NoRow C_NoStretch C_NotAlone C_NoQuotient) (ds : List PyData) (r : Res) (h : F__law_told ds r) (B0 B : Hp) : SD K B0 B (t__law_told K C_PegError C_NoPart C_NoRow C_NoStretch C_NotAlone C_NoQuotient) (startR N__law_told ds) (fin r) := by
  obtain ⟨d, xs, u, v, n, m, rfl, hs, hl, hsz, hn, lu, lv, m1, hm, rfl⟩ := h
  unfold t__law_told
  have fp : ∀ r, ((dueN xs u v = 0 ∧ r = .rt (pegD (bareL xs) u v)) ∨ (dueN xs u v = 1 ∧ r = .xc C_NoRow) ∨ (dueN xs u v = 2 ∧ r = .xc C_NoStretch) ∨ (dueN xs u v = 3 ∧ r = .xc C_NotAlone)) → F_peg C_NoRow C_NoStretch C_NotAlone [d, pD u, pD v] r := fun r h => ⟨d, xs, u, v, n, m, rfl, hs, hl, hsz, hn, lu, lv, m1, hm, h⟩
  refine sd_seq (sd_tryAs (ad_cons (ed_var rfl) (ad_cons (ed_var rfl) (ad_cons (ed_var rfl) ad_nil))) rfl (show 3 < 5 from by decide) ?_)
  rcases due_le xs u v with k | k | k | k
  · refine .inl ⟨_, fp _ (.inl ⟨k, rfl⟩), ?_⟩
    rw [k]
    exact sd_ret (d := toldD 0 (pegD (bareL xs) u v)) (ed_tup (ad_cons ed_str (ad_cons (ed_var rfl) ad_nil)) (Nat.le_of_ble_eq_true rfl)) rfl
  · refine .inr ⟨C_NoRow, fp _ (.inr (.inl ⟨k, rfl⟩)), T.em_NoRow, fun a => ?_⟩
    rw [k]
    exact sd_ret (d := toldD 1 (pegD (bareL xs) u v)) (ed_tup (ad_cons (ed_callW rfl (show 1 ≤ 2 from by decide) fun B0 B => word_sd T.e_NoRow T.i_NoRow_NoRow T.i_NoRow_NoStretch T.i_NoRow_NotAlone T.i_NoRow_NoPart T.i_NoRow_NoQuotient T.i_NoRow_b rfl a B0 B) (ad_cons ed_non ad_nil)) (Nat.le_of_ble_eq_true rfl)) rfl
  · refine .inr ⟨C_NoStretch, fp _ (.inr (.inr (.inl ⟨k, rfl⟩))), T.em_NoStretch, fun a => ?_⟩
    rw [k]
    exact sd_ret (d := toldD 2 (pegD (bareL xs) u v)) (ed_tup (ad_cons (ed_callW rfl (show 1 ≤ 2 from by decide) fun B0 B => word_sd T.e_NoStretch T.i_NoStretch_NoRow T.i_NoStretch_NoStretch T.i_NoStretch_NotAlone T.i_NoStretch_NoPart T.i_NoStretch_NoQuotient T.i_NoStretch_b rfl a B0 B) (ad_cons ed_non ad_nil)) (Nat.le_of_ble_eq_true rfl)) rfl
  · refine .inr ⟨C_NotAlone, fp _ (.inr (.inr (.inr ⟨k, rfl⟩))), T.em_NotAlone, fun a => ?_⟩
    rw [k]
    exact sd_ret (d := toldD 3 (pegD (bareL xs) u v)) (ed_tup (ad_cons (ed_callW rfl (show 1 ≤ 2 from by decide) fun B0 B => word_sd T.e_NotAlone T.i_NotAlone_NoRow T.i_NotAlone_NoStretch T.i_NotAlone_NotAlone T.i_NotAlone_NoPart T.i_NotAlone_NoQuotient T.i_NotAlone_b rfl a B0 B) (ad_cons ed_non ad_nil)) (Nat.le_of_ble_eq_true rfl)) rfl
theorem pure_law (ds : List PyData) (r : Res) (h : F_law ds r) (B0 B : Hp) : SD K B0 B (t_law K) (startR N_law ds) (fin r) := by
  obtain ⟨ns, hl, rfl, rfl⟩ := h
  unfold t_law
  show SD K B0 B _ [some (.d (.list (rD ns))), none, none, none, none, none, none] _
  have cell : ∀ (k : Nat) (ρ : Rho), ρ[0]? = some (some (.d (.list (rD ns)))) → ED K (tCall (sp__law_cell_at K) [] E0 (tCons (tVar 0) (tCons (tC (.int (k : Nat))) tNil))) ρ (.int (ns.getD k 0)) := fun k ρ h => ed_call (ad_cons (ed_var h) (ad_cons ed_int ad_nil)) ⟨ns, k, rfl, by omega, rfl⟩ rfl
  have r0 := Int.fmod_nonneg_of_pos (ns.getD 0 0) (b := 7) (by decide)
  have r1 := Int.fmod_lt_of_pos (ns.getD 0 0) (b := 7) (by decide)
  have rl : (rowN ns 8 ((ns.getD 0 0).fmod 7)).length ≤ 6 := by
    unfold rowN; rw [List.length_map, List.length_take]
    have : (8 + (ns.getD 0 0).fmod 7).toNat - (8 : Int).toNat ≤ 6 := by omega
    omega
  have rb : Bd (2 ^ 67) (rowN ns 8 ((ns.getD 0 0).fmod 7)) := fun a ha => by
    unfold rowN at ha
    obtain ⟨c, _, rfl⟩ := List.mem_map.mp ha
    exact celN_lt ns c
  have call : ∀ ρ : Rho, ρ[0]? = some (some (.d (.list (rD ns)))) → EF K (tCall (sp__law_row K) [] E0 (tCons (tVar 0) (tCons (tC (.int 8)) (tCons (tOp (rI (fun _ j => j ≠ 0) fun i j => .int (i.fmod j)) (tCall (sp__law_cell_at K) [] E0 (tCons (tVar 0) (tCons (tC (.int 0)) tNil))) (tC (.int 7))) tNil)))) ρ (rD (rowN ns 8 ((ns.getD 0 0).fmod 7))) := fun ρ h =>
    ef_call (ad_cons (ed_var h) (ad_cons ed_int (ad_cons (ed_mod (cell 0 _ h) ed_int (by decide)) ad_nil))) ⟨ns, 8, _, rfl, by decide, by omega, by omega, rfl⟩ rfl
  have call := call [some (.d (.list (rD ns))), none, none, none, none, none, none] rfl
  generalize rowN ns 8 ((ns.getD 0 0).fmod 7) = xs at *
  refine sd_seq (sd_set (EF.ed call) ?_)
  clear call
  show SD K B0 B _ [some (.d (.list (rD ns))), some (.d (.list (rD xs))), none, none, none, none, none] _
  have q7 : CDivQ (ns.getD 0 0) 7 := Lt2.cd (n := 3) (by decide) (by unfold Lt2; decide) (by decide)
  have q4 : CDivQ (ns.getD 1 0) 4 := Lt2.cd (n := 3) (by decide) (by unfold Lt2; decide) (by decide)
  refine sd_seq (SD.imp (P := fun o => ∃ ys : List Int, o = .nx [some (.d (.list (rD ns))), some (.d (.list (rD ys))), none, none, none, none, none] ∧ ys.length ≤ 7 ∧ Bd (2 ^ 75) ys) ?_ ?_)
  · refine sd_if (td_and (td_test (ed_eqI (ed_mod (ed_fdivP (cell 0 _ rfl) ed_int q7) ed_int (by decide)) ed_int)) (fun _ => td_test (ed_neD (e := .list (rD [])) (ed_var rfl) (EF.ed (ef_lst ad_nil (Nat.le_of_ble_eq_true rfl))) (shaped_l xs) (shaped_l [])))) (fun hb => ?_) (fun hb => ?_)
    · have hx : xs ≠ [] := by
        rw [Bool.and_eq_true] at hb
        rintro rfl
        have := hb.2
        rw [eqv_l] at this
        simp at this
      have g1 := Int.fmod_nonneg_of_pos (ns.getD 6 0) (b := 41) (by decide)
      have g2 := Int.fmod_lt_of_pos (ns.getD 6 0) (b := 41) (by decide)
      have g3 := Int.fmod_nonneg_of_pos (ns.getD 7 0) (b := 9) (by decide)
      have g4 := Int.fmod_lt_of_pos (ns.getD 7 0) (b := 9) (by decide)
      have b2 : Bd (2 ^ 5) [(ns.getD 6 0).fmod 41 - 20, 1 + (ns.getD 7 0).fmod 9] := fun a ha => by
        rcases List.mem_cons.mp ha with rfl | ha
        · omega
        · rw [List.mem_singleton.mp ha]; omega
      have bm := bd_mul b2 rb
      have ml := mulL_len hx (q := [(ns.getD 6 0).fmod 41 - 20, 1 + (ns.getD 7 0).fmod 9]) (by simp)
      refine sd_set (EF.ed (ef_call (F := F__law_by) (ad_cons (ed_var rfl) (ad_cons (EF.ed (ef_lst (ad_cons (ed_sub (ed_mod (cell 6 _ rfl) ed_int (by decide)) ed_int) (ad_cons (ed_add ed_int (ed_mod (cell 7 _ rfl) ed_int (by decide))) ad_nil)) (Nat.le_of_ble_eq_true rfl))) ad_nil)) ⟨xs, [(ns.getD 6 0).fmod 41 - 20, 1 + (ns.getD 7 0).fmod 9], 68, 6, rfl, hx, by simp, by omega, by show 2 ≤ 1000; decide, rb.sz, b2.sz, by decide, rfl⟩ rfl)) ⟨_, rfl, ?_, bm.mono ?_⟩
      · simp only [List.length_cons, List.length_nil] at ml; omega
      · have : xs.length * (2 ^ 67 * 2 ^ 5) ≤ 6 * (2 ^ 67 * 2 ^ 5) := Nat.mul_le_mul_right _ rl
        exact Nat.le_trans this (by decide)
    · exact sd_next ⟨xs, rfl, by omega, rb.mono (Nat.pow_le_pow_right (by decide) (by decide))⟩
  clear rb rl q7
  rintro o ⟨ys, rfl, yl, yb⟩
  show SD K B0 B _ _ _
  refine sd_seq (sd_set (ed_call (F := F__law_end) (ad_cons (cell 2 _ rfl) (ad_cons (cell 3 _ rfl) ad_nil)) ⟨_, _, rfl, rfl⟩ rfl) ?_)
  refine sd_seq (sd_set (ed_call (F := F__law_end) (ad_cons (cell 4 _ rfl) (ad_cons (cell 5 _ rfl) ad_nil)) ⟨_, _, rfl, rfl⟩ rfl) ?_)
  have lu := endN_low (ns.getD 2 0) (ns.getD 3 0)
  have lv := endN_low (ns.getD 4 0) (ns.getD 5 0)
  generalize endN (ns.getD 2 0) (ns.getD 3 0) = u at *
  generalize endN (ns.getD 4 0) (ns.getD 5 0) = v at *
  have su := pD_seq u
  have sv := pD_seq v
  have up : ∀ {w : Int × Int} {a : Nat}, Low a w → a ≤ 90 → Low 90 w := fun l h => ⟨l.pos, l.gcd, l.l1.mono h, l.l2.mono h⟩
  show SD K B0 B _ [some (.d (.list (rD ns))), some (.d (.list (rD ys))), some (.d (pD u)), some (.d (pD v)), none, none, none] _
  refine sd_seq (SD.imp (P := fun o => ∃ v : Int × Int, o = .nx [some (.d (.list (rD ns))), some (.d (.list (rD ys))), some (.d (pD u)), some (.d (pD v)), none, none, none] ∧ Low 90 v) ?_ ?_)
  · refine sd_if (td_test (ed_eqI (ed_mod (ed_fdivP (cell 1 _ rfl) ed_int q4) ed_int (by decide)) ed_int)) (fun hb => ?_) (fun hb => ?_)
    · have pp := Int.mul_pos lu.pos lv.pos
      refine sd_set (ed_call (F := F__law_part) (ad_cons (ed_add (ed_mul (ed_ix (ed_var rfl) su ed_int rfl) (ed_ix (ed_var rfl) sv ed_int rfl) (lu.l1.cm lv.l2 (by decide))) (ed_ix (ed_var rfl) su ed_int rfl)) (ad_cons (ed_mul (ed_ix (ed_var rfl) su ed_int rfl) (ed_ix (ed_var rfl) sv ed_int rfl) (lu.l2.cm lv.l2 (by decide))) ad_nil)) ⟨_, _, rfl, by omega, (lu.l2.mul lv.l2).mono (by decide), rfl⟩ rfl) ⟨_, rfl, up (low_part (m := 85) pp ((lu.l1.mul lv.l2).add (lu.l2.mono (by decide))) ((lu.l2.mul lv.l2).mono (by decide))) (by decide)⟩
    · exact sd_next ⟨v, rfl, up lv (by decide)⟩
  clear lv sv
  rintro o ⟨v, rfl, lv⟩
  show SD K B0 B _ _ _
  have lu0 := lu
  have lu := up lu (by decide)
  refine sd_seq (sd_setF (ef_list (ed_var rfl) (SeqD.l _)) ?_)
  refine sd_frz (i := 4) rfl ?_
  have ft : ∀ d, SeqD d (rD ys) → F__law_told [d, pD u, pD v] (.rt (toldD (dueN ys u v) (pegD (bareL ys) u v))) := fun d hd => ⟨d, ys, u, v, 76, 90, rfl, hd, by omega, yb.sz, by decide, lu, lv, by decide, by decide, rfl⟩
  have fd : F__law_due [.list (rD ys), pD u, pD v] (.rt (.str (wordS (dueN ys u v)))) := ⟨ys, u, v, 75, 90, rfl, by omega, yb, by decide, lu, lv, by decide, by decide, rfl⟩
  refine sd_seq (sd_set (ed_call (ad_cons (ed_var rfl) (ad_cons (ed_var rfl) (ad_cons (ed_var rfl) ad_nil))) (ft _ (SeqD.l _)) rfl) ?_)
  have dp := fun h => due_peg (n := 75) (m := 90) (xs := ys) (u := u) (v := v) h (by omega) yb lu lv
  have st := shaped_told (dueN ys u v) (bareL ys) u v
  have et := eqv_told (dueN ys u v) (bareL ys) u v
  obtain ⟨p1, sq, hp1⟩ := told_seq (dueN ys u v) (pegD (bareL ys) u v)
  have zk : dueN ys u v = 0 → lastZ ys ≠ 0 := fun h => (due_ok h).2.1
  have wk : wordS (dueN ys u v) = "" ↔ dueN ys u v = 0 := by
    rcases due_le ys u v with k | k | k | k <;> rw [k] <;> decide
  generalize dueN ys u v = k at *
  show SD K B0 B _ [some (.d (.list (rD ns))), some (.d (.list (rD ys))), some (.d (pD u)), some (.d (pD v)), some (.d (.list (rD ys))), some (.d (toldD k (pegD (bareL ys) u v))), none] _
  have sw : ∀ k : Nat, SeqAt.shaped (.str (wordS k)) = true := fun k => by show (PyData.strOk (wordS k) && true) = true; rw [word_str]; rfl
  have se : SeqAt.shaped (.str (wordS 0)) = true := sw 0
  have sy := shaped_l ys
  have ey : PyData.eqv (.list (rD ys)) (.list (rD ys)) = true := by rw [eqv_l]; simp
  refine sd_seq (sd_if (b := false) ((td_or (td_test (ed_neD (ed_ix (ed_var rfl) sq ed_int rfl) (ed_call (ad_cons (ed_var rfl) (ad_cons (ed_var rfl) (ad_cons (ed_var rfl) ad_nil))) fd rfl) (sw _) (sw _))) fun _ => td_or (td_test (ed_neD (ed_var rfl) (ed_var rfl) sy sy)) fun _ => td_test (ed_neD (ed_call (ad_cons (ed_tuple (ed_var rfl) (SeqD.l _)) (ad_cons (ed_var rfl) (ad_cons (ed_var rfl) ad_nil))) (ft _ (SeqD.t _)) rfl) (ed_var rfl) st st)).cast (by rw [eqv_str, ey, et]; simp)) (fun hb => nomatch hb) (fun _ => ?_))
  refine sd_next ?_
  have t0 : ∀ ρ : Rho, ρ[5]? = some (some (.d (toldD k (pegD (bareL ys) u v)))) → TD K (tTest (tOp (rEqD K) (tOp (rIx K) (tVar 5) (tC (.int 0))) (tC (.str "")))) ρ (decide (k = 0)) := fun ρ h => (td_test (ed_eqD (ed_ix (ed_var h) sq ed_int rfl) ed_str (sw _) se)).cast (by rw [eqv_str, decide_eq_decide]; exact wk)
  refine sd_seq (sd_if (b := false) ((td_and (b := false) (t0 _ rfl) fun hk => (td_not (td_truth (ed_call (F := F__law_is_peg) (ad_cons (ed_ix (ed_var rfl) sq ed_int (show atI _ _ = some (pegD (bareL ys) u v) from by rw [← hp1 (of_decide_eq_true hk)]; rfl)) ad_nil) ⟨bareL ys, u, v, 75, 90, rfl, dp (of_decide_eq_true hk), by decide, by decide, rfl⟩ rfl) (Truth.bool _))).cast rfl).cast (by rw [Bool.and_false])) (fun hb => nomatch hb) (fun _ => ?_))
  refine sd_next ?_
  have sp := shaped_peg (bareL ys) u v
  have ep := eqv_peg (bareL ys) u v
  refine sd_seq (sd_if (b := false) ((td_and (b := false) (t0 _ rfl) fun hk => (td_test (ed_neD (ed_ix (ed_var rfl) sq ed_int (show atI _ _ = some (pegD (bareL ys) u v) from by rw [← hp1 (of_decide_eq_true hk)]; rfl)) (ed_tup (ad_cons (ed_tuple (EF.ed (ef_call (F := F__law_smallest) (ad_cons (ed_var rfl) ad_nil) ⟨_, ys, 76, rfl, SeqD.l _, zk (of_decide_eq_true hk), by omega, yb.sz, by decide, rfl⟩ rfl)) (SeqD.l _)) (ad_cons (ed_var rfl) (ad_cons (ed_var rfl) ad_nil))) (Nat.le_of_ble_eq_true rfl)) sp sp)).cast (by show (!PyData.eqv (pegD (bareL ys) u v) (pegD (bareL ys) u v)) = false; rw [ep]; rfl)).cast (by rw [Bool.and_false])) (fun hb => nomatch hb) (fun _ => ?_))
  refine sd_next ?_
  clear dp st et hp1 zk wk t0 sq fd ft ep sp
  refine sd_seq (sd_set (ed_call (F := F_of_part) (ad_cons (ed_var rfl) ad_nil) ⟨u, 90, rfl, lu, by decide, rfl⟩ rfl) ?_)
  have op := one_peg lu0
  unfold onePeg
  have e1 : partV (u.1 * 1 + -1 * u.2) (u.2 * 1) = partV (u.1 - u.2) u.2 := by rw [Int.mul_one, Int.mul_one, Int.neg_mul, Int.one_mul]; rfl
  have e2 : partV (u.1 * 1 + 1 * u.2) (u.2 * 1) = partV (u.1 + u.2) u.2 := by rw [Int.mul_one, Int.mul_one, Int.one_mul]
  rw [e1, e2] at op ⊢
  have su2 : SeqD (pD u) [.int u.1, .int u.2] := SeqD.t _
  have b8 : Lt2 8000 u.2 := lu.l2.mono (by decide)
  have up0 := lu.pos
  generalize hp : partV (u.1 - u.2) u.2 = p at *
  generalize hq : partV (u.1 + u.2) u.2 = q at *
  have sq : SeqD (pegD [-u.1, u.2] p q) [.tuple (rD [-u.1, u.2]), pD p, pD q] := SeqD.t _
  show SD K B0 B _ [some (.d (.list (rD ns))), some (.d (.list (rD ys))), some (.d (pD u)), some (.d (pD v)), some (.d (.list (rD ys))), _, some (.d (pegD [-u.1, u.2] p q))] _
  have s2 := shaped_t [-u.1, u.2]
  refine sd_seq (sd_if (b := false) ((td_or (td_not (td_truth (ed_call (F := F__law_is_peg) (ad_cons (ed_var rfl) ad_nil) ⟨_, p, q, 42, 43, rfl, op, by decide, by decide, rfl⟩ rfl) (Truth.bool _))) fun _ => td_test (ed_neD (e := .tuple (rD [-u.1, u.2])) (ed_ix (ed_var rfl) sq ed_int rfl) ((ed_tup (ad_cons (ed_sub ed_int (ed_ix (ed_var rfl) su2 ed_int rfl)) (ad_cons (ed_ix (ed_var rfl) su2 ed_int rfl) ad_nil)) (Nat.le_of_ble_eq_true rfl)).cast (by rw [Int.zero_sub]; rfl)) s2 s2)).cast (by
    show (!true || !PyData.eqvAll (rD [-u.1, u.2]) (rD [-u.1, u.2])) = false
    rw [eqvAll_rD]; simp)) (fun hb => nomatch hb) (fun _ => ?_))
  refine sd_next ?_
  have cu : cutD [.tuple (rD [-u.1, u.2]), pD p, pD q] (some 1) none = [pD p, pD q] := rfl
  refine sd_ret (d := .bool true) ((ed_eqD (d := .tuple [pD p, pD q]) (e := .tuple [pD p, pD q]) ((ed_slT (ed_var rfl) (od_some ed_int) od_none).cast (by rw [cu])) (ed_tup (ad_cons (ed_call (F := F__law_part) (ad_cons (ed_sub (ed_ix (ed_var rfl) su2 ed_int rfl) (ed_ix (ed_var rfl) su2 ed_int rfl)) (ad_cons (ed_ix (ed_var rfl) su2 ed_int rfl) ad_nil)) ⟨_, _, rfl, by omega, b8, by rw [hp]⟩ rfl) (ad_cons (ed_call (F := F__law_part) (ad_cons (ed_add (ed_ix (ed_var rfl) su2 ed_int rfl) (ed_ix (ed_var rfl) su2 ed_int rfl)) (ad_cons (ed_ix (ed_var rfl) su2 ed_int rfl) ad_nil)) ⟨_, _, rfl, by omega, b8, by rw [hq]⟩ rfl) ad_nil)) (Nat.le_of_ble_eq_true rfl)) rfl rfl).cast ?_) rfl
  have x1 := eqv_pD p p
  have x2 := eqv_pD q q
  show PyData.bool (PyData.eqv (pD p) (pD p) && (PyData.eqv (pD q) (pD q) && true)) = _
  rw [x1, x2]; simp
end
end K06

namespace K06
open PySem PySem.Spec PyProof.Rows L2 Evl Rt
def top (i : Nat) : Stmt := PySem.Challenge.pw_rootpeg_k06_pegs_made.main.body.getD i (.Pass ⟨0, 0, 0, 0⟩)
abbrev s_part : Stmt := top 9
abbrev M_part : List Str := ["top", "bottom", "common"]
theorem sc_part : FnScope M_part ["top", "bottom"] (defScope s_part) := ⟨rfl, rfl, rfl, by decide +kernel, rfl, by decide +kernel, by decide +kernel⟩
abbrev s_below : Stmt := top 10
abbrev M_below : List Str := ["one", "other"]
theorem sc_below : FnScope M_below ["one", "other"] (defScope s_below) := ⟨rfl, rfl, rfl, by decide +kernel, rfl, by decide +kernel, by decide +kernel⟩
abbrev s_part_sum : Stmt := top 11
abbrev M_part_sum : List Str := ["one", "other"]
theorem sc_part_sum : FnScope M_part_sum ["one", "other"] (defScope s_part_sum) := ⟨rfl, rfl, rfl, by decide +kernel, rfl, by decide +kernel, by decide +kernel⟩
abbrev s_sign : Stmt := top 13
abbrev M_sign : List Str := ["number"]
theorem sc_sign : FnScope M_sign ["number"] (defScope s_sign) := ⟨rfl, rfl, rfl, by decide +kernel, rfl, by decide +kernel, by decide +kernel⟩
abbrev s_sign_at : Stmt := top 14
abbrev M_sign_at : List Str := ["row", "at", "top", "bottom", "value", "scale", "number"]
theorem sc_sign_at : FnScope M_sign_at ["row", "at"] (defScope s_sign_at) := ⟨rfl, rfl, rfl, by decide +kernel, rfl, by decide +kernel, by decide +kernel⟩
abbrev s_bare : Stmt := top 15
abbrev M_bare : List Str := ["row", "common", "number"]
theorem sc_bare : FnScope M_bare ["row"] (defScope s_bare) := ⟨rfl, rfl, rfl, by decide +kernel, rfl, by decide +kernel, by decide +kernel⟩
abbrev s_powered : Stmt := top 16
abbrev M_powered : List Str := ["row", "by", "found", "power", "number"]
theorem sc_powered : FnScope M_powered ["row", "by"] (defScope s_powered) := ⟨rfl, rfl, rfl, by decide +kernel, rfl, by decide +kernel, by decide +kernel⟩
abbrev s_turns : Stmt := top 18
abbrev M_turns : List Str := ["row", "low", "high", "many", "ahead", "number"]
theorem sc_turns : FnScope M_turns ["row", "low", "high"] (defScope s_turns) := ⟨rfl, rfl, rfl, by decide +kernel, rfl, by decide +kernel, by decide +kernel⟩
abbrev s_alone : Stmt := top 19
abbrev M_alone : List Str := ["row", "low", "high"]
theorem sc_alone : FnScope M_alone ["row", "low", "high"] (defScope s_alone) := ⟨rfl, rfl, rfl, by decide +kernel, rfl, by decide +kernel, by decide +kernel⟩
abbrev s_seen : Stmt := top 20
abbrev M_seen : List Str := ["row", "low", "high", "bottom", "start", "width", "whole", "held"]
theorem sc_seen : FnScope M_seen ["row", "low", "high"] (defScope s_seen) := ⟨rfl, rfl, rfl, by decide +kernel, rfl, by decide +kernel, by decide +kernel⟩
abbrev s_moved : Stmt := top 21
abbrev M_moved : List Str := ["row", "by", "found", "first", "at"]
theorem sc_moved : FnScope M_moved ["row", "by"] (defScope s_moved) := ⟨rfl, rfl, rfl, by decide +kernel, rfl, by decide +kernel, by decide +kernel⟩
abbrev s_peg : Stmt := top 23
abbrev M_peg : List Str := ["row", "low", "high"]
theorem sc_peg : FnScope M_peg ["row", "low", "high"] (defScope s_peg) := ⟨rfl, rfl, rfl, by decide +kernel, rfl, by decide +kernel, by decide +kernel⟩
abbrev s_of_part : Stmt := top 24
abbrev M_of_part : List Str := ["at"]
theorem sc_of_part : FnScope M_of_part ["at"] (defScope s_of_part) := ⟨rfl, rfl, rfl, by decide +kernel, rfl, by decide +kernel, by decide +kernel⟩
abbrev s__law_whole : Stmt := top 26
abbrev M__law_whole : List Str := ["_law_found"]
theorem sc__law_whole : FnScope M__law_whole ["_law_found"] (defScope s__law_whole) := ⟨rfl, rfl, rfl, by decide +kernel, rfl, by decide +kernel, by decide +kernel⟩
abbrev s__law_cell_at : Stmt := top 27
abbrev M__law_cell_at : List Str := ["_law_script", "_law_k"]
theorem sc__law_cell_at : FnScope M__law_cell_at ["_law_script", "_law_k"] (defScope s__law_cell_at) := ⟨rfl, rfl, rfl, by decide +kernel, rfl, by decide +kernel, by decide +kernel⟩
abbrev s__law_divisor : Stmt := top 28
abbrev M__law_divisor : List Str := ["_law_one", "_law_other", "_law_over"]
theorem sc__law_divisor : FnScope M__law_divisor ["_law_one", "_law_other"] (defScope s__law_divisor) := ⟨rfl, rfl, rfl, by decide +kernel, rfl, by decide +kernel, by decide +kernel⟩
abbrev s__law_part : Stmt := top 29
abbrev M__law_part : List Str := ["_law_top", "_law_bottom", "_law_by_here"]
theorem sc__law_part : FnScope M__law_part ["_law_top", "_law_bottom"] (defScope s__law_part) := ⟨rfl, rfl, rfl, by decide +kernel, rfl, by decide +kernel, by decide +kernel⟩
abbrev s__law_smallest : Stmt := top 30
abbrev M__law_smallest : List Str := ["_law_row_here", "_law_by_here", "_law_one"]
theorem sc__law_smallest : FnScope M__law_smallest ["_law_row_here"] (defScope s__law_smallest) := ⟨rfl, rfl, rfl, by decide +kernel, rfl, by decide +kernel, by decide +kernel⟩
abbrev s__law_value : Stmt := top 31
abbrev M__law_value : List Str := ["_law_row_here", "_law_at", "_law_total", "_law_scale", "_law_k"]
theorem sc__law_value : FnScope M__law_value ["_law_row_here", "_law_at"] (defScope s__law_value) := ⟨rfl, rfl, rfl, by decide +kernel, rfl, by decide +kernel, by decide +kernel⟩
abbrev s__law_by : Stmt := top 32
abbrev M__law_by : List Str := ["_law_row_here", "_law_other", "_law_found", "_law_k", "_law_j"]
theorem sc__law_by : FnScope M__law_by ["_law_row_here", "_law_other"] (defScope s__law_by) := ⟨rfl, rfl, rfl, by decide +kernel, rfl, by decide +kernel, by decide +kernel⟩
abbrev s__law_seen : Stmt := top 33
abbrev M__law_seen : List Str := ["_law_row_here", "_law_low", "_law_high", "_law_found", "_law_k", "_law_made", "_law_j", "_law_one"]
theorem sc__law_seen : FnScope M__law_seen ["_law_row_here", "_law_low", "_law_high"] (defScope s__law_seen) := ⟨rfl, rfl, rfl, by decide +kernel, rfl, by decide +kernel, by decide +kernel⟩
abbrev s__law_turns : Stmt := top 34
abbrev M__law_turns : List Str := ["_law_row_here", "_law_low", "_law_high", "_law_count", "_law_last", "_law_one"]
theorem sc__law_turns : FnScope M__law_turns ["_law_row_here", "_law_low", "_law_high"] (defScope s__law_turns) := ⟨rfl, rfl, rfl, by decide +kernel, rfl, by decide +kernel, by decide +kernel⟩
abbrev s__law_is_part : Stmt := top 35
abbrev M__law_is_part : List Str := ["_law_found"]
theorem sc__law_is_part : FnScope M__law_is_part ["_law_found"] (defScope s__law_is_part) := ⟨rfl, rfl, rfl, by decide +kernel, rfl, by decide +kernel, by decide +kernel⟩
abbrev s__law_is_peg : Stmt := top 36
abbrev M__law_is_peg : List Str := ["_law_found", "_law_row_here", "_law_low", "_law_high", "_law_one"]
theorem sc__law_is_peg : FnScope M__law_is_peg ["_law_found"] (defScope s__law_is_peg) := ⟨rfl, rfl, rfl, by decide +kernel, rfl, by decide +kernel, by decide +kernel⟩
abbrev s__law_row : Stmt := top 37
abbrev M__law_row : List Str := ["_law_script", "_law_k", "_law_many", "_law_row_here", "_law_cell"]
theorem sc__law_row : FnScope M__law_row ["_law_script", "_law_k", "_law_many"] (defScope s__law_row) := ⟨rfl, rfl, rfl, by decide +kernel, rfl, by decide +kernel, by decide +kernel⟩
abbrev s__law_end : Stmt := top 38
abbrev M__law_end : List Str := ["_law_cell", "_law_more"]
theorem sc__law_end : FnScope M__law_end ["_law_cell", "_law_more"] (defScope s__law_end) := ⟨rfl, rfl, rfl, by decide +kernel, rfl, by decide +kernel, by decide +kernel⟩
abbrev s__law_due : Stmt := top 39
abbrev M__law_due : List Str := ["_law_row_here", "_law_low", "_law_high"]
theorem sc__law_due : FnScope M__law_due ["_law_row_here", "_law_low", "_law_high"] (defScope s__law_due) := ⟨rfl, rfl, rfl, by decide +kernel, rfl, by decide +kernel, by decide +kernel⟩
abbrev s__law_word : Stmt := top 40
abbrev M__law_word : List Str := ["_law_e", "_law_words"]
theorem sc__law_word : FnScope M__law_word ["_law_e"] (defScope s__law_word) := ⟨rfl, rfl, rfl, by decide +kernel, rfl, by decide +kernel, by decide +kernel⟩
abbrev s__law_told : Stmt := top 41
abbrev M__law_told : List Str := ["_law_row_here", "_law_low", "_law_high", "_law_e", "_law_found"]
theorem sc__law_told : FnScope M__law_told ["_law_row_here", "_law_low", "_law_high"] (defScope s__law_told) := ⟨rfl, rfl, rfl, by decide +kernel, rfl, by decide +kernel, by decide +kernel⟩
abbrev s_law : Stmt := top 42
abbrev M_law : List Str := ["_law_script", "_law_row_here", "_law_low", "_law_high", "_law_handed", "_law_told_here", "_law_found"]
theorem sc_law : FnScope M_law ["_law_script"] (defScope s_law) := ⟨rfl, rfl, rfl, by decide +kernel, rfl, by decide +kernel, by decide +kernel⟩
section
variable {P : Program} {w : World} {K : PySem.W.Frag} {mg : Str → Option Value} {base : Heap} {C_PegError C_NoPart C_NoRow C_NoStretch C_NotAlone C_NoQuotient : Addr}
theorem ok_part {f : Addr} {fd : FuncData} (F : Fun K "part" "part" s_part f fd) (T : Txt K mg C_PegError C_NoPart C_NoRow C_NoStretch C_NotAlone C_NoQuotient) : FnOk P w K mg base (L2.CX P w) 1 f fd ["top", "bottom"] (sp_part K C_NoPart) :=
  fun_okX (t := fun E => t_part K C_NoPart E) F sc_part rfl (fun cdv A outer s H E hr => by exact (pss_cons (ps_if (pt_cmpR (op_eqD hr.units) (pv 1) pe_int (nomark _)) (pss_one (ps_raise rfl (takes_of rfl rfl rfl rfl) (pmk_own PySem.F.excBase_ValueError T.x_NoPart T.m_NoPart T.k_NoPart (raises_own T.s_NoPart T.t_NoPart) (by exact rfl)))) pss_nil)
      (pss_cons (ps_set (i := 2) sc_part.nd rfl (by first | exact Or.inl rfl | exact Or.inr rfl) (pe_callBfun cr_gcd (by rfl) T.b_gcd (pa_cons (pv 0) (pa_cons (pv 1) pa_nil))))
      (pss_cons (ps_if (pt_cmpR op_lt (pv 1) pe_int (nomark _)) (pss_one (ps_set (i := 2) sc_part.nd rfl (by first | exact Or.inl rfl | exact Or.inr rfl) (pe_un un_neg (pv 2)))) pss_nil)
      (pss_one (ps_ret (pe_tup (pa_cons (pe_op op_fdivP (pv 0) (pv 2)) (pa_cons (pe_op op_fdivP (pv 1) (pv 2)) pa_nil)))))))))
    (fun ds r h B0 B E hE => pure_part ds r h B0 B E hE)
theorem ok_below {f : Addr} {fd : FuncData} (F : Fun K "below" "below" s_below f fd) (T : Txt K mg C_PegError C_NoPart C_NoRow C_NoStretch C_NotAlone C_NoQuotient) : FnOk P w K mg base CX0 1 f fd ["one", "other"] (sp_below K) :=
  fun_ok (t := t_below K) F sc_below rfl (fun cdv A outer s H E hr => by exact (pss_one (ps_ret (pe_cmpR op_lt (pe_op op_mulX (pe_ix ix_seq (pv 0) pe_int (fun _ _ => rfl)) (pe_ix ix_seq (pv 1) pe_int (fun _ _ => rfl))) (pe_op op_mulX (pe_ix ix_seq (pv 1) pe_int (fun _ _ => rfl)) (pe_ix ix_seq (pv 0) pe_int (fun _ _ => rfl))) (nomark _)))))
    (fun ds r h B0 B => pure_below ds r h B0 B)
theorem ok_part_sum {f : Addr} {fd : FuncData} (F : Fun K "part_sum" "part_sum" s_part_sum f fd) (T : Txt K mg C_PegError C_NoPart C_NoRow C_NoStretch C_NotAlone C_NoQuotient) (G_part : Cal P w K mg base (L2.CX P w) 1 "part" ["top", "bottom"] (sp_part K C_NoPart)) : FnOk P w K mg base CX0 2 f fd ["one", "other"] (sp_part_sum K) :=
  fun_ok (t := t_part_sum K C_NoPart) F sc_part_sum rfl (fun cdv A outer s H E hr => by exact (pss_one (ps_ret (pe_calX G_part (hr.mono (by decide)) (by rfl) (pa_cons (pe_op op_add (pe_op op_mulX (pe_ix ix_seq (pv 0) pe_int (fun _ _ => rfl)) (pe_ix ix_seq (pv 1) pe_int (fun _ _ => rfl))) (pe_op op_mulX (pe_ix ix_seq (pv 1) pe_int (fun _ _ => rfl)) (pe_ix ix_seq (pv 0) pe_int (fun _ _ => rfl)))) (pa_cons (pe_op op_mulX (pe_ix ix_seq (pv 0) pe_int (fun _ _ => rfl)) (pe_ix ix_seq (pv 1) pe_int (fun _ _ => rfl))) pa_nil))))))
    (fun ds r h B0 B => pure_part_sum ds r h B0 B)
theorem ok_sign {f : Addr} {fd : FuncData} (F : Fun K "sign" "sign" s_sign f fd) (T : Txt K mg C_PegError C_NoPart C_NoRow C_NoStretch C_NotAlone C_NoQuotient) : FnOk P w K mg base CX0 1 f fd ["number"] (sp_sign K) :=
  fun_ok (t := t_sign K) F sc_sign rfl (fun cdv A outer s H E hr => by exact (pss_cons (ps_if (pt_cmpR op_lt (pv 0) pe_int (nomark _)) (pss_one (ps_ret (pe_un un_neg pe_int))) pss_nil)
      (pss_cons (ps_if (pt_cmpR op_gt (pv 0) pe_int (nomark _)) (pss_one (ps_ret pe_int)) pss_nil)
      (pss_one (ps_ret pe_int)))))
    (fun ds r h B0 B => pure_sign ds r h B0 B)
theorem ok_sign_at {f : Addr} {fd : FuncData} (F : Fun K "sign_at" "sign_at" s_sign_at f fd) (T : Txt K mg C_PegError C_NoPart C_NoRow C_NoStretch C_NotAlone C_NoQuotient) (G_sign : Cal P w K mg base CX0 1 "sign" ["number"] (sp_sign K)) : FnOk P w K mg base CX0 2 f fd ["row", "at"] (sp_sign_at K) :=
  fun_ok (t := t_sign_at K) F sc_sign_at rfl (fun cdv A outer s H E hr => by exact (pss_cons (ps_asg (pv 1) (pg_tup rfl (pgs_cons (pg_name (i := 2) sc_sign_at.nd rfl (by first | exact Or.inl rfl | exact Or.inr rfl)) (pgs_cons (pg_name (i := 3) sc_sign_at.nd rfl (by first | exact Or.inl rfl | exact Or.inr rfl)) pgs_nil))))
      (pss_cons (ps_set (i := 4) sc_sign_at.nd rfl (by first | exact Or.inl rfl | exact Or.inr rfl) pe_int)
      (pss_cons (ps_set (i := 5) sc_sign_at.nd rfl (by first | exact Or.inl rfl | exact Or.inr rfl) pe_int)
      (pss_cons (ps_for PassesOwn.never rfl (RT.pi_revA (by rfl) T.b_reversed (pv 0)) (pg_name (i := 6) sc_sign_at.nd rfl (by first | exact Or.inl rfl | exact Or.inr rfl)) (pss_cons (ps_set (i := 4) sc_sign_at.nd rfl (by first | exact Or.inl rfl | exact Or.inr rfl) (pe_op op_add (pe_op op_mulX (pv 4) (pv 2)) (pe_op op_mulX (pv 6) (pv 5))))
      (pss_one (ps_set (i := 5) sc_sign_at.nd rfl (by first | exact Or.inl rfl | exact Or.inr rfl) (pe_op op_mulX (pv 5) (pv 3))))))
      (pss_one (ps_ret (pe_cal0 G_sign (hr.mono (by decide)) (by rfl) (pa_cons (pv 4) pa_nil)))))))))
    (fun ds r h B0 B => pure_sign_at ds r h B0 B)
theorem ok_bare {f : Addr} {fd : FuncData} (F : Fun K "bare" "bare" s_bare f fd) (T : Txt K mg C_PegError C_NoPart C_NoRow C_NoStretch C_NotAlone C_NoQuotient) : FnOk P w K mg base CX0 1 f fd ["row"] (sp_bare K) :=
  fun_ok (t := t_bare K) F sc_bare rfl (fun cdv A outer s H E hr => by exact (pss_cons (ps_set (i := 1) sc_bare.nd rfl (by first | exact Or.inl rfl | exact Or.inr rfl) pe_int)
      (pss_cons (ps_for PassesOwn.never rfl (pi_seq (pv 0)) (pg_name (i := 2) sc_bare.nd rfl (by first | exact Or.inl rfl | exact Or.inr rfl)) (pss_one (ps_set (i := 1) sc_bare.nd rfl (by first | exact Or.inl rfl | exact Or.inr rfl) (pe_callBfun cr_gcd (by rfl) T.b_gcd (pa_cons (pv 1) (pa_cons (pv 2) pa_nil))))))
      (pss_cons (ps_if (pt_cmpR op_lt (pe_ix ix_seq (pv 0) (pe_un un_neg pe_int) (fun _ _ => rfl)) pe_int (nomark _)) (pss_one (ps_set (i := 1) sc_bare.nd rfl (by first | exact Or.inl rfl | exact Or.inr rfl) (pe_un un_neg (pv 1)))) pss_nil)
      (pss_one (ps_ret (pe_lc (own := [("number", 2)]) (g := (gName 2)) (tt := tYes) rfl sc_bare.nd (pi_seq (pv 0)) (blkOk_by (N := M_bare) (sc := defScope s_bare) (by decide +kernel)) (fun _ _ _ _ _ => (pg_name (i := 2) sc_bare.nd rfl (by first | exact Or.inl rfl | exact Or.inr rfl))) (fun _ _ _ _ _ => pts_nil) (fun _ _ _ _ _ => (pe_op op_fdivP (pv 2) (pv 1))))))))))
    (fun ds r h B0 B => pure_bare ds r h B0 B)
theorem ok_powered {f : Addr} {fd : FuncData} (F : Fun K "powered" "powered" s_powered f fd) (T : Txt K mg C_PegError C_NoPart C_NoRow C_NoStretch C_NotAlone C_NoQuotient) : FnOk P w K mg base CX0 1 f fd ["row", "by"] (sp_powered K) :=
  fun_ok (t := t_powered K) F sc_powered rfl (fun cdv A outer s H E hr => by exact (pss_cons (ps_set (i := 2) sc_powered.nd rfl (by first | exact Or.inl rfl | exact Or.inr rfl) (pe_lst pa_nil))
      (pss_cons (ps_set (i := 3) sc_powered.nd rfl (by first | exact Or.inl rfl | exact Or.inr rfl) pe_int)
      (pss_cons (ps_for PassesOwn.never rfl (pi_seq (pv 0)) (pg_name (i := 4) sc_powered.nd rfl (by first | exact Or.inl rfl | exact Or.inr rfl)) (pss_cons (ps_expr (pe_bm PySem.F.plainAttrs_list PySem.F.slot_list_append PySem.F.type_list_append mt_append (pv 2) (pa_cons (pe_op op_mulX (pv 4) (pv 3)) pa_nil)))
      (pss_one (ps_set (i := 3) sc_powered.nd rfl (by first | exact Or.inl rfl | exact Or.inr rfl) (pe_op op_mulX (pv 3) (pv 1))))))
      (pss_one (ps_ret (pv 2)))))))
    (fun ds r h B0 B => pure_powered ds r h B0 B)
theorem ok_turns {f : Addr} {fd : FuncData} (F : Fun K "turns" "turns" s_turns f fd) (T : Txt K mg C_PegError C_NoPart C_NoRow C_NoStretch C_NotAlone C_NoQuotient) (G_seen : Cal P w K mg base CX0 2 "seen" ["row", "low", "high"] (sp_seen K)) (G_sign : Cal P w K mg base CX0 1 "sign" ["number"] (sp_sign K)) : FnOk P w K mg base CX0 3 f fd ["row", "low", "high"] (sp_turns K) :=
  fun_ok (t := t_turns K) F sc_turns rfl (fun cdv A outer s H E hr => by exact (pss_cons (ps_set (i := 3) sc_turns.nd rfl (by first | exact Or.inl rfl | exact Or.inr rfl) pe_int)
      (pss_cons (ps_set (i := 4) sc_turns.nd rfl (by first | exact Or.inl rfl | exact Or.inr rfl) pe_int)
      (pss_cons (ps_for PassesOwn.never rfl (pi_seq (pe_cal0 G_seen (hr.mono (by decide)) (by rfl) (pa_cons (pv 0) (pa_cons (pv 1) (pa_cons (pv 2) pa_nil))))) (pg_name (i := 5) sc_turns.nd rfl (by first | exact Or.inl rfl | exact Or.inr rfl)) (pss_one (ps_if (pt_cmpR (op_neD hr.units) (pv 5) pe_int (nomark _)) (pss_cons (ps_if (pt_cmpR (op_eqD hr.units) (pe_cal0 G_sign (hr.mono (by decide)) (by rfl) (pa_cons (pv 5) pa_nil)) (pe_un un_neg (pv 4)) (nomark _)) (pss_one (ps_aug (i := 3) sc_turns.nd rfl (by first | exact Or.inl rfl | exact Or.inr rfl) pe_int ip_add)) pss_nil)
      (pss_one (ps_set (i := 4) sc_turns.nd rfl (by first | exact Or.inl rfl | exact Or.inr rfl) (pe_cal0 G_sign (hr.mono (by decide)) (by rfl) (pa_cons (pv 5) pa_nil))))) pss_nil)))
      (pss_one (ps_ret (pv 3)))))))
    (fun ds r h B0 B => pure_turns ds r h B0 B)
theorem ok_alone {f : Addr} {fd : FuncData} (F : Fun K "alone" "alone" s_alone f fd) (T : Txt K mg C_PegError C_NoPart C_NoRow C_NoStretch C_NotAlone C_NoQuotient) (G_sign_at : Cal P w K mg base CX0 2 "sign_at" ["row", "at"] (sp_sign_at K)) (G_turns : Cal P w K mg base CX0 3 "turns" ["row", "low", "high"] (sp_turns K)) : FnOk P w K mg base CX0 4 f fd ["row", "low", "high"] (sp_alone K) :=
  fun_ok (t := t_alone K) F sc_alone rfl (fun cdv A outer s H E hr => by exact (pss_one (ps_ret (pe_and (pe_cmpR (op_eqD hr.units) (pe_op op_mulX (pe_cal0 G_sign_at (hr.mono (by decide)) (by rfl) (pa_cons (pv 0) (pa_cons (pv 1) pa_nil))) (pe_cal0 G_sign_at (hr.mono (by decide)) (by rfl) (pa_cons (pv 0) (pa_cons (pv 2) pa_nil)))) (pe_un un_neg pe_int) (nomark _)) (pe_one (pe_cmpR (op_eqD hr.units) (pe_cal0 G_turns (hr.mono (by decide)) (by rfl) (pa_cons (pv 0) (pa_cons (pv 1) (pa_cons (pv 2) pa_nil)))) pe_int (nomark _)))))))
    (fun ds r h B0 B => pure_alone ds r h B0 B)
theorem ok_seen {f : Addr} {fd : FuncData} (F : Fun K "seen" "seen" s_seen f fd) (T : Txt K mg C_PegError C_NoPart C_NoRow C_NoStretch C_NotAlone C_NoQuotient) (G_powered : Cal P w K mg base CX0 1 "powered" ["row", "by"] (sp_powered K)) (G_moved : Cal P w K mg base CX0 1 "moved" ["row", "by"] (sp_moved K)) : FnOk P w K mg base CX0 2 f fd ["row", "low", "high"] (sp_seen K) :=
  fun_ok (t := t_seen K) F sc_seen rfl (fun cdv A outer s H E hr => by exact (pss_cons (ps_set (i := 3) sc_seen.nd rfl (by first | exact Or.inl rfl | exact Or.inr rfl) (pe_callBfun cr_lcm (by rfl) T.b_lcm (pa_cons (pe_ix ix_seq (pv 1) pe_int (fun _ _ => rfl)) (pa_cons (pe_ix ix_seq (pv 2) pe_int (fun _ _ => rfl)) pa_nil))))
      (pss_cons (ps_set (i := 4) sc_seen.nd rfl (by first | exact Or.inl rfl | exact Or.inr rfl) (pe_op op_mulX (pe_ix ix_seq (pv 1) pe_int (fun _ _ => rfl)) (pe_op op_fdivP (pv 3) (pe_ix ix_seq (pv 1) pe_int (fun _ _ => rfl)))))
      (pss_cons (ps_set (i := 5) sc_seen.nd rfl (by first | exact Or.inl rfl | exact Or.inr rfl) (pe_op op_sub (pe_op op_mulX (pe_ix ix_seq (pv 2) pe_int (fun _ _ => rfl)) (pe_op op_fdivP (pv 3) (pe_ix ix_seq (pv 2) pe_int (fun _ _ => rfl)))) (pv 4)))
      (pss_cons (ps_set (i := 6) sc_seen.nd rfl (by first | exact Or.inl rfl | exact Or.inr rfl) (pe_slice3 sl3_seq (pe_cal0 G_powered (hr.mono (by decide)) (by rfl) (pa_cons (pe_slice3 sl3_seq (pv 0) po_none (po_some (pe_un un_neg pe_int))) (pa_cons (pv 3) pa_nil))) po_none (po_some (pe_un un_neg pe_int))))
      (pss_cons (ps_set (i := 7) sc_seen.nd rfl (by first | exact Or.inl rfl | exact Or.inr rfl) (pe_cal0 G_powered (hr.mono (by decide)) (by rfl) (pa_cons (pe_cal0 G_moved (hr.mono (by decide)) (by rfl) (pa_cons (pv 6) (pa_cons (pv 4) pa_nil))) (pa_cons (pv 5) pa_nil))))
      (pss_one (ps_ret (pe_slice3 sl3_seq (pe_cal0 G_moved (hr.mono (by decide)) (by rfl) (pa_cons (pe_slice3 sl3_seq (pv 7) po_none (po_some (pe_un un_neg pe_int))) (pa_cons pe_int pa_nil))) po_none (po_some (pe_un un_neg pe_int)))))))))))
    (fun ds r h B0 B => pure_seen ds r h B0 B)
theorem ok_moved {f : Addr} {fd : FuncData} (F : Fun K "moved" "moved" s_moved f fd) (T : Txt K mg C_PegError C_NoPart C_NoRow C_NoStretch C_NotAlone C_NoQuotient) : FnOk P w K mg base CX0 1 f fd ["row", "by"] (sp_moved K) :=
  fun_ok (t := t_moved K) F sc_moved rfl (fun cdv A outer s H E hr => by exact (pss_cons (ps_set (i := 2) sc_moved.nd rfl (by first | exact Or.inl rfl | exact Or.inr rfl) (pe_callTy call_list_of (by rfl) T.b_list (by rfl) (pa_cons (pv 0) pa_nil)))
      (pss_cons (ps_for PassesOwn.never rfl (pi_range1 (by rfl) T.b_range (pa_cons (pe_op op_sub (pe_callB call_len_seq (by rfl) T.b_len PySem.boot_len (pa_cons (pv 0) pa_nil)) pe_int) pa_nil)) (pg_name (i := 3) sc_moved.nd rfl (by first | exact Or.inl rfl | exact Or.inr rfl)) (pss_one (ps_for PassesOwn.never rfl (pi_range3 (by rfl) T.b_range (pa_cons (pe_op op_sub (pe_callB call_len_seq (by rfl) T.b_len PySem.boot_len (pa_cons (pv 0) pa_nil)) pe_int) (pa_cons (pe_op op_sub (pv 3) pe_int) (pa_cons (pe_un un_neg pe_int) pa_nil)))) (pg_name (i := 4) sc_moved.nd rfl (by first | exact Or.inl rfl | exact Or.inr rfl)) (pss_one (ps_augS (pv 2) (pv 4) get_list (pe_op op_mulX (pv 1) (pe_ix ix_seq (pv 2) (pe_op op_add (pv 4) pe_int) (fun _ _ => rfl))) ip_add set_list)))))
      (pss_one (ps_ret (pv 2))))))
    (fun ds r h B0 B => pure_moved ds r h B0 B)
theorem ok_peg {f : Addr} {fd : FuncData} (F : Fun K "peg" "peg" s_peg f fd) (T : Txt K mg C_PegError C_NoPart C_NoRow C_NoStretch C_NotAlone C_NoQuotient) (G_below : Cal P w K mg base CX0 1 "below" ["one", "other"] (sp_below K)) (G_alone : Cal P w K mg base CX0 4 "alone" ["row", "low", "high"] (sp_alone K)) (G_bare : Cal P w K mg base CX0 1 "bare" ["row"] (sp_bare K)) : FnOk P w K mg base (L2.CX P w) 5 f fd ["row", "low", "high"] (sp_peg K C_NoRow C_NoStretch C_NotAlone) :=
  fun_okX (t := fun E => t_peg K C_NoRow C_NoStretch C_NotAlone E) F sc_peg rfl (fun cdv A outer s H E hr => by exact (pss_cons (ps_if (PW.pt (pw_or (pt_cmpR op_lt (pe_callB call_len_seq (by rfl) T.b_len PySem.boot_len (pa_cons (pv 0) pa_nil)) pe_int (nomark _)) (pw_or1 (pt_cmpR (op_eqD hr.units) (pe_ix ix_seq (pv 0) (pe_un un_neg pe_int) (fun _ _ => rfl)) pe_int (nomark _))))) (pss_one (ps_raise rfl (takes_of rfl rfl rfl rfl) (pmk_own PySem.F.excBase_ValueError T.x_NoRow T.m_NoRow T.k_NoRow (raises_own T.s_NoRow T.t_NoRow) (by exact rfl)))) pss_nil)
      (pss_cons (ps_if (pt_not (pt_truth (pe_cal0 G_below (hr.mono (by decide)) (by rfl) (pa_cons (pv 1) (pa_cons (pv 2) pa_nil))) (by intro _; rfl))) (pss_one (ps_raise rfl (takes_of rfl rfl rfl rfl) (pmk_own PySem.F.excBase_ValueError T.x_NoStretch T.m_NoStretch T.k_NoStretch (raises_own T.s_NoStretch T.t_NoStretch) (by exact rfl)))) pss_nil)
      (pss_cons (ps_if (pt_not (pt_truth (pe_cal0 G_alone (hr.mono (by decide)) (by rfl) (pa_cons (pv 0) (pa_cons (pv 1) (pa_cons (pv 2) pa_nil)))) (by intro _; rfl))) (pss_one (ps_raise rfl (takes_of rfl rfl rfl rfl) (pmk_own PySem.F.excBase_ValueError T.x_NotAlone T.m_NotAlone T.k_NotAlone (raises_own T.s_NotAlone T.t_NotAlone) (by exact rfl)))) pss_nil)
      (pss_one (ps_ret (pe_tup (pa_cons (pe_callTy call_tuple_of (by rfl) T.b_tuple (by rfl) (pa_cons (pe_cal0 G_bare (hr.mono (by decide)) (by rfl) (pa_cons (pv 0) pa_nil)) pa_nil)) (pa_cons (pv 1) (pa_cons (pv 2) pa_nil))))))))))
    (fun ds r h B0 B E hE => pure_peg ds r h B0 B E hE)
theorem ok_of_part {f : Addr} {fd : FuncData} (F : Fun K "of_part" "of_part" s_of_part f fd) (T : Txt K mg C_PegError C_NoPart C_NoRow C_NoStretch C_NotAlone C_NoQuotient) (G_part_sum : Cal P w K mg base CX0 2 "part_sum" ["one", "other"] (sp_part_sum K)) : FnOk P w K mg base CX0 3 f fd ["at"] (sp_of_part K) :=
  fun_ok (t := t_of_part K) F sc_of_part rfl (fun cdv A outer s H E hr => by exact (pss_one (ps_ret (pe_tup (pa_cons (pe_tup (pa_cons (pe_un un_neg (pe_ix ix_seq (pv 0) pe_int (fun _ _ => rfl))) (pa_cons (pe_ix ix_seq (pv 0) pe_int (fun _ _ => rfl)) pa_nil))) (pa_cons (pe_cal0 G_part_sum (hr.mono (by decide)) (by rfl) (pa_cons (pv 0) (pa_cons (pe_tup (pa_cons (pe_un un_neg pe_int) (pa_cons pe_int pa_nil))) pa_nil))) (pa_cons (pe_cal0 G_part_sum (hr.mono (by decide)) (by rfl) (pa_cons (pv 0) (pa_cons (pe_tup (pa_cons pe_int (pa_cons pe_int pa_nil))) pa_nil))) pa_nil)))))))
    (fun ds r h B0 B => pure_of_part ds r h B0 B)
theorem ok__law_whole {f : Addr} {fd : FuncData} (F : Fun K "_law_whole" "_law_whole" s__law_whole f fd) (T : Txt K mg C_PegError C_NoPart C_NoRow C_NoStretch C_NotAlone C_NoQuotient) : FnOk P w K mg base CX0 1 f fd ["_law_found"] (sp__law_whole K) :=
  fun_ok (t := t__law_whole K) F sc__law_whole rfl (fun cdv A outer s H E hr => by exact (pss_one (ps_ret (pe_and (pe_callB call_isi (by rfl) T.b_isinstance (by rfl) (pa_cons (pv 0) (pa_cons (pe_bltn (v := .ty "int") (by rfl) T.b_int (by rfl) rfl) pa_nil))) (pe_one (pe_not (pe_callB call_isi (by rfl) T.b_isinstance (by rfl) (pa_cons (pv 0) (pa_cons (pe_bltn (v := .ty "bool") (by rfl) T.b_bool (by rfl) rfl) pa_nil)))))))))
    (fun ds r h B0 B => pure__law_whole ds r h B0 B)
theorem ok__law_cell_at {f : Addr} {fd : FuncData} (F : Fun K "_law_cell_at" "_law_cell_at" s__law_cell_at f fd) (T : Txt K mg C_PegError C_NoPart C_NoRow C_NoStretch C_NotAlone C_NoQuotient) : FnOk P w K mg base CX0 1 f fd ["_law_script", "_law_k"] (sp__law_cell_at K) :=
  fun_ok (t := t__law_cell_at K) F sc__law_cell_at rfl (fun cdv A outer s H E hr => by exact (pss_cons (ps_if (pt_cmpR op_lt (pv 1) (pe_callB call_len_seq (by rfl) T.b_len PySem.boot_len (pa_cons (pv 0) pa_nil)) (nomark _)) (pss_one (ps_ret (pe_ix ix_seq (pv 0) (pv 1) (fun _ _ => rfl)))) pss_nil)
      (pss_one (ps_ret pe_int))))
    (fun ds r h B0 B => pure__law_cell_at ds r h B0 B)
theorem ok__law_divisor {f : Addr} {fd : FuncData} (F : Fun K "_law_divisor" "_law_divisor" s__law_divisor f fd) (T : Txt K mg C_PegError C_NoPart C_NoRow C_NoStretch C_NotAlone C_NoQuotient) : FnOk P w K mg base CX0 1 f fd ["_law_one", "_law_other"] (sp__law_divisor K) :=
  fun_ok (t := t__law_divisor K) F sc__law_divisor rfl (fun cdv A outer s H E hr => by exact (pss_cons (ps_while PassesOwn.never (pt_cmpR (op_neD hr.units) (pv 1) pe_int (nomark _)) (pss_cons (ps_set (i := 2) sc__law_divisor.nd rfl (by first | exact Or.inl rfl | exact Or.inr rfl) (pe_op op_modN (pv 0) (pv 1)))
      (pss_cons (ps_set (i := 0) sc__law_divisor.nd rfl (by first | exact Or.inl rfl | exact Or.inr rfl) (pv 1))
      (pss_one (ps_set (i := 1) sc__law_divisor.nd rfl (by first | exact Or.inl rfl | exact Or.inr rfl) (pv 2))))))
      (pss_one (ps_ret (pe_callB call_abs (by rfl) T.b_abs (by rfl) (pa_cons (pv 0) pa_nil))))))
    (fun ds r h B0 B => pure__law_divisor ds r h B0 B)
theorem ok__law_part {f : Addr} {fd : FuncData} (F : Fun K "_law_part" "_law_part" s__law_part f fd) (T : Txt K mg C_PegError C_NoPart C_NoRow C_NoStretch C_NotAlone C_NoQuotient) (G__law_divisor : Cal P w K mg base CX0 1 "_law_divisor" ["_law_one", "_law_other"] (sp__law_divisor K)) : FnOk P w K mg base CX0 2 f fd ["_law_top", "_law_bottom"] (sp__law_part K) :=
  fun_ok (t := t__law_part K) F sc__law_part rfl (fun cdv A outer s H E hr => by exact (pss_cons (ps_set (i := 2) sc__law_part.nd rfl (by first | exact Or.inl rfl | exact Or.inr rfl) (pe_cal0 G__law_divisor (hr.mono (by decide)) (by rfl) (pa_cons (pv 0) (pa_cons (pv 1) pa_nil))))
      (pss_cons (ps_if (pt_cmpR op_lt (pv 1) pe_int (nomark _)) (pss_one (ps_set (i := 2) sc__law_part.nd rfl (by first | exact Or.inl rfl | exact Or.inr rfl) (pe_op op_sub pe_int (pv 2)))) pss_nil)
      (pss_one (ps_ret (pe_tup (pa_cons (pe_op op_fdivP (pv 0) (pv 2)) (pa_cons (pe_op op_fdivP (pv 1) (pv 2)) pa_nil))))))))
    (fun ds r h B0 B => pure__law_part ds r h B0 B)
theorem ok__law_smallest {f : Addr} {fd : FuncData} (F : Fun K "_law_smallest" "_law_smallest" s__law_smallest f fd) (T : Txt K mg C_PegError C_NoPart C_NoRow C_NoStretch C_NotAlone C_NoQuotient) (G__law_divisor : Cal P w K mg base CX0 1 "_law_divisor" ["_law_one", "_law_other"] (sp__law_divisor K)) : FnOk P w K mg base CX0 2 f fd ["_law_row_here"] (sp__law_smallest K) :=
  fun_ok (t := t__law_smallest K) F sc__law_smallest rfl (fun cdv A outer s H E hr => by exact (pss_cons (ps_set (i := 1) sc__law_smallest.nd rfl (by first | exact Or.inl rfl | exact Or.inr rfl) pe_int)
      (pss_cons (ps_for PassesOwn.never rfl (pi_seq (pv 0)) (pg_name (i := 2) sc__law_smallest.nd rfl (by first | exact Or.inl rfl | exact Or.inr rfl)) (pss_one (ps_set (i := 1) sc__law_smallest.nd rfl (by first | exact Or.inl rfl | exact Or.inr rfl) (pe_cal0 G__law_divisor (hr.mono (by decide)) (by rfl) (pa_cons (pv 1) (pa_cons (pv 2) pa_nil))))))
      (pss_cons (ps_if (pt_cmpR op_lt (pe_ix ix_seq (pv 0) (pe_un un_neg pe_int) (fun _ _ => rfl)) pe_int (nomark _)) (pss_one (ps_set (i := 1) sc__law_smallest.nd rfl (by first | exact Or.inl rfl | exact Or.inr rfl) (pe_op op_sub pe_int (pv 1)))) pss_nil)
      (pss_one (ps_ret (pe_lc (own := [("_law_one", 2)]) (g := (gName 2)) (tt := tYes) rfl sc__law_smallest.nd (pi_seq (pv 0)) (blkOk_by (N := M__law_smallest) (sc := defScope s__law_smallest) (by decide +kernel)) (fun _ _ _ _ _ => (pg_name (i := 2) sc__law_smallest.nd rfl (by first | exact Or.inl rfl | exact Or.inr rfl))) (fun _ _ _ _ _ => pts_nil) (fun _ _ _ _ _ => (pe_op op_fdivP (pv 2) (pv 1))))))))))
    (fun ds r h B0 B => pure__law_smallest ds r h B0 B)
theorem ok__law_value {f : Addr} {fd : FuncData} (F : Fun K "_law_value" "_law_value" s__law_value f fd) (T : Txt K mg C_PegError C_NoPart C_NoRow C_NoStretch C_NotAlone C_NoQuotient) : FnOk P w K mg base CX0 1 f fd ["_law_row_here", "_law_at"] (sp__law_value K) :=
  fun_ok (t := t__law_value K) F sc__law_value rfl (fun cdv A outer s H E hr => by exact (pss_cons (ps_set (i := 2) sc__law_value.nd rfl (by first | exact Or.inl rfl | exact Or.inr rfl) pe_int)
      (pss_cons (ps_set (i := 3) sc__law_value.nd rfl (by first | exact Or.inl rfl | exact Or.inr rfl) pe_int)
      (pss_cons (ps_for PassesOwn.never rfl (pi_range3 (by rfl) T.b_range (pa_cons (pe_op op_sub (pe_callB call_len_seq (by rfl) T.b_len PySem.boot_len (pa_cons (pv 0) pa_nil)) pe_int) (pa_cons (pe_un un_neg pe_int) (pa_cons (pe_un un_neg pe_int) pa_nil)))) (pg_name (i := 4) sc__law_value.nd rfl (by first | exact Or.inl rfl | exact Or.inr rfl)) (pss_cons (ps_set (i := 2) sc__law_value.nd rfl (by first | exact Or.inl rfl | exact Or.inr rfl) (pe_op op_add (pe_op op_mulX (pv 2) (pe_ix ix_seq (pv 1) pe_int (fun _ _ => rfl))) (pe_op op_mulX (pe_ix ix_seq (pv 0) (pv 4) (fun _ _ => rfl)) (pv 3))))
      (pss_one (ps_set (i := 3) sc__law_value.nd rfl (by first | exact Or.inl rfl | exact Or.inr rfl) (pe_op op_mulX (pv 3) (pe_ix ix_seq (pv 1) pe_int (fun _ _ => rfl)))))))
      (pss_one (ps_ret (pv 2)))))))
    (fun ds r h B0 B => pure__law_value ds r h B0 B)
theorem ok__law_by {f : Addr} {fd : FuncData} (F : Fun K "_law_by" "_law_by" s__law_by f fd) (T : Txt K mg C_PegError C_NoPart C_NoRow C_NoStretch C_NotAlone C_NoQuotient) : FnOk P w K mg base CX0 1 f fd ["_law_row_here", "_law_other"] (sp__law_by K) :=
  fun_ok (t := t__law_by K) F sc__law_by rfl (fun cdv A outer s H E hr => by exact (pss_cons (by first | exact (ps_setLc (i := 2) (own := [("_law_k", 3)]) (g := (gName 3)) (tt := tYes) rfl sc__law_by.nd rfl rfl (sw_true rfl rfl rfl (by decide +kernel)) (pi_range1 (by rfl) T.b_range (pa_cons (pe_op op_sub (pe_op op_add (pe_callB call_len_seq (by rfl) T.b_len PySem.boot_len (pa_cons (pv 0) pa_nil)) (pe_callB call_len_seq (by rfl) T.b_len PySem.boot_len (pa_cons (pv 1) pa_nil))) pe_int) pa_nil)) (blkOk_by (N := M__law_by) (sc := defScope s__law_by) (by decide +kernel)) (fun _ _ _ _ _ => (pg_name (i := 3) sc__law_by.nd rfl (by first | exact Or.inl rfl | exact Or.inr rfl))) (fun _ _ _ _ _ => pts_nil) (fun _ _ _ _ _ => pe_int)) | exact (ps_set (i := 2) sc__law_by.nd rfl (by first | exact Or.inl rfl | exact Or.inr rfl) (pe_lc (own := [("_law_k", 3)]) (g := (gName 3)) (tt := tYes) rfl sc__law_by.nd (pi_range1 (by rfl) T.b_range (pa_cons (pe_op op_sub (pe_op op_add (pe_callB call_len_seq (by rfl) T.b_len PySem.boot_len (pa_cons (pv 0) pa_nil)) (pe_callB call_len_seq (by rfl) T.b_len PySem.boot_len (pa_cons (pv 1) pa_nil))) pe_int) pa_nil)) (blkOk_by (N := M__law_by) (sc := defScope s__law_by) (by decide +kernel)) (fun _ _ _ _ _ => (pg_name (i := 3) sc__law_by.nd rfl (by first | exact Or.inl rfl | exact Or.inr rfl))) (fun _ _ _ _ _ => pts_nil) (fun _ _ _ _ _ => pe_int))))
      (pss_cons (ps_for PassesOwn.never rfl (pi_range1 (by rfl) T.b_range (pa_cons (pe_callB call_len_seq (by rfl) T.b_len PySem.boot_len (pa_cons (pv 0) pa_nil)) pa_nil)) (pg_name (i := 3) sc__law_by.nd rfl (by first | exact Or.inl rfl | exact Or.inr rfl)) (pss_one (ps_for PassesOwn.never rfl (pi_range1 (by rfl) T.b_range (pa_cons (pe_callB call_len_seq (by rfl) T.b_len PySem.boot_len (pa_cons (pv 1) pa_nil)) pa_nil)) (pg_name (i := 4) sc__law_by.nd rfl (by first | exact Or.inl rfl | exact Or.inr rfl)) (pss_one (ps_asg (pe_op op_add (pe_ix ix_seq (pv 2) (pe_op op_add (pv 3) (pv 4)) (fun _ _ => rfl)) (pe_op op_mulX (pe_ix ix_seq (pv 0) (pv 3) (fun _ _ => rfl)) (pe_ix ix_seq (pv 1) (pv 4) (fun _ _ => rfl)))) (pg_sub (pv 2) (pe_op op_add (pv 3) (pv 4)) set_list))))))
      (pss_one (ps_ret (pv 2))))))
    (fun ds r h B0 B => pure__law_by ds r h B0 B)
theorem ok__law_seen {f : Addr} {fd : FuncData} (F : Fun K "_law_seen" "_law_seen" s__law_seen f fd) (T : Txt K mg C_PegError C_NoPart C_NoRow C_NoStretch C_NotAlone C_NoQuotient) (G__law_by : Cal P w K mg base CX0 1 "_law_by" ["_law_row_here", "_law_other"] (sp__law_by K)) : FnOk P w K mg base CX0 2 f fd ["_law_row_here", "_law_low", "_law_high"] (sp__law_seen K) :=
  fun_ok (t := t__law_seen K) F sc__law_seen rfl (fun cdv A outer s H E hr => by exact (pss_cons (by first | exact (ps_setLc (i := 3) (own := [("_law_one", 7)]) (g := (gName 7)) (tt := tYes) rfl sc__law_seen.nd rfl rfl (sw_true rfl rfl rfl (by decide +kernel)) (pi_seq (pv 0)) (blkOk_by (N := M__law_seen) (sc := defScope s__law_seen) (by decide +kernel)) (fun _ _ _ _ _ => (pg_name (i := 7) sc__law_seen.nd rfl (by first | exact Or.inl rfl | exact Or.inr rfl))) (fun _ _ _ _ _ => pts_nil) (fun _ _ _ _ _ => pe_int)) | exact (ps_set (i := 3) sc__law_seen.nd rfl (by first | exact Or.inl rfl | exact Or.inr rfl) (pe_lc (own := [("_law_one", 7)]) (g := (gName 7)) (tt := tYes) rfl sc__law_seen.nd (pi_seq (pv 0)) (blkOk_by (N := M__law_seen) (sc := defScope s__law_seen) (by decide +kernel)) (fun _ _ _ _ _ => (pg_name (i := 7) sc__law_seen.nd rfl (by first | exact Or.inl rfl | exact Or.inr rfl))) (fun _ _ _ _ _ => pts_nil) (fun _ _ _ _ _ => pe_int))))
      (pss_cons (ps_for PassesOwn.never rfl (pi_range1 (by rfl) T.b_range (pa_cons (pe_callB call_len_seq (by rfl) T.b_len PySem.boot_len (pa_cons (pv 0) pa_nil)) pa_nil)) (pg_name (i := 4) sc__law_seen.nd rfl (by first | exact Or.inl rfl | exact Or.inr rfl)) (pss_cons (ps_set (i := 5) sc__law_seen.nd rfl (by first | exact Or.inl rfl | exact Or.inr rfl) (pe_lst (pa_cons (pe_ix ix_seq (pv 0) (pv 4) (fun _ _ => rfl)) pa_nil)))
      (pss_cons (ps_for PassesOwn.never rfl (pi_range1 (by rfl) T.b_range (pa_cons (pe_op op_sub (pe_callB call_len_seq (by rfl) T.b_len PySem.boot_len (pa_cons (pv 0) pa_nil)) pe_int) pa_nil)) (pg_name (i := 6) sc__law_seen.nd rfl (by first | exact Or.inl rfl | exact Or.inr rfl)) (pss_one (ps_if (pt_cmpR op_lt (pv 6) (pv 4) (nomark _)) (pss_one (ps_set (i := 5) sc__law_seen.nd rfl (by first | exact Or.inl rfl | exact Or.inr rfl) (pe_cal0 G__law_by (hr.mono (by decide)) (by rfl) (pa_cons (pv 5) (pa_cons (pe_lst (pa_cons (pe_op op_mulX (pe_ix ix_seq (pv 1) pe_int (fun _ _ => rfl)) (pe_ix ix_seq (pv 2) pe_int (fun _ _ => rfl))) (pa_cons (pe_op op_mulX (pe_ix ix_seq (pv 2) pe_int (fun _ _ => rfl)) (pe_ix ix_seq (pv 1) pe_int (fun _ _ => rfl))) pa_nil))) pa_nil))))) (pss_one (ps_set (i := 5) sc__law_seen.nd rfl (by first | exact Or.inl rfl | exact Or.inr rfl) (pe_cal0 G__law_by (hr.mono (by decide)) (by rfl) (pa_cons (pv 5) (pa_cons (pe_lst (pa_cons (pe_op op_mulX (pe_ix ix_seq (pv 1) pe_int (fun _ _ => rfl)) (pe_ix ix_seq (pv 2) pe_int (fun _ _ => rfl))) (pa_cons (pe_op op_mulX (pe_ix ix_seq (pv 1) pe_int (fun _ _ => rfl)) (pe_ix ix_seq (pv 2) pe_int (fun _ _ => rfl))) pa_nil))) pa_nil))))))))
      (pss_one (by first | exact (ps_setLc (i := 3) (own := [("_law_j", 6)]) (g := (gName 6)) (tt := tYes) rfl sc__law_seen.nd rfl rfl (sw_true rfl rfl rfl (by decide +kernel)) (pi_range1 (by rfl) T.b_range (pa_cons (pe_callB call_len_seq (by rfl) T.b_len PySem.boot_len (pa_cons (pv 0) pa_nil)) pa_nil)) (blkOk_by (N := M__law_seen) (sc := defScope s__law_seen) (by decide +kernel)) (fun _ _ _ _ _ => (pg_name (i := 6) sc__law_seen.nd rfl (by first | exact Or.inl rfl | exact Or.inr rfl))) (fun _ _ _ _ _ => pts_nil) (fun _ _ _ _ _ => (pe_op op_add (pe_ix ix_seq (pv 3) (pv 6) (fun _ _ => rfl)) (pe_ix ix_seq (pv 5) (pv 6) (fun _ _ => rfl))))) | exact (ps_set (i := 3) sc__law_seen.nd rfl (by first | exact Or.inl rfl | exact Or.inr rfl) (pe_lc (own := [("_law_j", 6)]) (g := (gName 6)) (tt := tYes) rfl sc__law_seen.nd (pi_range1 (by rfl) T.b_range (pa_cons (pe_callB call_len_seq (by rfl) T.b_len PySem.boot_len (pa_cons (pv 0) pa_nil)) pa_nil)) (blkOk_by (N := M__law_seen) (sc := defScope s__law_seen) (by decide +kernel)) (fun _ _ _ _ _ => (pg_name (i := 6) sc__law_seen.nd rfl (by first | exact Or.inl rfl | exact Or.inr rfl))) (fun _ _ _ _ _ => pts_nil) (fun _ _ _ _ _ => (pe_op op_add (pe_ix ix_seq (pv 3) (pv 6) (fun _ _ => rfl)) (pe_ix ix_seq (pv 5) (pv 6) (fun _ _ => rfl)))))))))))
      (pss_one (ps_ret (pv 3))))))
    (fun ds r h B0 B => pure__law_seen ds r h B0 B)
theorem ok__law_turns {f : Addr} {fd : FuncData} (F : Fun K "_law_turns" "_law_turns" s__law_turns f fd) (T : Txt K mg C_PegError C_NoPart C_NoRow C_NoStretch C_NotAlone C_NoQuotient) (G__law_seen : Cal P w K mg base CX0 2 "_law_seen" ["_law_row_here", "_law_low", "_law_high"] (sp__law_seen K)) : FnOk P w K mg base CX0 3 f fd ["_law_row_here", "_law_low", "_law_high"] (sp__law_turns K) :=
  fun_ok (t := t__law_turns K) F sc__law_turns rfl (fun cdv A outer s H E hr => by exact (pss_cons (ps_set (i := 3) sc__law_turns.nd rfl (by first | exact Or.inl rfl | exact Or.inr rfl) pe_int)
      (pss_cons (ps_set (i := 4) sc__law_turns.nd rfl (by first | exact Or.inl rfl | exact Or.inr rfl) pe_int)
      (pss_cons (ps_for PassesOwn.never rfl (pi_seq (pe_cal0 G__law_seen (hr.mono (by decide)) (by rfl) (pa_cons (pv 0) (pa_cons (pv 1) (pa_cons (pv 2) pa_nil))))) (pg_name (i := 5) sc__law_turns.nd rfl (by first | exact Or.inl rfl | exact Or.inr rfl)) (pss_cons (ps_if (pt_cmpR op_lt (pe_op op_mulX (pv 5) (pv 4)) pe_int (nomark _)) (pss_one (ps_set (i := 3) sc__law_turns.nd rfl (by first | exact Or.inl rfl | exact Or.inr rfl) (pe_op op_add (pv 3) pe_int))) pss_nil)
      (pss_one (ps_if (pt_cmpR (op_neD hr.units) (pv 5) pe_int (nomark _)) (pss_one (ps_set (i := 4) sc__law_turns.nd rfl (by first | exact Or.inl rfl | exact Or.inr rfl) (pv 5))) pss_nil))))
      (pss_one (ps_ret (pv 3)))))))
    (fun ds r h B0 B => pure__law_turns ds r h B0 B)
theorem ok__law_is_part {f : Addr} {fd : FuncData} (F : Fun K "_law_is_part" "_law_is_part" s__law_is_part f fd) (T : Txt K mg C_PegError C_NoPart C_NoRow C_NoStretch C_NotAlone C_NoQuotient) (G__law_whole : Cal P w K mg base CX0 1 "_law_whole" ["_law_found"] (sp__law_whole K)) (G__law_part : Cal P w K mg base CX0 2 "_law_part" ["_law_top", "_law_bottom"] (sp__law_part K)) : FnOk P w K mg base CX0 3 f fd ["_law_found"] (sp__law_is_part K) :=
  fun_ok (t := t__law_is_part K) F sc__law_is_part rfl (fun cdv A outer s H E hr => by exact (pss_cons (ps_if (PW.pt (pw_or (pt_not (pt_truth (pe_callB call_isi (by rfl) T.b_isinstance (by rfl) (pa_cons (pv 0) (pa_cons (pe_bltn (v := .ty "tuple") (by rfl) T.b_tuple (by rfl) rfl) pa_nil))) (by intro _; rfl))) (pw_or (pt_cmpR (op_neD hr.units) (pe_callB call_len_seq (by rfl) T.b_len PySem.boot_len (pa_cons (pv 0) pa_nil)) pe_int (nomark _)) (pw_or (pt_not (pt_truth (pe_cal0 G__law_whole (hr.mono (by decide)) (by rfl) (pa_cons (pe_ix ix_seq (pv 0) pe_int (fun _ _ => rfl)) pa_nil)) (by intro _; rfl))) (pw_or1 (pt_not (pt_truth (pe_cal0 G__law_whole (hr.mono (by decide)) (by rfl) (pa_cons (pe_ix ix_seq (pv 0) pe_int (fun _ _ => rfl)) pa_nil)) (by intro _; rfl)))))))) (pss_one (ps_ret pe_bl)) pss_nil)
      (pss_one (ps_ret (pe_and (pe_cmpR op_gt (pe_ix ix_seq (pv 0) pe_int (fun _ _ => rfl)) pe_int (nomark _)) (pe_one (pe_cmpR (op_eqD hr.units) (pe_cal0 G__law_part (hr.mono (by decide)) (by rfl) (pa_cons (pe_ix ix_seq (pv 0) pe_int (fun _ _ => rfl)) (pa_cons (pe_ix ix_seq (pv 0) pe_int (fun _ _ => rfl)) pa_nil))) (pv 0) (nomark _))))))))
    (fun ds r h B0 B => pure__law_is_part ds r h B0 B)
theorem ok__law_is_peg {f : Addr} {fd : FuncData} (F : Fun K "_law_is_peg" "_law_is_peg" s__law_is_peg f fd) (T : Txt K mg C_PegError C_NoPart C_NoRow C_NoStretch C_NotAlone C_NoQuotient) (G__law_whole : Cal P w K mg base CX0 1 "_law_whole" ["_law_found"] (sp__law_whole K)) (G__law_smallest : Cal P w K mg base CX0 2 "_law_smallest" ["_law_row_here"] (sp__law_smallest K)) (G__law_is_part : Cal P w K mg base CX0 3 "_law_is_part" ["_law_found"] (sp__law_is_part K)) (G__law_value : Cal P w K mg base CX0 1 "_law_value" ["_law_row_here", "_law_at"] (sp__law_value K)) (G__law_turns : Cal P w K mg base CX0 3 "_law_turns" ["_law_row_here", "_law_low", "_law_high"] (sp__law_turns K)) : FnOk P w K mg base CX0 4 f fd ["_law_found"] (sp__law_is_peg K) :=
  fun_ok (t := t__law_is_peg K) F sc__law_is_peg rfl (fun cdv A outer s H E hr => by exact (pss_cons (ps_if (PW.pt (pw_or (pt_not (pt_truth (pe_callB call_isi (by rfl) T.b_isinstance (by rfl) (pa_cons (pv 0) (pa_cons (pe_bltn (v := .ty "tuple") (by rfl) T.b_tuple (by rfl) rfl) pa_nil))) (by intro _; rfl))) (pw_or (pt_cmpR (op_neD hr.units) (pe_callB call_len_seq (by rfl) T.b_len PySem.boot_len (pa_cons (pv 0) pa_nil)) pe_int (nomark _)) (pw_or1 (pt_not (pt_truth (pe_callB call_isi (by rfl) T.b_isinstance (by rfl) (pa_cons (pe_ix ix_seq (pv 0) pe_int (fun _ _ => rfl)) (pa_cons (pe_bltn (v := .ty "tuple") (by rfl) T.b_tuple (by rfl) rfl) pa_nil))) (by intro _; rfl))))))) (pss_one (ps_ret pe_bl)) pss_nil)
      (pss_cons (ps_set (i := 1) sc__law_is_peg.nd rfl (by first | exact Or.inl rfl | exact Or.inr rfl) (pe_callTy call_list_of (by rfl) T.b_list (by rfl) (pa_cons (pe_ix ix_seq (pv 0) pe_int (fun _ _ => rfl)) pa_nil)))
      (pss_cons (ps_if (PW.pt (pw_or (pt_cmpR op_lt (pe_callB call_len_seq (by rfl) T.b_len PySem.boot_len (pa_cons (pv 1) pa_nil)) pe_int (nomark _)) (pw_or (pt_cmpR op_gt (pe_callB call_len_seq (by rfl) T.b_len PySem.boot_len (pa_cons (pe_lc (own := [("_law_one", 4)]) (g := (gName 4)) (tt := (tNot (tTruth K (tCall (sp__law_whole K) [] E0 (tCons (tVar 4) tNil))))) rfl sc__law_is_peg.nd (pi_seq (pv 1)) (blkOk_by (N := M__law_is_peg) (sc := defScope s__law_is_peg) (by decide +kernel)) (fun _ _ _ _ _ => (pg_name (i := 4) sc__law_is_peg.nd rfl (by first | exact Or.inl rfl | exact Or.inr rfl))) (fun _ _ _ _ _ => (pts_one (pt_not (pt_truth (pe_cal0 G__law_whole (hr.mono (by decide)) (by rfl) (pa_cons (pv 4) pa_nil)) (by intro _; rfl))))) (fun _ _ _ _ _ => (pv 4))) pa_nil)) pe_int (nomark _)) (pw_or1 (pt_cmpR op_lt (pe_ix ix_seq (pv 1) (pe_un un_neg pe_int) (fun _ _ => rfl)) pe_int (nomark _)))))) (pss_one (ps_ret pe_bl)) pss_nil)
      (pss_cons (ps_if (PW.pt (pw_or (pt_cmpR (op_neD hr.units) (pe_cal0 G__law_smallest (hr.mono (by decide)) (by rfl) (pa_cons (pv 1) pa_nil)) (pv 1) (nomark _)) (pw_or (pt_not (pt_truth (pe_cal0 G__law_is_part (hr.mono (by decide)) (by rfl) (pa_cons (pe_ix ix_seq (pv 0) pe_int (fun _ _ => rfl)) pa_nil)) (by intro _; rfl))) (pw_or1 (pt_not (pt_truth (pe_cal0 G__law_is_part (hr.mono (by decide)) (by rfl) (pa_cons (pe_ix ix_seq (pv 0) pe_int (fun _ _ => rfl)) pa_nil)) (by intro _; rfl))))))) (pss_one (ps_ret pe_bl)) pss_nil)
      (pss_cons (ps_set (i := 2) sc__law_is_peg.nd rfl (by first | exact Or.inl rfl | exact Or.inr rfl) (pe_cal0 G__law_value (hr.mono (by decide)) (by rfl) (pa_cons (pv 1) (pa_cons (pe_ix ix_seq (pv 0) pe_int (fun _ _ => rfl)) pa_nil))))
      (pss_cons (ps_set (i := 3) sc__law_is_peg.nd rfl (by first | exact Or.inl rfl | exact Or.inr rfl) (pe_cal0 G__law_value (hr.mono (by decide)) (by rfl) (pa_cons (pv 1) (pa_cons (pe_ix ix_seq (pv 0) pe_int (fun _ _ => rfl)) pa_nil))))
      (pss_cons (ps_if (PW.pt (pw_or (pt_cmpR op_ge (pe_op op_mulX (pe_ix ix_seq (pe_ix ix_seq (pv 0) pe_int (fun _ _ => rfl)) pe_int (fun _ _ => rfl)) (pe_ix ix_seq (pe_ix ix_seq (pv 0) pe_int (fun _ _ => rfl)) pe_int (fun _ _ => rfl))) (pe_op op_mulX (pe_ix ix_seq (pe_ix ix_seq (pv 0) pe_int (fun _ _ => rfl)) pe_int (fun _ _ => rfl)) (pe_ix ix_seq (pe_ix ix_seq (pv 0) pe_int (fun _ _ => rfl)) pe_int (fun _ _ => rfl))) (nomark _)) (pw_or (pt_cmpR (op_eqD hr.units) (pv 2) pe_int (nomark _)) (pw_or1 (pt_cmpR (op_eqD hr.units) (pv 3) pe_int (nomark _)))))) (pss_one (ps_ret pe_bl)) pss_nil)
      (pss_one (ps_ret (pe_cmpR (op_eqD hr.units) (pe_cal0 G__law_turns (hr.mono (by decide)) (by rfl) (pa_cons (pv 1) (pa_cons (pe_ix ix_seq (pv 0) pe_int (fun _ _ => rfl)) (pa_cons (pe_ix ix_seq (pv 0) pe_int (fun _ _ => rfl)) pa_nil)))) pe_int (nomark _))))))))))))
    (fun ds r h B0 B => pure__law_is_peg ds r h B0 B)
theorem ok__law_row {f : Addr} {fd : FuncData} (F : Fun K "_law_row" "_law_row" s__law_row f fd) (T : Txt K mg C_PegError C_NoPart C_NoRow C_NoStretch C_NotAlone C_NoQuotient) (G__law_cell_at : Cal P w K mg base CX0 1 "_law_cell_at" ["_law_script", "_law_k"] (sp__law_cell_at K)) : FnOk P w K mg base CX0 2 f fd ["_law_script", "_law_k", "_law_many"] (sp__law_row K) :=
  fun_ok (t := t__law_row K) F sc__law_row rfl (fun cdv A outer s H E hr => by exact (pss_cons (ps_set (i := 3) sc__law_row.nd rfl (by first | exact Or.inl rfl | exact Or.inr rfl) (pe_lst pa_nil))
      (pss_cons (ps_for PassesOwn.never rfl (pi_seq (pe_slice sl_seq (pv 0) (po_some (pv 1)) (po_some (pe_op op_add (pv 1) (pv 2))))) (pg_name (i := 4) sc__law_row.nd rfl (by first | exact Or.inl rfl | exact Or.inr rfl)) (pss_one (ps_if (pt_cmpR (op_eqD hr.units) (pe_op op_modN (pe_cal0 G__law_cell_at (hr.mono (by decide)) (by rfl) (pa_cons (pv 0) (pa_cons pe_int pa_nil))) pe_int) pe_int (nomark _)) (pss_one (ps_expr (pe_bm PySem.F.plainAttrs_list PySem.F.slot_list_append PySem.F.type_list_append mt_append (pv 3) (pa_cons (pe_op op_sub (pe_op op_modN (pv 4) (pe_op op_mulX pe_int (pe_op op_pow pe_int pe_int))) (pe_op op_pow pe_int pe_int)) pa_nil)))) (pss_one (ps_expr (pe_bm PySem.F.plainAttrs_list PySem.F.slot_list_append PySem.F.type_list_append mt_append (pv 3) (pa_cons (pe_op op_sub (pe_op op_modN (pv 4) pe_int) pe_int) pa_nil)))))))
      (pss_one (ps_ret (pv 3))))))
    (fun ds r h B0 B => pure__law_row ds r h B0 B)
theorem ok__law_end {f : Addr} {fd : FuncData} (F : Fun K "_law_end" "_law_end" s__law_end f fd) (T : Txt K mg C_PegError C_NoPart C_NoRow C_NoStretch C_NotAlone C_NoQuotient) (G__law_part : Cal P w K mg base CX0 2 "_law_part" ["_law_top", "_law_bottom"] (sp__law_part K)) : FnOk P w K mg base CX0 3 f fd ["_law_cell", "_law_more"] (sp__law_end K) :=
  fun_ok (t := t__law_end K) F sc__law_end rfl (fun cdv A outer s H E hr => by exact (pss_cons (ps_if (pt_cmpR (op_eqD hr.units) (pe_op op_modN (pv 1) pe_int) pe_int (nomark _)) (pss_one (ps_ret (pe_cal0 G__law_part (hr.mono (by decide)) (by rfl) (pa_cons (pe_op op_sub (pe_op op_modN (pv 0) (pe_op op_mulX pe_int (pe_op op_pow pe_int pe_int))) (pe_op op_pow pe_int pe_int)) (pa_cons (pe_op op_add pe_int (pe_op op_modN (pe_op op_fdivP (pv 1) pe_int) (pe_op op_pow pe_int pe_int))) pa_nil))))) pss_nil)
      (pss_one (ps_ret (pe_cal0 G__law_part (hr.mono (by decide)) (by rfl) (pa_cons (pe_op op_sub (pe_op op_modN (pv 0) pe_int) pe_int) (pa_cons (pe_op op_add pe_int (pe_op op_modN (pe_op op_fdivP (pv 1) pe_int) pe_int)) pa_nil)))))))
    (fun ds r h B0 B => pure__law_end ds r h B0 B)
theorem ok__law_due {f : Addr} {fd : FuncData} (F : Fun K "_law_due" "_law_due" s__law_due f fd) (T : Txt K mg C_PegError C_NoPart C_NoRow C_NoStretch C_NotAlone C_NoQuotient) (G__law_value : Cal P w K mg base CX0 1 "_law_value" ["_law_row_here", "_law_at"] (sp__law_value K)) (G__law_turns : Cal P w K mg base CX0 3 "_law_turns" ["_law_row_here", "_law_low", "_law_high"] (sp__law_turns K)) : FnOk P w K mg base CX0 4 f fd ["_law_row_here", "_law_low", "_law_high"] (sp__law_due K) :=
  fun_ok (t := t__law_due K) F sc__law_due rfl (fun cdv A outer s H E hr => by exact (pss_cons (ps_if (PW.pt (pw_or (pt_cmpR op_lt (pe_callB call_len_seq (by rfl) T.b_len PySem.boot_len (pa_cons (pv 0) pa_nil)) pe_int (nomark _)) (pw_or1 (pt_cmpR (op_eqD hr.units) (pe_ix ix_seq (pv 0) (pe_un un_neg pe_int) (fun _ _ => rfl)) pe_int (nomark _))))) (pss_one (ps_ret pe_str)) pss_nil)
      (pss_cons (ps_if (pt_cmpR op_ge (pe_op op_mulX (pe_ix ix_seq (pv 1) pe_int (fun _ _ => rfl)) (pe_ix ix_seq (pv 2) pe_int (fun _ _ => rfl))) (pe_op op_mulX (pe_ix ix_seq (pv 2) pe_int (fun _ _ => rfl)) (pe_ix ix_seq (pv 1) pe_int (fun _ _ => rfl))) (nomark _)) (pss_one (ps_ret pe_str)) pss_nil)
      (pss_cons (ps_if (PW.pt (pw_or (pt_cmpR (op_eqD hr.units) (pe_cal0 G__law_value (hr.mono (by decide)) (by rfl) (pa_cons (pv 0) (pa_cons (pv 1) pa_nil))) pe_int (nomark _)) (pw_or (pt_cmpR (op_eqD hr.units) (pe_cal0 G__law_value (hr.mono (by decide)) (by rfl) (pa_cons (pv 0) (pa_cons (pv 2) pa_nil))) pe_int (nomark _)) (pw_or1 (pt_cmpR (op_neD hr.units) (pe_cal0 G__law_turns (hr.mono (by decide)) (by rfl) (pa_cons (pv 0) (pa_cons (pv 1) (pa_cons (pv 2) pa_nil)))) pe_int (nomark _)))))) (pss_one (ps_ret pe_str)) pss_nil)
      (pss_one (ps_ret pe_str))))))
    (fun ds r h B0 B => pure__law_due ds r h B0 B)
theorem w__law_word {f : Addr} {fd : FuncData} (F : Fun K "_law_word" "_law_word" s__law_word f fd) (T : Txt K mg C_PegError C_NoPart C_NoRow C_NoStretch C_NotAlone C_NoQuotient) (hm : mg "_law_word" = some (.ref f)) (hb : Binds K fd ["_law_e"] []) : Word P w K mg base 0 "_law_word" M__law_word (t__law_word K C_NoPart C_NoRow C_NoStretch C_NotAlone C_NoQuotient) :=
  ⟨"_law_e", s__law_word, f, fd, F, hm, hb, sc__law_word, fun cdv A outer s H a oe cls d hz hf hr => by exact (pss_cons (ps_set (i := 1) sc__law_word.nd rfl (by first | exact Or.inl rfl | exact Or.inr rfl) (pe_op op_catS (pe_op op_rep (pe_lst (pa_cons pe_str pa_nil)) (pe_callTy call_int1 (by rfl) T.b_int (by rfl) (pa_cons (pe_callB (call_isP List.mem_cons_self hz hf) (by rfl) T.b_isinstance (by rfl) (pa_cons (pv 0) (pa_cons (pe_glob (v := .ref C_NoRow) (by rfl) T.m_NoRow rfl) pa_nil))) pa_nil))) (pe_op op_rep (pe_lst (pa_cons pe_str pa_nil)) (pe_callTy call_int1 (by rfl) T.b_int (by rfl) (pa_cons (pe_callB (call_isP List.mem_cons_self hz hf) (by rfl) T.b_isinstance (by rfl) (pa_cons (pv 0) (pa_cons (pe_glob (v := .ref C_NoStretch) (by rfl) T.m_NoStretch rfl) pa_nil))) pa_nil)))))
      (pss_cons (ps_set (i := 1) sc__law_word.nd rfl (by first | exact Or.inl rfl | exact Or.inr rfl) (pe_op op_catS (pv 1) (pe_op op_rep (pe_lst (pa_cons pe_str pa_nil)) (pe_callTy call_int1 (by rfl) T.b_int (by rfl) (pa_cons (pe_callB (call_isP List.mem_cons_self hz hf) (by rfl) T.b_isinstance (by rfl) (pa_cons (pv 0) (pa_cons (pe_glob (v := .ref C_NotAlone) (by rfl) T.m_NotAlone rfl) pa_nil))) pa_nil)))))
      (pss_cons (ps_if (PW.pt (pw_or (pt_cmpR (op_neD (L2H.RoomH.units hr)) (pe_callB call_len_seq (by rfl) T.b_len PySem.boot_len (pa_cons (pv 1) pa_nil)) pe_int (nomark _)) (pw_or (pt_truth (pe_callB (call_isP List.mem_cons_self hz hf) (by rfl) T.b_isinstance (by rfl) (pa_cons (pv 0) (pa_cons (pe_tup (pa_cons (pe_glob (v := .ref C_NoPart) (by rfl) T.m_NoPart rfl) (pa_cons (pe_glob (v := .ref C_NoQuotient) (by rfl) T.m_NoQuotient rfl) pa_nil))) pa_nil))) (by intro _; rfl)) (pw_or1 (pt_not (pt_truth (pe_callB (call_isP List.mem_cons_self hz hf) (by rfl) T.b_isinstance (by rfl) (pa_cons (pv 0) (pa_cons (pe_bltn (v := .ty "ValueError") (by rfl) T.b_ValueError (by rfl) rfl) pa_nil))) (by intro _; rfl))))))) (pss_one (ps_ret pe_str)) pss_nil)
      (pss_one (ps_ret (pe_ix ix_seq (pv 1) pe_int (fun _ _ => rfl)))))))⟩
theorem ok__law_told {f : Addr} {fd : FuncData} (F : Fun K "_law_told" "_law_told" s__law_told f fd) (T : Txt K mg C_PegError C_NoPart C_NoRow C_NoStretch C_NotAlone C_NoQuotient) (G_peg : Cal P w K mg base (L2.CX P w) 5 "peg" ["row", "low", "high"] (sp_peg K C_NoRow C_NoStretch C_NotAlone)) (W__law_word : Word P w K mg base 0 "_law_word" M__law_word (t__law_word K C_NoPart C_NoRow C_NoStretch C_NotAlone C_NoQuotient)) : FnOk P w K mg base CX0 6 f fd ["_law_row_here", "_law_low", "_law_high"] (sp__law_told K) :=
  fun_ok (t := t__law_told K C_PegError C_NoPart C_NoRow C_NoStretch C_NotAlone C_NoQuotient) F sc__law_told rfl (fun cdv A outer s H E hr => by exact (pss_cons (ps_try_as (i := 3) (tb := fun W => tAsg (tCallS (sp_peg K C_NoRow C_NoStretch C_NotAlone) (WE W) (tCons (tVar 0) (tCons (tVar 1) (tCons (tVar 2) tNil)))) (gName 4)) (ts := (fun a cls d => tRet (tTup (tCons (tCallW 3 M__law_word (t__law_word K C_NoPart C_NoRow C_NoStretch C_NotAlone C_NoQuotient) a cls d) (tCons (tC .non) tNil))))) (Wout := fun _ _ _ _ => False) rfl rfl sc__law_told.nd rfl rfl ⟨rfl, by decide, Or.inl T.m_PegError⟩ takes0
      (fun W pn xe tk _ => pss_one (ps_set (i := 4) sc__law_told.nd rfl (by first | exact Or.inl rfl | exact Or.inr rfl) (by exact (pe_calS G_peg (hr.mono (by decide)) (by rfl) (fun σ => passAt tk σ) (pa_cons (pv 0) (pa_cons (pv 1) (pa_cons (pv 2) pa_nil)))))))
      (fun a oe cls d pn hz hf => by exact (pss_one (ps_ret (pe_tup (pa_cons (run_w (i := 3) W__law_word List.mem_cons_self hz hf ⟨(hr.mono (j := 1) (by decide)).dp, (hr.mono (j := 1) (by decide)).un⟩ (by rfl) rfl (by first | exact Or.inl rfl | exact Or.inr rfl)) (pa_cons pe_non pa_nil)))))))
      (pss_one (ps_ret (pe_tup (pa_cons pe_str (pa_cons (pv 4) pa_nil)))))))
    (fun ds r h B0 B => pure__law_told T ds r h B0 B)
theorem ok_law {f : Addr} {fd : FuncData} (F : Fun K "law" "law" s_law f fd) (T : Txt K mg C_PegError C_NoPart C_NoRow C_NoStretch C_NotAlone C_NoQuotient) (G__law_cell_at : Cal P w K mg base CX0 1 "_law_cell_at" ["_law_script", "_law_k"] (sp__law_cell_at K)) (G__law_row : Cal P w K mg base CX0 2 "_law_row" ["_law_script", "_law_k", "_law_many"] (sp__law_row K)) (G__law_by : Cal P w K mg base CX0 1 "_law_by" ["_law_row_here", "_law_other"] (sp__law_by K)) (G__law_end : Cal P w K mg base CX0 3 "_law_end" ["_law_cell", "_law_more"] (sp__law_end K)) (G__law_part : Cal P w K mg base CX0 2 "_law_part" ["_law_top", "_law_bottom"] (sp__law_part K)) (G__law_told : Cal P w K mg base CX0 6 "_law_told" ["_law_row_here", "_law_low", "_law_high"] (sp__law_told K)) (G__law_due : Cal P w K mg base CX0 4 "_law_due" ["_law_row_here", "_law_low", "_law_high"] (sp__law_due K)) (G__law_is_peg : Cal P w K mg base CX0 4 "_law_is_peg" ["_law_found"] (sp__law_is_peg K)) (G__law_smallest : Cal P w K mg base CX0 2 "_law_smallest" ["_law_row_here"] (sp__law_smallest K)) (G_of_part : Cal P w K mg base CX0 3 "of_part" ["at"] (sp_of_part K)) : FnOk P w K mg base CX0 7 f fd ["_law_script"] (sp_law K) :=
  fun_ok (t := t_law K) F sc_law rfl (fun cdv A outer s H E hr => by exact (pss_cons (ps_set (i := 1) sc_law.nd rfl (by first | exact Or.inl rfl | exact Or.inr rfl) (pe_cal0 G__law_row (hr.mono (by decide)) (by rfl) (pa_cons (pv 0) (pa_cons pe_int (pa_cons (pe_op op_modN (pe_cal0 G__law_cell_at (hr.mono (by decide)) (by rfl) (pa_cons (pv 0) (pa_cons pe_int pa_nil))) pe_int) pa_nil)))))
      (pss_cons (ps_if (PW.pt (pw_and (pt_cmpR (op_eqD hr.units) (pe_op op_modN (pe_op op_fdivP (pe_cal0 G__law_cell_at (hr.mono (by decide)) (by rfl) (pa_cons (pv 0) (pa_cons pe_int pa_nil))) pe_int) pe_int) pe_int (nomark _)) (pw_and1 (pt_cmpR (op_neD hr.units) (pv 1) (pe_lst pa_nil) (nomark _))))) (pss_one (ps_set (i := 1) sc_law.nd rfl (by first | exact Or.inl rfl | exact Or.inr rfl) (pe_cal0 G__law_by (hr.mono (by decide)) (by rfl) (pa_cons (pv 1) (pa_cons (pe_lst (pa_cons (pe_op op_sub (pe_op op_modN (pe_cal0 G__law_cell_at (hr.mono (by decide)) (by rfl) (pa_cons (pv 0) (pa_cons pe_int pa_nil))) pe_int) pe_int) (pa_cons (pe_op op_add pe_int (pe_op op_modN (pe_cal0 G__law_cell_at (hr.mono (by decide)) (by rfl) (pa_cons (pv 0) (pa_cons pe_int pa_nil))) pe_int)) pa_nil))) pa_nil))))) pss_nil)
      (pss_cons (ps_set (i := 2) sc_law.nd rfl (by first | exact Or.inl rfl | exact Or.inr rfl) (pe_cal0 G__law_end (hr.mono (by decide)) (by rfl) (pa_cons (pe_cal0 G__law_cell_at (hr.mono (by decide)) (by rfl) (pa_cons (pv 0) (pa_cons pe_int pa_nil))) (pa_cons (pe_cal0 G__law_cell_at (hr.mono (by decide)) (by rfl) (pa_cons (pv 0) (pa_cons pe_int pa_nil))) pa_nil))))
      (pss_cons (ps_set (i := 3) sc_law.nd rfl (by first | exact Or.inl rfl | exact Or.inr rfl) (pe_cal0 G__law_end (hr.mono (by decide)) (by rfl) (pa_cons (pe_cal0 G__law_cell_at (hr.mono (by decide)) (by rfl) (pa_cons (pv 0) (pa_cons pe_int pa_nil))) (pa_cons (pe_cal0 G__law_cell_at (hr.mono (by decide)) (by rfl) (pa_cons (pv 0) (pa_cons pe_int pa_nil))) pa_nil))))
      (pss_cons (ps_if (pt_cmpR (op_eqD hr.units) (pe_op op_modN (pe_op op_fdivP (pe_cal0 G__law_cell_at (hr.mono (by decide)) (by rfl) (pa_cons (pv 0) (pa_cons pe_int pa_nil))) pe_int) pe_int) pe_int (nomark _)) (pss_one (ps_set (i := 3) sc_law.nd rfl (by first | exact Or.inl rfl | exact Or.inr rfl) (pe_cal0 G__law_part (hr.mono (by decide)) (by rfl) (pa_cons (pe_op op_add (pe_op op_mulX (pe_ix ix_seq (pv 2) pe_int (fun _ _ => rfl)) (pe_ix ix_seq (pv 3) pe_int (fun _ _ => rfl))) (pe_ix ix_seq (pv 2) pe_int (fun _ _ => rfl))) (pa_cons (pe_op op_mulX (pe_ix ix_seq (pv 2) pe_int (fun _ _ => rfl)) (pe_ix ix_seq (pv 3) pe_int (fun _ _ => rfl))) pa_nil))))) pss_nil)
      (pss_cons (ps_set (i := 4) sc_law.nd rfl (by first | exact Or.inl rfl | exact Or.inr rfl) (pe_callTy call_list_of (by rfl) T.b_list (by rfl) (pa_cons (pv 1) pa_nil)))
      (pss_cons (ps_set (i := 5) sc_law.nd rfl (by first | exact Or.inl rfl | exact Or.inr rfl) (pe_cal0 G__law_told (hr.mono (by decide)) (by rfl) (pa_cons (pv 4) (pa_cons (pv 2) (pa_cons (pv 3) pa_nil)))))
      (pss_cons (ps_if (PW.pt (pw_or (pt_cmpR (op_neD hr.units) (pe_ix ix_seq (pv 5) pe_int (fun _ _ => rfl)) (pe_cal0 G__law_due (hr.mono (by decide)) (by rfl) (pa_cons (pv 1) (pa_cons (pv 2) (pa_cons (pv 3) pa_nil)))) (nomark _)) (pw_or (pt_cmpR (op_neD hr.units) (pv 4) (pv 1) (nomark _)) (pw_or1 (pt_cmpR (op_neD hr.units) (pe_cal0 G__law_told (hr.mono (by decide)) (by rfl) (pa_cons (pe_callTy call_tuple_of (by rfl) T.b_tuple (by rfl) (pa_cons (pv 1) pa_nil)) (pa_cons (pv 2) (pa_cons (pv 3) pa_nil)))) (pv 5) (nomark _)))))) (pss_one (ps_ret pe_bl)) pss_nil)
      (pss_cons (ps_if (PW.pt (pw_and (pt_cmpR (op_eqD hr.units) (pe_ix ix_seq (pv 5) pe_int (fun _ _ => rfl)) pe_str (nomark _)) (pw_and1 (pt_not (pt_truth (pe_cal0 G__law_is_peg (hr.mono (by decide)) (by rfl) (pa_cons (pe_ix ix_seq (pv 5) pe_int (fun _ _ => rfl)) pa_nil)) (by intro _; rfl)))))) (pss_one (ps_ret pe_bl)) pss_nil)
      (pss_cons (ps_if (PW.pt (pw_and (pt_cmpR (op_eqD hr.units) (pe_ix ix_seq (pv 5) pe_int (fun _ _ => rfl)) pe_str (nomark _)) (pw_and1 (pt_cmpR (op_neD hr.units) (pe_ix ix_seq (pv 5) pe_int (fun _ _ => rfl)) (pe_tup (pa_cons (pe_callTy call_tuple_of (by rfl) T.b_tuple (by rfl) (pa_cons (pe_cal0 G__law_smallest (hr.mono (by decide)) (by rfl) (pa_cons (pv 1) pa_nil)) pa_nil)) (pa_cons (pv 2) (pa_cons (pv 3) pa_nil)))) (nomark _))))) (pss_one (ps_ret pe_bl)) pss_nil)
      (pss_cons (ps_set (i := 6) sc_law.nd rfl (by first | exact Or.inl rfl | exact Or.inr rfl) (pe_cal0 G_of_part (hr.mono (by decide)) (by rfl) (pa_cons (pv 2) pa_nil)))
      (pss_cons (ps_if (PW.pt (pw_or (pt_not (pt_truth (pe_cal0 G__law_is_peg (hr.mono (by decide)) (by rfl) (pa_cons (pv 6) pa_nil)) (by intro _; rfl))) (pw_or1 (pt_cmpR (op_neD hr.units) (pe_ix ix_seq (pv 6) pe_int (fun _ _ => rfl)) (pe_tup (pa_cons (pe_op op_sub pe_int (pe_ix ix_seq (pv 2) pe_int (fun _ _ => rfl))) (pa_cons (pe_ix ix_seq (pv 2) pe_int (fun _ _ => rfl)) pa_nil))) (nomark _))))) (pss_one (ps_ret pe_bl)) pss_nil)
      (pss_one (ps_ret (pe_cmpR (op_eqD hr.units) (pe_slice sl_seq (pv 6) (po_some pe_int) po_none) (pe_tup (pa_cons (pe_cal0 G__law_part (hr.mono (by decide)) (by rfl) (pa_cons (pe_op op_sub (pe_ix ix_seq (pv 2) pe_int (fun _ _ => rfl)) (pe_ix ix_seq (pv 2) pe_int (fun _ _ => rfl))) (pa_cons (pe_ix ix_seq (pv 2) pe_int (fun _ _ => rfl)) pa_nil))) (pa_cons (pe_cal0 G__law_part (hr.mono (by decide)) (by rfl) (pa_cons (pe_op op_add (pe_ix ix_seq (pv 2) pe_int (fun _ _ => rfl)) (pe_ix ix_seq (pv 2) pe_int (fun _ _ => rfl))) (pa_cons (pe_ix ix_seq (pv 2) pe_int (fun _ _ => rfl)) pa_nil))) pa_nil))) (nomark _)))))))))))))))))
    (fun ds r h B0 B => pure_law ds r h B0 B)
end
theorem all_mk {l : PySem.W.OpenLaw} {w : World} {K : PySem.W.Frag} {h : Heap} {mg : Str → Option Value} {fa : Addr} {C_PegError C_NoPart C_NoRow C_NoStretch C_NotAlone C_NoQuotient : Addr} (X : K.In h) (G : h.Ns mainGlobals mg) (hfa : mg "law" = some (.ref fa))
    {f_part f_below f_part_sum f_sign f_sign_at f_bare f_powered f_turns f_alone f_seen f_moved f_peg f_of_part f__law_whole f__law_cell_at f__law_divisor f__law_part f__law_smallest f__law_value f__law_by f__law_seen f__law_turns f__law_is_part f__law_is_peg f__law_row f__law_end f__law_due f__law_word f__law_told f_law : Addr} {od_part an_part od_below an_below od_part_sum an_part_sum od_sign an_sign od_sign_at an_sign_at od_bare an_bare od_powered an_powered od_turns an_turns od_alone an_alone od_seen an_seen od_moved an_moved od_peg an_peg od_of_part an_of_part od__law_whole an__law_whole od__law_cell_at an__law_cell_at od__law_divisor an__law_divisor od__law_part an__law_part od__law_smallest an__law_smallest od__law_value an__law_value od__law_by an__law_by od__law_seen an__law_seen od__law_turns an__law_turns od__law_is_part an__law_is_part od__law_is_peg an__law_is_peg od__law_row an__law_row od__law_end an__law_end od__law_due an__law_due od__law_word an__law_word od__law_told an__law_told od_law an_law : Option Addr} {sl_part sl_below sl_part_sum sl_sign sl_sign_at sl_bare sl_powered sl_turns sl_alone sl_seen sl_moved sl_peg sl_of_part sl__law_whole sl__law_cell_at sl__law_divisor sl__law_part sl__law_smallest sl__law_value sl__law_by sl__law_seen sl__law_turns sl__law_is_part sl__law_is_peg sl__law_row sl__law_end sl__law_due sl__law_word sl__law_told sl_law : Array (Option Value)} {oc_part kV_part dc_part pm_part cd_part ct_part oc_below kV_below dc_below pm_below cd_below ct_below oc_part_sum kV_part_sum dc_part_sum pm_part_sum cd_part_sum ct_part_sum oc_sign kV_sign dc_sign pm_sign cd_sign ct_sign oc_sign_at kV_sign_at dc_sign_at pm_sign_at cd_sign_at ct_sign_at oc_bare kV_bare dc_bare pm_bare cd_bare ct_bare oc_powered kV_powered dc_powered pm_powered cd_powered ct_powered oc_turns kV_turns dc_turns pm_turns cd_turns ct_turns oc_alone kV_alone dc_alone pm_alone cd_alone ct_alone oc_seen kV_seen dc_seen pm_seen cd_seen ct_seen oc_moved kV_moved dc_moved pm_moved cd_moved ct_moved oc_peg kV_peg dc_peg pm_peg cd_peg ct_peg oc_of_part kV_of_part dc_of_part pm_of_part cd_of_part ct_of_part oc__law_whole kV__law_whole dc__law_whole pm__law_whole cd__law_whole ct__law_whole oc__law_cell_at kV__law_cell_at dc__law_cell_at pm__law_cell_at cd__law_cell_at ct__law_cell_at oc__law_divisor kV__law_divisor dc__law_divisor pm__law_divisor cd__law_divisor ct__law_divisor oc__law_part kV__law_part dc__law_part pm__law_part cd__law_part ct__law_part oc__law_smallest kV__law_smallest dc__law_smallest pm__law_smallest cd__law_smallest ct__law_smallest oc__law_value kV__law_value dc__law_value pm__law_value cd__law_value ct__law_value oc__law_by kV__law_by dc__law_by pm__law_by cd__law_by ct__law_by oc__law_seen kV__law_seen dc__law_seen pm__law_seen cd__law_seen ct__law_seen oc__law_turns kV__law_turns dc__law_turns pm__law_turns cd__law_turns ct__law_turns oc__law_is_part kV__law_is_part dc__law_is_part pm__law_is_part cd__law_is_part ct__law_is_part oc__law_is_peg kV__law_is_peg dc__law_is_peg pm__law_is_peg cd__law_is_peg ct__law_is_peg oc__law_row kV__law_row dc__law_row pm__law_row cd__law_row ct__law_row oc__law_end kV__law_end dc__law_end pm__law_end cd__law_end ct__law_end oc__law_due kV__law_due dc__law_due pm__law_due cd__law_due ct__law_due oc__law_word kV__law_word dc__law_word pm__law_word cd__law_word ct__law_word oc__law_told kV__law_told dc__law_told pm__law_told cd__law_told ct__law_told oc_law kV_law dc_law pm_law cd_law ct_law : Value}
    (a_PegError : PySem.W.nsIn K mainGlobals "PegError" = some (some (.ref C_PegError)))
    (a_NoPart : PySem.W.nsIn K mainGlobals "NoPart" = some (some (.ref C_NoPart)))
    (a_NoRow : PySem.W.nsIn K mainGlobals "NoRow" = some (some (.ref C_NoRow)))
    (a_NoStretch : PySem.W.nsIn K mainGlobals "NoStretch" = some (some (.ref C_NoStretch)))
    (a_NotAlone : PySem.W.nsIn K mainGlobals "NotAlone" = some (some (.ref C_NotAlone)))
    (a_NoQuotient : PySem.W.nsIn K mainGlobals "NoQuotient" = some (some (.ref C_NoQuotient)))
    (a_part : PySem.W.nsIn K mainGlobals "part" = some (some (.ref f_part)))
    (l_part : K.lookup f_part = some ⟨oc_part, od_part, .func (PySem.W.fnOf "part" "part" (defArgs s_part) (defBody s_part) (defScope s_part) .none kV_part dc_part pm_part an_part cd_part ct_part), sl_part⟩)
    (c_part : PySem.W.codeIn K cd_part "part" = true)
    (k_part : PySem.W.keepIn K (.ref f_part) = true)
    (a_below : PySem.W.nsIn K mainGlobals "below" = some (some (.ref f_below)))
    (l_below : K.lookup f_below = some ⟨oc_below, od_below, .func (PySem.W.fnOf "below" "below" (defArgs s_below) (defBody s_below) (defScope s_below) .none kV_below dc_below pm_below an_below cd_below ct_below), sl_below⟩)
    (c_below : PySem.W.codeIn K cd_below "below" = true)
    (k_below : PySem.W.keepIn K (.ref f_below) = true)
    (a_part_sum : PySem.W.nsIn K mainGlobals "part_sum" = some (some (.ref f_part_sum)))
    (l_part_sum : K.lookup f_part_sum = some ⟨oc_part_sum, od_part_sum, .func (PySem.W.fnOf "part_sum" "part_sum" (defArgs s_part_sum) (defBody s_part_sum) (defScope s_part_sum) .none kV_part_sum dc_part_sum pm_part_sum an_part_sum cd_part_sum ct_part_sum), sl_part_sum⟩)
    (c_part_sum : PySem.W.codeIn K cd_part_sum "part_sum" = true)
    (k_part_sum : PySem.W.keepIn K (.ref f_part_sum) = true)
    (a_sign : PySem.W.nsIn K mainGlobals "sign" = some (some (.ref f_sign)))
    (l_sign : K.lookup f_sign = some ⟨oc_sign, od_sign, .func (PySem.W.fnOf "sign" "sign" (defArgs s_sign) (defBody s_sign) (defScope s_sign) .none kV_sign dc_sign pm_sign an_sign cd_sign ct_sign), sl_sign⟩)
    (c_sign : PySem.W.codeIn K cd_sign "sign" = true)
    (k_sign : PySem.W.keepIn K (.ref f_sign) = true)
    (a_sign_at : PySem.W.nsIn K mainGlobals "sign_at" = some (some (.ref f_sign_at)))
    (l_sign_at : K.lookup f_sign_at = some ⟨oc_sign_at, od_sign_at, .func (PySem.W.fnOf "sign_at" "sign_at" (defArgs s_sign_at) (defBody s_sign_at) (defScope s_sign_at) .none kV_sign_at dc_sign_at pm_sign_at an_sign_at cd_sign_at ct_sign_at), sl_sign_at⟩)
    (c_sign_at : PySem.W.codeIn K cd_sign_at "sign_at" = true)
    (k_sign_at : PySem.W.keepIn K (.ref f_sign_at) = true)
    (a_bare : PySem.W.nsIn K mainGlobals "bare" = some (some (.ref f_bare)))
    (l_bare : K.lookup f_bare = some ⟨oc_bare, od_bare, .func (PySem.W.fnOf "bare" "bare" (defArgs s_bare) (defBody s_bare) (defScope s_bare) .none kV_bare dc_bare pm_bare an_bare cd_bare ct_bare), sl_bare⟩)
    (c_bare : PySem.W.codeIn K cd_bare "bare" = true)
    (k_bare : PySem.W.keepIn K (.ref f_bare) = true)
    (a_powered : PySem.W.nsIn K mainGlobals "powered" = some (some (.ref f_powered)))
    (l_powered : K.lookup f_powered = some ⟨oc_powered, od_powered, .func (PySem.W.fnOf "powered" "powered" (defArgs s_powered) (defBody s_powered) (defScope s_powered) .none kV_powered dc_powered pm_powered an_powered cd_powered ct_powered), sl_powered⟩)
    (c_powered : PySem.W.codeIn K cd_powered "powered" = true)
    (k_powered : PySem.W.keepIn K (.ref f_powered) = true)
    (a_turns : PySem.W.nsIn K mainGlobals "turns" = some (some (.ref f_turns)))
    (l_turns : K.lookup f_turns = some ⟨oc_turns, od_turns, .func (PySem.W.fnOf "turns" "turns" (defArgs s_turns) (defBody s_turns) (defScope s_turns) .none kV_turns dc_turns pm_turns an_turns cd_turns ct_turns), sl_turns⟩)
    (c_turns : PySem.W.codeIn K cd_turns "turns" = true)
    (k_turns : PySem.W.keepIn K (.ref f_turns) = true)
    (a_alone : PySem.W.nsIn K mainGlobals "alone" = some (some (.ref f_alone)))
    (l_alone : K.lookup f_alone = some ⟨oc_alone, od_alone, .func (PySem.W.fnOf "alone" "alone" (defArgs s_alone) (defBody s_alone) (defScope s_alone) .none kV_alone dc_alone pm_alone an_alone cd_alone ct_alone), sl_alone⟩)
    (c_alone : PySem.W.codeIn K cd_alone "alone" = true)
    (k_alone : PySem.W.keepIn K (.ref f_alone) = true)
    (a_seen : PySem.W.nsIn K mainGlobals "seen" = some (some (.ref f_seen)))
    (l_seen : K.lookup f_seen = some ⟨oc_seen, od_seen, .func (PySem.W.fnOf "seen" "seen" (defArgs s_seen) (defBody s_seen) (defScope s_seen) .none kV_seen dc_seen pm_seen an_seen cd_seen ct_seen), sl_seen⟩)
    (c_seen : PySem.W.codeIn K cd_seen "seen" = true)
    (k_seen : PySem.W.keepIn K (.ref f_seen) = true)
    (a_moved : PySem.W.nsIn K mainGlobals "moved" = some (some (.ref f_moved)))
    (l_moved : K.lookup f_moved = some ⟨oc_moved, od_moved, .func (PySem.W.fnOf "moved" "moved" (defArgs s_moved) (defBody s_moved) (defScope s_moved) .none kV_moved dc_moved pm_moved an_moved cd_moved ct_moved), sl_moved⟩)
    (c_moved : PySem.W.codeIn K cd_moved "moved" = true)
    (k_moved : PySem.W.keepIn K (.ref f_moved) = true)
    (a_peg : PySem.W.nsIn K mainGlobals "peg" = some (some (.ref f_peg)))
    (l_peg : K.lookup f_peg = some ⟨oc_peg, od_peg, .func (PySem.W.fnOf "peg" "peg" (defArgs s_peg) (defBody s_peg) (defScope s_peg) .none kV_peg dc_peg pm_peg an_peg cd_peg ct_peg), sl_peg⟩)
    (c_peg : PySem.W.codeIn K cd_peg "peg" = true)
    (k_peg : PySem.W.keepIn K (.ref f_peg) = true)
    (a_of_part : PySem.W.nsIn K mainGlobals "of_part" = some (some (.ref f_of_part)))
    (l_of_part : K.lookup f_of_part = some ⟨oc_of_part, od_of_part, .func (PySem.W.fnOf "of_part" "of_part" (defArgs s_of_part) (defBody s_of_part) (defScope s_of_part) .none kV_of_part dc_of_part pm_of_part an_of_part cd_of_part ct_of_part), sl_of_part⟩)
    (c_of_part : PySem.W.codeIn K cd_of_part "of_part" = true)
    (k_of_part : PySem.W.keepIn K (.ref f_of_part) = true)
    (a__law_whole : PySem.W.nsIn K mainGlobals "_law_whole" = some (some (.ref f__law_whole)))
    (l__law_whole : K.lookup f__law_whole = some ⟨oc__law_whole, od__law_whole, .func (PySem.W.fnOf "_law_whole" "_law_whole" (defArgs s__law_whole) (defBody s__law_whole) (defScope s__law_whole) .none kV__law_whole dc__law_whole pm__law_whole an__law_whole cd__law_whole ct__law_whole), sl__law_whole⟩)
    (c__law_whole : PySem.W.codeIn K cd__law_whole "_law_whole" = true)
    (k__law_whole : PySem.W.keepIn K (.ref f__law_whole) = true)
    (a__law_cell_at : PySem.W.nsIn K mainGlobals "_law_cell_at" = some (some (.ref f__law_cell_at)))
    (l__law_cell_at : K.lookup f__law_cell_at = some ⟨oc__law_cell_at, od__law_cell_at, .func (PySem.W.fnOf "_law_cell_at" "_law_cell_at" (defArgs s__law_cell_at) (defBody s__law_cell_at) (defScope s__law_cell_at) .none kV__law_cell_at dc__law_cell_at pm__law_cell_at an__law_cell_at cd__law_cell_at ct__law_cell_at), sl__law_cell_at⟩)
    (c__law_cell_at : PySem.W.codeIn K cd__law_cell_at "_law_cell_at" = true)
    (k__law_cell_at : PySem.W.keepIn K (.ref f__law_cell_at) = true)
    (a__law_divisor : PySem.W.nsIn K mainGlobals "_law_divisor" = some (some (.ref f__law_divisor)))
    (l__law_divisor : K.lookup f__law_divisor = some ⟨oc__law_divisor, od__law_divisor, .func (PySem.W.fnOf "_law_divisor" "_law_divisor" (defArgs s__law_divisor) (defBody s__law_divisor) (defScope s__law_divisor) .none kV__law_divisor dc__law_divisor pm__law_divisor an__law_divisor cd__law_divisor ct__law_divisor), sl__law_divisor⟩)
    (c__law_divisor : PySem.W.codeIn K cd__law_divisor "_law_divisor" = true)
    (k__law_divisor : PySem.W.keepIn K (.ref f__law_divisor) = true)
    (a__law_part : PySem.W.nsIn K mainGlobals "_law_part" = some (some (.ref f__law_part)))
    (l__law_part : K.lookup f__law_part = some ⟨oc__law_part, od__law_part, .func (PySem.W.fnOf "_law_part" "_law_part" (defArgs s__law_part) (defBody s__law_part) (defScope s__law_part) .none kV__law_part dc__law_part pm__law_part an__law_part cd__law_part ct__law_part), sl__law_part⟩)
    (c__law_part : PySem.W.codeIn K cd__law_part "_law_part" = true)
    (k__law_part : PySem.W.keepIn K (.ref f__law_part) = true)
    (a__law_smallest : PySem.W.nsIn K mainGlobals "_law_smallest" = some (some (.ref f__law_smallest)))
    (l__law_smallest : K.lookup f__law_smallest = some ⟨oc__law_smallest, od__law_smallest, .func (PySem.W.fnOf "_law_smallest" "_law_smallest" (defArgs s__law_smallest) (defBody s__law_smallest) (defScope s__law_smallest) .none kV__law_smallest dc__law_smallest pm__law_smallest an__law_smallest cd__law_smallest ct__law_smallest), sl__law_smallest⟩)
    (c__law_smallest : PySem.W.codeIn K cd__law_smallest "_law_smallest" = true)
    (k__law_smallest : PySem.W.keepIn K (.ref f__law_smallest) = true)
    (a__law_value : PySem.W.nsIn K mainGlobals "_law_value" = some (some (.ref f__law_value)))
    (l__law_value : K.lookup f__law_value = some ⟨oc__law_value, od__law_value, .func (PySem.W.fnOf "_law_value" "_law_value" (defArgs s__law_value) (defBody s__law_value) (defScope s__law_value) .none kV__law_value dc__law_value pm__law_value an__law_value cd__law_value ct__law_value), sl__law_value⟩)
    (c__law_value : PySem.W.codeIn K cd__law_value "_law_value" = true)
    (k__law_value : PySem.W.keepIn K (.ref f__law_value) = true)
    (a__law_by : PySem.W.nsIn K mainGlobals "_law_by" = some (some (.ref f__law_by)))
    (l__law_by : K.lookup f__law_by = some ⟨oc__law_by, od__law_by, .func (PySem.W.fnOf "_law_by" "_law_by" (defArgs s__law_by) (defBody s__law_by) (defScope s__law_by) .none kV__law_by dc__law_by pm__law_by an__law_by cd__law_by ct__law_by), sl__law_by⟩)
    (c__law_by : PySem.W.codeIn K cd__law_by "_law_by" = true)
    (k__law_by : PySem.W.keepIn K (.ref f__law_by) = true)
    (a__law_seen : PySem.W.nsIn K mainGlobals "_law_seen" = some (some (.ref f__law_seen)))
    (l__law_seen : K.lookup f__law_seen = some ⟨oc__law_seen, od__law_seen, .func (PySem.W.fnOf "_law_seen" "_law_seen" (defArgs s__law_seen) (defBody s__law_seen) (defScope s__law_seen) .none kV__law_seen dc__law_seen pm__law_seen an__law_seen cd__law_seen ct__law_seen), sl__law_seen⟩)
    (c__law_seen : PySem.W.codeIn K cd__law_seen "_law_seen" = true)
    (k__law_seen : PySem.W.keepIn K (.ref f__law_seen) = true)
    (a__law_turns : PySem.W.nsIn K mainGlobals "_law_turns" = some (some (.ref f__law_turns)))
    (l__law_turns : K.lookup f__law_turns = some ⟨oc__law_turns, od__law_turns, .func (PySem.W.fnOf "_law_turns" "_law_turns" (defArgs s__law_turns) (defBody s__law_turns) (defScope s__law_turns) .none kV__law_turns dc__law_turns pm__law_turns an__law_turns cd__law_turns ct__law_turns), sl__law_turns⟩)
    (c__law_turns : PySem.W.codeIn K cd__law_turns "_law_turns" = true)
    (k__law_turns : PySem.W.keepIn K (.ref f__law_turns) = true)
    (a__law_is_part : PySem.W.nsIn K mainGlobals "_law_is_part" = some (some (.ref f__law_is_part)))
    (l__law_is_part : K.lookup f__law_is_part = some ⟨oc__law_is_part, od__law_is_part, .func (PySem.W.fnOf "_law_is_part" "_law_is_part" (defArgs s__law_is_part) (defBody s__law_is_part) (defScope s__law_is_part) .none kV__law_is_part dc__law_is_part pm__law_is_part an__law_is_part cd__law_is_part ct__law_is_part), sl__law_is_part⟩)
    (c__law_is_part : PySem.W.codeIn K cd__law_is_part "_law_is_part" = true)
    (k__law_is_part : PySem.W.keepIn K (.ref f__law_is_part) = true)
    (a__law_is_peg : PySem.W.nsIn K mainGlobals "_law_is_peg" = some (some (.ref f__law_is_peg)))
    (l__law_is_peg : K.lookup f__law_is_peg = some ⟨oc__law_is_peg, od__law_is_peg, .func (PySem.W.fnOf "_law_is_peg" "_law_is_peg" (defArgs s__law_is_peg) (defBody s__law_is_peg) (defScope s__law_is_peg) .none kV__law_is_peg dc__law_is_peg pm__law_is_peg an__law_is_peg cd__law_is_peg ct__law_is_peg), sl__law_is_peg⟩)
    (c__law_is_peg : PySem.W.codeIn K cd__law_is_peg "_law_is_peg" = true)
    (k__law_is_peg : PySem.W.keepIn K (.ref f__law_is_peg) = true)
    (a__law_row : PySem.W.nsIn K mainGlobals "_law_row" = some (some (.ref f__law_row)))
    (l__law_row : K.lookup f__law_row = some ⟨oc__law_row, od__law_row, .func (PySem.W.fnOf "_law_row" "_law_row" (defArgs s__law_row) (defBody s__law_row) (defScope s__law_row) .none kV__law_row dc__law_row pm__law_row an__law_row cd__law_row ct__law_row), sl__law_row⟩)
    (c__law_row : PySem.W.codeIn K cd__law_row "_law_row" = true)
    (k__law_row : PySem.W.keepIn K (.ref f__law_row) = true)
    (a__law_end : PySem.W.nsIn K mainGlobals "_law_end" = some (some (.ref f__law_end)))
    (l__law_end : K.lookup f__law_end = some ⟨oc__law_end, od__law_end, .func (PySem.W.fnOf "_law_end" "_law_end" (defArgs s__law_end) (defBody s__law_end) (defScope s__law_end) .none kV__law_end dc__law_end pm__law_end an__law_end cd__law_end ct__law_end), sl__law_end⟩)
    (c__law_end : PySem.W.codeIn K cd__law_end "_law_end" = true)
    (k__law_end : PySem.W.keepIn K (.ref f__law_end) = true)
    (a__law_due : PySem.W.nsIn K mainGlobals "_law_due" = some (some (.ref f__law_due)))
    (l__law_due : K.lookup f__law_due = some ⟨oc__law_due, od__law_due, .func (PySem.W.fnOf "_law_due" "_law_due" (defArgs s__law_due) (defBody s__law_due) (defScope s__law_due) .none kV__law_due dc__law_due pm__law_due an__law_due cd__law_due ct__law_due), sl__law_due⟩)
    (c__law_due : PySem.W.codeIn K cd__law_due "_law_due" = true)
    (k__law_due : PySem.W.keepIn K (.ref f__law_due) = true)
    (a__law_word : PySem.W.nsIn K mainGlobals "_law_word" = some (some (.ref f__law_word)))
    (l__law_word : K.lookup f__law_word = some ⟨oc__law_word, od__law_word, .func (PySem.W.fnOf "_law_word" "_law_word" (defArgs s__law_word) (defBody s__law_word) (defScope s__law_word) .none kV__law_word dc__law_word pm__law_word an__law_word cd__law_word ct__law_word), sl__law_word⟩)
    (c__law_word : PySem.W.codeIn K cd__law_word "_law_word" = true)
    (k__law_word : PySem.W.keepIn K (.ref f__law_word) = true)
    (a__law_told : PySem.W.nsIn K mainGlobals "_law_told" = some (some (.ref f__law_told)))
    (l__law_told : K.lookup f__law_told = some ⟨oc__law_told, od__law_told, .func (PySem.W.fnOf "_law_told" "_law_told" (defArgs s__law_told) (defBody s__law_told) (defScope s__law_told) .none kV__law_told dc__law_told pm__law_told an__law_told cd__law_told ct__law_told), sl__law_told⟩)
    (c__law_told : PySem.W.codeIn K cd__law_told "_law_told" = true)
    (k__law_told : PySem.W.keepIn K (.ref f__law_told) = true)
    (a_law : PySem.W.nsIn K mainGlobals "law" = some (some (.ref f_law)))
    (l_law : K.lookup f_law = some ⟨oc_law, od_law, .func (PySem.W.fnOf "law" "law" (defArgs s_law) (defBody s_law) (defScope s_law) .none kV_law dc_law pm_law an_law cd_law ct_law), sl_law⟩)
    (c_law : PySem.W.codeIn K cd_law "law" = true)
    (k_law : PySem.W.keepIn K (.ref f_law) = true)
    (z_gcd : PySem.W.nsIn K mainGlobals "gcd" = some (some (.builtin "math.gcd")))
    (z_reversed : PySem.W.nsIn K mainGlobals "reversed" = some none)
    (z_lcm : PySem.W.nsIn K mainGlobals "lcm" = some (some (.builtin "math.lcm")))
    (z_list : PySem.W.nsIn K mainGlobals "list" = some none)
    (z_len : PySem.W.nsIn K mainGlobals "len" = some none)
    (z_range : PySem.W.nsIn K mainGlobals "range" = some none)
    (z_tuple : PySem.W.nsIn K mainGlobals "tuple" = some none)
    (z_int : PySem.W.nsIn K mainGlobals "int" = some none)
    (z_isinstance : PySem.W.nsIn K mainGlobals "isinstance" = some none)
    (z_bool : PySem.W.nsIn K mainGlobals "bool" = some none)
    (z_abs : PySem.W.nsIn K mainGlobals "abs" = some none)
    (z_ValueError : PySem.W.nsIn K mainGlobals "ValueError" = some none)
    (x_NoPart : PySem.W.excIn K C_NoPart [.type "ValueError", .type "Exception", .type "BaseException", .type "object"] "ValueError.__new__" = true)
    (kc_NoPart : PySem.W.keepIn K (.ref C_NoPart) = true)
    (s_NoPart : PySem.W.subIn K (.ref C_NoPart) (.type "BaseException") = some true)
    (t_NoPart : PySem.W.typeIn K (.ref C_NoPart) = some (.type "type"))
    (x_NoRow : PySem.W.excIn K C_NoRow [.type "ValueError", .type "Exception", .type "BaseException", .type "object"] "ValueError.__new__" = true)
    (kc_NoRow : PySem.W.keepIn K (.ref C_NoRow) = true)
    (s_NoRow : PySem.W.subIn K (.ref C_NoRow) (.type "BaseException") = some true)
    (t_NoRow : PySem.W.typeIn K (.ref C_NoRow) = some (.type "type"))
    (x_NoStretch : PySem.W.excIn K C_NoStretch [.type "ValueError", .type "Exception", .type "BaseException", .type "object"] "ValueError.__new__" = true)
    (kc_NoStretch : PySem.W.keepIn K (.ref C_NoStretch) = true)
    (s_NoStretch : PySem.W.subIn K (.ref C_NoStretch) (.type "BaseException") = some true)
    (t_NoStretch : PySem.W.typeIn K (.ref C_NoStretch) = some (.type "type"))
    (x_NotAlone : PySem.W.excIn K C_NotAlone [.type "ValueError", .type "Exception", .type "BaseException", .type "object"] "ValueError.__new__" = true)
    (kc_NotAlone : PySem.W.keepIn K (.ref C_NotAlone) = true)
    (s_NotAlone : PySem.W.subIn K (.ref C_NotAlone) (.type "BaseException") = some true)
    (t_NotAlone : PySem.W.typeIn K (.ref C_NotAlone) = some (.type "type"))
    (eg_NoRow : PySem.W.findIn K (.ref C_NoRow) "__getattribute__" = some (some (.builtin "BaseException.__getattribute__")))
    (ek_NoRow : PySem.W.findIn K (.ref C_NoRow) "__getattr__" = some none)
    (ed_NoRow : PySem.W.hasDictIn K C_NoRow = true)
    (ea_NoRow : PySem.W.findIn K (.ref C_NoRow) "__class__" = some (some (.builtin "object.__class__")))
    (eo_NoRow : PySem.W.mroIn K C_NoRow (.type "object") = some true)
    (bm_NoRow : PySem.W.subIn K (.ref C_NoRow) (.ref C_PegError) = some true)
    (i_NoRow_NoPart : PySem.W.kitOne K (.ref C_NoRow) (.ref C_NoPart) = some false)
    (i_NoRow_NoRow : PySem.W.kitOne K (.ref C_NoRow) (.ref C_NoRow) = some true)
    (i_NoRow_NoStretch : PySem.W.kitOne K (.ref C_NoRow) (.ref C_NoStretch) = some false)
    (i_NoRow_NotAlone : PySem.W.kitOne K (.ref C_NoRow) (.ref C_NotAlone) = some false)
    (i_NoRow_NoQuotient : PySem.W.kitOne K (.ref C_NoRow) (.ref C_NoQuotient) = some false)
    (i_NoRow_b : PySem.W.kitOne K (.ref C_NoRow) (.type "ValueError") = some true)
    (eg_NoStretch : PySem.W.findIn K (.ref C_NoStretch) "__getattribute__" = some (some (.builtin "BaseException.__getattribute__")))
    (ek_NoStretch : PySem.W.findIn K (.ref C_NoStretch) "__getattr__" = some none)
    (ed_NoStretch : PySem.W.hasDictIn K C_NoStretch = true)
    (ea_NoStretch : PySem.W.findIn K (.ref C_NoStretch) "__class__" = some (some (.builtin "object.__class__")))
    (eo_NoStretch : PySem.W.mroIn K C_NoStretch (.type "object") = some true)
    (bm_NoStretch : PySem.W.subIn K (.ref C_NoStretch) (.ref C_PegError) = some true)
    (i_NoStretch_NoPart : PySem.W.kitOne K (.ref C_NoStretch) (.ref C_NoPart) = some false)
    (i_NoStretch_NoRow : PySem.W.kitOne K (.ref C_NoStretch) (.ref C_NoRow) = some false)
    (i_NoStretch_NoStretch : PySem.W.kitOne K (.ref C_NoStretch) (.ref C_NoStretch) = some true)
    (i_NoStretch_NotAlone : PySem.W.kitOne K (.ref C_NoStretch) (.ref C_NotAlone) = some false)
    (i_NoStretch_NoQuotient : PySem.W.kitOne K (.ref C_NoStretch) (.ref C_NoQuotient) = some false)
    (i_NoStretch_b : PySem.W.kitOne K (.ref C_NoStretch) (.type "ValueError") = some true)
    (eg_NotAlone : PySem.W.findIn K (.ref C_NotAlone) "__getattribute__" = some (some (.builtin "BaseException.__getattribute__")))
    (ek_NotAlone : PySem.W.findIn K (.ref C_NotAlone) "__getattr__" = some none)
    (ed_NotAlone : PySem.W.hasDictIn K C_NotAlone = true)
    (ea_NotAlone : PySem.W.findIn K (.ref C_NotAlone) "__class__" = some (some (.builtin "object.__class__")))
    (eo_NotAlone : PySem.W.mroIn K C_NotAlone (.type "object") = some true)
    (bm_NotAlone : PySem.W.subIn K (.ref C_NotAlone) (.ref C_PegError) = some true)
    (i_NotAlone_NoPart : PySem.W.kitOne K (.ref C_NotAlone) (.ref C_NoPart) = some false)
    (i_NotAlone_NoRow : PySem.W.kitOne K (.ref C_NotAlone) (.ref C_NoRow) = some false)
    (i_NotAlone_NoStretch : PySem.W.kitOne K (.ref C_NotAlone) (.ref C_NoStretch) = some false)
    (i_NotAlone_NotAlone : PySem.W.kitOne K (.ref C_NotAlone) (.ref C_NotAlone) = some true)
    (i_NotAlone_NoQuotient : PySem.W.kitOne K (.ref C_NotAlone) (.ref C_NoQuotient) = some false)
    (i_NotAlone_b : PySem.W.kitOne K (.ref C_NotAlone) (.type "ValueError") = some true)
    (en_0 : PySem.W.specialIn K (.builtin "object.__class__") "__get__" = some (some (.builtin "getset_descriptor.__get__")))
    (et_0 : PySem.W.takesIn K (.builtin "object.__class__") = some true)
    (bs_PegError : PySem.W.subIn K (.ref C_PegError) (.type "BaseException") = some true)
    (bd_PegError : PySem.W.hasDictIn K C_PegError = true)
    (bt_PegError : PySem.W.typeIn K (.ref C_PegError) = some (.type "type"))
    : ∃ fd : FuncData, (∀ (s : Shared) (v : Value), BindsTo s fd ⟨[v], []⟩ [("_law_script", v)]) ∧ ∀ base : Heap, K.In base → base.Ns mainGlobals mg → FnOk l.prog w K mg base CX0 7 fa fd ["_law_script"] (sp_law K) := by
  have e := hfa.symm.trans (PySem.W.mg_of X G a_law)
  cases e
  have T : Txt K mg C_PegError C_NoPart C_NoRow C_NoStretch C_NotAlone C_NoQuotient := { b_gcd := PySem.W.mg_of X G z_gcd, b_reversed := PySem.W.mg_none_of X G z_reversed, b_lcm := PySem.W.mg_of X G z_lcm, b_list := PySem.W.mg_none_of X G z_list, b_len := PySem.W.mg_none_of X G z_len, b_range := PySem.W.mg_none_of X G z_range, b_tuple := PySem.W.mg_none_of X G z_tuple, b_int := PySem.W.mg_none_of X G z_int, b_isinstance := PySem.W.mg_none_of X G z_isinstance, b_bool := PySem.W.mg_none_of X G z_bool, b_abs := PySem.W.mg_none_of X G z_abs, b_ValueError := PySem.W.mg_none_of X G z_ValueError, m_PegError := PySem.W.mg_of X G a_PegError, m_NoPart := PySem.W.mg_of X G a_NoPart, m_NoRow := PySem.W.mg_of X G a_NoRow, m_NoStretch := PySem.W.mg_of X G a_NoStretch, m_NotAlone := PySem.W.mg_of X G a_NotAlone, m_NoQuotient := PySem.W.mg_of X G a_NoQuotient, x_NoPart := x_NoPart, k_NoPart := kc_NoPart, s_NoPart := s_NoPart, t_NoPart := t_NoPart, x_NoRow := x_NoRow, k_NoRow := kc_NoRow, s_NoRow := s_NoRow, t_NoRow := t_NoRow, x_NoStretch := x_NoStretch, k_NoStretch := kc_NoStretch, s_NoStretch := s_NoStretch, t_NoStretch := t_NoStretch, x_NotAlone := x_NotAlone, k_NotAlone := kc_NotAlone, s_NotAlone := s_NotAlone, t_NotAlone := t_NotAlone, e_NoRow := ⟨eg_NoRow, ek_NoRow, s_NoRow, ed_NoRow, ea_NoRow, en_0, et_0, eo_NoRow⟩, em_NoRow := PySem.W.exm_ref bs_PegError bd_PegError bt_PegError bm_NoRow, i_NoRow_NoPart := i_NoRow_NoPart, i_NoRow_NoRow := i_NoRow_NoRow, i_NoRow_NoStretch := i_NoRow_NoStretch, i_NoRow_NotAlone := i_NoRow_NotAlone, i_NoRow_NoQuotient := i_NoRow_NoQuotient, i_NoRow_b := i_NoRow_b, e_NoStretch := ⟨eg_NoStretch, ek_NoStretch, s_NoStretch, ed_NoStretch, ea_NoStretch, en_0, et_0, eo_NoStretch⟩, em_NoStretch := PySem.W.exm_ref bs_PegError bd_PegError bt_PegError bm_NoStretch, i_NoStretch_NoPart := i_NoStretch_NoPart, i_NoStretch_NoRow := i_NoStretch_NoRow, i_NoStretch_NoStretch := i_NoStretch_NoStretch, i_NoStretch_NotAlone := i_NoStretch_NotAlone, i_NoStretch_NoQuotient := i_NoStretch_NoQuotient, i_NoStretch_b := i_NoStretch_b, e_NotAlone := ⟨eg_NotAlone, ek_NotAlone, s_NotAlone, ed_NotAlone, ea_NotAlone, en_0, et_0, eo_NotAlone⟩, em_NotAlone := PySem.W.exm_ref bs_PegError bd_PegError bt_PegError bm_NotAlone, i_NotAlone_NoPart := i_NotAlone_NoPart, i_NotAlone_NoRow := i_NotAlone_NoRow, i_NotAlone_NoStretch := i_NotAlone_NoStretch, i_NotAlone_NotAlone := i_NotAlone_NotAlone, i_NotAlone_NoQuotient := i_NotAlone_NoQuotient, i_NotAlone_b := i_NotAlone_b }
  have F_part' := fun_mk (st := s_part) l_part c_part k_part
  have b_part' := F_part'.binds (ps := ["top", "bottom"]) fun _ _ _ _ _ _ us hl => match us, hl with | [_, _], _ => rfl
  have F_below' := fun_mk (st := s_below) l_below c_below k_below
  have b_below' := F_below'.binds (ps := ["one", "other"]) fun _ _ _ _ _ _ us hl => match us, hl with | [_, _], _ => rfl
  have F_part_sum' := fun_mk (st := s_part_sum) l_part_sum c_part_sum k_part_sum
  have b_part_sum' := F_part_sum'.binds (ps := ["one", "other"]) fun _ _ _ _ _ _ us hl => match us, hl with | [_, _], _ => rfl
  have F_sign' := fun_mk (st := s_sign) l_sign c_sign k_sign
  have b_sign' := F_sign'.binds (ps := ["number"]) fun _ _ _ _ _ _ us hl => match us, hl with | [_], _ => rfl
  have F_sign_at' := fun_mk (st := s_sign_at) l_sign_at c_sign_at k_sign_at
  have b_sign_at' := F_sign_at'.binds (ps := ["row", "at"]) fun _ _ _ _ _ _ us hl => match us, hl with | [_, _], _ => rfl
  have F_bare' := fun_mk (st := s_bare) l_bare c_bare k_bare
  have b_bare' := F_bare'.binds (ps := ["row"]) fun _ _ _ _ _ _ us hl => match us, hl with | [_], _ => rfl
  have F_powered' := fun_mk (st := s_powered) l_powered c_powered k_powered
  have b_powered' := F_powered'.binds (ps := ["row", "by"]) fun _ _ _ _ _ _ us hl => match us, hl with | [_, _], _ => rfl
  have F_turns' := fun_mk (st := s_turns) l_turns c_turns k_turns
  have b_turns' := F_turns'.binds (ps := ["row", "low", "high"]) fun _ _ _ _ _ _ us hl => match us, hl with | [_, _, _], _ => rfl
  have F_alone' := fun_mk (st := s_alone) l_alone c_alone k_alone
  have b_alone' := F_alone'.binds (ps := ["row", "low", "high"]) fun _ _ _ _ _ _ us hl => match us, hl with | [_, _, _], _ => rfl
  have F_seen' := fun_mk (st := s_seen) l_seen c_seen k_seen
  have b_seen' := F_seen'.binds (ps := ["row", "low", "high"]) fun _ _ _ _ _ _ us hl => match us, hl with | [_, _, _], _ => rfl
  have F_moved' := fun_mk (st := s_moved) l_moved c_moved k_moved
  have b_moved' := F_moved'.binds (ps := ["row", "by"]) fun _ _ _ _ _ _ us hl => match us, hl with | [_, _], _ => rfl
  have F_peg' := fun_mk (st := s_peg) l_peg c_peg k_peg
  have b_peg' := F_peg'.binds (ps := ["row", "low", "high"]) fun _ _ _ _ _ _ us hl => match us, hl with | [_, _, _], _ => rfl
  have F_of_part' := fun_mk (st := s_of_part) l_of_part c_of_part k_of_part
  have b_of_part' := F_of_part'.binds (ps := ["at"]) fun _ _ _ _ _ _ us hl => match us, hl with | [_], _ => rfl
  have F__law_whole' := fun_mk (st := s__law_whole) l__law_whole c__law_whole k__law_whole
  have b__law_whole' := F__law_whole'.binds (ps := ["_law_found"]) fun _ _ _ _ _ _ us hl => match us, hl with | [_], _ => rfl
  have F__law_cell_at' := fun_mk (st := s__law_cell_at) l__law_cell_at c__law_cell_at k__law_cell_at
  have b__law_cell_at' := F__law_cell_at'.binds (ps := ["_law_script", "_law_k"]) fun _ _ _ _ _ _ us hl => match us, hl with | [_, _], _ => rfl
  have F__law_divisor' := fun_mk (st := s__law_divisor) l__law_divisor c__law_divisor k__law_divisor
  have b__law_divisor' := F__law_divisor'.binds (ps := ["_law_one", "_law_other"]) fun _ _ _ _ _ _ us hl => match us, hl with | [_, _], _ => rfl
  have F__law_part' := fun_mk (st := s__law_part) l__law_part c__law_part k__law_part
  have b__law_part' := F__law_part'.binds (ps := ["_law_top", "_law_bottom"]) fun _ _ _ _ _ _ us hl => match us, hl with | [_, _], _ => rfl
  have F__law_smallest' := fun_mk (st := s__law_smallest) l__law_smallest c__law_smallest k__law_smallest
  have b__law_smallest' := F__law_smallest'.binds (ps := ["_law_row_here"]) fun _ _ _ _ _ _ us hl => match us, hl with | [_], _ => rfl
  have F__law_value' := fun_mk (st := s__law_value) l__law_value c__law_value k__law_value
  have b__law_value' := F__law_value'.binds (ps := ["_law_row_here", "_law_at"]) fun _ _ _ _ _ _ us hl => match us, hl with | [_, _], _ => rfl
  have F__law_by' := fun_mk (st := s__law_by) l__law_by c__law_by k__law_by
  have b__law_by' := F__law_by'.binds (ps := ["_law_row_here", "_law_other"]) fun _ _ _ _ _ _ us hl => match us, hl with | [_, _], _ => rfl
  have F__law_seen' := fun_mk (st := s__law_seen) l__law_seen c__law_seen k__law_seen
  have b__law_seen' := F__law_seen'.binds (ps := ["_law_row_here", "_law_low", "_law_high"]) fun _ _ _ _ _ _ us hl => match us, hl with | [_, _, _], _ => rfl
  have F__law_turns' := fun_mk (st := s__law_turns) l__law_turns c__law_turns k__law_turns
  have b__law_turns' := F__law_turns'.binds (ps := ["_law_row_here", "_law_low", "_law_high"]) fun _ _ _ _ _ _ us hl => match us, hl with | [_, _, _], _ => rfl
  have F__law_is_part' := fun_mk (st := s__law_is_part) l__law_is_part c__law_is_part k__law_is_part
  have b__law_is_part' := F__law_is_part'.binds (ps := ["_law_found"]) fun _ _ _ _ _ _ us hl => match us, hl with | [_], _ => rfl
  have F__law_is_peg' := fun_mk (st := s__law_is_peg) l__law_is_peg c__law_is_peg k__law_is_peg
  have b__law_is_peg' := F__law_is_peg'.binds (ps := ["_law_found"]) fun _ _ _ _ _ _ us hl => match us, hl with | [_], _ => rfl
  have F__law_row' := fun_mk (st := s__law_row) l__law_row c__law_row k__law_row
  have b__law_row' := F__law_row'.binds (ps := ["_law_script", "_law_k", "_law_many"]) fun _ _ _ _ _ _ us hl => match us, hl with | [_, _, _], _ => rfl
  have F__law_end' := fun_mk (st := s__law_end) l__law_end c__law_end k__law_end
  have b__law_end' := F__law_end'.binds (ps := ["_law_cell", "_law_more"]) fun _ _ _ _ _ _ us hl => match us, hl with | [_, _], _ => rfl
  have F__law_due' := fun_mk (st := s__law_due) l__law_due c__law_due k__law_due
  have b__law_due' := F__law_due'.binds (ps := ["_law_row_here", "_law_low", "_law_high"]) fun _ _ _ _ _ _ us hl => match us, hl with | [_, _, _], _ => rfl
  have F__law_word' := fun_mk (st := s__law_word) l__law_word c__law_word k__law_word
  have b__law_word' := F__law_word'.binds (ps := ["_law_e"]) fun _ _ _ _ _ _ us hl => match us, hl with | [_], _ => rfl
  have F__law_told' := fun_mk (st := s__law_told) l__law_told c__law_told k__law_told
  have b__law_told' := F__law_told'.binds (ps := ["_law_row_here", "_law_low", "_law_high"]) fun _ _ _ _ _ _ us hl => match us, hl with | [_, _, _], _ => rfl
  have F_law' := fun_mk (st := s_law) l_law c_law k_law
  have b_law' := F_law'.binds (ps := ["_law_script"]) fun _ _ _ _ _ _ us hl => match us, hl with | [_], _ => rfl
  refine ⟨PySem.W.fnOf "law" "law" (defArgs s_law) (defBody s_law) (defScope s_law) .none kV_law dc_law pm_law an_law cd_law ct_law, fun s v => .of_eq rfl, fun base KB GB => ?_⟩
  have G__law_cell_at : Cal l.prog w K mg base CX0 1 "_law_cell_at" ["_law_script", "_law_k"] (sp__law_cell_at K) := ⟨f__law_cell_at, _, ok__law_cell_at F__law_cell_at' T, PySem.W.mg_of X G a__law_cell_at, k__law_cell_at, b__law_cell_at'⟩
  have G__law_row : Cal l.prog w K mg base CX0 2 "_law_row" ["_law_script", "_law_k", "_law_many"] (sp__law_row K) := ⟨f__law_row, _, ok__law_row F__law_row' T G__law_cell_at, PySem.W.mg_of X G a__law_row, k__law_row, b__law_row'⟩
  have G__law_by : Cal l.prog w K mg base CX0 1 "_law_by" ["_law_row_here", "_law_other"] (sp__law_by K) := ⟨f__law_by, _, ok__law_by F__law_by' T, PySem.W.mg_of X G a__law_by, k__law_by, b__law_by'⟩
  have G__law_divisor : Cal l.prog w K mg base CX0 1 "_law_divisor" ["_law_one", "_law_other"] (sp__law_divisor K) := ⟨f__law_divisor, _, ok__law_divisor F__law_divisor' T, PySem.W.mg_of X G a__law_divisor, k__law_divisor, b__law_divisor'⟩
  have G__law_part : Cal l.prog w K mg base CX0 2 "_law_part" ["_law_top", "_law_bottom"] (sp__law_part K) := ⟨f__law_part, _, ok__law_part F__law_part' T G__law_divisor, PySem.W.mg_of X G a__law_part, k__law_part, b__law_part'⟩
  have G__law_end : Cal l.prog w K mg base CX0 3 "_law_end" ["_law_cell", "_law_more"] (sp__law_end K) := ⟨f__law_end, _, ok__law_end F__law_end' T G__law_part, PySem.W.mg_of X G a__law_end, k__law_end, b__law_end'⟩
  have G_below : Cal l.prog w K mg base CX0 1 "below" ["one", "other"] (sp_below K) := ⟨f_below, _, ok_below F_below' T, PySem.W.mg_of X G a_below, k_below, b_below'⟩
  have G_sign : Cal l.prog w K mg base CX0 1 "sign" ["number"] (sp_sign K) := ⟨f_sign, _, ok_sign F_sign' T, PySem.W.mg_of X G a_sign, k_sign, b_sign'⟩
  have G_sign_at : Cal l.prog w K mg base CX0 2 "sign_at" ["row", "at"] (sp_sign_at K) := ⟨f_sign_at, _, ok_sign_at F_sign_at' T G_sign, PySem.W.mg_of X G a_sign_at, k_sign_at, b_sign_at'⟩
  have G_powered : Cal l.prog w K mg base CX0 1 "powered" ["row", "by"] (sp_powered K) := ⟨f_powered, _, ok_powered F_powered' T, PySem.W.mg_of X G a_powered, k_powered, b_powered'⟩
  have G_moved : Cal l.prog w K mg base CX0 1 "moved" ["row", "by"] (sp_moved K) := ⟨f_moved, _, ok_moved F_moved' T, PySem.W.mg_of X G a_moved, k_moved, b_moved'⟩
  have G_seen : Cal l.prog w K mg base CX0 2 "seen" ["row", "low", "high"] (sp_seen K) := ⟨f_seen, _, ok_seen F_seen' T G_powered G_moved, PySem.W.mg_of X G a_seen, k_seen, b_seen'⟩
  have G_turns : Cal l.prog w K mg base CX0 3 "turns" ["row", "low", "high"] (sp_turns K) := ⟨f_turns, _, ok_turns F_turns' T G_seen G_sign, PySem.W.mg_of X G a_turns, k_turns, b_turns'⟩
  have G_alone : Cal l.prog w K mg base CX0 4 "alone" ["row", "low", "high"] (sp_alone K) := ⟨f_alone, _, ok_alone F_alone' T G_sign_at G_turns, PySem.W.mg_of X G a_alone, k_alone, b_alone'⟩
  have G_bare : Cal l.prog w K mg base CX0 1 "bare" ["row"] (sp_bare K) := ⟨f_bare, _, ok_bare F_bare' T, PySem.W.mg_of X G a_bare, k_bare, b_bare'⟩
  have G_peg : Cal l.prog w K mg base (L2.CX l.prog w) 5 "peg" ["row", "low", "high"] (sp_peg K C_NoRow C_NoStretch C_NotAlone) := ⟨f_peg, _, ok_peg F_peg' T G_below G_alone G_bare, PySem.W.mg_of X G a_peg, k_peg, b_peg'⟩
  have W__law_word : Word l.prog w K mg base 0 "_law_word" M__law_word (t__law_word K C_NoPart C_NoRow C_NoStretch C_NotAlone C_NoQuotient) := w__law_word F__law_word' T (PySem.W.mg_of X G a__law_word) b__law_word'
  have G__law_told : Cal l.prog w K mg base CX0 6 "_law_told" ["_law_row_here", "_law_low", "_law_high"] (sp__law_told K) := ⟨f__law_told, _, ok__law_told F__law_told' T G_peg W__law_word, PySem.W.mg_of X G a__law_told, k__law_told, b__law_told'⟩
  have G__law_value : Cal l.prog w K mg base CX0 1 "_law_value" ["_law_row_here", "_law_at"] (sp__law_value K) := ⟨f__law_value, _, ok__law_value F__law_value' T, PySem.W.mg_of X G a__law_value, k__law_value, b__law_value'⟩
  have G__law_seen : Cal l.prog w K mg base CX0 2 "_law_seen" ["_law_row_here", "_law_low", "_law_high"] (sp__law_seen K) := ⟨f__law_seen, _, ok__law_seen F__law_seen' T G__law_by, PySem.W.mg_of X G a__law_seen, k__law_seen, b__law_seen'⟩
  have G__law_turns : Cal l.prog w K mg base CX0 3 "_law_turns" ["_law_row_here", "_law_low", "_law_high"] (sp__law_turns K) := ⟨f__law_turns, _, ok__law_turns F__law_turns' T G__law_seen, PySem.W.mg_of X G a__law_turns, k__law_turns, b__law_turns'⟩
  have G__law_due : Cal l.prog w K mg base CX0 4 "_law_due" ["_law_row_here", "_law_low", "_law_high"] (sp__law_due K) := ⟨f__law_due, _, ok__law_due F__law_due' T G__law_value G__law_turns, PySem.W.mg_of X G a__law_due, k__law_due, b__law_due'⟩
  have G__law_whole : Cal l.prog w K mg base CX0 1 "_law_whole" ["_law_found"] (sp__law_whole K) := ⟨f__law_whole, _, ok__law_whole F__law_whole' T, PySem.W.mg_of X G a__law_whole, k__law_whole, b__law_whole'⟩
  have G__law_smallest : Cal l.prog w K mg base CX0 2 "_law_smallest" ["_law_row_here"] (sp__law_smallest K) := ⟨f__law_smallest, _, ok__law_smallest F__law_smallest' T G__law_divisor, PySem.W.mg_of X G a__law_smallest, k__law_smallest, b__law_smallest'⟩
  have G__law_is_part : Cal l.prog w K mg base CX0 3 "_law_is_part" ["_law_found"] (sp__law_is_part K) := ⟨f__law_is_part, _, ok__law_is_part F__law_is_part' T G__law_whole G__law_part, PySem.W.mg_of X G a__law_is_part, k__law_is_part, b__law_is_part'⟩
  have G__law_is_peg : Cal l.prog w K mg base CX0 4 "_law_is_peg" ["_law_found"] (sp__law_is_peg K) := ⟨f__law_is_peg, _, ok__law_is_peg F__law_is_peg' T G__law_whole G__law_smallest G__law_is_part G__law_value G__law_turns, PySem.W.mg_of X G a__law_is_peg, k__law_is_peg, b__law_is_peg'⟩
  have G_part : Cal l.prog w K mg base (L2.CX l.prog w) 1 "part" ["top", "bottom"] (sp_part K C_NoPart) := ⟨f_part, _, ok_part F_part' T, PySem.W.mg_of X G a_part, k_part, b_part'⟩
  have G_part_sum : Cal l.prog w K mg base CX0 2 "part_sum" ["one", "other"] (sp_part_sum K) := ⟨f_part_sum, _, ok_part_sum F_part_sum' T G_part, PySem.W.mg_of X G a_part_sum, k_part_sum, b_part_sum'⟩
  have G_of_part : Cal l.prog w K mg base CX0 3 "of_part" ["at"] (sp_of_part K) := ⟨f_of_part, _, ok_of_part F_of_part' T G_part_sum, PySem.W.mg_of X G a_of_part, k_of_part, b_of_part'⟩
  exact ok_law F_law' T G__law_cell_at G__law_row G__law_by G__law_end G__law_part G__law_told G__law_due G__law_is_peg G__law_smallest G_of_part
theorem walk {l : PySem.W.OpenLaw} {q : Program} {loose : List Str} {XP : (Str → Option Value) → Heap → Prop} {YP : World → Heap → Prop} {d : DefRec} {K : Params → PySem.W.Frag} (hn : l.most = some 63) (hdf : d.params.defaults = [])
    (hY : ∀ (w : World) (h : Heap), YP w h → (K w.params).In h)
    (F : ∀ (w : World) (mg : Str → Option Value) (fa : Addr) (h : Heap), (K w.params).In h → h.Ns mainGlobals mg → mg d.name = some (.ref fa) →
      ∃ fd : FuncData, (∀ (s : Shared) (u : Value), BindsTo s fd ⟨[u], []⟩ [("_law_script", u)]) ∧ ∀ base : Heap, (K w.params).In base → base.Ns mainGlobals mg → FnOk l.prog w (K w.params) mg base CX0 7 fa fd ["_law_script"] (sp_law (K w.params))) :
    PySem.W.WalkO q loose XP YP l.row.toRowW d [] (fun f vs => PySem.call f vs) :=
  L2.walk_of (n := 63) (k := 7) (x := "_law_script") (CX := fun _ => CX0) (sp := fun w => sp_law (K w.params)) hn (by decide) hdf ⟨rfl, by decide, by decide⟩ hY F
    (fun _ H a ns hl _ hS => ⟨rfl, H, [.list (ns.map .int)], .rt (.bool true), Ex.refl H, .cons (.lst hS dpa_ints) .nil, ⟨ns, hl, rfl, rfl⟩, fun v G2 H2 _ hv => dp_bl hv⟩) fun _ _ _ _ _ z => z
end K06
open PySem PySem.W PyProof.Rows
set_option maxRecDepth 100000 in
set_option maxHeartbeats 0 in
theorem PySem.Challenge.cw_rootpeg_k06_pegs_made_holds : PySem.Challenge.rw_rootpeg_k06_pegs_made.Holds := by
  w_on; o_law; k_head; (case hw => w_witness2)
  k_fill
  refine K06.walk (l := PySem.Challenge.rw_rootpeg_k06_pegs_made) rfl rfl (fun w h Y => PySem.W.kIn_of Y) ?F
  case F =>
    intro w mg fa h KX G hmg
    refine' K06.all_mk KX G hmg ?a_PegError ?a_NoPart ?a_NoRow ?a_NoStretch ?a_NotAlone ?a_NoQuotient ?a_part ?l_part ?c_part ?k_part ?a_below ?l_below ?c_below ?k_below ?a_part_sum ?l_part_sum ?c_part_sum ?k_part_sum ?a_sign ?l_sign ?c_sign ?k_sign ?a_sign_at ?l_sign_at ?c_sign_at ?k_sign_at ?a_bare ?l_bare ?c_bare ?k_bare ?a_powered ?l_powered ?c_powered ?k_powered ?a_turns ?l_turns ?c_turns ?k_turns ?a_alone ?l_alone ?c_alone ?k_alone ?a_seen ?l_seen ?c_seen ?k_seen ?a_moved ?l_moved ?c_moved ?k_moved ?a_peg ?l_peg ?c_peg ?k_peg ?a_of_part ?l_of_part ?c_of_part ?k_of_part ?a__law_whole ?l__law_whole ?c__law_whole ?k__law_whole ?a__law_cell_at ?l__law_cell_at ?c__law_cell_at ?k__law_cell_at ?a__law_divisor ?l__law_divisor ?c__law_divisor ?k__law_divisor ?a__law_part ?l__law_part ?c__law_part ?k__law_part ?a__law_smallest ?l__law_smallest ?c__law_smallest ?k__law_smallest ?a__law_value ?l__law_value ?c__law_value ?k__law_value ?a__law_by ?l__law_by ?c__law_by ?k__law_by ?a__law_seen ?l__law_seen ?c__law_seen ?k__law_seen ?a__law_turns ?l__law_turns ?c__law_turns ?k__law_turns ?a__law_is_part ?l__law_is_part ?c__law_is_part ?k__law_is_part ?a__law_is_peg ?l__law_is_peg ?c__law_is_peg ?k__law_is_peg ?a__law_row ?l__law_row ?c__law_row ?k__law_row ?a__law_end ?l__law_end ?c__law_end ?k__law_end ?a__law_due ?l__law_due ?c__law_due ?k__law_due ?a__law_word ?l__law_word ?c__law_word ?k__law_word ?a__law_told ?l__law_told ?c__law_told ?k__law_told ?a_law ?l_law ?c_law ?k_law ?z_gcd ?z_reversed ?z_lcm ?z_list ?z_len ?z_range ?z_tuple ?z_int ?z_isinstance ?z_bool ?z_abs ?z_ValueError ?x_NoPart ?kc_NoPart ?s_NoPart ?t_NoPart ?x_NoRow ?kc_NoRow ?s_NoRow ?t_NoRow ?x_NoStretch ?kc_NoStretch ?s_NoStretch ?t_NoStretch ?x_NotAlone ?kc_NotAlone ?s_NotAlone ?t_NotAlone ?eg_NoRow ?ek_NoRow ?ed_NoRow ?ea_NoRow ?eo_NoRow ?bm_NoRow ?i_NoRow_NoPart ?i_NoRow_NoRow ?i_NoRow_NoStretch ?i_NoRow_NotAlone ?i_NoRow_NoQuotient ?i_NoRow_b ?eg_NoStretch ?ek_NoStretch ?ed_NoStretch ?ea_NoStretch ?eo_NoStretch ?bm_NoStretch ?i_NoStretch_NoPart ?i_NoStretch_NoRow ?i_NoStretch_NoStretch ?i_NoStretch_NotAlone ?i_NoStretch_NoQuotient ?i_NoStretch_b ?eg_NotAlone ?ek_NotAlone ?ed_NotAlone ?ea_NotAlone ?eo_NotAlone ?bm_NotAlone ?i_NotAlone_NoPart ?i_NotAlone_NoRow ?i_NotAlone_NoStretch ?i_NotAlone_NotAlone ?i_NotAlone_NoQuotient ?i_NotAlone_b ?en_0 ?et_0 ?bs_PegError ?bd_PegError ?bt_PegError
    (case a_PegError => first | k_is | rfl)
    (case a_NoPart => first | k_is | rfl)
    (case a_NoRow => first | k_is | rfl)
    (case a_NoStretch => first | k_is | rfl)
    (case a_NotAlone => first | k_is | rfl)
    (case a_NoQuotient => first | k_is | rfl)
    (case a_part => first | k_is | rfl)
    (case l_part => first | k_is | rfl)
    (case c_part => first | k_is | rfl)
    (case k_part => first | k_is | rfl)
    (case a_below => first | k_is | rfl)
    (case l_below => first | k_is | rfl)
    (case c_below => first | k_is | rfl)
    (case k_below => first | k_is | rfl)
    (case a_part_sum => first | k_is | rfl)
    (case l_part_sum => first | k_is | rfl)
    (case c_part_sum => first | k_is | rfl)
    (case k_part_sum => first | k_is | rfl)
    (case a_sign => first | k_is | rfl)
    (case l_sign => first | k_is | rfl)
    (case c_sign => first | k_is | rfl)
    (case k_sign => first | k_is | rfl)
    (case a_sign_at => first | k_is | rfl)
    (case l_sign_at => first | k_is | rfl)
    (case c_sign_at => first | k_is | rfl)
    (case k_sign_at => first | k_is | rfl)
    (case a_bare => first | k_is | rfl)
    (case l_bare => first | k_is | rfl)
    (case c_bare => first | k_is | rfl)
    (case k_bare => first | k_is | rfl)
    (case a_powered => first | k_is | rfl)
    (case l_powered => first | k_is | rfl)
    (case c_powered => first | k_is | rfl)
    (case k_powered => first | k_is | rfl)
    (case a_turns => first | k_is | rfl)
    (case l_turns => first | k_is | rfl)
    (case c_turns => first | k_is | rfl)
    (case k_turns => first | k_is | rfl)
    (case a_alone => first | k_is | rfl)
    (case l_alone => first | k_is | rfl)
    (case c_alone => first | k_is | rfl)
    (case k_alone => first | k_is | rfl)
    (case a_seen => first | k_is | rfl)
    (case l_seen => first | k_is | rfl)
    (case c_seen => first | k_is | rfl)
    (case k_seen => first | k_is | rfl)
    (case a_moved => first | k_is | rfl)
    (case l_moved => first | k_is | rfl)
    (case c_moved => first | k_is | rfl)
    (case k_moved => first | k_is | rfl)
    (case a_peg => first | k_is | rfl)
    (case l_peg => first | k_is | rfl)
    (case c_peg => first | k_is | rfl)
    (case k_peg => first | k_is | rfl)
    (case a_of_part => first | k_is | rfl)
    (case l_of_part => first | k_is | rfl)
    (case c_of_part => first | k_is | rfl)
    (case k_of_part => first | k_is | rfl)
    (case a__law_whole => first | k_is | rfl)
    (case l__law_whole => first | k_is | rfl)
    (case c__law_whole => first | k_is | rfl)
    (case k__law_whole => first | k_is | rfl)
    (case a__law_cell_at => first | k_is | rfl)
    (case l__law_cell_at => first | k_is | rfl)
    (case c__law_cell_at => first | k_is | rfl)
    (case k__law_cell_at => first | k_is | rfl)
    (case a__law_divisor => first | k_is | rfl)
    (case l__law_divisor => first | k_is | rfl)
    (case c__law_divisor => first | k_is | rfl)
    (case k__law_divisor => first | k_is | rfl)
    (case a__law_part => first | k_is | rfl)
    (case l__law_part => first | k_is | rfl)
    (case c__law_part => first | k_is | rfl)
    (case k__law_part => first | k_is | rfl)
    (case a__law_smallest => first | k_is | rfl)
    (case l__law_smallest => first | k_is | rfl)
    (case c__law_smallest => first | k_is | rfl)
    (case k__law_smallest => first | k_is | rfl)
    (case a__law_value => first | k_is | rfl)
    (case l__law_value => first | k_is | rfl)
    (case c__law_value => first | k_is | rfl)
    (case k__law_value => first | k_is | rfl)
    (case a__law_by => first | k_is | rfl)
    (case l__law_by => first | k_is | rfl)
    (case c__law_by => first | k_is | rfl)
    (case k__law_by => first | k_is | rfl)
    (case a__law_seen => first | k_is | rfl)
    (case l__law_seen => first | k_is | rfl)
    (case c__law_seen => first | k_is | rfl)
    (case k__law_seen => first | k_is | rfl)
    (case a__law_turns => first | k_is | rfl)
    (case l__law_turns => first | k_is | rfl)
    (case c__law_turns => first | k_is | rfl)
    (case k__law_turns => first | k_is | rfl)
    (case a__law_is_part => first | k_is | rfl)
    (case l__law_is_part => first | k_is | rfl)
    (case c__law_is_part => first | k_is | rfl)
    (case k__law_is_part => first | k_is | rfl)
    (case a__law_is_peg => first | k_is | rfl)
    (case l__law_is_peg => first | k_is | rfl)
    (case c__law_is_peg => first | k_is | rfl)
    (case k__law_is_peg => first | k_is | rfl)
    (case a__law_row => first | k_is | rfl)
    (case l__law_row => first | k_is | rfl)
    (case c__law_row => first | k_is | rfl)
    (case k__law_row => first | k_is | rfl)
    (case a__law_end => first | k_is | rfl)
    (case l__law_end => first | k_is | rfl)
    (case c__law_end => first | k_is | rfl)
    (case k__law_end => first | k_is | rfl)
    (case a__law_due => first | k_is | rfl)
    (case l__law_due => first | k_is | rfl)
    (case c__law_due => first | k_is | rfl)
    (case k__law_due => first | k_is | rfl)
    (case a__law_word => first | k_is | rfl)
    (case l__law_word => first | k_is | rfl)
    (case c__law_word => first | k_is | rfl)
    (case k__law_word => first | k_is | rfl)
    (case a__law_told => first | k_is | rfl)
    (case l__law_told => first | k_is | rfl)
    (case c__law_told => first | k_is | rfl)
    (case k__law_told => first | k_is | rfl)
    (case a_law => first | k_is | rfl)
    (case l_law => first | k_is | rfl)
    (case c_law => first | k_is | rfl)
    (case k_law => first | k_is | rfl)
    (case z_gcd => first | k_is | rfl)
    (case z_reversed => first | k_is | rfl)
    (case z_lcm => first | k_is | rfl)
    (case z_list => first | k_is | rfl)
    (case z_len => first | k_is | rfl)
    (case z_range => first | k_is | rfl)
    (case z_tuple => first | k_is | rfl)
    (case z_int => first | k_is | rfl)
    (case z_isinstance => first | k_is | rfl)
    (case z_bool => first | k_is | rfl)
    (case z_abs => first | k_is | rfl)
    (case z_ValueError => first | k_is | rfl)
    (case x_NoPart => first | k_exc | k_is)
    (case kc_NoPart => first | k_is | rfl)
    (case s_NoPart => first | k_is | rfl)
    (case t_NoPart => first | k_is | rfl)
    (case x_NoRow => first | k_exc | k_is)
    (case kc_NoRow => first | k_is | rfl)
    (case s_NoRow => first | k_is | rfl)
    (case t_NoRow => first | k_is | rfl)
    (case x_NoStretch => first | k_exc | k_is)
    (case kc_NoStretch => first | k_is | rfl)
    (case s_NoStretch => first | k_is | rfl)
    (case t_NoStretch => first | k_is | rfl)
    (case x_NotAlone => first | k_exc | k_is)
    (case kc_NotAlone => first | k_is | rfl)
    (case s_NotAlone => first | k_is | rfl)
    (case t_NotAlone => first | k_is | rfl)
    (case eg_NoRow => first | k_is | rfl)
    (case ek_NoRow => first | k_is | rfl)
    (case ed_NoRow => first | k_is | rfl)
    (case ea_NoRow => first | k_is | rfl)
    (case eo_NoRow => first | k_is | rfl)
    (case bm_NoRow => first | k_is | rfl)
    (case i_NoRow_NoPart => first | k_is | rfl)
    (case i_NoRow_NoRow => first | k_is | rfl)
    (case i_NoRow_NoStretch => first | k_is | rfl)
    (case i_NoRow_NotAlone => first | k_is | rfl)
    (case i_NoRow_NoQuotient => first | k_is | rfl)
    (case i_NoRow_b => first | k_is | rfl)
    (case eg_NoStretch => first | k_is | rfl)
    (case ek_NoStretch => first | k_is | rfl)
    (case ed_NoStretch => first | k_is | rfl)
    (case ea_NoStretch => first | k_is | rfl)
    (case eo_NoStretch => first | k_is | rfl)
    (case bm_NoStretch => first | k_is | rfl)
    (case i_NoStretch_NoPart => first | k_is | rfl)
    (case i_NoStretch_NoRow => first | k_is | rfl)
    (case i_NoStretch_NoStretch => first | k_is | rfl)
    (case i_NoStretch_NotAlone => first | k_is | rfl)
    (case i_NoStretch_NoQuotient => first | k_is | rfl)
    (case i_NoStretch_b => first | k_is | rfl)
    (case eg_NotAlone => first | k_is | rfl)
    (case ek_NotAlone => first | k_is | rfl)
    (case ed_NotAlone => first | k_is | rfl)
    (case ea_NotAlone => first | k_is | rfl)
    (case eo_NotAlone => first | k_is | rfl)
    (case bm_NotAlone => first | k_is | rfl)
    (case i_NotAlone_NoPart => first | k_is | rfl)
    (case i_NotAlone_NoRow => first | k_is | rfl)
    (case i_NotAlone_NoStretch => first | k_is | rfl)
    (case i_NotAlone_NotAlone => first | k_is | rfl)
    (case i_NotAlone_NoQuotient => first | k_is | rfl)
    (case i_NotAlone_b => first | k_is | rfl)
    (case en_0 => first | k_is | rfl)
    (case et_0 => first | k_is | rfl)
    (case bs_PegError => first | k_is | rfl)
    (case bd_PegError => first | k_is | rfl)
    (case bt_PegError => first | k_is | rfl)

