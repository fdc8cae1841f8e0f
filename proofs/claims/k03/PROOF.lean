import PyProof.Rows.All
import Wide.All
import OpenK.AllK
import Wide.FinOn
import HandS.ForMost
import HandS.ForExc
import HandS.Evl
import HandS.Wide
import HandS.WideBits
import HandS.Gcd
import HandS.IsInst
import HandS.ExcIs
import HandS.Rev
import HandS.Zip
import HandS.TupAny
import HandS.Deep
import HandS.TryOnly
import HandS.ExcOwn
import HandS.WordsExc
import PySem.Challenge.RW_rootpeg_k03_the_sign
set_option Elab.async false
set_option linter.all false
set_option maxRecDepth 100000
set_option maxHeartbeats 4000000
/-! Kit of my own: a def's reading told by data (PyData), not by values and heaps. -/
namespace Rt
open PySem L2 Evl

/-! ### steps of a heap: G the part that never changes, H the whole -/
structure Step (G H G2 H2 : Hp) : Prop where
  g : Ex G G2
  h : Ex H H2
  gh : Ex G2 H2
  new : ∀ p, G2 p ≠ none → G p = none → H p = none
section
variable {G H G2 H2 G3 H3 : Hp} {p : Addr} {o : HO}
theorem Step.refl (e : Ex G H) : Step G H G H := ⟨Ex.refl G, Ex.refl H, e, fun p h1 h2 => absurd h2 h1⟩
theorem Step.trans (a : Step G H G2 H2) (b : Step G2 H2 G3 H3) : Step G H G3 H3 :=
  ⟨a.g.trans b.g, a.h.trans b.h, b.gh, fun p h1 h2 => by
    by_cases h : G2 p = none
    · exact fresh_back a.h (b.new p h1 h)
    · exact a.new p h h2⟩
theorem Ex.upd2 (e : Ex G H) (o : HO) (p : Addr) : Ex (upd G p o) (upd H p o) := fun b u hb => by
  by_cases h : b = p
  · subst h; rw [upd_same] at hb ⊢; exact hb
  · rw [upd_ne h] at hb ⊢; exact e b u hb
theorem Step.alloc (e : Ex G H) (hp : H p = none) : Step G H (upd G p o) (upd H p o) :=
  ⟨Ex.new (fresh_back e hp), Ex.new hp, Ex.upd2 e o p, fun q h1 h2 => by
    by_cases h : q = p
    · rw [h]; exact hp
    · rw [upd_ne h] at h1; exact absurd h2 h1⟩
/-- a new object outside of the frozen part -/
theorem Step.allocO (e : Ex G H) (hp : H p = none) : Step G H G (upd H p o) :=
  ⟨Ex.refl G, Ex.new hp, e.trans (Ex.new hp), fun q h1 h2 => absurd h2 h1⟩
/-- an object outside of both changes -/
theorem Step.mutO (s : Step G H G2 H2) (h1 : H p = none) (h2 : G2 p = none) : Step G H G2 (upd H2 p o) :=
  ⟨s.g, Ex.mut s.h h1, Ex.mut s.gh h2, s.new⟩
/-- an object outside of the first is frozen -/
theorem Step.frz (s : Step G H G2 H2) (h1 : H p = none) (h2 : H2 p = some o) : Step G H (upd G2 p o) H2 := by
  refine ⟨fun b u hb => ?_, s.h, fun b u hb => ?_, fun q h3 h4 => ?_⟩
  · by_cases h : b = p
    · subst h
      have := s.h
      have e1 : G2 b = some u := s.g b u hb
      have e2 := s.gh b u e1
      rw [upd_same]; rw [h2] at e2; exact e2
    · rw [upd_ne h]; exact s.g b u hb
  · by_cases h : b = p
    · subst h; rw [upd_same] at hb; rw [h2]; exact hb
    · rw [upd_ne h] at hb; exact s.gh b u hb
  · by_cases h : q = p
    · rw [h]; exact h1
    · rw [upd_ne h] at h3; exact s.new q h3 h4
end

/-! ### data -/
section
variable {K : PySem.W.Frag} {G G' : Hp}
mutual
theorem dp_mono (e : Ex G G') : ∀ (d : PyData) (v : V), Dp K G v d → Dp K G' v d
  | .none, _, h => by cases h; exact .non
  | .bool b, _, h => by cases h; exact .bl _
  | .int i, _, h => by cases h; exact .int _
  | .str x, _, h => by cases h; exact .str _
  | .list ds, _, h => by
    cases h with
    | lst hs ha => exact .lst (ex_l e hs) (dpa_mono e ds _ ha)
  | .tuple ds, _, h => by
    cases h with
    | tup hs ha => exact .tup (ex_t e hs) (dpa_mono e ds _ ha)
  | .dict _, _, h => by cases h
theorem dpa_mono (e : Ex G G') : ∀ (ds : List PyData) (vs : List V), DpAll K G vs ds → DpAll K G' vs ds
  | [], _, h => by cases h; exact .nil
  | d :: ds, _, h => by
    cases h with
    | cons h1 h2 => exact .cons (dp_mono e d _ h1) (dpa_mono e ds _ h2)
end
end
end Rt
namespace L2
open PySem Evl
section
variable {K : PySem.W.Frag} {G G' : Hp}
theorem DpAll.len : ∀ {vs : List V} {ds : List PyData}, DpAll K G vs ds → vs.length = ds.length
  | _, _, .nil => rfl
  | _, _, .cons _ t => by rw [List.length_cons, List.length_cons, DpAll.len t]
theorem DpAll.get : ∀ {vs : List V} {ds : List PyData} {i : Nat} {d : PyData}, DpAll K G vs ds → ds[i]? = some d → ∃ v, vs[i]? = some v ∧ Dp K G v d
  | _, _, _, _, .nil, e => by simp at e
  | _, _, 0, _, .cons h _, e => by simp at e; subst e; exact ⟨_, rfl, h⟩
  | _, _, i + 1, d, .cons _ t, e => by
    obtain ⟨v, h1, h2⟩ := DpAll.get (i := i) (d := d) t (by simpa using e)
    exact ⟨v, by simpa using h1, h2⟩
theorem DpAll.getV : ∀ {vs : List V} {ds : List PyData} {i : Nat} {v : V}, DpAll K G vs ds → vs[i]? = some v → ∃ d, ds[i]? = some d ∧ Dp K G v d
  | _, _, _, _, .nil, e => by simp at e
  | _, _, 0, _, .cons h _, e => by simp at e; subst e; exact ⟨_, rfl, h⟩
  | _, _, i + 1, v, .cons _ t, e => by
    obtain ⟨d, h1, h2⟩ := DpAll.getV (i := i) (v := v) t (by simpa using e)
    exact ⟨d, by simpa using h1, h2⟩
theorem DpAll.app : ∀ {vs ws : List V} {ds es : List PyData}, DpAll K G vs ds → DpAll K G ws es → DpAll K G (vs ++ ws) (ds ++ es)
  | _, _, _, _, .nil, s => s
  | _, _, _, _, .cons h t, s => .cons h (DpAll.app t s)
theorem DpAll.tk : ∀ {vs : List V} {ds : List PyData} (n : Nat), DpAll K G vs ds → DpAll K G (vs.take n) (ds.take n)
  | _, _, 0, _ => .nil
  | _, _, _ + 1, .nil => .nil
  | _, _, n + 1, .cons h t => .cons h (DpAll.tk n t)
theorem DpAll.dr : ∀ {vs : List V} {ds : List PyData} (n : Nat), DpAll K G vs ds → DpAll K G (vs.drop n) (ds.drop n)
  | _, _, 0, h => h
  | _, _, _ + 1, .nil => .nil
  | _, _, n + 1, .cons _ t => DpAll.dr n t
theorem DpAll.rev {vs : List V} {ds : List PyData} (h : DpAll K G vs ds) : DpAll K G vs.reverse ds.reverse := by
  induction ds generalizing vs with
  | nil => cases h; exact .nil
  | cons d ds ih =>
    cases h with
    | cons h1 h2 =>
      rw [List.reverse_cons, List.reverse_cons]
      exact DpAll.app (ih h2) (.cons h1 .nil)
theorem DpAll.st : ∀ {vs : List V} {ds : List PyData} {v : V} {d : PyData} (i : Nat), DpAll K G vs ds → Dp K G v d → DpAll K G (vs.set i v) (ds.set i d)
  | _, _, _, _, _, .nil, _ => .nil
  | _, _, _, _, 0, .cons _ t, h => .cons h t
  | _, _, _, _, i + 1, .cons q t, h => .cons q (DpAll.st i t h)
theorem DpAll.dl {vs : List V} {ds : List PyData} (h : DpAll K G vs ds) : DpAll K G vs.dropLast ds.dropLast := by
  rw [List.dropLast_eq_take, List.dropLast_eq_take, h.len]
  exact h.tk _
end
end L2
namespace Rt
open PySem L2 Evl
section
variable {K : PySem.W.Frag} {G G' : Hp}
/-- ints -/
theorem dpa_ints : ∀ {xs : List Int}, DpAll K G (xs.map V.int) (xs.map PyData.int)
  | [] => .nil
  | _ :: _ => .cons (.int _) dpa_ints
theorem dp_int {v : V} {i : Int} (h : Dp K G v (.int i)) : v = .int i := by cases h; rfl
theorem dp_bl {v : V} {b : Bool} (h : Dp K G v (.bool b)) : v = .bl b := by cases h; rfl
end

/-- a list or a tuple of ds -/
inductive SeqD : PyData → List PyData → Prop
  | l (ds : List PyData) : SeqD (.list ds) ds
  | t (ds : List PyData) : SeqD (.tuple ds) ds
theorem SeqD.of {K : PySem.W.Frag} {G : Hp} {v : V} {d : PyData} {ds : List PyData} (s : SeqD d ds) (h : Dp K G v d) : ∃ a xs, v = .ref a ∧ (SqL K G a xs ∨ SqT K G a xs) ∧ DpAll K G xs ds := by
  cases s with
  | l =>
    cases h with
    | lst hs ha => exact ⟨_, _, rfl, .inl hs, ha⟩
  | t =>
    cases h with
    | tup hs ha => exact ⟨_, _, rfl, .inr hs, ha⟩

/-! ### the slots -/
inductive SV where
  | d (x : PyData)
  | own (xs : List PyData)
abbrev Rho := List (Option SV)
structure Env (K : PySem.W.Frag) (G H : Hp) (σ : L2.St) (ρ : Rho) : Prop where
  gh : Ex G H
  len : σ.length = ρ.length
  dat : ∀ (i : Nat) x, ρ[i]? = some (some (.d x)) → ∃ v, σ[i]? = some (some v) ∧ Dp K G v x
  own : ∀ (i : Nat) xs, ρ[i]? = some (some (.own xs)) → ∃ p vs, σ[i]? = some (some (.ref p)) ∧ H p = some (.lst vs) ∧ G p = none ∧ DpAll K G vs xs
  sep : ∀ (i j : Nat) xs ys p, i ≠ j → ρ[i]? = some (some (.own xs)) → ρ[j]? = some (some (.own ys)) → σ[i]? = some (some (.ref p)) → σ[j]? ≠ some (some (.ref p))
/-- what is owned is not the caller's -/
structure Base (B0 B G H : Hp) (σ : L2.St) (ρ : Rho) : Prop where
  st : Step B0 B G H
  own : ∀ (i : Nat) xs p, ρ[i]? = some (some (.own xs)) → σ[i]? = some (some (.ref p)) → B p = none
section
variable {K : PySem.W.Frag} {G H G2 H2 B0 B : Hp} {σ : L2.St} {ρ : Rho} {i : Nat} {v : V} {d : PyData} {ds : List PyData} {p : Addr}
theorem Env.step (I : Env K G H σ ρ) (s : Step G H G2 H2) : Env K G2 H2 σ ρ := by
  refine ⟨s.gh, I.len, fun i x h => ?_, fun i xs h => ?_, I.sep⟩
  · obtain ⟨v, h1, h2⟩ := I.dat i x h
    exact ⟨v, h1, dp_mono s.g _ _ h2⟩
  · obtain ⟨p, vs, h1, h2, h3, h4⟩ := I.own i xs h
    refine ⟨p, vs, h1, s.h _ _ h2, ?_, dpa_mono s.g _ _ h4⟩
    by_cases q : G2 p = none
    · exact q
    · have := s.new p q h3
      rw [h2] at this; cases this
theorem Base.step (b : Base B0 B G H σ ρ) (s : Step G H G2 H2) : Base B0 B G2 H2 σ ρ := ⟨b.st.trans s, b.own⟩
theorem getset {α : Type} {l : List α} {i j : Nat} {a b : α} (h : (l.set i a)[j]? = some b) : (j = i ∧ b = a) ∨ (j ≠ i ∧ l[j]? = some b) := by
  by_cases e : i = j
  · subst e
    rw [List.getElem?_set_self'] at h
    cases q : l[i]? with
    | none => rw [q] at h; cases h
    | some c => rw [q] at h; exact .inl ⟨rfl, (Option.some.inj h).symm⟩
  · rw [List.getElem?_set_ne e] at h
    exact .inr ⟨fun q => e q.symm, h⟩
theorem Env.lt (I : Env K G H σ ρ) {i : Nat} {a b : Option SV} (h : (ρ.set i a)[i]? = some b) : i < σ.length := by
  obtain ⟨h1, _⟩ := List.getElem?_eq_some_iff.mp h
  rw [List.length_set] at h1
  rw [I.len]; exact h1
/-- data is stored -/
theorem Env.set (I : Env K G H σ ρ) (hv : Dp K G v d) (i : Nat) : Env K G H (σ.set i (some v)) (ρ.set i (some (.d d))) := by
  refine ⟨I.gh, by rw [List.length_set, List.length_set]; exact I.len, fun j x h => ?_, fun j xs h => ?_, fun j k xs ys q hjk h1 h2 h3 => ?_⟩
  · rcases getset h with ⟨rfl, e⟩ | ⟨ne, h'⟩
    · cases e
      exact ⟨v, by rw [List.getElem?_set_self (I.lt h)], hv⟩
    · rw [List.getElem?_set_ne (Ne.symm ne)]; exact I.dat j x h'
  · rcases getset h with ⟨rfl, e⟩ | ⟨ne, h'⟩
    · cases e
    · rw [List.getElem?_set_ne (Ne.symm ne)]; exact I.own j xs h'
  · rcases getset h1 with ⟨rfl, e⟩ | ⟨ne, h1'⟩
    · cases e
    · rcases getset h2 with ⟨rfl, e⟩ | ⟨ne2, h2'⟩
      · cases e
      · rw [List.getElem?_set_ne (Ne.symm ne)] at h3
        rw [List.getElem?_set_ne (Ne.symm ne2)]
        exact I.sep j k xs ys q hjk h1' h2' h3
theorem Base.set (b : Base B0 B G H σ ρ) (i : Nat) : Base B0 B G H (σ.set i (some v)) (ρ.set i (some (.d d))) := ⟨b.st, fun j xs q h1 h2 => by
  rcases getset h1 with ⟨rfl, e⟩ | ⟨ne, h1'⟩
  · cases e
  · rw [List.getElem?_set_ne (Ne.symm ne)] at h2
    exact b.own j xs q h1' h2⟩
/-- a new list of one's own is stored -/
theorem Env.setO {vs : List V} (I : Env K G H σ ρ) (s : Step G H G2 H2) (hp : H p = none) (hg : G2 p = none) (hl : H2 p = some (.lst vs)) (hd : DpAll K G2 vs ds) (i : Nat) : Env K G2 H2 (σ.set i (some (.ref p))) (ρ.set i (some (.own ds))) := by
  have I2 := I.step s
  have nw : ∀ (j : Nat) xs, ρ[j]? = some (some (.own xs)) → σ[j]? ≠ some (some (.ref p)) := fun j xs h e => by
    obtain ⟨q, ws, h1, h2, _⟩ := I.own j xs h
    rw [e] at h1
    cases h1
    rw [hp] at h2; cases h2
  refine ⟨I2.gh, by rw [List.length_set, List.length_set]; exact I.len, fun j x h => ?_, fun j xs h => ?_, fun j k xs ys q hjk h1 h2 h3 => ?_⟩
  · rcases getset h with ⟨rfl, e⟩ | ⟨ne, h'⟩
    · cases e
    · rw [List.getElem?_set_ne (Ne.symm ne)]; exact I2.dat j x h'
  · rcases getset h with ⟨rfl, e⟩ | ⟨ne, h'⟩
    · cases e
      exact ⟨p, vs, by rw [List.getElem?_set_self (I.lt h)], hl, hg, hd⟩
    · rw [List.getElem?_set_ne (Ne.symm ne)]; exact I2.own j xs h'
  · rcases getset h1 with ⟨rfl, e⟩ | ⟨ne, h1'⟩
    · rcases getset h2 with ⟨e2, _⟩ | ⟨ne2, h2'⟩
      · exact absurd e2.symm hjk
      · rw [List.getElem?_set_self (I.lt h1)] at h3
        cases h3
        rw [List.getElem?_set_ne (Ne.symm ne2)]
        exact nw k ys h2'
    · rw [List.getElem?_set_ne (Ne.symm ne)] at h3
      rcases getset h2 with ⟨rfl, e⟩ | ⟨ne2, h2'⟩
      · rw [List.getElem?_set_self (I.lt h2)]
        intro z
        cases z
        exact nw j xs h1' h3
      · rw [List.getElem?_set_ne (Ne.symm ne2)]
        exact I.sep j k xs ys q hjk h1' h2' h3
theorem Base.setO (b : Base B0 B G H σ ρ) (I : Env K G H σ ρ) (s : Step G H G2 H2) (hp : H p = none) (i : Nat) : Base B0 B G2 H2 (σ.set i (some (.ref p))) (ρ.set i (some (.own ds))) := ⟨b.st.trans s, fun j xs q h1 h2 => by
  rcases getset h1 with ⟨rfl, e⟩ | ⟨ne, h1'⟩
  · rw [List.getElem?_set_self (I.lt h1)] at h2
    cases h2
    exact fresh_back b.st.h hp
  · rw [List.getElem?_set_ne (Ne.symm ne)] at h2
    exact b.own j xs q h1' h2⟩
/-- an owned list is written -/
theorem Env.mut {ds' : List PyData} {vs' : List V} (I : Env K G H σ ρ) (h : ρ[i]? = some (some (.own ds))) (hs : σ[i]? = some (some (.ref p))) (hd : DpAll K G vs' ds') : Env K G (upd H p (.lst vs')) σ (ρ.set i (some (.own ds'))) := by
  obtain ⟨p', vs, h1, h2, h3, h4⟩ := I.own i ds h
  rw [hs] at h1; cases h1
  refine ⟨Ex.mut I.gh h3, by rw [List.length_set]; exact I.len, fun j x hj => ?_, fun j xs hj => ?_, fun j k xs ys q hjk a1 a2 a3 => ?_⟩
  · rcases getset hj with ⟨rfl, e⟩ | ⟨ne, h'⟩
    · cases e
    · exact I.dat j x h'
  · rcases getset hj with ⟨rfl, e⟩ | ⟨ne, h'⟩
    · cases e
      exact ⟨p, vs', hs, upd_same, h3, hd⟩
    · obtain ⟨q, ws, b1, b2, b3, b4⟩ := I.own j xs h'
      refine ⟨q, ws, b1, ?_, b3, b4⟩
      have nq : q ≠ p := fun e => by
        subst e
        exact I.sep i j ds xs q (Ne.symm ne) h h' hs b1
      rw [upd_ne nq]; exact b2
  · have r : ∀ (j : Nat) xs, (ρ.set i (some (.own ds')))[j]? = some (some (.own xs)) → ∃ ys, ρ[j]? = some (some (.own ys)) := fun j xs hj => by
      rcases getset hj with ⟨rfl, _⟩ | ⟨_, h'⟩
      · exact ⟨ds, h⟩
      · exact ⟨xs, h'⟩
    obtain ⟨xs', r1⟩ := r j xs a1
    obtain ⟨ys', r2⟩ := r k ys a2
    exact I.sep j k xs' ys' q hjk r1 r2 a3
theorem Base.mut {ds' : List PyData} {vs' : List V} (b : Base B0 B G H σ ρ) (I : Env K G H σ ρ) (h : ρ[i]? = some (some (.own ds))) (hs : σ[i]? = some (some (.ref p))) : Base B0 B G (upd H p (.lst vs')) σ (ρ.set i (some (.own ds'))) := by
  obtain ⟨p', vs, h1, h2, h3, h4⟩ := I.own i ds h
  rw [hs] at h1; cases h1
  refine ⟨b.st.mutO (b.own i ds p h hs) h3, fun j xs q hj hq => ?_⟩
  rcases getset hj with ⟨rfl, _⟩ | ⟨_, h'⟩
  · exact b.own j ds q h hq
  · exact b.own j xs q h' hq
/-- an owned list is given up -/
theorem Env.frz (I : Env K G H σ ρ) (b : Base B0 B G H σ ρ) (h : ρ[i]? = some (some (.own ds))) : ∃ G2, Ex G G2 ∧ Env K G2 H σ (ρ.set i (some (.d (.list ds)))) ∧ Base B0 B G2 H σ (ρ.set i (some (.d (.list ds)))) := by
  obtain ⟨p, vs, h1, h2, h3, h4⟩ := I.own i ds h
  have eg : Ex G (upd G p (.lst vs)) := Ex.new h3
  refine ⟨upd G p (.lst vs), eg, ⟨fun c u hc => ?_, by rw [List.length_set]; exact I.len, fun j x hj => ?_, fun j xs hj => ?_, fun j k xs ys q hjk a1 a2 a3 => ?_⟩, ⟨b.st.frz (b.own i ds p h h1) h2, fun j xs q hj hq => ?_⟩⟩
  · by_cases e : c = p
    · subst e; rw [upd_same] at hc; cases hc; exact h2
    · rw [upd_ne e] at hc; exact I.gh c u hc
  · rcases getset hj with ⟨rfl, e⟩ | ⟨ne, h'⟩
    · cases e
      exact ⟨.ref p, h1, .lst (sq_of upd_same) (dpa_mono eg _ _ h4)⟩
    · obtain ⟨v, q1, q2⟩ := I.dat j x h'
      exact ⟨v, q1, dp_mono eg _ _ q2⟩
  · rcases getset hj with ⟨rfl, e⟩ | ⟨ne, h'⟩
    · cases e
    · obtain ⟨q, ws, b1, b2, b3, b4⟩ := I.own j xs h'
      have nq : q ≠ p := fun e => by
        subst e
        exact I.sep i j ds xs q (Ne.symm ne) h h' h1 b1
      exact ⟨q, ws, b1, b2, by rw [upd_ne nq]; exact b3, dpa_mono eg _ _ b4⟩
  · rcases getset a1 with ⟨rfl, e⟩ | ⟨ne, a1'⟩
    · cases e
    · rcases getset a2 with ⟨rfl, e⟩ | ⟨ne2, a2'⟩
      · cases e
      · exact I.sep j k xs ys q hjk a1' a2' a3
  · rcases getset hj with ⟨rfl, e⟩ | ⟨ne, h'⟩
    · cases e
    · exact b.own j xs q h' hq
end

/-! ### what an expression is, as data -/
section
variable (K : PySem.W.Frag)
def ED (te : TE) (ρ : Rho) (d : PyData) : Prop := ∀ G H σ, Env K G H σ ρ → ∀ Q : VK, (∀ v G2 H2, Step G H G2 H2 → Dp K G2 v d → Q v H2) → te σ H Q
/-- a new list -/
def EF (te : TE) (ρ : Rho) (ds : List PyData) : Prop := ∀ G H σ, Env K G H σ ρ → ∀ Q : VK, (∀ p vs G2 H2, Step G H G2 H2 → H p = none → G2 p = none → H2 p = some (.lst vs) → DpAll K G2 vs ds → Q (.ref p) H2) → te σ H Q
def TD (t : TT) (ρ : Rho) (b : Bool) : Prop := ∀ G H σ, Env K G H σ ρ → ∀ Q : Bool → Hp → Prop, (∀ G2 H2, Step G H G2 H2 → Q b H2) → t σ H Q
def AD (ta : TA) (ρ : Rho) (ds : List PyData) : Prop := ∀ G H σ, Env K G H σ ρ → ∀ Q : List V → Hp → Prop, (∀ vs G2 H2, Step G H G2 H2 → DpAll K G2 vs ds → Q vs H2) → ta σ H Q
end
section
variable {K : PySem.W.Frag} {ρ : Rho} {ta tb tc te : TE} {t u : TT} {d e f : PyData} {ds es : List PyData} {i j : Int}
theorem EF.ed (h : EF K te ρ ds) : ED K te ρ (.list ds) := fun G H σ I Q q => h G H σ I Q fun p vs G2 H2 s hp hg hl hd =>
  q (.ref p) (upd G2 p (.lst vs)) H2 (s.frz hp hl) (.lst (sq_of upd_same) (dpa_mono (Ex.new hg) _ _ hd))
theorem ED.cast (h : ED K te ρ d) (e1 : d = e) : ED K te ρ e := e1 ▸ h
theorem EF.cast (h : EF K te ρ ds) (e1 : ds = es) : EF K te ρ es := e1 ▸ h
theorem TD.cast {a b : Bool} (h : TD K t ρ a) (e1 : a = b) : TD K t ρ b := e1 ▸ h
theorem ed_var {n : Nat} (h : ρ[n]? = some (some (.d d))) : ED K (tVar n) ρ d := fun G H σ I Q q => by
  obtain ⟨v, h1, h2⟩ := I.dat n d h
  exact ⟨v, h1, q v G H (Step.refl I.gh) h2⟩
theorem ed_int : ED K (tC (.int i)) ρ (.int i) := fun G H σ I Q q => q _ G H (Step.refl I.gh) (.int i)
theorem ed_bl {b : Bool} : ED K (tC (.bl b)) ρ (.bool b) := fun G H σ I Q q => q _ G H (Step.refl I.gh) (.bl b)
theorem ed_non : ED K (tC .non) ρ .none := fun G H σ I Q q => q _ G H (Step.refl I.gh) .non
theorem ed_op {r : R2} (ha : ED K ta ρ d) (hb : ED K tb ρ e) (hr : ∀ x y G H, Ex G H → Dp K G x d → Dp K G y e → ∀ Q : VK, (∀ v G2 H2, Step G H G2 H2 → Dp K G2 v f → Q v H2) → r x y H Q) : ED K (tOp r ta tb) ρ f := fun G H σ I Q q =>
  ha G H σ I _ fun x G1 H1 s1 h1 => hb G1 H1 σ (I.step s1) _ fun y G2 H2 s2 h2 => hr x y G2 H2 s2.gh (dp_mono s2.g _ _ h1) h2 Q fun v G3 H3 s3 h3 => q v G3 H3 ((s1.trans s2).trans s3) h3
theorem ef_op {r : R2} (ha : ED K ta ρ d) (hb : ED K tb ρ e) (hr : ∀ x y G H, Ex G H → Dp K G x d → Dp K G y e → ∀ Q : VK, (∀ p vs G2 H2, Step G H G2 H2 → H p = none → G2 p = none → H2 p = some (.lst vs) → DpAll K G2 vs ds → Q (.ref p) H2) → r x y H Q) : EF K (tOp r ta tb) ρ ds := fun G H σ I Q q =>
  ha G H σ I _ fun x G1 H1 s1 h1 => hb G1 H1 σ (I.step s1) _ fun y G2 H2 s2 h2 => hr x y G2 H2 s2.gh (dp_mono s2.g _ _ h1) h2 Q fun p vs G3 H3 s3 hp hg hl hd => q p vs G3 H3 ((s1.trans s2).trans s3) (fresh_back (s1.trans s2).h hp) hg hl hd
/-- two ints -/
theorem ed_I0 {g : Int → Int → Int} (ha : ED K ta ρ (.int i)) (hb : ED K tb ρ (.int j)) : ED K (tOp (rI0 fun i j => .int (g i j)) ta tb) ρ (.int (g i j)) :=
  ed_op ha hb fun x y G H e hx hy Q q => by
    cases dp_int hx; cases dp_int hy
    exact ⟨i, j, rfl, rfl, q _ G H (Step.refl e) (.int _)⟩
theorem ed_I {C : Int → Int → Prop} {g : Int → Int → Int} (ha : ED K ta ρ (.int i)) (hb : ED K tb ρ (.int j)) (hc : C i j) : ED K (tOp (rI C fun i j => .int (g i j)) ta tb) ρ (.int (g i j)) :=
  ed_op ha hb fun x y G H e hx hy Q q => by
    cases dp_int hx; cases dp_int hy
    exact ⟨i, j, rfl, rfl, hc, q _ G H (Step.refl e) (.int _)⟩
theorem ed_B0 {g : Int → Int → Bool} (ha : ED K ta ρ (.int i)) (hb : ED K tb ρ (.int j)) : ED K (tOp (rI0 fun i j => .bl (g i j)) ta tb) ρ (.bool (g i j)) :=
  ed_op ha hb fun x y G H e hx hy Q q => by
    cases dp_int hx; cases dp_int hy
    exact ⟨i, j, rfl, rfl, q _ G H (Step.refl e) (.bl _)⟩
theorem ed_add (ha : ED K ta ρ (.int i)) (hb : ED K tb ρ (.int j)) : ED K (tOp (rI0 fun i j => .int (i + j)) ta tb) ρ (.int (i + j)) := ed_I0 (g := fun i j => i + j) ha hb
theorem ed_sub (ha : ED K ta ρ (.int i)) (hb : ED K tb ρ (.int j)) : ED K (tOp (rI0 fun i j => .int (i - j)) ta tb) ρ (.int (i - j)) := ed_I0 (g := fun i j => i - j) ha hb
theorem ed_mul (ha : ED K ta ρ (.int i)) (hb : ED K tb ρ (.int j)) (hc : CMulX i j) : ED K (tOp (rI CMulX fun i j => .int (i * j)) ta tb) ρ (.int (i * j)) := ed_I (g := fun i j => i * j) ha hb hc
theorem ed_mod (ha : ED K ta ρ (.int i)) (hb : ED K tb ρ (.int j)) (hc : j ≠ 0) : ED K (tOp (rI (fun _ j => j ≠ 0) fun i j => .int (i.fmod j)) ta tb) ρ (.int (i.fmod j)) := ed_I (C := fun _ j => j ≠ 0) (g := fun i j => i.fmod j) ha hb hc
theorem ed_fdiv (ha : ED K ta ρ (.int i)) (hb : ED K tb ρ (.int j)) (hc : j ≠ 0) : ED K (tOp (rI (fun _ j => j ≠ 0) fun i j => .int (i.fdiv j)) ta tb) ρ (.int (i.fdiv j)) := ed_I (C := fun _ j => j ≠ 0) (g := fun i j => i.fdiv j) ha hb hc
theorem ed_pow (ha : ED K ta ρ (.int i)) (hb : ED K tb ρ (.int j)) (hc : CPow i j) : ED K (tOp (rI CPow fun i j => .int (i ^ j.toNat)) ta tb) ρ (.int (i ^ j.toNat)) := ed_I (g := fun i j => i ^ j.toNat) ha hb hc
theorem ed_lt (ha : ED K ta ρ (.int i)) (hb : ED K tb ρ (.int j)) : ED K (tOp (rI0 fun i j => .bl (decide (i < j))) ta tb) ρ (.bool (decide (i < j))) := ed_B0 (g := fun i j => decide (i < j)) ha hb
theorem ed_le (ha : ED K ta ρ (.int i)) (hb : ED K tb ρ (.int j)) : ED K (tOp (rI0 fun i j => .bl (decide (i ≤ j))) ta tb) ρ (.bool (decide (i ≤ j))) := ed_B0 (g := fun i j => decide (i ≤ j)) ha hb
theorem ed_gt (ha : ED K ta ρ (.int i)) (hb : ED K tb ρ (.int j)) : ED K (tOp (rI0 fun i j => .bl (decide (j < i))) ta tb) ρ (.bool (decide (j < i))) := ed_B0 (g := fun i j => decide (j < i)) ha hb
theorem ed_ge (ha : ED K ta ρ (.int i)) (hb : ED K tb ρ (.int j)) : ED K (tOp (rI0 fun i j => .bl (decide (j ≤ i))) ta tb) ρ (.bool (decide (j ≤ i))) := ed_B0 (g := fun i j => decide (j ≤ i)) ha hb
theorem ed_eqD (ha : ED K ta ρ d) (hb : ED K tb ρ e) (h1 : SeqAt.shaped d = true) (h2 : SeqAt.shaped e = true) : ED K (tOp (rEqD K) ta tb) ρ (.bool (PyData.eqv d e)) :=
  ed_op ha hb fun x y G H ex hx hy Q q => ⟨d, e, dp_mono ex _ _ hx, dp_mono ex _ _ hy, h1, h2, q _ G H (Step.refl ex) (.bl _)⟩
theorem ed_neD (ha : ED K ta ρ d) (hb : ED K tb ρ e) (h1 : SeqAt.shaped d = true) (h2 : SeqAt.shaped e = true) : ED K (tOp (rNeD K) ta tb) ρ (.bool (!PyData.eqv d e)) :=
  ed_op ha hb fun x y G H ex hx hy Q q => ⟨d, e, dp_mono ex _ _ hx, dp_mono ex _ _ hy, h1, h2, q _ G H (Step.refl ex) (.bl _)⟩
theorem eqv_int (i j : Int) : PyData.eqv (.int i) (.int j) = decide (i = j) := by
  show (i == j) = decide (i = j)
  rfl
theorem eqv_bool (a b : Bool) : PyData.eqv (.bool a) (.bool b) = decide (a = b) := by
  show (a == b) = decide (a = b)
  cases a <;> cases b <;> rfl
theorem ed_eqI (ha : ED K ta ρ (.int i)) (hb : ED K tb ρ (.int j)) : ED K (tOp (rEqD K) ta tb) ρ (.bool (decide (i = j))) := (ed_eqD ha hb rfl rfl).cast (by rw [eqv_int])
theorem ed_neI (ha : ED K ta ρ (.int i)) (hb : ED K tb ρ (.int j)) : ED K (tOp (rNeD K) ta tb) ρ (.bool (!decide (i = j))) := (ed_neD ha hb rfl rfl).cast (by rw [eqv_int])
theorem ed_eqB {a b : Bool} (ha : ED K ta ρ (.bool a)) (hb : ED K tb ρ (.bool b)) : ED K (tOp (rEqD K) ta tb) ρ (.bool (decide (a = b))) := (ed_eqD ha hb rfl rfl).cast (by rw [eqv_bool])
theorem ed_neB {a b : Bool} (ha : ED K ta ρ (.bool a)) (hb : ED K tb ρ (.bool b)) : ED K (tOp (rNeD K) ta tb) ρ (.bool (!decide (a = b))) := (ed_neD ha hb rfl rfl).cast (by rw [eqv_bool])
theorem ed_un {r : V → Hp → VK → Prop} (ha : ED K ta ρ d) (hr : ∀ x G H, Ex G H → Dp K G x d → ∀ Q : VK, (∀ v G2 H2, Step G H G2 H2 → Dp K G2 v f → Q v H2) → r x H Q) : ED K (tUn r ta) ρ f := fun G H σ I Q q =>
  ha G H σ I _ fun x G1 H1 s1 h1 => hr x G1 H1 s1.gh h1 Q fun v G3 H3 s3 h3 => q v G3 H3 (s1.trans s3) h3
theorem ed_neg (ha : ED K ta ρ (.int i)) : ED K (tUn (rU fun i => .int (-i)) ta) ρ (.int (-i)) := ed_un ha fun x G H e hx Q q => by
  cases dp_int hx
  exact ⟨i, rfl, q _ G H (Step.refl e) (.int _)⟩
/-! tests -/
theorem td_test {b : Bool} (h : ED K te ρ (.bool b)) : TD K (tTest te) ρ b := fun G H σ I Q q => h G H σ I _ fun v G2 H2 s hv => by
  cases dp_bl hv
  exact ⟨b, rfl, q G2 H2 s⟩
theorem td_B {b : Bool} (h : ED K te ρ (.bool b)) : TD K (tB te) ρ b := fun G H σ I Q q => h G H σ I _ fun v G2 H2 s hv => by
  cases dp_bl hv
  exact ⟨b, rfl, q G2 H2 s⟩
def tTruth (K : PySem.W.Frag) (ta : TE) : TT := fun σ H Q => ta σ H fun x H' => ∃ k, TruV K x H' k ∧ Q k H'
theorem td_seq (h : ED K te ρ d) (s : SeqD d ds) : TD K (tTruth K te) ρ (!ds.isEmpty) := fun G H σ I Q q => h G H σ I _ fun v G2 H2 st hv => by
  obtain ⟨a, xs, rfl, hs, hd⟩ := s.of hv
  have e : (!xs.isEmpty) = !ds.isEmpty := by
    have := hd.len
    cases xs <;> cases ds <;> simp_all
  refine ⟨!ds.isEmpty, ?_, q G2 H2 st⟩
  rcases hs with hs | hs
  · exact .inl ⟨xs, ex_l st.gh hs, e.symm⟩
  · exact .inr (.inl ⟨xs, ex_t st.gh hs, e.symm⟩)
theorem td_int (h : ED K te ρ (.int i)) : TD K (tTruth K te) ρ (i != 0) := fun G H σ I Q q => h G H σ I _ fun v G2 H2 st hv => by
  cases dp_int hv
  exact ⟨i != 0, rfl, q G2 H2 st⟩
theorem td_bool {b : Bool} (h : ED K te ρ (.bool b)) : TD K (tTruth K te) ρ b := fun G H σ I Q q => h G H σ I _ fun v G2 H2 st hv => by
  cases dp_bl hv
  exact ⟨b, rfl, q G2 H2 st⟩
/-- a value's truth -/
inductive Truth : PyData → Bool → Prop
  | bool (b : Bool) : Truth (.bool b) b
  | int (i : Int) : Truth (.int i) (i != 0)
  | l (ds : List PyData) : Truth (.list ds) (!ds.isEmpty)
  | t (ds : List PyData) : Truth (.tuple ds) (!ds.isEmpty)
theorem td_truth {b : Bool} (h : ED K te ρ d) (k : Truth d b) : TD K (tTruth K te) ρ b := by
  cases k with
  | bool b => exact td_bool h
  | int i => exact td_int h
  | l ds => exact td_seq h (.l _)
  | t ds => exact td_seq h (.t _)
theorem td_and {a b : Bool} (h1 : TD K t ρ a) (h2 : a = true → TD K u ρ b) : TD K (tAnd t u) ρ (a && b) := fun G H σ I Q q => h1 G H σ I _ fun G2 H2 s => by
  cases a with
  | true =>
    show u σ H2 Q
    exact h2 rfl G2 H2 σ (I.step s) Q fun G3 H3 s3 => q G3 H3 (s.trans s3)
  | false =>
    show Q false H2
    exact q G2 H2 s
theorem td_or {a b : Bool} (h1 : TD K t ρ a) (h2 : a = false → TD K u ρ b) : TD K (tOr t u) ρ (a || b) := fun G H σ I Q q => h1 G H σ I _ fun G2 H2 s => by
  cases a with
  | false =>
    show u σ H2 Q
    exact h2 rfl G2 H2 σ (I.step s) Q fun G3 H3 s3 => q G3 H3 (s.trans s3)
  | true =>
    show Q true H2
    exact q G2 H2 s
theorem td_not {a : Bool} (h : TD K t ρ a) : TD K (tNot t) ρ (!a) := fun G H σ I Q q => h G H σ I _ fun G2 H2 s => q G2 H2 s
theorem td_yes : TD K tYes ρ true := fun G H σ I Q q => q G H (Step.refl I.gh)
theorem ed_andV {a b : Bool} (h1 : ED K ta ρ (.bool a)) (h2 : a = true → ED K tb ρ (.bool b)) : ED K (tAndV ta tb) ρ (.bool (a && b)) := fun G H σ I Q q => h1 G H σ I _ fun v G2 H2 s hv => by
  cases dp_bl hv
  refine ⟨a, rfl, ?_⟩
  cases a with
  | true =>
    show tb σ H2 Q
    exact h2 rfl G2 H2 σ (I.step s) Q fun v G3 H3 s3 => q v G3 H3 (s.trans s3)
  | false =>
    show Q (.bl false) H2
    exact q _ G2 H2 s (.bl false)
theorem ed_orV {a b : Bool} (h1 : ED K ta ρ (.bool a)) (h2 : a = false → ED K tb ρ (.bool b)) : ED K (tOrV ta tb) ρ (.bool (a || b)) := fun G H σ I Q q => h1 G H σ I _ fun v G2 H2 s hv => by
  cases dp_bl hv
  refine ⟨a, rfl, ?_⟩
  cases a with
  | false =>
    show tb σ H2 Q
    exact h2 rfl G2 H2 σ (I.step s) Q fun v G3 H3 s3 => q v G3 H3 (s.trans s3)
  | true =>
    show Q (.bl true) H2
    exact q _ G2 H2 s (.bl true)
theorem ed_notV {a : Bool} (h1 : ED K ta ρ (.bool a)) : ED K (tNotV ta) ρ (.bool (!a)) := fun G H σ I Q q => h1 G H σ I _ fun v G2 H2 s hv => by
  cases dp_bl hv
  exact ⟨a, rfl, q _ G2 H2 s (.bl _)⟩
theorem ed_if {b : Bool} (h : TD K t ρ b) (h1 : b = true → ED K ta ρ d) (h2 : b = false → ED K tb ρ d) : ED K (tIf t ta tb) ρ d := fun G H σ I Q q => h G H σ I _ fun G2 H2 s => by
  cases b with
  | true =>
    show ta σ H2 Q
    exact h1 rfl G2 H2 σ (I.step s) Q fun v G3 H3 s3 => q v G3 H3 (s.trans s3)
  | false =>
    show tb σ H2 Q
    exact h2 rfl G2 H2 σ (I.step s) Q fun v G3 H3 s3 => q v G3 H3 (s.trans s3)
/-! arguments, displays -/
theorem ad_nil : AD K tNil ρ [] := fun G H σ I Q q => q [] G H (Step.refl I.gh) .nil
theorem ad_cons {tr : TA} (h : ED K ta ρ d) (hr : AD K tr ρ ds) : AD K (tCons ta tr) ρ (d :: ds) := fun G H σ I Q q =>
  h G H σ I _ fun v G1 H1 s1 h1 => hr G1 H1 σ (I.step s1) _ fun vs G2 H2 s2 h2 => q (v :: vs) G2 H2 (s1.trans s2) (.cons (dp_mono s2.g _ _ h1) h2)
theorem ed_tup {tr : TA} (h : AD K tr ρ ds) (hl : ds.length ≤ 100000) : ED K (tTup tr) ρ (.tuple ds) := fun G H σ I Q q =>
  h G H σ I _ fun vs G1 H1 s1 h1 => ⟨by rw [h1.len]; exact sz_of hl, fun p hp =>
    q (.ref p) (upd G1 p (.tup vs)) _ (s1.trans (Step.alloc s1.gh hp)) (.tup (st_of upd_same) (dpa_mono (Ex.new (fresh_back s1.gh hp)) _ _ h1))⟩
theorem ef_lst {tr : TA} (h : AD K tr ρ ds) (hl : ds.length ≤ 100000) : EF K (tLst tr) ρ ds := fun G H σ I Q q =>
  h G H σ I _ fun vs G1 H1 s1 h1 => ⟨by rw [h1.len]; exact sz_of hl, fun p hp =>
    q p vs G1 _ (s1.trans (Step.allocO s1.gh hp)) (fresh_back s1.h hp) (fresh_back s1.gh hp) upd_same h1⟩
end

/-! ### sequences -/
section
variable {K : PySem.W.Frag} {ρ : Rho} {ta tb tc te : TE} {t u : TT} {d e f : PyData} {ds es : List PyData} {i j : Int} {n : Nat}
theorem atI_get {α : Type} {xs : List α} {i : Int} {a : α} (h : atI xs i = some a) : ∃ k, ixN xs.length i = some k ∧ xs[k]? = some a := by
  unfold atI at h
  cases q : ixN xs.length i with
  | none => rw [q] at h; cases h
  | some k => rw [q] at h; exact ⟨k, rfl, h⟩
theorem atI_mk {α : Type} {xs : List α} {i : Int} {a : α} {k : Nat} (h1 : ixN xs.length i = some k) (h2 : xs[k]? = some a) : atI xs i = some a := by
  unfold atI; rw [h1]; exact h2
theorem atI_dp {G : Hp} {vs : List V} (h : DpAll K G vs ds) (a : atI ds i = some d) : ∃ v, atI vs i = some v ∧ Dp K G v d := by
  obtain ⟨k, h1, h2⟩ := atI_get a
  obtain ⟨v, h3, h4⟩ := h.get h2
  exact ⟨v, atI_mk (by rw [h.len]; exact h1) h3, h4⟩
theorem ed_ix (ha : ED K ta ρ d) (s : SeqD d ds) (hb : ED K tb ρ (.int i)) (h : atI ds i = some f) : ED K (tOp (rIx K) ta tb) ρ f :=
  ed_op ha hb fun x y G H ex hx hy Q q => by
    cases dp_int hy
    obtain ⟨a, xs, rfl, hs, hd⟩ := s.of hx
    obtain ⟨v, h1, h2⟩ := atI_dp hd h
    rcases hs with hs | hs
    · exact .inl ⟨a, xs, i, v, rfl, rfl, ex_l ex hs, h1, q v G H (Step.refl ex) h2⟩
    · exact .inr (.inl ⟨a, xs, i, v, rfl, rfl, ex_t ex hs, h1, q v G H (Step.refl ex) h2⟩)
/-- an item of a list of one's own -/
theorem ed_ixO {k : Nat} (ho : ρ[k]? = some (some (.own ds))) (hb : ED K tb ρ (.int i)) (h : atI ds i = some f) : ED K (tOp (rIx K) (tVar k) tb) ρ f := fun G H σ I Q q => by
  obtain ⟨p, vs, h1, h2, h3, h4⟩ := I.own k ds ho
  refine ⟨_, h1, hb G H σ I _ fun y G2 H2 s hy => ?_⟩
  cases dp_int hy
  obtain ⟨v, a1, a2⟩ := atI_dp h4 h
  exact .inl ⟨p, vs, i, v, rfl, rfl, sq_of (s.h _ _ h2), a1, q v G2 H2 s (dp_mono s.g _ _ a2)⟩
def tLen (K : PySem.W.Frag) (ta : TE) : TE := tCB (rLenS K) (tCons ta tNil)
theorem ed_len (ha : ED K ta ρ d) (s : SeqD d ds) : ED K (tLen K ta) ρ (.int ds.length) := fun G H σ I Q q => ha G H σ I _ fun v G2 H2 st hv => by
  obtain ⟨a, xs, rfl, hs, hd⟩ := s.of hv
  refine ⟨a, xs, rfl, ?_, ?_⟩
  · rcases hs with hs | hs
    · exact .inl (ex_l st.gh hs)
    · exact .inr (ex_t st.gh hs)
  · rw [hd.len]; exact q _ G2 H2 st (.int _)
theorem ed_lenO {k : Nat} (ho : ρ[k]? = some (some (.own ds))) : ED K (tLen K (tVar k)) ρ (.int ds.length) := fun G H σ I Q q => by
  obtain ⟨p, vs, h1, h2, h3, h4⟩ := I.own k ds ho
  refine ⟨_, h1, p, vs, rfl, .inl (sq_of h2), ?_⟩
  rw [h4.len]; exact q _ G H (Step.refl I.gh) (.int _)
theorem ef_list (ha : ED K ta ρ d) (s : SeqD d ds) : EF K (tCB (rListS K) (tCons ta tNil)) ρ ds := fun G H σ I Q q => ha G H σ I _ fun v G2 H2 st hv => by
  obtain ⟨a, xs, rfl, hs, hd⟩ := s.of hv
  refine ⟨a, xs, rfl, ?_, fun l hl => q l xs G2 _ (st.trans (Step.allocO st.gh hl)) (fresh_back st.h hl) (fresh_back st.gh hl) upd_same hd⟩
  rcases hs with hs | hs
  · exact .inl (ex_l st.gh hs)
  · exact .inr (ex_t st.gh hs)
def rTupS (K : PySem.W.Frag) : List V → Hp → VK → Prop := fun xs H Q => ∃ p ys, xs = [.ref p] ∧ ((SqL K H p ys ∧ ∀ l, H l = none → Q (.ref l) (upd H l (.tup ys))) ∨ (SqT K H p ys ∧ Q (.ref p) H))
theorem ed_tuple (ha : ED K ta ρ d) (s : SeqD d ds) : ED K (tCB (rTupS K) (tCons ta tNil)) ρ (.tuple ds) := fun G H σ I Q q => ha G H σ I _ fun v G2 H2 st hv => by
  obtain ⟨a, xs, rfl, hs, hd⟩ := s.of hv
  refine ⟨a, xs, rfl, ?_⟩
  rcases hs with hs | hs
  · exact .inl ⟨ex_l st.gh hs, fun l hl => q (.ref l) (upd G2 l (.tup xs)) _ (st.trans (Step.alloc st.gh hl)) (.tup (st_of upd_same) (dpa_mono (Ex.new (fresh_back st.gh hl)) _ _ hd))⟩
  · exact .inr ⟨ex_t st.gh hs, q (.ref a) G2 H2 st (.tup hs hd)⟩
/-- slices -/
def OD (K : PySem.W.Frag) (to : TO) (ρ : Rho) (o : Option Int) : Prop := ∀ G H σ, Env K G H σ ρ → ∀ Q : Option Int → Hp → Prop, (∀ G2 H2, Step G H G2 H2 → Q o H2) → to σ H Q
theorem od_none : OD K tNoPart ρ none := fun G H σ I Q q => q G H (Step.refl I.gh)
theorem od_some (h : ED K te ρ (.int i)) : OD K (tPart te) ρ (some i) := fun G H σ I Q q => h G H σ I _ fun v G2 H2 s hv => by
  cases dp_int hv
  exact ⟨i, rfl, q G2 H2 s⟩
def cutD (xs : List PyData) (lo hi : Option Int) : List PyData := (xs.drop (HT.sIx xs.length 0 lo)).take (HT.sIx xs.length xs.length hi - HT.sIx xs.length 0 lo)
theorem cut_dp {G : Hp} {vs : List V} (h : DpAll K G vs ds) (lo hi : Option Int) : DpAll K G (cutV vs lo hi) (cutD ds lo hi) := by
  unfold cutV cutD
  rw [h.len]
  exact (h.dr _).tk _
/-- a slice of a list or of a tuple -/
def rSlS (K : PySem.W.Frag) : V → Option Int → Option Int → Hp → VK → Prop := fun x lo hi H Q => rSlL K x lo hi H Q ∨ rSlA K x lo hi H Q
theorem sl_seq {X : Cx} : SlR X (rSlS X.K) := SlR.or sl_list sl_tupA
theorem ef_sl {tl th : TO} {lo hi : Option Int} (ha : ED K te ρ (.list ds)) (h1 : OD K tl ρ lo) (h2 : OD K th ρ hi) : EF K (tSl (rSlS K) te tl th) ρ (cutD ds lo hi) := fun G H σ I Q q =>
  ha G H σ I _ fun v G1 H1 s1 hv => h1 G1 H1 σ (I.step s1) _ fun G2 H2 s2 => h2 G2 H2 σ (I.step (s1.trans s2)) _ fun G3 H3 s3 => by
    have sA := (s1.trans s2).trans s3
    obtain ⟨a, xs, rfl, hs, hd⟩ := (SeqD.l ds).of hv
    cases hv with
    | lst hq ha2 =>
      rename_i xs'
      exact .inl ⟨a, _, rfl, ex_l ((s2.trans s3).g.trans s3.gh) hq, fun p hp => q p _ G3 _ (sA.trans (Step.allocO s3.gh hp)) (fresh_back sA.h hp) (fresh_back s3.gh hp) upd_same (dpa_mono (s2.trans s3).g _ _ (cut_dp ha2 lo hi))⟩
theorem cutV_whole {xs : List V} {lo hi : Option Int} (h : HT.sIx xs.length 0 lo = 0 ∧ HT.sIx xs.length xs.length hi = xs.length) : cutV xs lo hi = xs := by
  unfold cutV
  rw [h.1, h.2, List.drop_zero, Nat.sub_zero, List.take_length]
theorem ed_slT {tl th : TO} {lo hi : Option Int} (ha : ED K te ρ (.tuple ds)) (h1 : OD K tl ρ lo) (h2 : OD K th ρ hi) : ED K (tSl (rSlS K) te tl th) ρ (.tuple (cutD ds lo hi)) := fun G H σ I Q q =>
  ha G H σ I _ fun v G1 H1 s1 hv => h1 G1 H1 σ (I.step s1) _ fun G2 H2 s2 => h2 G2 H2 σ (I.step (s1.trans s2)) _ fun G3 H3 s3 => by
    have sA := (s1.trans s2).trans s3
    have s23 := s2.trans s3
    cases hv with
    | tup hq ha2 =>
      have cd := cut_dp ha2 lo hi
      refine .inr ⟨_, _, rfl, ex_t (s23.g.trans s3.gh) hq, fun w => ?_, fun w p hp => ?_⟩
      · rw [cutV_whole w] at cd
        exact q _ G3 H3 sA (.tup (ex_t s23.g hq) (dpa_mono s23.g _ _ cd))
      · exact q (.ref p) (upd G3 p (.tup _)) _ (sA.trans (Step.alloc s3.gh hp)) (.tup (st_of upd_same) (dpa_mono (s23.g.trans (Ex.new (fresh_back s3.gh hp))) _ _ cd))
/-- list + list -/
def rCatS (K : PySem.W.Frag) : R2 := fun x y H Q => ∃ l b xs zs, x = .ref l ∧ y = .ref b ∧ SqL K H l xs ∧ SqL K H b zs ∧ xs.length + zs.length ≤ sizeLine ∧ ∀ p, H p = none → Q (.ref p) (upd H p (.lst (xs ++ zs)))
theorem op_catS {X : Cx} : OpR X (binaryOp .Add) (rCatS X.K) := by
  intro pins s σ H x y v u Q I rx ry h
  obtain ⟨l, b, xs, zs, rfl, rfl, hH, hB, hz, q⟩ := h
  cases rx
  cases ry
  obtain ⟨its, r, pl, z⟩ := I.list hH
  obtain ⟨its2, r2, pl2, z2⟩ := I.list hB
  obtain ⟨⟨cls, dd, data, sl⟩, n, ho, hc, hdd, hd⟩ := pl
  obtain ⟨⟨cls2, dd2, data2, sl2⟩, n2, ho2, hc2, hdd2, hd2⟩ := pl2
  simp only at hc hd hc2 hd2
  subst hc hd hc2 hd2
  have e1 := r.length
  have e2 := r2.length
  refine PySem.concat_meets ⟨_, ho, rfl⟩ ⟨_, ho2, rfl⟩ PySem.noFill_list_add PySem.seq_list_add F.slot_list_add F.entry_list_add (F.args_list_add_2 _ _)
    (PyProof.Rows.list_addW l b its.toArray its2.toArray n n2 dd dd2 sl sl2 (by rw [List.size_toArray, List.size_toArray]; omega)) ⟨ho, ho2, ?_⟩
  have ea : its.toArray ++ its2.toArray = (its ++ its2).toArray := by simp
  rw [ea]
  exact ⟨.ref _, _, I.lnew (t' := s.toks) (r.append r2) (by rw [List.length_append]; omega), rfl, q _ I.fresh⟩
theorem ef_cat (ha : ED K ta ρ (.list ds)) (hb : ED K tb ρ (.list es)) (hz : ds.length + es.length ≤ 100000) : EF K (tOp (rCatS K) ta tb) ρ (ds ++ es) :=
  ef_op ha hb fun x y G H ex hx hy Q q => by
    cases hx with
    | lst h1 h2 =>
      cases hy with
      | lst h3 h4 =>
        exact ⟨_, _, _, _, rfl, rfl, ex_l ex h1, ex_l ex h3, by rw [h2.len, h4.len]; exact sz_of hz, fun p hp => q p _ G _ (Step.allocO ex hp) hp (fresh_back ex hp) upd_same (h2.app h4)⟩
/-- abs, gcd -/
def rAbs : List V → Hp → VK → Prop := fun xs H Q => ∃ i, xs = [.int i] ∧ Q (.int (if i < 0 then -i else i)) H
theorem ed_abs (ha : ED K ta ρ (.int i)) : ED K (tCB rAbs (tCons ta tNil)) ρ (.int (if i < 0 then -i else i)) := fun G H σ I Q q => ha G H σ I _ fun v G2 H2 s hv => by
  cases dp_int hv
  exact ⟨i, rfl, q _ G2 H2 s (.int _)⟩
theorem ed_gcd (ha : ED K ta ρ (.int i)) (hb : ED K tb ρ (.int j)) : ED K (tCB rGcd (tCons ta (tCons tb tNil))) ρ (.int ((Nat.gcd i.natAbs j.natAbs : Nat) : Int)) := fun G H σ I Q q =>
  ha G H σ I _ fun v G1 H1 s1 hv => hb G1 H1 σ (I.step s1) _ fun y G2 H2 s2 hy => by
    cases dp_int hv; cases dp_int hy
    exact ⟨i, j, rfl, q _ G2 H2 (s1.trans s2) (.int _)⟩
/-- isinstance(x, T), T built in -/
def tyN : PyData → String
  | .none => "NoneType" | .bool _ => "bool" | .int _ => "int" | .str _ => "str" | .list _ => "list" | .tuple _ => "tuple" | .dict _ => "dict"
theorem dp_ty {G : Hp} {v : V} (h : Dp K G v d) : TyX K G v (.type (tyN d)) := by
  cases d with
  | none => cases h; exact .base .non
  | bool b => cases h; exact .base (.bl b)
  | int b => cases h; exact .base (.int b)
  | str b => cases h; exact .base (.str b)
  | list b =>
    cases h with
    | lst hs _ =>
      rcases hs with (h | ⟨o, h⟩) | ⟨o, its, n, hk, hc, _⟩
      · exact .base (.lst h)
      · exact .base (.frz h)
      · exact .kList hk hc
  | tuple b =>
    cases h with
    | tup hs _ =>
      rcases hs with (h | ⟨o, h⟩) | ⟨o, its, n, hk, hc, _⟩
      · exact .base (.tup h)
      · exact .fTuple h
      · exact .kTuple hk hc
  | dict _ => cases h
theorem ty_mono {G H : Hp} {v : V} {t : String} (e : Ex G H) (h : Dp K G v d) (ht : tyN d = t) : TyX K H v (.type t) := ht ▸ dp_ty (dp_mono e _ _ h)
theorem ed_isi {T : String} {b : Bool} (ha : ED K ta ρ d) (h : kitB (tyN d) T = some b) : ED K (tCB (rIsi K) (tCons ta (tCons (tC (.ty T)) tNil))) ρ (.bool b) := fun G H σ I Q q => ha G H σ I _ fun v G2 H2 s hv =>
  ⟨v, .ty T, .type (tyN d), .type T, b, rfl, .ty T, ty_mono s.gh hv rfl, kit_ty h, q _ G2 H2 s (.bl b)⟩
end

/-! ### results and calls -/
inductive Res where
  | rt (d : PyData)
  | rf (ds : List PyData)
  | xc (C : Addr)
def RP (K : PySem.W.Frag) (r : Res) (G B : Hp) (Q : VK) (E : XK) : Prop := match r with
  | .rt d => ∀ v G2 H2, Step G B G2 H2 → Dp K G2 v d → Q v H2
  | .rf ds => ∀ p vs G2 H2, Step G B G2 H2 → B p = none → G2 p = none → H2 p = some (.lst vs) → DpAll K G2 vs ds → Q (.ref p) H2
  | .xc C => ∀ G2 H2, Step G B G2 H2 → E (.ref C) none H2
/-- a promise by data -/
def spD (K : PySem.W.Frag) (n : Nat) (F : List PyData → Res → Prop) : Sp := fun vs H Q E => vs.length = n ∧ ∃ G ds r, Ex G H ∧ DpAll K G vs ds ∧ F ds r ∧ RP K r G H Q E
section
variable {K : PySem.W.Frag} {ρ : Rho} {ta : TA} {d : PyData} {ds es : List PyData} {n : Nat} {F : List PyData → Res → Prop} {E : XK}
theorem ed_call (ha : AD K ta ρ ds) (h : F ds (.rt d)) (hn : ds.length = n) : ED K (tCall (spD K n F) [] E ta) ρ d := fun G H σ I Q q => ha G H σ I _ fun vs G2 H2 s hv => by
  rw [List.append_nil]
  exact ⟨hv.len.trans hn, G2, ds, .rt d, s.gh, hv, h, fun v G3 H3 s3 h3 => q v G3 H3 (s.trans s3) h3⟩
theorem ef_call (ha : AD K ta ρ ds) (h : F ds (.rf es)) (hn : ds.length = n) : EF K (tCall (spD K n F) [] E ta) ρ es := fun G H σ I Q q => ha G H σ I _ fun vs G2 H2 s hv => by
  rw [List.append_nil]
  exact ⟨hv.len.trans hn, G2, ds, .rf es, s.gh, hv, h, fun p ws G3 H3 s3 hp hg hl hd => q p ws G3 H3 (s.trans s3) (fresh_back s.h hp) hg hl hd⟩
end

/-! ### statements -/
inductive Out where
  | nx (ρ : Rho)
  | rt (d : PyData)
  | rf (ds : List PyData)
  | bk (ρ : Rho)
  | ct (ρ : Rho)
section
variable (K : PySem.W.Frag) (B0 B : Hp)
def Post (G : Hp) (D : Ends) : Out → Prop
  | .nx ρ => ∀ G2 H2 σ2, Ex G G2 → Env K G2 H2 σ2 ρ → Base B0 B G2 H2 σ2 ρ → D.nx σ2 H2
  | .bk ρ => ∀ G2 H2 σ2, Ex G G2 → Env K G2 H2 σ2 ρ → Base B0 B G2 H2 σ2 ρ → D.bk σ2 H2
  | .ct ρ => ∀ G2 H2 σ2, Ex G G2 → Env K G2 H2 σ2 ρ → Base B0 B G2 H2 σ2 ρ → D.ct σ2 H2
  | .rt d => ∀ v G2 H2, Step B0 B G2 H2 → Dp K G2 v d → D.rt v H2
  | .rf ds => ∀ p vs G2 H2, Step B0 B G2 H2 → B p = none → G2 p = none → H2 p = some (.lst vs) → DpAll K G2 vs ds → D.rt (.ref p) H2
def SD (t : TS) (ρ : Rho) (P : Out → Prop) : Prop := ∀ G H σ D, Env K G H σ ρ → Base B0 B G H σ ρ → (∀ o, P o → Post K B0 B G D o) → t D σ H
end
section
variable {K : PySem.W.Frag} {B0 B : Hp} {ρ : Rho} {ta te : TE} {c : TT} {t u : TS} {d e : PyData} {ds es : List PyData} {P R : Out → Prop} {i : Nat}
theorem Post.mono {G G2 : Hp} {D : Ends} {o : Out} (e : Ex G G2) (h : Post K B0 B G D o) : Post K B0 B G2 D o := by
  cases o with
  | nx ρ => exact fun G3 H3 σ3 e3 => h G3 H3 σ3 (e.trans e3)
  | bk ρ => exact fun G3 H3 σ3 e3 => h G3 H3 σ3 (e.trans e3)
  | ct ρ => exact fun G3 H3 σ3 e3 => h G3 H3 σ3 (e.trans e3)
  | rt d => exact h
  | rf ds => exact h
theorem SD.imp (h : SD K B0 B t ρ P) (k : ∀ o, P o → R o) : SD K B0 B t ρ R := fun G H σ D I b q => h G H σ D I b fun o po => q o (k o po)
/-- what follows a statement -/
def Then (K : PySem.W.Frag) (B0 B : Hp) (u : TS) (P : Out → Prop) : Out → Prop
  | .nx ρ => SD K B0 B u ρ P
  | o => P o
theorem sd_seq (h : SD K B0 B t ρ (Then K B0 B u P)) : SD K B0 B (tSeq t u) ρ P := fun G H σ D I b q => h G H σ { D with nx := u D } I b fun o po => by
  cases o with
  | nx ρ2 => exact fun G2 H2 σ2 e I2 b2 => po G2 H2 σ2 D I2 b2 fun o' po' => (q o' po').mono e
  | rt d => exact q _ po
  | rf ds => exact q _ po
  | bk ρ2 => exact q _ po
  | ct ρ2 => exact q _ po
theorem sd_next (h : P (.nx ρ)) : SD K B0 B tNext ρ P := fun G H σ D I b q => q _ h G H σ (Ex.refl G) I b
theorem sd_brk (h : P (.bk ρ)) : SD K B0 B tBreak ρ P := fun G H σ D I b q => q _ h G H σ (Ex.refl G) I b
theorem sd_cont (h : P (.ct ρ)) : SD K B0 B tCont ρ P := fun G H σ D I b q => q _ h G H σ (Ex.refl G) I b
theorem sd_set (h : ED K te ρ d) (k : P (.nx (ρ.set i (some (.d d))))) : SD K B0 B (tAsg te (gName i)) ρ P := fun G H σ D I b q =>
  h G H σ I _ fun v G2 H2 s hv => q _ k G2 H2 _ s.g ((I.step s).set hv i) ((b.step s).set i)
theorem sd_setF (h : EF K te ρ ds) (k : P (.nx (ρ.set i (some (.own ds))))) : SD K B0 B (tAsg te (gName i)) ρ P := fun G H σ D I b q =>
  h G H σ I _ fun p vs G2 H2 s hp hg hl hd => q _ k G2 H2 _ s.g (I.setO s hp hg hl hd i) (b.setO I s hp i)
theorem sd_drop (h : ED K te ρ d) (k : P (.nx ρ)) : SD K B0 B (tDrop te) ρ P := fun G H σ D I b q =>
  h G H σ I _ fun v G2 H2 s hv => q _ k G2 H2 _ s.g (I.step s) (b.step s)
theorem sd_if {b : Bool} (h : TD K c ρ b) (h1 : b = true → SD K B0 B t ρ P) (h2 : b = false → SD K B0 B u ρ P) : SD K B0 B (tIfS c t u) ρ P := fun G H σ D I bb q =>
  h G H σ I _ fun G2 H2 s => by
    cases b with
    | true =>
      show t D σ H2
      exact h1 rfl G2 H2 σ D (I.step s) (bb.step s) fun o po => (q o po).mono s.g
    | false =>
      show u D σ H2
      exact h2 rfl G2 H2 σ D (I.step s) (bb.step s) fun o po => (q o po).mono s.g
theorem sd_ret (h : ED K te ρ d) (k : P (.rt d)) : SD K B0 B (tRet te) ρ P := fun G H σ D I b q =>
  h G H σ I _ fun v G2 H2 s hv => q _ k v G2 H2 (b.st.trans s) hv
theorem sd_retF (h : EF K te ρ ds) (k : P (.rf ds)) : SD K B0 B (tRet te) ρ P := fun G H σ D I b q =>
  h G H σ I _ fun p vs G2 H2 s hp hg hl hd => q _ k p vs G2 H2 (b.st.trans s) (fresh_back b.st.h hp) hg hl hd
/-- a list of one's own is handed back -/
theorem sd_retO (h : ρ[i]? = some (some (.own ds))) (k : P (.rf ds)) : SD K B0 B (tRet (tVar i)) ρ P := fun G H σ D I b q => by
  obtain ⟨p, vs, h1, h2, h3, h4⟩ := I.own i ds h
  exact ⟨_, h1, q _ k p vs G H b.st (b.own i ds p h h1) h3 h2 h4⟩
theorem sd_frz (h : ρ[i]? = some (some (.own ds))) (k : SD K B0 B t (ρ.set i (some (.d (.list ds)))) P) : SD K B0 B t ρ P := fun G H σ D I b q => by
  obtain ⟨G2, e, I2, b2⟩ := I.frz b h
  exact k G2 H σ D I2 b2 fun o po => (q o po).mono e
theorem sd_app (h : ρ[i]? = some (some (.own ds))) (he : ED K te ρ d) (hl : ds.length < 100000) (k : P (.nx (ρ.set i (some (.own (ds ++ [d])))))) : SD K B0 B (tDrop (tBM K "list" rAppend (tVar i) (tCons te tNil))) ρ P := fun G H σ D I b q => by
  obtain ⟨p, vs, h1, h2, h3, h4⟩ := I.own i ds h
  refine ⟨_, h1, .inl ⟨rfl, _, sq_of h2⟩, he G H σ I _ fun v G2 H2 s hv => ?_⟩
  have I2 := I.step s
  have b2 := b.step s
  obtain ⟨p', vs', g1, g2, g3, g4⟩ := I2.own i ds h
  rw [h1] at g1; cases g1
  refine ⟨p, vs', v, rfl, rfl, g2, by rw [g4.len]; exact sz_lt hl, ?_⟩
  exact q _ k G2 _ σ s.g (I2.mut h h1 (g4.app (.cons hv .nil))) (b2.mut I2 h h1)
theorem sd_rev (h : ρ[i]? = some (some (.own ds))) (k : P (.nx (ρ.set i (some (.own ds.reverse))))) : SD K B0 B (tDrop (tBM0 K "list" rReverse (tVar i))) ρ P := fun G H σ D I b q => by
  obtain ⟨p, vs, h1, h2, h3, h4⟩ := I.own i ds h
  refine ⟨_, h1, .inl ⟨rfl, _, sq_of h2⟩, p, vs, rfl, rfl, h2, ?_⟩
  exact q _ k G _ σ (Ex.refl G) (I.mut h h1 h4.rev) (b.mut I h h1)
/-- xs[k] = e -/
theorem sd_setI {tk : TE} {k : Int} {m : Nat} (h : ρ[i]? = some (some (.own ds))) (he : ED K te ρ d) (hk : ED K tk ρ (.int k)) (hm : ixN ds.length k = some m) (kk : P (.nx (ρ.set i (some (.own (ds.set m d)))))) : SD K B0 B (tAsg te (gSub (tVar i) tk rSetL)) ρ P := fun G H σ D I b q =>
  he G H σ I _ fun v G1 H1 s1 hv => by
    have I1 := I.step s1
    obtain ⟨p, vs, h1, h2, h3, h4⟩ := I1.own i ds h
    refine ⟨_, h1, hk G1 H1 σ I1 _ fun y G2 H2 s2 hy => ?_⟩
    cases dp_int hy
    have I2 := I1.step s2
    have b2 := (b.step s1).step s2
    obtain ⟨p', vs', g1, g2, g3, g4⟩ := I2.own i ds h
    rw [h1] at g1; cases g1
    refine ⟨p, vs', k, m, rfl, rfl, g2, by rw [g4.len]; exact hm, ?_⟩
    exact q _ kk G2 _ σ (s1.trans s2).g (I2.mut h h1 (g4.st m (dp_mono s2.g _ _ hv))) (b2.mut I2 h h1)
theorem sd_aug {f : Int → Int → Int} {a b : Int} (hx : ρ[i]? = some (some (.d (.int a)))) (h : ED K te ρ (.int b)) (k : P (.nx (ρ.set i (some (.d (.int (f a b))))))) : SD K B0 B (tAug i te (ipI f)) ρ P := fun G H σ D I bb q => by
  obtain ⟨v, h1, h2⟩ := I.dat i _ hx
  cases dp_int h2
  refine ⟨_, h1, h G H σ I _ fun y G2 H2 s hy => ?_⟩
  cases dp_int hy
  exact ⟨a, b, rfl, rfl, q _ k G2 H2 _ s.g ((I.step s).set (.int _) i) ((bb.step s).set i)⟩
theorem sd_par {j : Nat} {tr : TA} (h : AD K tr ρ [d, e]) (k : P (.nx ((ρ.set i (some (.d d))).set j (some (.d e))))) : SD K B0 B (tPar i j tr) ρ P := fun G H σ D I b q =>
  h G H σ I _ fun vs G2 H2 s hv => by
    cases hv with
    | cons h1 h2 =>
      cases h2 with
      | cons h2 h3 =>
        cases h3
        exact ⟨_, _, rfl, q _ k G2 H2 _ s.g (((I.step s).set h1 i).set h2 j) (((b.step s).set i).set j)⟩
theorem sd_raise {C : Addr} {E : XK} (h : ∀ G H, Step B0 B G H → E (.ref C) none H) : SD K B0 B (fun _ _ H => E (.ref C) none H) ρ P := fun G H σ D I b q => h G H b.st
/-- what a loop's turn leads to -/
def Turn (N : Rho → Prop) (P : Out → Prop) : Out → Prop
  | .nx ρ => N ρ
  | .ct ρ => N ρ
  | .bk ρ => P (.nx ρ)
  | .rt d => P (.rt d)
  | .rf ds => P (.rf ds)
theorem sd_while (W : Nat → Rho → Prop) (m0 : Nat) (h0 : W m0 ρ)
    (hs : ∀ m ρ', W m ρ' → ∃ b, TD K c ρ' b ∧ (b = true → SD K B0 B t ρ' (Turn (fun ρ2 => ∃ m', m' < m ∧ W m' ρ2) P)) ∧ (b = false → P (.nx ρ'))) : SD K B0 B (tWhile c t) ρ P := fun G0 H0 σ0 D I0 b0 q => by
  refine ⟨fun m σ H => ∃ G ρ', Ex G0 G ∧ Env K G H σ ρ' ∧ Base B0 B G H σ ρ' ∧ W m ρ', ⟨m0, G0, ρ, Ex.refl G0, I0, b0, h0⟩, ?_⟩
  rintro m σ H ⟨G, ρ', eg, I, bb, w⟩
  obtain ⟨b, h1, h2, h3⟩ := hs m ρ' w
  refine h1 G H σ I _ fun G2 H2 s => ?_
  cases b with
  | true =>
    refine ⟨fun σ3 H3 => ∃ G3 ρ3, Ex G0 G3 ∧ Env K G3 H3 σ3 ρ3 ∧ Base B0 B G3 H3 σ3 ρ3 ∧ ∃ m', m' < m ∧ W m' ρ3, fun σ3 H3 ⟨G3, ρ3, e3, I3, b3, m', lt, w3⟩ => ⟨m', lt, G3, ρ3, e3, I3, b3, w3⟩, ?_⟩
    have e02 : Ex G0 G2 := eg.trans s.g
    refine h2 rfl G2 H2 σ _ (I.step s) (bb.step s) fun o po => ?_
    cases o with
    | nx ρ3 => exact fun G3 H3 σ3 e3 I3 b3 => ⟨G3, ρ3, e02.trans e3, I3, b3, po⟩
    | ct ρ3 => exact fun G3 H3 σ3 e3 I3 b3 => ⟨G3, ρ3, e02.trans e3, I3, b3, po⟩
    | bk ρ3 => exact fun G3 H3 σ3 e3 I3 b3 => q _ po G3 H3 σ3 (e02.trans e3) I3 b3
    | rt d => exact q _ po
    | rf ds => exact q _ po
  | false => exact q _ (h3 rfl) G2 H2 σ (eg.trans s.g) (I.step s) (bb.step s)
end

/-! ### what is walked -/
def Its (K : PySem.W.Frag) (J : It) (G : Hp) (ds : List PyData) : Prop :=
  (∀ i G' H', Ex G G' → Ex G' H' → ds.length ≤ i → J.stop i H') ∧
  (∀ i d G' H', Ex G G' → Ex G' H' → ds[i]? = some d → J.go i H' ∧ ∀ x H2, J.yld i H' x H2 → ∃ G2, Step G' H' G2 H2 ∧ Dp K G2 x d)
def ID (K : PySem.W.Frag) (wi : TI) (ρ : Rho) (ds : List PyData) : Prop := ∀ G H σ, Env K G H σ ρ → ∀ R : It → Hp → Prop, (∀ J G2 H2, Step G H G2 H2 → Its K J G2 ds → R J H2) → wi σ H R
/-- a list or a tuple -/
def iSeq (K : PySem.W.Frag) (tl : TE) : TI := fun σ H R => tl σ H fun x H1 => ∃ a, x = .ref a ∧ (((∃ xs, SqL K H1 a xs) ∧ R (Itl K a) H1) ∨ ((∃ xs, SqT K H1 a xs) ∧ R (Itt K a) H1))
theorem pi_seq {X : Cx} {tg l : Expr} {tl : TE} (hl : PE X l tl) : PI X tg l (iSeq X.K tl) := by
  refine ⟨fun pins s σ H R I h => ?_⟩
  refine thn (hl.run pins s σ H _ I h) fun v s1 ⟨x, H1, I1, r1, q1⟩ => ?_
  obtain ⟨a, e, q1⟩ := q1
  subst e
  cases r1
  rcases q1 with ⟨⟨xs, hq⟩, q⟩ | ⟨⟨xs, hq⟩, q⟩
  · obtain ⟨its, rv, p, hz⟩ := I1.list hq
    refine wpAny_pyIter_list p.isList ?_
    refine ⟨s1.heap.objs.size, [s1.heap.objs.size], _, _, H1, rfl, I1.kept (t' := s1.toks) fun b o e => Heap.get?_push_of_some _ e, turn_list a _, ⟨_, Heap.get?_push_size _ rfl, rfl, rfl⟩, fun b hb => ?_, q⟩
    have e : b = s1.heap.objs.size := by simpa using hb
    subst e
    exact I1.fpOk (Nat.le_refl _) (I1.hok.fresh (Nat.le_refl _))
  · obtain ⟨its, rv, p, hz⟩ := I1.tuple hq
    refine wpAny_pyIter_tuple (show s1.heap.IsTuple a its.toArray from p) ?_
    refine ⟨s1.heap.objs.size, [s1.heap.objs.size], _, _, H1, rfl, I1.kept (t' := s1.toks) fun b o e => Heap.get?_push_of_some _ e, turn_tuple a _, ⟨_, Heap.get?_push_size _ rfl, rfl, rfl⟩, fun b hb => ?_, q⟩
    have e : b = s1.heap.objs.size := by simpa using hb
    subst e
    exact I1.fpOk (Nat.le_refl _) (I1.hok.fresh (Nat.le_refl _))
section
variable {K : PySem.W.Frag} {B0 B : Hp} {ρ : Rho} {te : TE} {ta : TA} {c tt : TT} {t u : TS} {d e : PyData} {ds es : List PyData} {P R : Out → Prop} {i j : Nat} {wi : TI}
theorem its_l {G : Hp} {a : Addr} {xs : List V} (h : SqL K G a xs) (hd : DpAll K G xs ds) : Its K (Itl K a) G ds := by
  refine ⟨fun i G' H' e1 e2 hi => ⟨xs, ex_l (e1.trans e2) h, by rw [hd.len]; exact hi⟩, fun i d G' H' e1 e2 hi => ?_⟩
  obtain ⟨v, h1, h2⟩ := hd.get hi
  refine ⟨⟨xs, v, ex_l (e1.trans e2) h, h1⟩, fun x H2 hy => ?_⟩
  obtain ⟨rfl, hy⟩ := hy
  have := hy xs (ex_l (e1.trans e2) h)
  rw [h1] at this; cases this
  exact ⟨G', Step.refl e2, dp_mono e1 _ _ h2⟩
theorem its_t {G : Hp} {a : Addr} {xs : List V} (h : SqT K G a xs) (hd : DpAll K G xs ds) : Its K (Itt K a) G ds := by
  refine ⟨fun i G' H' e1 e2 hi => ⟨xs, ex_t (e1.trans e2) h, by rw [hd.len]; exact hi⟩, fun i d G' H' e1 e2 hi => ?_⟩
  obtain ⟨v, h1, h2⟩ := hd.get hi
  refine ⟨⟨xs, v, ex_t (e1.trans e2) h, h1⟩, fun x H2 hy => ?_⟩
  obtain ⟨rfl, hy⟩ := hy
  have := hy xs (ex_t (e1.trans e2) h)
  rw [h1] at this; cases this
  exact ⟨G', Step.refl e2, dp_mono e1 _ _ h2⟩
theorem id_seq (h : ED K te ρ d) (s : SeqD d ds) : ID K (iSeq K te) ρ ds := fun G H σ I R q => h G H σ I _ fun v G2 H2 st hv => by
  obtain ⟨a, xs, rfl, hs, hd⟩ := s.of hv
  refine ⟨a, rfl, ?_⟩
  rcases hs with hs | hs
  · exact .inl ⟨⟨xs, ex_l st.gh hs⟩, q _ G2 H2 st (its_l hs hd)⟩
  · exact .inr ⟨⟨xs, ex_t st.gh hs⟩, q _ G2 H2 st (its_t hs hd)⟩
theorem id_revA (h : ED K te ρ d) (s : SeqD d ds) : ID K (RT.iRevA K te) ρ ds.reverse := fun G H σ I R q => h G H σ I _ fun v G2 H2 st hv => by
  obtain ⟨a, xs, rfl, hs, hd⟩ := s.of hv
  have ln := hd.len
  have back : ∀ i d, ds.reverse[i]? = some d → i < xs.length ∧ ∃ v, xs[xs.length - 1 - i]? = some v ∧ Dp K G2 v d := fun i d hi => by
    have hlt : i < ds.length := by have := (List.getElem?_eq_some_iff.mp hi).1; rwa [List.length_reverse] at this
    rw [List.getElem?_reverse hlt] at hi
    obtain ⟨v, h1, h2⟩ := hd.get hi
    exact ⟨by omega, v, by rw [ln]; exact h1, h2⟩
  refine ⟨a, xs, rfl, ?_⟩
  rcases hs with hs | hs
  · refine .inl ⟨ex_l st.gh hs, q _ G2 H2 st ⟨fun i G' H' e1 e2 hi => ?_, fun i d G' H' e1 e2 hi => ?_⟩⟩
    · rw [List.length_reverse] at hi
      exact (by show xs.length ≤ i; omega)
    · obtain ⟨lt, v, h1, h2⟩ := back i d hi
      refine ⟨⟨lt, xs, v, ex_l (e1.trans e2) hs, h1⟩, fun x H3 hy => ?_⟩
      obtain ⟨rfl, hy⟩ := hy
      have := hy xs (ex_l (e1.trans e2) hs)
      rw [h1] at this; cases this
      exact ⟨G', Step.refl e2, dp_mono e1 _ _ h2⟩
  · refine .inr ⟨ex_t st.gh hs, q _ G2 H2 st ⟨fun i G' H' e1 e2 hi => ?_, fun i d G' H' e1 e2 hi => ?_⟩⟩
    · rw [List.length_reverse] at hi
      exact (by show xs.length ≤ i; omega)
    · obtain ⟨lt, v, h1, h2⟩ := back i d hi
      refine ⟨⟨lt, xs, v, ex_t (e1.trans e2) hs, h1⟩, fun x H3 hy => ?_⟩
      obtain ⟨rfl, hy⟩ := hy
      have := hy xs (ex_t (e1.trans e2) hs)
      rw [h1] at this; cases this
      exact ⟨G', Step.refl e2, dp_mono e1 _ _ h2⟩
def intsD (lo : Int) (n : Nat) : List PyData := (List.range n).map fun k => .int (lo + (k : Nat))
theorem its_r {G : Hp} (lo : Int) (n : Nat) : Its K (Itr lo n) G (intsD lo n) := by
  refine ⟨fun i G' H' e1 e2 hi => ?_, fun i d G' H' e1 e2 hi => ?_⟩
  · unfold intsD at hi
    rw [List.length_map, List.length_range] at hi
    exact hi
  · have hlt : i < n := by have := (List.getElem?_eq_some_iff.mp hi).1; unfold intsD at this; rwa [List.length_map, List.length_range] at this
    refine ⟨hlt, fun x H2 hy => ?_⟩
    obtain ⟨rfl, rfl⟩ := hy
    unfold intsD at hi
    rw [List.getElem?_map, List.getElem?_range hlt] at hi
    cases hi
    exact ⟨G', Step.refl e2, .int _⟩
theorem id_rng1 {n : Int} (h : AD K ta ρ [.int n]) (h1 : n < 2 ^ 62) (h0 : -(2 ^ 62) ≤ n) : ID K (iRng1 ta) ρ (intsD 0 n.toNat) := fun G H σ I R q => h G H σ I _ fun vs G2 H2 s hv => by
  cases hv with
  | cons a b =>
    cases b
    cases dp_int a
    exact ⟨n, rfl, h0, h1, q _ G2 H2 s (its_r 0 _)⟩
theorem id_rng2 {m n : Int} (h : AD K ta ρ [.int m, .int n]) (h1 : -(2 ^ 62) ≤ m ∧ m < 2 ^ 62 ∧ -(2 ^ 62) ≤ n ∧ n < 2 ^ 62) : ID K (iRng2 ta) ρ (intsD m (n - m).toNat) := fun G H σ I R q => h G H σ I _ fun vs G2 H2 s hv => by
  cases hv with
  | cons a b =>
    cases b with
    | cons b c =>
      cases c
      cases dp_int a; cases dp_int b
      exact ⟨m, n, rfl, h1, q _ G2 H2 s (its_r m _)⟩
/-- zip of two lists, of two tuples -/
def pairs (ds es : List PyData) : List PyData := (List.zip ds es).map fun p => .tuple [p.1, p.2]
theorem pairs_get {k : Nat} {d : PyData} (h : (pairs ds es)[k]? = some d) : ∃ a b, d = .tuple [a, b] ∧ ds[k]? = some a ∧ es[k]? = some b := by
  unfold pairs at h
  rw [List.getElem?_map] at h
  cases q : (List.zip ds es)[k]? with
  | none => rw [q] at h; cases h
  | some p =>
    rw [q] at h; cases h
    obtain ⟨a, b⟩ := p
    rw [List.getElem?_zip_eq_some] at q
    exact ⟨a, b, rfl, q.1, q.2⟩
theorem pairs_len : (pairs ds es).length = min ds.length es.length := by unfold pairs; rw [List.length_map, List.length_zip]
theorem its_z {G : Hp} {a b : Addr} {xs ys : List V} (h : SqL K G a xs) (h2 : SqL K G b ys) (hd : DpAll K G xs ds) (he : DpAll K G ys es) : Its K (Itz K a b) G (pairs ds es) := by
  refine ⟨fun i G' H' e1 e2 hi => ⟨xs, ys, ex_l (e1.trans e2) h, ex_l (e1.trans e2) h2, ?_⟩, fun i d G' H' e1 e2 hi => ?_⟩
  · rw [pairs_len] at hi
    rw [hd.len, he.len]
    omega
  · obtain ⟨x, y, rfl, g1, g2⟩ := pairs_get hi
    obtain ⟨v, p1, p2⟩ := hd.get g1
    obtain ⟨w, q1, q2⟩ := he.get g2
    refine ⟨⟨xs, ys, v, w, ex_l (e1.trans e2) h, ex_l (e1.trans e2) h2, p1, q1⟩, fun z H2 hy => ?_⟩
    obtain ⟨T, x', y', rfl, hT, rfl, hx, hy⟩ := hy
    have r1 := hx xs (ex_l (e1.trans e2) h)
    have r2 := hy ys (ex_l (e1.trans e2) h2)
    rw [p1] at r1; rw [q1] at r2
    cases r1; cases r2
    have en : Ex G' (upd G' T (.tup [v, w])) := Ex.new (fresh_back e2 hT)
    exact ⟨upd G' T (.tup [v, w]), Step.alloc e2 hT, .tup (st_of upd_same) (.cons (dp_mono (e1.trans en) _ _ p2) (.cons (dp_mono (e1.trans en) _ _ q2) .nil))⟩
theorem its_zT {G : Hp} {a b : Addr} {xs ys : List V} (h : SqT K G a xs) (h2 : SqT K G b ys) (hd : DpAll K G xs ds) (he : DpAll K G ys es) : Its K (RZ.ItzT K a b) G (pairs ds es) := by
  refine ⟨fun i G' H' e1 e2 hi => ⟨xs, ys, ex_t (e1.trans e2) h, ex_t (e1.trans e2) h2, ?_⟩, fun i d G' H' e1 e2 hi => ?_⟩
  · rw [pairs_len] at hi
    rw [hd.len, he.len]
    omega
  · obtain ⟨x, y, rfl, g1, g2⟩ := pairs_get hi
    obtain ⟨v, p1, p2⟩ := hd.get g1
    obtain ⟨w, q1, q2⟩ := he.get g2
    refine ⟨⟨xs, ys, v, w, ex_t (e1.trans e2) h, ex_t (e1.trans e2) h2, p1, q1⟩, fun z H2 hy => ?_⟩
    obtain ⟨T, x', y', rfl, hT, rfl, hx, hy⟩ := hy
    have r1 := hx xs (ex_t (e1.trans e2) h)
    have r2 := hy ys (ex_t (e1.trans e2) h2)
    rw [p1] at r1; rw [q1] at r2
    cases r1; cases r2
    have en : Ex G' (upd G' T (.tup [v, w])) := Ex.new (fresh_back e2 hT)
    exact ⟨upd G' T (.tup [v, w]), Step.alloc e2 hT, .tup (st_of upd_same) (.cons (dp_mono (e1.trans en) _ _ p2) (.cons (dp_mono (e1.trans en) _ _ q2) .nil))⟩
theorem id_zip (h : AD K ta ρ [d, e]) (s : (d = .list ds ∧ e = .list es) ∨ (d = .tuple ds ∧ e = .tuple es)) : ID K (RZ.iZipA K ta) ρ (pairs ds es) := fun G H σ I R q => h G H σ I _ fun vs G2 H2 st hv => by
  cases hv with
  | cons h1 h2 =>
    cases h2 with
    | cons h2 h3 =>
      cases h3
      rcases s with ⟨rfl, rfl⟩ | ⟨rfl, rfl⟩
      · cases h1 with
        | lst a1 a2 =>
          cases h2 with
          | lst b1 b2 => exact ⟨_, _, _, _, rfl, .inl ⟨ex_l st.gh a1, ex_l st.gh b1, q _ G2 H2 st (its_z a1 b1 a2 b2)⟩⟩
      · cases h1 with
        | tup a1 a2 =>
          cases h2 with
          | tup b1 b2 => exact ⟨_, _, _, _, rfl, .inr ⟨ex_t st.gh a1, ex_t st.gh b1, q _ G2 H2 st (its_zT a1 b1 a2 b2)⟩⟩

/-! targets -/
def OwnSub (σ : L2.St) (ρ : Rho) (σ2 : L2.St) (ρ2 : Rho) : Prop := ∀ (i : Nat) xs p, ρ2[i]? = some (some (.own xs)) → σ2[i]? = some (some (.ref p)) → ρ[i]? = some (some (.own xs)) ∧ σ[i]? = some (some (.ref p))
def GD (K : PySem.W.Frag) (g : TG) (d : PyData) (ρ ρ2 : Rho) : Prop := ∀ G H σ v, Env K G H σ ρ → Dp K G v d → ∀ Q : L2.St → Hp → Prop, (∀ σ2, Env K G H σ2 ρ2 → OwnSub σ ρ σ2 ρ2 → Q σ2 H) → g v σ H Q
theorem ownSub_set {σ : L2.St} {v : V} : OwnSub σ ρ (σ.set i (some v)) (ρ.set i (some (.d d))) := fun k xs p h1 h2 => by
  rcases getset h1 with ⟨rfl, e⟩ | ⟨ne, h1'⟩
  · cases e
  · rw [List.getElem?_set_ne (Ne.symm ne)] at h2
    exact ⟨h1', h2⟩
theorem OwnSub.trans {σ σ2 σ3 : L2.St} {ρ2 ρ3 : Rho} (a : OwnSub σ ρ σ2 ρ2) (b : OwnSub σ2 ρ2 σ3 ρ3) : OwnSub σ ρ σ3 ρ3 := fun i xs p h1 h2 =>
  let ⟨x, y⟩ := b i xs p h1 h2
  a i xs p x y
theorem Base.sub {G H : Hp} {σ σ2 : L2.St} {ρ2 : Rho} (b : Base B0 B G H σ ρ) (s : OwnSub σ ρ σ2 ρ2) : Base B0 B G H σ2 ρ2 := ⟨b.st, fun i xs p h1 h2 => let ⟨x, y⟩ := s i xs p h1 h2; b.own i xs p x y⟩
theorem gd_name : GD K (gName i) d ρ (ρ.set i (some (.d d))) := fun G H σ v I hv Q q => q _ (I.set hv i) ownSub_set
theorem gd_pair : GD K (gTup K 2 (gCons (gName i) (gCons (gName j) gNil))) (.tuple [d, e]) ρ ((ρ.set i (some (.d d))).set j (some (.d e))) := fun G H σ v I hv Q q => by
  cases hv with
  | tup h1 h2 =>
    cases h2 with
    | cons h2 h3 =>
      cases h3 with
      | cons h3 h4 =>
        cases h4
        exact ⟨_, _, rfl, ex_t I.gh h1, rfl, _, _, rfl, _, _, rfl, rfl, q _ ((I.set h2 i).set h3 j) (ownSub_set.trans ownSub_set)⟩
theorem sd_asg {g : TG} {ρ2 : Rho} (h : ED K te ρ d) (hg : GD K g d ρ ρ2) (k : P (.nx ρ2)) : SD K B0 B (tAsg te g) ρ P := fun G H σ D I b q =>
  h G H σ I _ fun v G2 H2 s hv => hg G2 H2 σ v (I.step s) hv _ fun σ2 I2 os => q _ k G2 H2 σ2 s.g I2 ((b.step s).sub os)
/-- for -/
theorem sd_for {g : TG} (h : ID K wi ρ ds) (Inv : Nat → Rho → Prop) (h0 : Inv 0 ρ)
    (hs : ∀ i d ρ', ds[i]? = some d → Inv i ρ' → ∃ ρ2, GD K g d ρ' ρ2 ∧ SD K B0 B t ρ2 (Turn (Inv (i + 1)) P)) (hd : ∀ ρ', Inv ds.length ρ' → P (.nx ρ')) : SD K B0 B (tFor wi g t) ρ P := fun G0 H0 σ0 D I0 b0 q =>
  h G0 H0 σ0 I0 _ fun J G1 H1 s1 its => by
    refine ⟨fun i m σ H => m = ds.length - i ∧ i ≤ ds.length ∧ ∃ G ρ', Ex G1 G ∧ Env K G H σ ρ' ∧ Base B0 B G H σ ρ' ∧ Inv i ρ', ⟨ds.length, rfl, Nat.zero_le _, G1, ρ, Ex.refl G1, I0.step s1, b0.step s1, h0⟩, ?_⟩
    rintro i m σ H ⟨rfl, hi, G, ρ', eg, I, bb, w⟩
    by_cases hlt : i < ds.length
    · have hx : ds[i]? = some ds[i] := List.getElem?_eq_getElem hlt
      obtain ⟨go, yl⟩ := its.2 i _ G H eg I.gh hx
      refine .inr ⟨go, fun σ3 H3 => ∃ G3 ρ3, Ex G1 G3 ∧ Env K G3 H3 σ3 ρ3 ∧ Base B0 B G3 H3 σ3 ρ3 ∧ Inv (i + 1) ρ3, fun σ3 H3 h3 => ⟨ds.length - (i + 1), by omega, rfl, hlt, h3⟩, fun x H' hy => ?_⟩
      obtain ⟨G2, s2, hv⟩ := yl x H' hy
      obtain ⟨ρ2, hg, body⟩ := hs i _ ρ' hx w
      have e12 : Ex G1 G2 := eg.trans s2.g
      refine hg G2 H' σ x (I.step s2) hv _ fun σ2 I2 os => ?_
      refine body G2 H' σ2 _ I2 ((bb.step s2).sub os) fun o po => ?_
      cases o with
      | nx ρ3 => exact fun G3 H3 σ3 e3 I3 b3 => ⟨G3, ρ3, e12.trans e3, I3, b3, po⟩
      | ct ρ3 => exact fun G3 H3 σ3 e3 I3 b3 => ⟨G3, ρ3, e12.trans e3, I3, b3, po⟩
      | bk ρ3 => exact fun G3 H3 σ3 e3 I3 b3 => q _ po G3 H3 σ3 ((s1.g.trans e12).trans e3) I3 b3
      | rt d => exact q _ po
      | rf ds => exact q _ po
    · have e : i = ds.length := by omega
      subst e
      exact .inl ⟨its.1 _ G H eg I.gh (Nat.le_refl _), q _ (hd ρ' w) G H σ (s1.g.trans eg) I bb⟩
/-- comprehensions -/
def wipeR (ρ : Rho) : List Nat → Rho
  | [] => ρ
  | v :: vs => (wipeR ρ vs).set v none
theorem Env.wipe1 {G H : Hp} {σ : L2.St} (I : Env K G H σ ρ) (i : Nat) : Env K G H (σ.set i none) (ρ.set i none) := by
  refine ⟨I.gh, by rw [List.length_set, List.length_set]; exact I.len, fun j x h => ?_, fun j xs h => ?_, fun j k xs ys q hjk h1 h2 h3 => ?_⟩
  · rcases getset h with ⟨rfl, e⟩ | ⟨ne, h'⟩
    · cases e
    · rw [List.getElem?_set_ne (Ne.symm ne)]; exact I.dat j x h'
  · rcases getset h with ⟨rfl, e⟩ | ⟨ne, h'⟩
    · cases e
    · rw [List.getElem?_set_ne (Ne.symm ne)]; exact I.own j xs h'
  · rcases getset h1 with ⟨rfl, e⟩ | ⟨ne, h1'⟩
    · cases e
    · rcases getset h2 with ⟨rfl, e⟩ | ⟨ne2, h2'⟩
      · cases e
      · rw [List.getElem?_set_ne (Ne.symm ne)] at h3
        rw [List.getElem?_set_ne (Ne.symm ne2)]
        exact I.sep j k xs ys q hjk h1' h2' h3
theorem Env.wipe {G H : Hp} {σ : L2.St} (I : Env K G H σ ρ) : ∀ vs : List Nat, Env K G H (wipe σ vs) (wipeR ρ vs)
  | [] => I
  | v :: vs => (I.wipe vs).wipe1 v
/-- a target within a comprehension -/
def GC (K : PySem.W.Frag) (g : TG) (d : PyData) (vs : List Nat) (ρ ρ2 : Rho) : Prop := ∀ G H σ v, Env K G H σ ρ → Dp K G v d → ∀ Q : L2.St → Hp → Prop, (∀ σ2, Env K G H σ2 ρ2 → wipe σ2 vs = wipe σ vs → Q σ2 H) → g v (wipe σ vs) H Q
theorem gc_name : GC K (gName i) d [i] ρ ((wipeR ρ [i]).set i (some (.d d))) := fun G H σ v I hv Q q => q _ ((I.wipe [i]).set hv i) (by simp [wipe, List.set_set])
theorem gc_pair (hij : i ≠ j) : GC K (gTup K 2 (gCons (gName i) (gCons (gName j) gNil))) (.tuple [d, e]) [i, j] ρ (((wipeR ρ [i, j]).set i (some (.d d))).set j (some (.d e))) := fun G H σ v I hv Q q => by
  have W := I.wipe [i, j]
  cases hv with
  | tup h1 h2 =>
    cases h2 with
    | cons h2 h3 =>
      cases h3 with
      | cons h3 h4 =>
        cases h4
        refine ⟨_, _, rfl, ex_t I.gh h1, rfl, _, _, rfl, _, _, rfl, rfl, q _ ((W.set h2 i).set h3 j) ?_⟩
        simp only [wipe]
        apply List.ext_getElem?
        intro n
        by_cases a : n = i
        · subst a
          simp [List.getElem?_set, hij, Ne.symm hij]
        · by_cases b : n = j
          · subst b
            simp [List.getElem?_set, hij, Ne.symm hij]
          · simp [List.getElem?_set, Ne.symm a, Ne.symm b]
theorem ef_lcG {g : TG} {vs : List Nat} (b : Nat → Bool) (f : Nat → PyData) (h : ID K wi ρ ds) (hz : ds.length ≤ 100000)
    (hs : ∀ i d, ds[i]? = some d → ∃ ρ2, GC K g d vs ρ ρ2 ∧ TD K tt ρ2 (b i) ∧ (b i = true → ED K te ρ2 (f i))) : EF K (tLc wi g tt te vs) ρ (((List.range ds.length).filter b).map f) := fun G0 H0 σ0 I0 Q q =>
  h G0 H0 σ0 I0 _ fun J G1 H1 s1 its D hD => by
    let done (i : Nat) : List PyData := ((List.range i).filter b).map f
    have dl : ∀ i, (done i).length ≤ i := fun i => by
      show (((List.range i).filter b).map f).length ≤ i
      rw [List.length_map]
      have := List.length_filter_le b (List.range i)
      rwa [List.length_range] at this
    have I1 := I0.step s1
    refine ⟨fun i m H => m = ds.length - i ∧ i ≤ ds.length ∧ ∃ G acc, Step G1 H1 G H ∧ G D = none ∧ H D = some (.lst acc) ∧ DpAll K G acc (done i),
      ⟨ds.length, rfl, Nat.zero_le _, G1, [], Step.allocO s1.gh hD, fresh_back s1.gh hD, upd_same, .nil⟩, ?_⟩
    rintro i m H ⟨rfl, hi, G, acc, st, gD, hDl, hacc⟩
    by_cases hlt : i < ds.length
    · have hx : ds[i]? = some ds[i] := List.getElem?_eq_getElem hlt
      obtain ⟨go, yl⟩ := its.2 i _ G H st.g st.gh hx
      refine .inr ⟨go, fun H3 => ∃ G3 acc3, Step G1 H1 G3 H3 ∧ G3 D = none ∧ H3 D = some (.lst acc3) ∧ DpAll K G3 acc3 (done (i + 1)), fun H3 h3 => ⟨ds.length - (i + 1), by omega, rfl, hlt, h3⟩, fun x H' hy => ?_⟩
      obtain ⟨G2, s2, hv⟩ := yl x H' hy
      obtain ⟨ρ2, hg, ht, he⟩ := hs i _ hx
      have I2 : Env K G2 H' σ0 ρ := (I1.step st).step s2
      have noD : ∀ {G' H'' : Hp}, Step G H G' H'' → G' D = none := fun {G' H''} s => by
        by_cases z : G' D = none
        · exact z
        · have := s.new D z gD
          rw [hDl] at this; cases this
      refine hg G2 H' σ0 x I2 hv _ fun σ2 I3 hw => ⟨hw, ht G2 H' σ2 I3 _ fun G4 H4 s4 => ?_⟩
      have sA : Step G H G4 H4 := s2.trans s4
      cases hb : b i with
      | true =>
        show te σ2 H4 _
        refine he hb G4 H4 σ2 (I3.step s4) _ fun y G5 H5 s5 hy5 => ?_
        have sB := sA.trans s5
        have nD := noD sB
        refine ⟨acc, sB.h _ _ hDl, by rw [hacc.len]; exact sz_lt (Nat.lt_of_le_of_lt (dl i) (by omega)), G5, acc ++ [y], (st.trans sB).mutO hD nD, nD, upd_same, ?_⟩
        have ed : done (i + 1) = done i ++ [f i] := by
          show ((List.range (i + 1)).filter b).map f = _
          rw [List.range_succ, List.filter_append, List.map_append, List.filter_cons, if_pos hb]; rfl
        rw [ed]
        exact (dpa_mono sB.g _ _ hacc).app (.cons hy5 .nil)
      | false =>
        show ∃ G3 acc3, _
        have ed : done (i + 1) = done i := by
          show ((List.range (i + 1)).filter b).map f = _
          rw [List.range_succ, List.filter_append, List.map_append, List.filter_cons, if_neg (by rw [hb]; decide)]
          show _ ++ [] = _
          rw [List.append_nil]
        refine ⟨G4, acc, st.trans sA, noD sA, sA.h _ _ hDl, ?_⟩
        rw [ed]
        exact dpa_mono sA.g _ _ hacc
    · have e : i = ds.length := by omega
      subst e
      exact .inl ⟨its.1 _ G H st.g st.gh (Nat.le_refl _), q D acc G H (s1.trans st) (fresh_back s1.h hD) gD hDl hacc⟩
theorem ef_lc {g : TG} {vs : List Nat} (f : Nat → PyData) (h : ID K wi ρ ds) (hz : ds.length ≤ 100000)
    (hs : ∀ i d, ds[i]? = some d → ∃ ρ2, GC K g d vs ρ ρ2 ∧ ED K te ρ2 (f i)) : EF K (tLc wi g tYes te vs) ρ ((List.range ds.length).map f) := by
  have := ef_lcG (tt := tYes) (b := fun _ => true) f h hz (g := g) (vs := vs) (te := te) fun i d hi => by
    obtain ⟨ρ2, h1, h2⟩ := hs i d hi
    exact ⟨ρ2, h1, td_yes, fun _ => h2⟩
  rwa [List.filter_eq_self.mpr (fun _ _ => rfl)] at this
end
end Rt

namespace Rt
open PySem PySem.Spec PyProof.Rows L2 Evl

/-! ### operators of my own -/
def CDivQ (i j : Int) : Prop := j ≠ 0 ∧ Builtin.divisionGoesByPylong i j = false
theorem op_fdivP {X : Cx} : OpR X (binaryOp .FloorDiv) (rI CDivQ fun i j => .int (i.fdiv j)) := opI fun _ _ _ _ _ _ _ hc q => PyProof.Rows.floordiv_int hc.1 q (.inl hc.2)
theorem cdivQ_of {i j : Int} {n : Nat} (h : j ≠ 0) (hb : j.natAbs < 2 ^ n) (h0 : 0 < n) (h9 : n ≤ 9000) : CDivQ i j := ⟨h, PyProof.noPylong_of_log2 (Nat.lt_of_lt_of_le (PySem.Flt.log2_lt_of h0 hb) h9)⟩
theorem cmulX_of {i j : Int} {a b : Nat} (ha : i.natAbs < 2 ^ a) (hb : j.natAbs < 2 ^ b) (h0 : 0 < a) (h1 : 0 < b) (h : a + b ≤ 134217728) : CMulX i j := by
  have x := PySem.Flt.log2_lt_of h0 ha
  have y := PySem.Flt.log2_lt_of h1 hb
  have bb : ∀ x : Int, Builtin.Int.intBits x ≤ x.natAbs.log2 + 1 := fun x => by
    unfold Builtin.Int.intBits
    split <;> omega
  have p := bb i
  have q := bb j
  unfold CMulX
  omega
theorem _root_.L2.Room.units65 {k : Nat} {A : Around} (r : Room k A) : A.units + 65 < cLine := by have := r.un; omega
section
variable {K : PySem.W.Frag} {ρ : Rho} {ta tb te : TE} {d e : PyData} {ds es : List PyData} {i j : Int} {n : Nat}
theorem ed_fdivP (ha : ED K ta ρ (.int i)) (hb : ED K tb ρ (.int j)) (hc : CDivQ i j) : ED K (tOp (rI CDivQ fun i j => .int (i.fdiv j)) ta tb) ρ (.int (i.fdiv j)) := ed_I (g := fun i j => i.fdiv j) ha hb hc
def rInt1 : List V → Hp → VK → Prop := fun xs H Q => (∃ i, xs = [.int i] ∧ Q (.int i) H) ∨ ∃ k, xs = [.bl k] ∧ Q (.int (if k then 1 else 0)) H
theorem ed_int1B {b : Bool} (ha : ED K ta ρ (.bool b)) : ED K (tCB rInt1 (tCons ta tNil)) ρ (.int (if b then 1 else 0)) := fun G H σ I Q q => ha G H σ I _ fun v G2 H2 s hv => by
  cases dp_bl hv
  exact .inr ⟨b, rfl, q _ G2 H2 s (.int _)⟩
theorem ed_int1I (ha : ED K ta ρ (.int i)) : ED K (tCB rInt1 (tCons ta tNil)) ρ (.int i) := fun G H σ I Q q => ha G H σ I _ fun v G2 H2 s hv => by
  cases dp_int hv
  exact .inl ⟨i, rfl, q _ G2 H2 s (.int _)⟩
/-- in, not in over data -/
theorem ed_inD (ha : ED K ta ρ d) (hb : ED K tb ρ (.list ds)) (h1 : SeqAt.shaped d = true) (h2 : SeqAt.shaped (.list ds) = true) : ED K (tOp (rInD K) ta tb) ρ (.bool (ds.any fun z => PyData.eqv z d)) :=
  ed_op ha hb fun x y G H ex hx hy Q q => ⟨d, ds, dp_mono ex _ _ hx, dp_mono ex _ _ hy, h1, h2, q _ G H (Step.refl ex) (.bl _)⟩
theorem ed_notInD (ha : ED K ta ρ d) (hb : ED K tb ρ (.list ds)) (h1 : SeqAt.shaped d = true) (h2 : SeqAt.shaped (.list ds) = true) : ED K (tOp (rNotInD K) ta tb) ρ (.bool (!ds.any fun z => PyData.eqv z d)) :=
  ed_op ha hb fun x y G H ex hx hy Q q => ⟨d, ds, dp_mono ex _ _ hx, dp_mono ex _ _ hy, h1, h2, q _ G H (Step.refl ex) (.bl _)⟩
/-- over a list of one's own -/
theorem ed_notInO {k : Nat} (ho : ρ[k]? = some (some (.own ds))) (ha : ED K ta ρ d) (h1 : SeqAt.shaped d = true) (h2 : SeqAt.shaped (.list ds) = true) : ED K (tOp (rNotInD K) ta (tVar k)) ρ (.bool (!ds.any fun z => PyData.eqv z d)) := fun G H σ I Q q =>
  ha G H σ I _ fun x G2 H2 s hx => by
    obtain ⟨p, vs, g1, g2, g3, g4⟩ := (I.step s).own k ds ho
    exact ⟨_, g1, d, ds, dp_mono s.gh _ _ hx, .lst (sq_of g2) (dpa_mono s.gh _ _ g4), h1, h2, q _ G2 H2 s (.bl _)⟩
end

/-! ### a def that is called -/
structure Cal (P : Program) (w : World) (K : PySem.W.Frag) (mg : Str → Option Value) (base : Heap) (CX : CXT) (k : Nat) (x : Str) (ps : List Str) (sp : Sp) : Prop where
  ex : ∃ f fd, FnOk P w K mg base CX k f fd ps sp ∧ mg x = some (.ref f) ∧ PySem.W.keepIn K (.ref f) = true ∧ Binds K fd ps []
theorem pe_cal0 {X : Cx} {k : Nat} {x : Str} {ps : List Str} {sp : Sp} {e : Expr} {es : List Expr} {t : TA} {p pos : Pos} (C : Cal X.prog X.w X.K X.mg X.base CX0 k x ps sp) (hr : Room k X.A) (hg : Gl X x) (ha : PA X (e :: es) t)
    (hdb : (x == ("__debug__" : Str)) = false := by decide) (he : starEach (e :: es) X.env = (false, eval e X.env) :: starEach es X.env := by rfl) (hpl : (backTo pos (starEach es X.env)).any (·.1) = false := by rfl) : PE X (.Call (.Name x p) (e :: es) [] pos) (tCall sp [] E0 t) := by
  obtain ⟨f, fd, F, hm, hk, hb⟩ := C.ex
  exact pe_call F hr hg hm hk hb .nil pass0 ha hdb he hpl
theorem pe_calX {X : Cx} {k : Nat} {x : Str} {ps : List Str} {sp : Sp} {e : Expr} {es : List Expr} {t : TA} {p pos : Pos} (C : Cal X.prog X.w X.K X.mg X.base (L2.CX X.prog X.w) k x ps sp) (hr : Room k X.A) (hg : Gl X x) (ha : PA X (e :: es) t)
    (hdb : (x == ("__debug__" : Str)) = false := by decide) (he : starEach (e :: es) X.env = (false, eval e X.env) :: starEach es X.env := by rfl) (hpl : (backTo pos (starEach es X.env)).any (·.1) = false := by rfl) : PE X (.Call (.Name x p) (e :: es) [] pos) (tCall sp [] E0 t) := by
  obtain ⟨f, fd, F, hm, hk, hb⟩ := C.ex
  exact pe_call F hr hg hm hk hb .nil passL ha hdb he hpl
/-- within a try -/
theorem pe_calS {X : Cx} {k : Nat} {x : Str} {ps : List Str} {sp : Sp} {e : Expr} {es : List Expr} {t : TA} {p pos : Pos} {E : L2.St → XK} (C : Cal X.prog X.w X.K X.mg X.base (L2.CX X.prog X.w) k x ps sp) (hr : Room k X.A) (hg : Gl X x) (hx : ∀ σ, PassesAt (L2.CX X.prog X.w) X σ (E σ)) (ha : PA X (e :: es) t)
    (hdb : (x == ("__debug__" : Str)) = false := by decide) (he : starEach (e :: es) X.env = (false, eval e X.env) :: starEach es X.env := by rfl) (hpl : (backTo pos (starEach es X.env)).any (·.1) = false := by rfl) : PE X (.Call (.Name x p) (e :: es) [] pos) (tCallS sp E t) := by
  obtain ⟨f, fd, F, hm, hk, hb⟩ := C.ex
  exact pe_callS F hr hg hm hk hb hx ha hdb he hpl

/-! ### a def's body -/
def startR (N : List Str) (ds : List PyData) : Rho := ds.map (fun d => some (.d d)) ++ List.replicate (N.length - ds.length) none
def fin : Res → Out → Prop
  | .rt d, .rt d' => d' = d
  | .rf ds, .rf ds' => ds' = ds
  | .rt d, .nx _ => d = .none
  | _, _ => False
theorem env_start {K : PySem.W.Frag} {G H : Hp} {N : List Str} {vs : List V} {ds : List PyData} (e : Ex G H) (h : DpAll K G vs ds) : Env K G H (L2.start N vs) (startR N ds) := by
  have hl := h.len
  have own : ∀ (i : Nat) xs, (startR N ds)[i]? ≠ some (some (.own xs)) := fun i xs q => by
    unfold startR at q
    rw [List.getElem?_append] at q
    split at q
    · rw [List.getElem?_map] at q
      cases z : ds[i]? with
      | none => rw [z] at q; cases q
      | some d => rw [z] at q; cases q
    · rw [List.getElem?_replicate] at q
      split at q <;> cases q
  refine ⟨e, ?_, fun i x q => ?_, fun i xs q => absurd q (own i xs), fun i j xs ys p _ q => absurd q (own i xs)⟩
  · unfold L2.start startR
    rw [List.length_append, List.length_append, List.length_map, List.length_map, List.length_replicate, List.length_replicate, hl]
  · unfold startR at q
    rw [List.getElem?_append] at q
    split at q
    · rename_i lt
      rw [List.getElem?_map] at q
      cases z : ds[i]? with
      | none => rw [z] at q; cases q
      | some d =>
        rw [z] at q; cases q
        obtain ⟨v, h1, h2⟩ := h.get z
        refine ⟨v, ?_, h2⟩
        unfold L2.start
        rw [List.getElem?_append_left (by rw [List.length_map, hl]; rw [List.length_map] at lt; exact lt), List.getElem?_map, h1]
        rfl
    · rw [List.getElem?_replicate] at q
      split at q <;> cases q
theorem base_start {K : PySem.W.Frag} {G H : Hp} {N : List Str} {vs : List V} {ds : List PyData} (e : Ex G H) : Base G H G H (L2.start N vs) (startR N ds) := by
  refine ⟨Step.refl e, fun i xs p q => ?_⟩
  unfold startR at q
  rw [List.getElem?_append] at q
  split at q
  · rw [List.getElem?_map] at q
    cases z : ds[i]? with
    | none => rw [z] at q; cases q
    | some d => rw [z] at q; cases q
  · rw [List.getElem?_replicate] at q
    split at q <;> cases q
/-- the reading of a body by data -/
theorem body_ok {K : PySem.W.Frag} {n : Nat} {F : List PyData → Res → Prop} {N : List Str} {t : TS} {vs : List V} {H : Hp} {Q : VK} {E : XK} {G : Hp} {ds : List PyData} {r : Res} (e : Ex G H) (hd : DpAll K G vs ds) (rp : RP K r G H Q E)
    (h : SD K G H t (startR N ds) (fin r)) : t { nx := fun _ H' => Q .non H', rt := Q } (L2.start N vs) H := by
  refine h G H _ _ (env_start e hd) (base_start (K := K) e) fun o po => ?_
  cases r with
  | rt d =>
    cases o with
    | rt d' =>
      cases po
      exact fun v G2 H2 s hv => rp v G2 H2 s hv
    | nx ρ =>
      cases po
      exact fun G2 H2 σ2 _ I2 b2 => rp .non G2 H2 b2.st .non
    | rf ds => cases po
    | bk ρ => cases po
    | ct ρ => cases po
  | rf ds =>
    cases o with
    | rf ds' =>
      cases po
      exact fun p vs G2 H2 s hp hg hl hdd => rp p vs G2 H2 s hp hg hl hdd
    | nx ρ => cases po
    | rt ds => cases po
    | bk ρ => cases po
    | ct ρ => cases po
  | xc C => cases o <;> cases po
section
variable {P : Program} {w : World} {K : PySem.W.Frag} {mg : Str → Option Value} {base : Heap} {x qual : Str} {st : Stmt} {f : Addr} {fd : FuncData} {N ps : List Str} {k n : Nat} {F : List PyData → Res → Prop}
theorem fun_ok {t : TS} (Fn : Fun K x qual st f fd) (S : FnScope N ps (defScope st)) (hn : n = ps.length)
    (hb : ∀ (cdv : Value) (A : Around) (outer : List PySem.Env) (s : Shared) (H : Hp) (E : XK), Room k (A.deeper (envOfC qual (defScope st) s.heap.objs.size f cdv)) → PSs (cxOf CX0 P w K mg base N qual (defScope st) f cdv A outer s H E).nox (defBody st) t)
    (hp : ∀ ds r, F ds r → ∀ B0 B, SD K B0 B t (startR N ds) (fin r)) : FnOk P w K mg base CX0 (k + 1) f fd ps (spD K n F) := by
  refine Fn.ok S (fun vs H Q E h => h.1.trans hn) fun cdv A outer s H vs Q E hr h => ?_
  obtain ⟨hl, G, ds, r, e, hd, hF, rp⟩ := h
  exact ⟨t, hb cdv A outer s H E hr, body_ok (n := n) (F := F) e hd rp (hp ds r hF G H)⟩
theorem fun_okX {t : XK → TS} (Fn : Fun K x qual st f fd) (S : FnScope N ps (defScope st)) (hn : n = ps.length)
    (hb : ∀ (cdv : Value) (A : Around) (outer : List PySem.Env) (s : Shared) (H : Hp) (E : XK), Room k (A.deeper (envOfC qual (defScope st) s.heap.objs.size f cdv)) → PSs (cxOf (L2.CX P w) P w K mg base N qual (defScope st) f cdv A outer s H E) (defBody st) (t E))
    (hp : ∀ ds r, F ds r → ∀ B0 B (E : XK), (∀ C, r = .xc C → ∀ G H, Step B0 B G H → E (.ref C) none H) → SD K B0 B (t E) (startR N ds) (fin r)) : FnOk P w K mg base (L2.CX P w) (k + 1) f fd ps (spD K n F) := by
  refine Fn.okX S (fun vs H Q E h => h.1.trans hn) fun cdv A outer s H vs Q E hr h => ?_
  obtain ⟨hl, G, ds, r, e, hd, hF, rp⟩ := h
  refine ⟨t E, hb cdv A outer s H E hr, body_ok (n := n) (F := F) e hd rp (hp ds r hF G H E fun C hc => ?_)⟩
  subst hc
  exact rp
end

/-! ### isinstance of a caught error -/
def rIsX (K : PySem.W.Frag) (a : Addr) (cls : Value) (d : Option Addr) : List V → Hp → VK → Prop := fun xs H Q => ∃ D, cls = .ref D ∧ d = none ∧ ExcC K D ∧
  ((∃ c cv b, xs = [.ref a, c] ∧ ClsV c cv ∧ PySem.W.kitOne K (.ref D) cv = some b ∧ Q (.bl b) H) ∨
   ∃ tp cs us b, xs = [.ref a, .ref tp] ∧ H tp = some (.tup cs) ∧ Paired ClsV cs us ∧ PySem.W.kitAny K (.ref D) us = some b ∧ Q (.bl b) H)
theorem call_isX {X : Cx} {a : Addr} {oe : Obj} {cls : Value} {d : Option Addr} {pn : List (Addr × Obj)} (hz : Zc cls d oe) (hf : ∃ vs, oe.data = .fields vs) : CallR (X.suite a ((a, oe) :: pn)) (.builtin "isinstance") (rIsX X.K a cls d) := by
  intro pins s σ H xs us Q I r h
  obtain ⟨D, rfl, rfl, C, h⟩ := h
  rcases h with ⟨c, cv, b, rfl, hcv, e, q⟩ | ⟨tp, cs, ws, b, rfl, hT, k, e, q⟩
  · exact call_isE C hz hf pins s σ H _ us Q I r ⟨c, cv, b, rfl, fun u ru => hcv.eq ru, e, q⟩
  · obtain ⟨u1, u2, rfl, r1, r2⟩ := vals2 r
    cases (show u1 = Value.ref a from r1)
    cases (show u2 = Value.ref tp from r2)
    obtain ⟨hget, _⟩ := I.pin (a, oe) (List.mem_append.mpr (.inl List.mem_cons_self))
    obtain ⟨vs, hv⟩ := hf
    have J : PySem.W.InstAt s.heap a oe D none := by
      obtain ⟨oc, od, oda, osl⟩ := oe
      obtain ⟨h1, h2⟩ := hz
      dsimp only at h1 h2 hv
      subst h1 h2 hv
      exact ⟨hget, rfl, rfl, trivial⟩
    obtain ⟨_, its, rv, o, h1, h2, n, h3⟩ := (show ObjOk X.prog X.w H s.heap tp (.tup cs) from I.hok tp _ hT)
    have e3 := ClsV.all k rv
    subst e3
    obtain ⟨oc, od, dt, sl⟩ := o
    simp only at h2 h3
    subst h2 h3
    exact PySem.W.kia_tup (PySem.W.handS_kitx_exc C.hg C.hk C.hs C.hd C.ha C.hn C.ht C.hm) I.kIn J h1 e (fun z => nomatch z) fun tk => ⟨.bl b, H, I.kept (t' := tk) fun _ _ z => z, rfl, q⟩
/-- the suite: if isinstance(e, (..)): return False; return isinstance(e, S) and isinstance(e, V) -/
def tSuite (K : PySem.W.Frag) (i : Nat) (tt : TA) (c1 c2 : V) : Addr → Value → Option Addr → TS := fun a cls d =>
  tSeq (tIfS (tTruth K (tCB (rIsX K a cls d) (tCons (tVar i) (tCons (tTup tt) tNil)))) (tRet (tC (.bl false))) tNext)
    (tRet (tAndV (tCB (rIsX K a cls d) (tCons (tVar i) (tCons (tC c1) tNil))) (tCB (rIsX K a cls d) (tCons (tVar i) (tCons (tC c2) tNil)))))
def tRef (K : PySem.W.Frag) (sp : Sp) (i : Nat) (Cx : Addr) (ta tt : TA) (c1 c2 : V) : TS := fun D σ H =>
  (fun W => tDrop (tCallS sp (WE W) ta)) (wAs K (.ref Cx) i (tSuite K i tt c1 c2) (fun _ _ _ _ => False) D) D σ H
/-- a written tuple of classes -/
def tCls : List V → TA
  | [] => tNil
  | v :: vs => tCons (tC v) (tCls vs)
theorem tCls_ok : ∀ (vs : List V) (σ : L2.St) (H : Hp) (Q : List V → Hp → Prop), Q vs H → tCls vs σ H Q
  | [], _, _, _, q => q
  | v :: vs, σ, H, Q, q => tCls_ok vs σ H (fun xs H2 => Q (v :: xs) H2) q
theorem sd_ref {K : PySem.W.Frag} {B0 B : Hp} {ρ : Rho} {ta : TA} {ds : List PyData} {n i : Nat} {F : List PyData → Res → Prop} {P : Out → Prop} {C Cx : Addr} {cs : List V} {us : List Value} {c1 c2 : V} {u1 u2 : Value} (ha : AD K ta ρ ds) (hF : F ds (.xc C)) (hn : ds.length = n)
    (hi : i < ρ.length) (hm : PySem.W.exmOne K (.ref C) (.ref Cx) = some true) (X : ExcC K C) (hcs : Paired ClsV cs us) (hl : cs.length ≤ 1000) (k0 : PySem.W.kitAny K (.ref C) us = some false) (hc1 : ClsV c1 u1) (k1 : PySem.W.kitOne K (.ref C) u1 = some true) (hc2 : ClsV c2 u2) (k2 : PySem.W.kitOne K (.ref C) u2 = some true)
    (k : P (.rt (.bool true))) : SD K B0 B (tRef K (spD K n F) i Cx ta (tCls cs) c1 c2) ρ P := fun G H σ D I b q => by
  show tDrop (tCallS _ _ ta) D σ H
  refine ha G H σ I _ fun vs G2 H2 s hv => ⟨hv.len.trans hn, G2, ds, .xc C, s.gh, hv, hF, fun G3 H3 s3 => ?_⟩
  have sA := s.trans s3
  refine ⟨true, hm, fun _ a hna => ?_, fun z => nomatch z⟩
  have hs : (σ.set i (some (.ref a)))[i]? = some (some (.ref a)) := by rw [List.getElem?_set_self (by rw [I.len]; exact hi)]
  refine ⟨_, hs, tCls_ok cs _ _ _ ⟨Nat.le_trans hl (by decide), fun p hp => ?_⟩⟩
  refine ⟨C, rfl, rfl, X, .inr ⟨p, cs, us, false, rfl, upd_same, hcs, k0, false, rfl, ?_⟩⟩
  show tNext _ _ _
  refine ⟨_, hs, C, rfl, rfl, X, .inl ⟨c1, u1, true, rfl, hc1, k1, true, rfl, ?_⟩⟩
  refine iteT ?_
  refine ⟨_, hs, C, rfl, rfl, X, .inl ⟨c2, u2, true, rfl, hc2, k2, ?_⟩⟩
  exact q _ k (.bl true) G3 _ (b.st.trans (sA.trans (Step.allocO s3.gh hp))) (.bl true)
end Rt

namespace Rt
open PySem PySem.Spec PyProof.Rows L2 Evl
/-! ### the mathematics -/
theorem natAbs_fmod_lt (a : Int) {b : Int} (hb : b ≠ 0) : (a.fmod b).natAbs < b.natAbs := by
  rw [Int.fmod_eq_emod]
  have h1 := Int.emod_nonneg a hb
  have h2 := Int.emod_lt a hb
  by_cases h : 0 ≤ b ∨ b ∣ a
  · rw [if_pos h]; omega
  · rw [if_neg h]
    have h3 : ¬ 0 ≤ b := fun z => h (.inl z)
    have h4 : a % b ≠ 0 := fun z => h (.inr (Int.dvd_of_emod_eq_zero z))
    omega
theorem gcd_fmod (a b : Int) : Int.gcd b (a.fmod b) = Int.gcd a b := by
  rw [Int.fmod_def, Int.mul_comm b, Int.gcd_sub_mul_right_right, Int.gcd_comm]
/-- the part that a is of b, by its greatest common divisor with the sign of b -/
def partS (a b : Int) : Int := if b < 0 then -(Int.gcd a b : Int) else (Int.gcd a b : Int)
def partV (a b : Int) : Int × Int := (a.fdiv (partS a b), b.fdiv (partS a b))
theorem gcd_pos {a b : Int} (hb : b ≠ 0) : 0 < Int.gcd a b := Int.gcd_pos_of_ne_zero_right a hb
theorem partS_ne {a b : Int} (hb : b ≠ 0) : partS a b ≠ 0 := by
  have := gcd_pos (a := a) hb
  unfold partS; split <;> omega
theorem partS_abs (a b : Int) : (partS a b).natAbs = Int.gcd a b := by unfold partS; split <;> omega
theorem partS_le {a b : Int} (hb : b ≠ 0) : (partS a b).natAbs ≤ b.natAbs := by
  rw [partS_abs]; exact Nat.le_of_dvd (by omega) (Nat.gcd_dvd_right _ _)
theorem partS_dl (a b : Int) : partS a b ∣ a := by
  unfold partS; split
  · exact Int.neg_dvd.mpr (Int.gcd_dvd_left a b)
  · exact Int.gcd_dvd_left a b
theorem partS_dr (a b : Int) : partS a b ∣ b := by
  unfold partS; split
  · exact Int.neg_dvd.mpr (Int.gcd_dvd_right a b)
  · exact Int.gcd_dvd_right a b
theorem fdiv_mul_of_dvd {a s : Int} (h : s ∣ a) : s * a.fdiv s = a := by
  rw [Int.fdiv_eq_ediv_of_dvd h, Int.mul_ediv_cancel' h]
theorem natAbs_fdiv_le {a s : Int} (h : s ∣ a) (hs : s ≠ 0) : (a.fdiv s).natAbs ≤ a.natAbs := by
  have e := congrArg Int.natAbs (fdiv_mul_of_dvd h)
  rw [Int.natAbs_mul] at e
  have : 1 ≤ s.natAbs := by omega
  calc (a.fdiv s).natAbs = 1 * (a.fdiv s).natAbs := (Nat.one_mul _).symm
    _ ≤ s.natAbs * (a.fdiv s).natAbs := Nat.mul_le_mul_right _ this
    _ = a.natAbs := e
theorem partV_pos {a b : Int} (hb : b ≠ 0) : 0 < (partV a b).2 := by
  have e := fdiv_mul_of_dvd (partS_dr a b)
  have s0 := partS_ne (a := a) hb
  have g := gcd_pos (a := a) hb
  show 0 < b.fdiv (partS a b)
  by_cases h : b < 0
  · have s1 : partS a b < 0 := by unfold partS; rw [if_pos h]; omega
    by_cases q : 0 < b.fdiv (partS a b)
    · exact q
    · have := Int.mul_nonneg_of_nonpos_of_nonpos (Int.le_of_lt s1) (Int.not_lt.mp q)
      omega
  · have s1 : 0 < partS a b := by unfold partS; rw [if_neg h]; omega
    by_cases q : 0 < b.fdiv (partS a b)
    · exact q
    · have := Int.mul_nonpos_of_nonneg_of_nonpos (Int.le_of_lt s1) (Int.not_lt.mp q)
      omega
theorem partV_cross {a b : Int} (hb : b ≠ 0) : (partV a b).1 * b = a * (partV a b).2 := by
  have e1 := fdiv_mul_of_dvd (partS_dl a b)
  have e2 := fdiv_mul_of_dvd (partS_dr a b)
  show a.fdiv (partS a b) * b = a * b.fdiv (partS a b)
  generalize a.fdiv (partS a b) = x at e1 ⊢
  generalize b.fdiv (partS a b) = y at e2 ⊢
  calc x * b = x * (partS a b * y) := by rw [e2]
    _ = (partS a b * x) * y := by rw [← Int.mul_assoc, Int.mul_comm x]
    _ = a * y := by rw [e1]
theorem partV_gcd {a b : Int} (hb : b ≠ 0) : Int.gcd (partV a b).1 (partV a b).2 = 1 := by
  have e1 := fdiv_mul_of_dvd (partS_dl a b)
  have e2 := fdiv_mul_of_dvd (partS_dr a b)
  show Int.gcd (a.fdiv (partS a b)) (b.fdiv (partS a b)) = 1
  have h := Int.gcd_mul_left (partS a b) (a.fdiv (partS a b)) (b.fdiv (partS a b))
  rw [e1, e2, partS_abs] at h
  have g := gcd_pos (a := a) hb
  exact Nat.eq_of_mul_eq_mul_left g (by rw [Nat.mul_one]; exact h.symm)
theorem partV_le {a b : Int} (hb : b ≠ 0) : (partV a b).1.natAbs ≤ a.natAbs ∧ (partV a b).2.natAbs ≤ b.natAbs := ⟨natAbs_fdiv_le (partS_dl a b) (partS_ne hb), natAbs_fdiv_le (partS_dr a b) (partS_ne hb)⟩
def pD (x : Int × Int) : PyData := .tuple [.int x.1, .int x.2]
/-- below 2 ^ n either way -/
def Lt2 (n : Nat) (a : Int) : Prop := a.natAbs < 2 ^ n
theorem Lt2.zero {n : Nat} : Lt2 n 0 := Nat.pow_pos (by decide)
theorem Lt2.mono {n m : Nat} {a : Int} (h : Lt2 n a) (k : n ≤ m) : Lt2 m a := Nat.lt_of_lt_of_le h (Nat.pow_le_pow_right (by decide) k)
theorem Lt2.mul {n m : Nat} {a b : Int} (h : Lt2 n a) (k : Lt2 m b) : Lt2 (n + m) (a * b) := by
  unfold Lt2
  rw [Int.natAbs_mul, Nat.pow_add]
  exact Nat.mul_lt_mul'' h k
theorem Lt2.add {n : Nat} {a b : Int} (h : Lt2 n a) (k : Lt2 n b) : Lt2 (n + 1) (a + b) := by
  unfold Lt2 at *
  have := Int.natAbs_add_le a b
  rw [Nat.pow_succ]; omega
theorem Lt2.sub {n : Nat} {a b : Int} (h : Lt2 n a) (k : Lt2 n b) : Lt2 (n + 1) (a - b) := by
  unfold Lt2 at *
  have := Int.natAbs_sub_le a b
  rw [Nat.pow_succ]; omega
theorem Lt2.of_le {n : Nat} {a b : Int} (h : Lt2 n a) (k : b.natAbs ≤ a.natAbs) : Lt2 n b := Nat.lt_of_le_of_lt k h
theorem Lt2.cm {n m : Nat} {a b : Int} (h : Lt2 n a) (k : Lt2 m b) (z : n + m + 2 ≤ 134217728) : CMulX a b := cmulX_of (h.mono (Nat.le_succ n)) (k.mono (Nat.le_succ m)) (Nat.succ_pos _) (Nat.succ_pos _) (by omega)
theorem Lt2.cd {n : Nat} {a b : Int} (hb : b ≠ 0) (k : Lt2 n b) (z : n < 9000) : CDivQ a b := cdivQ_of hb (k.mono (Nat.le_succ n)) (Nat.succ_pos _) (by omega)
theorem cellI_at {ns : List Int} {k : Int} (h0 : 0 ≤ k) (h : k < ns.length) : atI (ns.map PyData.int) k = some (.int (ns.getD k.toNat 0)) := by
  have h1 : k.toNat < ns.length := by omega
  refine atI_mk (k := k.toNat) ?_ ?_
  · unfold ixN
    rw [if_pos h0, List.length_map, if_pos (by omega)]
  · rw [List.getElem?_map, List.getElem?_eq_getElem h1]
    show some (PyData.int _) = some (PyData.int _)
    rw [List.getD_eq_getElem?_getD, List.getElem?_eq_getElem h1]; rfl
theorem cellI_out {ns : List Int} {k : Int} (h0 : 0 ≤ k) (h : ¬ k < ns.length) : ns.getD k.toNat 0 = 0 := by
  rw [List.getD_eq_getElem?_getD, List.getElem?_eq_none_iff.mpr (by omega)]; rfl
theorem Lt2.of_lt {n : Nat} {a : Int} (h : a.natAbs < 2 ^ n) : Lt2 n a := h
theorem fm_lt (a : Int) {m : Int} (h : 0 < m) {n : Nat} (k : m.natAbs < 2 ^ n) : Lt2 n (a.fmod m) := by
  have h1 := Int.fmod_nonneg_of_pos a h
  have h2 := Int.fmod_lt_of_pos a h
  unfold Lt2; omega
theorem fm2 (a : Int) : a.fmod 2 = 0 ∨ a.fmod 2 = 1 := by
  have h1 := Int.fmod_nonneg_of_pos a (b := 2) (by decide)
  have h2 := Int.fmod_lt_of_pos a (b := 2) (by decide)
  omega
theorem partS_of_pos {a b : Int} (hb : 0 < b) : partS a b = (Int.gcd a b : Int) := by unfold partS; rw [if_neg (by omega)]
theorem shaped_pD (x : Int × Int) : SeqAt.shaped (pD x) = true := rfl
theorem eqv_pD (x y : Int × Int) : PyData.eqv (pD x) (pD y) = decide (x = y) := by
  obtain ⟨a, b⟩ := x
  obtain ⟨c, d⟩ := y
  show ((a == c) && ((b == d) && true)) = _
  rw [Bool.and_true]
  by_cases h1 : a = c <;> by_cases h2 : b = d <;> simp [h1, h2]
/-- rows -/
def rD (xs : List Int) : List PyData := xs.map .int
theorem rD_len (xs : List Int) : (rD xs).length = xs.length := List.length_map _
theorem rD_get {xs : List Int} {i : Nat} {d : PyData} (h : (rD xs)[i]? = some d) : ∃ a, xs[i]? = some a ∧ d = .int a := by
  unfold rD at h
  rw [List.getElem?_map] at h
  cases q : xs[i]? with
  | none => rw [q] at h; cases h
  | some a => rw [q] at h; cases h; exact ⟨a, rfl, rfl⟩
theorem rD_at {xs : List Int} {k : Int} (h0 : 0 ≤ k) (h : k < xs.length) : atI (rD xs) k = some (.int (xs.getD k.toNat 0)) := cellI_at h0 h
theorem rD_last {xs : List Int} (h : xs ≠ []) : atI (rD xs) (-1) = some (.int (xs.getLast h)) := by
  have hl : 0 < xs.length := List.length_pos_iff.mpr h
  refine atI_mk (k := xs.length - 1) ?_ ?_
  · unfold ixN
    rw [if_neg (by omega), rD_len, if_pos (by omega)]
    congr 1; omega
  · unfold rD
    rw [List.getElem?_map, ← List.getLast?_eq_getElem?, List.getLast?_eq_some_getLast h]; rfl
theorem canLayAll_rD : ∀ xs : List Int, PyData.canLayAll0 (rD xs) = true
  | [] => rfl
  | _ :: xs => by show (true && PyData.canLayAll0 (rD xs)) = true; rw [canLayAll_rD xs]; rfl
theorem depthAll_rD : ∀ xs : List Int, PyData.depthAll (rD xs) = 0
  | [] => rfl
  | _ :: xs => by show max 0 (PyData.depthAll (rD xs)) = 0; rw [depthAll_rD xs]; rfl
theorem shaped_l (xs : List Int) : SeqAt.shaped (.list (rD xs)) = true := by
  show (PyData.canLayAll0 (rD xs) && decide (PyData.depthAll (rD xs) + 1 ≤ 64)) = true
  rw [canLayAll_rD, depthAll_rD]; rfl
theorem shaped_t (xs : List Int) : SeqAt.shaped (.tuple (rD xs)) = true := shaped_l xs
theorem eqvAll_rD : ∀ xs ys : List Int, PyData.eqvAll (rD xs) (rD ys) = decide (xs = ys)
  | [], [] => rfl
  | [], _ :: _ => rfl
  | _ :: _, [] => rfl
  | x :: xs, y :: ys => by
    show ((x == y) && PyData.eqvAll (rD xs) (rD ys)) = _
    rw [eqvAll_rD xs ys]
    by_cases h1 : x = y <;> by_cases h2 : xs = ys <;> simp [h1, h2]
theorem eqv_l (xs ys : List Int) : PyData.eqv (.list (rD xs)) (.list (rD ys)) = decide (xs = ys) := eqvAll_rD xs ys
theorem cut_rD (xs : List Int) (a b : Nat) : cutD (rD xs) (some (a : Int)) (some (b : Int)) = rD ((xs.drop a).take (b - a)) := by
  unfold cutD
  rw [HT.sIx_nat, HT.sIx_nat, rD_len]
  unfold rD
  rw [← List.map_drop, ← List.map_take]
  congr 1
  apply List.ext_getElem?
  intro i
  rw [List.getElem?_take, List.getElem?_take, List.getElem?_drop, List.getElem?_drop]
  by_cases h : a ≤ xs.length
  · rw [Nat.min_eq_left h]
    by_cases h2 : b ≤ xs.length
    · rw [Nat.min_eq_left h2]
    · rw [Nat.min_eq_right (by omega)]
      by_cases h3 : a + i < xs.length
      · split <;> split <;> first | rfl | (exfalso; omega)
      · rw [List.getElem?_eq_none_iff.mpr (by omega)]
        split <;> split <;> rfl
  · rw [Nat.min_eq_right (show xs.length ≤ a by omega)]
    rw [List.getElem?_eq_none_iff.mpr (show xs.length ≤ xs.length + i by omega), List.getElem?_eq_none_iff.mpr (show xs.length ≤ a + i by omega)]
    split <;> split <;> rfl
theorem cut_rD_lo (xs : List Int) (a : Nat) : cutD (rD xs) (some (a : Int)) none = rD (xs.drop a) := by
  unfold cutD
  rw [HT.sIx_nat, HT.sIx_none, rD_len]
  unfold rD
  rw [← List.map_drop, ← List.map_take]
  congr 1
  by_cases h : a ≤ xs.length
  · rw [Nat.min_eq_left h, ← List.length_drop, List.take_length]
  · rw [Nat.min_eq_right (by omega), List.drop_eq_nil_of_le (Nat.le_refl _), List.drop_eq_nil_of_le (by omega), List.take_nil]
theorem cut_rD_hi (xs : List Int) (b : Nat) : cutD (rD xs) none (some (b : Int)) = rD (xs.take b) := by
  unfold cutD
  rw [HT.sIx_nat, HT.sIx_none, rD_len]
  unfold rD
  rw [List.drop_zero, ← List.map_take, Nat.sub_zero]
  congr 1
  by_cases h : b ≤ xs.length
  · rw [Nat.min_eq_left h]
  · rw [Nat.min_eq_right (by omega), List.take_length, List.take_of_length_le (by omega)]
theorem cut_rD_m1 (xs : List Int) : cutD (rD xs) none (some (-1)) = rD xs.dropLast := by
  unfold cutD
  have e : HT.sIx xs.length xs.length (some (-1)) = ((-1) + (xs.length : Int)).toNat := rfl
  rw [HT.sIx_none, rD_len, e, List.drop_zero, Nat.sub_zero, List.dropLast_eq_take]
  unfold rD
  rw [← List.map_take]
  congr 2; omega
theorem cut_I (xs : List Int) {a b : Int} (ha : 0 ≤ a) (hb : 0 ≤ b) : cutD (rD xs) (some a) (some b) = rD ((xs.drop a.toNat).take (b.toNat - a.toNat)) := by
  have := cut_rD xs a.toNat b.toNat
  rwa [Int.toNat_of_nonneg ha, Int.toNat_of_nonneg hb] at this
theorem cut_lo (xs : List Int) {a : Int} (ha : 0 ≤ a) : cutD (rD xs) (some a) none = rD (xs.drop a.toNat) := by
  have := cut_rD_lo xs a.toNat
  rwa [Int.toNat_of_nonneg ha] at this
theorem cut_hi (xs : List Int) {b : Int} (hb : 0 ≤ b) : cutD (rD xs) none (some b) = rD (xs.take b.toNat) := by
  have := cut_rD_hi xs b.toNat
  rwa [Int.toNat_of_nonneg hb] at this
theorem ed_lenR {K : PySem.W.Frag} {ρ : Rho} {ta : TE} {d : PyData} {xs : List Int} (ha : ED K ta ρ d) (s : SeqD d (rD xs)) : ED K (tLen K ta) ρ (.int xs.length) := (ed_len ha s).cast (by rw [rD_len])
theorem ed_lenRO {K : PySem.W.Frag} {ρ : Rho} {k : Nat} {xs : List Int} (h : ρ[k]? = some (some (.own (rD xs)))) : ED K (tLen K (tVar k)) ρ (.int xs.length) := (ed_lenO h).cast (by rw [rD_len])
theorem map_range {α : Type} {f : Nat → α} {xs : List Int} {g : Int → α} (h : ∀ i a, xs[i]? = some a → f i = g a) : (List.range xs.length).map f = xs.map g := by
  apply List.ext_getElem?
  intro i
  rw [List.getElem?_map, List.getElem?_map]
  by_cases hi : i < xs.length
  · rw [List.getElem?_range hi, List.getElem?_eq_getElem hi]
    show some (f i) = some (g _)
    rw [h i _ (List.getElem?_eq_getElem hi)]
  · rw [List.getElem?_eq_none_iff.mpr (by rw [List.length_range]; omega), List.getElem?_eq_none_iff.mpr (by omega)]; rfl
/-- the sign of a number -/
def sgn (a : Int) : Int := if a < 0 then -1 else if 0 < a then 1 else 0
/-- the row's value at t by b, times b to the power of one less than its length; and b to the power of its length -/
def hor (t b : Int) : List Int → Int × Int
  | [] => (0, 1)
  | x :: xs => ((hor t b xs).1 * t + x * (hor t b xs).2, (hor t b xs).2 * b)
theorem hor_lt {n m : Nat} {t b : Int} (ht : Lt2 m t) (hb : Lt2 m b) (hm : 1 ≤ m) : ∀ {xs : List Int}, (∀ x ∈ xs, Lt2 n x) → Lt2 (n + xs.length * (m + 1)) (hor t b xs).1 ∧ Lt2 (xs.length * m + 1) (hor t b xs).2
  | [], _ => ⟨Lt2.zero, Lt2.of_lt (by show 1 < 2 ^ (0 * m + 1); rw [Nat.zero_mul]; decide)⟩
  | x :: xs, h => by
    obtain ⟨h1, h2⟩ := hor_lt ht hb hm (xs := xs) fun y hy => h y (List.mem_cons_of_mem _ hy)
    have hx := h x List.mem_cons_self
    have e1 : (xs.length + 1) * (m + 1) = xs.length * (m + 1) + (m + 1) := Nat.succ_mul _ _
    have e2 : (xs.length + 1) * m = xs.length * m + m := Nat.succ_mul _ _
    have e3 : xs.length * (m + 1) = xs.length * m + xs.length := Nat.mul_succ _ _
    refine ⟨?_, ?_⟩
    · have a1 : Lt2 (n + xs.length * (m + 1) + m) ((hor t b xs).1 * t) := h1.mul ht
      have a2 : Lt2 (n + xs.length * (m + 1) + m) (x * (hor t b xs).2) := (hx.mul h2).mono (by omega)
      show Lt2 (n + (xs.length + 1) * (m + 1)) _
      exact (a1.add a2).mono (by omega)
    · show Lt2 ((xs.length + 1) * m + 1) _
      exact (h2.mul hb).mono (by omega)
end Rt

namespace Rt
open PySem PySem.Spec PyProof.Rows L2 Evl
/-! the steps that need no thought; «walk_at "ev"» goes on till it is stuck -/
local macro_rules | `(tactic| walk_at "rt1") => `(tactic| first
  | ((with_reducible show _ = true → ED _ _ _ _); intro _) | ((with_reducible show _ = false → ED _ _ _ _); intro _) | ((with_reducible show _ = true → TD _ _ _ _); intro _) | ((with_reducible show _ = false → TD _ _ _ _); intro _)
  | with_reducible exact ed_int | with_reducible exact ed_bl | with_reducible exact ed_non | with_reducible exact ad_nil | with_reducible exact od_none | with_reducible exact td_yes
  | ((with_reducible apply ed_var); exact rfl)
  | (with_reducible apply ad_cons)
  | (with_reducible apply td_test) | (with_reducible apply td_truth) | (with_reducible apply td_not) | (with_reducible apply td_and) | (with_reducible apply td_or)
  | (with_reducible apply ed_add) | (with_reducible apply ed_sub) | (with_reducible apply ed_mul) | (with_reducible apply ed_mod) | (with_reducible apply ed_fdivP) | (with_reducible apply ed_pow) | (with_reducible apply ed_neg)
  | (with_reducible apply ed_lt) | (with_reducible apply ed_le) | (with_reducible apply ed_gt) | (with_reducible apply ed_ge)
  | (with_reducible apply ed_eqD) | (with_reducible apply ed_neD)
  | (with_reducible apply ed_ix) | (with_reducible apply ed_len) | (with_reducible apply ed_abs) | (with_reducible apply ed_gcd) | (with_reducible apply ed_isi)
  | (with_reducible apply ed_tup) | (with_reducible apply ed_tuple) | (with_reducible apply ed_andV) | (with_reducible apply ed_orV) | (with_reducible apply ed_notV)
  | (with_reducible apply od_some)
  | (with_reducible apply ef_lst) | (with_reducible apply ef_list) | (with_reducible apply ef_sl) | (with_reducible apply ef_cat)
  | (with_reducible apply EF.ed; with_reducible apply ef_lst) | (with_reducible apply EF.ed; with_reducible apply ef_list) | (with_reducible apply EF.ed; with_reducible apply ef_sl) | (with_reducible apply EF.ed; with_reducible apply ef_cat)
  | (with_reducible apply ed_call)
  | ((with_reducible show SeqD _ _); first | exact SeqD.l _ | exact SeqD.t _ | assumption)
  | ((with_reducible show Truth _ _); first | exact Truth.bool _ | exact Truth.int _ | exact Truth.l _ | exact Truth.t _)
  | ((with_reducible show SeqAt.shaped _ = true); exact rfl)
  | ((with_reducible show atI _ _ = some _); first | exact rfl | assumption)
  | ((with_reducible show kitB _ _ = some _); first | exact rfl | decide +kernel)
  | ((with_reducible show List.length _ = _); rfl)
  | ((with_reducible show List.length _ ≤ 100000); first | exact Nat.le_of_ble_eq_true rfl | (simp; done) | (simp; omega)))
local macro_rules | `(tactic| walk_at "ev") => `(tactic| repeat' walk_at "rt1")
/-! ### the promises -/
def F__law_whole (ds : List PyData) (r : Res) : Prop := ∃ a : Int, ds = [.int a] ∧ r = .rt (.bool true)
def F__law_cell_at (ds : List PyData) (r : Res) : Prop := ∃ (ns : List Int) (k : Int), ds = [.list (rD ns), .int k] ∧ 0 ≤ k ∧ r = .rt (.int (ns.getD k.toNat 0))
def F__law_divisor (ds : List PyData) (r : Res) : Prop := ∃ a b : Int, ds = [.int a, .int b] ∧ r = .rt (.int (Int.gcd a b))
def F__law_part (ds : List PyData) (r : Res) : Prop := ∃ a b : Int, ds = [.int a, .int b] ∧ b ≠ 0 ∧ Lt2 8000 b ∧ r = .rt (pD (partV a b))
def F_sign (ds : List PyData) (r : Res) : Prop := ∃ a : Int, ds = [.int a] ∧ r = .rt (.int (sgn a))
def F_sign_at (ds : List PyData) (r : Res) : Prop := ∃ (d : PyData) (xs : List Int) (t b : Int) (n m : Nat), ds = [d, pD (t, b)] ∧ SeqD d (rD xs) ∧ (∀ x ∈ xs, Lt2 n x) ∧ Lt2 m t ∧ Lt2 m b ∧ 1 ≤ m ∧ n + (xs.length + 2) * (m + 1) ≤ 100000000 ∧ r = .rt (.int (sgn (hor t b xs).1))
abbrev sp__law_whole (K : PySem.W.Frag) : Sp := spD K 1 F__law_whole
abbrev sp__law_cell_at (K : PySem.W.Frag) : Sp := spD K 2 F__law_cell_at
abbrev sp__law_divisor (K : PySem.W.Frag) : Sp := spD K 2 F__law_divisor
abbrev sp__law_part (K : PySem.W.Frag) : Sp := spD K 2 F__law_part
abbrev sp_sign (K : PySem.W.Frag) : Sp := spD K 1 F_sign
abbrev sp_sign_at (K : PySem.W.Frag) : Sp := spD K 2 F_sign_at
def t__law_whole (K : PySem.W.Frag) : TS := (tRet (tAndV (tCB (rIsi K) (tCons (tVar 0) (tCons (tC (.ty "int")) tNil))) (tNotV (tCB (rIsi K) (tCons (tVar 0) (tCons (tC (.ty "bool")) tNil))))))
abbrev N__law_whole : List Str := ["_law_found"]
def t__law_cell_at (K : PySem.W.Frag) : TS := (tSeq (tIfS (tTest (tOp (rI0 fun i j => .bl (decide (i < j))) (tVar 1) (tLen K (tVar 0)))) (tRet (tOp (rIx K) (tVar 0) (tVar 1))) tNext)
  (tRet (tC (.int 0))))
abbrev N__law_cell_at : List Str := ["_law_script", "_law_k"]
def t__law_divisor (K : PySem.W.Frag) : TS := (tSeq (tWhile (tTest (tOp (rNeD K) (tVar 1) (tC (.int 0)))) (tSeq (tAsg (tOp (rI (fun _ j => j ≠ 0) fun i j => .int (i.fmod j)) (tVar 0) (tVar 1)) (gName 2))
  (tSeq (tAsg (tVar 1) (gName 0))
  (tAsg (tVar 2) (gName 1)))))
  (tRet (tCB rAbs (tCons (tVar 0) tNil))))
abbrev N__law_divisor : List Str := ["_law_one", "_law_other", "_law_over"]
def t__law_part (K : PySem.W.Frag) : TS := (tSeq (tAsg (tCall (sp__law_divisor K) [] E0 (tCons (tVar 0) (tCons (tVar 1) tNil))) (gName 2))
  (tSeq (tIfS (tTest (tOp (rI0 fun i j => .bl (decide (i < j))) (tVar 1) (tC (.int 0)))) (tAsg (tOp (rI0 fun i j => .int (i - j)) (tC (.int 0)) (tVar 2)) (gName 2)) tNext)
  (tRet (tTup (tCons (tOp (rI CDivQ fun i j => .int (i.fdiv j)) (tVar 0) (tVar 2)) (tCons (tOp (rI CDivQ fun i j => .int (i.fdiv j)) (tVar 1) (tVar 2)) tNil))))))
abbrev N__law_part : List Str := ["_law_top", "_law_bottom", "_law_by"]
def t_sign (K : PySem.W.Frag) : TS := (tSeq (tIfS (tTest (tOp (rI0 fun i j => .bl (decide (i < j))) (tVar 0) (tC (.int 0)))) (tRet (tUn (rU fun i => .int (-i)) (tC (.int 1)))) tNext)
  (tSeq (tIfS (tTest (tOp (rI0 fun i j => .bl (decide (j < i))) (tVar 0) (tC (.int 0)))) (tRet (tC (.int 1))) tNext)
  (tRet (tC (.int 0)))))
abbrev N_sign : List Str := ["number"]
def t_sign_at (K : PySem.W.Frag) : TS := (tSeq (tAsg (tVar 1) (gTup K 2 (gCons (gName 2) (gCons (gName 3) gNil))))
  (tSeq (tAsg (tC (.int 0)) (gName 4))
  (tSeq (tAsg (tC (.int 1)) (gName 5))
  (tSeq (tFor (RT.iRevA K (tVar 0)) (gName 6) (tSeq (tAsg (tOp (rI0 fun i j => .int (i + j)) (tOp (rI CMulX fun i j => .int (i * j)) (tVar 4) (tVar 2)) (tOp (rI CMulX fun i j => .int (i * j)) (tVar 6) (tVar 5))) (gName 4))
  (tAsg (tOp (rI CMulX fun i j => .int (i * j)) (tVar 5) (tVar 3)) (gName 5))))
  (tRet (tCall (sp_sign K) [] E0 (tCons (tVar 4) tNil)))))))
abbrev N_sign_at : List Str := ["row", "at", "top", "bottom", "value", "scale", "number"]
section
variable {K : PySem.W.Frag}
theorem pure__law_whole (ds : List PyData) (r : Res) (h : F__law_whole ds r) (B0 B : Hp) : SD K B0 B (t__law_whole K) (startR N__law_whole ds) (fin r) := by
  obtain ⟨a, rfl, rfl⟩ := h
  unfold t__law_whole
  apply sd_ret; (case h => walk_at "ev" )
  rfl
theorem pure__law_cell_at (ds : List PyData) (r : Res) (h : F__law_cell_at ds r) (B0 B : Hp) : SD K B0 B (t__law_cell_at K) (startR N__law_cell_at ds) (fin r) := by
  obtain ⟨ns, k, rfl, h0, rfl⟩ := h
  unfold t__law_cell_at
  apply sd_seq; apply sd_if; (case h => walk_at "ev" ); all_goals intro hb
  · have hb : k < ns.length := by simpa [rD_len] using hb
    apply sd_ret; (case h => walk_at "ev" <;> (first | (exact cellI_at h0 hb) | walk_at "rt1"))
    rfl
  · have hb : ¬ k < ns.length := by simpa [rD_len] using hb
    rw [cellI_out h0 hb]
    refine sd_next ?_
    apply sd_ret; (case h => walk_at "ev" )
    rfl
theorem pure__law_divisor (ds : List PyData) (r : Res) (h : F__law_divisor ds r) (B0 B : Hp) : SD K B0 B (t__law_divisor K) (startR N__law_divisor ds) (fin r) := by
  obtain ⟨a, b, rfl, rfl⟩ := h
  unfold t__law_divisor
  refine sd_seq (sd_while (fun m ρ => ∃ x y : Int, ∃ z, ρ = [some (.d (.int x)), some (.d (.int y)), z] ∧ Int.gcd x y = Int.gcd a b ∧ m = y.natAbs) b.natAbs ⟨a, b, none, rfl, rfl, rfl⟩ ?_)
  rintro m ρ ⟨x, y, z, rfl, hg, rfl⟩
  refine ⟨_, (by walk_at "ev"), fun hb => ?_, fun hb => ?_⟩
  · have hb : y ≠ 0 := by simpa [eqv_int] using hb
    apply sd_seq; apply sd_set; (case h => walk_at "ev" <;> (first | (exact hb) | walk_at "rt1"))
    apply sd_seq; apply sd_set; (case h => walk_at "ev" )
    apply sd_set; (case h => walk_at "ev" )
    exact ⟨_, natAbs_fmod_lt x hb, y, x.fmod y, _, rfl, by rw [gcd_fmod, hg], rfl⟩
  · have hb : y = 0 := by simpa [eqv_int] using hb
    subst hb
    show SD K B0 B _ _ _
    apply sd_ret; (case h => walk_at "ev" )
    show PyData.int _ = PyData.int _
    have e : ((Int.gcd a b : Nat) : Int) = (x.natAbs : Int) := by rw [← hg, Int.gcd_zero_right]
    rw [e]
    congr 1
    split <;> omega
theorem pure__law_part (ds : List PyData) (r : Res) (h : F__law_part ds r) (B0 B : Hp) : SD K B0 B (t__law_part K) (startR N__law_part ds) (fin r) := by
  obtain ⟨a, b, rfl, hb, hz, rfl⟩ := h
  have s0 := partS_ne (a := a) (b := b) hb
  have sz : Lt2 8000 (partS a b) := hz.of_le (partS_le hb)
  unfold t__law_part
  apply sd_seq; apply sd_set; (case h => walk_at "ev" <;> (first | (exact ⟨a, b, rfl, rfl⟩) | walk_at "rt1"))
  apply sd_seq; apply sd_if; (case h => walk_at "ev" ); all_goals intro hb
  · have hc : b < 0 := of_decide_eq_true hb
    have es : partS a b = 0 - (Int.gcd a b : Int) := by unfold partS; rw [if_pos hc]; omega
    apply sd_set; (case h => walk_at "ev" )
    rw [← es]
    apply sd_ret; (case h => walk_at "ev" <;> (first | (exact sz.cd s0 (by decide)) | walk_at "rt1"))
    rfl
  · have hc : ¬ b < 0 := of_decide_eq_false hb
    have es : partS a b = (Int.gcd a b : Int) := by unfold partS; rw [if_neg hc]
    rw [← es]
    refine sd_next ?_
    apply sd_ret; (case h => walk_at "ev" <;> (first | (exact sz.cd s0 (by decide)) | walk_at "rt1"))
    rfl
theorem pure_sign (ds : List PyData) (r : Res) (h : F_sign ds r) (B0 B : Hp) : SD K B0 B (t_sign K) (startR N_sign ds) (fin r) := by
  obtain ⟨a, rfl, rfl⟩ := h
  unfold t_sign sgn
  apply sd_seq; apply sd_if; (case h => walk_at "ev" ); all_goals intro hb
  · have hb : a < 0 := of_decide_eq_true hb
    rw [if_pos hb]
    apply sd_ret; (case h => walk_at "ev" )
    rfl
  · have h1 : ¬ a < 0 := of_decide_eq_false hb
    rw [if_neg h1]
    refine sd_next ?_
    apply sd_seq; apply sd_if; (case h => walk_at "ev" ); all_goals intro hb
    · have hb : 0 < a := of_decide_eq_true hb
      rw [if_pos hb]
      apply sd_ret; (case h => walk_at "ev" )
      rfl
    · have hb : ¬ 0 < a := of_decide_eq_false hb
      rw [if_neg hb]
      refine sd_next ?_
      apply sd_ret; (case h => walk_at "ev" )
      rfl
theorem rev_drop {xs : List Int} {i : Nat} {a : Int} (h : xs.reverse[i]? = some a) : xs.drop (xs.length - (i + 1)) = a :: xs.drop (xs.length - i) := by
  have hi : i < xs.length := by have := (List.getElem?_eq_some_iff.mp h).1; rwa [List.length_reverse] at this
  rw [List.getElem?_reverse hi] at h
  have e : xs.length - (i + 1) = xs.length - 1 - i := by omega
  obtain ⟨hl, ha⟩ := List.getElem?_eq_some_iff.mp h
  rw [e, List.drop_eq_getElem_cons hl, ha]
  congr 2; omega
theorem pure_sign_at (ds : List PyData) (r : Res) (h : F_sign_at ds r) (B0 B : Hp) : SD K B0 B (t_sign_at K) (startR N_sign_at ds) (fin r) := by
  obtain ⟨d, xs, t, b, n, m, rfl, hs, hx, ht, hb, hm, hz, rfl⟩ := h
  unfold t_sign_at
  refine sd_seq (sd_asg (ed_var rfl) (gd_pair (d := .int t) (e := .int b)) ?_)
  apply sd_seq; apply sd_set; (case h => walk_at "ev" )
  apply sd_seq; apply sd_set; (case h => walk_at "ev" )
  refine sd_seq (sd_for (id_revA (ed_var rfl) hs) (fun i ρ => ∃ z, ρ = [some (.d d), some (.d (pD (t, b))), some (.d (.int t)), some (.d (.int b)), some (.d (.int (hor t b (xs.drop (xs.length - i))).1)), some (.d (.int (hor t b (xs.drop (xs.length - i))).2)), z]) ⟨none, ?_⟩ ?_ ?_)
  · rw [Nat.sub_zero, List.drop_length]; rfl
  · rintro i x ρ' hi ⟨z, rfl⟩
    have hi' : (rD xs.reverse)[i]? = some x := by unfold rD; rw [List.map_reverse]; exact hi
    obtain ⟨a, ha, rfl⟩ := rD_get hi'
    have hlt : i < xs.length := by have := (List.getElem?_eq_some_iff.mp ha).1; rwa [List.length_reverse] at this
    refine ⟨_, gd_name, ?_⟩
    have e := rev_drop ha
    have hmem : a ∈ xs := List.mem_reverse.mp (List.mem_of_getElem? ha)
    obtain ⟨b1, b2⟩ := hor_lt (n := n) ht hb hm (xs := xs.drop (xs.length - i)) fun y hy => hx y (List.mem_of_mem_drop hy)
    have hll : (xs.drop (xs.length - i)).length = i := by rw [List.length_drop]; omega
    rw [hll] at b1 b2
    have e1 : i * (m + 1) ≤ xs.length * (m + 1) := Nat.mul_le_mul_right _ (by omega)
    have e2 : i * (m + 1) = i * m + i := Nat.mul_succ _ _
    have e3 : (xs.length + 2) * (m + 1) = xs.length * (m + 1) + 2 * (m + 1) := Nat.add_mul _ _ _
    have ek : hor t b (xs.drop (xs.length - (i + 1))) = ((hor t b (xs.drop (xs.length - i))).1 * t + a * (hor t b (xs.drop (xs.length - i))).2, (hor t b (xs.drop (xs.length - i))).2 * b) := by rw [e]; rfl
    apply sd_seq; apply sd_set; (case h => walk_at "ev" <;> (first | (first | exact b1.cm ht (by omega) | exact (hx a hmem).cm b2 (by omega)) | walk_at "rt1"))
    apply sd_set; (case h => walk_at "ev" <;> (first | (exact b2.cm hb (by omega)) | walk_at "rt1"))
    exact ⟨_, by rw [ek]; rfl⟩
  · rintro ρ' ⟨z, rfl⟩
    show SD K B0 B _ _ _
    rw [List.length_reverse, rD_len, Nat.sub_self, List.drop_zero]
    apply sd_ret; (case h => walk_at "ev" <;> (first | (exact ⟨_, rfl, rfl⟩) | walk_at "rt1"))
    rfl
end
end Rt

namespace K03
open PySem PySem.Spec PyProof.Rows L2 Evl Rt
/-! the steps that need no thought; «walk_at "ev"» goes on till it is stuck -/
local macro_rules | `(tactic| walk_at "rt1") => `(tactic| first
  | ((with_reducible show _ = true → ED _ _ _ _); intro _) | ((with_reducible show _ = false → ED _ _ _ _); intro _) | ((with_reducible show _ = true → TD _ _ _ _); intro _) | ((with_reducible show _ = false → TD _ _ _ _); intro _)
  | with_reducible exact ed_int | with_reducible exact ed_bl | with_reducible exact ed_non | with_reducible exact ad_nil | with_reducible exact od_none | with_reducible exact td_yes
  | ((with_reducible apply ed_var); exact rfl)
  | (with_reducible apply ad_cons)
  | (with_reducible apply td_test) | (with_reducible apply td_truth) | (with_reducible apply td_not) | (with_reducible apply td_and) | (with_reducible apply td_or)
  | (with_reducible apply ed_add) | (with_reducible apply ed_sub) | (with_reducible apply ed_mul) | (with_reducible apply ed_mod) | (with_reducible apply ed_fdivP) | (with_reducible apply ed_pow) | (with_reducible apply ed_neg)
  | (with_reducible apply ed_lt) | (with_reducible apply ed_le) | (with_reducible apply ed_gt) | (with_reducible apply ed_ge)
  | (with_reducible apply ed_eqD) | (with_reducible apply ed_neD)
  | (with_reducible apply ed_ix) | (with_reducible apply ed_len) | (with_reducible apply ed_abs) | (with_reducible apply ed_gcd) | (with_reducible apply ed_isi)
  | (with_reducible apply ed_tup) | (with_reducible apply ed_tuple) | (with_reducible apply ed_andV) | (with_reducible apply ed_orV) | (with_reducible apply ed_notV)
  | (with_reducible apply od_some)
  | (with_reducible apply ef_lst) | (with_reducible apply ef_list) | (with_reducible apply ef_sl) | (with_reducible apply ef_cat)
  | (with_reducible apply EF.ed; with_reducible apply ef_lst) | (with_reducible apply EF.ed; with_reducible apply ef_list) | (with_reducible apply EF.ed; with_reducible apply ef_sl) | (with_reducible apply EF.ed; with_reducible apply ef_cat)
  | (with_reducible apply ed_call)
  | ((with_reducible show SeqD _ _); first | exact SeqD.l _ | exact SeqD.t _ | assumption)
  | ((with_reducible show Truth _ _); first | exact Truth.bool _ | exact Truth.int _ | exact Truth.l _ | exact Truth.t _)
  | ((with_reducible show SeqAt.shaped _ = true); exact rfl)
  | ((with_reducible show atI _ _ = some _); first | exact rfl | assumption)
  | ((with_reducible show kitB _ _ = some _); first | exact rfl | decide +kernel)
  | ((with_reducible show List.length _ = _); rfl)
  | ((with_reducible show List.length _ ≤ 100000); first | exact Nat.le_of_ble_eq_true rfl | (simp; done) | (simp; omega)))
local macro_rules | `(tactic| walk_at "ev") => `(tactic| repeat' walk_at "rt1")
/-- powers -/
theorem pow_pos' {b : Int} (h : 0 < b) (n : Nat) : 0 < b ^ n := Int.pow_pos h
/-- the sum of the terms of the first k, each brought to one bottom -/
def term (t b : Int) (xs : List Int) (k : Nat) : Int := xs.getD k 0 * t ^ k * b ^ (xs.length - 1 - k)
def tot (t b : Int) (xs : List Int) : Nat → Int
  | 0 => 0
  | k + 1 => tot t b xs k + term t b xs k
theorem hor_snd (t b : Int) : ∀ xs : List Int, (hor t b xs).2 = b ^ xs.length
  | [] => by simp [hor]
  | x :: xs => by
    show (hor t b xs).2 * b = b ^ (xs.length + 1)
    rw [hor_snd t b xs, Int.pow_succ]
theorem tot_cons (t b x : Int) (xs : List Int) : ∀ k, tot t b (x :: xs) (k + 1) = x * b ^ xs.length + t * tot t b xs k
  | 0 => by
    show 0 + (x :: xs).getD 0 0 * t ^ 0 * b ^ (xs.length + 1 - 1 - 0) = _
    show 0 + x * t ^ 0 * b ^ (xs.length + 1 - 1 - 0) = x * b ^ xs.length + t * 0
    rw [Int.pow_zero, Int.mul_one, Int.mul_zero, Int.zero_add, Int.add_zero]
    rfl
  | k + 1 => by
    show tot t b (x :: xs) (k + 1) + term t b (x :: xs) (k + 1) = _
    rw [tot_cons t b x xs k]
    have e : term t b (x :: xs) (k + 1) = t * term t b xs k := by
      show xs.getD k 0 * t ^ (k + 1) * b ^ (xs.length + 1 - 1 - (k + 1)) = t * (xs.getD k 0 * t ^ k * b ^ (xs.length - 1 - k))
      have e2 : xs.length + 1 - 1 - (k + 1) = xs.length - 1 - k := by omega
      rw [e2, Int.pow_succ]
      generalize xs.getD k 0 = a
      generalize t ^ k = p
      generalize b ^ (xs.length - 1 - k) = q
      rw [Int.mul_comm p t, ← Int.mul_assoc, Int.mul_comm a t, Int.mul_assoc, Int.mul_assoc, Int.mul_assoc]
    rw [e, Int.add_assoc, ← Int.mul_add]; rfl
theorem hor_tot (t b : Int) : ∀ xs : List Int, (hor t b xs).1 = tot t b xs xs.length
  | [] => rfl
  | x :: xs => by
    show (hor t b xs).1 * t + x * (hor t b xs).2 = tot t b (x :: xs) (xs.length + 1)
    rw [tot_cons, hor_tot t b xs, hor_snd, Int.mul_comm t, Int.add_comm]
/-- one term, factor by factor -/
def fac (t b : Int) (k : Nat) (x : Int) : Nat → Int
  | 0 => x
  | j + 1 => fac t b k x j * (if j < k then t else b)
theorem fac_lt {n m : Nat} {t b x : Int} (hx : Lt2 n x) (ht : Lt2 m t) (hb : Lt2 m b) (k : Nat) : ∀ j, Lt2 (n + j * m) (fac t b k x j)
  | 0 => by rw [Nat.zero_mul]; exact hx
  | j + 1 => by
    have e : (j + 1) * m = j * m + m := Nat.succ_mul _ _
    rw [e, ← Nat.add_assoc]
    show Lt2 _ (fac t b k x j * (if j < k then t else b))
    split
    · exact (fac_lt hx ht hb k j).mul ht
    · exact (fac_lt hx ht hb k j).mul hb
theorem fac_eq (t b : Int) (k : Nat) (x : Int) : ∀ j, fac t b k x j = x * t ^ (min j k) * b ^ (j - k)
  | 0 => by rw [Nat.zero_min, Nat.zero_sub, Int.pow_zero, Int.pow_zero, Int.mul_one, Int.mul_one]; rfl
  | j + 1 => by
    show fac t b k x j * (if j < k then t else b) = _
    rw [fac_eq t b k x j]
    by_cases h : j < k
    · rw [if_pos h, Nat.min_eq_left (by omega : j + 1 ≤ k), Nat.min_eq_left (by omega : j ≤ k), show j + 1 - k = 0 by omega, show j - k = 0 by omega, Int.pow_zero, Int.mul_one, Int.mul_one, Int.pow_succ, Int.mul_assoc]
    · rw [if_neg h, Nat.min_eq_right (by omega : k ≤ j + 1), Nat.min_eq_right (by omega : k ≤ j), show j + 1 - k = (j - k) + 1 by omega, Int.pow_succ, Int.mul_assoc]
theorem fac_term {t b : Int} {xs : List Int} {k : Nat} (h : k < xs.length) : fac t b k (xs.getD k 0) (xs.length - 1) = term t b xs k := by
  rw [fac_eq, Nat.min_eq_right (by omega : k ≤ xs.length - 1)]; rfl
def rowN (ns : List Int) : List Int := ((ns.drop 4).take ((ns.getD 0 0).fmod 13).toNat).map fun c => if (ns.getD 1 0).fmod 4 = 1 then c.fmod (2 * 10 ^ 20) - 10 ^ 20 else c.fmod 19 - 9
def atN (ns : List Int) : Int × Int := if ((ns.getD 1 0).fdiv 4).fmod 4 = 1 then partV ((ns.getD 2 0).fmod (2 * 10 ^ 12) - 10 ^ 12) (1 + (ns.getD 3 0).fmod (10 ^ 12)) else partV ((ns.getD 2 0).fmod 41 - 20) (1 + (ns.getD 3 0).fmod 9)
def F__law_row (ds : List PyData) (r : Res) : Prop := ∃ ns : List Int, ns.length ≤ 63 ∧ ds = [.list (rD ns)] ∧ r = .rf (rD (rowN ns))
def F__law_at (ds : List PyData) (r : Res) : Prop := ∃ ns : List Int, ds = [.list (rD ns)] ∧ r = .rt (pD (atN ns))
def F__law_due (ds : List PyData) (r : Res) : Prop := ∃ (xs : List Int) (t b : Int), ds = [.list (rD xs), pD (t, b)] ∧ xs.length ≤ 13 ∧ (∀ x ∈ xs, Lt2 120 x) ∧ Lt2 41 t ∧ Lt2 41 b ∧ 0 < b ∧ r = .rt (.int (sgn (hor t b xs).1))
def F_law (ds : List PyData) (r : Res) : Prop := ∃ ns : List Int, ns.length ≤ 63 ∧ ds = [.list (ns.map .int)] ∧ r = .rt (.bool true)
abbrev sp__law_row (K : PySem.W.Frag) : Sp := spD K 1 F__law_row
abbrev sp__law_at (K : PySem.W.Frag) : Sp := spD K 1 F__law_at
abbrev sp__law_due (K : PySem.W.Frag) : Sp := spD K 2 F__law_due
abbrev sp_law (K : PySem.W.Frag) : Sp := spD K 1 F_law
def t__law_row (K : PySem.W.Frag) : TS := (tSeq (tAsg (tLst tNil) (gName 1))
  (tSeq (tFor (iSeq K (tSl (rSlS K) (tVar 0) (tPart (tC (.int 4))) (tPart (tOp (rI0 fun i j => .int (i + j)) (tC (.int 4)) (tOp (rI (fun _ j => j ≠ 0) fun i j => .int (i.fmod j)) (tCall (sp__law_cell_at K) [] E0 (tCons (tVar 0) (tCons (tC (.int 0)) tNil))) (tC (.int 13))))))) (gName 2) (tIfS (tTest (tOp (rEqD K) (tOp (rI (fun _ j => j ≠ 0) fun i j => .int (i.fmod j)) (tCall (sp__law_cell_at K) [] E0 (tCons (tVar 0) (tCons (tC (.int 1)) tNil))) (tC (.int 4))) (tC (.int 1)))) (tDrop (tBM K "list" rAppend (tVar 1) (tCons (tOp (rI0 fun i j => .int (i - j)) (tOp (rI (fun _ j => j ≠ 0) fun i j => .int (i.fmod j)) (tVar 2) (tOp (rI CMulX fun i j => .int (i * j)) (tC (.int 2)) (tOp (rI CPow fun i j => .int (i ^ j.toNat)) (tC (.int 10)) (tC (.int 20))))) (tOp (rI CPow fun i j => .int (i ^ j.toNat)) (tC (.int 10)) (tC (.int 20)))) tNil))) (tDrop (tBM K "list" rAppend (tVar 1) (tCons (tOp (rI0 fun i j => .int (i - j)) (tOp (rI (fun _ j => j ≠ 0) fun i j => .int (i.fmod j)) (tVar 2) (tC (.int 19))) (tC (.int 9))) tNil)))))
  (tRet (tVar 1))))
def t__law_at (K : PySem.W.Frag) : TS := (tSeq (tIfS (tTest (tOp (rEqD K) (tOp (rI (fun _ j => j ≠ 0) fun i j => .int (i.fmod j)) (tOp (rI CDivQ fun i j => .int (i.fdiv j)) (tCall (sp__law_cell_at K) [] E0 (tCons (tVar 0) (tCons (tC (.int 1)) tNil))) (tC (.int 4))) (tC (.int 4))) (tC (.int 1)))) (tRet (tCall (sp__law_part K) [] E0 (tCons (tOp (rI0 fun i j => .int (i - j)) (tOp (rI (fun _ j => j ≠ 0) fun i j => .int (i.fmod j)) (tCall (sp__law_cell_at K) [] E0 (tCons (tVar 0) (tCons (tC (.int 2)) tNil))) (tOp (rI CMulX fun i j => .int (i * j)) (tC (.int 2)) (tOp (rI CPow fun i j => .int (i ^ j.toNat)) (tC (.int 10)) (tC (.int 12))))) (tOp (rI CPow fun i j => .int (i ^ j.toNat)) (tC (.int 10)) (tC (.int 12)))) (tCons (tOp (rI0 fun i j => .int (i + j)) (tC (.int 1)) (tOp (rI (fun _ j => j ≠ 0) fun i j => .int (i.fmod j)) (tCall (sp__law_cell_at K) [] E0 (tCons (tVar 0) (tCons (tC (.int 3)) tNil))) (tOp (rI CPow fun i j => .int (i ^ j.toNat)) (tC (.int 10)) (tC (.int 12))))) tNil)))) tNext)
  (tRet (tCall (sp__law_part K) [] E0 (tCons (tOp (rI0 fun i j => .int (i - j)) (tOp (rI (fun _ j => j ≠ 0) fun i j => .int (i.fmod j)) (tCall (sp__law_cell_at K) [] E0 (tCons (tVar 0) (tCons (tC (.int 2)) tNil))) (tC (.int 41))) (tC (.int 20))) (tCons (tOp (rI0 fun i j => .int (i + j)) (tC (.int 1)) (tOp (rI (fun _ j => j ≠ 0) fun i j => .int (i.fmod j)) (tCall (sp__law_cell_at K) [] E0 (tCons (tVar 0) (tCons (tC (.int 3)) tNil))) (tC (.int 9)))) tNil)))))
def t__law_due (K : PySem.W.Frag) : TS := (tSeq (tAsg (tC (.int 0)) (gName 2))
  (tSeq (tFor (iRng1 (tCons (tLen K (tVar 0)) tNil)) (gName 3) (tSeq (tAsg (tOp (rIx K) (tVar 0) (tVar 3)) (gName 4))
  (tSeq (tFor (iRng1 (tCons (tOp (rI0 fun i j => .int (i - j)) (tLen K (tVar 0)) (tC (.int 1))) tNil)) (gName 5) (tIfS (tTest (tOp (rI0 fun i j => .bl (decide (i < j))) (tVar 5) (tVar 3))) (tAsg (tOp (rI CMulX fun i j => .int (i * j)) (tVar 4) (tOp (rIx K) (tVar 1) (tC (.int 0)))) (gName 4)) (tAsg (tOp (rI CMulX fun i j => .int (i * j)) (tVar 4) (tOp (rIx K) (tVar 1) (tC (.int 1)))) (gName 4))))
  (tAsg (tOp (rI0 fun i j => .int (i + j)) (tVar 2) (tVar 4)) (gName 2)))))
  (tSeq (tIfS (tTest (tOp (rI0 fun i j => .bl (decide (i < j))) (tVar 2) (tC (.int 0)))) (tRet (tUn (rU fun i => .int (-i)) (tC (.int 1)))) tNext)
  (tRet (tCB rInt1 (tCons (tOp (rI0 fun i j => .bl (decide (j < i))) (tVar 2) (tC (.int 0))) tNil))))))
def t_law (K : PySem.W.Frag) : TS := (tSeq (tAsg (tCall (sp__law_row K) [] E0 (tCons (tVar 0) tNil)) (gName 1))
  (tSeq (tAsg (tCall (sp__law_at K) [] E0 (tCons (tVar 0) tNil)) (gName 2))
  (tSeq (tIfS (tTest (tOp (rEqD K) (tOp (rI (fun _ j => j ≠ 0) fun i j => .int (i.fmod j)) (tOp (rI CDivQ fun i j => .int (i.fdiv j)) (tCall (sp__law_cell_at K) [] E0 (tCons (tVar 0) (tCons (tC (.int 1)) tNil))) (tC (.int 16))) (tC (.int 3))) (tC (.int 1)))) (tSeq (tAsg (tOp (rCatS K) (tLc (iSeq K (tVar 1)) (gName 4) tYes (tOp (rI0 fun i j => .int (i - j)) (tC (.int 0)) (tOp (rI CMulX fun i j => .int (i * j)) (tOp (rIx K) (tVar 2) (tC (.int 0))) (tVar 4))) [4]) (tLst (tCons (tC (.int 0)) tNil))) (gName 1))
  (tFor (iRng2 (tCons (tC (.int 1)) (tCons (tLen K (tVar 1)) tNil))) (gName 3) (tAsg (tOp (rI0 fun i j => .int (i + j)) (tOp (rIx K) (tVar 1) (tVar 3)) (tOp (rI CMulX fun i j => .int (i * j)) (tOp (rIx K) (tVar 2) (tC (.int 1))) (tOp (rIx K) (tOp (rCatS K) (tCall (sp__law_row K) [] E0 (tCons (tVar 0) tNil)) (tLst (tCons (tC (.int 0)) tNil))) (tOp (rI0 fun i j => .int (i - j)) (tVar 3) (tC (.int 1)))))) (gSub (tVar 1) (tVar 3) rSetL)))) tNext)
  (tSeq (tAsg (tCB (rListS K) (tCons (tVar 1) tNil)) (gName 5))
  (tSeq (tAsg (tCall (sp_sign_at K) [] E0 (tCons (tVar 5) (tCons (tVar 2) tNil))) (gName 6))
  (tSeq (tIfS (tOr (tNot (tTruth K (tCall (sp__law_whole K) [] E0 (tCons (tVar 6) tNil)))) (tOr (tTest (tOp (rNeD K) (tVar 6) (tCall (sp__law_due K) [] E0 (tCons (tVar 1) (tCons (tVar 2) tNil))))) (tTest (tOp (rNeD K) (tVar 5) (tVar 1))))) (tRet (tC (.bl false))) tNext)
  (tRet (tOp (rEqD K) (tCall (sp_sign_at K) [] E0 (tCons (tCB (rTupS K) (tCons (tVar 1) tNil)) (tCons (tVar 2) tNil))) (tVar 6)))))))))
abbrev N__law_row : List Str := ["_law_script", "_law_row_here", "_law_cell"]
abbrev N__law_at : List Str := ["_law_script"]
abbrev N__law_due : List Str := ["_law_row_here", "_law_at_here", "_law_total", "_law_k", "_law_one", "_law_j"]
abbrev N_law : List Str := ["_law_script", "_law_row_here", "_law_at_here", "_law_k", "_law_one", "_law_handed", "_law_found"]
structure Txt (K : PySem.W.Frag) (mg : Str → Option Value)  : Prop where
  b_reversed : mg "reversed" = none
  b_int : mg "int" = none
  b_isinstance : mg "isinstance" = none
  b_bool : mg "bool" = none
  b_len : mg "len" = none
  b_abs : mg "abs" = none
  b_range : mg "range" = none
  b_list : mg "list" = none
  b_tuple : mg "tuple" = none
section
variable {K : PySem.W.Frag}
theorem cp20 : CPow 10 20 := ⟨by decide, by decide, by decide⟩
theorem cp12 : CPow 10 12 := ⟨by decide, by decide, by decide⟩
theorem lit {n : Nat} {a : Int} (h : a.natAbs < 2 ^ n := by decide) : Lt2 n a := h
theorem cm20 : CMulX 2 (10 ^ 20) := (lit (n := 2)).cm (lit (n := 80)) (by decide)
theorem cm12 : CMulX 2 (10 ^ 12) := (lit (n := 2)).cm (lit (n := 80)) (by decide)
theorem c4 (x : Int) : CDivQ x 4 := (lit (n := 3)).cd (by decide) (by decide)
theorem c16 (x : Int) : CDivQ x 16 := (lit (n := 5)).cd (by decide) (by decide)
theorem rowN_len (ns : List Int) : (rowN ns).length ≤ 12 := by
  unfold rowN
  rw [List.length_map, List.length_take]
  have := Int.fmod_nonneg_of_pos (ns.getD 0 0) (b := 13) (by decide)
  have := Int.fmod_lt_of_pos (ns.getD 0 0) (b := 13) (by decide)
  omega
theorem rowN_lt (ns : List Int) : ∀ x ∈ rowN ns, Lt2 70 x := by
  intro x hx
  unfold rowN at hx
  obtain ⟨c, _, rfl⟩ := List.mem_map.mp hx
  split
  · exact ((fm_lt c (m := 2 * 10 ^ 20) (by decide) (n := 68) (by decide)).sub (lit (n := 68))).mono (by decide)
  · exact ((fm_lt c (m := 19) (by decide) (n := 68) (by decide)).sub (lit (n := 68))).mono (by decide)
theorem pure__law_row (ds : List PyData) (r : Res) (h : F__law_row ds r) (B0 B : Hp) : SD K B0 B (t__law_row K) (startR N__law_row ds) (fin r) := by
  obtain ⟨ns, hl, rfl, rfl⟩ := h
  have m1 := Int.fmod_nonneg_of_pos (ns.getD 0 0) (b := 13) (by decide)
  unfold t__law_row
  apply sd_seq; apply sd_setF; (case h => walk_at "ev" )
  have it : ID K (iSeq K (tSl (rSlS K) (tVar 0) (tPart (tC (.int 4))) (tPart (tOp (rI0 fun i j => .int (i + j)) (tC (.int 4)) (tOp (rI (fun _ j => j ≠ 0) fun i j => .int (i.fmod j)) (tCall (sp__law_cell_at K) [] E0 (tCons (tVar 0) (tCons (tC (.int 0)) tNil))) (tC (.int 13))))))) [some (.d (.list (rD ns))), some (.own []), none] (rD ((ns.drop 4).take ((ns.getD 0 0).fmod 13).toNat)) := by
    refine id_seq (d := .list _) ?_ (SeqD.l _)
    apply ED.cast; (case h => walk_at "ev" <;> (first | (first | exact ⟨ns, 0, rfl, by decide, rfl⟩ | decide) | walk_at "rt1"))
    have e := cut_I ns (a := 4) (b := 4 + (ns.getD 0 0).fmod 13) (by decide) (by omega)
    rw [show (4 + (ns.getD 0 0).fmod 13).toNat - (4 : Int).toNat = ((ns.getD 0 0).fmod 13).toNat by omega] at e
    show PyData.list _ = PyData.list _
    congr 1
  refine sd_seq (sd_for it (fun i ρ => ∃ z, ρ = [some (.d (.list (rD ns))), some (.own (rD ((rowN ns).take i))), z]) ⟨none, rfl⟩ ?_ ?_)
  · rintro i x ρ' hi ⟨z, rfl⟩
    obtain ⟨c, hc, rfl⟩ := rD_get hi
    have hlt : i < ((ns.drop 4).take ((ns.getD 0 0).fmod 13).toNat).length := (List.getElem?_eq_some_iff.mp hc).1
    have hil : i < (rowN ns).length := by unfold rowN; rw [List.length_map]; exact hlt
    have h12 := rowN_len ns
    refine ⟨_, gd_name, ?_⟩
    have et : ∀ v : Int, (rowN ns)[i]? = some v → (rowN ns).take (i + 1) = (rowN ns).take i ++ [v] := fun v hv => by
      rw [List.take_succ, hv]; rfl
    have ev : (rowN ns)[i]? = some (if (ns.getD 1 0).fmod 4 = 1 then c.fmod (2 * 10 ^ 20) - 10 ^ 20 else c.fmod 19 - 9) := by
      unfold rowN; rw [List.getElem?_map, hc]; rfl
    have hll : (rD ((rowN ns).take i)).length < 100000 := by rw [rD_len, List.length_take]; omega
    have em : ∀ v : Int, (rowN ns)[i]? = some v → rD ((rowN ns).take i) ++ [.int v] = rD ((rowN ns).take (i + 1)) := fun v hv => by rw [et v hv]; unfold rD; rw [List.map_append]; rfl
    apply sd_if; (case h => walk_at "ev" <;> (first | (first | exact ⟨ns, 1, rfl, by decide, rfl⟩ | decide) | walk_at "rt1")); all_goals intro hb
    · have e : (ns.getD 1 0).fmod 4 = 1 := by simpa [eqv_int] using hb
      rw [if_pos e] at ev
      apply sd_app; (case h => rfl); (case he => walk_at "ev" <;> (first | (first | exact cp20 | exact cm20 | decide) | walk_at "rt1"))
      · exact hll
      · exact ⟨_, by rw [← em _ ev]; rfl⟩
    · have e : ¬ (ns.getD 1 0).fmod 4 = 1 := by simpa [eqv_int] using hb
      rw [if_neg e] at ev
      apply sd_app; (case h => rfl); (case he => walk_at "ev" <;> (first | (decide) | walk_at "rt1"))
      · exact hll
      · exact ⟨_, by rw [← em _ ev]; rfl⟩
  · rintro ρ' ⟨z, rfl⟩
    have e : (rD ((ns.drop 4).take ((ns.getD 0 0).fmod 13).toNat)).length = (rowN ns).length := by rw [rD_len]; unfold rowN; rw [List.length_map]
    show SD K B0 B _ _ _
    rw [e, List.take_length]
    exact sd_retO (i := 1) rfl rfl
theorem atN_ok (ns : List Int) : Lt2 41 (atN ns).1 ∧ Lt2 41 (atN ns).2 ∧ 0 < (atN ns).2 := by
  have a0 := Int.fmod_nonneg_of_pos (ns.getD 3 0) (b := 10 ^ 12) (by decide)
  have a1 := Int.fmod_nonneg_of_pos (ns.getD 3 0) (b := 9) (by decide)
  unfold atN
  split
  · have n0 : 1 + (ns.getD 3 0).fmod (10 ^ 12) ≠ 0 := by omega
    have l := partV_le (a := (ns.getD 2 0).fmod (2 * 10 ^ 12) - 10 ^ 12) n0
    have u1 := Int.fmod_lt_of_pos (ns.getD 3 0) (b := 10 ^ 12) (by decide)
    have u2 := Int.fmod_lt_of_pos (ns.getD 2 0) (b := 2 * 10 ^ 12) (by decide)
    have u3 := Int.fmod_nonneg_of_pos (ns.getD 2 0) (b := 2 * 10 ^ 12) (by decide)
    have p : (10 : Int) ^ 12 = 1000000000000 := by decide
    simp only [p] at *
    exact ⟨Lt2.of_le (a := (ns.getD 2 0).fmod (2 * 1000000000000) - 1000000000000) (by unfold Lt2; omega) l.1, Lt2.of_le (a := 1 + (ns.getD 3 0).fmod 1000000000000) (by unfold Lt2; omega) l.2, partV_pos n0⟩
  · have n0 : 1 + (ns.getD 3 0).fmod 9 ≠ 0 := by omega
    have l := partV_le (a := (ns.getD 2 0).fmod 41 - 20) n0
    have u1 := Int.fmod_lt_of_pos (ns.getD 3 0) (b := 9) (by decide)
    have u2 := Int.fmod_lt_of_pos (ns.getD 2 0) (b := 41) (by decide)
    have u3 := Int.fmod_nonneg_of_pos (ns.getD 2 0) (b := 41) (by decide)
    exact ⟨Lt2.of_le (a := (ns.getD 2 0).fmod 41 - 20) (by unfold Lt2; omega) l.1, Lt2.of_le (a := 1 + (ns.getD 3 0).fmod 9) (by unfold Lt2; omega) l.2, partV_pos n0⟩
theorem pure__law_at (ds : List PyData) (r : Res) (h : F__law_at ds r) (B0 B : Hp) : SD K B0 B (t__law_at K) (startR N__law_at ds) (fin r) := by
  obtain ⟨ns, rfl, rfl⟩ := h
  have a0 := Int.fmod_nonneg_of_pos (ns.getD 3 0) (b := 10 ^ 12) (by decide)
  have a1 := Int.fmod_nonneg_of_pos (ns.getD 3 0) (b := 9) (by decide)
  have u1 := Int.fmod_lt_of_pos (ns.getD 3 0) (b := 10 ^ 12) (by decide)
  have u2 := Int.fmod_lt_of_pos (ns.getD 3 0) (b := 9) (by decide)
  have w1 : Lt2 8000 (1 + (ns.getD 3 0).fmod (10 ^ 12)) := (Lt2.add (lit (n := 41)) (fm_lt (ns.getD 3 0) (m := 10 ^ 12) (by decide) (n := 41) (by decide))).mono (by decide)
  have w2 : Lt2 8000 (1 + (ns.getD 3 0).fmod 9) := (Lt2.add (lit (n := 41)) (fm_lt (ns.getD 3 0) (m := 9) (by decide) (n := 41) (by decide))).mono (by decide)
  have n1 : 1 + (ns.getD 3 0).fmod (10 ^ 12) ≠ 0 := by omega
  have n2 : 1 + (ns.getD 3 0).fmod 9 ≠ 0 := by omega
  unfold t__law_at
  apply sd_seq; apply sd_if; (case h => walk_at "ev" <;> (first | (first | exact ⟨ns, 1, rfl, by decide, rfl⟩ | decide | exact c4 _) | walk_at "rt1")); all_goals intro hb
  · have e : ((ns.getD 1 0).fdiv 4).fmod 4 = 1 := by simpa [eqv_int] using hb
    unfold atN
    rw [if_pos e]
    apply sd_ret; (case h => walk_at "ev" <;> (first | (first | exact ⟨ns, 2, rfl, by decide, rfl⟩ | exact ⟨ns, 3, rfl, by decide, rfl⟩ | exact cp12 | exact cm12 | decide | exact ⟨_, _, rfl, n1, w1, rfl⟩) | walk_at "rt1"))
    rfl
  · have e : ¬ ((ns.getD 1 0).fdiv 4).fmod 4 = 1 := by simpa [eqv_int] using hb
    unfold atN
    rw [if_neg e]
    refine sd_next ?_
    apply sd_ret; (case h => walk_at "ev" <;> (first | (first | exact ⟨ns, 2, rfl, by decide, rfl⟩ | exact ⟨ns, 3, rfl, by decide, rfl⟩ | decide | exact ⟨_, _, rfl, n2, w2, rfl⟩) | walk_at "rt1"))
    rfl
theorem ints_get {lo : Int} {n i : Nat} {d : PyData} (h : (intsD lo n)[i]? = some d) : i < n ∧ d = .int (lo + (i : Nat)) := by
  unfold intsD at h
  rw [List.getElem?_map] at h
  by_cases hi : i < n
  · rw [List.getElem?_range hi] at h; cases h; exact ⟨hi, rfl⟩
  · rw [List.getElem?_eq_none_iff.mpr (by rw [List.length_range]; omega)] at h; cases h
theorem ints_len (lo : Int) (n : Nat) : (intsD lo n).length = n := by unfold intsD; rw [List.length_map, List.length_range]
theorem pure__law_due (ds : List PyData) (r : Res) (h : F__law_due ds r) (B0 B : Hp) : SD K B0 B (t__law_due K) (startR N__law_due ds) (fin r) := by
  obtain ⟨xs, t, b, rfl, hl, hx, ht, hb0, hpos, rfl⟩ := h
  unfold t__law_due
  apply sd_seq; apply sd_set; (case h => walk_at "ev" )
  have tl : ∀ k, k ≤ xs.length → tot t b xs k = tot t b xs k := fun _ _ => rfl
  refine sd_seq (sd_for (id_rng1 (n := xs.length) ?_ (by omega) (by omega)) (fun i ρ => ∃ z1 z2 z3, ρ = [some (.d (.list (rD xs))), some (.d (pD (t, b))), some (.d (.int (tot t b xs i))), z1, z2, z3]) ⟨none, none, none, rfl⟩ ?_ ?_)
  · exact ad_cons (ed_lenR (ed_var rfl) (SeqD.l _)) ad_nil
  · rintro k d ρ' hk ⟨z1, z2, z3, rfl⟩
    obtain ⟨hk, rfl⟩ := ints_get hk
    have hk : k < xs.length := by omega
    refine ⟨_, gd_name, ?_⟩
    have ei : atI (rD xs) (0 + (k : Nat)) = some (.int (xs.getD k 0)) := by
      have := rD_at (xs := xs) (k := (k : Int)) (by omega) (by omega)
      rw [Int.zero_add]; rw [Int.toNat_natCast] at this; exact this
    apply sd_seq; apply sd_set; (case h => walk_at "ev" <;> (first | (exact ei) | walk_at "rt1"))
    have hxk : Lt2 120 (xs.getD k 0) := by
      rw [List.getD_eq_getElem?_getD, List.getElem?_eq_getElem hk]
      exact hx _ (List.getElem_mem hk)
    refine sd_seq (sd_for (id_rng1 (n := (xs.length : Int) - 1) ?_ (by omega) (by omega)) (fun j ρ => ∃ z3, ρ = [some (.d (.list (rD xs))), some (.d (pD (t, b))), some (.d (.int (tot t b xs k))), some (.d (.int (0 + (k : Nat)))), some (.d (.int (fac t b k (xs.getD k 0) j))), z3]) ⟨z3, rfl⟩ ?_ ?_)
    · exact ad_cons (ed_sub (ed_lenR (ed_var rfl) (SeqD.l _)) ed_int) ad_nil
    · rintro j d ρ' hj ⟨z3, rfl⟩
      obtain ⟨hj, rfl⟩ := ints_get hj
      refine ⟨_, gd_name, ?_⟩
      have hf := fac_lt hxk ht hb0 k j
      have hjm : j * 41 ≤ 12 * 41 := Nat.mul_le_mul_right _ (by omega)
      unfold pD
      apply sd_if; (case h => walk_at "ev" ); all_goals intro hb
      · have hc : j < k := by have := of_decide_eq_true hb; omega
        apply sd_set; (case h => walk_at "ev" <;> (first | (exact hf.cm ht (by omega)) | walk_at "rt1"))
        refine ⟨some (.d (.int (0 + (j : Nat)))), ?_⟩
        show _ = [_, _, _, _, some (SV.d (.int (fac t b k (xs.getD k 0) j * (if j < k then t else b)))), _]
        rw [if_pos hc]; rfl
      · have hc : ¬ j < k := by have := of_decide_eq_false hb; omega
        apply sd_set; (case h => walk_at "ev" <;> (first | (exact hf.cm hb0 (by omega)) | walk_at "rt1"))
        refine ⟨some (.d (.int (0 + (j : Nat)))), ?_⟩
        show _ = [_, _, _, _, some (SV.d (.int (fac t b k (xs.getD k 0) j * (if j < k then t else b)))), _]
        rw [if_neg hc]; rfl
    · rintro ρ' ⟨z3, rfl⟩
      show SD K B0 B _ _ _
      rw [ints_len, show ((xs.length : Int) - 1).toNat = xs.length - 1 by omega, fac_term hk]
      apply sd_set; (case h => walk_at "ev" )
      exact ⟨_, _, z3, rfl⟩
  · rintro ρ' ⟨z1, z2, z3, rfl⟩
    show SD K B0 B _ _ _
    rw [ints_len, show ((xs.length : Int)).toNat = xs.length by omega, ← hor_tot]
    generalize (hor t b xs).1 = v
    unfold sgn
    apply sd_seq; apply sd_if; (case h => walk_at "ev" ); all_goals intro hb
    · rw [if_pos (of_decide_eq_true hb)]
      apply sd_ret; (case h => walk_at "ev" )
      rfl
    · have h1 : ¬ v < 0 := of_decide_eq_false hb
      rw [if_neg h1]
      refine sd_next ?_
      apply sd_ret
      · exact ed_int1B (by walk_at "ev")
      · show PyData.int _ = PyData.int _
        congr 1
        by_cases z : 0 < v <;> simp [z]
end
section
variable {K : PySem.W.Frag}
theorem lt_getD {n : Nat} {xs : List Int} (h : ∀ x ∈ xs, Lt2 n x) (i : Nat) : Lt2 n (xs.getD i 0) := by
  rw [List.getD_eq_getElem?_getD]
  cases q : xs[i]? with
  | none => exact Lt2.zero
  | some v => exact h v (List.mem_of_getElem? q)
theorem pure_law (ds : List PyData) (r : Res) (h : F_law ds r) (B0 B : Hp) : SD K B0 B (t_law K) (startR N_law ds) (fin r) := by
  obtain ⟨ns, hl, rfl, rfl⟩ := h
  have c1 : ∃ ds r, F__law_row ds r ∧ ds = [.list (rD ns)] ∧ r = .rf (rD (rowN ns)) := ⟨_, _, ⟨ns, hl, rfl, rfl⟩, rfl, rfl⟩
  have frow : F__law_row [.list (rD ns)] (.rf (rD (rowN ns))) := ⟨ns, hl, rfl, rfl⟩
  have frowE : ∀ ρ : Rho, ρ[0]? = some (some (.d (.list (rD ns)))) → EF K (tCall (sp__law_row K) [] E0 (tCons (tVar 0) tNil)) ρ (rD (rowN ns)) := fun ρ h => ef_call (ad_cons (ed_var h) ad_nil) frow rfl
  have xl := rowN_len ns
  have xb := rowN_lt ns
  obtain ⟨t1, t2, t3⟩ := atN_ok ns
  unfold t_law
  refine sd_seq (sd_setF (frowE _ rfl) ?_)
  apply sd_seq; apply sd_set; (case h => walk_at "ev" <;> (first | (exact ⟨ns, rfl, rfl⟩) | walk_at "rt1"))
  generalize rowN ns = xs at *
  generalize hat : atN ns = at' at *
  obtain ⟨t, b⟩ := at'
  dsimp only at t1 t2 t3
  show SD K B0 B _ [some (.d (.list (rD ns))), some (.own (rD xs)), some (.d (pD (t, b))), none, none, none, none] _
  refine sd_frz (i := 1) rfl ?_
  show SD K B0 B _ [some (.d (.list (rD ns))), some (.d (.list (rD xs))), some (.d (pD (t, b))), none, none, none, none] _
  refine sd_seq (SD.imp (P := fun o => ∃ (ys : List Int) (z3 z4 : Option SV), ys.length ≤ 13 ∧ (∀ y ∈ ys, Lt2 120 y) ∧ (o = .nx [some (.d (.list (rD ns))), some (.d (.list (rD ys))), some (.d (pD (t, b))), z3, z4, none, none] ∨ o = .nx [some (.d (.list (rD ns))), some (.own (rD ys)), some (.d (pD (t, b))), z3, z4, none, none])) ?_ ?_)
  · apply sd_if; (case h => walk_at "ev" <;> (first | (first | exact ⟨ns, 1, rfl, by decide, rfl⟩ | decide | exact c16 _) | walk_at "rt1")); all_goals intro hb
    · have lc : EF K (tLc (iSeq K (tVar 1)) (gName 4) tYes (tOp (rI0 fun i j => .int (i - j)) (tC (.int 0)) (tOp (rI CMulX fun i j => .int (i * j)) (tOp (rIx K) (tVar 2) (tC (.int 0))) (tVar 4))) [4]) [some (.d (.list (rD ns))), some (.d (.list (rD xs))), some (.d (pD (t, b))), none, none, none, none] (rD (xs.map fun a => 0 - t * a)) := by
        refine (ef_lc (ds := rD xs) (fun i => .int (0 - t * xs.getD i 0)) (id_seq (ed_var rfl) (SeqD.l _)) (by rw [rD_len]; omega) fun i d hi => ?_).cast ?_
        · obtain ⟨a, ha, rfl⟩ := rD_get hi
          have ea : xs.getD i 0 = a := by rw [List.getD_eq_getElem?_getD, ha]; rfl
          refine ⟨_, gc_name, ?_⟩
          rw [ea]
          have hm := xb a (List.mem_of_getElem? ha)
          unfold pD
          walk_at "ev"
          exact t1.cm hm (by decide)
        · rw [rD_len]
          unfold rD
          rw [List.map_map]
          exact map_range fun i a ha => by rw [List.getD_eq_getElem?_getD, ha]; rfl
      refine sd_seq (sd_setF (ef_cat (EF.ed lc) (EF.ed (ef_lst (ad_cons ed_int ad_nil) (by decide))) (by rw [rD_len, List.length_map]; show xs.length + 1 ≤ 100000; omega)) ?_)
      have e0 : rD (xs.map fun a => 0 - t * a) ++ [PyData.int 0] = rD ((xs.map fun a => 0 - t * a) ++ [0]) := by unfold rD; rw [List.map_append]; rfl
      rw [e0]
      have hy0 : ∀ (j : Nat) v, ((xs.map fun a => 0 - t * a) ++ [0])[j]? = some v → Lt2 112 v := fun j v hv => by
        rcases List.mem_append.mp (List.mem_of_getElem? hv) with hm | hm
        · obtain ⟨a, ha, rfl⟩ := List.mem_map.mp hm
          exact (Lt2.sub (Lt2.zero (n := 111)) (t1.mul (xb a ha))).mono (by decide)
        · rw [List.mem_singleton.mp hm]; exact Lt2.zero
      have hl0 : ((xs.map fun a => 0 - t * a) ++ [0]).length = xs.length + 1 := by rw [List.length_append, List.length_map]; rfl
      generalize (xs.map fun a => 0 - t * a) ++ [0] = ys at *
      refine sd_for (id_rng2 (m := 1) (n := ys.length) (ad_cons ed_int (ad_cons (ed_lenRO rfl) ad_nil)) (by omega)) (fun i ρ => ∃ (zs : List Int) (z3 : Option SV), ρ = [some (.d (.list (rD ns))), some (.own (rD zs)), some (.d (pD (t, b))), z3, none, none, none] ∧ zs.length = xs.length + 1 ∧ ∀ (j : Nat) v, zs[j]? = some v → Lt2 (if j ≤ i then 114 else 112) v) ⟨ys, none, rfl, hl0, fun j v hv => (hy0 j v hv).mono (by split <;> decide)⟩ ?_ ?_
      · rintro i d ρ' hi ⟨zs, z3, rfl, hzl, hz⟩
        obtain ⟨hi, rfl⟩ := ints_get hi
        refine ⟨_, gd_name, ?_⟩
        have hi1 : i + 1 < zs.length := by omega
        have hzi : zs[i + 1]? = some (zs.getD (i + 1) 0) := by rw [List.getD_eq_getElem?_getD, List.getElem?_eq_getElem hi1]; rfl
        have hv := hz (i + 1) _ hzi
        rw [if_neg (by omega)] at hv
        have hw : Lt2 70 ((xs ++ [0]).getD i 0) := lt_getD (fun x hx => by
          rcases List.mem_append.mp hx with hm | hm
          · exact xb x hm
          · rw [List.mem_singleton.mp hm]; exact Lt2.zero) i
        have ex1 : atI (rD zs) (1 + (i : Nat)) = some (.int (zs.getD (i + 1) 0)) := by
          have := rD_at (xs := zs) (k := 1 + (i : Nat)) (by omega) (by omega)
          rwa [show (1 + (i : Nat) : Int).toNat = i + 1 by omega] at this
        have ex2 : atI (rD (xs ++ [0])) (1 + (i : Nat) - 1) = some (.int ((xs ++ [0]).getD i 0)) := by
          have := rD_at (xs := xs ++ [0]) (k := 1 + (i : Nat) - 1) (by omega) (by rw [List.length_append]; show (1 + (i : Int) - 1) < ((xs.length + 1 : Nat) : Int); omega)
          rwa [show (1 + (i : Nat) - 1 : Int).toNat = i by omega] at this
        have eC : rD xs ++ [PyData.int 0] = rD (xs ++ [0]) := by unfold rD; rw [List.map_append]; rfl
        have cat : ED K (tOp (rCatS K) (tCall (sp__law_row K) [] E0 (tCons (tVar 0) tNil)) (tLst (tCons (tC (.int 0)) tNil))) ([some (.d (.list (rD ns))), some (.own (rD zs)), some (.d (pD (t, b))), z3, none, none, none].set 3 (some (.d (.int (1 + (i : Nat)))))) (.list (rD (xs ++ [0]))) := by
          rw [← eC]
          exact EF.ed (ef_cat (EF.ed (frowE _ rfl)) (EF.ed (ef_lst (ad_cons ed_int ad_nil) (by decide))) (by rw [rD_len]; show xs.length + 1 ≤ 100000; omega))
        have ev : ED K (tOp (rI0 fun i j => .int (i + j)) (tOp (rIx K) (tVar 1) (tVar 3)) (tOp (rI CMulX fun i j => .int (i * j)) (tOp (rIx K) (tVar 2) (tC (.int 1))) (tOp (rIx K) (tOp (rCatS K) (tCall (sp__law_row K) [] E0 (tCons (tVar 0) tNil)) (tLst (tCons (tC (.int 0)) tNil))) (tOp (rI0 fun i j => .int (i - j)) (tVar 3) (tC (.int 1)))))) ([some (.d (.list (rD ns))), some (.own (rD zs)), some (.d (pD (t, b))), z3, none, none, none].set 3 (some (.d (.int (1 + (i : Nat)))))) (.int (zs.getD (i + 1) 0 + b * (xs ++ [0]).getD i 0)) :=
          ed_add (ed_ixO (k := 1) rfl (ed_var rfl) ex1) (ed_mul (ed_ix (ed_var rfl) (SeqD.t _) ed_int rfl) (ed_ix cat (SeqD.l _) (ed_sub (ed_var rfl) ed_int) ex2) (t2.cm hw (by decide)))
        refine sd_setI (i := 1) (m := i + 1) rfl ev (ed_var rfl) ?_ ?_
        · unfold ixN
          rw [if_pos (by omega), rD_len, if_pos (by omega)]
          congr 1; omega
        · refine ⟨zs.set (i + 1) (zs.getD (i + 1) 0 + b * (xs ++ [0]).getD i 0), some (.d (.int (1 + (i : Nat)))), ?_, by rw [List.length_set]; exact hzl, fun j v hj => ?_⟩
          · unfold rD; rw [List.map_set]; rfl
          · rcases getset hj with ⟨rfl, rfl⟩ | ⟨ne, hj'⟩
            · rw [if_pos (Nat.le_refl _)]
              exact (Lt2.add (n := 112) hv ((t2.mul hw).mono (by decide))).mono (by decide)
            · refine (hz j v hj').mono ?_
              split
              · rw [if_pos (by omega)]; exact Nat.le_refl _
              · split <;> decide
      · rintro ρ' ⟨zs, z3, rfl, hzl, hz⟩
        refine ⟨zs, z3, none, by omega, fun y hy => ?_, .inr rfl⟩
        obtain ⟨j, hj⟩ := List.getElem?_of_mem hy
        exact (hz j y hj).mono (by split <;> decide)
    · exact sd_next ⟨xs, none, none, by omega, fun y hy => (xb y hy).mono (by decide), .inl rfl⟩
  · rintro o ⟨ys, z3, z4, hyl, hyb, ho⟩
    have fs : ∀ d, SeqD d (rD ys) → F_sign_at [d, pD (t, b)] (.rt (.int (sgn (hor t b ys).1))) := fun d hd => ⟨d, ys, t, b, 120, 41, rfl, hd, hyb, t1, t2, by decide, by omega, rfl⟩
    have fd : F__law_due [.list (rD ys), pD (t, b)] (.rt (.int (sgn (hor t b ys).1))) := ⟨ys, t, b, rfl, hyl, hyb, t1, t2, t3, rfl⟩
    rcases ho with rfl | rfl
    · show SD K B0 B _ [some (.d (.list (rD ns))), some (.d (.list (rD ys))), some (.d (pD (t, b))), z3, z4, none, none] (fin (.rt (.bool true)))
      refine sd_seq (sd_setF (ef_list (ed_var rfl) (SeqD.l _)) ?_)
      refine sd_frz (i := 5) rfl ?_
      apply sd_seq; apply sd_set; (case h => walk_at "ev" <;> (first | (exact fs _ (SeqD.l _)) | walk_at "rt1"))
      generalize sgn (hor t b ys).1 = v at *
      have sl := shaped_l ys
      have el := eqv_l ys ys
      apply sd_seq; apply sd_if; (case h => walk_at "ev" <;> (first | (first | exact ⟨_, rfl, rfl⟩ | exact fd | exact sl) | walk_at "rt1")); all_goals intro hb
      · exact absurd hb (by rw [el]; simp [eqv_int])
      · refine sd_next ?_
        apply sd_ret; (case h => walk_at "ev" <;> (first | (exact fs _ (SeqD.t _)) | walk_at "rt1"))
        show PyData.bool _ = PyData.bool _
        simp [eqv_int]
    · refine sd_frz (i := 1) rfl ?_
      show SD K B0 B _ [some (.d (.list (rD ns))), some (.d (.list (rD ys))), some (.d (pD (t, b))), z3, z4, none, none] (fin (.rt (.bool true)))
      refine sd_seq (sd_setF (ef_list (ed_var rfl) (SeqD.l _)) ?_)
      refine sd_frz (i := 5) rfl ?_
      apply sd_seq; apply sd_set; (case h => walk_at "ev" <;> (first | (exact fs _ (SeqD.l _)) | walk_at "rt1"))
      generalize sgn (hor t b ys).1 = v at *
      have sl := shaped_l ys
      have el := eqv_l ys ys
      apply sd_seq; apply sd_if; (case h => walk_at "ev" <;> (first | (first | exact ⟨_, rfl, rfl⟩ | exact fd | exact sl) | walk_at "rt1")); all_goals intro hb
      · exact absurd hb (by rw [el]; simp [eqv_int])
      · refine sd_next ?_
        apply sd_ret; (case h => walk_at "ev" <;> (first | (exact fs _ (SeqD.t _)) | walk_at "rt1"))
        show PyData.bool _ = PyData.bool _
        simp [eqv_int]
end
end K03

namespace K03
open PySem PySem.Spec PyProof.Rows L2 Evl Rt
def top (i : Nat) : Stmt := PySem.Challenge.pw_rootpeg_k03_the_sign.main.body.getD i (.Pass ⟨0, 0, 0, 0⟩)
abbrev s_sign : Stmt := top 1
theorem sc_sign : FnScope N_sign ["number"] (defScope s_sign) := ⟨rfl, rfl, rfl, by decide +kernel, rfl, by decide +kernel, by decide +kernel⟩
abbrev s_sign_at : Stmt := top 2
theorem sc_sign_at : FnScope N_sign_at ["row", "at"] (defScope s_sign_at) := ⟨rfl, rfl, rfl, by decide +kernel, rfl, by decide +kernel, by decide +kernel⟩
abbrev s__law_whole : Stmt := top 4
theorem sc__law_whole : FnScope N__law_whole ["_law_found"] (defScope s__law_whole) := ⟨rfl, rfl, rfl, by decide +kernel, rfl, by decide +kernel, by decide +kernel⟩
abbrev s__law_cell_at : Stmt := top 5
theorem sc__law_cell_at : FnScope N__law_cell_at ["_law_script", "_law_k"] (defScope s__law_cell_at) := ⟨rfl, rfl, rfl, by decide +kernel, rfl, by decide +kernel, by decide +kernel⟩
abbrev s__law_divisor : Stmt := top 6
theorem sc__law_divisor : FnScope N__law_divisor ["_law_one", "_law_other"] (defScope s__law_divisor) := ⟨rfl, rfl, rfl, by decide +kernel, rfl, by decide +kernel, by decide +kernel⟩
abbrev s__law_part : Stmt := top 7
theorem sc__law_part : FnScope N__law_part ["_law_top", "_law_bottom"] (defScope s__law_part) := ⟨rfl, rfl, rfl, by decide +kernel, rfl, by decide +kernel, by decide +kernel⟩
abbrev s__law_row : Stmt := top 8
theorem sc__law_row : FnScope N__law_row ["_law_script"] (defScope s__law_row) := ⟨rfl, rfl, rfl, by decide +kernel, rfl, by decide +kernel, by decide +kernel⟩
abbrev s__law_at : Stmt := top 9
theorem sc__law_at : FnScope N__law_at ["_law_script"] (defScope s__law_at) := ⟨rfl, rfl, rfl, by decide +kernel, rfl, by decide +kernel, by decide +kernel⟩
abbrev s__law_due : Stmt := top 10
theorem sc__law_due : FnScope N__law_due ["_law_row_here", "_law_at_here"] (defScope s__law_due) := ⟨rfl, rfl, rfl, by decide +kernel, rfl, by decide +kernel, by decide +kernel⟩
abbrev s_law : Stmt := top 11
theorem sc_law : FnScope N_law ["_law_script"] (defScope s_law) := ⟨rfl, rfl, rfl, by decide +kernel, rfl, by decide +kernel, by decide +kernel⟩
section
variable {P : Program} {w : World} {K : PySem.W.Frag} {mg : Str → Option Value} {base : Heap} 
theorem ok_sign {f : Addr} {fd : FuncData} (F : Fun K "sign" "sign" s_sign f fd) (T : Txt K mg ) : FnOk P w K mg base CX0 1 f fd ["number"] (sp_sign K) :=
  fun_ok (t := t_sign K) F sc_sign rfl (fun cdv A outer s H E hr => by exact (pss_cons (ps_if (pt_cmpR op_lt (pv 0) pe_int (nomark _)) (pss_one (ps_ret (pe_un un_neg pe_int))) pss_nil)
      (pss_cons (ps_if (pt_cmpR op_gt (pv 0) pe_int (nomark _)) (pss_one (ps_ret pe_int)) pss_nil)
      (pss_one (ps_ret pe_int)))))
    (fun ds r h B0 B => pure_sign ds r h B0 B)
theorem ok_sign_at {f : Addr} {fd : FuncData} (F : Fun K "sign_at" "sign_at" s_sign_at f fd) (T : Txt K mg ) (G_sign : Cal P w K mg base CX0 1 "sign" ["number"] (sp_sign K)) : FnOk P w K mg base CX0 2 f fd ["row", "at"] (sp_sign_at K) :=
  fun_ok (t := t_sign_at K) F sc_sign_at rfl (fun cdv A outer s H E hr => by exact (pss_cons (ps_asg (pv 1) (pg_tup rfl (pgs_cons (pg_name (i := 2) sc_sign_at.nd rfl (by first | exact Or.inl rfl | exact Or.inr rfl)) (pgs_cons (pg_name (i := 3) sc_sign_at.nd rfl (by first | exact Or.inl rfl | exact Or.inr rfl)) pgs_nil))))
      (pss_cons (ps_set (i := 4) sc_sign_at.nd rfl (by first | exact Or.inl rfl | exact Or.inr rfl) pe_int)
      (pss_cons (ps_set (i := 5) sc_sign_at.nd rfl (by first | exact Or.inl rfl | exact Or.inr rfl) pe_int)
      (pss_cons (ps_for PassesOwn.never rfl (RT.pi_revA (by rfl) T.b_reversed (pv 0)) (pg_name (i := 6) sc_sign_at.nd rfl (by first | exact Or.inl rfl | exact Or.inr rfl)) (pss_cons (ps_set (i := 4) sc_sign_at.nd rfl (by first | exact Or.inl rfl | exact Or.inr rfl) (pe_op op_add (pe_op op_mulX (pv 4) (pv 2)) (pe_op op_mulX (pv 6) (pv 5))))
      (pss_one (ps_set (i := 5) sc_sign_at.nd rfl (by first | exact Or.inl rfl | exact Or.inr rfl) (pe_op op_mulX (pv 5) (pv 3))))))
      (pss_one (ps_ret (pe_cal0 G_sign (hr.mono (by decide)) (by rfl) (pa_cons (pv 4) pa_nil)))))))))
    (fun ds r h B0 B => pure_sign_at ds r h B0 B)
theorem ok__law_whole {f : Addr} {fd : FuncData} (F : Fun K "_law_whole" "_law_whole" s__law_whole f fd) (T : Txt K mg ) : FnOk P w K mg base CX0 1 f fd ["_law_found"] (sp__law_whole K) :=
  fun_ok (t := t__law_whole K) F sc__law_whole rfl (fun cdv A outer s H E hr => by exact (pss_one (ps_ret (pe_and (pe_callB call_isi (by rfl) T.b_isinstance (by rfl) (pa_cons (pv 0) (pa_cons (pe_bltn (v := .ty "int") (by rfl) T.b_int (by rfl) rfl) pa_nil))) (pe_one (pe_not (pe_callB call_isi (by rfl) T.b_isinstance (by rfl) (pa_cons (pv 0) (pa_cons (pe_bltn (v := .ty "bool") (by rfl) T.b_bool (by rfl) rfl) pa_nil)))))))))
    (fun ds r h B0 B => pure__law_whole ds r h B0 B)
theorem ok__law_cell_at {f : Addr} {fd : FuncData} (F : Fun K "_law_cell_at" "_law_cell_at" s__law_cell_at f fd) (T : Txt K mg ) : FnOk P w K mg base CX0 1 f fd ["_law_script", "_law_k"] (sp__law_cell_at K) :=
  fun_ok (t := t__law_cell_at K) F sc__law_cell_at rfl (fun cdv A outer s H E hr => by exact (pss_cons (ps_if (pt_cmpR op_lt (pv 1) (pe_callB call_len_seq (by rfl) T.b_len PySem.boot_len (pa_cons (pv 0) pa_nil)) (nomark _)) (pss_one (ps_ret (pe_ix ix_seq (pv 0) (pv 1) (fun _ _ => rfl)))) pss_nil)
      (pss_one (ps_ret pe_int))))
    (fun ds r h B0 B => pure__law_cell_at ds r h B0 B)
theorem ok__law_divisor {f : Addr} {fd : FuncData} (F : Fun K "_law_divisor" "_law_divisor" s__law_divisor f fd) (T : Txt K mg ) : FnOk P w K mg base CX0 1 f fd ["_law_one", "_law_other"] (sp__law_divisor K) :=
  fun_ok (t := t__law_divisor K) F sc__law_divisor rfl (fun cdv A outer s H E hr => by exact (pss_cons (ps_while PassesOwn.never (pt_cmpR (op_neD hr.units) (pv 1) pe_int (nomark _)) (pss_cons (ps_set (i := 2) sc__law_divisor.nd rfl (by first | exact Or.inl rfl | exact Or.inr rfl) (pe_op op_modN (pv 0) (pv 1)))
      (pss_cons (ps_set (i := 0) sc__law_divisor.nd rfl (by first | exact Or.inl rfl | exact Or.inr rfl) (pv 1))
      (pss_one (ps_set (i := 1) sc__law_divisor.nd rfl (by first | exact Or.inl rfl | exact Or.inr rfl) (pv 2))))))
      (pss_one (ps_ret (pe_callB call_abs (by rfl) T.b_abs (by rfl) (pa_cons (pv 0) pa_nil))))))
    (fun ds r h B0 B => pure__law_divisor ds r h B0 B)
theorem ok__law_part {f : Addr} {fd : FuncData} (F : Fun K "_law_part" "_law_part" s__law_part f fd) (T : Txt K mg ) (G__law_divisor : Cal P w K mg base CX0 1 "_law_divisor" ["_law_one", "_law_other"] (sp__law_divisor K)) : FnOk P w K mg base CX0 2 f fd ["_law_top", "_law_bottom"] (sp__law_part K) :=
  fun_ok (t := t__law_part K) F sc__law_part rfl (fun cdv A outer s H E hr => by exact (pss_cons (ps_set (i := 2) sc__law_part.nd rfl (by first | exact Or.inl rfl | exact Or.inr rfl) (pe_cal0 G__law_divisor (hr.mono (by decide)) (by rfl) (pa_cons (pv 0) (pa_cons (pv 1) pa_nil))))
      (pss_cons (ps_if (pt_cmpR op_lt (pv 1) pe_int (nomark _)) (pss_one (ps_set (i := 2) sc__law_part.nd rfl (by first | exact Or.inl rfl | exact Or.inr rfl) (pe_op op_sub pe_int (pv 2)))) pss_nil)
      (pss_one (ps_ret (pe_tup (pa_cons (pe_op op_fdivP (pv 0) (pv 2)) (pa_cons (pe_op op_fdivP (pv 1) (pv 2)) pa_nil))))))))
    (fun ds r h B0 B => pure__law_part ds r h B0 B)
theorem ok__law_row {f : Addr} {fd : FuncData} (F : Fun K "_law_row" "_law_row" s__law_row f fd) (T : Txt K mg ) (G__law_cell_at : Cal P w K mg base CX0 1 "_law_cell_at" ["_law_script", "_law_k"] (sp__law_cell_at K)) : FnOk P w K mg base CX0 2 f fd ["_law_script"] (sp__law_row K) :=
  fun_ok (t := t__law_row K) F sc__law_row rfl (fun cdv A outer s H E hr => by exact (pss_cons (ps_set (i := 1) sc__law_row.nd rfl (by first | exact Or.inl rfl | exact Or.inr rfl) (pe_lst pa_nil))
      (pss_cons (ps_for PassesOwn.never rfl (pi_seq (pe_slice sl_seq (pv 0) (po_some pe_int) (po_some (pe_op op_add pe_int (pe_op op_modN (pe_cal0 G__law_cell_at (hr.mono (by decide)) (by rfl) (pa_cons (pv 0) (pa_cons pe_int pa_nil))) pe_int))))) (pg_name (i := 2) sc__law_row.nd rfl (by first | exact Or.inl rfl | exact Or.inr rfl)) (pss_one (ps_if (pt_cmpR (op_eqD hr.units) (pe_op op_modN (pe_cal0 G__law_cell_at (hr.mono (by decide)) (by rfl) (pa_cons (pv 0) (pa_cons pe_int pa_nil))) pe_int) pe_int (nomark _)) (pss_one (ps_expr (pe_bm PySem.F.plainAttrs_list PySem.F.slot_list_append PySem.F.type_list_append mt_append (pv 1) (pa_cons (pe_op op_sub (pe_op op_modN (pv 2) (pe_op op_mulX pe_int (pe_op op_pow pe_int pe_int))) (pe_op op_pow pe_int pe_int)) pa_nil)))) (pss_one (ps_expr (pe_bm PySem.F.plainAttrs_list PySem.F.slot_list_append PySem.F.type_list_append mt_append (pv 1) (pa_cons (pe_op op_sub (pe_op op_modN (pv 2) pe_int) pe_int) pa_nil)))))))
      (pss_one (ps_ret (pv 1))))))
    (fun ds r h B0 B => pure__law_row ds r h B0 B)
theorem ok__law_at {f : Addr} {fd : FuncData} (F : Fun K "_law_at" "_law_at" s__law_at f fd) (T : Txt K mg ) (G__law_cell_at : Cal P w K mg base CX0 1 "_law_cell_at" ["_law_script", "_law_k"] (sp__law_cell_at K)) (G__law_part : Cal P w K mg base CX0 2 "_law_part" ["_law_top", "_law_bottom"] (sp__law_part K)) : FnOk P w K mg base CX0 3 f fd ["_law_script"] (sp__law_at K) :=
  fun_ok (t := t__law_at K) F sc__law_at rfl (fun cdv A outer s H E hr => by exact (pss_cons (ps_if (pt_cmpR (op_eqD hr.units) (pe_op op_modN (pe_op op_fdivP (pe_cal0 G__law_cell_at (hr.mono (by decide)) (by rfl) (pa_cons (pv 0) (pa_cons pe_int pa_nil))) pe_int) pe_int) pe_int (nomark _)) (pss_one (ps_ret (pe_cal0 G__law_part (hr.mono (by decide)) (by rfl) (pa_cons (pe_op op_sub (pe_op op_modN (pe_cal0 G__law_cell_at (hr.mono (by decide)) (by rfl) (pa_cons (pv 0) (pa_cons pe_int pa_nil))) (pe_op op_mulX pe_int (pe_op op_pow pe_int pe_int))) (pe_op op_pow pe_int pe_int)) (pa_cons (pe_op op_add pe_int (pe_op op_modN (pe_cal0 G__law_cell_at (hr.mono (by decide)) (by rfl) (pa_cons (pv 0) (pa_cons pe_int pa_nil))) (pe_op op_pow pe_int pe_int))) pa_nil))))) pss_nil)
      (pss_one (ps_ret (pe_cal0 G__law_part (hr.mono (by decide)) (by rfl) (pa_cons (pe_op op_sub (pe_op op_modN (pe_cal0 G__law_cell_at (hr.mono (by decide)) (by rfl) (pa_cons (pv 0) (pa_cons pe_int pa_nil))) pe_int) pe_int) (pa_cons (pe_op op_add pe_int (pe_op op_modN (pe_cal0 G__law_cell_at (hr.mono (by decide)) (by rfl) (pa_cons (pv 0) (pa_cons pe_int pa_nil))) pe_int)) pa_nil)))))))
    (fun ds r h B0 B => pure__law_at ds r h B0 B)
theorem ok__law_due {f : Addr} {fd : FuncData} (F : Fun K "_law_due" "_law_due" s__law_due f fd) (T : Txt K mg ) : FnOk P w K mg base CX0 1 f fd ["_law_row_here", "_law_at_here"] (sp__law_due K) :=
  fun_ok (t := t__law_due K) F sc__law_due rfl (fun cdv A outer s H E hr => by exact (pss_cons (ps_set (i := 2) sc__law_due.nd rfl (by first | exact Or.inl rfl | exact Or.inr rfl) pe_int)
      (pss_cons (ps_for PassesOwn.never rfl (pi_range1 (by rfl) T.b_range (pa_cons (pe_callB call_len_seq (by rfl) T.b_len PySem.boot_len (pa_cons (pv 0) pa_nil)) pa_nil)) (pg_name (i := 3) sc__law_due.nd rfl (by first | exact Or.inl rfl | exact Or.inr rfl)) (pss_cons (ps_set (i := 4) sc__law_due.nd rfl (by first | exact Or.inl rfl | exact Or.inr rfl) (pe_ix ix_seq (pv 0) (pv 3) (fun _ _ => rfl)))
      (pss_cons (ps_for PassesOwn.never rfl (pi_range1 (by rfl) T.b_range (pa_cons (pe_op op_sub (pe_callB call_len_seq (by rfl) T.b_len PySem.boot_len (pa_cons (pv 0) pa_nil)) pe_int) pa_nil)) (pg_name (i := 5) sc__law_due.nd rfl (by first | exact Or.inl rfl | exact Or.inr rfl)) (pss_one (ps_if (pt_cmpR op_lt (pv 5) (pv 3) (nomark _)) (pss_one (ps_set (i := 4) sc__law_due.nd rfl (by first | exact Or.inl rfl | exact Or.inr rfl) (pe_op op_mulX (pv 4) (pe_ix ix_seq (pv 1) pe_int (fun _ _ => rfl))))) (pss_one (ps_set (i := 4) sc__law_due.nd rfl (by first | exact Or.inl rfl | exact Or.inr rfl) (pe_op op_mulX (pv 4) (pe_ix ix_seq (pv 1) pe_int (fun _ _ => rfl))))))))
      (pss_one (ps_set (i := 2) sc__law_due.nd rfl (by first | exact Or.inl rfl | exact Or.inr rfl) (pe_op op_add (pv 2) (pv 4)))))))
      (pss_cons (ps_if (pt_cmpR op_lt (pv 2) pe_int (nomark _)) (pss_one (ps_ret (pe_un un_neg pe_int))) pss_nil)
      (pss_one (ps_ret (pe_callTy call_int1 (by rfl) T.b_int (by rfl) (pa_cons (pe_cmpR op_gt (pv 2) pe_int (nomark _)) pa_nil))))))))
    (fun ds r h B0 B => pure__law_due ds r h B0 B)
theorem ok_law {f : Addr} {fd : FuncData} (F : Fun K "law" "law" s_law f fd) (T : Txt K mg ) (G__law_row : Cal P w K mg base CX0 2 "_law_row" ["_law_script"] (sp__law_row K)) (G__law_at : Cal P w K mg base CX0 3 "_law_at" ["_law_script"] (sp__law_at K)) (G__law_cell_at : Cal P w K mg base CX0 1 "_law_cell_at" ["_law_script", "_law_k"] (sp__law_cell_at K)) (G_sign_at : Cal P w K mg base CX0 2 "sign_at" ["row", "at"] (sp_sign_at K)) (G__law_whole : Cal P w K mg base CX0 1 "_law_whole" ["_law_found"] (sp__law_whole K)) (G__law_due : Cal P w K mg base CX0 1 "_law_due" ["_law_row_here", "_law_at_here"] (sp__law_due K)) : FnOk P w K mg base CX0 4 f fd ["_law_script"] (sp_law K) :=
  fun_ok (t := t_law K) F sc_law rfl (fun cdv A outer s H E hr => by exact (pss_cons (ps_set (i := 1) sc_law.nd rfl (by first | exact Or.inl rfl | exact Or.inr rfl) (pe_cal0 G__law_row (hr.mono (by decide)) (by rfl) (pa_cons (pv 0) pa_nil)))
      (pss_cons (ps_set (i := 2) sc_law.nd rfl (by first | exact Or.inl rfl | exact Or.inr rfl) (pe_cal0 G__law_at (hr.mono (by decide)) (by rfl) (pa_cons (pv 0) pa_nil)))
      (pss_cons (ps_if (pt_cmpR (op_eqD hr.units) (pe_op op_modN (pe_op op_fdivP (pe_cal0 G__law_cell_at (hr.mono (by decide)) (by rfl) (pa_cons (pv 0) (pa_cons pe_int pa_nil))) pe_int) pe_int) pe_int (nomark _)) (pss_cons (ps_set (i := 1) sc_law.nd rfl (by first | exact Or.inl rfl | exact Or.inr rfl) (pe_op op_catS (pe_lc (own := [("_law_one", 4)]) (g := (gName 4)) (tt := tYes) rfl sc_law.nd (pi_seq (pv 1)) (blkOk_by (N := N_law) (sc := defScope s_law) (by decide +kernel)) (fun _ _ _ _ _ => (pg_name (i := 4) sc_law.nd rfl (by first | exact Or.inl rfl | exact Or.inr rfl))) (fun _ _ _ _ _ => pts_nil) (fun _ _ _ _ _ => (pe_op op_sub pe_int (pe_op op_mulX (pe_ix ix_seq (pv 2) pe_int (fun _ _ => rfl)) (pv 4))))) (pe_lst (pa_cons pe_int pa_nil))))
      (pss_one (ps_for PassesOwn.never rfl (pi_range2 (by rfl) T.b_range (pa_cons pe_int (pa_cons (pe_callB call_len_seq (by rfl) T.b_len PySem.boot_len (pa_cons (pv 1) pa_nil)) pa_nil))) (pg_name (i := 3) sc_law.nd rfl (by first | exact Or.inl rfl | exact Or.inr rfl)) (pss_one (ps_asg (pe_op op_add (pe_ix ix_seq (pv 1) (pv 3) (fun _ _ => rfl)) (pe_op op_mulX (pe_ix ix_seq (pv 2) pe_int (fun _ _ => rfl)) (pe_ix ix_seq (pe_op op_catS (pe_cal0 G__law_row (hr.mono (by decide)) (by rfl) (pa_cons (pv 0) pa_nil)) (pe_lst (pa_cons pe_int pa_nil))) (pe_op op_sub (pv 3) pe_int) (fun _ _ => rfl)))) (pg_sub (pv 1) (pv 3) set_list)))))) pss_nil)
      (pss_cons (ps_set (i := 5) sc_law.nd rfl (by first | exact Or.inl rfl | exact Or.inr rfl) (pe_callTy call_list_of (by rfl) T.b_list (by rfl) (pa_cons (pv 1) pa_nil)))
      (pss_cons (ps_set (i := 6) sc_law.nd rfl (by first | exact Or.inl rfl | exact Or.inr rfl) (pe_cal0 G_sign_at (hr.mono (by decide)) (by rfl) (pa_cons (pv 5) (pa_cons (pv 2) pa_nil))))
      (pss_cons (ps_if (PW.pt (pw_or (pt_not (pt_truth (pe_cal0 G__law_whole (hr.mono (by decide)) (by rfl) (pa_cons (pv 6) pa_nil)) (by intro _; rfl))) (pw_or (pt_cmpR (op_neD hr.units) (pv 6) (pe_cal0 G__law_due (hr.mono (by decide)) (by rfl) (pa_cons (pv 1) (pa_cons (pv 2) pa_nil))) (nomark _)) (pw_or1 (pt_cmpR (op_neD hr.units) (pv 5) (pv 1) (nomark _)))))) (pss_one (ps_ret pe_bl)) pss_nil)
      (pss_one (ps_ret (pe_cmpR (op_eqD hr.units) (pe_cal0 G_sign_at (hr.mono (by decide)) (by rfl) (pa_cons (pe_callTy call_tuple_of (by rfl) T.b_tuple (by rfl) (pa_cons (pv 1) pa_nil)) (pa_cons (pv 2) pa_nil))) (pv 6) (nomark _)))))))))))
    (fun ds r h B0 B => pure_law ds r h B0 B)
end
theorem all_mk {l : PySem.W.OpenLaw} {w : World} {K : PySem.W.Frag} {h : Heap} {mg : Str → Option Value} {fa : Addr}  (X : K.In h) (G : h.Ns mainGlobals mg) (hfa : mg "law" = some (.ref fa))
    {f_sign f_sign_at f__law_whole f__law_cell_at f__law_divisor f__law_part f__law_row f__law_at f__law_due f_law : Addr} {od_sign an_sign od_sign_at an_sign_at od__law_whole an__law_whole od__law_cell_at an__law_cell_at od__law_divisor an__law_divisor od__law_part an__law_part od__law_row an__law_row od__law_at an__law_at od__law_due an__law_due od_law an_law : Option Addr} {sl_sign sl_sign_at sl__law_whole sl__law_cell_at sl__law_divisor sl__law_part sl__law_row sl__law_at sl__law_due sl_law : Array (Option Value)} {oc_sign kV_sign dc_sign pm_sign cd_sign ct_sign oc_sign_at kV_sign_at dc_sign_at pm_sign_at cd_sign_at ct_sign_at oc__law_whole kV__law_whole dc__law_whole pm__law_whole cd__law_whole ct__law_whole oc__law_cell_at kV__law_cell_at dc__law_cell_at pm__law_cell_at cd__law_cell_at ct__law_cell_at oc__law_divisor kV__law_divisor dc__law_divisor pm__law_divisor cd__law_divisor ct__law_divisor oc__law_part kV__law_part dc__law_part pm__law_part cd__law_part ct__law_part oc__law_row kV__law_row dc__law_row pm__law_row cd__law_row ct__law_row oc__law_at kV__law_at dc__law_at pm__law_at cd__law_at ct__law_at oc__law_due kV__law_due dc__law_due pm__law_due cd__law_due ct__law_due oc_law kV_law dc_law pm_law cd_law ct_law : Value}
    (a_sign : PySem.W.nsIn K mainGlobals "sign" = some (some (.ref f_sign)))
    (l_sign : K.lookup f_sign = some ⟨oc_sign, od_sign, .func (PySem.W.fnOf "sign" "sign" (defArgs s_sign) (defBody s_sign) (defScope s_sign) .none kV_sign dc_sign pm_sign an_sign cd_sign ct_sign), sl_sign⟩)
    (c_sign : PySem.W.codeIn K cd_sign "sign" = true)
    (k_sign : PySem.W.keepIn K (.ref f_sign) = true)
    (a_sign_at : PySem.W.nsIn K mainGlobals "sign_at" = some (some (.ref f_sign_at)))
    (l_sign_at : K.lookup f_sign_at = some ⟨oc_sign_at, od_sign_at, .func (PySem.W.fnOf "sign_at" "sign_at" (defArgs s_sign_at) (defBody s_sign_at) (defScope s_sign_at) .none kV_sign_at dc_sign_at pm_sign_at an_sign_at cd_sign_at ct_sign_at), sl_sign_at⟩)
    (c_sign_at : PySem.W.codeIn K cd_sign_at "sign_at" = true)
    (k_sign_at : PySem.W.keepIn K (.ref f_sign_at) = true)
    (a__law_whole : PySem.W.nsIn K mainGlobals "_law_whole" = some (some (.ref f__law_whole)))
    (l__law_whole : K.lookup f__law_whole = some ⟨oc__law_whole, od__law_whole, .func (PySem.W.fnOf "_law_whole" "_law_whole" (defArgs s__law_whole) (defBody s__law_whole) (defScope s__law_whole) .none kV__law_whole dc__law_whole pm__law_whole an__law_whole cd__law_whole ct__law_whole), sl__law_whole⟩)
    (c__law_whole : PySem.W.codeIn K cd__law_whole "_law_whole" = true)
    (k__law_whole : PySem.W.keepIn K (.ref f__law_whole) = true)
    (a__law_cell_at : PySem.W.nsIn K mainGlobals "_law_cell_at" = some (some (.ref f__law_cell_at)))
    (l__law_cell_at : K.lookup f__law_cell_at = some ⟨oc__law_cell_at, od__law_cell_at, .func (PySem.W.fnOf "_law_cell_at" "_law_cell_at" (defArgs s__law_cell_at) (defBody s__law_cell_at) (defScope s__law_cell_at) .none kV__law_cell_at dc__law_cell_at pm__law_cell_at an__law_cell_at cd__law_cell_at ct__law_cell_at), sl__law_cell_at⟩)
    (c__law_cell_at : PySem.W.codeIn K cd__law_cell_at "_law_cell_at" = true)
    (k__law_cell_at : PySem.W.keepIn K (.ref f__law_cell_at) = true)
    (a__law_divisor : PySem.W.nsIn K mainGlobals "_law_divisor" = some (some (.ref f__law_divisor)))
    (l__law_divisor : K.lookup f__law_divisor = some ⟨oc__law_divisor, od__law_divisor, .func (PySem.W.fnOf "_law_divisor" "_law_divisor" (defArgs s__law_divisor) (defBody s__law_divisor) (defScope s__law_divisor) .none kV__law_divisor dc__law_divisor pm__law_divisor an__law_divisor cd__law_divisor ct__law_divisor), sl__law_divisor⟩)
    (c__law_divisor : PySem.W.codeIn K cd__law_divisor "_law_divisor" = true)
    (k__law_divisor : PySem.W.keepIn K (.ref f__law_divisor) = true)
    (a__law_part : PySem.W.nsIn K mainGlobals "_law_part" = some (some (.ref f__law_part)))
    (l__law_part : K.lookup f__law_part = some ⟨oc__law_part, od__law_part, .func (PySem.W.fnOf "_law_part" "_law_part" (defArgs s__law_part) (defBody s__law_part) (defScope s__law_part) .none kV__law_part dc__law_part pm__law_part an__law_part cd__law_part ct__law_part), sl__law_part⟩)
    (c__law_part : PySem.W.codeIn K cd__law_part "_law_part" = true)
    (k__law_part : PySem.W.keepIn K (.ref f__law_part) = true)
    (a__law_row : PySem.W.nsIn K mainGlobals "_law_row" = some (some (.ref f__law_row)))
    (l__law_row : K.lookup f__law_row = some ⟨oc__law_row, od__law_row, .func (PySem.W.fnOf "_law_row" "_law_row" (defArgs s__law_row) (defBody s__law_row) (defScope s__law_row) .none kV__law_row dc__law_row pm__law_row an__law_row cd__law_row ct__law_row), sl__law_row⟩)
    (c__law_row : PySem.W.codeIn K cd__law_row "_law_row" = true)
    (k__law_row : PySem.W.keepIn K (.ref f__law_row) = true)
    (a__law_at : PySem.W.nsIn K mainGlobals "_law_at" = some (some (.ref f__law_at)))
    (l__law_at : K.lookup f__law_at = some ⟨oc__law_at, od__law_at, .func (PySem.W.fnOf "_law_at" "_law_at" (defArgs s__law_at) (defBody s__law_at) (defScope s__law_at) .none kV__law_at dc__law_at pm__law_at an__law_at cd__law_at ct__law_at), sl__law_at⟩)
    (c__law_at : PySem.W.codeIn K cd__law_at "_law_at" = true)
    (k__law_at : PySem.W.keepIn K (.ref f__law_at) = true)
    (a__law_due : PySem.W.nsIn K mainGlobals "_law_due" = some (some (.ref f__law_due)))
    (l__law_due : K.lookup f__law_due = some ⟨oc__law_due, od__law_due, .func (PySem.W.fnOf "_law_due" "_law_due" (defArgs s__law_due) (defBody s__law_due) (defScope s__law_due) .none kV__law_due dc__law_due pm__law_due an__law_due cd__law_due ct__law_due), sl__law_due⟩)
    (c__law_due : PySem.W.codeIn K cd__law_due "_law_due" = true)
    (k__law_due : PySem.W.keepIn K (.ref f__law_due) = true)
    (a_law : PySem.W.nsIn K mainGlobals "law" = some (some (.ref f_law)))
    (l_law : K.lookup f_law = some ⟨oc_law, od_law, .func (PySem.W.fnOf "law" "law" (defArgs s_law) (defBody s_law) (defScope s_law) .none kV_law dc_law pm_law an_law cd_law ct_law), sl_law⟩)
    (c_law : PySem.W.codeIn K cd_law "law" = true)
    (k_law : PySem.W.keepIn K (.ref f_law) = true)
    (z_reversed : PySem.W.nsIn K mainGlobals "reversed" = some none)
    (z_int : PySem.W.nsIn K mainGlobals "int" = some none)
    (z_isinstance : PySem.W.nsIn K mainGlobals "isinstance" = some none)
    (z_bool : PySem.W.nsIn K mainGlobals "bool" = some none)
    (z_len : PySem.W.nsIn K mainGlobals "len" = some none)
    (z_abs : PySem.W.nsIn K mainGlobals "abs" = some none)
    (z_range : PySem.W.nsIn K mainGlobals "range" = some none)
    (z_list : PySem.W.nsIn K mainGlobals "list" = some none)
    (z_tuple : PySem.W.nsIn K mainGlobals "tuple" = some none)
    : ∃ fd : FuncData, (∀ (s : Shared) (v : Value), BindsTo s fd ⟨[v], []⟩ [("_law_script", v)]) ∧ ∀ base : Heap, K.In base → base.Ns mainGlobals mg → FnOk l.prog w K mg base CX0 4 fa fd ["_law_script"] (sp_law K) := by
  have e := hfa.symm.trans (PySem.W.mg_of X G a_law)
  cases e
  have T : Txt K mg  := { b_reversed := PySem.W.mg_none_of X G z_reversed, b_int := PySem.W.mg_none_of X G z_int, b_isinstance := PySem.W.mg_none_of X G z_isinstance, b_bool := PySem.W.mg_none_of X G z_bool, b_len := PySem.W.mg_none_of X G z_len, b_abs := PySem.W.mg_none_of X G z_abs, b_range := PySem.W.mg_none_of X G z_range, b_list := PySem.W.mg_none_of X G z_list, b_tuple := PySem.W.mg_none_of X G z_tuple }
  have F_sign' := fun_mk (st := s_sign) l_sign c_sign k_sign
  have b_sign' := F_sign'.binds (ps := ["number"]) fun _ _ _ _ _ _ us hl => match us, hl with | [_], _ => rfl
  have F_sign_at' := fun_mk (st := s_sign_at) l_sign_at c_sign_at k_sign_at
  have b_sign_at' := F_sign_at'.binds (ps := ["row", "at"]) fun _ _ _ _ _ _ us hl => match us, hl with | [_, _], _ => rfl
  have F__law_whole' := fun_mk (st := s__law_whole) l__law_whole c__law_whole k__law_whole
  have b__law_whole' := F__law_whole'.binds (ps := ["_law_found"]) fun _ _ _ _ _ _ us hl => match us, hl with | [_], _ => rfl
  have F__law_cell_at' := fun_mk (st := s__law_cell_at) l__law_cell_at c__law_cell_at k__law_cell_at
  have b__law_cell_at' := F__law_cell_at'.binds (ps := ["_law_script", "_law_k"]) fun _ _ _ _ _ _ us hl => match us, hl with | [_, _], _ => rfl
  have F__law_divisor' := fun_mk (st := s__law_divisor) l__law_divisor c__law_divisor k__law_divisor
  have b__law_divisor' := F__law_divisor'.binds (ps := ["_law_one", "_law_other"]) fun _ _ _ _ _ _ us hl => match us, hl with | [_, _], _ => rfl
  have F__law_part' := fun_mk (st := s__law_part) l__law_part c__law_part k__law_part
  have b__law_part' := F__law_part'.binds (ps := ["_law_top", "_law_bottom"]) fun _ _ _ _ _ _ us hl => match us, hl with | [_, _], _ => rfl
  have F__law_row' := fun_mk (st := s__law_row) l__law_row c__law_row k__law_row
  have b__law_row' := F__law_row'.binds (ps := ["_law_script"]) fun _ _ _ _ _ _ us hl => match us, hl with | [_], _ => rfl
  have F__law_at' := fun_mk (st := s__law_at) l__law_at c__law_at k__law_at
  have b__law_at' := F__law_at'.binds (ps := ["_law_script"]) fun _ _ _ _ _ _ us hl => match us, hl with | [_], _ => rfl
  have F__law_due' := fun_mk (st := s__law_due) l__law_due c__law_due k__law_due
  have b__law_due' := F__law_due'.binds (ps := ["_law_row_here", "_law_at_here"]) fun _ _ _ _ _ _ us hl => match us, hl with | [_, _], _ => rfl
  have F_law' := fun_mk (st := s_law) l_law c_law k_law
  have b_law' := F_law'.binds (ps := ["_law_script"]) fun _ _ _ _ _ _ us hl => match us, hl with | [_], _ => rfl
  refine ⟨PySem.W.fnOf "law" "law" (defArgs s_law) (defBody s_law) (defScope s_law) .none kV_law dc_law pm_law an_law cd_law ct_law, fun s v => .of_eq rfl, fun base _ _ => ?_⟩
  have G__law_cell_at : Cal l.prog w K mg base CX0 1 "_law_cell_at" ["_law_script", "_law_k"] (sp__law_cell_at K) := ⟨f__law_cell_at, _, ok__law_cell_at F__law_cell_at' T, PySem.W.mg_of X G a__law_cell_at, k__law_cell_at, b__law_cell_at'⟩
  have G__law_row : Cal l.prog w K mg base CX0 2 "_law_row" ["_law_script"] (sp__law_row K) := ⟨f__law_row, _, ok__law_row F__law_row' T G__law_cell_at, PySem.W.mg_of X G a__law_row, k__law_row, b__law_row'⟩
  have G__law_divisor : Cal l.prog w K mg base CX0 1 "_law_divisor" ["_law_one", "_law_other"] (sp__law_divisor K) := ⟨f__law_divisor, _, ok__law_divisor F__law_divisor' T, PySem.W.mg_of X G a__law_divisor, k__law_divisor, b__law_divisor'⟩
  have G__law_part : Cal l.prog w K mg base CX0 2 "_law_part" ["_law_top", "_law_bottom"] (sp__law_part K) := ⟨f__law_part, _, ok__law_part F__law_part' T G__law_divisor, PySem.W.mg_of X G a__law_part, k__law_part, b__law_part'⟩
  have G__law_at : Cal l.prog w K mg base CX0 3 "_law_at" ["_law_script"] (sp__law_at K) := ⟨f__law_at, _, ok__law_at F__law_at' T G__law_cell_at G__law_part, PySem.W.mg_of X G a__law_at, k__law_at, b__law_at'⟩
  have G_sign : Cal l.prog w K mg base CX0 1 "sign" ["number"] (sp_sign K) := ⟨f_sign, _, ok_sign F_sign' T, PySem.W.mg_of X G a_sign, k_sign, b_sign'⟩
  have G_sign_at : Cal l.prog w K mg base CX0 2 "sign_at" ["row", "at"] (sp_sign_at K) := ⟨f_sign_at, _, ok_sign_at F_sign_at' T G_sign, PySem.W.mg_of X G a_sign_at, k_sign_at, b_sign_at'⟩
  have G__law_whole : Cal l.prog w K mg base CX0 1 "_law_whole" ["_law_found"] (sp__law_whole K) := ⟨f__law_whole, _, ok__law_whole F__law_whole' T, PySem.W.mg_of X G a__law_whole, k__law_whole, b__law_whole'⟩
  have G__law_due : Cal l.prog w K mg base CX0 1 "_law_due" ["_law_row_here", "_law_at_here"] (sp__law_due K) := ⟨f__law_due, _, ok__law_due F__law_due' T, PySem.W.mg_of X G a__law_due, k__law_due, b__law_due'⟩
  exact ok_law F_law' T G__law_row G__law_at G__law_cell_at G_sign_at G__law_whole G__law_due
theorem walk {l : PySem.W.OpenLaw} {q : Program} {loose : List Str} {XP : (Str → Option Value) → Heap → Prop} {YP : World → Heap → Prop} {d : DefRec} {K : Params → PySem.W.Frag} (hn : l.most = some 63) (hdf : d.params.defaults = [])
    (hY : ∀ (w : World) (h : Heap), YP w h → (K w.params).In h)
    (F : ∀ (w : World) (mg : Str → Option Value) (fa : Addr) (h : Heap), (K w.params).In h → h.Ns mainGlobals mg → mg d.name = some (.ref fa) →
      ∃ fd : FuncData, (∀ (s : Shared) (u : Value), BindsTo s fd ⟨[u], []⟩ [("_law_script", u)]) ∧ ∀ base : Heap, (K w.params).In base → base.Ns mainGlobals mg → FnOk l.prog w (K w.params) mg base CX0 4 fa fd ["_law_script"] (sp_law (K w.params))) :
    PySem.W.WalkO q loose XP YP l.row.toRowW d [] (fun f vs => PySem.call f vs) :=
  L2.walk_of (n := 63) (k := 4) (x := "_law_script") (CX := fun _ => CX0) (sp := fun w => sp_law (K w.params)) hn (by decide) hdf ⟨rfl, by decide, by decide⟩ hY F
    (fun _ H a ns hl _ hS => ⟨rfl, H, [.list (ns.map .int)], .rt (.bool true), Ex.refl H, .cons (.lst hS dpa_ints) .nil, ⟨ns, hl, rfl, rfl⟩, fun v G2 H2 _ hv => dp_bl hv⟩) fun _ _ _ _ _ z => z
end K03
open PySem PySem.W PyProof.Rows
set_option maxRecDepth 100000 in
set_option maxHeartbeats 0 in
theorem PySem.Challenge.cw_rootpeg_k03_the_sign_holds : PySem.Challenge.rw_rootpeg_k03_the_sign.Holds := by
  w_on; o_law; k_head; (case hw => w_witness2)
  k_fill
  refine K03.walk (l := PySem.Challenge.rw_rootpeg_k03_the_sign) rfl rfl (fun w h Y => PySem.W.kIn_of Y) ?F
  case F =>
    intro w mg fa h KX G hmg
    refine' K03.all_mk KX G hmg ?a_sign ?l_sign ?c_sign ?k_sign ?a_sign_at ?l_sign_at ?c_sign_at ?k_sign_at ?a__law_whole ?l__law_whole ?c__law_whole ?k__law_whole ?a__law_cell_at ?l__law_cell_at ?c__law_cell_at ?k__law_cell_at ?a__law_divisor ?l__law_divisor ?c__law_divisor ?k__law_divisor ?a__law_part ?l__law_part ?c__law_part ?k__law_part ?a__law_row ?l__law_row ?c__law_row ?k__law_row ?a__law_at ?l__law_at ?c__law_at ?k__law_at ?a__law_due ?l__law_due ?c__law_due ?k__law_due ?a_law ?l_law ?c_law ?k_law ?z_reversed ?z_int ?z_isinstance ?z_bool ?z_len ?z_abs ?z_range ?z_list ?z_tuple
    (case a_sign => first | k_is | rfl)
    (case l_sign => first | k_is | rfl)
    (case c_sign => first | k_is | rfl)
    (case k_sign => first | k_is | rfl)
    (case a_sign_at => first | k_is | rfl)
    (case l_sign_at => first | k_is | rfl)
    (case c_sign_at => first | k_is | rfl)
    (case k_sign_at => first | k_is | rfl)
    (case a__law_whole => first | k_is | rfl)
    (case l__law_whole => first | k_is | rfl)
    (case c__law_whole => first | k_is | rfl)
    (case k__law_whole => first | k_is | rfl)
    (case a__law_cell_at => first | k_is | rfl)
    (case l__law_cell_at => first | k_is | rfl)
    (case c__law_cell_at => first | k_is | rfl)
    (case k__law_cell_at => first | k_is | rfl)
    (case a__law_divisor => first | k_is | rfl)
    (case l__law_divisor => first | k_is | rfl)
    (case c__law_divisor => first | k_is | rfl)
    (case k__law_divisor => first | k_is | rfl)
    (case a__law_part => first | k_is | rfl)
    (case l__law_part => first | k_is | rfl)
    (case c__law_part => first | k_is | rfl)
    (case k__law_part => first | k_is | rfl)
    (case a__law_row => first | k_is | rfl)
    (case l__law_row => first | k_is | rfl)
    (case c__law_row => first | k_is | rfl)
    (case k__law_row => first | k_is | rfl)
    (case a__law_at => first | k_is | rfl)
    (case l__law_at => first | k_is | rfl)
    (case c__law_at => first | k_is | rfl)
    (case k__law_at => first | k_is | rfl)
    (case a__law_due => first | k_is | rfl)
    (case l__law_due => first | k_is | rfl)
    (case c__law_due => first | k_is | rfl)
    (case k__law_due => first | k_is | rfl)
    (case a_law => first | k_is | rfl)
    (case l_law => first | k_is | rfl)
    (case c_law => first | k_is | rfl)
    (case k_law => first | k_is | rfl)
    (case z_reversed => first | k_is | rfl)
    (case z_int => first | k_is | rfl)
    (case z_isinstance => first | k_is | rfl)
    (case z_bool => first | k_is | rfl)
    (case z_len => first | k_is | rfl)
    (case z_abs => first | k_is | rfl)
    (case z_range => first | k_is | rfl)
    (case z_list => first | k_is | rfl)
    (case z_tuple => first | k_is | rfl)

