import PyProof.Rows.All
import Wide.All
import OpenK.AllK
import Wide.FinOn
import HandS.ForMost
import HandS.ForExc
import HandS.Evl
import HandS.Wide
import HandS.WideBits
import HandS.Gcd
import HandS.IsInst
import HandS.ExcIs
import HandS.Rev
import HandS.Zip
import HandS.TupAny
import HandS.Deep
import HandS.TryOnly
import HandS.ExcOwn
import HandS.WordsExc
import OpenK.KOwn
import PySem.Challenge.RW_rootpeg_k04_the_plain_row
set_option Elab.async false
set_option linter.all false
set_option maxRecDepth 100000
set_option maxHeartbeats 4000000
/-! Kit of my own: a def's reading told by data (PyData), not by values and heaps. -/
namespace Rt
open PySem L2 Evl

/-! ### steps of a heap: G the part that never changes, H the whole -/
structure Step (G H G2 H2 : Hp) : Prop where
  g : Ex G G2
  h : Ex H H2
  gh : Ex G2 H2
  new : ∀ p, G2 p ≠ none → G p = none → H p = none
section
variable {G H G2 H2 G3 H3 : Hp} {p : Addr} {o : HO}
theorem Step.refl (e : Ex G H) : Step G H G H := ⟨Ex.refl G, Ex.refl H, e, fun p h1 h2 => absurd h2 h1⟩
theorem Step.trans (a : Step G H G2 H2) (b : Step G2 H2 G3 H3) : Step G H G3 H3 :=
  ⟨a.g.trans b.g, a.h.trans b.h, b.gh, fun p h1 h2 => by
    by_cases h : G2 p = none
    · exact fresh_back a.h (b.new p h1 h)
    · exact a.new p h h2⟩
theorem Ex.upd2 (e : Ex G H) (o : HO) (p : Addr) : Ex (upd G p o) (upd H p o) := fun b u hb => by
  by_cases h : b = p
  · subst h; rw [upd_same] at hb ⊢; exact hb
  · rw [upd_ne h] at hb ⊢; exact e b u hb
theorem Step.alloc (e : Ex G H) (hp : H p = none) : Step G H (upd G p o) (upd H p o) :=
  ⟨Ex.new (fresh_back e hp), Ex.new hp, Ex.upd2 e o p, fun q h1 h2 => by
    by_cases h : q = p
    · rw [h]; exact hp
    · rw [upd_ne h] at h1; exact absurd h2 h1⟩
/-- a new object outside of the frozen part -/
theorem Step.allocO (e : Ex G H) (hp : H p = none) : Step G H G (upd H p o) :=
  ⟨Ex.refl G, Ex.new hp, e.trans (Ex.new hp), fun q h1 h2 => absurd h2 h1⟩
/-- an object outside of both changes -/
theorem Step.mutO (s : Step G H G2 H2) (h1 : H p = none) (h2 : G2 p = none) : Step G H G2 (upd H2 p o) :=
  ⟨s.g, Ex.mut s.h h1, Ex.mut s.gh h2, s.new⟩
/-- an object outside of the first is frozen -/
theorem Step.frz (s : Step G H G2 H2) (h1 : H p = none) (h2 : H2 p = some o) : Step G H (upd G2 p o) H2 := by
  refine ⟨fun b u hb => ?_, s.h, fun b u hb => ?_, fun q h3 h4 => ?_⟩
  · by_cases h : b = p
    · subst h
      have := s.h
      have e1 : G2 b = some u := s.g b u hb
      have e2 := s.gh b u e1
      rw [upd_same]; rw [h2] at e2; exact e2
    · rw [upd_ne h]; exact s.g b u hb
  · by_cases h : b = p
    · subst h; rw [upd_same] at hb; rw [h2]; exact hb
    · rw [upd_ne h] at hb; exact s.gh b u hb
  · by_cases h : q = p
    · rw [h]; exact h1
    · rw [upd_ne h] at h3; exact s.new q h3 h4
end

/-! ### data -/
section
variable {K : PySem.W.Frag} {G G' : Hp}
mutual
theorem dp_mono (e : Ex G G') : ∀ (d : PyData) (v : V), Dp K G v d → Dp K G' v d
  | .none, _, h => by cases h; exact .non
  | .bool b, _, h => by cases h; exact .bl _
  | .int i, _, h => by cases h; exact .int _
  | .str x, _, h => by cases h; exact .str _
  | .list ds, _, h => by
    cases h with
    | lst hs ha => exact .lst (ex_l e hs) (dpa_mono e ds _ ha)
  | .tuple ds, _, h => by
    cases h with
    | tup hs ha => exact .tup (ex_t e hs) (dpa_mono e ds _ ha)
  | .dict _, _, h => by cases h
theorem dpa_mono (e : Ex G G') : ∀ (ds : List PyData) (vs : List V), DpAll K G vs ds → DpAll K G' vs ds
  | [], _, h => by cases h; exact .nil
  | d :: ds, _, h => by
    cases h with
    | cons h1 h2 => exact .cons (dp_mono e d _ h1) (dpa_mono e ds _ h2)
end
end
end Rt
namespace L2
open PySem Evl
section
variable {K : PySem.W.Frag} {G G' : Hp}
theorem DpAll.len : ∀ {vs : List V} {ds : List PyData}, DpAll K G vs ds → vs.length = ds.length
  | _, _, .nil => rfl
  | _, _, .cons _ t => by rw [List.length_cons, List.length_cons, DpAll.len t]
theorem DpAll.get : ∀ {vs : List V} {ds : List PyData} {i : Nat} {d : PyData}, DpAll K G vs ds → ds[i]? = some d → ∃ v, vs[i]? = some v ∧ Dp K G v d
  | _, _, _, _, .nil, e => by simp at e
  | _, _, 0, _, .cons h _, e => by simp at e; subst e; exact ⟨_, rfl, h⟩
  | _, _, i + 1, d, .cons _ t, e => by
    obtain ⟨v, h1, h2⟩ := DpAll.get (i := i) (d := d) t (by simpa using e)
    exact ⟨v, by simpa using h1, h2⟩
theorem DpAll.getV : ∀ {vs : List V} {ds : List PyData} {i : Nat} {v : V}, DpAll K G vs ds → vs[i]? = some v → ∃ d, ds[i]? = some d ∧ Dp K G v d
  | _, _, _, _, .nil, e => by simp at e
  | _, _, 0, _, .cons h _, e => by simp at e; subst e; exact ⟨_, rfl, h⟩
  | _, _, i + 1, v, .cons _ t, e => by
    obtain ⟨d, h1, h2⟩ := DpAll.getV (i := i) (v := v) t (by simpa using e)
    exact ⟨d, by simpa using h1, h2⟩
theorem DpAll.app : ∀ {vs ws : List V} {ds es : List PyData}, DpAll K G vs ds → DpAll K G ws es → DpAll K G (vs ++ ws) (ds ++ es)
  | _, _, _, _, .nil, s => s
  | _, _, _, _, .cons h t, s => .cons h (DpAll.app t s)
theorem DpAll.tk : ∀ {vs : List V} {ds : List PyData} (n : Nat), DpAll K G vs ds → DpAll K G (vs.take n) (ds.take n)
  | _, _, 0, _ => .nil
  | _, _, _ + 1, .nil => .nil
  | _, _, n + 1, .cons h t => .cons h (DpAll.tk n t)
theorem DpAll.dr : ∀ {vs : List V} {ds : List PyData} (n : Nat), DpAll K G vs ds → DpAll K G (vs.drop n) (ds.drop n)
  | _, _, 0, h => h
  | _, _, _ + 1, .nil => .nil
  | _, _, n + 1, .cons _ t => DpAll.dr n t
theorem DpAll.rev {vs : List V} {ds : List PyData} (h : DpAll K G vs ds) : DpAll K G vs.reverse ds.reverse := by
  induction ds generalizing vs with
  | nil => cases h; exact .nil
  | cons d ds ih =>
    cases h with
    | cons h1 h2 =>
      rw [List.reverse_cons, List.reverse_cons]
      exact DpAll.app (ih h2) (.cons h1 .nil)
theorem DpAll.st : ∀ {vs : List V} {ds : List PyData} {v : V} {d : PyData} (i : Nat), DpAll K G vs ds → Dp K G v d → DpAll K G (vs.set i v) (ds.set i d)
  | _, _, _, _, _, .nil, _ => .nil
  | _, _, _, _, 0, .cons _ t, h => .cons h t
  | _, _, _, _, i + 1, .cons q t, h => .cons q (DpAll.st i t h)
theorem DpAll.dl {vs : List V} {ds : List PyData} (h : DpAll K G vs ds) : DpAll K G vs.dropLast ds.dropLast := by
  rw [List.dropLast_eq_take, List.dropLast_eq_take, h.len]
  exact h.tk _
end
end L2
namespace Rt
open PySem L2 Evl
section
variable {K : PySem.W.Frag} {G G' : Hp}
/-- ints -/
theorem dpa_ints : ∀ {xs : List Int}, DpAll K G (xs.map V.int) (xs.map PyData.int)
  | [] => .nil
  | _ :: _ => .cons (.int _) dpa_ints
theorem dp_int {v : V} {i : Int} (h : Dp K G v (.int i)) : v = .int i := by cases h; rfl
theorem dp_bl {v : V} {b : Bool} (h : Dp K G v (.bool b)) : v = .bl b := by cases h; rfl
end

/-- a list or a tuple of ds -/
inductive SeqD : PyData → List PyData → Prop
  | l (ds : List PyData) : SeqD (.list ds) ds
  | t (ds : List PyData) : SeqD (.tuple ds) ds
theorem SeqD.of {K : PySem.W.Frag} {G : Hp} {v : V} {d : PyData} {ds : List PyData} (s : SeqD d ds) (h : Dp K G v d) : ∃ a xs, v = .ref a ∧ (SqL K G a xs ∨ SqT K G a xs) ∧ DpAll K G xs ds := by
  cases s with
  | l =>
    cases h with
    | lst hs ha => exact ⟨_, _, rfl, .inl hs, ha⟩
  | t =>
    cases h with
    | tup hs ha => exact ⟨_, _, rfl, .inr hs, ha⟩

/-! ### the slots -/
inductive SV where
  | d (x : PyData)
  | own (xs : List PyData)
abbrev Rho := List (Option SV)
structure Env (K : PySem.W.Frag) (G H : Hp) (σ : L2.St) (ρ : Rho) : Prop where
  gh : Ex G H
  len : σ.length = ρ.length
  dat : ∀ (i : Nat) x, ρ[i]? = some (some (.d x)) → ∃ v, σ[i]? = some (some v) ∧ Dp K G v x
  own : ∀ (i : Nat) xs, ρ[i]? = some (some (.own xs)) → ∃ p vs, σ[i]? = some (some (.ref p)) ∧ H p = some (.lst vs) ∧ G p = none ∧ DpAll K G vs xs
  sep : ∀ (i j : Nat) xs ys p, i ≠ j → ρ[i]? = some (some (.own xs)) → ρ[j]? = some (some (.own ys)) → σ[i]? = some (some (.ref p)) → σ[j]? ≠ some (some (.ref p))
/-- what is owned is not the caller's -/
structure Base (B0 B G H : Hp) (σ : L2.St) (ρ : Rho) : Prop where
  st : Step B0 B G H
  own : ∀ (i : Nat) xs p, ρ[i]? = some (some (.own xs)) → σ[i]? = some (some (.ref p)) → B p = none
section
variable {K : PySem.W.Frag} {G H G2 H2 B0 B : Hp} {σ : L2.St} {ρ : Rho} {i : Nat} {v : V} {d : PyData} {ds : List PyData} {p : Addr}
theorem Env.step (I : Env K G H σ ρ) (s : Step G H G2 H2) : Env K G2 H2 σ ρ := by
  refine ⟨s.gh, I.len, fun i x h => ?_, fun i xs h => ?_, I.sep⟩
  · obtain ⟨v, h1, h2⟩ := I.dat i x h
    exact ⟨v, h1, dp_mono s.g _ _ h2⟩
  · obtain ⟨p, vs, h1, h2, h3, h4⟩ := I.own i xs h
    refine ⟨p, vs, h1, s.h _ _ h2, ?_, dpa_mono s.g _ _ h4⟩
    by_cases q : G2 p = none
    · exact q
    · have := s.new p q h3
      rw [h2] at this; cases this
theorem Base.step (b : Base B0 B G H σ ρ) (s : Step G H G2 H2) : Base B0 B G2 H2 σ ρ := ⟨b.st.trans s, b.own⟩
theorem getset {α : Type} {l : List α} {i j : Nat} {a b : α} (h : (l.set i a)[j]? = some b) : (j = i ∧ b = a) ∨ (j ≠ i ∧ l[j]? = some b) := by
  by_cases e : i = j
  · subst e
    rw [List.getElem?_set_self'] at h
    cases q : l[i]? with
    | none => rw [q] at h; cases h
    | some c => rw [q] at h; exact .inl ⟨rfl, (Option.some.inj h).symm⟩
  · rw [List.getElem?_set_ne e] at h
    exact .inr ⟨fun q => e q.symm, h⟩
theorem Env.lt (I : Env K G H σ ρ) {i : Nat} {a b : Option SV} (h : (ρ.set i a)[i]? = some b) : i < σ.length := by
  obtain ⟨h1, _⟩ := List.getElem?_eq_some_iff.mp h
  rw [List.length_set] at h1
  rw [I.len]; exact h1
/-- data is stored -/
theorem Env.set (I : Env K G H σ ρ) (hv : Dp K G v d) (i : Nat) : Env K G H (σ.set i (some v)) (ρ.set i (some (.d d))) := by
  refine ⟨I.gh, by rw [List.length_set, List.length_set]; exact I.len, fun j x h => ?_, fun j xs h => ?_, fun j k xs ys q hjk h1 h2 h3 => ?_⟩
  · rcases getset h with ⟨rfl, e⟩ | ⟨ne, h'⟩
    · cases e
      exact ⟨v, by rw [List.getElem?_set_self (I.lt h)], hv⟩
    · rw [List.getElem?_set_ne (Ne.symm ne)]; exact I.dat j x h'
  · rcases getset h with ⟨rfl, e⟩ | ⟨ne, h'⟩
    · cases e
    · rw [List.getElem?_set_ne (Ne.symm ne)]; exact I.own j xs h'
  · rcases getset h1 with ⟨rfl, e⟩ | ⟨ne, h1'⟩
    · cases e
    · rcases getset h2 with ⟨rfl, e⟩ | ⟨ne2, h2'⟩
      · cases e
      · rw [List.getElem?_set_ne (Ne.symm ne)] at h3
        rw [List.getElem?_set_ne (Ne.symm ne2)]
        exact I.sep j k xs ys q hjk h1' h2' h3
theorem Base.set (b : Base B0 B G H σ ρ) (i : Nat) : Base B0 B G H (σ.set i (some v)) (ρ.set i (some (.d d))) := ⟨b.st, fun j xs q h1 h2 => by
  rcases getset h1 with ⟨rfl, e⟩ | ⟨ne, h1'⟩
  · cases e
  · rw [List.getElem?_set_ne (Ne.symm ne)] at h2
    exact b.own j xs q h1' h2⟩
/-- a new list of one's own is stored -/
theorem Env.setO {vs : List V} (I : Env K G H σ ρ) (s : Step G H G2 H2) (hp : H p = none) (hg : G2 p = none) (hl : H2 p = some (.lst vs)) (hd : DpAll K G2 vs ds) (i : Nat) : Env K G2 H2 (σ.set i (some (.ref p))) (ρ.set i (some (.own ds))) := by
  have I2 := I.step s
  have nw : ∀ (j : Nat) xs, ρ[j]? = some (some (.own xs)) → σ[j]? ≠ some (some (.ref p)) := fun j xs h e => by
    obtain ⟨q, ws, h1, h2, _⟩ := I.own j xs h
    rw [e] at h1
    cases h1
    rw [hp] at h2; cases h2
  refine ⟨I2.gh, by rw [List.length_set, List.length_set]; exact I.len, fun j x h => ?_, fun j xs h => ?_, fun j k xs ys q hjk h1 h2 h3 => ?_⟩
  · rcases getset h with ⟨rfl, e⟩ | ⟨ne, h'⟩
    · cases e
    · rw [List.getElem?_set_ne (Ne.symm ne)]; exact I2.dat j x h'
  · rcases getset h with ⟨rfl, e⟩ | ⟨ne, h'⟩
    · cases e
      exact ⟨p, vs, by rw [List.getElem?_set_self (I.lt h)], hl, hg, hd⟩
    · rw [List.getElem?_set_ne (Ne.symm ne)]; exact I2.own j xs h'
  · rcases getset h1 with ⟨rfl, e⟩ | ⟨ne, h1'⟩
    · rcases getset h2 with ⟨e2, _⟩ | ⟨ne2, h2'⟩
      · exact absurd e2.symm hjk
      · rw [List.getElem?_set_self (I.lt h1)] at h3
        cases h3
        rw [List.getElem?_set_ne (Ne.symm ne2)]
        exact nw k ys h2'
    · rw [List.getElem?_set_ne (Ne.symm ne)] at h3
      rcases getset h2 with ⟨rfl, e⟩ | ⟨ne2, h2'⟩
      · rw [List.getElem?_set_self (I.lt h2)]
        intro z
        cases z
        exact nw j xs h1' h3
      · rw [List.getElem?_set_ne (Ne.symm ne2)]
        exact I.sep j k xs ys q hjk h1' h2' h3
theorem Base.setO (b : Base B0 B G H σ ρ) (I : Env K G H σ ρ) (s : Step G H G2 H2) (hp : H p = none) (i : Nat) : Base B0 B G2 H2 (σ.set i (some (.ref p))) (ρ.set i (some (.own ds))) := ⟨b.st.trans s, fun j xs q h1 h2 => by
  rcases getset h1 with ⟨rfl, e⟩ | ⟨ne, h1'⟩
  · rw [List.getElem?_set_self (I.lt h1)] at h2
    cases h2
    exact fresh_back b.st.h hp
  · rw [List.getElem?_set_ne (Ne.symm ne)] at h2
    exact b.own j xs q h1' h2⟩
/-- an owned list is written -/
theorem Env.mut {ds' : List PyData} {vs' : List V} (I : Env K G H σ ρ) (h : ρ[i]? = some (some (.own ds))) (hs : σ[i]? = some (some (.ref p))) (hd : DpAll K G vs' ds') : Env K G (upd H p (.lst vs')) σ (ρ.set i (some (.own ds'))) := by
  obtain ⟨p', vs, h1, h2, h3, h4⟩ := I.own i ds h
  rw [hs] at h1; cases h1
  refine ⟨Ex.mut I.gh h3, by rw [List.length_set]; exact I.len, fun j x hj => ?_, fun j xs hj => ?_, fun j k xs ys q hjk a1 a2 a3 => ?_⟩
  · rcases getset hj with ⟨rfl, e⟩ | ⟨ne, h'⟩
    · cases e
    · exact I.dat j x h'
  · rcases getset hj with ⟨rfl, e⟩ | ⟨ne, h'⟩
    · cases e
      exact ⟨p, vs', hs, upd_same, h3, hd⟩
    · obtain ⟨q, ws, b1, b2, b3, b4⟩ := I.own j xs h'
      refine ⟨q, ws, b1, ?_, b3, b4⟩
      have nq : q ≠ p := fun e => by
        subst e
        exact I.sep i j ds xs q (Ne.symm ne) h h' hs b1
      rw [upd_ne nq]; exact b2
  · have r : ∀ (j : Nat) xs, (ρ.set i (some (.own ds')))[j]? = some (some (.own xs)) → ∃ ys, ρ[j]? = some (some (.own ys)) := fun j xs hj => by
      rcases getset hj with ⟨rfl, _⟩ | ⟨_, h'⟩
      · exact ⟨ds, h⟩
      · exact ⟨xs, h'⟩
    obtain ⟨xs', r1⟩ := r j xs a1
    obtain ⟨ys', r2⟩ := r k ys a2
    exact I.sep j k xs' ys' q hjk r1 r2 a3
theorem Base.mut {ds' : List PyData} {vs' : List V} (b : Base B0 B G H σ ρ) (I : Env K G H σ ρ) (h : ρ[i]? = some (some (.own ds))) (hs : σ[i]? = some (some (.ref p))) : Base B0 B G (upd H p (.lst vs')) σ (ρ.set i (some (.own ds'))) := by
  obtain ⟨p', vs, h1, h2, h3, h4⟩ := I.own i ds h
  rw [hs] at h1; cases h1
  refine ⟨b.st.mutO (b.own i ds p h hs) h3, fun j xs q hj hq => ?_⟩
  rcases getset hj with ⟨rfl, _⟩ | ⟨_, h'⟩
  · exact b.own j ds q h hq
  · exact b.own j xs q h' hq
/-- an owned list is given up -/
theorem Env.frz (I : Env K G H σ ρ) (b : Base B0 B G H σ ρ) (h : ρ[i]? = some (some (.own ds))) : ∃ G2, Ex G G2 ∧ Env K G2 H σ (ρ.set i (some (.d (.list ds)))) ∧ Base B0 B G2 H σ (ρ.set i (some (.d (.list ds)))) := by
  obtain ⟨p, vs, h1, h2, h3, h4⟩ := I.own i ds h
  have eg : Ex G (upd G p (.lst vs)) := Ex.new h3
  refine ⟨upd G p (.lst vs), eg, ⟨fun c u hc => ?_, by rw [List.length_set]; exact I.len, fun j x hj => ?_, fun j xs hj => ?_, fun j k xs ys q hjk a1 a2 a3 => ?_⟩, ⟨b.st.frz (b.own i ds p h h1) h2, fun j xs q hj hq => ?_⟩⟩
  · by_cases e : c = p
    · subst e; rw [upd_same] at hc; cases hc; exact h2
    · rw [upd_ne e] at hc; exact I.gh c u hc
  · rcases getset hj with ⟨rfl, e⟩ | ⟨ne, h'⟩
    · cases e
      exact ⟨.ref p, h1, .lst (sq_of upd_same) (dpa_mono eg _ _ h4)⟩
    · obtain ⟨v, q1, q2⟩ := I.dat j x h'
      exact ⟨v, q1, dp_mono eg _ _ q2⟩
  · rcases getset hj with ⟨rfl, e⟩ | ⟨ne, h'⟩
    · cases e
    · obtain ⟨q, ws, b1, b2, b3, b4⟩ := I.own j xs h'
      have nq : q ≠ p := fun e => by
        subst e
        exact I.sep i j ds xs q (Ne.symm ne) h h' h1 b1
      exact ⟨q, ws, b1, b2, by rw [upd_ne nq]; exact b3, dpa_mono eg _ _ b4⟩
  · rcases getset a1 with ⟨rfl, e⟩ | ⟨ne, a1'⟩
    · cases e
    · rcases getset a2 with ⟨rfl, e⟩ | ⟨ne2, a2'⟩
      · cases e
      · exact I.sep j k xs ys q hjk a1' a2' a3
  · rcases getset hj with ⟨rfl, e⟩ | ⟨ne, h'⟩
    · cases e
    · exact b.own j xs q h' hq
end

/-! ### what an expression is, as data -/
section
variable (K : PySem.W.Frag)
def ED (te : TE) (ρ : Rho) (d : PyData) : Prop := ∀ G H σ, Env K G H σ ρ → ∀ Q : VK, (∀ v G2 H2, Step G H G2 H2 → Dp K G2 v d → Q v H2) → te σ H Q
/-- a new list -/
def EF (te : TE) (ρ : Rho) (ds : List PyData) : Prop := ∀ G H σ, Env K G H σ ρ → ∀ Q : VK, (∀ p vs G2 H2, Step G H G2 H2 → H p = none → G2 p = none → H2 p = some (.lst vs) → DpAll K G2 vs ds → Q (.ref p) H2) → te σ H Q
def TD (t : TT) (ρ : Rho) (b : Bool) : Prop := ∀ G H σ, Env K G H σ ρ → ∀ Q : Bool → Hp → Prop, (∀ G2 H2, Step G H G2 H2 → Q b H2) → t σ H Q
def AD (ta : TA) (ρ : Rho) (ds : List PyData) : Prop := ∀ G H σ, Env K G H σ ρ → ∀ Q : List V → Hp → Prop, (∀ vs G2 H2, Step G H G2 H2 → DpAll K G2 vs ds → Q vs H2) → ta σ H Q
end
section
variable {K : PySem.W.Frag} {ρ : Rho} {ta tb tc te : TE} {t u : TT} {d e f : PyData} {ds es : List PyData} {i j : Int}
theorem EF.ed (h : EF K te ρ ds) : ED K te ρ (.list ds) := fun G H σ I Q q => h G H σ I Q fun p vs G2 H2 s hp hg hl hd =>
  q (.ref p) (upd G2 p (.lst vs)) H2 (s.frz hp hl) (.lst (sq_of upd_same) (dpa_mono (Ex.new hg) _ _ hd))
theorem ED.cast (h : ED K te ρ d) (e1 : d = e) : ED K te ρ e := e1 ▸ h
theorem EF.cast (h : EF K te ρ ds) (e1 : ds = es) : EF K te ρ es := e1 ▸ h
theorem TD.cast {a b : Bool} (h : TD K t ρ a) (e1 : a = b) : TD K t ρ b := e1 ▸ h
theorem ed_var {n : Nat} (h : ρ[n]? = some (some (.d d))) : ED K (tVar n) ρ d := fun G H σ I Q q => by
  obtain ⟨v, h1, h2⟩ := I.dat n d h
  exact ⟨v, h1, q v G H (Step.refl I.gh) h2⟩
theorem ed_int : ED K (tC (.int i)) ρ (.int i) := fun G H σ I Q q => q _ G H (Step.refl I.gh) (.int i)
theorem ed_bl {b : Bool} : ED K (tC (.bl b)) ρ (.bool b) := fun G H σ I Q q => q _ G H (Step.refl I.gh) (.bl b)
theorem ed_non : ED K (tC .non) ρ .none := fun G H σ I Q q => q _ G H (Step.refl I.gh) .non
theorem ed_op {r : R2} (ha : ED K ta ρ d) (hb : ED K tb ρ e) (hr : ∀ x y G H, Ex G H → Dp K G x d → Dp K G y e → ∀ Q : VK, (∀ v G2 H2, Step G H G2 H2 → Dp K G2 v f → Q v H2) → r x y H Q) : ED K (tOp r ta tb) ρ f := fun G H σ I Q q =>
  ha G H σ I _ fun x G1 H1 s1 h1 => hb G1 H1 σ (I.step s1) _ fun y G2 H2 s2 h2 => hr x y G2 H2 s2.gh (dp_mono s2.g _ _ h1) h2 Q fun v G3 H3 s3 h3 => q v G3 H3 ((s1.trans s2).trans s3) h3
theorem ef_op {r : R2} (ha : ED K ta ρ d) (hb : ED K tb ρ e) (hr : ∀ x y G H, Ex G H → Dp K G x d → Dp K G y e → ∀ Q : VK, (∀ p vs G2 H2, Step G H G2 H2 → H p = none → G2 p = none → H2 p = some (.lst vs) → DpAll K G2 vs ds → Q (.ref p) H2) → r x y H Q) : EF K (tOp r ta tb) ρ ds := fun G H σ I Q q =>
  ha G H σ I _ fun x G1 H1 s1 h1 => hb G1 H1 σ (I.step s1) _ fun y G2 H2 s2 h2 => hr x y G2 H2 s2.gh (dp_mono s2.g _ _ h1) h2 Q fun p vs G3 H3 s3 hp hg hl hd => q p vs G3 H3 ((s1.trans s2).trans s3) (fresh_back (s1.trans s2).h hp) hg hl hd
/-- two ints -/
theorem ed_I0 {g : Int → Int → Int} (ha : ED K ta ρ (.int i)) (hb : ED K tb ρ (.int j)) : ED K (tOp (rI0 fun i j => .int (g i j)) ta tb) ρ (.int (g i j)) :=
  ed_op ha hb fun x y G H e hx hy Q q => by
    cases dp_int hx; cases dp_int hy
    exact ⟨i, j, rfl, rfl, q _ G H (Step.refl e) (.int _)⟩
theorem ed_I {C : Int → Int → Prop} {g : Int → Int → Int} (ha : ED K ta ρ (.int i)) (hb : ED K tb ρ (.int j)) (hc : C i j) : ED K (tOp (rI C fun i j => .int (g i j)) ta tb) ρ (.int (g i j)) :=
  ed_op ha hb fun x y G H e hx hy Q q => by
    cases dp_int hx; cases dp_int hy
    exact ⟨i, j, rfl, rfl, hc, q _ G H (Step.refl e) (.int _)⟩
theorem ed_B0 {g : Int → Int → Bool} (ha : ED K ta ρ (.int i)) (hb : ED K tb ρ (.int j)) : ED K (tOp (rI0 fun i j => .bl (g i j)) ta tb) ρ (.bool (g i j)) :=
  ed_op ha hb fun x y G H e hx hy Q q => by
    cases dp_int hx; cases dp_int hy
    exact ⟨i, j, rfl, rfl, q _ G H (Step.refl e) (.bl _)⟩
theorem ed_add (ha : ED K ta ρ (.int i)) (hb : ED K tb ρ (.int j)) : ED K (tOp (rI0 fun i j => .int (i + j)) ta tb) ρ (.int (i + j)) := ed_I0 (g := fun i j => i + j) ha hb
theorem ed_sub (ha : ED K ta ρ (.int i)) (hb : ED K tb ρ (.int j)) : ED K (tOp (rI0 fun i j => .int (i - j)) ta tb) ρ (.int (i - j)) := ed_I0 (g := fun i j => i - j) ha hb
theorem ed_mul (ha : ED K ta ρ (.int i)) (hb : ED K tb ρ (.int j)) (hc : CMulX i j) : ED K (tOp (rI CMulX fun i j => .int (i * j)) ta tb) ρ (.int (i * j)) := ed_I (g := fun i j => i * j) ha hb hc
theorem ed_mod (ha : ED K ta ρ (.int i)) (hb : ED K tb ρ (.int j)) (hc : j ≠ 0) : ED K (tOp (rI (fun _ j => j ≠ 0) fun i j => .int (i.fmod j)) ta tb) ρ (.int (i.fmod j)) := ed_I (C := fun _ j => j ≠ 0) (g := fun i j => i.fmod j) ha hb hc
theorem ed_fdiv (ha : ED K ta ρ (.int i)) (hb : ED K tb ρ (.int j)) (hc : j ≠ 0) : ED K (tOp (rI (fun _ j => j ≠ 0) fun i j => .int (i.fdiv j)) ta tb) ρ (.int (i.fdiv j)) := ed_I (C := fun _ j => j ≠ 0) (g := fun i j => i.fdiv j) ha hb hc
theorem ed_pow (ha : ED K ta ρ (.int i)) (hb : ED K tb ρ (.int j)) (hc : CPow i j) : ED K (tOp (rI CPow fun i j => .int (i ^ j.toNat)) ta tb) ρ (.int (i ^ j.toNat)) := ed_I (g := fun i j => i ^ j.toNat) ha hb hc
theorem ed_lt (ha : ED K ta ρ (.int i)) (hb : ED K tb ρ (.int j)) : ED K (tOp (rI0 fun i j => .bl (decide (i < j))) ta tb) ρ (.bool (decide (i < j))) := ed_B0 (g := fun i j => decide (i < j)) ha hb
theorem ed_le (ha : ED K ta ρ (.int i)) (hb : ED K tb ρ (.int j)) : ED K (tOp (rI0 fun i j => .bl (decide (i ≤ j))) ta tb) ρ (.bool (decide (i ≤ j))) := ed_B0 (g := fun i j => decide (i ≤ j)) ha hb
theorem ed_gt (ha : ED K ta ρ (.int i)) (hb : ED K tb ρ (.int j)) : ED K (tOp (rI0 fun i j => .bl (decide (j < i))) ta tb) ρ (.bool (decide (j < i))) := ed_B0 (g := fun i j => decide (j < i)) ha hb
theorem ed_ge (ha : ED K ta ρ (.int i)) (hb : ED K tb ρ (.int j)) : ED K (tOp (rI0 fun i j => .bl (decide (j ≤ i))) ta tb) ρ (.bool (decide (j ≤ i))) := ed_B0 (g := fun i j => decide (j ≤ i)) ha hb
theorem ed_eqD (ha : ED K ta ρ d) (hb : ED K tb ρ e) (h1 : SeqAt.shaped d = true) (h2 : SeqAt.shaped e = true) : ED K (tOp (rEqD K) ta tb) ρ (.bool (PyData.eqv d e)) :=
  ed_op ha hb fun x y G H ex hx hy Q q => ⟨d, e, dp_mono ex _ _ hx, dp_mono ex _ _ hy, h1, h2, q _ G H (Step.refl ex) (.bl _)⟩
theorem ed_neD (ha : ED K ta ρ d) (hb : ED K tb ρ e) (h1 : SeqAt.shaped d = true) (h2 : SeqAt.shaped e = true) : ED K (tOp (rNeD K) ta tb) ρ (.bool (!PyData.eqv d e)) :=
  ed_op ha hb fun x y G H ex hx hy Q q => ⟨d, e, dp_mono ex _ _ hx, dp_mono ex _ _ hy, h1, h2, q _ G H (Step.refl ex) (.bl _)⟩
theorem eqv_int (i j : Int) : PyData.eqv (.int i) (.int j) = decide (i = j) := by
  show (i == j) = decide (i = j)
  rfl
theorem eqv_bool (a b : Bool) : PyData.eqv (.bool a) (.bool b) = decide (a = b) := by
  show (a == b) = decide (a = b)
  cases a <;> cases b <;> rfl
theorem ed_eqI (ha : ED K ta ρ (.int i)) (hb : ED K tb ρ (.int j)) : ED K (tOp (rEqD K) ta tb) ρ (.bool (decide (i = j))) := (ed_eqD ha hb rfl rfl).cast (by rw [eqv_int])
theorem ed_neI (ha : ED K ta ρ (.int i)) (hb : ED K tb ρ (.int j)) : ED K (tOp (rNeD K) ta tb) ρ (.bool (!decide (i = j))) := (ed_neD ha hb rfl rfl).cast (by rw [eqv_int])
theorem ed_eqB {a b : Bool} (ha : ED K ta ρ (.bool a)) (hb : ED K tb ρ (.bool b)) : ED K (tOp (rEqD K) ta tb) ρ (.bool (decide (a = b))) := (ed_eqD ha hb rfl rfl).cast (by rw [eqv_bool])
theorem ed_neB {a b : Bool} (ha : ED K ta ρ (.bool a)) (hb : ED K tb ρ (.bool b)) : ED K (tOp (rNeD K) ta tb) ρ (.bool (!decide (a = b))) := (ed_neD ha hb rfl rfl).cast (by rw [eqv_bool])
theorem ed_un {r : V → Hp → VK → Prop} (ha : ED K ta ρ d) (hr : ∀ x G H, Ex G H → Dp K G x d → ∀ Q : VK, (∀ v G2 H2, Step G H G2 H2 → Dp K G2 v f → Q v H2) → r x H Q) : ED K (tUn r ta) ρ f := fun G H σ I Q q =>
  ha G H σ I _ fun x G1 H1 s1 h1 => hr x G1 H1 s1.gh h1 Q fun v G3 H3 s3 h3 => q v G3 H3 (s1.trans s3) h3
theorem ed_neg (ha : ED K ta ρ (.int i)) : ED K (tUn (rU fun i => .int (-i)) ta) ρ (.int (-i)) := ed_un ha fun x G H e hx Q q => by
  cases dp_int hx
  exact ⟨i, rfl, q _ G H (Step.refl e) (.int _)⟩
/-! tests -/
theorem td_test {b : Bool} (h : ED K te ρ (.bool b)) : TD K (tTest te) ρ b := fun G H σ I Q q => h G H σ I _ fun v G2 H2 s hv => by
  cases dp_bl hv
  exact ⟨b, rfl, q G2 H2 s⟩
theorem td_B {b : Bool} (h : ED K te ρ (.bool b)) : TD K (tB te) ρ b := fun G H σ I Q q => h G H σ I _ fun v G2 H2 s hv => by
  cases dp_bl hv
  exact ⟨b, rfl, q G2 H2 s⟩
def tTruth (K : PySem.W.Frag) (ta : TE) : TT := fun σ H Q => ta σ H fun x H' => ∃ k, TruV K x H' k ∧ Q k H'
theorem td_seq (h : ED K te ρ d) (s : SeqD d ds) : TD K (tTruth K te) ρ (!ds.isEmpty) := fun G H σ I Q q => h G H σ I _ fun v G2 H2 st hv => by
  obtain ⟨a, xs, rfl, hs, hd⟩ := s.of hv
  have e : (!xs.isEmpty) = !ds.isEmpty := by
    have := hd.len
    cases xs <;> cases ds <;> simp_all
  refine ⟨!ds.isEmpty, ?_, q G2 H2 st⟩
  rcases hs with hs | hs
  · exact .inl ⟨xs, ex_l st.gh hs, e.symm⟩
  · exact .inr (.inl ⟨xs, ex_t st.gh hs, e.symm⟩)
theorem td_int (h : ED K te ρ (.int i)) : TD K (tTruth K te) ρ (i != 0) := fun G H σ I Q q => h G H σ I _ fun v G2 H2 st hv => by
  cases dp_int hv
  exact ⟨i != 0, rfl, q G2 H2 st⟩
theorem td_bool {b : Bool} (h : ED K te ρ (.bool b)) : TD K (tTruth K te) ρ b := fun G H σ I Q q => h G H σ I _ fun v G2 H2 st hv => by
  cases dp_bl hv
  exact ⟨b, rfl, q G2 H2 st⟩
/-- a value's truth -/
inductive Truth : PyData → Bool → Prop
  | bool (b : Bool) : Truth (.bool b) b
  | int (i : Int) : Truth (.int i) (i != 0)
  | l (ds : List PyData) : Truth (.list ds) (!ds.isEmpty)
  | t (ds : List PyData) : Truth (.tuple ds) (!ds.isEmpty)
theorem td_truth {b : Bool} (h : ED K te ρ d) (k : Truth d b) : TD K (tTruth K te) ρ b := by
  cases k with
  | bool b => exact td_bool h
  | int i => exact td_int h
  | l ds => exact td_seq h (.l _)
  | t ds => exact td_seq h (.t _)
theorem td_and {a b : Bool} (h1 : TD K t ρ a) (h2 : a = true → TD K u ρ b) : TD K (tAnd t u) ρ (a && b) := fun G H σ I Q q => h1 G H σ I _ fun G2 H2 s => by
  cases a with
  | true =>
    show u σ H2 Q
    exact h2 rfl G2 H2 σ (I.step s) Q fun G3 H3 s3 => q G3 H3 (s.trans s3)
  | false =>
    show Q false H2
    exact q G2 H2 s
theorem td_or {a b : Bool} (h1 : TD K t ρ a) (h2 : a = false → TD K u ρ b) : TD K (tOr t u) ρ (a || b) := fun G H σ I Q q => h1 G H σ I _ fun G2 H2 s => by
  cases a with
  | false =>
    show u σ H2 Q
    exact h2 rfl G2 H2 σ (I.step s) Q fun G3 H3 s3 => q G3 H3 (s.trans s3)
  | true =>
    show Q true H2
    exact q G2 H2 s
theorem td_not {a : Bool} (h : TD K t ρ a) : TD K (tNot t) ρ (!a) := fun G H σ I Q q => h G H σ I _ fun G2 H2 s => q G2 H2 s
theorem td_yes : TD K tYes ρ true := fun G H σ I Q q => q G H (Step.refl I.gh)
theorem ed_andV {a b : Bool} (h1 : ED K ta ρ (.bool a)) (h2 : a = true → ED K tb ρ (.bool b)) : ED K (tAndV ta tb) ρ (.bool (a && b)) := fun G H σ I Q q => h1 G H σ I _ fun v G2 H2 s hv => by
  cases dp_bl hv
  refine ⟨a, rfl, ?_⟩
  cases a with
  | true =>
    show tb σ H2 Q
    exact h2 rfl G2 H2 σ (I.step s) Q fun v G3 H3 s3 => q v G3 H3 (s.trans s3)
  | false =>
    show Q (.bl false) H2
    exact q _ G2 H2 s (.bl false)
theorem ed_orV {a b : Bool} (h1 : ED K ta ρ (.bool a)) (h2 : a = false → ED K tb ρ (.bool b)) : ED K (tOrV ta tb) ρ (.bool (a || b)) := fun G H σ I Q q => h1 G H σ I _ fun v G2 H2 s hv => by
  cases dp_bl hv
  refine ⟨a, rfl, ?_⟩
  cases a with
  | false =>
    show tb σ H2 Q
    exact h2 rfl G2 H2 σ (I.step s) Q fun v G3 H3 s3 => q v G3 H3 (s.trans s3)
  | true =>
    show Q (.bl true) H2
    exact q _ G2 H2 s (.bl true)
theorem ed_notV {a : Bool} (h1 : ED K ta ρ (.bool a)) : ED K (tNotV ta) ρ (.bool (!a)) := fun G H σ I Q q => h1 G H σ I _ fun v G2 H2 s hv => by
  cases dp_bl hv
  exact ⟨a, rfl, q _ G2 H2 s (.bl _)⟩
theorem ed_if {b : Bool} (h : TD K t ρ b) (h1 : b = true → ED K ta ρ d) (h2 : b = false → ED K tb ρ d) : ED K (tIf t ta tb) ρ d := fun G H σ I Q q => h G H σ I _ fun G2 H2 s => by
  cases b with
  | true =>
    show ta σ H2 Q
    exact h1 rfl G2 H2 σ (I.step s) Q fun v G3 H3 s3 => q v G3 H3 (s.trans s3)
  | false =>
    show tb σ H2 Q
    exact h2 rfl G2 H2 σ (I.step s) Q fun v G3 H3 s3 => q v G3 H3 (s.trans s3)
/-! arguments, displays -/
theorem ad_nil : AD K tNil ρ [] := fun G H σ I Q q => q [] G H (Step.refl I.gh) .nil
theorem ad_cons {tr : TA} (h : ED K ta ρ d) (hr : AD K tr ρ ds) : AD K (tCons ta tr) ρ (d :: ds) := fun G H σ I Q q =>
  h G H σ I _ fun v G1 H1 s1 h1 => hr G1 H1 σ (I.step s1) _ fun vs G2 H2 s2 h2 => q (v :: vs) G2 H2 (s1.trans s2) (.cons (dp_mono s2.g _ _ h1) h2)
theorem ed_tup {tr : TA} (h : AD K tr ρ ds) (hl : ds.length ≤ 100000) : ED K (tTup tr) ρ (.tuple ds) := fun G H σ I Q q =>
  h G H σ I _ fun vs G1 H1 s1 h1 => ⟨by rw [h1.len]; exact sz_of hl, fun p hp =>
    q (.ref p) (upd G1 p (.tup vs)) _ (s1.trans (Step.alloc s1.gh hp)) (.tup (st_of upd_same) (dpa_mono (Ex.new (fresh_back s1.gh hp)) _ _ h1))⟩
theorem ef_lst {tr : TA} (h : AD K tr ρ ds) (hl : ds.length ≤ 100000) : EF K (tLst tr) ρ ds := fun G H σ I Q q =>
  h G H σ I _ fun vs G1 H1 s1 h1 => ⟨by rw [h1.len]; exact sz_of hl, fun p hp =>
    q p vs G1 _ (s1.trans (Step.allocO s1.gh hp)) (fresh_back s1.h hp) (fresh_back s1.gh hp) upd_same h1⟩
end

/-! ### sequences -/
section
variable {K : PySem.W.Frag} {ρ : Rho} {ta tb tc te : TE} {t u : TT} {d e f : PyData} {ds es : List PyData} {i j : Int} {n : Nat}
theorem atI_get {α : Type} {xs : List α} {i : Int} {a : α} (h : atI xs i = some a) : ∃ k, ixN xs.length i = some k ∧ xs[k]? = some a := by
  unfold atI at h
  cases q : ixN xs.length i with
  | none => rw [q] at h; cases h
  | some k => rw [q] at h; exact ⟨k, rfl, h⟩
theorem atI_mk {α : Type} {xs : List α} {i : Int} {a : α} {k : Nat} (h1 : ixN xs.length i = some k) (h2 : xs[k]? = some a) : atI xs i = some a := by
  unfold atI; rw [h1]; exact h2
theorem atI_dp {G : Hp} {vs : List V} (h : DpAll K G vs ds) (a : atI ds i = some d) : ∃ v, atI vs i = some v ∧ Dp K G v d := by
  obtain ⟨k, h1, h2⟩ := atI_get a
  obtain ⟨v, h3, h4⟩ := h.get h2
  exact ⟨v, atI_mk (by rw [h.len]; exact h1) h3, h4⟩
theorem ed_ix (ha : ED K ta ρ d) (s : SeqD d ds) (hb : ED K tb ρ (.int i)) (h : atI ds i = some f) : ED K (tOp (rIx K) ta tb) ρ f :=
  ed_op ha hb fun x y G H ex hx hy Q q => by
    cases dp_int hy
    obtain ⟨a, xs, rfl, hs, hd⟩ := s.of hx
    obtain ⟨v, h1, h2⟩ := atI_dp hd h
    rcases hs with hs | hs
    · exact .inl ⟨a, xs, i, v, rfl, rfl, ex_l ex hs, h1, q v G H (Step.refl ex) h2⟩
    · exact .inr (.inl ⟨a, xs, i, v, rfl, rfl, ex_t ex hs, h1, q v G H (Step.refl ex) h2⟩)
/-- an item of a list of one's own -/
theorem ed_ixO {k : Nat} (ho : ρ[k]? = some (some (.own ds))) (hb : ED K tb ρ (.int i)) (h : atI ds i = some f) : ED K (tOp (rIx K) (tVar k) tb) ρ f := fun G H σ I Q q => by
  obtain ⟨p, vs, h1, h2, h3, h4⟩ := I.own k ds ho
  refine ⟨_, h1, hb G H σ I _ fun y G2 H2 s hy => ?_⟩
  cases dp_int hy
  obtain ⟨v, a1, a2⟩ := atI_dp h4 h
  exact .inl ⟨p, vs, i, v, rfl, rfl, sq_of (s.h _ _ h2), a1, q v G2 H2 s (dp_mono s.g _ _ a2)⟩
def tLen (K : PySem.W.Frag) (ta : TE) : TE := tCB (rLenS K) (tCons ta tNil)
theorem ed_len (ha : ED K ta ρ d) (s : SeqD d ds) : ED K (tLen K ta) ρ (.int ds.length) := fun G H σ I Q q => ha G H σ I _ fun v G2 H2 st hv => by
  obtain ⟨a, xs, rfl, hs, hd⟩ := s.of hv
  refine ⟨a, xs, rfl, ?_, ?_⟩
  · rcases hs with hs | hs
    · exact .inl (ex_l st.gh hs)
    · exact .inr (ex_t st.gh hs)
  · rw [hd.len]; exact q _ G2 H2 st (.int _)
theorem ed_lenO {k : Nat} (ho : ρ[k]? = some (some (.own ds))) : ED K (tLen K (tVar k)) ρ (.int ds.length) := fun G H σ I Q q => by
  obtain ⟨p, vs, h1, h2, h3, h4⟩ := I.own k ds ho
  refine ⟨_, h1, p, vs, rfl, .inl (sq_of h2), ?_⟩
  rw [h4.len]; exact q _ G H (Step.refl I.gh) (.int _)
theorem ef_list (ha : ED K ta ρ d) (s : SeqD d ds) : EF K (tCB (rListS K) (tCons ta tNil)) ρ ds := fun G H σ I Q q => ha G H σ I _ fun v G2 H2 st hv => by
  obtain ⟨a, xs, rfl, hs, hd⟩ := s.of hv
  refine ⟨a, xs, rfl, ?_, fun l hl => q l xs G2 _ (st.trans (Step.allocO st.gh hl)) (fresh_back st.h hl) (fresh_back st.gh hl) upd_same hd⟩
  rcases hs with hs | hs
  · exact .inl (ex_l st.gh hs)
  · exact .inr (ex_t st.gh hs)
def rTupS (K : PySem.W.Frag) : List V → Hp → VK → Prop := fun xs H Q => ∃ p ys, xs = [.ref p] ∧ ((SqL K H p ys ∧ ∀ l, H l = none → Q (.ref l) (upd H l (.tup ys))) ∨ (SqT K H p ys ∧ Q (.ref p) H))
theorem ed_tuple (ha : ED K ta ρ d) (s : SeqD d ds) : ED K (tCB (rTupS K) (tCons ta tNil)) ρ (.tuple ds) := fun G H σ I Q q => ha G H σ I _ fun v G2 H2 st hv => by
  obtain ⟨a, xs, rfl, hs, hd⟩ := s.of hv
  refine ⟨a, xs, rfl, ?_⟩
  rcases hs with hs | hs
  · exact .inl ⟨ex_l st.gh hs, fun l hl => q (.ref l) (upd G2 l (.tup xs)) _ (st.trans (Step.alloc st.gh hl)) (.tup (st_of upd_same) (dpa_mono (Ex.new (fresh_back st.gh hl)) _ _ hd))⟩
  · exact .inr ⟨ex_t st.gh hs, q (.ref a) G2 H2 st (.tup hs hd)⟩
/-- slices -/
def OD (K : PySem.W.Frag) (to : TO) (ρ : Rho) (o : Option Int) : Prop := ∀ G H σ, Env K G H σ ρ → ∀ Q : Option Int → Hp → Prop, (∀ G2 H2, Step G H G2 H2 → Q o H2) → to σ H Q
theorem od_none : OD K tNoPart ρ none := fun G H σ I Q q => q G H (Step.refl I.gh)
theorem od_some (h : ED K te ρ (.int i)) : OD K (tPart te) ρ (some i) := fun G H σ I Q q => h G H σ I _ fun v G2 H2 s hv => by
  cases dp_int hv
  exact ⟨i, rfl, q G2 H2 s⟩
def cutD (xs : List PyData) (lo hi : Option Int) : List PyData := (xs.drop (HT.sIx xs.length 0 lo)).take (HT.sIx xs.length xs.length hi - HT.sIx xs.length 0 lo)
theorem cut_dp {G : Hp} {vs : List V} (h : DpAll K G vs ds) (lo hi : Option Int) : DpAll K G (cutV vs lo hi) (cutD ds lo hi) := by
  unfold cutV cutD
  rw [h.len]
  exact (h.dr _).tk _
/-- a slice of a list or of a tuple -/
def rSlS (K : PySem.W.Frag) : V → Option Int → Option Int → Hp → VK → Prop := fun x lo hi H Q => rSlL K x lo hi H Q ∨ rSlA K x lo hi H Q
theorem sl_seq {X : Cx} : SlR X (rSlS X.K) := SlR.or sl_list sl_tupA
theorem ef_sl {tl th : TO} {lo hi : Option Int} (ha : ED K te ρ (.list ds)) (h1 : OD K tl ρ lo) (h2 : OD K th ρ hi) : EF K (tSl (rSlS K) te tl th) ρ (cutD ds lo hi) := fun G H σ I Q q =>
  ha G H σ I _ fun v G1 H1 s1 hv => h1 G1 H1 σ (I.step s1) _ fun G2 H2 s2 => h2 G2 H2 σ (I.step (s1.trans s2)) _ fun G3 H3 s3 => by
    have sA := (s1.trans s2).trans s3
    obtain ⟨a, xs, rfl, hs, hd⟩ := (SeqD.l ds).of hv
    cases hv with
    | lst hq ha2 =>
      rename_i xs'
      exact .inl ⟨a, _, rfl, ex_l ((s2.trans s3).g.trans s3.gh) hq, fun p hp => q p _ G3 _ (sA.trans (Step.allocO s3.gh hp)) (fresh_back sA.h hp) (fresh_back s3.gh hp) upd_same (dpa_mono (s2.trans s3).g _ _ (cut_dp ha2 lo hi))⟩
theorem cutV_whole {xs : List V} {lo hi : Option Int} (h : HT.sIx xs.length 0 lo = 0 ∧ HT.sIx xs.length xs.length hi = xs.length) : cutV xs lo hi = xs := by
  unfold cutV
  rw [h.1, h.2, List.drop_zero, Nat.sub_zero, List.take_length]
theorem ed_slT {tl th : TO} {lo hi : Option Int} (ha : ED K te ρ (.tuple ds)) (h1 : OD K tl ρ lo) (h2 : OD K th ρ hi) : ED K (tSl (rSlS K) te tl th) ρ (.tuple (cutD ds lo hi)) := fun G H σ I Q q =>
  ha G H σ I _ fun v G1 H1 s1 hv => h1 G1 H1 σ (I.step s1) _ fun G2 H2 s2 => h2 G2 H2 σ (I.step (s1.trans s2)) _ fun G3 H3 s3 => by
    have sA := (s1.trans s2).trans s3
    have s23 := s2.trans s3
    cases hv with
    | tup hq ha2 =>
      have cd := cut_dp ha2 lo hi
      refine .inr ⟨_, _, rfl, ex_t (s23.g.trans s3.gh) hq, fun w => ?_, fun w p hp => ?_⟩
      · rw [cutV_whole w] at cd
        exact q _ G3 H3 sA (.tup (ex_t s23.g hq) (dpa_mono s23.g _ _ cd))
      · exact q (.ref p) (upd G3 p (.tup _)) _ (sA.trans (Step.alloc s3.gh hp)) (.tup (st_of upd_same) (dpa_mono (s23.g.trans (Ex.new (fresh_back s3.gh hp))) _ _ cd))
/-- list + list -/
def rCatS (K : PySem.W.Frag) : R2 := fun x y H Q => ∃ l b xs zs, x = .ref l ∧ y = .ref b ∧ SqL K H l xs ∧ SqL K H b zs ∧ xs.length + zs.length ≤ sizeLine ∧ ∀ p, H p = none → Q (.ref p) (upd H p (.lst (xs ++ zs)))
theorem op_catS {X : Cx} : OpR X (binaryOp .Add) (rCatS X.K) := by
  intro pins s σ H x y v u Q I rx ry h
  obtain ⟨l, b, xs, zs, rfl, rfl, hH, hB, hz, q⟩ := h
  cases rx
  cases ry
  obtain ⟨its, r, pl, z⟩ := I.list hH
  obtain ⟨its2, r2, pl2, z2⟩ := I.list hB
  obtain ⟨⟨cls, dd, data, sl⟩, n, ho, hc, hdd, hd⟩ := pl
  obtain ⟨⟨cls2, dd2, data2, sl2⟩, n2, ho2, hc2, hdd2, hd2⟩ := pl2
  simp only at hc hd hc2 hd2
  subst hc hd hc2 hd2
  have e1 := r.length
  have e2 := r2.length
  refine PySem.concat_meets ⟨_, ho, rfl⟩ ⟨_, ho2, rfl⟩ PySem.noFill_list_add PySem.seq_list_add F.slot_list_add F.entry_list_add (F.args_list_add_2 _ _)
    (PyProof.Rows.list_addW l b its.toArray its2.toArray n n2 dd dd2 sl sl2 (by rw [List.size_toArray, List.size_toArray]; omega)) ⟨ho, ho2, ?_⟩
  have ea : its.toArray ++ its2.toArray = (its ++ its2).toArray := by simp
  rw [ea]
  exact ⟨.ref _, _, I.lnew (t' := s.toks) (r.append r2) (by rw [List.length_append]; omega), rfl, q _ I.fresh⟩
theorem ef_cat (ha : ED K ta ρ (.list ds)) (hb : ED K tb ρ (.list es)) (hz : ds.length + es.length ≤ 100000) : EF K (tOp (rCatS K) ta tb) ρ (ds ++ es) :=
  ef_op ha hb fun x y G H ex hx hy Q q => by
    cases hx with
    | lst h1 h2 =>
      cases hy with
      | lst h3 h4 =>
        exact ⟨_, _, _, _, rfl, rfl, ex_l ex h1, ex_l ex h3, by rw [h2.len, h4.len]; exact sz_of hz, fun p hp => q p _ G _ (Step.allocO ex hp) hp (fresh_back ex hp) upd_same (h2.app h4)⟩
/-- abs, gcd -/
def rAbs : List V → Hp → VK → Prop := fun xs H Q => ∃ i, xs = [.int i] ∧ Q (.int (if i < 0 then -i else i)) H
theorem ed_abs (ha : ED K ta ρ (.int i)) : ED K (tCB rAbs (tCons ta tNil)) ρ (.int (if i < 0 then -i else i)) := fun G H σ I Q q => ha G H σ I _ fun v G2 H2 s hv => by
  cases dp_int hv
  exact ⟨i, rfl, q _ G2 H2 s (.int _)⟩
theorem ed_gcd (ha : ED K ta ρ (.int i)) (hb : ED K tb ρ (.int j)) : ED K (tCB rGcd (tCons ta (tCons tb tNil))) ρ (.int ((Nat.gcd i.natAbs j.natAbs : Nat) : Int)) := fun G H σ I Q q =>
  ha G H σ I _ fun v G1 H1 s1 hv => hb G1 H1 σ (I.step s1) _ fun y G2 H2 s2 hy => by
    cases dp_int hv; cases dp_int hy
    exact ⟨i, j, rfl, q _ G2 H2 (s1.trans s2) (.int _)⟩
/-- isinstance(x, T), T built in -/
def tyN : PyData → String
  | .none => "NoneType" | .bool _ => "bool" | .int _ => "int" | .str _ => "str" | .list _ => "list" | .tuple _ => "tuple" | .dict _ => "dict"
theorem dp_ty {G : Hp} {v : V} (h : Dp K G v d) : TyX K G v (.type (tyN d)) := by
  cases d with
  | none => cases h; exact .base .non
  | bool b => cases h; exact .base (.bl b)
  | int b => cases h; exact .base (.int b)
  | str b => cases h; exact .base (.str b)
  | list b =>
    cases h with
    | lst hs _ =>
      rcases hs with (h | ⟨o, h⟩) | ⟨o, its, n, hk, hc, _⟩
      · exact .base (.lst h)
      · exact .base (.frz h)
      · exact .kList hk hc
  | tuple b =>
    cases h with
    | tup hs _ =>
      rcases hs with (h | ⟨o, h⟩) | ⟨o, its, n, hk, hc, _⟩
      · exact .base (.tup h)
      · exact .fTuple h
      · exact .kTuple hk hc
  | dict _ => cases h
theorem ty_mono {G H : Hp} {v : V} {t : String} (e : Ex G H) (h : Dp K G v d) (ht : tyN d = t) : TyX K H v (.type t) := ht ▸ dp_ty (dp_mono e _ _ h)
theorem ed_isi {T : String} {b : Bool} (ha : ED K ta ρ d) (h : kitB (tyN d) T = some b) : ED K (tCB (rIsi K) (tCons ta (tCons (tC (.ty T)) tNil))) ρ (.bool b) := fun G H σ I Q q => ha G H σ I _ fun v G2 H2 s hv =>
  ⟨v, .ty T, .type (tyN d), .type T, b, rfl, .ty T, ty_mono s.gh hv rfl, kit_ty h, q _ G2 H2 s (.bl b)⟩
end

/-! ### results and calls -/
inductive Res where
  | rt (d : PyData)
  | rf (ds : List PyData)
  | xc (C : Addr)
def RP (K : PySem.W.Frag) (r : Res) (G B : Hp) (Q : VK) (E : XK) : Prop := match r with
  | .rt d => ∀ v G2 H2, Step G B G2 H2 → Dp K G2 v d → Q v H2
  | .rf ds => ∀ p vs G2 H2, Step G B G2 H2 → B p = none → G2 p = none → H2 p = some (.lst vs) → DpAll K G2 vs ds → Q (.ref p) H2
  | .xc C => ∀ G2 H2, Step G B G2 H2 → E (.ref C) none H2
/-- a promise by data -/
def spD (K : PySem.W.Frag) (n : Nat) (F : List PyData → Res → Prop) : Sp := fun vs H Q E => vs.length = n ∧ ∃ G ds r, Ex G H ∧ DpAll K G vs ds ∧ F ds r ∧ RP K r G H Q E
section
variable {K : PySem.W.Frag} {ρ : Rho} {ta : TA} {d : PyData} {ds es : List PyData} {n : Nat} {F : List PyData → Res → Prop} {E : XK}
theorem ed_call (ha : AD K ta ρ ds) (h : F ds (.rt d)) (hn : ds.length = n) : ED K (tCall (spD K n F) [] E ta) ρ d := fun G H σ I Q q => ha G H σ I _ fun vs G2 H2 s hv => by
  rw [List.append_nil]
  exact ⟨hv.len.trans hn, G2, ds, .rt d, s.gh, hv, h, fun v G3 H3 s3 h3 => q v G3 H3 (s.trans s3) h3⟩
theorem ef_call (ha : AD K ta ρ ds) (h : F ds (.rf es)) (hn : ds.length = n) : EF K (tCall (spD K n F) [] E ta) ρ es := fun G H σ I Q q => ha G H σ I _ fun vs G2 H2 s hv => by
  rw [List.append_nil]
  exact ⟨hv.len.trans hn, G2, ds, .rf es, s.gh, hv, h, fun p ws G3 H3 s3 hp hg hl hd => q p ws G3 H3 (s.trans s3) (fresh_back s.h hp) hg hl hd⟩
end

/-! ### statements -/
inductive Out where
  | nx (ρ : Rho)
  | rt (d : PyData)
  | rf (ds : List PyData)
  | bk (ρ : Rho)
  | ct (ρ : Rho)
section
variable (K : PySem.W.Frag) (B0 B : Hp)
def Post (G : Hp) (D : Ends) : Out → Prop
  | .nx ρ => ∀ G2 H2 σ2, Ex G G2 → Env K G2 H2 σ2 ρ → Base B0 B G2 H2 σ2 ρ → D.nx σ2 H2
  | .bk ρ => ∀ G2 H2 σ2, Ex G G2 → Env K G2 H2 σ2 ρ → Base B0 B G2 H2 σ2 ρ → D.bk σ2 H2
  | .ct ρ => ∀ G2 H2 σ2, Ex G G2 → Env K G2 H2 σ2 ρ → Base B0 B G2 H2 σ2 ρ → D.ct σ2 H2
  | .rt d => ∀ v G2 H2, Step B0 B G2 H2 → Dp K G2 v d → D.rt v H2
  | .rf ds => ∀ p vs G2 H2, Step B0 B G2 H2 → B p = none → G2 p = none → H2 p = some (.lst vs) → DpAll K G2 vs ds → D.rt (.ref p) H2
def SD (t : TS) (ρ : Rho) (P : Out → Prop) : Prop := ∀ G H σ D, Env K G H σ ρ → Base B0 B G H σ ρ → (∀ o, P o → Post K B0 B G D o) → t D σ H
end
section
variable {K : PySem.W.Frag} {B0 B : Hp} {ρ : Rho} {ta te : TE} {c : TT} {t u : TS} {d e : PyData} {ds es : List PyData} {P R : Out → Prop} {i : Nat}
theorem Post.mono {G G2 : Hp} {D : Ends} {o : Out} (e : Ex G G2) (h : Post K B0 B G D o) : Post K B0 B G2 D o := by
  cases o with
  | nx ρ => exact fun G3 H3 σ3 e3 => h G3 H3 σ3 (e.trans e3)
  | bk ρ => exact fun G3 H3 σ3 e3 => h G3 H3 σ3 (e.trans e3)
  | ct ρ => exact fun G3 H3 σ3 e3 => h G3 H3 σ3 (e.trans e3)
  | rt d => exact h
  | rf ds => exact h
theorem SD.imp (h : SD K B0 B t ρ P) (k : ∀ o, P o → R o) : SD K B0 B t ρ R := fun G H σ D I b q => h G H σ D I b fun o po => q o (k o po)
/-- what follows a statement -/
def Then (K : PySem.W.Frag) (B0 B : Hp) (u : TS) (P : Out → Prop) : Out → Prop
  | .nx ρ => SD K B0 B u ρ P
  | o => P o
theorem sd_seq (h : SD K B0 B t ρ (Then K B0 B u P)) : SD K B0 B (tSeq t u) ρ P := fun G H σ D I b q => h G H σ { D with nx := u D } I b fun o po => by
  cases o with
  | nx ρ2 => exact fun G2 H2 σ2 e I2 b2 => po G2 H2 σ2 D I2 b2 fun o' po' => (q o' po').mono e
  | rt d => exact q _ po
  | rf ds => exact q _ po
  | bk ρ2 => exact q _ po
  | ct ρ2 => exact q _ po
theorem sd_next (h : P (.nx ρ)) : SD K B0 B tNext ρ P := fun G H σ D I b q => q _ h G H σ (Ex.refl G) I b
theorem sd_brk (h : P (.bk ρ)) : SD K B0 B tBreak ρ P := fun G H σ D I b q => q _ h G H σ (Ex.refl G) I b
theorem sd_cont (h : P (.ct ρ)) : SD K B0 B tCont ρ P := fun G H σ D I b q => q _ h G H σ (Ex.refl G) I b
theorem sd_set (h : ED K te ρ d) (k : P (.nx (ρ.set i (some (.d d))))) : SD K B0 B (tAsg te (gName i)) ρ P := fun G H σ D I b q =>
  h G H σ I _ fun v G2 H2 s hv => q _ k G2 H2 _ s.g ((I.step s).set hv i) ((b.step s).set i)
theorem sd_setF (h : EF K te ρ ds) (k : P (.nx (ρ.set i (some (.own ds))))) : SD K B0 B (tAsg te (gName i)) ρ P := fun G H σ D I b q =>
  h G H σ I _ fun p vs G2 H2 s hp hg hl hd => q _ k G2 H2 _ s.g (I.setO s hp hg hl hd i) (b.setO I s hp i)
theorem sd_drop (h : ED K te ρ d) (k : P (.nx ρ)) : SD K B0 B (tDrop te) ρ P := fun G H σ D I b q =>
  h G H σ I _ fun v G2 H2 s hv => q _ k G2 H2 _ s.g (I.step s) (b.step s)
theorem sd_if {b : Bool} (h : TD K c ρ b) (h1 : b = true → SD K B0 B t ρ P) (h2 : b = false → SD K B0 B u ρ P) : SD K B0 B (tIfS c t u) ρ P := fun G H σ D I bb q =>
  h G H σ I _ fun G2 H2 s => by
    cases b with
    | true =>
      show t D σ H2
      exact h1 rfl G2 H2 σ D (I.step s) (bb.step s) fun o po => (q o po).mono s.g
    | false =>
      show u D σ H2
      exact h2 rfl G2 H2 σ D (I.step s) (bb.step s) fun o po => (q o po).mono s.g
theorem sd_ret (h : ED K te ρ d) (k : P (.rt d)) : SD K B0 B (tRet te) ρ P := fun G H σ D I b q =>
  h G H σ I _ fun v G2 H2 s hv => q _ k v G2 H2 (b.st.trans s) hv
theorem sd_retF (h : EF K te ρ ds) (k : P (.rf ds)) : SD K B0 B (tRet te) ρ P := fun G H σ D I b q =>
  h G H σ I _ fun p vs G2 H2 s hp hg hl hd => q _ k p vs G2 H2 (b.st.trans s) (fresh_back b.st.h hp) hg hl hd
/-- a list of one's own is handed back -/
theorem sd_retO (h : ρ[i]? = some (some (.own ds))) (k : P (.rf ds)) : SD K B0 B (tRet (tVar i)) ρ P := fun G H σ D I b q => by
  obtain ⟨p, vs, h1, h2, h3, h4⟩ := I.own i ds h
  exact ⟨_, h1, q _ k p vs G H b.st (b.own i ds p h h1) h3 h2 h4⟩
theorem sd_frz (h : ρ[i]? = some (some (.own ds))) (k : SD K B0 B t (ρ.set i (some (.d (.list ds)))) P) : SD K B0 B t ρ P := fun G H σ D I b q => by
  obtain ⟨G2, e, I2, b2⟩ := I.frz b h
  exact k G2 H σ D I2 b2 fun o po => (q o po).mono e
theorem sd_app (h : ρ[i]? = some (some (.own ds))) (he : ED K te ρ d) (hl : ds.length < 100000) (k : P (.nx (ρ.set i (some (.own (ds ++ [d])))))) : SD K B0 B (tDrop (tBM K "list" rAppend (tVar i) (tCons te tNil))) ρ P := fun G H σ D I b q => by
  obtain ⟨p, vs, h1, h2, h3, h4⟩ := I.own i ds h
  refine ⟨_, h1, .inl ⟨rfl, _, sq_of h2⟩, he G H σ I _ fun v G2 H2 s hv => ?_⟩
  have I2 := I.step s
  have b2 := b.step s
  obtain ⟨p', vs', g1, g2, g3, g4⟩ := I2.own i ds h
  rw [h1] at g1; cases g1
  refine ⟨p, vs', v, rfl, rfl, g2, by rw [g4.len]; exact sz_lt hl, ?_⟩
  exact q _ k G2 _ σ s.g (I2.mut h h1 (g4.app (.cons hv .nil))) (b2.mut I2 h h1)
theorem sd_rev (h : ρ[i]? = some (some (.own ds))) (k : P (.nx (ρ.set i (some (.own ds.reverse))))) : SD K B0 B (tDrop (tBM0 K "list" rReverse (tVar i))) ρ P := fun G H σ D I b q => by
  obtain ⟨p, vs, h1, h2, h3, h4⟩ := I.own i ds h
  refine ⟨_, h1, .inl ⟨rfl, _, sq_of h2⟩, p, vs, rfl, rfl, h2, ?_⟩
  exact q _ k G _ σ (Ex.refl G) (I.mut h h1 h4.rev) (b.mut I h h1)
/-- xs[k] = e -/
theorem sd_setI {tk : TE} {k : Int} {m : Nat} (h : ρ[i]? = some (some (.own ds))) (he : ED K te ρ d) (hk : ED K tk ρ (.int k)) (hm : ixN ds.length k = some m) (kk : P (.nx (ρ.set i (some (.own (ds.set m d)))))) : SD K B0 B (tAsg te (gSub (tVar i) tk rSetL)) ρ P := fun G H σ D I b q =>
  he G H σ I _ fun v G1 H1 s1 hv => by
    have I1 := I.step s1
    obtain ⟨p, vs, h1, h2, h3, h4⟩ := I1.own i ds h
    refine ⟨_, h1, hk G1 H1 σ I1 _ fun y G2 H2 s2 hy => ?_⟩
    cases dp_int hy
    have I2 := I1.step s2
    have b2 := (b.step s1).step s2
    obtain ⟨p', vs', g1, g2, g3, g4⟩ := I2.own i ds h
    rw [h1] at g1; cases g1
    refine ⟨p, vs', k, m, rfl, rfl, g2, by rw [g4.len]; exact hm, ?_⟩
    exact q _ kk G2 _ σ (s1.trans s2).g (I2.mut h h1 (g4.st m (dp_mono s2.g _ _ hv))) (b2.mut I2 h h1)
theorem sd_aug {f : Int → Int → Int} {a b : Int} (hx : ρ[i]? = some (some (.d (.int a)))) (h : ED K te ρ (.int b)) (k : P (.nx (ρ.set i (some (.d (.int (f a b))))))) : SD K B0 B (tAug i te (ipI f)) ρ P := fun G H σ D I bb q => by
  obtain ⟨v, h1, h2⟩ := I.dat i _ hx
  cases dp_int h2
  refine ⟨_, h1, h G H σ I _ fun y G2 H2 s hy => ?_⟩
  cases dp_int hy
  exact ⟨a, b, rfl, rfl, q _ k G2 H2 _ s.g ((I.step s).set (.int _) i) ((bb.step s).set i)⟩
theorem sd_par {j : Nat} {tr : TA} (h : AD K tr ρ [d, e]) (k : P (.nx ((ρ.set i (some (.d d))).set j (some (.d e))))) : SD K B0 B (tPar i j tr) ρ P := fun G H σ D I b q =>
  h G H σ I _ fun vs G2 H2 s hv => by
    cases hv with
    | cons h1 h2 =>
      cases h2 with
      | cons h2 h3 =>
        cases h3
        exact ⟨_, _, rfl, q _ k G2 H2 _ s.g (((I.step s).set h1 i).set h2 j) (((b.step s).set i).set j)⟩
theorem sd_raise {C : Addr} {E : XK} (h : ∀ G H, Step B0 B G H → E (.ref C) none H) : SD K B0 B (fun _ _ H => E (.ref C) none H) ρ P := fun G H σ D I b q => h G H b.st
/-- what a loop's turn leads to -/
def Turn (N : Rho → Prop) (P : Out → Prop) : Out → Prop
  | .nx ρ => N ρ
  | .ct ρ => N ρ
  | .bk ρ => P (.nx ρ)
  | .rt d => P (.rt d)
  | .rf ds => P (.rf ds)
theorem sd_while (W : Nat → Rho → Prop) (m0 : Nat) (h0 : W m0 ρ)
    (hs : ∀ m ρ', W m ρ' → ∃ b, TD K c ρ' b ∧ (b = true → SD K B0 B t ρ' (Turn (fun ρ2 => ∃ m', m' < m ∧ W m' ρ2) P)) ∧ (b = false → P (.nx ρ'))) : SD K B0 B (tWhile c t) ρ P := fun G0 H0 σ0 D I0 b0 q => by
  refine ⟨fun m σ H => ∃ G ρ', Ex G0 G ∧ Env K G H σ ρ' ∧ Base B0 B G H σ ρ' ∧ W m ρ', ⟨m0, G0, ρ, Ex.refl G0, I0, b0, h0⟩, ?_⟩
  rintro m σ H ⟨G, ρ', eg, I, bb, w⟩
  obtain ⟨b, h1, h2, h3⟩ := hs m ρ' w
  refine h1 G H σ I _ fun G2 H2 s => ?_
  cases b with
  | true =>
    refine ⟨fun σ3 H3 => ∃ G3 ρ3, Ex G0 G3 ∧ Env K G3 H3 σ3 ρ3 ∧ Base B0 B G3 H3 σ3 ρ3 ∧ ∃ m', m' < m ∧ W m' ρ3, fun σ3 H3 ⟨G3, ρ3, e3, I3, b3, m', lt, w3⟩ => ⟨m', lt, G3, ρ3, e3, I3, b3, w3⟩, ?_⟩
    have e02 : Ex G0 G2 := eg.trans s.g
    refine h2 rfl G2 H2 σ _ (I.step s) (bb.step s) fun o po => ?_
    cases o with
    | nx ρ3 => exact fun G3 H3 σ3 e3 I3 b3 => ⟨G3, ρ3, e02.trans e3, I3, b3, po⟩
    | ct ρ3 => exact fun G3 H3 σ3 e3 I3 b3 => ⟨G3, ρ3, e02.trans e3, I3, b3, po⟩
    | bk ρ3 => exact fun G3 H3 σ3 e3 I3 b3 => q _ po G3 H3 σ3 (e02.trans e3) I3 b3
    | rt d => exact q _ po
    | rf ds => exact q _ po
  | false => exact q _ (h3 rfl) G2 H2 σ (eg.trans s.g) (I.step s) (bb.step s)
end

/-! ### what is walked -/
def Its (K : PySem.W.Frag) (J : It) (G : Hp) (ds : List PyData) : Prop :=
  (∀ i G' H', Ex G G' → Ex G' H' → ds.length ≤ i → J.stop i H') ∧
  (∀ i d G' H', Ex G G' → Ex G' H' → ds[i]? = some d → J.go i H' ∧ ∀ x H2, J.yld i H' x H2 → ∃ G2, Step G' H' G2 H2 ∧ Dp K G2 x d)
def ID (K : PySem.W.Frag) (wi : TI) (ρ : Rho) (ds : List PyData) : Prop := ∀ G H σ, Env K G H σ ρ → ∀ R : It → Hp → Prop, (∀ J G2 H2, Step G H G2 H2 → Its K J G2 ds → R J H2) → wi σ H R
/-- a list or a tuple -/
def iSeq (K : PySem.W.Frag) (tl : TE) : TI := fun σ H R => tl σ H fun x H1 => ∃ a, x = .ref a ∧ (((∃ xs, SqL K H1 a xs) ∧ R (Itl K a) H1) ∨ ((∃ xs, SqT K H1 a xs) ∧ R (Itt K a) H1))
theorem pi_seq {X : Cx} {tg l : Expr} {tl : TE} (hl : PE X l tl) : PI X tg l (iSeq X.K tl) := by
  refine ⟨fun pins s σ H R I h => ?_⟩
  refine thn (hl.run pins s σ H _ I h) fun v s1 ⟨x, H1, I1, r1, q1⟩ => ?_
  obtain ⟨a, e, q1⟩ := q1
  subst e
  cases r1
  rcases q1 with ⟨⟨xs, hq⟩, q⟩ | ⟨⟨xs, hq⟩, q⟩
  · obtain ⟨its, rv, p, hz⟩ := I1.list hq
    refine wpAny_pyIter_list p.isList ?_
    refine ⟨s1.heap.objs.size, [s1.heap.objs.size], _, _, H1, rfl, I1.kept (t' := s1.toks) fun b o e => Heap.get?_push_of_some _ e, turn_list a _, ⟨_, Heap.get?_push_size _ rfl, rfl, rfl⟩, fun b hb => ?_, q⟩
    have e : b = s1.heap.objs.size := by simpa using hb
    subst e
    exact I1.fpOk (Nat.le_refl _) (I1.hok.fresh (Nat.le_refl _))
  · obtain ⟨its, rv, p, hz⟩ := I1.tuple hq
    refine wpAny_pyIter_tuple (show s1.heap.IsTuple a its.toArray from p) ?_
    refine ⟨s1.heap.objs.size, [s1.heap.objs.size], _, _, H1, rfl, I1.kept (t' := s1.toks) fun b o e => Heap.get?_push_of_some _ e, turn_tuple a _, ⟨_, Heap.get?_push_size _ rfl, rfl, rfl⟩, fun b hb => ?_, q⟩
    have e : b = s1.heap.objs.size := by simpa using hb
    subst e
    exact I1.fpOk (Nat.le_refl _) (I1.hok.fresh (Nat.le_refl _))
section
variable {K : PySem.W.Frag} {B0 B : Hp} {ρ : Rho} {te : TE} {ta : TA} {c tt : TT} {t u : TS} {d e : PyData} {ds es : List PyData} {P R : Out → Prop} {i j : Nat} {wi : TI}
theorem its_l {G : Hp} {a : Addr} {xs : List V} (h : SqL K G a xs) (hd : DpAll K G xs ds) : Its K (Itl K a) G ds := by
  refine ⟨fun i G' H' e1 e2 hi => ⟨xs, ex_l (e1.trans e2) h, by rw [hd.len]; exact hi⟩, fun i d G' H' e1 e2 hi => ?_⟩
  obtain ⟨v, h1, h2⟩ := hd.get hi
  refine ⟨⟨xs, v, ex_l (e1.trans e2) h, h1⟩, fun x H2 hy => ?_⟩
  obtain ⟨rfl, hy⟩ := hy
  have := hy xs (ex_l (e1.trans e2) h)
  rw [h1] at this; cases this
  exact ⟨G', Step.refl e2, dp_mono e1 _ _ h2⟩
theorem its_t {G : Hp} {a : Addr} {xs : List V} (h : SqT K G a xs) (hd : DpAll K G xs ds) : Its K (Itt K a) G ds := by
  refine ⟨fun i G' H' e1 e2 hi => ⟨xs, ex_t (e1.trans e2) h, by rw [hd.len]; exact hi⟩, fun i d G' H' e1 e2 hi => ?_⟩
  obtain ⟨v, h1, h2⟩ := hd.get hi
  refine ⟨⟨xs, v, ex_t (e1.trans e2) h, h1⟩, fun x H2 hy => ?_⟩
  obtain ⟨rfl, hy⟩ := hy
  have := hy xs (ex_t (e1.trans e2) h)
  rw [h1] at this; cases this
  exact ⟨G', Step.refl e2, dp_mono e1 _ _ h2⟩
theorem id_seq (h : ED K te ρ d) (s : SeqD d ds) : ID K (iSeq K te) ρ ds := fun G H σ I R q => h G H σ I _ fun v G2 H2 st hv => by
  obtain ⟨a, xs, rfl, hs, hd⟩ := s.of hv
  refine ⟨a, rfl, ?_⟩
  rcases hs with hs | hs
  · exact .inl ⟨⟨xs, ex_l st.gh hs⟩, q _ G2 H2 st (its_l hs hd)⟩
  · exact .inr ⟨⟨xs, ex_t st.gh hs⟩, q _ G2 H2 st (its_t hs hd)⟩
theorem id_revA (h : ED K te ρ d) (s : SeqD d ds) : ID K (RT.iRevA K te) ρ ds.reverse := fun G H σ I R q => h G H σ I _ fun v G2 H2 st hv => by
  obtain ⟨a, xs, rfl, hs, hd⟩ := s.of hv
  have ln := hd.len
  have back : ∀ i d, ds.reverse[i]? = some d → i < xs.length ∧ ∃ v, xs[xs.length - 1 - i]? = some v ∧ Dp K G2 v d := fun i d hi => by
    have hlt : i < ds.length := by have := (List.getElem?_eq_some_iff.mp hi).1; rwa [List.length_reverse] at this
    rw [List.getElem?_reverse hlt] at hi
    obtain ⟨v, h1, h2⟩ := hd.get hi
    exact ⟨by omega, v, by rw [ln]; exact h1, h2⟩
  refine ⟨a, xs, rfl, ?_⟩
  rcases hs with hs | hs
  · refine .inl ⟨ex_l st.gh hs, q _ G2 H2 st ⟨fun i G' H' e1 e2 hi => ?_, fun i d G' H' e1 e2 hi => ?_⟩⟩
    · rw [List.length_reverse] at hi
      exact (by show xs.length ≤ i; omega)
    · obtain ⟨lt, v, h1, h2⟩ := back i d hi
      refine ⟨⟨lt, xs, v, ex_l (e1.trans e2) hs, h1⟩, fun x H3 hy => ?_⟩
      obtain ⟨rfl, hy⟩ := hy
      have := hy xs (ex_l (e1.trans e2) hs)
      rw [h1] at this; cases this
      exact ⟨G', Step.refl e2, dp_mono e1 _ _ h2⟩
  · refine .inr ⟨ex_t st.gh hs, q _ G2 H2 st ⟨fun i G' H' e1 e2 hi => ?_, fun i d G' H' e1 e2 hi => ?_⟩⟩
    · rw [List.length_reverse] at hi
      exact (by show xs.length ≤ i; omega)
    · obtain ⟨lt, v, h1, h2⟩ := back i d hi
      refine ⟨⟨lt, xs, v, ex_t (e1.trans e2) hs, h1⟩, fun x H3 hy => ?_⟩
      obtain ⟨rfl, hy⟩ := hy
      have := hy xs (ex_t (e1.trans e2) hs)
      rw [h1] at this; cases this
      exact ⟨G', Step.refl e2, dp_mono e1 _ _ h2⟩
def intsD (lo : Int) (n : Nat) : List PyData := (List.range n).map fun k => .int (lo + (k : Nat))
theorem its_r {G : Hp} (lo : Int) (n : Nat) : Its K (Itr lo n) G (intsD lo n) := by
  refine ⟨fun i G' H' e1 e2 hi => ?_, fun i d G' H' e1 e2 hi => ?_⟩
  · unfold intsD at hi
    rw [List.length_map, List.length_range] at hi
    exact hi
  · have hlt : i < n := by have := (List.getElem?_eq_some_iff.mp hi).1; unfold intsD at this; rwa [List.length_map, List.length_range] at this
    refine ⟨hlt, fun x H2 hy => ?_⟩
    obtain ⟨rfl, rfl⟩ := hy
    unfold intsD at hi
    rw [List.getElem?_map, List.getElem?_range hlt] at hi
    cases hi
    exact ⟨G', Step.refl e2, .int _⟩
theorem id_rng1 {n : Int} (h : AD K ta ρ [.int n]) (h1 : n < 2 ^ 62) (h0 : -(2 ^ 62) ≤ n) : ID K (iRng1 ta) ρ (intsD 0 n.toNat) := fun G H σ I R q => h G H σ I _ fun vs G2 H2 s hv => by
  cases hv with
  | cons a b =>
    cases b
    cases dp_int a
    exact ⟨n, rfl, h0, h1, q _ G2 H2 s (its_r 0 _)⟩
theorem id_rng2 {m n : Int} (h : AD K ta ρ [.int m, .int n]) (h1 : -(2 ^ 62) ≤ m ∧ m < 2 ^ 62 ∧ -(2 ^ 62) ≤ n ∧ n < 2 ^ 62) : ID K (iRng2 ta) ρ (intsD m (n - m).toNat) := fun G H σ I R q => h G H σ I _ fun vs G2 H2 s hv => by
  cases hv with
  | cons a b =>
    cases b with
    | cons b c =>
      cases c
      cases dp_int a; cases dp_int b
      exact ⟨m, n, rfl, h1, q _ G2 H2 s (its_r m _)⟩
/-- zip of two lists, of two tuples -/
def pairs (ds es : List PyData) : List PyData := (List.zip ds es).map fun p => .tuple [p.1, p.2]
theorem pairs_get {k : Nat} {d : PyData} (h : (pairs ds es)[k]? = some d) : ∃ a b, d = .tuple [a, b] ∧ ds[k]? = some a ∧ es[k]? = some b := by
  unfold pairs at h
  rw [List.getElem?_map] at h
  cases q : (List.zip ds es)[k]? with
  | none => rw [q] at h; cases h
  | some p =>
    rw [q] at h; cases h
    obtain ⟨a, b⟩ := p
    rw [List.getElem?_zip_eq_some] at q
    exact ⟨a, b, rfl, q.1, q.2⟩
theorem pairs_len : (pairs ds es).length = min ds.length es.length := by unfold pairs; rw [List.length_map, List.length_zip]
theorem its_z {G : Hp} {a b : Addr} {xs ys : List V} (h : SqL K G a xs) (h2 : SqL K G b ys) (hd : DpAll K G xs ds) (he : DpAll K G ys es) : Its K (Itz K a b) G (pairs ds es) := by
  refine ⟨fun i G' H' e1 e2 hi => ⟨xs, ys, ex_l (e1.trans e2) h, ex_l (e1.trans e2) h2, ?_⟩, fun i d G' H' e1 e2 hi => ?_⟩
  · rw [pairs_len] at hi
    rw [hd.len, he.len]
    omega
  · obtain ⟨x, y, rfl, g1, g2⟩ := pairs_get hi
    obtain ⟨v, p1, p2⟩ := hd.get g1
    obtain ⟨w, q1, q2⟩ := he.get g2
    refine ⟨⟨xs, ys, v, w, ex_l (e1.trans e2) h, ex_l (e1.trans e2) h2, p1, q1⟩, fun z H2 hy => ?_⟩
    obtain ⟨T, x', y', rfl, hT, rfl, hx, hy⟩ := hy
    have r1 := hx xs (ex_l (e1.trans e2) h)
    have r2 := hy ys (ex_l (e1.trans e2) h2)
    rw [p1] at r1; rw [q1] at r2
    cases r1; cases r2
    have en : Ex G' (upd G' T (.tup [v, w])) := Ex.new (fresh_back e2 hT)
    exact ⟨upd G' T (.tup [v, w]), Step.alloc e2 hT, .tup (st_of upd_same) (.cons (dp_mono (e1.trans en) _ _ p2) (.cons (dp_mono (e1.trans en) _ _ q2) .nil))⟩
theorem its_zT {G : Hp} {a b : Addr} {xs ys : List V} (h : SqT K G a xs) (h2 : SqT K G b ys) (hd : DpAll K G xs ds) (he : DpAll K G ys es) : Its K (RZ.ItzT K a b) G (pairs ds es) := by
  refine ⟨fun i G' H' e1 e2 hi => ⟨xs, ys, ex_t (e1.trans e2) h, ex_t (e1.trans e2) h2, ?_⟩, fun i d G' H' e1 e2 hi => ?_⟩
  · rw [pairs_len] at hi
    rw [hd.len, he.len]
    omega
  · obtain ⟨x, y, rfl, g1, g2⟩ := pairs_get hi
    obtain ⟨v, p1, p2⟩ := hd.get g1
    obtain ⟨w, q1, q2⟩ := he.get g2
    refine ⟨⟨xs, ys, v, w, ex_t (e1.trans e2) h, ex_t (e1.trans e2) h2, p1, q1⟩, fun z H2 hy => ?_⟩
    obtain ⟨T, x', y', rfl, hT, rfl, hx, hy⟩ := hy
    have r1 := hx xs (ex_t (e1.trans e2) h)
    have r2 := hy ys (ex_t (e1.trans e2) h2)
    rw [p1] at r1; rw [q1] at r2
    cases r1; cases r2
    have en : Ex G' (upd G' T (.tup [v, w])) := Ex.new (fresh_back e2 hT)
    exact ⟨upd G' T (.tup [v, w]), Step.alloc e2 hT, .tup (st_of upd_same) (.cons (dp_mono (e1.trans en) _ _ p2) (.cons (dp_mono (e1.trans en) _ _ q2) .nil))⟩
theorem id_zip (h : AD K ta ρ [d, e]) (s : (d = .list ds ∧ e = .list es) ∨ (d = .tuple ds ∧ e = .tuple es)) : ID K (RZ.iZipA K ta) ρ (pairs ds es) := fun G H σ I R q => h G H σ I _ fun vs G2 H2 st hv => by
  cases hv with
  | cons h1 h2 =>
    cases h2 with
    | cons h2 h3 =>
      cases h3
      rcases s with ⟨rfl, rfl⟩ | ⟨rfl, rfl⟩
      · cases h1 with
        | lst a1 a2 =>
          cases h2 with
          | lst b1 b2 => exact ⟨_, _, _, _, rfl, .inl ⟨ex_l st.gh a1, ex_l st.gh b1, q _ G2 H2 st (its_z a1 b1 a2 b2)⟩⟩
      · cases h1 with
        | tup a1 a2 =>
          cases h2 with
          | tup b1 b2 => exact ⟨_, _, _, _, rfl, .inr ⟨ex_t st.gh a1, ex_t st.gh b1, q _ G2 H2 st (its_zT a1 b1 a2 b2)⟩⟩

/-! targets -/
def OwnSub (σ : L2.St) (ρ : Rho) (σ2 : L2.St) (ρ2 : Rho) : Prop := ∀ (i : Nat) xs p, ρ2[i]? = some (some (.own xs)) → σ2[i]? = some (some (.ref p)) → ρ[i]? = some (some (.own xs)) ∧ σ[i]? = some (some (.ref p))
def GD (K : PySem.W.Frag) (g : TG) (d : PyData) (ρ ρ2 : Rho) : Prop := ∀ G H σ v, Env K G H σ ρ → Dp K G v d → ∀ Q : L2.St → Hp → Prop, (∀ σ2, Env K G H σ2 ρ2 → OwnSub σ ρ σ2 ρ2 → Q σ2 H) → g v σ H Q
theorem ownSub_set {σ : L2.St} {v : V} : OwnSub σ ρ (σ.set i (some v)) (ρ.set i (some (.d d))) := fun k xs p h1 h2 => by
  rcases getset h1 with ⟨rfl, e⟩ | ⟨ne, h1'⟩
  · cases e
  · rw [List.getElem?_set_ne (Ne.symm ne)] at h2
    exact ⟨h1', h2⟩
theorem OwnSub.trans {σ σ2 σ3 : L2.St} {ρ2 ρ3 : Rho} (a : OwnSub σ ρ σ2 ρ2) (b : OwnSub σ2 ρ2 σ3 ρ3) : OwnSub σ ρ σ3 ρ3 := fun i xs p h1 h2 =>
  let ⟨x, y⟩ := b i xs p h1 h2
  a i xs p x y
theorem Base.sub {G H : Hp} {σ σ2 : L2.St} {ρ2 : Rho} (b : Base B0 B G H σ ρ) (s : OwnSub σ ρ σ2 ρ2) : Base B0 B G H σ2 ρ2 := ⟨b.st, fun i xs p h1 h2 => let ⟨x, y⟩ := s i xs p h1 h2; b.own i xs p x y⟩
theorem gd_name : GD K (gName i) d ρ (ρ.set i (some (.d d))) := fun G H σ v I hv Q q => q _ (I.set hv i) ownSub_set
theorem gd_pair : GD K (gTup K 2 (gCons (gName i) (gCons (gName j) gNil))) (.tuple [d, e]) ρ ((ρ.set i (some (.d d))).set j (some (.d e))) := fun G H σ v I hv Q q => by
  cases hv with
  | tup h1 h2 =>
    cases h2 with
    | cons h2 h3 =>
      cases h3 with
      | cons h3 h4 =>
        cases h4
        exact ⟨_, _, rfl, ex_t I.gh h1, rfl, _, _, rfl, _, _, rfl, rfl, q _ ((I.set h2 i).set h3 j) (ownSub_set.trans ownSub_set)⟩
theorem sd_asg {g : TG} {ρ2 : Rho} (h : ED K te ρ d) (hg : GD K g d ρ ρ2) (k : P (.nx ρ2)) : SD K B0 B (tAsg te g) ρ P := fun G H σ D I b q =>
  h G H σ I _ fun v G2 H2 s hv => hg G2 H2 σ v (I.step s) hv _ fun σ2 I2 os => q _ k G2 H2 σ2 s.g I2 ((b.step s).sub os)
/-- for -/
theorem sd_for {g : TG} (h : ID K wi ρ ds) (Inv : Nat → Rho → Prop) (h0 : Inv 0 ρ)
    (hs : ∀ i d ρ', ds[i]? = some d → Inv i ρ' → ∃ ρ2, GD K g d ρ' ρ2 ∧ SD K B0 B t ρ2 (Turn (Inv (i + 1)) P)) (hd : ∀ ρ', Inv ds.length ρ' → P (.nx ρ')) : SD K B0 B (tFor wi g t) ρ P := fun G0 H0 σ0 D I0 b0 q =>
  h G0 H0 σ0 I0 _ fun J G1 H1 s1 its => by
    refine ⟨fun i m σ H => m = ds.length - i ∧ i ≤ ds.length ∧ ∃ G ρ', Ex G1 G ∧ Env K G H σ ρ' ∧ Base B0 B G H σ ρ' ∧ Inv i ρ', ⟨ds.length, rfl, Nat.zero_le _, G1, ρ, Ex.refl G1, I0.step s1, b0.step s1, h0⟩, ?_⟩
    rintro i m σ H ⟨rfl, hi, G, ρ', eg, I, bb, w⟩
    by_cases hlt : i < ds.length
    · have hx : ds[i]? = some ds[i] := List.getElem?_eq_getElem hlt
      obtain ⟨go, yl⟩ := its.2 i _ G H eg I.gh hx
      refine .inr ⟨go, fun σ3 H3 => ∃ G3 ρ3, Ex G1 G3 ∧ Env K G3 H3 σ3 ρ3 ∧ Base B0 B G3 H3 σ3 ρ3 ∧ Inv (i + 1) ρ3, fun σ3 H3 h3 => ⟨ds.length - (i + 1), by omega, rfl, hlt, h3⟩, fun x H' hy => ?_⟩
      obtain ⟨G2, s2, hv⟩ := yl x H' hy
      obtain ⟨ρ2, hg, body⟩ := hs i _ ρ' hx w
      have e12 : Ex G1 G2 := eg.trans s2.g
      refine hg G2 H' σ x (I.step s2) hv _ fun σ2 I2 os => ?_
      refine body G2 H' σ2 _ I2 ((bb.step s2).sub os) fun o po => ?_
      cases o with
      | nx ρ3 => exact fun G3 H3 σ3 e3 I3 b3 => ⟨G3, ρ3, e12.trans e3, I3, b3, po⟩
      | ct ρ3 => exact fun G3 H3 σ3 e3 I3 b3 => ⟨G3, ρ3, e12.trans e3, I3, b3, po⟩
      | bk ρ3 => exact fun G3 H3 σ3 e3 I3 b3 => q _ po G3 H3 σ3 ((s1.g.trans e12).trans e3) I3 b3
      | rt d => exact q _ po
      | rf ds => exact q _ po
    · have e : i = ds.length := by omega
      subst e
      exact .inl ⟨its.1 _ G H eg I.gh (Nat.le_refl _), q _ (hd ρ' w) G H σ (s1.g.trans eg) I bb⟩
/-- comprehensions -/
def wipeR (ρ : Rho) : List Nat → Rho
  | [] => ρ
  | v :: vs => (wipeR ρ vs).set v none
theorem Env.wipe1 {G H : Hp} {σ : L2.St} (I : Env K G H σ ρ) (i : Nat) : Env K G H (σ.set i none) (ρ.set i none) := by
  refine ⟨I.gh, by rw [List.length_set, List.length_set]; exact I.len, fun j x h => ?_, fun j xs h => ?_, fun j k xs ys q hjk h1 h2 h3 => ?_⟩
  · rcases getset h with ⟨rfl, e⟩ | ⟨ne, h'⟩
    · cases e
    · rw [List.getElem?_set_ne (Ne.symm ne)]; exact I.dat j x h'
  · rcases getset h with ⟨rfl, e⟩ | ⟨ne, h'⟩
    · cases e
    · rw [List.getElem?_set_ne (Ne.symm ne)]; exact I.own j xs h'
  · rcases getset h1 with ⟨rfl, e⟩ | ⟨ne, h1'⟩
    · cases e
    · rcases getset h2 with ⟨rfl, e⟩ | ⟨ne2, h2'⟩
      · cases e
      · rw [List.getElem?_set_ne (Ne.symm ne)] at h3
        rw [List.getElem?_set_ne (Ne.symm ne2)]
        exact I.sep j k xs ys q hjk h1' h2' h3
theorem Env.wipe {G H : Hp} {σ : L2.St} (I : Env K G H σ ρ) : ∀ vs : List Nat, Env K G H (wipe σ vs) (wipeR ρ vs)
  | [] => I
  | v :: vs => (I.wipe vs).wipe1 v
/-- a target within a comprehension -/
def GC (K : PySem.W.Frag) (g : TG) (d : PyData) (vs : List Nat) (ρ ρ2 : Rho) : Prop := ∀ G H σ v, Env K G H σ ρ → Dp K G v d → ∀ Q : L2.St → Hp → Prop, (∀ σ2, Env K G H σ2 ρ2 → wipe σ2 vs = wipe σ vs → Q σ2 H) → g v (wipe σ vs) H Q
theorem gc_name : GC K (gName i) d [i] ρ ((wipeR ρ [i]).set i (some (.d d))) := fun G H σ v I hv Q q => q _ ((I.wipe [i]).set hv i) (by simp [wipe, List.set_set])
theorem gc_pair (hij : i ≠ j) : GC K (gTup K 2 (gCons (gName i) (gCons (gName j) gNil))) (.tuple [d, e]) [i, j] ρ (((wipeR ρ [i, j]).set i (some (.d d))).set j (some (.d e))) := fun G H σ v I hv Q q => by
  have W := I.wipe [i, j]
  cases hv with
  | tup h1 h2 =>
    cases h2 with
    | cons h2 h3 =>
      cases h3 with
      | cons h3 h4 =>
        cases h4
        refine ⟨_, _, rfl, ex_t I.gh h1, rfl, _, _, rfl, _, _, rfl, rfl, q _ ((W.set h2 i).set h3 j) ?_⟩
        simp only [wipe]
        apply List.ext_getElem?
        intro n
        by_cases a : n = i
        · subst a
          simp [List.getElem?_set, hij, Ne.symm hij]
        · by_cases b : n = j
          · subst b
            simp [List.getElem?_set, hij, Ne.symm hij]
          · simp [List.getElem?_set, Ne.symm a, Ne.symm b]
theorem ef_lcG {g : TG} {vs : List Nat} (b : Nat → Bool) (f : Nat → PyData) (h : ID K wi ρ ds) (hz : ds.length ≤ 100000)
    (hs : ∀ i d, ds[i]? = some d → ∃ ρ2, GC K g d vs ρ ρ2 ∧ TD K tt ρ2 (b i) ∧ (b i = true → ED K te ρ2 (f i))) : EF K (tLc wi g tt te vs) ρ (((List.range ds.length).filter b).map f) := fun G0 H0 σ0 I0 Q q =>
  h G0 H0 σ0 I0 _ fun J G1 H1 s1 its D hD => by
    let done (i : Nat) : List PyData := ((List.range i).filter b).map f
    have dl : ∀ i, (done i).length ≤ i := fun i => by
      show (((List.range i).filter b).map f).length ≤ i
      rw [List.length_map]
      have := List.length_filter_le b (List.range i)
      rwa [List.length_range] at this
    have I1 := I0.step s1
    refine ⟨fun i m H => m = ds.length - i ∧ i ≤ ds.length ∧ ∃ G acc, Step G1 H1 G H ∧ G D = none ∧ H D = some (.lst acc) ∧ DpAll K G acc (done i),
      ⟨ds.length, rfl, Nat.zero_le _, G1, [], Step.allocO s1.gh hD, fresh_back s1.gh hD, upd_same, .nil⟩, ?_⟩
    rintro i m H ⟨rfl, hi, G, acc, st, gD, hDl, hacc⟩
    by_cases hlt : i < ds.length
    · have hx : ds[i]? = some ds[i] := List.getElem?_eq_getElem hlt
      obtain ⟨go, yl⟩ := its.2 i _ G H st.g st.gh hx
      refine .inr ⟨go, fun H3 => ∃ G3 acc3, Step G1 H1 G3 H3 ∧ G3 D = none ∧ H3 D = some (.lst acc3) ∧ DpAll K G3 acc3 (done (i + 1)), fun H3 h3 => ⟨ds.length - (i + 1), by omega, rfl, hlt, h3⟩, fun x H' hy => ?_⟩
      obtain ⟨G2, s2, hv⟩ := yl x H' hy
      obtain ⟨ρ2, hg, ht, he⟩ := hs i _ hx
      have I2 : Env K G2 H' σ0 ρ := (I1.step st).step s2
      have noD : ∀ {G' H'' : Hp}, Step G H G' H'' → G' D = none := fun {G' H''} s => by
        by_cases z : G' D = none
        · exact z
        · have := s.new D z gD
          rw [hDl] at this; cases this
      refine hg G2 H' σ0 x I2 hv _ fun σ2 I3 hw => ⟨hw, ht G2 H' σ2 I3 _ fun G4 H4 s4 => ?_⟩
      have sA : Step G H G4 H4 := s2.trans s4
      cases hb : b i with
      | true =>
        show te σ2 H4 _
        refine he hb G4 H4 σ2 (I3.step s4) _ fun y G5 H5 s5 hy5 => ?_
        have sB := sA.trans s5
        have nD := noD sB
        refine ⟨acc, sB.h _ _ hDl, by rw [hacc.len]; exact sz_lt (Nat.lt_of_le_of_lt (dl i) (by omega)), G5, acc ++ [y], (st.trans sB).mutO hD nD, nD, upd_same, ?_⟩
        have ed : done (i + 1) = done i ++ [f i] := by
          show ((List.range (i + 1)).filter b).map f = _
          rw [List.range_succ, List.filter_append, List.map_append, List.filter_cons, if_pos hb]; rfl
        rw [ed]
        exact (dpa_mono sB.g _ _ hacc).app (.cons hy5 .nil)
      | false =>
        show ∃ G3 acc3, _
        have ed : done (i + 1) = done i := by
          show ((List.range (i + 1)).filter b).map f = _
          rw [List.range_succ, List.filter_append, List.map_append, List.filter_cons, if_neg (by rw [hb]; decide)]
          show _ ++ [] = _
          rw [List.append_nil]
        refine ⟨G4, acc, st.trans sA, noD sA, sA.h _ _ hDl, ?_⟩
        rw [ed]
        exact dpa_mono sA.g _ _ hacc
    · have e : i = ds.length := by omega
      subst e
      exact .inl ⟨its.1 _ G H st.g st.gh (Nat.le_refl _), q D acc G H (s1.trans st) (fresh_back s1.h hD) gD hDl hacc⟩
theorem ef_lc {g : TG} {vs : List Nat} (f : Nat → PyData) (h : ID K wi ρ ds) (hz : ds.length ≤ 100000)
    (hs : ∀ i d, ds[i]? = some d → ∃ ρ2, GC K g d vs ρ ρ2 ∧ ED K te ρ2 (f i)) : EF K (tLc wi g tYes te vs) ρ ((List.range ds.length).map f) := by
  have := ef_lcG (tt := tYes) (b := fun _ => true) f h hz (g := g) (vs := vs) (te := te) fun i d hi => by
    obtain ⟨ρ2, h1, h2⟩ := hs i d hi
    exact ⟨ρ2, h1, td_yes, fun _ => h2⟩
  rwa [List.filter_eq_self.mpr (fun _ _ => rfl)] at this
end
end Rt

namespace Rt
open PySem PySem.Spec PyProof.Rows L2 Evl

/-! ### operators of my own -/
def CDivQ (i j : Int) : Prop := j ≠ 0 ∧ Builtin.divisionGoesByPylong i j = false
theorem op_fdivP {X : Cx} : OpR X (binaryOp .FloorDiv) (rI CDivQ fun i j => .int (i.fdiv j)) := opI fun _ _ _ _ _ _ _ hc q => PyProof.Rows.floordiv_int hc.1 q (.inl hc.2)
theorem cdivQ_of {i j : Int} {n : Nat} (h : j ≠ 0) (hb : j.natAbs < 2 ^ n) (h0 : 0 < n) (h9 : n ≤ 9000) : CDivQ i j := ⟨h, PyProof.noPylong_of_log2 (Nat.lt_of_lt_of_le (PySem.Flt.log2_lt_of h0 hb) h9)⟩
theorem cmulX_of {i j : Int} {a b : Nat} (ha : i.natAbs < 2 ^ a) (hb : j.natAbs < 2 ^ b) (h0 : 0 < a) (h1 : 0 < b) (h : a + b ≤ 134217728) : CMulX i j := by
  have x := PySem.Flt.log2_lt_of h0 ha
  have y := PySem.Flt.log2_lt_of h1 hb
  have bb : ∀ x : Int, Builtin.Int.intBits x ≤ x.natAbs.log2 + 1 := fun x => by
    unfold Builtin.Int.intBits
    split <;> omega
  have p := bb i
  have q := bb j
  unfold CMulX
  omega
theorem _root_.L2.Room.units65 {k : Nat} {A : Around} (r : Room k A) : A.units + 65 < cLine := by have := r.un; omega
section
variable {K : PySem.W.Frag} {ρ : Rho} {ta tb te : TE} {d e : PyData} {ds es : List PyData} {i j : Int} {n : Nat}
theorem ed_fdivP (ha : ED K ta ρ (.int i)) (hb : ED K tb ρ (.int j)) (hc : CDivQ i j) : ED K (tOp (rI CDivQ fun i j => .int (i.fdiv j)) ta tb) ρ (.int (i.fdiv j)) := ed_I (g := fun i j => i.fdiv j) ha hb hc
def rInt1 : List V → Hp → VK → Prop := fun xs H Q => (∃ i, xs = [.int i] ∧ Q (.int i) H) ∨ ∃ k, xs = [.bl k] ∧ Q (.int (if k then 1 else 0)) H
theorem ed_int1B {b : Bool} (ha : ED K ta ρ (.bool b)) : ED K (tCB rInt1 (tCons ta tNil)) ρ (.int (if b then 1 else 0)) := fun G H σ I Q q => ha G H σ I _ fun v G2 H2 s hv => by
  cases dp_bl hv
  exact .inr ⟨b, rfl, q _ G2 H2 s (.int _)⟩
theorem ed_int1I (ha : ED K ta ρ (.int i)) : ED K (tCB rInt1 (tCons ta tNil)) ρ (.int i) := fun G H σ I Q q => ha G H σ I _ fun v G2 H2 s hv => by
  cases dp_int hv
  exact .inl ⟨i, rfl, q _ G2 H2 s (.int _)⟩
/-- in, not in over data -/
theorem ed_inD (ha : ED K ta ρ d) (hb : ED K tb ρ (.list ds)) (h1 : SeqAt.shaped d = true) (h2 : SeqAt.shaped (.list ds) = true) : ED K (tOp (rInD K) ta tb) ρ (.bool (ds.any fun z => PyData.eqv z d)) :=
  ed_op ha hb fun x y G H ex hx hy Q q => ⟨d, ds, dp_mono ex _ _ hx, dp_mono ex _ _ hy, h1, h2, q _ G H (Step.refl ex) (.bl _)⟩
theorem ed_notInD (ha : ED K ta ρ d) (hb : ED K tb ρ (.list ds)) (h1 : SeqAt.shaped d = true) (h2 : SeqAt.shaped (.list ds) = true) : ED K (tOp (rNotInD K) ta tb) ρ (.bool (!ds.any fun z => PyData.eqv z d)) :=
  ed_op ha hb fun x y G H ex hx hy Q q => ⟨d, ds, dp_mono ex _ _ hx, dp_mono ex _ _ hy, h1, h2, q _ G H (Step.refl ex) (.bl _)⟩
/-- over a list of one's own -/
theorem ed_notInO {k : Nat} (ho : ρ[k]? = some (some (.own ds))) (ha : ED K ta ρ d) (h1 : SeqAt.shaped d = true) (h2 : SeqAt.shaped (.list ds) = true) : ED K (tOp (rNotInD K) ta (tVar k)) ρ (.bool (!ds.any fun z => PyData.eqv z d)) := fun G H σ I Q q =>
  ha G H σ I _ fun x G2 H2 s hx => by
    obtain ⟨p, vs, g1, g2, g3, g4⟩ := (I.step s).own k ds ho
    exact ⟨_, g1, d, ds, dp_mono s.gh _ _ hx, .lst (sq_of g2) (dpa_mono s.gh _ _ g4), h1, h2, q _ G2 H2 s (.bl _)⟩
end

/-! ### a def that is called -/
structure Cal (P : Program) (w : World) (K : PySem.W.Frag) (mg : Str → Option Value) (base : Heap) (CX : CXT) (k : Nat) (x : Str) (ps : List Str) (sp : Sp) : Prop where
  ex : ∃ f fd, FnOk P w K mg base CX k f fd ps sp ∧ mg x = some (.ref f) ∧ PySem.W.keepIn K (.ref f) = true ∧ Binds K fd ps []
theorem pe_cal0 {X : Cx} {k : Nat} {x : Str} {ps : List Str} {sp : Sp} {e : Expr} {es : List Expr} {t : TA} {p pos : Pos} (C : Cal X.prog X.w X.K X.mg X.base CX0 k x ps sp) (hr : Room k X.A) (hg : Gl X x) (ha : PA X (e :: es) t)
    (hdb : (x == ("__debug__" : Str)) = false := by decide) (he : starEach (e :: es) X.env = (false, eval e X.env) :: starEach es X.env := by rfl) (hpl : (backTo pos (starEach es X.env)).any (·.1) = false := by rfl) : PE X (.Call (.Name x p) (e :: es) [] pos) (tCall sp [] E0 t) := by
  obtain ⟨f, fd, F, hm, hk, hb⟩ := C.ex
  exact pe_call F hr hg hm hk hb .nil pass0 ha hdb he hpl
theorem pe_calX {X : Cx} {k : Nat} {x : Str} {ps : List Str} {sp : Sp} {e : Expr} {es : List Expr} {t : TA} {p pos : Pos} (C : Cal X.prog X.w X.K X.mg X.base (L2.CX X.prog X.w) k x ps sp) (hr : Room k X.A) (hg : Gl X x) (ha : PA X (e :: es) t)
    (hdb : (x == ("__debug__" : Str)) = false := by decide) (he : starEach (e :: es) X.env = (false, eval e X.env) :: starEach es X.env := by rfl) (hpl : (backTo pos (starEach es X.env)).any (·.1) = false := by rfl) : PE X (.Call (.Name x p) (e :: es) [] pos) (tCall sp [] E0 t) := by
  obtain ⟨f, fd, F, hm, hk, hb⟩ := C.ex
  exact pe_call F hr hg hm hk hb .nil passL ha hdb he hpl
/-- within a try -/
theorem pe_calS {X : Cx} {k : Nat} {x : Str} {ps : List Str} {sp : Sp} {e : Expr} {es : List Expr} {t : TA} {p pos : Pos} {E : L2.St → XK} (C : Cal X.prog X.w X.K X.mg X.base (L2.CX X.prog X.w) k x ps sp) (hr : Room k X.A) (hg : Gl X x) (hx : ∀ σ, PassesAt (L2.CX X.prog X.w) X σ (E σ)) (ha : PA X (e :: es) t)
    (hdb : (x == ("__debug__" : Str)) = false := by decide) (he : starEach (e :: es) X.env = (false, eval e X.env) :: starEach es X.env := by rfl) (hpl : (backTo pos (starEach es X.env)).any (·.1) = false := by rfl) : PE X (.Call (.Name x p) (e :: es) [] pos) (tCallS sp E t) := by
  obtain ⟨f, fd, F, hm, hk, hb⟩ := C.ex
  exact pe_callS F hr hg hm hk hb hx ha hdb he hpl

/-! ### a def's body -/
def startR (N : List Str) (ds : List PyData) : Rho := ds.map (fun d => some (.d d)) ++ List.replicate (N.length - ds.length) none
def fin : Res → Out → Prop
  | .rt d, .rt d' => d' = d
  | .rf ds, .rf ds' => ds' = ds
  | .rt d, .nx _ => d = .none
  | _, _ => False
theorem env_start {K : PySem.W.Frag} {G H : Hp} {N : List Str} {vs : List V} {ds : List PyData} (e : Ex G H) (h : DpAll K G vs ds) : Env K G H (L2.start N vs) (startR N ds) := by
  have hl := h.len
  have own : ∀ (i : Nat) xs, (startR N ds)[i]? ≠ some (some (.own xs)) := fun i xs q => by
    unfold startR at q
    rw [List.getElem?_append] at q
    split at q
    · rw [List.getElem?_map] at q
      cases z : ds[i]? with
      | none => rw [z] at q; cases q
      | some d => rw [z] at q; cases q
    · rw [List.getElem?_replicate] at q
      split at q <;> cases q
  refine ⟨e, ?_, fun i x q => ?_, fun i xs q => absurd q (own i xs), fun i j xs ys p _ q => absurd q (own i xs)⟩
  · unfold L2.start startR
    rw [List.length_append, List.length_append, List.length_map, List.length_map, List.length_replicate, List.length_replicate, hl]
  · unfold startR at q
    rw [List.getElem?_append] at q
    split at q
    · rename_i lt
      rw [List.getElem?_map] at q
      cases z : ds[i]? with
      | none => rw [z] at q; cases q
      | some d =>
        rw [z] at q; cases q
        obtain ⟨v, h1, h2⟩ := h.get z
        refine ⟨v, ?_, h2⟩
        unfold L2.start
        rw [List.getElem?_append_left (by rw [List.length_map, hl]; rw [List.length_map] at lt; exact lt), List.getElem?_map, h1]
        rfl
    · rw [List.getElem?_replicate] at q
      split at q <;> cases q
theorem base_start {K : PySem.W.Frag} {G H : Hp} {N : List Str} {vs : List V} {ds : List PyData} (e : Ex G H) : Base G H G H (L2.start N vs) (startR N ds) := by
  refine ⟨Step.refl e, fun i xs p q => ?_⟩
  unfold startR at q
  rw [List.getElem?_append] at q
  split at q
  · rw [List.getElem?_map] at q
    cases z : ds[i]? with
    | none => rw [z] at q; cases q
    | some d => rw [z] at q; cases q
  · rw [List.getElem?_replicate] at q
    split at q <;> cases q
/-- the reading of a body by data -/
theorem body_ok {K : PySem.W.Frag} {n : Nat} {F : List PyData → Res → Prop} {N : List Str} {t : TS} {vs : List V} {H : Hp} {Q : VK} {E : XK} {G : Hp} {ds : List PyData} {r : Res} (e : Ex G H) (hd : DpAll K G vs ds) (rp : RP K r G H Q E)
    (h : SD K G H t (startR N ds) (fin r)) : t { nx := fun _ H' => Q .non H', rt := Q } (L2.start N vs) H := by
  refine h G H _ _ (env_start e hd) (base_start (K := K) e) fun o po => ?_
  cases r with
  | rt d =>
    cases o with
    | rt d' =>
      cases po
      exact fun v G2 H2 s hv => rp v G2 H2 s hv
    | nx ρ =>
      cases po
      exact fun G2 H2 σ2 _ I2 b2 => rp .non G2 H2 b2.st .non
    | rf ds => cases po
    | bk ρ => cases po
    | ct ρ => cases po
  | rf ds =>
    cases o with
    | rf ds' =>
      cases po
      exact fun p vs G2 H2 s hp hg hl hdd => rp p vs G2 H2 s hp hg hl hdd
    | nx ρ => cases po
    | rt ds => cases po
    | bk ρ => cases po
    | ct ρ => cases po
  | xc C => cases o <;> cases po
section
variable {P : Program} {w : World} {K : PySem.W.Frag} {mg : Str → Option Value} {base : Heap} {x qual : Str} {st : Stmt} {f : Addr} {fd : FuncData} {N ps : List Str} {k n : Nat} {F : List PyData → Res → Prop}
theorem fun_ok {t : TS} (Fn : Fun K x qual st f fd) (S : FnScope N ps (defScope st)) (hn : n = ps.length)
    (hb : ∀ (cdv : Value) (A : Around) (outer : List PySem.Env) (s : Shared) (H : Hp) (E : XK), Room k (A.deeper (envOfC qual (defScope st) s.heap.objs.size f cdv)) → PSs (cxOf CX0 P w K mg base N qual (defScope st) f cdv A outer s H E).nox (defBody st) t)
    (hp : ∀ ds r, F ds r → ∀ B0 B, SD K B0 B t (startR N ds) (fin r)) : FnOk P w K mg base CX0 (k + 1) f fd ps (spD K n F) := by
  refine Fn.ok S (fun vs H Q E h => h.1.trans hn) fun cdv A outer s H vs Q E hr h => ?_
  obtain ⟨hl, G, ds, r, e, hd, hF, rp⟩ := h
  exact ⟨t, hb cdv A outer s H E hr, body_ok (n := n) (F := F) e hd rp (hp ds r hF G H)⟩
theorem fun_okX {t : XK → TS} (Fn : Fun K x qual st f fd) (S : FnScope N ps (defScope st)) (hn : n = ps.length)
    (hb : ∀ (cdv : Value) (A : Around) (outer : List PySem.Env) (s : Shared) (H : Hp) (E : XK), Room k (A.deeper (envOfC qual (defScope st) s.heap.objs.size f cdv)) → PSs (cxOf (L2.CX P w) P w K mg base N qual (defScope st) f cdv A outer s H E) (defBody st) (t E))
    (hp : ∀ ds r, F ds r → ∀ B0 B (E : XK), (∀ C, r = .xc C → ∀ G H, Step B0 B G H → E (.ref C) none H) → SD K B0 B (t E) (startR N ds) (fin r)) : FnOk P w K mg base (L2.CX P w) (k + 1) f fd ps (spD K n F) := by
  refine Fn.okX S (fun vs H Q E h => h.1.trans hn) fun cdv A outer s H vs Q E hr h => ?_
  obtain ⟨hl, G, ds, r, e, hd, hF, rp⟩ := h
  refine ⟨t E, hb cdv A outer s H E hr, body_ok (n := n) (F := F) e hd rp (hp ds r hF G H E fun C hc => ?_)⟩
  subst hc
  exact rp
end

/-! ### isinstance of a caught error -/
def rIsX (K : PySem.W.Frag) (a : Addr) (cls : Value) (d : Option Addr) : List V → Hp → VK → Prop := fun xs H Q => ∃ D, cls = .ref D ∧ d = none ∧ ExcC K D ∧
  ((∃ c cv b, xs = [.ref a, c] ∧ ClsV c cv ∧ PySem.W.kitOne K (.ref D) cv = some b ∧ Q (.bl b) H) ∨
   ∃ tp cs us b, xs = [.ref a, .ref tp] ∧ H tp = some (.tup cs) ∧ Paired ClsV cs us ∧ PySem.W.kitAny K (.ref D) us = some b ∧ Q (.bl b) H)
theorem call_isX {X : Cx} {a : Addr} {oe : Obj} {cls : Value} {d : Option Addr} {pn : List (Addr × Obj)} (hz : Zc cls d oe) (hf : ∃ vs, oe.data = .fields vs) : CallR (X.suite a ((a, oe) :: pn)) (.builtin "isinstance") (rIsX X.K a cls d) := by
  intro pins s σ H xs us Q I r h
  obtain ⟨D, rfl, rfl, C, h⟩ := h
  rcases h with ⟨c, cv, b, rfl, hcv, e, q⟩ | ⟨tp, cs, ws, b, rfl, hT, k, e, q⟩
  · exact call_isE C hz hf pins s σ H _ us Q I r ⟨c, cv, b, rfl, fun u ru => hcv.eq ru, e, q⟩
  · obtain ⟨u1, u2, rfl, r1, r2⟩ := vals2 r
    cases (show u1 = Value.ref a from r1)
    cases (show u2 = Value.ref tp from r2)
    obtain ⟨hget, _⟩ := I.pin (a, oe) (List.mem_append.mpr (.inl List.mem_cons_self))
    obtain ⟨vs, hv⟩ := hf
    have J : PySem.W.InstAt s.heap a oe D none := by
      obtain ⟨oc, od, oda, osl⟩ := oe
      obtain ⟨h1, h2⟩ := hz
      dsimp only at h1 h2 hv
      subst h1 h2 hv
      exact ⟨hget, rfl, rfl, trivial⟩
    obtain ⟨_, its, rv, o, h1, h2, n, h3⟩ := (show ObjOk X.prog X.w H s.heap tp (.tup cs) from I.hok tp _ hT)
    have e3 := ClsV.all k rv
    subst e3
    obtain ⟨oc, od, dt, sl⟩ := o
    simp only at h2 h3
    subst h2 h3
    exact PySem.W.kia_tup (PySem.W.handS_kitx_exc C.hg C.hk C.hs C.hd C.ha C.hn C.ht C.hm) I.kIn J h1 e (fun z => nomatch z) fun tk => ⟨.bl b, H, I.kept (t' := tk) fun _ _ z => z, rfl, q⟩
/-- the suite: if isinstance(e, (..)): return False; return isinstance(e, S) and isinstance(e, V) -/
def tSuite (K : PySem.W.Frag) (i : Nat) (tt : TA) (c1 c2 : V) : Addr → Value → Option Addr → TS := fun a cls d =>
  tSeq (tIfS (tTruth K (tCB (rIsX K a cls d) (tCons (tVar i) (tCons (tTup tt) tNil)))) (tRet (tC (.bl false))) tNext)
    (tRet (tAndV (tCB (rIsX K a cls d) (tCons (tVar i) (tCons (tC c1) tNil))) (tCB (rIsX K a cls d) (tCons (tVar i) (tCons (tC c2) tNil)))))
def tRef (K : PySem.W.Frag) (sp : Sp) (i : Nat) (Cx : Addr) (ta tt : TA) (c1 c2 : V) : TS := fun D σ H =>
  (fun W => tDrop (tCallS sp (WE W) ta)) (wAs K (.ref Cx) i (tSuite K i tt c1 c2) (fun _ _ _ _ => False) D) D σ H
/-- a written tuple of classes -/
def tCls : List V → TA
  | [] => tNil
  | v :: vs => tCons (tC v) (tCls vs)
theorem tCls_ok : ∀ (vs : List V) (σ : L2.St) (H : Hp) (Q : List V → Hp → Prop), Q vs H → tCls vs σ H Q
  | [], _, _, _, q => q
  | v :: vs, σ, H, Q, q => tCls_ok vs σ H (fun xs H2 => Q (v :: xs) H2) q
theorem sd_ref {K : PySem.W.Frag} {B0 B : Hp} {ρ : Rho} {ta : TA} {ds : List PyData} {n i : Nat} {F : List PyData → Res → Prop} {P : Out → Prop} {C Cx : Addr} {cs : List V} {us : List Value} {c1 c2 : V} {u1 u2 : Value} (ha : AD K ta ρ ds) (hF : F ds (.xc C)) (hn : ds.length = n)
    (hi : i < ρ.length) (hm : PySem.W.exmOne K (.ref C) (.ref Cx) = some true) (X : ExcC K C) (hcs : Paired ClsV cs us) (hl : cs.length ≤ 1000) (k0 : PySem.W.kitAny K (.ref C) us = some false) (hc1 : ClsV c1 u1) (k1 : PySem.W.kitOne K (.ref C) u1 = some true) (hc2 : ClsV c2 u2) (k2 : PySem.W.kitOne K (.ref C) u2 = some true)
    (k : P (.rt (.bool true))) : SD K B0 B (tRef K (spD K n F) i Cx ta (tCls cs) c1 c2) ρ P := fun G H σ D I b q => by
  show tDrop (tCallS _ _ ta) D σ H
  refine ha G H σ I _ fun vs G2 H2 s hv => ⟨hv.len.trans hn, G2, ds, .xc C, s.gh, hv, hF, fun G3 H3 s3 => ?_⟩
  have sA := s.trans s3
  refine ⟨true, hm, fun _ a hna => ?_, fun z => nomatch z⟩
  have hs : (σ.set i (some (.ref a)))[i]? = some (some (.ref a)) := by rw [List.getElem?_set_self (by rw [I.len]; exact hi)]
  refine ⟨_, hs, tCls_ok cs _ _ _ ⟨Nat.le_trans hl (by decide), fun p hp => ?_⟩⟩
  refine ⟨C, rfl, rfl, X, .inr ⟨p, cs, us, false, rfl, upd_same, hcs, k0, false, rfl, ?_⟩⟩
  show tNext _ _ _
  refine ⟨_, hs, C, rfl, rfl, X, .inl ⟨c1, u1, true, rfl, hc1, k1, true, rfl, ?_⟩⟩
  refine iteT ?_
  refine ⟨_, hs, C, rfl, rfl, X, .inl ⟨c2, u2, true, rfl, hc2, k2, ?_⟩⟩
  exact q _ k (.bl true) G3 _ (b.st.trans (sA.trans (Step.allocO s3.gh hp))) (.bl true)
end Rt

namespace Rt
open PySem PySem.Spec PyProof.Rows L2 Evl
/-! ### the mathematics -/
theorem natAbs_fmod_lt (a : Int) {b : Int} (hb : b ≠ 0) : (a.fmod b).natAbs < b.natAbs := by
  rw [Int.fmod_eq_emod]
  have h1 := Int.emod_nonneg a hb
  have h2 := Int.emod_lt a hb
  by_cases h : 0 ≤ b ∨ b ∣ a
  · rw [if_pos h]; omega
  · rw [if_neg h]
    have h3 : ¬ 0 ≤ b := fun z => h (.inl z)
    have h4 : a % b ≠ 0 := fun z => h (.inr (Int.dvd_of_emod_eq_zero z))
    omega
theorem gcd_fmod (a b : Int) : Int.gcd b (a.fmod b) = Int.gcd a b := by
  rw [Int.fmod_def, Int.mul_comm b, Int.gcd_sub_mul_right_right, Int.gcd_comm]
/-- the part that a is of b, by its greatest common divisor with the sign of b -/
def partS (a b : Int) : Int := if b < 0 then -(Int.gcd a b : Int) else (Int.gcd a b : Int)
def partV (a b : Int) : Int × Int := (a.fdiv (partS a b), b.fdiv (partS a b))
theorem gcd_pos {a b : Int} (hb : b ≠ 0) : 0 < Int.gcd a b := Int.gcd_pos_of_ne_zero_right a hb
theorem partS_ne {a b : Int} (hb : b ≠ 0) : partS a b ≠ 0 := by
  have := gcd_pos (a := a) hb
  unfold partS; split <;> omega
theorem partS_abs (a b : Int) : (partS a b).natAbs = Int.gcd a b := by unfold partS; split <;> omega
theorem partS_le {a b : Int} (hb : b ≠ 0) : (partS a b).natAbs ≤ b.natAbs := by
  rw [partS_abs]; exact Nat.le_of_dvd (by omega) (Nat.gcd_dvd_right _ _)
theorem partS_dl (a b : Int) : partS a b ∣ a := by
  unfold partS; split
  · exact Int.neg_dvd.mpr (Int.gcd_dvd_left a b)
  · exact Int.gcd_dvd_left a b
theorem partS_dr (a b : Int) : partS a b ∣ b := by
  unfold partS; split
  · exact Int.neg_dvd.mpr (Int.gcd_dvd_right a b)
  · exact Int.gcd_dvd_right a b
theorem fdiv_mul_of_dvd {a s : Int} (h : s ∣ a) : s * a.fdiv s = a := by
  rw [Int.fdiv_eq_ediv_of_dvd h, Int.mul_ediv_cancel' h]
theorem natAbs_fdiv_le {a s : Int} (h : s ∣ a) (hs : s ≠ 0) : (a.fdiv s).natAbs ≤ a.natAbs := by
  have e := congrArg Int.natAbs (fdiv_mul_of_dvd h)
  rw [Int.natAbs_mul] at e
  have : 1 ≤ s.natAbs := by omega
  calc (a.fdiv s).natAbs = 1 * (a.fdiv s).natAbs := (Nat.one_mul _).symm
    _ ≤ s.natAbs * (a.fdiv s).natAbs := Nat.mul_le_mul_right _ this
    _ = a.natAbs := e
theorem partV_pos {a b : Int} (hb : b ≠ 0) : 0 < (partV a b).2 := by
  have e := fdiv_mul_of_dvd (partS_dr a b)
  have s0 := partS_ne (a := a) hb
  have g := gcd_pos (a := a) hb
  show 0 < b.fdiv (partS a b)
  by_cases h : b < 0
  · have s1 : partS a b < 0 := by unfold partS; rw [if_pos h]; omega
    by_cases q : 0 < b.fdiv (partS a b)
    · exact q
    · have := Int.mul_nonneg_of_nonpos_of_nonpos (Int.le_of_lt s1) (Int.not_lt.mp q)
      omega
  · have s1 : 0 < partS a b := by unfold partS; rw [if_neg h]; omega
    by_cases q : 0 < b.fdiv (partS a b)
    · exact q
    · have := Int.mul_nonpos_of_nonneg_of_nonpos (Int.le_of_lt s1) (Int.not_lt.mp q)
      omega
theorem partV_cross {a b : Int} (hb : b ≠ 0) : (partV a b).1 * b = a * (partV a b).2 := by
  have e1 := fdiv_mul_of_dvd (partS_dl a b)
  have e2 := fdiv_mul_of_dvd (partS_dr a b)
  show a.fdiv (partS a b) * b = a * b.fdiv (partS a b)
  generalize a.fdiv (partS a b) = x at e1 ⊢
  generalize b.fdiv (partS a b) = y at e2 ⊢
  calc x * b = x * (partS a b * y) := by rw [e2]
    _ = (partS a b * x) * y := by rw [← Int.mul_assoc, Int.mul_comm x]
    _ = a * y := by rw [e1]
theorem partV_gcd {a b : Int} (hb : b ≠ 0) : Int.gcd (partV a b).1 (partV a b).2 = 1 := by
  have e1 := fdiv_mul_of_dvd (partS_dl a b)
  have e2 := fdiv_mul_of_dvd (partS_dr a b)
  show Int.gcd (a.fdiv (partS a b)) (b.fdiv (partS a b)) = 1
  have h := Int.gcd_mul_left (partS a b) (a.fdiv (partS a b)) (b.fdiv (partS a b))
  rw [e1, e2, partS_abs] at h
  have g := gcd_pos (a := a) hb
  exact Nat.eq_of_mul_eq_mul_left g (by rw [Nat.mul_one]; exact h.symm)
theorem partV_le {a b : Int} (hb : b ≠ 0) : (partV a b).1.natAbs ≤ a.natAbs ∧ (partV a b).2.natAbs ≤ b.natAbs := ⟨natAbs_fdiv_le (partS_dl a b) (partS_ne hb), natAbs_fdiv_le (partS_dr a b) (partS_ne hb)⟩
def pD (x : Int × Int) : PyData := .tuple [.int x.1, .int x.2]
/-- below 2 ^ n either way -/
def Lt2 (n : Nat) (a : Int) : Prop := a.natAbs < 2 ^ n
theorem Lt2.zero {n : Nat} : Lt2 n 0 := Nat.pow_pos (by decide)
theorem Lt2.mono {n m : Nat} {a : Int} (h : Lt2 n a) (k : n ≤ m) : Lt2 m a := Nat.lt_of_lt_of_le h (Nat.pow_le_pow_right (by decide) k)
theorem Lt2.mul {n m : Nat} {a b : Int} (h : Lt2 n a) (k : Lt2 m b) : Lt2 (n + m) (a * b) := by
  unfold Lt2
  rw [Int.natAbs_mul, Nat.pow_add]
  exact Nat.mul_lt_mul'' h k
theorem Lt2.add {n : Nat} {a b : Int} (h : Lt2 n a) (k : Lt2 n b) : Lt2 (n + 1) (a + b) := by
  unfold Lt2 at *
  have := Int.natAbs_add_le a b
  rw [Nat.pow_succ]; omega
theorem Lt2.sub {n : Nat} {a b : Int} (h : Lt2 n a) (k : Lt2 n b) : Lt2 (n + 1) (a - b) := by
  unfold Lt2 at *
  have := Int.natAbs_sub_le a b
  rw [Nat.pow_succ]; omega
theorem Lt2.of_le {n : Nat} {a b : Int} (h : Lt2 n a) (k : b.natAbs ≤ a.natAbs) : Lt2 n b := Nat.lt_of_le_of_lt k h
theorem Lt2.cm {n m : Nat} {a b : Int} (h : Lt2 n a) (k : Lt2 m b) (z : n + m + 2 ≤ 134217728) : CMulX a b := cmulX_of (h.mono (Nat.le_succ n)) (k.mono (Nat.le_succ m)) (Nat.succ_pos _) (Nat.succ_pos _) (by omega)
theorem Lt2.cd {n : Nat} {a b : Int} (hb : b ≠ 0) (k : Lt2 n b) (z : n < 9000) : CDivQ a b := cdivQ_of hb (k.mono (Nat.le_succ n)) (Nat.succ_pos _) (by omega)
theorem cellI_at {ns : List Int} {k : Int} (h0 : 0 ≤ k) (h : k < ns.length) : atI (ns.map PyData.int) k = some (.int (ns.getD k.toNat 0)) := by
  have h1 : k.toNat < ns.length := by omega
  refine atI_mk (k := k.toNat) ?_ ?_
  · unfold ixN
    rw [if_pos h0, List.length_map, if_pos (by omega)]
  · rw [List.getElem?_map, List.getElem?_eq_getElem h1]
    show some (PyData.int _) = some (PyData.int _)
    rw [List.getD_eq_getElem?_getD, List.getElem?_eq_getElem h1]; rfl
theorem cellI_out {ns : List Int} {k : Int} (h0 : 0 ≤ k) (h : ¬ k < ns.length) : ns.getD k.toNat 0 = 0 := by
  rw [List.getD_eq_getElem?_getD, List.getElem?_eq_none_iff.mpr (by omega)]; rfl
theorem Lt2.of_lt {n : Nat} {a : Int} (h : a.natAbs < 2 ^ n) : Lt2 n a := h
theorem fm_lt (a : Int) {m : Int} (h : 0 < m) {n : Nat} (k : m.natAbs < 2 ^ n) : Lt2 n (a.fmod m) := by
  have h1 := Int.fmod_nonneg_of_pos a h
  have h2 := Int.fmod_lt_of_pos a h
  unfold Lt2; omega
theorem fm2 (a : Int) : a.fmod 2 = 0 ∨ a.fmod 2 = 1 := by
  have h1 := Int.fmod_nonneg_of_pos a (b := 2) (by decide)
  have h2 := Int.fmod_lt_of_pos a (b := 2) (by decide)
  omega
theorem partS_of_pos {a b : Int} (hb : 0 < b) : partS a b = (Int.gcd a b : Int) := by unfold partS; rw [if_neg (by omega)]
theorem shaped_pD (x : Int × Int) : SeqAt.shaped (pD x) = true := rfl
theorem eqv_pD (x y : Int × Int) : PyData.eqv (pD x) (pD y) = decide (x = y) := by
  obtain ⟨a, b⟩ := x
  obtain ⟨c, d⟩ := y
  show ((a == c) && ((b == d) && true)) = _
  rw [Bool.and_true]
  by_cases h1 : a = c <;> by_cases h2 : b = d <;> simp [h1, h2]
/-- rows -/
def rD (xs : List Int) : List PyData := xs.map .int
theorem rD_len (xs : List Int) : (rD xs).length = xs.length := List.length_map _
theorem rD_get {xs : List Int} {i : Nat} {d : PyData} (h : (rD xs)[i]? = some d) : ∃ a, xs[i]? = some a ∧ d = .int a := by
  unfold rD at h
  rw [List.getElem?_map] at h
  cases q : xs[i]? with
  | none => rw [q] at h; cases h
  | some a => rw [q] at h; cases h; exact ⟨a, rfl, rfl⟩
theorem rD_at {xs : List Int} {k : Int} (h0 : 0 ≤ k) (h : k < xs.length) : atI (rD xs) k = some (.int (xs.getD k.toNat 0)) := cellI_at h0 h
theorem rD_last {xs : List Int} (h : xs ≠ []) : atI (rD xs) (-1) = some (.int (xs.getLast h)) := by
  have hl : 0 < xs.length := List.length_pos_iff.mpr h
  refine atI_mk (k := xs.length - 1) ?_ ?_
  · unfold ixN
    rw [if_neg (by omega), rD_len, if_pos (by omega)]
    congr 1; omega
  · unfold rD
    rw [List.getElem?_map, ← List.getLast?_eq_getElem?, List.getLast?_eq_some_getLast h]; rfl
theorem canLayAll_rD : ∀ xs : List Int, PyData.canLayAll0 (rD xs) = true
  | [] => rfl
  | _ :: xs => by show (true && PyData.canLayAll0 (rD xs)) = true; rw [canLayAll_rD xs]; rfl
theorem depthAll_rD : ∀ xs : List Int, PyData.depthAll (rD xs) = 0
  | [] => rfl
  | _ :: xs => by show max 0 (PyData.depthAll (rD xs)) = 0; rw [depthAll_rD xs]; rfl
theorem shaped_l (xs : List Int) : SeqAt.shaped (.list (rD xs)) = true := by
  show (PyData.canLayAll0 (rD xs) && decide (PyData.depthAll (rD xs) + 1 ≤ 64)) = true
  rw [canLayAll_rD, depthAll_rD]; rfl
theorem shaped_t (xs : List Int) : SeqAt.shaped (.tuple (rD xs)) = true := shaped_l xs
theorem eqvAll_rD : ∀ xs ys : List Int, PyData.eqvAll (rD xs) (rD ys) = decide (xs = ys)
  | [], [] => rfl
  | [], _ :: _ => rfl
  | _ :: _, [] => rfl
  | x :: xs, y :: ys => by
    show ((x == y) && PyData.eqvAll (rD xs) (rD ys)) = _
    rw [eqvAll_rD xs ys]
    by_cases h1 : x = y <;> by_cases h2 : xs = ys <;> simp [h1, h2]
theorem eqv_l (xs ys : List Int) : PyData.eqv (.list (rD xs)) (.list (rD ys)) = decide (xs = ys) := eqvAll_rD xs ys
theorem cut_rD (xs : List Int) (a b : Nat) : cutD (rD xs) (some (a : Int)) (some (b : Int)) = rD ((xs.drop a).take (b - a)) := by
  unfold cutD
  rw [HT.sIx_nat, HT.sIx_nat, rD_len]
  unfold rD
  rw [← List.map_drop, ← List.map_take]
  congr 1
  apply List.ext_getElem?
  intro i
  rw [List.getElem?_take, List.getElem?_take, List.getElem?_drop, List.getElem?_drop]
  by_cases h : a ≤ xs.length
  · rw [Nat.min_eq_left h]
    by_cases h2 : b ≤ xs.length
    · rw [Nat.min_eq_left h2]
    · rw [Nat.min_eq_right (by omega)]
      by_cases h3 : a + i < xs.length
      · split <;> split <;> first | rfl | (exfalso; omega)
      · rw [List.getElem?_eq_none_iff.mpr (by omega)]
        split <;> split <;> rfl
  · rw [Nat.min_eq_right (show xs.length ≤ a by omega)]
    rw [List.getElem?_eq_none_iff.mpr (show xs.length ≤ xs.length + i by omega), List.getElem?_eq_none_iff.mpr (show xs.length ≤ a + i by omega)]
    split <;> split <;> rfl
theorem cut_rD_lo (xs : List Int) (a : Nat) : cutD (rD xs) (some (a : Int)) none = rD (xs.drop a) := by
  unfold cutD
  rw [HT.sIx_nat, HT.sIx_none, rD_len]
  unfold rD
  rw [← List.map_drop, ← List.map_take]
  congr 1
  by_cases h : a ≤ xs.length
  · rw [Nat.min_eq_left h, ← List.length_drop, List.take_length]
  · rw [Nat.min_eq_right (by omega), List.drop_eq_nil_of_le (Nat.le_refl _), List.drop_eq_nil_of_le (by omega), List.take_nil]
theorem cut_rD_hi (xs : List Int) (b : Nat) : cutD (rD xs) none (some (b : Int)) = rD (xs.take b) := by
  unfold cutD
  rw [HT.sIx_nat, HT.sIx_none, rD_len]
  unfold rD
  rw [List.drop_zero, ← List.map_take, Nat.sub_zero]
  congr 1
  by_cases h : b ≤ xs.length
  · rw [Nat.min_eq_left h]
  · rw [Nat.min_eq_right (by omega), List.take_length, List.take_of_length_le (by omega)]
theorem cut_rD_m1 (xs : List Int) : cutD (rD xs) none (some (-1)) = rD xs.dropLast := by
  unfold cutD
  have e : HT.sIx xs.length xs.length (some (-1)) = ((-1) + (xs.length : Int)).toNat := rfl
  rw [HT.sIx_none, rD_len, e, List.drop_zero, Nat.sub_zero, List.dropLast_eq_take]
  unfold rD
  rw [← List.map_take]
  congr 2; omega
theorem cut_I (xs : List Int) {a b : Int} (ha : 0 ≤ a) (hb : 0 ≤ b) : cutD (rD xs) (some a) (some b) = rD ((xs.drop a.toNat).take (b.toNat - a.toNat)) := by
  have := cut_rD xs a.toNat b.toNat
  rwa [Int.toNat_of_nonneg ha, Int.toNat_of_nonneg hb] at this
theorem cut_lo (xs : List Int) {a : Int} (ha : 0 ≤ a) : cutD (rD xs) (some a) none = rD (xs.drop a.toNat) := by
  have := cut_rD_lo xs a.toNat
  rwa [Int.toNat_of_nonneg ha] at this
theorem cut_hi (xs : List Int) {b : Int} (hb : 0 ≤ b) : cutD (rD xs) none (some b) = rD (xs.take b.toNat) := by
  have := cut_rD_hi xs b.toNat
  rwa [Int.toNat_of_nonneg hb] at this
theorem ed_lenR {K : PySem.W.Frag} {ρ : Rho} {ta : TE} {d : PyData} {xs : List Int} (ha : ED K ta ρ d) (s : SeqD d (rD xs)) : ED K (tLen K ta) ρ (.int xs.length) := (ed_len ha s).cast (by rw [rD_len])
theorem ed_lenRO {K : PySem.W.Frag} {ρ : Rho} {k : Nat} {xs : List Int} (h : ρ[k]? = some (some (.own (rD xs)))) : ED K (tLen K (tVar k)) ρ (.int xs.length) := (ed_lenO h).cast (by rw [rD_len])
theorem map_range {α : Type} {f : Nat → α} {xs : List Int} {g : Int → α} (h : ∀ i a, xs[i]? = some a → f i = g a) : (List.range xs.length).map f = xs.map g := by
  apply List.ext_getElem?
  intro i
  rw [List.getElem?_map, List.getElem?_map]
  by_cases hi : i < xs.length
  · rw [List.getElem?_range hi, List.getElem?_eq_getElem hi]
    show some (f i) = some (g _)
    rw [h i _ (List.getElem?_eq_getElem hi)]
  · rw [List.getElem?_eq_none_iff.mpr (by rw [List.length_range]; omega), List.getElem?_eq_none_iff.mpr (by omega)]; rfl
/-- the sign of a number -/
def sgn (a : Int) : Int := if a < 0 then -1 else if 0 < a then 1 else 0
/-- the row's value at t by b, times b to the power of one less than its length; and b to the power of its length -/
def hor (t b : Int) : List Int → Int × Int
  | [] => (0, 1)
  | x :: xs => ((hor t b xs).1 * t + x * (hor t b xs).2, (hor t b xs).2 * b)
theorem hor_lt {n m : Nat} {t b : Int} (ht : Lt2 m t) (hb : Lt2 m b) (hm : 1 ≤ m) : ∀ {xs : List Int}, (∀ x ∈ xs, Lt2 n x) → Lt2 (n + xs.length * (m + 1)) (hor t b xs).1 ∧ Lt2 (xs.length * m + 1) (hor t b xs).2
  | [], _ => ⟨Lt2.zero, Lt2.of_lt (by show 1 < 2 ^ (0 * m + 1); rw [Nat.zero_mul]; decide)⟩
  | x :: xs, h => by
    obtain ⟨h1, h2⟩ := hor_lt ht hb hm (xs := xs) fun y hy => h y (List.mem_cons_of_mem _ hy)
    have hx := h x List.mem_cons_self
    have e1 : (xs.length + 1) * (m + 1) = xs.length * (m + 1) + (m + 1) := Nat.succ_mul _ _
    have e2 : (xs.length + 1) * m = xs.length * m + m := Nat.succ_mul _ _
    have e3 : xs.length * (m + 1) = xs.length * m + xs.length := Nat.mul_succ _ _
    refine ⟨?_, ?_⟩
    · have a1 : Lt2 (n + xs.length * (m + 1) + m) ((hor t b xs).1 * t) := h1.mul ht
      have a2 : Lt2 (n + xs.length * (m + 1) + m) (x * (hor t b xs).2) := (hx.mul h2).mono (by omega)
      show Lt2 (n + (xs.length + 1) * (m + 1)) _
      exact (a1.add a2).mono (by omega)
    · show Lt2 ((xs.length + 1) * m + 1) _
      exact (h2.mul hb).mono (by omega)
end Rt

namespace Rt
open PySem PySem.Spec PyProof.Rows L2 Evl
/-! the steps that need no thought; «walk_at "ev"» goes on till it is stuck -/
local macro_rules | `(tactic| walk_at "rt1") => `(tactic| first
  | ((with_reducible show _ = true → ED _ _ _ _); intro _) | ((with_reducible show _ = false → ED _ _ _ _); intro _) | ((with_reducible show _ = true → TD _ _ _ _); intro _) | ((with_reducible show _ = false → TD _ _ _ _); intro _)
  | with_reducible exact ed_int | with_reducible exact ed_bl | with_reducible exact ed_non | with_reducible exact ad_nil | with_reducible exact od_none | with_reducible exact td_yes
  | ((with_reducible apply ed_var); exact rfl)
  | (with_reducible apply ad_cons)
  | (with_reducible apply td_test) | (with_reducible apply td_truth) | (with_reducible apply td_not) | (with_reducible apply td_and) | (with_reducible apply td_or)
  | (with_reducible apply ed_add) | (with_reducible apply ed_sub) | (with_reducible apply ed_mul) | (with_reducible apply ed_mod) | (with_reducible apply ed_fdivP) | (with_reducible apply ed_pow) | (with_reducible apply ed_neg)
  | (with_reducible apply ed_lt) | (with_reducible apply ed_le) | (with_reducible apply ed_gt) | (with_reducible apply ed_ge)
  | (with_reducible apply ed_eqD) | (with_reducible apply ed_neD)
  | (with_reducible apply ed_ix) | (with_reducible apply ed_len) | (with_reducible apply ed_abs) | (with_reducible apply ed_gcd) | (with_reducible apply ed_isi)
  | (with_reducible apply ed_tup) | (with_reducible apply ed_tuple) | (with_reducible apply ed_andV) | (with_reducible apply ed_orV) | (with_reducible apply ed_notV)
  | (with_reducible apply od_some)
  | (with_reducible apply ef_lst) | (with_reducible apply ef_list) | (with_reducible apply ef_sl) | (with_reducible apply ef_cat)
  | (with_reducible apply EF.ed; with_reducible apply ef_lst) | (with_reducible apply EF.ed; with_reducible apply ef_list) | (with_reducible apply EF.ed; with_reducible apply ef_sl) | (with_reducible apply EF.ed; with_reducible apply ef_cat)
  | (with_reducible apply ed_call)
  | ((with_reducible show SeqD _ _); first | exact SeqD.l _ | exact SeqD.t _ | assumption)
  | ((with_reducible show Truth _ _); first | exact Truth.bool _ | exact Truth.int _ | exact Truth.l _ | exact Truth.t _)
  | ((with_reducible show SeqAt.shaped _ = true); exact rfl)
  | ((with_reducible show atI _ _ = some _); first | exact rfl | assumption)
  | ((with_reducible show kitB _ _ = some _); first | exact rfl | decide +kernel)
  | ((with_reducible show List.length _ = _); rfl)
  | ((with_reducible show List.length _ ≤ 100000); first | exact Nat.le_of_ble_eq_true rfl | (simp; done) | (simp; omega)))
local macro_rules | `(tactic| walk_at "ev") => `(tactic| repeat' walk_at "rt1")
/-! ### the promises -/
def F__law_whole (ds : List PyData) (r : Res) : Prop := ∃ a : Int, ds = [.int a] ∧ r = .rt (.bool true)
def F__law_cell_at (ds : List PyData) (r : Res) : Prop := ∃ (ns : List Int) (k : Int), ds = [.list (rD ns), .int k] ∧ 0 ≤ k ∧ r = .rt (.int (ns.getD k.toNat 0))
def F__law_divisor (ds : List PyData) (r : Res) : Prop := ∃ a b : Int, ds = [.int a, .int b] ∧ r = .rt (.int (Int.gcd a b))
def F__law_part (ds : List PyData) (r : Res) : Prop := ∃ a b : Int, ds = [.int a, .int b] ∧ b ≠ 0 ∧ Lt2 8000 b ∧ r = .rt (pD (partV a b))
def F_sign (ds : List PyData) (r : Res) : Prop := ∃ a : Int, ds = [.int a] ∧ r = .rt (.int (sgn a))
def F_sign_at (ds : List PyData) (r : Res) : Prop := ∃ (d : PyData) (xs : List Int) (t b : Int) (n m : Nat), ds = [d, pD (t, b)] ∧ SeqD d (rD xs) ∧ (∀ x ∈ xs, Lt2 n x) ∧ Lt2 m t ∧ Lt2 m b ∧ 1 ≤ m ∧ n + (xs.length + 2) * (m + 1) ≤ 100000000 ∧ r = .rt (.int (sgn (hor t b xs).1))
abbrev sp__law_whole (K : PySem.W.Frag) : Sp := spD K 1 F__law_whole
abbrev sp__law_cell_at (K : PySem.W.Frag) : Sp := spD K 2 F__law_cell_at
abbrev sp__law_divisor (K : PySem.W.Frag) : Sp := spD K 2 F__law_divisor
abbrev sp__law_part (K : PySem.W.Frag) : Sp := spD K 2 F__law_part
abbrev sp_sign (K : PySem.W.Frag) : Sp := spD K 1 F_sign
abbrev sp_sign_at (K : PySem.W.Frag) : Sp := spD K 2 F_sign_at
def t__law_whole (K : PySem.W.Frag) : TS := (tRet (tAndV (tCB (rIsi K) (tCons (tVar 0) (tCons (tC (.ty "int")) tNil))) (tNotV (tCB (rIsi K) (tCons (tVar 0) (tCons (tC (.ty "bool")) tNil))))))
abbrev N__law_whole : List Str := ["_law_found"]
def t__law_cell_at (K : PySem.W.Frag) : TS := (tSeq (tIfS (tTest (tOp (rI0 fun i j => .bl (decide (i < j))) (tVar 1) (tLen K (tVar 0)))) (tRet (tOp (rIx K) (tVar 0) (tVar 1))) tNext)
  (tRet (tC (.int 0))))
abbrev N__law_cell_at : List Str := ["_law_script", "_law_k"]
def t__law_divisor (K : PySem.W.Frag) : TS := (tSeq (tWhile (tTest (tOp (rNeD K) (tVar 1) (tC (.int 0)))) (tSeq (tAsg (tOp (rI (fun _ j => j ≠ 0) fun i j => .int (i.fmod j)) (tVar 0) (tVar 1)) (gName 2))
  (tSeq (tAsg (tVar 1) (gName 0))
  (tAsg (tVar 2) (gName 1)))))
  (tRet (tCB rAbs (tCons (tVar 0) tNil))))
abbrev N__law_divisor : List Str := ["_law_one", "_law_other", "_law_over"]
def t__law_part (K : PySem.W.Frag) : TS := (tSeq (tAsg (tCall (sp__law_divisor K) [] E0 (tCons (tVar 0) (tCons (tVar 1) tNil))) (gName 2))
  (tSeq (tIfS (tTest (tOp (rI0 fun i j => .bl (decide (i < j))) (tVar 1) (tC (.int 0)))) (tAsg (tOp (rI0 fun i j => .int (i - j)) (tC (.int 0)) (tVar 2)) (gName 2)) tNext)
  (tRet (tTup (tCons (tOp (rI CDivQ fun i j => .int (i.fdiv j)) (tVar 0) (tVar 2)) (tCons (tOp (rI CDivQ fun i j => .int (i.fdiv j)) (tVar 1) (tVar 2)) tNil))))))
abbrev N__law_part : List Str := ["_law_top", "_law_bottom", "_law_by"]
def t_sign (K : PySem.W.Frag) : TS := (tSeq (tIfS (tTest (tOp (rI0 fun i j => .bl (decide (i < j))) (tVar 0) (tC (.int 0)))) (tRet (tUn (rU fun i => .int (-i)) (tC (.int 1)))) tNext)
  (tSeq (tIfS (tTest (tOp (rI0 fun i j => .bl (decide (j < i))) (tVar 0) (tC (.int 0)))) (tRet (tC (.int 1))) tNext)
  (tRet (tC (.int 0)))))
abbrev N_sign : List Str := ["number"]
def t_sign_at (K : PySem.W.Frag) : TS := (tSeq (tAsg (tVar 1) (gTup K 2 (gCons (gName 2) (gCons (gName 3) gNil))))
  (tSeq (tAsg (tC (.int 0)) (gName 4))
  (tSeq (tAsg (tC (.int 1)) (gName 5))
  (tSeq (tFor (RT.iRevA K (tVar 0)) (gName 6) (tSeq (tAsg (tOp (rI0 fun i j => .int (i + j)) (tOp (rI CMulX fun i j => .int (i * j)) (tVar 4) (tVar 2)) (tOp (rI CMulX fun i j => .int (i * j)) (tVar 6) (tVar 5))) (gName 4))
  (tAsg (tOp (rI CMulX fun i j => .int (i * j)) (tVar 5) (tVar 3)) (gName 5))))
  (tRet (tCall (sp_sign K) [] E0 (tCons (tVar 4) tNil)))))))
abbrev N_sign_at : List Str := ["row", "at", "top", "bottom", "value", "scale", "number"]
section
variable {K : PySem.W.Frag}
theorem pure__law_whole (ds : List PyData) (r : Res) (h : F__law_whole ds r) (B0 B : Hp) : SD K B0 B (t__law_whole K) (startR N__law_whole ds) (fin r) := by
  obtain ⟨a, rfl, rfl⟩ := h
  unfold t__law_whole
  apply sd_ret; (case h => walk_at "ev" )
  rfl
theorem pure__law_cell_at (ds : List PyData) (r : Res) (h : F__law_cell_at ds r) (B0 B : Hp) : SD K B0 B (t__law_cell_at K) (startR N__law_cell_at ds) (fin r) := by
  obtain ⟨ns, k, rfl, h0, rfl⟩ := h
  unfold t__law_cell_at
  apply sd_seq; apply sd_if; (case h => walk_at "ev" ); all_goals intro hb
  · have hb : k < ns.length := by simpa [rD_len] using hb
    apply sd_ret; (case h => walk_at "ev" <;> (first | (exact cellI_at h0 hb) | walk_at "rt1"))
    rfl
  · have hb : ¬ k < ns.length := by simpa [rD_len] using hb
    rw [cellI_out h0 hb]
    refine sd_next ?_
    apply sd_ret; (case h => walk_at "ev" )
    rfl
theorem pure__law_divisor (ds : List PyData) (r : Res) (h : F__law_divisor ds r) (B0 B : Hp) : SD K B0 B (t__law_divisor K) (startR N__law_divisor ds) (fin r) := by
  obtain ⟨a, b, rfl, rfl⟩ := h
  unfold t__law_divisor
  refine sd_seq (sd_while (fun m ρ => ∃ x y : Int, ∃ z, ρ = [some (.d (.int x)), some (.d (.int y)), z] ∧ Int.gcd x y = Int.gcd a b ∧ m = y.natAbs) b.natAbs ⟨a, b, none, rfl, rfl, rfl⟩ ?_)
  rintro m ρ ⟨x, y, z, rfl, hg, rfl⟩
  refine ⟨_, (by walk_at "ev"), fun hb => ?_, fun hb => ?_⟩
  · have hb : y ≠ 0 := by simpa [eqv_int] using hb
    apply sd_seq; apply sd_set; (case h => walk_at "ev" <;> (first | (exact hb) | walk_at "rt1"))
    apply sd_seq; apply sd_set; (case h => walk_at "ev" )
    apply sd_set; (case h => walk_at "ev" )
    exact ⟨_, natAbs_fmod_lt x hb, y, x.fmod y, _, rfl, by rw [gcd_fmod, hg], rfl⟩
  · have hb : y = 0 := by simpa [eqv_int] using hb
    subst hb
    show SD K B0 B _ _ _
    apply sd_ret; (case h => walk_at "ev" )
    show PyData.int _ = PyData.int _
    have e : ((Int.gcd a b : Nat) : Int) = (x.natAbs : Int) := by rw [← hg, Int.gcd_zero_right]
    rw [e]
    congr 1
    split <;> omega
theorem pure__law_part (ds : List PyData) (r : Res) (h : F__law_part ds r) (B0 B : Hp) : SD K B0 B (t__law_part K) (startR N__law_part ds) (fin r) := by
  obtain ⟨a, b, rfl, hb, hz, rfl⟩ := h
  have s0 := partS_ne (a := a) (b := b) hb
  have sz : Lt2 8000 (partS a b) := hz.of_le (partS_le hb)
  unfold t__law_part
  apply sd_seq; apply sd_set; (case h => walk_at "ev" <;> (first | (exact ⟨a, b, rfl, rfl⟩) | walk_at "rt1"))
  apply sd_seq; apply sd_if; (case h => walk_at "ev" ); all_goals intro hb
  · have hc : b < 0 := of_decide_eq_true hb
    have es : partS a b = 0 - (Int.gcd a b : Int) := by unfold partS; rw [if_pos hc]; omega
    apply sd_set; (case h => walk_at "ev" )
    rw [← es]
    apply sd_ret; (case h => walk_at "ev" <;> (first | (exact sz.cd s0 (by decide)) | walk_at "rt1"))
    rfl
  · have hc : ¬ b < 0 := of_decide_eq_false hb
    have es : partS a b = (Int.gcd a b : Int) := by unfold partS; rw [if_neg hc]
    rw [← es]
    refine sd_next ?_
    apply sd_ret; (case h => walk_at "ev" <;> (first | (exact sz.cd s0 (by decide)) | walk_at "rt1"))
    rfl
theorem pure_sign (ds : List PyData) (r : Res) (h : F_sign ds r) (B0 B : Hp) : SD K B0 B (t_sign K) (startR N_sign ds) (fin r) := by
  obtain ⟨a, rfl, rfl⟩ := h
  unfold t_sign sgn
  apply sd_seq; apply sd_if; (case h => walk_at "ev" ); all_goals intro hb
  · have hb : a < 0 := of_decide_eq_true hb
    rw [if_pos hb]
    apply sd_ret; (case h => walk_at "ev" )
    rfl
  · have h1 : ¬ a < 0 := of_decide_eq_false hb
    rw [if_neg h1]
    refine sd_next ?_
    apply sd_seq; apply sd_if; (case h => walk_at "ev" ); all_goals intro hb
    · have hb : 0 < a := of_decide_eq_true hb
      rw [if_pos hb]
      apply sd_ret; (case h => walk_at "ev" )
      rfl
    · have hb : ¬ 0 < a := of_decide_eq_false hb
      rw [if_neg hb]
      refine sd_next ?_
      apply sd_ret; (case h => walk_at "ev" )
      rfl
theorem rev_drop {xs : List Int} {i : Nat} {a : Int} (h : xs.reverse[i]? = some a) : xs.drop (xs.length - (i + 1)) = a :: xs.drop (xs.length - i) := by
  have hi : i < xs.length := by have := (List.getElem?_eq_some_iff.mp h).1; rwa [List.length_reverse] at this
  rw [List.getElem?_reverse hi] at h
  have e : xs.length - (i + 1) = xs.length - 1 - i := by omega
  obtain ⟨hl, ha⟩ := List.getElem?_eq_some_iff.mp h
  rw [e, List.drop_eq_getElem_cons hl, ha]
  congr 2; omega
theorem pure_sign_at (ds : List PyData) (r : Res) (h : F_sign_at ds r) (B0 B : Hp) : SD K B0 B (t_sign_at K) (startR N_sign_at ds) (fin r) := by
  obtain ⟨d, xs, t, b, n, m, rfl, hs, hx, ht, hb, hm, hz, rfl⟩ := h
  unfold t_sign_at
  refine sd_seq (sd_asg (ed_var rfl) (gd_pair (d := .int t) (e := .int b)) ?_)
  apply sd_seq; apply sd_set; (case h => walk_at "ev" )
  apply sd_seq; apply sd_set; (case h => walk_at "ev" )
  refine sd_seq (sd_for (id_revA (ed_var rfl) hs) (fun i ρ => ∃ z, ρ = [some (.d d), some (.d (pD (t, b))), some (.d (.int t)), some (.d (.int b)), some (.d (.int (hor t b (xs.drop (xs.length - i))).1)), some (.d (.int (hor t b (xs.drop (xs.length - i))).2)), z]) ⟨none, ?_⟩ ?_ ?_)
  · rw [Nat.sub_zero, List.drop_length]; rfl
  · rintro i x ρ' hi ⟨z, rfl⟩
    have hi' : (rD xs.reverse)[i]? = some x := by unfold rD; rw [List.map_reverse]; exact hi
    obtain ⟨a, ha, rfl⟩ := rD_get hi'
    have hlt : i < xs.length := by have := (List.getElem?_eq_some_iff.mp ha).1; rwa [List.length_reverse] at this
    refine ⟨_, gd_name, ?_⟩
    have e := rev_drop ha
    have hmem : a ∈ xs := List.mem_reverse.mp (List.mem_of_getElem? ha)
    obtain ⟨b1, b2⟩ := hor_lt (n := n) ht hb hm (xs := xs.drop (xs.length - i)) fun y hy => hx y (List.mem_of_mem_drop hy)
    have hll : (xs.drop (xs.length - i)).length = i := by rw [List.length_drop]; omega
    rw [hll] at b1 b2
    have e1 : i * (m + 1) ≤ xs.length * (m + 1) := Nat.mul_le_mul_right _ (by omega)
    have e2 : i * (m + 1) = i * m + i := Nat.mul_succ _ _
    have e3 : (xs.length + 2) * (m + 1) = xs.length * (m + 1) + 2 * (m + 1) := Nat.add_mul _ _ _
    have ek : hor t b (xs.drop (xs.length - (i + 1))) = ((hor t b (xs.drop (xs.length - i))).1 * t + a * (hor t b (xs.drop (xs.length - i))).2, (hor t b (xs.drop (xs.length - i))).2 * b) := by rw [e]; rfl
    apply sd_seq; apply sd_set; (case h => walk_at "ev" <;> (first | (first | exact b1.cm ht (by omega) | exact (hx a hmem).cm b2 (by omega)) | walk_at "rt1"))
    apply sd_set; (case h => walk_at "ev" <;> (first | (exact b2.cm hb (by omega)) | walk_at "rt1"))
    exact ⟨_, by rw [ek]; rfl⟩
  · rintro ρ' ⟨z, rfl⟩
    show SD K B0 B _ _ _
    rw [List.length_reverse, rD_len, Nat.sub_self, List.drop_zero]
    apply sd_ret; (case h => walk_at "ev" <;> (first | (exact ⟨_, rfl, rfl⟩) | walk_at "rt1"))
    rfl
end
end Rt

namespace Rt
open PySem PySem.Spec PyProof.Rows L2 Evl
/-- what a division of very large numbers asks of the program and of the ground -/
structure Seer (P : Program) (base : Heap) : Prop where
  st : ∃ mc, base.Ns cStatics mc ∧ mc "sys.audit-hooks" = none ∧ mc "sys.dict" = none
  mods : ∃ mm, base.Ns sysModules mm ∧ mm "_pylong" = none
  main : ∃ mg bm ob, base.Ns mainGlobals mg ∧ mg "__builtins__" = some (.ref bm) ∧ base.get? bm = some ob ∧ ob.cls = .type "module" ∧ ob.dict = some builtinsNs
  tr : P.given.tree = none
/-- the frame that runs is a plain def's -/
def Plain (X : Cx) : Prop := ∃ (env : PySem.Env) (l : List PySem.Env), X.stack = env :: l ∧ env.scope.isGenerator = false ∧ env.scope.isCoroutine = false ∧ env.builtins = builtinsNs ∧ env.globals = mainGlobals
theorem op_fdivS {X : Cx} (S : Seer X.prog X.base) (hp : Plain X) (hr : Room 40 X.A) : OpR X (binaryOp .FloorDiv) (rI (fun _ j => j ≠ 0) fun i j => .int (i.fdiv j)) := by
  intro pins s σ H x y v u Q I rx ry h
  obtain ⟨i, j, rfl, rfl, hc, q⟩ := h
  obtain ⟨t, rfl⟩ := rx
  obtain ⟨t2, rfl⟩ := ry
  obtain ⟨env, l, h1, h2, h3, h4, h5⟩ := hp
  have hN : s.heap.NoSeer := Heap.NoSeer.keeps ⟨S.st, S.mods, I.ok.mod.blt, S.main⟩ I.bk
  have hA : SeerAt (model X.prog X.w) X.A s.heap := SeerAt.of (env := env) (l := l) hN S.tr (by rw [I.ok.frames, h1]) h2 h3 h4 h5
  have hd := hr.dp
  exact PyProof.Rows.floordiv_int hc ⟨.int _, H, I.tok _, ⟨_, rfl⟩, q⟩ (.inr (PylongRoom.of I.nolimit (by show X.A.depth + 100 < 1000; have : recursionLimit = 1000 := rfl; omega) hA))
/-- from the written part -/
theorem seer_of {P : Program} {K : PySem.W.Frag} {mg : Str → Option Value} {base : Heap} {bm : Addr} {obd : Data} {obs : Array (Option Value)} (ht : P.given.tree = none) (X : K.In base) (G : base.Ns mainGlobals mg)
    (k1 : PySem.W.nsOkIn K cStatics = true) (q1 : PySem.W.nsIn K cStatics "sys.audit-hooks" = some none) (q2 : PySem.W.nsIn K cStatics "sys.dict" = some none)
    (k3 : PySem.W.nsOkIn K sysModules = true) (q3 : PySem.W.nsIn K sysModules "_pylong" = some none)
    (q4 : PySem.W.nsIn K mainGlobals "__builtins__" = some (some (.ref bm))) (q5 : K.lookup bm = some ⟨.type "module", some builtinsNs, obd, obs⟩) : Seer P base := by
  have n1 := Heap.Ns.of_isNs (PySem.W.isNs_of_in X k1)
  have n3 := Heap.Ns.of_isNs (PySem.W.isNs_of_in X k3)
  exact ⟨⟨_, n1, PySem.W.ns_none_of X n1 q1, PySem.W.ns_none_of X n1 q2⟩, ⟨_, n3, PySem.W.ns_none_of X n3 q3⟩, ⟨mg, bm, _, G, PySem.W.mg_of X G q4, X _ _ q5, rfl, rfl⟩, ht⟩
end Rt

/-! polynomials as rows, lowest first; what is told of them is told of their values at whole numbers -/
namespace Rt
def ev : List Int → Int → Int
  | [], _ => 0
  | a :: p, x => a + x * ev p x
def addL : List Int → List Int → List Int
  | [], q => q
  | p, [] => p
  | a :: p, b :: q => (a + b) :: addL p q
def smul (k : Int) (p : List Int) : List Int := p.map fun a => k * a
def mulL : List Int → List Int → List Int
  | [], _ => []
  | a :: p, q => addL (smul a q) (0 :: mulL p q)
theorem ev_addL : ∀ (p q : List Int) (x : Int), ev (addL p q) x = ev p x + ev q x
  | [], q, x => by simp [addL, ev]
  | a :: p, [], x => by simp [addL, ev]
  | a :: p, b :: q, x => by
    show (a + b) + x * ev (addL p q) x = _
    rw [ev_addL p q x]; simp only [ev]; grind
theorem ev_smul (k : Int) : ∀ (p : List Int) (x : Int), ev (smul k p) x = k * ev p x
  | [], x => by simp [smul, ev]
  | a :: p, x => by
    show k * a + x * ev (smul k p) x = _
    rw [ev_smul k p x]; simp only [ev]; grind
theorem ev_mulL : ∀ (p q : List Int) (x : Int), ev (mulL p q) x = ev p x * ev q x
  | [], q, x => by simp [mulL, ev]
  | a :: p, q, x => by
    show ev (addL (smul a q) (0 :: mulL p q)) x = _
    rw [ev_addL, ev_smul]; simp only [ev]; rw [ev_mulL p q x]; grind
theorem addL_len : ∀ p q : List Int, (addL p q).length = max p.length q.length
  | [], q => by simp [addL]
  | a :: p, [] => by simp [addL]
  | a :: p, b :: q => by
    show (addL p q).length + 1 = max (p.length + 1) (q.length + 1)
    rw [addL_len p q]; omega
theorem mulL_len : ∀ {p q : List Int}, p ≠ [] → q ≠ [] → (mulL p q).length + 1 = p.length + q.length
  | [], _, h, _ => absurd rfl h
  | [a], q, _, hq => by
    show (addL (smul a q) (0 :: [])).length + 1 = 1 + q.length
    have := List.length_pos_iff.mpr hq
    rw [addL_len]; simp only [smul, List.length_map, List.length_cons, List.length_nil]; omega
  | a :: b :: p, q, _, hq => by
    show (addL (smul a q) (0 :: mulL (b :: p) q)).length + 1 = p.length + 1 + 1 + q.length
    have ih := mulL_len (p := b :: p) (q := q) (by simp) hq
    rw [addL_len]; simp only [smul, List.length_map, List.length_cons] at *; omega
/-- the last number -/
def lastZ (p : List Int) : Int := p.getLast?.getD 0
theorem lastZ_cons (a b : Int) (p : List Int) : lastZ (a :: b :: p) = lastZ (b :: p) := by simp [lastZ]
theorem lastZ_one (a : Int) : lastZ [a] = a := rfl
theorem lastZ_ne {p : List Int} (h : lastZ p ≠ 0) : p ≠ [] := by rintro rfl; exact h rfl
theorem lastZ_smul (k : Int) : ∀ p : List Int, lastZ (smul k p) = k * lastZ p
  | [] => by simp [smul, lastZ]
  | [a] => rfl
  | a :: b :: p => by
    show lastZ (k * a :: k * b :: smul k p) = k * lastZ (a :: b :: p)
    rw [lastZ_cons, lastZ_cons]; exact lastZ_smul k (b :: p)
theorem lastZ_addL_lt : ∀ {p q : List Int}, p.length < q.length → lastZ (addL p q) = lastZ q
  | [], q, _ => by simp [addL]
  | [a], [b], h => by simp at h
  | [a], b :: c :: q, _ => by simp [addL, lastZ]
  | a :: a' :: p, [b], h => by simp at h
  | a :: a' :: p, b :: b' :: q, h => by
    show lastZ ((a + b) :: (a' + b') :: addL p q) = _
    rw [lastZ_cons, lastZ_cons]
    exact lastZ_addL_lt (p := a' :: p) (q := b' :: q) (by simpa using h)
theorem lastZ_mulL : ∀ {p q : List Int}, p ≠ [] → q ≠ [] → lastZ (mulL p q) = lastZ p * lastZ q
  | [], _, h, _ => absurd rfl h
  | [a], q, _, hq => by
    show lastZ (addL (smul a q) [0]) = a * lastZ q
    cases q with
    | nil => exact absurd rfl hq
    | cons b q =>
      cases q with
      | nil => show lastZ [a * b + 0] = a * b; simp [lastZ]
      | cons c q =>
        show lastZ ((a * b + 0) :: addL (smul a (c :: q)) []) = _
        have : addL (smul a (c :: q)) [] = smul a (c :: q) := rfl
        rw [this, show smul a (c :: q) = a * c :: smul a q from rfl, lastZ_cons, lastZ_cons]
        exact lastZ_smul a (c :: q)
  | a :: b :: p, q, _, hq => by
    show lastZ (addL (smul a q) (0 :: mulL (b :: p) q)) = lastZ (a :: b :: p) * lastZ q
    have hl := mulL_len (p := b :: p) (q := q) (by simp) hq
    have hq0 := List.length_pos_iff.mpr hq
    have ih := lastZ_mulL (p := b :: p) (q := q) (by simp) hq
    rw [lastZ_addL_lt (by simp only [smul, List.length_map, List.length_cons] at *; omega), lastZ_cons a b p, ← ih]
    cases e : mulL (b :: p) q with
    | nil => rw [e] at hl; simp only [List.length_nil, List.length_cons] at hl; omega
    | cons c r => exact lastZ_cons 0 c r

/-! ### values far out -/
theorem far_ne : ∀ {p : List Int}, lastZ p ≠ 0 → ∃ N : Nat, ∀ n : Nat, N ≤ n → ev p n ≠ 0
  | [], h => absurd rfl h
  | [a], h => ⟨0, fun x _ => by
    have h' : a ≠ 0 := h
    simpa [ev] using h'⟩
  | a :: b :: p, h => by
    rw [lastZ_cons] at h
    obtain ⟨N, hN⟩ := far_ne h
    refine ⟨max N (a.natAbs + 1), fun n hn e => ?_⟩
    have hv := hN n (by omega)
    have e' : a + (n : Int) * ev (b :: p) n = 0 := e
    generalize ev (b :: p) n = v at *
    have e2 : ((n : Int) * v).natAbs = a.natAbs := by omega
    rw [Int.natAbs_mul, Int.natAbs_natCast] at e2
    have : n * 1 ≤ n * v.natAbs := Nat.mul_le_mul_left _ (by omega)
    omega
theorem far_gt : ∀ {p : List Int}, lastZ p ≠ 0 → 2 ≤ p.length → ∀ K : Nat, ∃ N : Nat, ∀ n : Nat, N ≤ n → K * n ^ (p.length - 2) < (ev p n).natAbs
  | [], h, _, _ => absurd rfl h
  | [a], _, h, _ => by simp at h
  | [a, b], h, _, K => by
    have hb : b ≠ 0 := h
    refine ⟨K + a.natAbs + 1, fun n hn => ?_⟩
    show K * n ^ 0 < (a + (n : Int) * (b + (n : Int) * 0)).natAbs
    have e2 : ((n : Int) * b).natAbs = n * b.natAbs := by rw [Int.natAbs_mul, Int.natAbs_natCast]
    have : n * 1 ≤ n * b.natAbs := Nat.mul_le_mul_left _ (by omega)
    rw [Int.mul_zero, Int.add_zero, Nat.pow_zero, Nat.mul_one]
    omega
  | a :: b :: c :: p, h, _, K => by
    rw [lastZ_cons] at h
    obtain ⟨N, hN⟩ := far_gt h (by simp) (K + 1)
    refine ⟨max N (a.natAbs + 1), fun n hn => ?_⟩
    have hv := hN n (by omega)
    show K * n ^ (p.length + 1) < (a + (n : Int) * ev (b :: c :: p) n).natAbs
    have hv' : (K + 1) * n ^ p.length < (ev (b :: c :: p) n).natAbs := hv
    generalize ev (b :: c :: p) n = v at *
    have e2 : ((n : Int) * v).natAbs = n * v.natAbs := by rw [Int.natAbs_mul, Int.natAbs_natCast]
    have h1 : n * ((K + 1) * n ^ p.length) ≤ n * v.natAbs := Nat.mul_le_mul_left _ (Nat.le_of_lt hv')
    have h2 : n * ((K + 1) * n ^ p.length) = K * n ^ (p.length + 1) + n ^ (p.length + 1) := by
      rw [Nat.pow_succ]; generalize n ^ p.length = q; grind
    rw [h2, ← e2] at h1
    generalize (n : Int) * v = m at *
    have h3 : n ^ 1 ≤ n ^ (p.length + 1) := Nat.pow_le_pow_right (by omega) (by omega)
    rw [Nat.pow_one] at h3
    omega
def absS : List Int → Nat
  | [] => 0
  | a :: p => a.natAbs + absS p
theorem ev_le : ∀ (p : List Int) {n : Nat}, 1 ≤ n → (ev p n).natAbs ≤ absS p * n ^ (p.length - 1)
  | [], n, _ => by simp [ev, absS]
  | [a], n, _ => by simp [ev, absS]
  | a :: b :: p, n, hn => by
    have ih := ev_le (b :: p) hn
    show (a + (n : Int) * ev (b :: p) n).natAbs ≤ (a.natAbs + absS (b :: p)) * n ^ (p.length + 1)
    have ih' : (ev (b :: p) n).natAbs ≤ absS (b :: p) * n ^ p.length := ih
    generalize ev (b :: p) n = v at *
    generalize absS (b :: p) = s at *
    have e2 : ((n : Int) * v).natAbs = n * v.natAbs := by rw [Int.natAbs_mul, Int.natAbs_natCast]
    have h1 : n * v.natAbs ≤ n * (s * n ^ p.length) := Nat.mul_le_mul_left _ ih'
    have h2 : n * (s * n ^ p.length) = s * n ^ (p.length + 1) := by rw [Nat.pow_succ]; generalize n ^ p.length = q; grind
    have h3 : 1 ≤ n ^ (p.length + 1) := Nat.pow_pos hn
    have h4 : a.natAbs * 1 ≤ a.natAbs * n ^ (p.length + 1) := Nat.mul_le_mul_left _ h3
    rw [Nat.add_mul]
    omega
theorem ev_tail (p : List Int) (x : Int) : ev p x = p.getD 0 0 + x * ev p.tail x := by
  cases p with
  | nil => simp [ev]
  | cons a p => rfl
theorem small_dvd {a : Int} {n : Nat} (h : a.natAbs < n) (k : Int) (e : a = n * k) : a = 0 := by
  have e2 : a.natAbs = n * k.natAbs := by rw [e, Int.natAbs_mul, Int.natAbs_natCast]
  by_cases z : k = 0
  · subst z; simpa using e
  · have : n * 1 ≤ n * k.natAbs := Nat.mul_le_mul_left _ (by omega)
    omega
/-- two rows of the same values far out are the same, but for noughts behind -/
theorem same_of : ∀ (i : Nat) {p q : List Int} {N : Nat}, (∀ n : Nat, N ≤ n → ev p n = ev q n) → p.getD i 0 = q.getD i 0
  | 0, p, q, N, h => by
    have e := h (max N ((p.getD 0 0 - q.getD 0 0).natAbs + 1)) (by omega)
    rw [ev_tail p, ev_tail q] at e
    generalize hn : max N ((p.getD 0 0 - q.getD 0 0).natAbs + 1) = n at *
    have := small_dvd (a := p.getD 0 0 - q.getD 0 0) (n := n) (by omega) (ev q.tail n - ev p.tail n) (by grind)
    omega
  | i + 1, p, q, N, h => by
    have h0 := same_of 0 h
    have hp : p.getD (i + 1) 0 = p.tail.getD i 0 := by cases p <;> simp
    have hq : q.getD (i + 1) 0 = q.tail.getD i 0 := by cases q <;> simp
    rw [hp, hq]
    refine same_of i (N := N + 1) fun n hn => ?_
    have e := h n (by omega)
    rw [ev_tail p, ev_tail q, h0] at e
    have e2 : (n : Int) * ev p.tail n = (n : Int) * ev q.tail n := by omega
    exact Int.eq_of_mul_eq_mul_left (by omega) e2
theorem lastZ_getD : ∀ {p : List Int}, p ≠ [] → p.getD (p.length - 1) 0 = lastZ p
  | [], h => absurd rfl h
  | [a], _ => rfl
  | a :: b :: p, _ => by
    rw [lastZ_cons, ← lastZ_getD (p := b :: p) (by simp)]; simp
theorem eq_of_same {p q : List Int} (hp : lastZ p ≠ 0) (hq : lastZ q ≠ 0) (h : ∀ i, p.getD i 0 = q.getD i 0) : p = q := by
  have np := lastZ_ne hp
  have nq := lastZ_ne hq
  have lp := List.length_pos_iff.mpr np
  have lq := List.length_pos_iff.mpr nq
  have e : p.length = q.length := by
    rcases Nat.lt_trichotomy p.length q.length with c | c | c
    · have := h (q.length - 1)
      rw [lastZ_getD nq, List.getD_eq_getElem?_getD, List.getElem?_eq_none_iff.mpr (by omega)] at this
      exact absurd this.symm hq
    · exact c
    · have := h (p.length - 1)
      rw [lastZ_getD np, List.getD_eq_getElem?_getD (l := q), List.getElem?_eq_none_iff.mpr (by omega)] at this
      exact absurd this hp
  apply List.ext_getElem e
  intro i h1 h2
  have := h i
  rwa [List.getD_eq_getElem?_getD, List.getD_eq_getElem?_getD, List.getElem?_eq_getElem h1, List.getElem?_eq_getElem h2] at this

/-! ### divisors of all numbers of a row -/
def cont : List Int → Nat
  | [] => 0
  | a :: p => Nat.gcd a.natAbs (cont p)
def DvL (d : Nat) (p : List Int) : Prop := ∀ i, (d : Int) ∣ p.getD i 0
theorem dvl_tail {d : Nat} {a : Int} {p : List Int} : DvL d (a :: p) ↔ (d : Int) ∣ a ∧ DvL d p := by
  constructor
  · intro h
    exact ⟨by simpa using h 0, fun i => by simpa using h (i + 1)⟩
  · rintro ⟨h1, h2⟩ i
    cases i with
    | zero => simpa using h1
    | succ i => simpa using h2 i
theorem dvl_nil {d : Nat} : DvL d [] := fun i => by simp
theorem dvl_cont : ∀ {d : Nat} {p : List Int}, DvL d p ↔ d ∣ cont p
  | d, [] => ⟨fun _ => Nat.dvd_zero d, fun _ => dvl_nil⟩
  | d, a :: p => by
    rw [dvl_tail, dvl_cont]
    show _ ↔ d ∣ Nat.gcd a.natAbs (cont p)
    rw [Nat.dvd_gcd_iff, Int.ofNat_dvd_left]
def Pr (p : Nat) : Prop := 2 ≤ p ∧ ∀ a b : Int, (p : Int) ∣ a * b → (p : Int) ∣ a ∨ (p : Int) ∣ b
theorem pr_of {n : Nat} (h2 : 2 ≤ n) (h : ∀ d, d ∣ n → d = 1 ∨ d = n) : Pr n := ⟨h2, fun a b hab => by
  rw [Int.ofNat_dvd_left, Int.natAbs_mul] at hab
  rw [Int.ofNat_dvd_left, Int.ofNat_dvd_left]
  rcases h _ (Nat.gcd_dvd_left n a.natAbs) with c | c
  · exact .inr (Nat.Coprime.dvd_of_dvd_mul_left c hab)
  · exact .inl (Nat.gcd_eq_left_iff_dvd.mp c)⟩
theorem has_pr : ∀ (n : Nat), 2 ≤ n → ∃ p, Pr p ∧ p ∣ n := fun n => by
  induction n using Nat.strongRecOn with
  | ind n ih =>
    intro h2
    by_cases h : ∃ d, d ∣ n ∧ d ≠ 1 ∧ d ≠ n
    · obtain ⟨d, h1, h3, h4⟩ := h
      have hd0 : d ≠ 0 := by rintro rfl; have := Nat.eq_zero_of_zero_dvd h1; omega
      have hl := Nat.le_of_dvd (by omega) h1
      obtain ⟨p, hp, hd⟩ := ih d (by omega) (by omega)
      exact ⟨p, hp, Nat.dvd_trans hd h1⟩
    · refine ⟨n, pr_of h2 fun d hd => ?_, Nat.dvd_refl n⟩
      by_cases h5 : d = 1
      · exact .inl h5
      · by_cases h6 : d = n
        · exact .inr h6
        · exact absurd ⟨d, hd, h5, h6⟩ h
theorem getD_addL : ∀ (p q : List Int) (i : Nat), (addL p q).getD i 0 = p.getD i 0 + q.getD i 0
  | [], q, i => by simp [addL]
  | a :: p, [], i => by simp [addL]
  | a :: p, b :: q, 0 => by simp [addL]
  | a :: p, b :: q, i + 1 => by
    have := getD_addL p q i
    simpa [addL] using this
theorem getD_smul (k : Int) (p : List Int) (i : Nat) : (smul k p).getD i 0 = k * p.getD i 0 := by
  unfold smul
  rw [List.getD_eq_getElem?_getD, List.getD_eq_getElem?_getD, List.getElem?_map]
  cases p[i]? <;> simp
theorem mul_cons (p : List Int) (b : Int) (q : List Int) (i : Nat) : (mulL p (b :: q)).getD i 0 = b * p.getD i 0 + (0 :: mulL p q).getD i 0 := by
  induction p generalizing i with
  | nil => cases i <;> simp [mulL]
  | cons a p ih =>
    show (addL (smul a (b :: q)) (0 :: mulL p (b :: q))).getD i 0 = b * (a :: p).getD i 0 + (0 :: addL (smul a q) (0 :: mulL p q)).getD i 0
    rw [getD_addL]
    cases i with
    | zero => simp [smul]; grind
    | succ i =>
      have := ih i
      simp only [List.getD_cons_succ] at *
      rw [this, getD_addL, show smul a (b :: q) = a * b :: smul a q from rfl, List.getD_cons_succ]
      omega
theorem gauss {p : Nat} (hp : Pr p) : ∀ (n : Nat) (f g : List Int), f.length + g.length ≤ n → DvL p (mulL f g) → DvL p f ∨ DvL p g
  | _, [], _, _, _ => .inl dvl_nil
  | _, _ :: _, [], _, _ => .inr dvl_nil
  | 0, a :: f, b :: g, h, _ => by simp at h
  | n + 1, a :: f, b :: g, h, hd => by
    have h0 : (p : Int) ∣ a * b := by
      have := hd 0
      show (p : Int) ∣ a * b
      have e : (mulL (a :: f) (b :: g)).getD 0 0 = a * b := by
        show (addL (smul a (b :: g)) (0 :: mulL f (b :: g))).getD 0 0 = a * b
        rw [getD_addL]; simp [smul]
      rwa [e] at this
    simp only [List.length_cons] at h
    rcases hp.2 a b h0 with ha | hb
    · have h1 : DvL p (mulL f (b :: g)) := fun i => by
        have := hd (i + 1)
        have e : (mulL (a :: f) (b :: g)).getD (i + 1) 0 = a * (b :: g).getD (i + 1) 0 + (mulL f (b :: g)).getD i 0 := by
          show (addL (smul a (b :: g)) (0 :: mulL f (b :: g))).getD (i + 1) 0 = _
          rw [getD_addL, getD_smul]; simp
        rw [e] at this
        have h2 : (p : Int) ∣ a * (b :: g).getD (i + 1) 0 := Int.dvd_trans ha (Int.dvd_mul_right _ _)
        exact (Int.dvd_iff_dvd_of_dvd_add this).mp h2
      rcases gauss hp n f (b :: g) (by simp only [List.length_cons]; omega) h1 with c | c
      · exact .inl (dvl_tail.mpr ⟨ha, c⟩)
      · exact .inr c
    · have h1 : DvL p (mulL (a :: f) g) := fun i => by
        have := hd (i + 1)
        rw [mul_cons, List.getD_cons_succ] at this
        have h2 : (p : Int) ∣ b * (a :: f).getD (i + 1) 0 := Int.dvd_trans hb (Int.dvd_mul_right _ _)
        exact (Int.dvd_iff_dvd_of_dvd_add this).mp h2
      rcases gauss hp n (a :: f) g (by simp only [List.length_cons]; omega) h1 with c | c
      · exact .inl c
      · exact .inr (dvl_tail.mpr ⟨hb, c⟩)
theorem cont_mul {f g : List Int} (hf : cont f = 1) (hg : cont g = 1) : cont (mulL f g) = 1 := by
  by_cases h : cont (mulL f g) = 1
  · exact h
  · exfalso
    obtain ⟨p, hp, hd⟩ : ∃ p, Pr p ∧ p ∣ cont (mulL f g) := by
      by_cases z : cont (mulL f g) = 0
      · obtain ⟨p, hp, _⟩ := has_pr 2 (by decide)
        exact ⟨p, hp, by rw [z]; exact Nat.dvd_zero p⟩
      · exact has_pr _ (by omega)
    rcases gauss hp _ f g (Nat.le_refl _) (dvl_cont.mpr hd) with c | c
    · have := dvl_cont.mp c
      rw [hf] at this
      have := Nat.dvd_one.mp this
      have := hp.1; omega
    · have := dvl_cont.mp c
      rw [hg] at this
      have := Nat.dvd_one.mp this
      have := hp.1; omega
theorem cont_smul (k : Int) : ∀ p : List Int, cont (smul k p) = k.natAbs * cont p
  | [] => by simp [smul, cont]
  | a :: p => by
    show Nat.gcd (k * a).natAbs (cont (smul k p)) = k.natAbs * Nat.gcd a.natAbs (cont p)
    rw [cont_smul k p, Int.natAbs_mul, Nat.gcd_mul_left]

/-! ### one row divides another, but for a whole number -/
def Dv (p q : List Int) : Prop := ∃ a : Int, a ≠ 0 ∧ ∀ x : Int, ev p x ∣ a * ev q x
theorem Dv.refl (p : List Int) : Dv p p := ⟨1, by decide, fun x => ⟨1, by grind⟩⟩
theorem Dv.len {p q : List Int} (h : Dv p q) (hp : lastZ p ≠ 0) (hq : lastZ q ≠ 0) : p.length ≤ q.length := by
  by_cases c : p.length ≤ q.length
  · exact c
  · exfalso
    obtain ⟨a, ha, hd⟩ := h
    have lq := List.length_pos_iff.mpr (lastZ_ne hq)
    obtain ⟨N1, h1⟩ := far_ne hq
    obtain ⟨N2, h2⟩ := far_gt hp (by omega) (a.natAbs * absS q)
    have n1 := h1 (N1 + N2 + 1) (by omega)
    have n2 := h2 (N1 + N2 + 1) (by omega)
    have n3 := ev_le q (n := N1 + N2 + 1) (by omega)
    have n4 := hd ((N1 + N2 + 1 : Nat) : Int)
    have n0 : 1 ≤ N1 + N2 + 1 := by omega
    generalize N1 + N2 + 1 = n at *
    have n5 : (ev p n).natAbs ≤ a.natAbs * (ev q n).natAbs := by
      rw [← Int.natAbs_mul]
      refine Nat.le_of_dvd ?_ (Int.natAbs_dvd_natAbs.mpr n4)
      rw [Int.natAbs_mul]
      exact Nat.mul_pos (by omega) (by omega)
    have n6 : a.natAbs * (ev q n).natAbs ≤ a.natAbs * (absS q * n ^ (q.length - 1)) := Nat.mul_le_mul_left _ n3
    have n7 : n ^ (q.length - 1) ≤ n ^ (p.length - 2) := Nat.pow_le_pow_right n0 (by omega)
    have n8 : a.natAbs * (absS q * n ^ (q.length - 1)) ≤ a.natAbs * absS q * n ^ (p.length - 2) := by
      rw [← Nat.mul_assoc]; exact Nat.mul_le_mul_left _ n7
    omega
/-- pigeons: none of finitely many is nought far out, unless one is nought everywhere -/
theorem far_all (f : Int → Nat → Int) (hf : ∀ h : Int, (∃ N : Nat, ∀ n : Nat, N ≤ n → f h n ≠ 0) ∨ ∀ n : Nat, 1 ≤ n → f h n = 0) : ∀ M : Nat, (∃ N : Nat, ∀ h : Int, h.natAbs ≤ M → ∀ n : Nat, N ≤ n → f h n ≠ 0) ∨ ∃ h : Int, h.natAbs ≤ M ∧ ∀ n : Nat, 1 ≤ n → f h n = 0
  | 0 => by
    rcases hf 0 with ⟨N, hN⟩ | h
    · exact .inl ⟨N, fun h hh n hn => by rw [show h = 0 by omega]; exact hN n hn⟩
    · exact .inr ⟨0, by decide, h⟩
  | M + 1 => by
    rcases far_all f hf M with ⟨N, hN⟩ | ⟨h, h1, h2⟩
    · rcases hf (M + 1 : Nat) with ⟨N1, hN1⟩ | h
      · rcases hf (-(M + 1 : Nat)) with ⟨N2, hN2⟩ | h
        · refine .inl ⟨max N (max N1 N2), fun h hh n hn => ?_⟩
          by_cases c : h.natAbs ≤ M
          · exact hN h c n (by omega)
          · by_cases d : h = ((M + 1 : Nat) : Int)
            · rw [d]; exact hN1 n (by omega)
            · rw [show h = -((M + 1 : Nat) : Int) by omega]; exact hN2 n (by omega)
        · exact .inr ⟨_, by omega, h⟩
      · exact .inr ⟨_, by omega, h⟩
    · exact .inr ⟨h, by omega, h2⟩
def trimL (p : List Int) : List Int := (p.reverse.dropWhile (· == 0)).reverse
theorem trimL_nil : trimL [] = [] := rfl
theorem trimL_snoc (p : List Int) (a : Int) : trimL (p ++ [a]) = if a = 0 then trimL p else p ++ [a] := by
  unfold trimL
  rw [List.reverse_append, List.reverse_cons, List.reverse_nil, List.nil_append, List.singleton_append, List.dropWhile_cons]
  by_cases h : a = 0
  · subst h; simp
  · have h2 : (a == 0) = false := by simpa using h
    rw [if_neg (by rw [h2]; decide), if_neg h]; simp
theorem ev_snoc (p : List Int) (a x : Int) : ev (p ++ [a]) x = ev p x + a * x ^ p.length := by
  induction p with
  | nil => simp [ev]
  | cons b p ih =>
    show b + x * ev (p ++ [a]) x = b + x * ev p x + a * x ^ (p.length + 1)
    rw [ih, Int.pow_succ]; generalize x ^ p.length = q; grind
theorem snoc_ind {P : List Int → Prop} (h0 : P []) (h1 : ∀ p a, P p → P (p ++ [a])) : ∀ p, P p := fun p => by
  have : ∀ q : List Int, P q.reverse := fun q => by
    induction q with
    | nil => exact h0
    | cons a q ih => rw [List.reverse_cons]; exact h1 _ _ ih
  have e := this p.reverse
  rwa [List.reverse_reverse] at e
theorem ev_trimL (p : List Int) (x : Int) : ev (trimL p) x = ev p x := by
  revert p
  refine snoc_ind rfl fun p a ih => ?_
  rw [trimL_snoc]
  split
  · rename_i h; subst h; rw [ih, ev_snoc]; simp
  · rfl
theorem trimL_last (p : List Int) : trimL p = [] ∨ lastZ (trimL p) ≠ 0 := by
  revert p
  refine snoc_ind (.inl rfl) fun p a ih => ?_
  rw [trimL_snoc]
  split
  · exact ih
  · rename_i h
    right; unfold lastZ; simpa using h
theorem trimL_pre (p : List Int) : ∃ k, p = trimL p ++ List.replicate k 0 := by
  revert p
  refine snoc_ind ⟨0, rfl⟩ fun p a ih => ?_
  rw [trimL_snoc]
  split
  · rename_i h
    subst h
    obtain ⟨k, hk⟩ := ih
    refine ⟨k + 1, ?_⟩
    rw [List.replicate_succ', ← List.append_assoc, ← hk]
  · exact ⟨0, by simp⟩
theorem trimL_of : ∀ {p : List Int}, lastZ p ≠ 0 → trimL p = p := fun {p} => by
  refine snoc_ind (P := fun p => lastZ p ≠ 0 → trimL p = p) (fun h => absurd rfl h) (fun p a _ h => ?_) p
  have : a ≠ 0 := by unfold lastZ at h; simpa using h
  rw [trimL_snoc, if_neg this]
/-- D and G divide each other, both are without a common divisor, both last numbers above nought: the same -/
theorem eq_of_dv {D G : List Int} (h1 : Dv D G) (h2 : Dv G D) (hD : 0 < lastZ D) (hG : 0 < lastZ G) (cD : cont D = 1) (cG : cont G = 1) : D = G := by
  obtain ⟨a, ha, da⟩ := h1
  obtain ⟨b, hb, db⟩ := h2
  obtain ⟨N1, f1⟩ := far_ne (p := D) (by omega)
  obtain ⟨N2, f2⟩ := far_ne (p := G) (by omega)
  -- h is what a * G is of D; it divides a * b
  let f : Int → Nat → Int := fun h n => ev (addL (smul a G) (smul (-h) D)) n
  have hf : ∀ h : Int, (∃ N : Nat, ∀ n : Nat, N ≤ n → f h n ≠ 0) ∨ ∀ n : Nat, 1 ≤ n → f h n = 0 := fun h => by
    rcases trimL_last (addL (smul a G) (smul (-h) D)) with z | z
    · exact .inr fun n _ => by show ev (addL (smul a G) (smul (-h) D)) n = 0; rw [← ev_trimL, z]; rfl
    · obtain ⟨N, hN⟩ := far_ne z
      exact .inl ⟨N, fun n hn => by show ev (addL (smul a G) (smul (-h) D)) n ≠ 0; rw [← ev_trimL]; exact hN n hn⟩
  rcases far_all f hf (a * b).natAbs with ⟨N, hN⟩ | ⟨h, _, hz⟩
  · exfalso
    have g1 := f1 (N + N1 + N2) (by omega)
    have g2 := f2 (N + N1 + N2) (by omega)
    obtain ⟨k, hk⟩ := da ((N + N1 + N2 : Nat) : Int)
    obtain ⟨l, hl⟩ := db ((N + N1 + N2 : Nat) : Int)
    have hn := fun h hh => hN h hh (N + N1 + N2) (by omega)
    have fe : ∀ h : Int, f h (N + N1 + N2) = a * ev G ((N + N1 + N2 : Nat) : Int) + (-h) * ev D ((N + N1 + N2 : Nat) : Int) := fun h => by
      show ev (addL (smul a G) (smul (-h) D)) _ = _
      rw [ev_addL, ev_smul, ev_smul]
    generalize ((N + N1 + N2 : Nat) : Int) = x at *
    -- a G = D k, b D = G l: k * l = a * b
    have e : k * l = a * b := by
      have e1 : ev D x * (ev G x * (k * l)) = ev D x * (ev G x * (a * b)) := by
        have : (ev D x * k) * (ev G x * l) = (a * ev G x) * (b * ev D x) := by rw [← hk, ← hl]
        grind
      exact Int.eq_of_mul_eq_mul_left g2 (Int.eq_of_mul_eq_mul_left g1 e1)
    have kb : k.natAbs ≤ (a * b).natAbs := by
      rw [← e, Int.natAbs_mul]
      have : l ≠ 0 := by rintro rfl; rw [Int.mul_zero] at e; exact absurd e.symm (Int.mul_ne_zero ha hb)
      exact Nat.le_mul_of_pos_right _ (by omega)
    refine hn k kb ?_
    rw [fe, hk]; grind
  · have ev0 : ∀ n : Nat, 1 ≤ n → ev (smul a G) n = ev (smul h D) n := fun n hn => by
      have := hz n hn
      have e : ev (addL (smul a G) (smul (-h) D)) n = 0 := this
      rw [ev_addL, ev_smul, ev_smul] at e
      rw [ev_smul, ev_smul]; grind
    have h0 : h ≠ 0 := by
      rintro rfl
      have := ev0 (N2 + 1) (by omega)
      rw [ev_smul, ev_smul, Int.zero_mul] at this
      rcases Int.mul_eq_zero.mp this with c | c
      · exact ha c
      · exact f2 _ (by omega) c
    have es : smul a G = smul h D := eq_of_same (by rw [lastZ_smul]; exact Int.mul_ne_zero ha (by omega)) (by rw [lastZ_smul]; exact Int.mul_ne_zero h0 (by omega)) fun i => same_of i ev0
    have ec := congrArg cont es
    rw [cont_smul, cont_smul, cG, cD, Nat.mul_one, Nat.mul_one] at ec
    have el := congrArg lastZ es
    rw [lastZ_smul, lastZ_smul] at el
    have eh : h = a := by
      rcases (by omega : h = a ∨ h = -a) with c | c
      · exact c
      · exfalso
        subst c
        have : a * (lastZ G + lastZ D) = 0 := by grind
        rcases Int.mul_eq_zero.mp this with d | d
        · exact ha d
        · omega
    subst eh
    refine eq_of_same (by omega) (by omega) fun i => ?_
    have : (smul h G).getD i 0 = (smul h D).getD i 0 := by rw [es]
    rw [getD_smul, getD_smul] at this
    exact (Int.eq_of_mul_eq_mul_left ha this).symm
end Rt

namespace Rt
theorem lastZ_snoc (p : List Int) (a : Int) : lastZ (p ++ [a]) = a := by unfold lastZ; simp
theorem snoc_of {p : List Int} (h : p ≠ []) : ∃ q, p = q ++ [lastZ p] := by
  refine ⟨p.dropLast, ?_⟩
  have e := (List.dropLast_concat_getLast h).symm
  have : lastZ p = p.getLast h := by unfold lastZ; rw [List.getLast?_eq_some_getLast h]; rfl
  rw [this]; exact e
/-- without a common divisor, the last number above nought -/
def Good (p : List Int) : Prop := 0 < lastZ p ∧ cont p = 1
theorem Good.ne {p : List Int} (h : Good p) : lastZ p ≠ 0 := by have := h.1; omega
/-! ### bare -/
def barS (p : List Int) : Int := if lastZ p < 0 then -(cont p : Int) else (cont p : Int)
def bareL (p : List Int) : List Int := p.map fun a => a.fdiv (barS p)
theorem cont_pos : ∀ {p : List Int}, lastZ p ≠ 0 → 0 < cont p
  | [], h => absurd rfl h
  | [a], h => by
    have h' : a ≠ 0 := h
    show 0 < Nat.gcd a.natAbs 0
    rw [Nat.gcd_zero_right]; omega
  | a :: b :: p, h => by
    rw [lastZ_cons] at h
    exact Nat.gcd_pos_of_pos_right _ (cont_pos h)
theorem barS_ne {p : List Int} (h : lastZ p ≠ 0) : barS p ≠ 0 := by
  have := cont_pos h
  unfold barS; split <;> omega
theorem barS_abs (p : List Int) : (barS p).natAbs = cont p := by unfold barS; split <;> omega
theorem barS_dvd {p : List Int} {a : Int} (ha : a ∈ p) : barS p ∣ a := by
  have h : DvL (cont p) p := dvl_cont.mpr (Nat.dvd_refl _)
  obtain ⟨i, hi⟩ := List.getElem?_of_mem ha
  have := h i
  rw [List.getD_eq_getElem?_getD, hi] at this
  unfold barS; split
  · exact Int.neg_dvd.mpr this
  · exact this
theorem smul_bare (p : List Int) : smul (barS p) (bareL p) = p := by
  unfold smul bareL
  rw [List.map_map]
  have : ∀ a ∈ p, ((fun a => barS p * a) ∘ fun a => a.fdiv (barS p)) a = a := fun a ha => by
    show barS p * a.fdiv (barS p) = a
    rw [Int.fdiv_eq_ediv_of_dvd (barS_dvd ha), Int.mul_ediv_cancel' (barS_dvd ha)]
  rw [List.map_congr_left this]; exact List.map_id' p
theorem bare_good {p : List Int} (h : lastZ p ≠ 0) : Good (bareL p) := by
  have e := smul_bare p
  have s0 := barS_ne h
  have el := congrArg lastZ e
  have ec := congrArg cont e
  rw [lastZ_smul] at el
  rw [cont_smul, barS_abs] at ec
  have cp := cont_pos h
  refine ⟨?_, Nat.eq_of_mul_eq_mul_left cp (by rw [ec, Nat.mul_one])⟩
  by_cases c : lastZ p < 0
  · have s1 : barS p < 0 := by unfold barS; rw [if_pos c]; omega
    by_cases q : 0 < lastZ (bareL p)
    · exact q
    · have := Int.mul_nonneg_of_nonpos_of_nonpos (Int.le_of_lt s1) (Int.not_lt.mp q)
      omega
  · have s1 : 0 < barS p := by unfold barS; rw [if_neg c]; omega
    by_cases q : 0 < lastZ (bareL p)
    · exact q
    · have := Int.mul_nonpos_of_nonneg_of_nonpos (Int.le_of_lt s1) (Int.not_lt.mp q)
      omega
theorem ev_bare (p : List Int) (x : Int) : barS p * ev (bareL p) x = ev p x := by
  have := ev_smul (barS p) (bareL p) x
  rw [smul_bare] at this; exact this.symm
theorem smul_inj {k : Int} (hk : k ≠ 0) {p q : List Int} (h : smul k p = smul k q) : p = q := by
  unfold smul at h
  refine (List.map_inj_right fun a b e => Int.eq_of_mul_eq_mul_left hk e).mp h
theorem bare_smul {k : Int} (hk : k ≠ 0) {p : List Int} (h : Good p) : bareL (smul k p) = p := by
  have hl : lastZ (smul k p) = k * lastZ p := lastZ_smul k p
  have hc : cont (smul k p) = k.natAbs := by rw [cont_smul, h.2, Nat.mul_one]
  have hs : barS (smul k p) = k := by
    unfold barS
    rw [hl, hc]
    by_cases c : k < 0
    · rw [if_pos (Int.mul_neg_of_neg_of_pos c h.1)]; omega
    · have := Int.mul_pos (show 0 < k by omega) h.1
      rw [if_neg (by omega)]; omega
  have e := smul_bare (smul k p)
  rw [hs] at e
  exact smul_inj hk e
theorem bare_nil : bareL [] = [] := rfl
/-! ### lowered -/
def lowL (row other : List Int) (f : Int) : List Int := row.take (row.length - other.length) ++ (List.zipWith (fun a b => a - f * b) (row.drop (row.length - other.length)) other).dropLast
theorem low_len {row other : List Int} (f : Int) (h : other.length ≤ row.length) (h0 : other ≠ []) : (lowL row other f).length + 1 = row.length := by
  have := List.length_pos_iff.mpr h0
  unfold lowL
  rw [List.length_append, List.length_take, List.length_dropLast, List.length_zipWith, List.length_drop]
  omega
theorem ev_app (p q : List Int) (x : Int) : ev (p ++ q) x = ev p x + x ^ p.length * ev q x := by
  induction p with
  | nil => simp [ev]
  | cons a p ih =>
    show a + x * ev (p ++ q) x = a + x * ev p x + x ^ (p.length + 1) * ev q x
    rw [ih, Int.pow_succ]; generalize x ^ p.length = r; grind
theorem ev_zip (f x : Int) : ∀ {p q : List Int}, p.length = q.length → ev (List.zipWith (fun a b => a - f * b) p q) x = ev p x - f * ev q x
  | [], [], _ => by simp [ev]
  | a :: p, b :: q, h => by
    show (a - f * b) + x * ev (List.zipWith _ p q) x = a + x * ev p x - f * (b + x * ev q x)
    rw [ev_zip f x (p := p) (q := q) (by simpa using h)]; grind
  | [], _ :: _, h => by simp at h
  | _ :: _, [], h => by simp at h
theorem lastZ_zip (f : Int) : ∀ {p q : List Int}, p.length = q.length → p ≠ [] → lastZ (List.zipWith (fun a b => a - f * b) p q) = lastZ p - f * lastZ q
  | [], _, _, h => absurd rfl h
  | [a], [b], _, _ => rfl
  | [a], [], h, _ => by simp at h
  | [a], _ :: _ :: _, h, _ => by simp at h
  | a :: a' :: p, [], h, _ => by simp at h
  | a :: a' :: p, [b], h, _ => by simp at h
  | a :: a' :: p, b :: b' :: q, h, _ => by
    show lastZ ((a - f * b) :: (a' - f * b') :: List.zipWith _ p q) = _
    rw [lastZ_cons, lastZ_cons, lastZ_cons]
    exact lastZ_zip f (p := a' :: p) (q := b' :: q) (by simpa using h) (by simp)
theorem lastZ_drop {p : List Int} {k : Nat} (h : k < p.length) : lastZ (p.drop k) = lastZ p := by
  unfold lastZ
  rw [List.getLast?_drop, if_neg (by omega)]
theorem ev_dropLast {p : List Int} (h : p ≠ []) (h0 : lastZ p = 0) (x : Int) : ev p.dropLast x = ev p x := by
  obtain ⟨q, hq⟩ := snoc_of h
  rw [h0] at hq
  rw [hq, List.dropLast_concat, ev_snoc, Int.zero_mul, Int.add_zero]
theorem ev_low {row other : List Int} {f : Int} (h : other.length ≤ row.length) (h0 : other ≠ []) (hf : lastZ row = f * lastZ other) (x : Int) : ev (lowL row other f) x = ev row x - f * (x ^ (row.length - other.length) * ev other x) := by
  have lo := List.length_pos_iff.mpr h0
  have hl : (row.drop (row.length - other.length)).length = other.length := by rw [List.length_drop]; omega
  have hne : row.drop (row.length - other.length) ≠ [] := by intro z; rw [z] at hl; rw [← hl] at lo; exact absurd lo (by simp)
  have hz : lastZ (List.zipWith (fun a b => a - f * b) (row.drop (row.length - other.length)) other) = 0 := by
    rw [lastZ_zip f hl hne, lastZ_drop (p := row) (k := row.length - other.length) (by omega), hf]; omega
  have hzne : List.zipWith (fun a b => a - f * b) (row.drop (row.length - other.length)) other ≠ [] := by
    intro z
    have := congrArg List.length z
    rw [List.length_zipWith, hl, List.length_nil] at this; omega
  have e := ev_app (row.take (row.length - other.length)) (row.drop (row.length - other.length)) x
  rw [List.take_append_drop] at e
  have ht : (row.take (row.length - other.length)).length = row.length - other.length := by rw [List.length_take]; omega
  unfold lowL
  rw [ev_app, ev_dropLast hzne hz, ev_zip f x hl, e, ht]
  generalize x ^ (row.length - other.length) = r; grind
/-! ### the remainder -/
def gcdI (a b : Int) : Int := (Nat.gcd a.natAbs b.natAbs : Nat)
def remStep (left other : List Int) : List Int :=
  trimL (lowL (left.map fun n => n * (lastZ other).fdiv (gcdI (lastZ left) (lastZ other))) other ((lastZ left).fdiv (gcdI (lastZ left) (lastZ other))))
def remL : Nat → List Int → List Int → List Int
  | 0, left, _ => left
  | n + 1, left, other => if left.length < other.length then left else remL n (remStep left other) other
theorem map_smul (k : Int) (p : List Int) : (p.map fun n => n * k) = smul k p := by
  unfold smul; exact List.map_congr_left fun a _ => Int.mul_comm a k
theorem gcdI_pos {a b : Int} (h : b ≠ 0) : 0 < gcdI a b := by
  unfold gcdI
  have := Nat.gcd_pos_of_pos_right a.natAbs (show 0 < b.natAbs by omega)
  omega
theorem gcdI_dl (a b : Int) : gcdI a b ∣ a := Int.ofNat_dvd_left.mpr (Nat.gcd_dvd_left _ _)
theorem gcdI_dr (a b : Int) : gcdI a b ∣ b := Int.ofNat_dvd_left.mpr (Nat.gcd_dvd_right _ _)
theorem fdiv_gcd {a c : Int} (h : c ∣ a) : c * a.fdiv c = a := by rw [Int.fdiv_eq_ediv_of_dvd h, Int.mul_ediv_cancel' h]
theorem remStep_ok {left other : List Int} (ho : lastZ other ≠ 0) (h : other.length ≤ left.length) :
    (remStep left other = [] ∨ lastZ (remStep left other) ≠ 0) ∧ (remStep left other).length < left.length ∧ ∃ a : Int, a ≠ 0 ∧ ∀ x : Int, ∃ u, a * ev left x = u * ev other x + ev (remStep left other) x := by
  have c0 := gcdI_pos (a := lastZ left) ho
  have e1 := fdiv_gcd (gcdI_dl (lastZ left) (lastZ other))
  have e2 := fdiv_gcd (gcdI_dr (lastZ left) (lastZ other))
  refine ⟨trimL_last _, ?_, ?_⟩
  · obtain ⟨k, hk⟩ := trimL_pre (lowL (left.map fun n => n * (lastZ other).fdiv (gcdI (lastZ left) (lastZ other))) other ((lastZ left).fdiv (gcdI (lastZ left) (lastZ other))))
    have hl := congrArg List.length hk
    have l2 := low_len (row := left.map fun n => n * (lastZ other).fdiv (gcdI (lastZ left) (lastZ other))) (other := other) ((lastZ left).fdiv (gcdI (lastZ left) (lastZ other))) (by rw [List.length_map]; exact h) (lastZ_ne ho)
    rw [List.length_append, List.length_replicate] at hl
    rw [List.length_map] at l2
    unfold remStep; omega
  · unfold remStep
    generalize gcdI (lastZ left) (lastZ other) = c at *
    have hf : lastZ (left.map fun n => n * (lastZ other).fdiv c) = (lastZ left).fdiv c * lastZ other := by
      rw [map_smul, lastZ_smul]
      generalize (lastZ left).fdiv c = p at *
      generalize (lastZ other).fdiv c = q at *
      rw [← e1, ← e2]; grind
    refine ⟨(lastZ other).fdiv c, ?_, fun x => ⟨(lastZ left).fdiv c * x ^ (left.length - other.length), ?_⟩⟩
    · intro z; rw [z, Int.mul_zero] at e2; exact ho e2.symm
    · rw [ev_trimL, ev_low (by rw [List.length_map]; exact h) (lastZ_ne ho) hf, map_smul, ev_smul]
      have : (smul ((lastZ other).fdiv c) left).length = left.length := by unfold smul; rw [List.length_map]
      rw [this]
      generalize x ^ (left.length - other.length) = r
      grind
theorem rem_ok : ∀ (n : Nat) {left other : List Int}, left.length ≤ n → lastZ other ≠ 0 → (left = [] ∨ lastZ left ≠ 0) →
    (remL n left other = [] ∨ lastZ (remL n left other) ≠ 0) ∧ (remL n left other).length < other.length ∧ ∃ a : Int, a ≠ 0 ∧ ∀ x : Int, ∃ u, a * ev left x = u * ev other x + ev (remL n left other) x
  | 0, left, other, hn, ho, hl => by
    have := List.length_pos_iff.mpr (lastZ_ne ho)
    exact ⟨hl, by show left.length < _; omega, 1, by decide, fun x => ⟨0, by show 1 * ev left x = 0 * ev other x + ev left x; grind⟩⟩
  | n + 1, left, other, hn, ho, hl => by
    have h0 := List.length_pos_iff.mpr (lastZ_ne ho)
    unfold remL
    by_cases c : left.length < other.length
    · rw [if_pos c]
      exact ⟨hl, c, 1, by decide, fun x => ⟨0, by grind⟩⟩
    · rw [if_neg c]
      obtain ⟨s1, s2, a, ha, s3⟩ := remStep_ok (left := left) ho (by omega)
      obtain ⟨r1, r2, b, hb, r3⟩ := rem_ok n (left := remStep left other) (by omega) ho s1
      refine ⟨r1, r2, b * a, Int.mul_ne_zero hb ha, fun x => ?_⟩
      obtain ⟨u, hu⟩ := s3 x
      obtain ⟨v, hv⟩ := r3 x
      exact ⟨b * u + v, by grind⟩
/-! ### the common row -/
def comL : Nat → List Int → List Int → List Int
  | 0, one, _ => one
  | n + 1, one, other => if other.length = 0 then one else comL n other (bareL (remL one.length one other))
theorem dv_zero (p : List Int) : Dv p [] := ⟨1, by decide, fun x => ⟨0, by simp [ev]⟩⟩
theorem dv_bare {p r : List Int} (h : Dv p (bareL r)) : Dv p r := by
  obtain ⟨a, ha, d⟩ := h
  exact ⟨a, ha, fun x => by rw [← ev_bare r x]; obtain ⟨k, hk⟩ := d x; exact ⟨barS r * k, by grind⟩⟩
theorem bare_dv {p r : List Int} (hr : r = [] ∨ lastZ r ≠ 0) (h : Dv p r) : Dv p (bareL r) := by
  rcases hr with rfl | hr
  · exact dv_zero p
  · obtain ⟨a, ha, d⟩ := h
    refine ⟨a * barS r, Int.mul_ne_zero ha (barS_ne hr), fun x => ?_⟩
    obtain ⟨k, hk⟩ := d x
    exact ⟨k, by rw [← hk, ← ev_bare r x]; grind⟩
theorem com_ok : ∀ (n : Nat) {one other : List Int}, other.length ≤ n → Good one → (other = [] ∨ Good other) →
    Good (comL n one other) ∧ (∀ D, Dv D one → Dv D other → Dv D (comL n one other)) ∧ Dv (comL n one other) one ∧ Dv (comL n one other) other
  | 0, one, other, hn, h1, h2 => by
    have : other = [] := List.length_eq_zero_iff.mp (by omega)
    subst this
    exact ⟨h1, fun D a _ => a, Dv.refl one, dv_zero one⟩
  | n + 1, one, other, hn, h1, h2 => by
    unfold comL
    by_cases c : other.length = 0
    · rw [if_pos c]
      have : other = [] := List.length_eq_zero_iff.mp c
      subst this
      exact ⟨h1, fun D a _ => a, Dv.refl one, dv_zero one⟩
    · rw [if_neg c]
      have g2 : Good other := h2.resolve_left (by rintro rfl; exact c rfl)
      obtain ⟨r1, r2, a, ha, r3⟩ := rem_ok one.length (left := one) (other := other) (Nat.le_refl _) g2.ne (.inr h1.ne)
      generalize remL one.length one other = r at *
      have gb : bareL r = [] ∨ Good (bareL r) := by
        rcases r1 with rfl | r1
        · exact .inl rfl
        · exact .inr (bare_good r1)
      have lb : (bareL r).length = r.length := by unfold bareL; rw [List.length_map]
      obtain ⟨q1, q2, q3, q4⟩ := com_ok n (one := other) (other := bareL r) (by omega) g2 gb
      refine ⟨q1, fun D d1 d2 => q2 D d2 (bare_dv r1 ?_), ?_, q3⟩
      · obtain ⟨b, hb, e1⟩ := d1
        obtain ⟨b', hb', e2⟩ := d2
        refine ⟨b * b', Int.mul_ne_zero hb hb', fun x => ?_⟩
        obtain ⟨u, hu⟩ := r3 x
        obtain ⟨k, hk⟩ := e1 x
        obtain ⟨l, hl⟩ := e2 x
        exact ⟨a * b' * k - b * u * l, by grind⟩
      · obtain ⟨b, hb, e1⟩ := q3
        obtain ⟨b', hb', e2⟩ := dv_bare q4
        refine ⟨a * b * b', Int.mul_ne_zero (Int.mul_ne_zero ha hb) hb', fun x => ?_⟩
        obtain ⟨u, hu⟩ := r3 x
        obtain ⟨k, hk⟩ := e1 x
        obtain ⟨l, hl⟩ := e2 x
        generalize comL n other (bareL r) = g at *
        exact ⟨b' * u * k + b * l, by grind⟩
/-! ### the slope -/
def slopeL (p : List Int) : List Int := (List.range (p.length - 1)).map fun k : Nat => ((k : Int) + 1) * p.getD (k + 1) 0
def der : List Int → Int → Int
  | [], _ => 0
  | _ :: p, x => ev p x + x * der p x
theorem der_addL (x : Int) : ∀ p q : List Int, der (addL p q) x = der p x + der q x
  | [], q => by simp [addL, der]
  | a :: p, [] => by simp [addL, der]
  | a :: p, b :: q => by
    show ev (addL p q) x + x * der (addL p q) x = _
    rw [ev_addL, der_addL x p q]; simp only [der]; grind
theorem der_smul (k x : Int) : ∀ p : List Int, der (smul k p) x = k * der p x
  | [] => by simp [smul, der]
  | a :: p => by
    show ev (smul k p) x + x * der (smul k p) x = _
    rw [ev_smul, der_smul k x p]; simp only [der]; grind
theorem der_mulL (x : Int) : ∀ p q : List Int, der (mulL p q) x = der p x * ev q x + ev p x * der q x
  | [], q => by simp [mulL, der, ev]
  | a :: p, q => by
    show der (addL (smul a q) (0 :: mulL p q)) x = _
    rw [der_addL, der_smul]
    show a * der q x + (ev (mulL p q) x + x * der (mulL p q) x) = _
    rw [ev_mulL, der_mulL x p q]; simp only [der, ev]; grind
theorem ev_rangeC (g : Nat → Int) (x : Int) : ∀ n, ev ((List.range (n + 1)).map g) x = g 0 + x * ev ((List.range n).map fun k => g (k + 1)) x := fun n => by
  rw [List.range_succ_eq_map, List.map_cons, List.map_map]; rfl
theorem ev_slope (x : Int) : ∀ (p : List Int) (m : Int), ev ((List.range p.length).map fun k : Nat => ((k : Int) + m) * p.getD k 0) x = m * ev p x + x * der p x
  | [], m => by simp [ev, der]
  | a :: p, m => by
    show ev ((List.range (p.length + 1)).map _) x = _
    rw [ev_rangeC]
    have : (fun k : Nat => (((k + 1 : Nat) : Int) + m) * (a :: p).getD (k + 1) 0) = fun k : Nat => ((k : Int) + (m + 1)) * p.getD k 0 := by
      funext k; rw [List.getD_cons_succ]; congr 1; omega
    rw [this, ev_slope x p (m + 1)]
    simp only [ev, der, List.getD_cons_zero]
    grind
theorem slope_ev (p : List Int) (x : Int) : ev (slopeL p) x = der p x := by
  cases p with
  | nil => rfl
  | cons a p =>
    have := ev_slope x p 1
    show ev ((List.range p.length).map fun k : Nat => ((k : Int) + 1) * (a :: p).getD (k + 1) 0) x = _
    have e : (fun k : Nat => ((k : Int) + 1) * (a :: p).getD (k + 1) 0) = fun k : Nat => ((k : Int) + 1) * p.getD k 0 := by funext k; rw [List.getD_cons_succ]
    rw [e, this]; simp only [der]; grind
theorem slope_len (p : List Int) : (slopeL p).length = p.length - 1 := by unfold slopeL; rw [List.length_map, List.length_range]
theorem slope_last {p : List Int} (h : 2 ≤ p.length) : lastZ (slopeL p) = ((p.length - 1 : Nat) : Int) * lastZ p := by
  have hne : slopeL p ≠ [] := by intro z; have := slope_len p; rw [z] at this; simp at this; omega
  rw [← lastZ_getD hne, slope_len, ← lastZ_getD (p := p) (by intro z; rw [z] at h; simp at h)]
  unfold slopeL
  rw [List.getD_eq_getElem?_getD, List.getElem?_map, List.getElem?_range (by omega)]
  show ((p.length - 1 - 1 : Nat) + 1 : Int) * p.getD (p.length - 1 - 1 + 1) 0 = _
  rw [show p.length - 1 - 1 + 1 = p.length - 1 by omega]
  congr 1; omega
/-! ### the quotient -/
def quoL : Nat → List Int → List Int → List Int
  | 0, _, _ => []
  | n + 1, left, other => if left.length < other.length then [] else quoL n (lowL left other ((lastZ left).fdiv (lastZ other))) other ++ [(lastZ left).fdiv (lastZ other)]
theorem eq_of_ev {p q : List Int} (hl : p.length = q.length) (h : ∀ x, ev p x = ev q x) : p = q := by
  apply List.ext_getElem hl
  intro i h1 h2
  have := same_of i (p := p) (q := q) (N := 0) fun n _ => h n
  rwa [List.getD_eq_getElem?_getD, List.getD_eq_getElem?_getD, List.getElem?_eq_getElem h1, List.getElem?_eq_getElem h2] at this
theorem quo_ok {D : List Int} (hD : lastZ D ≠ 0) : ∀ (n : Nat) {P left : List Int}, left.length ≤ n → left.length + 1 = P.length + D.length → (P ≠ [] → ∀ x, ev left x = ev P x * ev D x) → quoL n left D = P
  | 0, P, left, hn, hl, he => by
    have := List.length_pos_iff.mpr (lastZ_ne hD)
    have : P = [] := List.length_eq_zero_iff.mp (by omega)
    subst this; rfl
  | n + 1, P, left, hn, hl, he => by
    have d0 := List.length_pos_iff.mpr (lastZ_ne hD)
    unfold quoL
    by_cases c : left.length < D.length
    · rw [if_pos c]
      exact (List.length_eq_zero_iff.mp (by omega)).symm
    · rw [if_neg c]
      have hP : P ≠ [] := by intro z; rw [z] at hl; simp at hl; omega
      have em : left = mulL P D := eq_of_ev (by have := mulL_len hP (lastZ_ne hD); omega) fun x => by rw [he hP, ev_mulL]
      have el : lastZ left = lastZ P * lastZ D := by rw [em]; exact lastZ_mulL hP (lastZ_ne hD)
      have ef : (lastZ left).fdiv (lastZ D) = lastZ P := by rw [el, Int.mul_comm]; exact Int.mul_fdiv_cancel_left _ hD
      rw [ef]
      obtain ⟨P', hP'⟩ := snoc_of hP
      have ll := low_len (row := left) (other := D) (lastZ P) (by omega) (lastZ_ne hD)
      have lP : P.length = P'.length + 1 := by rw [hP']; simp
      have := quo_ok hD n (P := P') (left := lowL left D (lastZ P)) (by omega) (by omega) fun hne x => by
        rw [ev_low (by omega) (lastZ_ne hD) el, he hP]
        have e3 : ev P x = ev P' x + lastZ P * x ^ P'.length := by
          have := ev_snoc P' (lastZ P) x
          rwa [← hP'] at this
        rw [e3, show left.length - D.length = P'.length by omega]
        generalize x ^ P'.length = r; grind
      rw [this, ← hP']
end Rt

namespace Rt
/-- no common root, by values: some whole number but nought is made of both, everywhere -/
def Cop (p q : Int → Int) : Prop := ∃ k : Int, k ≠ 0 ∧ ∀ x, ∃ u v : Int, u * p x + v * q x = k
theorem Cop.symm {p q : Int → Int} (h : Cop p q) : Cop q p := by
  obtain ⟨k, hk, h⟩ := h
  exact ⟨k, hk, fun x => let ⟨u, v, e⟩ := h x; ⟨v, u, by omega⟩⟩
theorem Cop.mul {p q r : Int → Int} (h1 : Cop p q) (h2 : Cop p r) : Cop p (fun x => q x * r x) := by
  obtain ⟨k, hk, h1⟩ := h1
  obtain ⟨l, hl, h2⟩ := h2
  refine ⟨k * l, Int.mul_ne_zero hk hl, fun x => ?_⟩
  obtain ⟨u, v, e1⟩ := h1 x
  obtain ⟨u', v', e2⟩ := h2 x
  exact ⟨u * u' * p x + u * v' * r x + v * u' * q x, v * v', by rw [← e1, ← e2]; grind⟩
theorem Cop.one (p : Int → Int) : Cop p (fun _ => 1) := ⟨1, by decide, fun x => ⟨0, 1, by show 0 * p x + 1 * 1 = 1; omega⟩⟩
/-- factors, each with one less than how often it stands -/
abbrev Facs := List (List Int × Nat)
def mulN : Nat → List Int → List Int → List Int
  | 0, _, q => q
  | e + 1, f, q => mulL f (mulN e f q)
def wL : Facs → List Int
  | [] => [1]
  | (f, e) :: r => mulN (e + 1) f (wL r)
def dL : Facs → List Int
  | [] => [1]
  | (f, e) :: r => mulN e f (dL r)
def pL : Facs → List Int
  | [] => [1]
  | (f, _) :: r => mulL f (pL r)
def tV : Facs → Int → Int
  | [], _ => 0
  | (f, e) :: r, x => ((e : Int) + 1) * der f x * ev (pL r) x + ev f x * tV r x
theorem ev_mulN (f q : List Int) (x : Int) : ∀ e, ev (mulN e f q) x = ev f x ^ e * ev q x
  | 0 => by simp [mulN]
  | e + 1 => by
    show ev (mulL f (mulN e f q)) x = _
    rw [ev_mulL, ev_mulN f q x e, Int.pow_succ]; generalize ev f x ^ e = r; grind
theorem der_mulN (f q : List Int) (x : Int) : ∀ e : Nat, der (mulN (e + 1) f q) x = ev f x ^ e * (((e : Int) + 1) * der f x * ev q x + ev f x * der q x)
  | 0 => by
    show der (mulL f q) x = _
    rw [der_mulL, Int.pow_zero]; grind
  | e + 1 => by
    show der (mulL f (mulN (e + 1) f q)) x = _
    rw [der_mulL, der_mulN f q x e, ev_mulN, Int.pow_succ]; generalize ev f x ^ e = r; grind
theorem ev_wL : ∀ (fs : Facs) (x : Int), ev (wL fs) x = ev (pL fs) x * ev (dL fs) x
  | [], x => by simp [wL, pL, dL, ev]
  | (f, e) :: r, x => by
    show ev (mulN (e + 1) f (wL r)) x = ev (mulL f (pL r)) x * ev (mulN e f (dL r)) x
    rw [ev_mulN, ev_mulL, ev_mulN, ev_wL r x, Int.pow_succ]; generalize ev f x ^ e = s; grind
theorem der_wL : ∀ (fs : Facs) (x : Int), der (wL fs) x = ev (dL fs) x * tV fs x
  | [], x => by simp [wL, dL, der, ev, tV]
  | (f, e) :: r, x => by
    show der (mulN (e + 1) f (wL r)) x = ev (mulN e f (dL r)) x * tV ((f, e) :: r) x
    rw [der_mulN, ev_mulN, ev_wL r x, der_wL r x]
    simp only [tV]; generalize ev f x ^ e = s; grind
theorem Good.mul {p q : List Int} (hp : Good p) (hq : Good q) : Good (mulL p q) := ⟨by rw [lastZ_mulL (lastZ_ne hp.ne) (lastZ_ne hq.ne)]; exact Int.mul_pos hp.1 hq.1, cont_mul hp.2 hq.2⟩
theorem good_one : Good [1] := ⟨by decide, rfl⟩
theorem Good.mulN {f q : List Int} (hf : Good f) (hq : Good q) : ∀ e, Good (Rt.mulN e f q)
  | 0 => hq
  | e + 1 => hf.mul (Good.mulN hf hq e)
inductive Nice : Facs → Prop
  | nil : Nice []
  | cons {f : List Int} {e : Nat} {r : Facs} : Good f → 2 ≤ f.length → Cop (ev f) (der f) → (∀ g ∈ r, Cop (ev f) (ev g.1)) → Nice r → Nice ((f, e) :: r)
theorem Nice.w : ∀ {fs : Facs}, Nice fs → Good (wL fs)
  | _, .nil => good_one
  | _, .cons h _ _ _ t => h.mulN t.w _
theorem Nice.d : ∀ {fs : Facs}, Nice fs → Good (dL fs)
  | _, .nil => good_one
  | _, .cons h _ _ _ t => h.mulN t.d _
theorem Nice.p : ∀ {fs : Facs}, Nice fs → Good (pL fs)
  | _, .nil => good_one
  | _, .cons h _ _ _ t => h.mul t.p
theorem cop_all {f : Int → Int} : ∀ {r : Facs}, (∀ g ∈ r, Cop f (ev g.1)) → Cop f (ev (pL r))
  | [], _ => by
    have : ev (pL []) = fun _ => 1 := by funext x; simp [pL, ev]
    rw [this]; exact Cop.one f
  | (g, e) :: r, h => by
    have : ev (pL ((g, e) :: r)) = fun x => ev g x * ev (pL r) x := by funext x; exact ev_mulL g (pL r) x
    rw [this]
    exact (h (g, e) List.mem_cons_self).mul (cop_all fun g' hg => h g' (List.mem_cons_of_mem _ hg))
theorem cop_t : ∀ {fs : Facs}, Nice fs → Cop (tV fs) (ev (pL fs))
  | _, .nil => by
    have : ev (pL []) = fun _ => 1 := by funext x; simp [pL, ev]
    rw [this]; exact Cop.one _
  | _, @Nice.cons f e r hf _ hd hr t => by
    have : ev (pL ((f, e) :: r)) = fun x => ev f x * ev (pL r) x := by funext x; exact ev_mulL f (pL r) x
    rw [this]
    have fP := cop_all hr
    have ih := cop_t t
    refine Cop.mul ?_ ?_
    · obtain ⟨k, hk, h⟩ := hd.mul fP
      refine ⟨((e : Int) + 1) * k, Int.mul_ne_zero (by omega) hk, fun x => ?_⟩
      obtain ⟨u, v, e1⟩ := h x
      exact ⟨v, ((e : Int) + 1) * u - v * tV r x, by rw [← e1]; simp only [tV]; grind⟩
    · obtain ⟨k, hk, h⟩ := fP.symm.mul ih.symm
      refine ⟨k, hk, fun x => ?_⟩
      obtain ⟨u, v, e1⟩ := h x
      exact ⟨v, u - v * ((e : Int) + 1) * der f x, by rw [← e1]; simp only [tV]; grind⟩
theorem mulN_len {f q : List Int} (hf : 2 ≤ f.length) (hq : q ≠ []) : ∀ e, q.length + e ≤ (Rt.mulN e f q).length ∧ Rt.mulN e f q ≠ []
  | 0 => ⟨Nat.le_refl _, hq⟩
  | e + 1 => by
    obtain ⟨h1, h2⟩ := mulN_len hf hq e
    have := mulL_len (p := f) (q := Rt.mulN e f q) (by intro z; rw [z] at hf; simp at hf) h2
    have e2 : (Rt.mulN (e + 1) f q).length = (mulL f (Rt.mulN e f q)).length := rfl
    refine ⟨by omega, ?_⟩
    intro z
    rw [z] at e2; simp only [List.length_nil] at e2; omega
theorem wL_len : ∀ {fs : Facs}, Nice fs → fs ≠ [] → 2 ≤ (wL fs).length
  | _, .nil, h => absurd rfl h
  | _, @Nice.cons f e r hf h2 _ _ t, _ => by
    have hq : wL r ≠ [] := lastZ_ne t.w.ne
    have := (mulN_len h2 hq (e + 1)).1
    have := List.length_pos_iff.mpr hq
    show 2 ≤ (mulN (e + 1) f (wL r)).length
    omega
/-- what the program makes of a row -/
def divL (whole : List Int) : List Int := comL whole.length whole (bareL (slopeL whole))
def plainL (row : List Int) : List Int := let whole := bareL (trimL row); quoL whole.length whole (divL whole)
theorem div_ok {fs : Facs} (h : Nice fs) (hne : fs ≠ []) : divL (wL fs) = dL fs := by
  have gw := h.w
  have l2 := wL_len h hne
  have sl : lastZ (slopeL (wL fs)) ≠ 0 := by rw [slope_last l2]; exact Int.mul_ne_zero (by omega) gw.ne
  obtain ⟨g1, g2, g3, g4⟩ := com_ok (wL fs).length (one := wL fs) (other := bareL (slopeL (wL fs))) (by unfold bareL; rw [List.length_map, slope_len]; omega) gw (.inr (bare_good sl))
  have d1 : Dv (dL fs) (wL fs) := ⟨1, by decide, fun x => ⟨ev (pL fs) x, by rw [ev_wL]; grind⟩⟩
  have d2 : Dv (dL fs) (slopeL (wL fs)) := ⟨1, by decide, fun x => ⟨tV fs x, by rw [slope_ev, der_wL]; grind⟩⟩
  have d3 := g2 (dL fs) d1 (bare_dv (.inr sl) d2)
  refine (eq_of_dv d3 ?_ h.d.1 g1.1 h.d.2 g1.2).symm
  obtain ⟨k, hk, c⟩ := cop_t h
  obtain ⟨a, ha, e1⟩ := g3
  obtain ⟨b, hb, e2⟩ := dv_bare g4
  refine ⟨a * b * k, Int.mul_ne_zero (Int.mul_ne_zero ha hb) hk, fun x => ?_⟩
  obtain ⟨u, v, e3⟩ := c x
  obtain ⟨m, hm⟩ := e1 x
  obtain ⟨l, hl⟩ := e2 x
  rw [ev_wL] at hm
  rw [slope_ev, der_wL] at hl
  generalize ev (comL (wL fs).length (wL fs) (bareL (slopeL (wL fs)))) x = g at *
  exact ⟨a * u * l + b * v * m, by rw [← e3]; grind⟩
theorem plain_ok {fs : Facs} (h : Nice fs) (hne : fs ≠ []) {k : Int} (hk : k ≠ 0) {row : List Int} (hr : trimL row = smul k (wL fs)) : plainL row = pL fs := by
  unfold plainL
  rw [hr, bare_smul hk h.w]
  show quoL (wL fs).length (wL fs) (divL (wL fs)) = pL fs
  rw [div_ok h hne]
  have np := lastZ_ne h.p.ne
  have nd := lastZ_ne h.d.ne
  have e : wL fs = mulL (pL fs) (dL fs) := by
    refine eq_of_same h.w.ne (h.p.mul h.d).ne fun i => same_of i (N := 0) fun n _ => by rw [ev_wL, ev_mulL]
  have l := mulL_len np nd
  exact quo_ok h.d.ne _ (Nat.le_refl _) (by rw [e]; exact l) fun _ x => ev_wL fs x
end Rt

namespace Rt
open PySem PySem.Spec PyProof.Rows L2 Evl
/-- every number below 2 ^ n either way -/
def Sz (n : Nat) (p : List Int) : Prop := ∀ a ∈ p, Lt2 n a
theorem Sz.mono {n m : Nat} {p : List Int} (h : Sz n p) (k : n ≤ m) : Sz m p := fun a ha => (h a ha).mono k
theorem sz_nil {n : Nat} : Sz n [] := fun a ha => nomatch ha
theorem Sz.getD {n : Nat} {p : List Int} (h : Sz n p) (i : Nat) : Lt2 n (p.getD i 0) := by
  rw [List.getD_eq_getElem?_getD]
  cases q : p[i]? with
  | none => exact Lt2.zero
  | some v => exact h v (List.mem_of_getElem? q)
theorem Sz.last {n : Nat} {p : List Int} (h : Sz n p) : Lt2 n (lastZ p) := by
  unfold lastZ
  cases q : p.getLast? with
  | none => exact Lt2.zero
  | some v => exact h v (List.mem_of_getLast? q)
theorem Sz.trim {n : Nat} {p : List Int} (h : Sz n p) : Sz n (trimL p) := fun a ha => by
  obtain ⟨k, hk⟩ := trimL_pre p
  exact h a (by rw [hk]; exact List.mem_append_left _ ha)
theorem Sz.bare {n : Nat} {p : List Int} (h : Sz n p) (hp : p = [] ∨ lastZ p ≠ 0) : Sz n (bareL p) := by
  rcases hp with rfl | hp
  · exact sz_nil
  · intro a ha
    unfold bareL at ha
    obtain ⟨b, hb, rfl⟩ := List.mem_map.mp ha
    exact (h b hb).of_le (natAbs_fdiv_le (barS_dvd hb) (barS_ne hp))
theorem Sz.low {N k m : Nat} {row other : List Int} {f : Int} (h : Sz N row) (hf : Lt2 k f) (ho : Sz m other) (hk : k + m ≤ N) : Sz (N + 1) (lowL row other f) := by
  intro a ha
  unfold lowL at ha
  rcases List.mem_append.mp ha with ha | ha
  · exact (h a (List.mem_of_mem_take ha)).mono (Nat.le_succ _)
  · have ha := List.dropLast_subset _ ha
    obtain ⟨i, hi⟩ := List.getElem?_of_mem ha
    rw [List.getElem?_zipWith] at hi
    cases q1 : (row.drop (row.length - other.length))[i]? with
    | none => rw [q1] at hi; cases hi
    | some x =>
      cases q2 : other[i]? with
      | none => rw [q1, q2] at hi; cases hi
      | some y =>
        rw [q1, q2] at hi
        cases hi
        exact (h x (List.mem_of_mem_drop (List.mem_of_getElem? q1))).sub ((hf.mul (ho y (List.mem_of_getElem? q2))).mono hk)
theorem Sz.smul {n k : Nat} {p : List Int} {c : Int} (h : Sz n p) (hc : Lt2 k c) : Sz (n + k) (p.map fun a => a * c) := by
  intro a ha
  obtain ⟨b, hb, rfl⟩ := List.mem_map.mp ha
  exact (h b hb).mul hc
theorem Sz.remStep {N M : Nat} {left other : List Int} (h : Sz N left) (ho : Sz M other) (h0 : lastZ other ≠ 0) : Sz (N + M + 1) (remStep left other) := by
  have c0 := gcdI_pos (a := lastZ left) h0
  have f1 : Lt2 N ((lastZ left).fdiv (gcdI (lastZ left) (lastZ other))) := h.last.of_le (natAbs_fdiv_le (gcdI_dl _ _) (by omega))
  have f2 : Lt2 M ((lastZ other).fdiv (gcdI (lastZ left) (lastZ other))) := ho.last.of_le (natAbs_fdiv_le (gcdI_dr _ _) (by omega))
  exact ((h.smul f2).low f1 ho (Nat.le_refl _)).trim
theorem Sz.slope {n k : Nat} {p : List Int} (h : Sz n p) (hl : p.length ≤ 2 ^ k) : Sz (k + n) (slopeL p) := by
  intro a ha
  unfold slopeL at ha
  obtain ⟨i, hi, rfl⟩ := List.mem_map.mp ha
  have hi := List.mem_range.mp hi
  exact Lt2.mul (n := k) (by unfold Lt2; omega) (h.getD _)
/-- every number at most m either way -/
def Bd (m : Nat) (p : List Int) : Prop := ∀ a ∈ p, a.natAbs ≤ m
theorem bd_add : ∀ {m k : Nat} {p q : List Int}, Bd m p → Bd k q → Bd (m + k) (addL p q)
  | m, k, [], q, _, h => fun a ha => Nat.le_trans (h a (by simpa [addL] using ha)) (Nat.le_add_left _ _)
  | m, k, b :: p, [], h, _ => fun a ha => Nat.le_trans (h a (by simpa [addL] using ha)) (Nat.le_add_right _ _)
  | m, k, b :: p, c :: q, h1, h2 => fun a ha => by
    rcases List.mem_cons.mp (show a ∈ (b + c) :: addL p q from ha) with rfl | ha
    · have x := h1 b List.mem_cons_self
      have y := h2 c List.mem_cons_self
      have := Int.natAbs_add_le b c
      omega
    · exact bd_add (fun x hx => h1 x (List.mem_cons_of_mem _ hx)) (fun x hx => h2 x (List.mem_cons_of_mem _ hx)) a ha
theorem bd_mul {m k : Nat} {q : List Int} (hq : Bd k q) : ∀ {p : List Int}, Bd m p → Bd (p.length * (m * k)) (mulL p q)
  | [], _ => fun a ha => by simp [mulL] at ha
  | b :: p, h => by
    have ih := bd_mul hq (p := p) fun x hx => h x (List.mem_cons_of_mem _ hx)
    have hb := h b List.mem_cons_self
    have h1 : Bd (m * k) (smul b q) := fun a ha => by
      unfold Rt.smul at ha
      obtain ⟨c, hc, rfl⟩ := List.mem_map.mp ha
      rw [Int.natAbs_mul]; exact Nat.mul_le_mul hb (hq c hc)
    have h2 : Bd (p.length * (m * k)) (0 :: mulL p q) := fun a ha => by
      rcases List.mem_cons.mp ha with rfl | ha
      · exact Nat.zero_le _
      · exact ih a ha
    have := bd_add h1 h2
    show Bd ((p.length + 1) * (m * k)) (addL (smul b q) (0 :: mulL p q))
    rw [Nat.succ_mul, Nat.add_comm]; exact this
theorem Bd.mono {m k : Nat} {p : List Int} (h : Bd m p) (hk : m ≤ k) : Bd k p := fun a ha => Nat.le_trans (h a ha) hk
theorem Bd.sz {n : Nat} {p : List Int} (h : Bd (2 ^ n) p) : Sz (n + 1) p := fun a ha => by
  have := h a ha
  unfold Lt2; rw [Nat.pow_succ]
  have := Nat.pow_pos (a := 2) (n := n) (by decide)
  omega
/-- factors of at most four numbers, each at most 2 ^ 30 -/
def Small (f : List Int) : Prop := f.length ≤ 4 ∧ Bd (2 ^ 30) f
theorem bd_small {f q : List Int} {n : Nat} (hf : Small f) (hq : Bd (2 ^ n) q) : Bd (2 ^ (n + 32)) (mulL f q) :=
  (bd_mul hq hf.2).mono (by
    have e : (2 : Nat) ^ (n + 32) = 4 * (2 ^ 30 * 2 ^ n) := by rw [Nat.pow_add]; have : (2 : Nat) ^ 32 = 4 * 2 ^ 30 := by decide
                                                               rw [this]; generalize (2 : Nat) ^ 30 = a; generalize (2 : Nat) ^ n = b; grind
    rw [e]; exact Nat.mul_le_mul_right _ hf.1)
theorem bd_mulN {f q : List Int} {n : Nat} (hf : Small f) (hq : Bd (2 ^ n) q) : ∀ e, Bd (2 ^ (n + 32 * e)) (mulN e f q)
  | 0 => hq
  | e + 1 => by
    have := bd_small hf (bd_mulN hf hq e)
    rw [show n + 32 * (e + 1) = n + 32 * e + 32 by omega]; exact this
/-- how many factors there are, one by one -/
def many : Facs → Nat
  | [] => 0
  | (_, e) :: r => e + 1 + many r
theorem bd_wL : ∀ {fs : Facs}, (∀ f ∈ fs, Small f.1) → Bd (2 ^ (32 * many fs)) (wL fs)
  | [], _ => fun a ha => by
    rw [List.mem_singleton.mp (show a ∈ [(1 : Int)] from ha)]; decide
  | (f, e) :: r, h => by
    have := bd_mulN (h (f, e) List.mem_cons_self) (bd_wL fun g hg => h g (List.mem_cons_of_mem _ hg)) (e + 1)
    rw [show 32 * many ((f, e) :: r) = 32 * many r + 32 * (e + 1) by simp only [many]; omega]; exact this
theorem bd_dL : ∀ {fs : Facs}, (∀ f ∈ fs, Small f.1) → Bd (2 ^ (32 * many fs)) (dL fs)
  | [], _ => fun a ha => by
    rw [List.mem_singleton.mp (show a ∈ [(1 : Int)] from ha)]; decide
  | (f, e) :: r, h => by
    have := bd_mulN (h (f, e) List.mem_cons_self) (bd_dL fun g hg => h g (List.mem_cons_of_mem _ hg)) e
    exact this.mono (Nat.pow_le_pow_right (by decide) (by simp only [many]; omega))
theorem bd_pL : ∀ {fs : Facs}, (∀ f ∈ fs, Small f.1) → Bd (2 ^ (32 * many fs)) (pL fs)
  | [], _ => fun a ha => by
    rw [List.mem_singleton.mp (show a ∈ [(1 : Int)] from ha)]; decide
  | (f, e) :: r, h => by
    have := bd_small (h (f, e) List.mem_cons_self) (bd_pL fun g hg => h g (List.mem_cons_of_mem _ hg))
    exact this.mono (Nat.pow_le_pow_right (by decide) (by simp only [many]; omega))
theorem len_mulN {f q : List Int} (hf : f ≠ []) (hq : q ≠ []) (h4 : f.length ≤ 4) : ∀ e, (mulN e f q).length ≤ q.length + 3 * e ∧ mulN e f q ≠ []
  | 0 => ⟨Nat.le_refl _, hq⟩
  | e + 1 => by
    obtain ⟨h1, h2⟩ := len_mulN hf hq h4 e
    have := mulL_len hf h2
    have hf0 := List.length_pos_iff.mpr hf
    have e2 : (mulN (e + 1) f q).length = (mulL f (mulN e f q)).length := rfl
    have := List.length_pos_iff.mpr h2
    refine ⟨by omega, fun z => ?_⟩
    rw [z] at e2; simp only [List.length_nil] at e2; omega
theorem len_wL : ∀ {fs : Facs}, Nice fs → (∀ f ∈ fs, Small f.1) → (wL fs).length ≤ 1 + 3 * many fs
  | _, .nil, _ => by decide
  | _, @Nice.cons f e r hf h2 _ _ t, h => by
    have ih := len_wL t fun g hg => h g (List.mem_cons_of_mem _ hg)
    have := (len_mulN (e := e + 1) (lastZ_ne hf.ne) (lastZ_ne t.w.ne) (h (f, e) List.mem_cons_self).1).1
    show (mulN (e + 1) f (wL r)).length ≤ _
    simp only [many]; omega
theorem len_pL : ∀ {fs : Facs}, Nice fs → (∀ f ∈ fs, Small f.1) → (pL fs).length ≤ 1 + 3 * fs.length
  | _, .nil, _ => by decide
  | _, @Nice.cons f e r hf h2 _ _ t, h => by
    have ih := len_pL t fun g hg => h g (List.mem_cons_of_mem _ hg)
    have hl := mulL_len (lastZ_ne hf.ne) (lastZ_ne t.p.ne)
    have := (h (f, e) List.mem_cons_self).1
    show (mulL f (pL r)).length ≤ _
    dsimp only at this
    rw [List.length_cons]; omega
theorem len_wpd {fs : Facs} (h : Nice fs) : (wL fs).length + 1 = (pL fs).length + (dL fs).length := by
  have e : wL fs = mulL (pL fs) (dL fs) := eq_of_same h.w.ne (h.p.mul h.d).ne fun i => same_of i (N := 0) fun n _ => by rw [ev_wL, ev_mulL]
  rw [e]; exact mulL_len (lastZ_ne h.p.ne) (lastZ_ne h.d.ne)
end Rt

namespace Rt
open PySem PySem.Spec PyProof.Rows L2 Evl
/-- the form of a row of three is never nought but at nought -/
def Firm (c b a : Int) : Prop := ∀ p q : Int, (p ≠ 0 ∨ q ≠ 0) → a * p * p + b * p * q + c * q * q ≠ 0
/-- the kinds of factors -/
inductive Kd : List Int → Prop
  | l (e d : Int) : 0 < d → Int.gcd e d = 1 → e.natAbs ≤ 2 ^ 30 → d.natAbs ≤ 2 ^ 30 → Kd [e, d]
  | q (c b a : Int) : 0 < a → Firm c b a → cont [c, b, a] = 1 → c.natAbs ≤ 2 ^ 30 → b.natAbs ≤ 2 ^ 30 → a.natAbs ≤ 2 ^ 30 → Kd [c, b, a]
  | c (k : Int) : k.natAbs ≤ 2 ^ 30 → (∀ d e : Int, d ≠ 0 → k * d * d * d ≠ e * e * e) → Kd [k, 0, 0, 1]
theorem bd2 {m : Nat} {a b : Int} (h1 : a.natAbs ≤ m) (h2 : b.natAbs ≤ m) : Bd m [a, b] := fun x hx => by
  rcases List.mem_cons.mp hx with rfl | hx
  · exact h1
  · rw [List.mem_singleton.mp hx]; exact h2
theorem bd3 {m : Nat} {a b c : Int} (h1 : a.natAbs ≤ m) (h2 : b.natAbs ≤ m) (h3 : c.natAbs ≤ m) : Bd m [a, b, c] := fun x hx => by
  rcases List.mem_cons.mp hx with rfl | hx
  · exact h1
  · exact bd2 h2 h3 x hx
theorem bd4 {m : Nat} {a b c d : Int} (h1 : a.natAbs ≤ m) (h2 : b.natAbs ≤ m) (h3 : c.natAbs ≤ m) (h4 : d.natAbs ≤ m) : Bd m [a, b, c, d] := fun x hx => by
  rcases List.mem_cons.mp hx with rfl | hx
  · exact h1
  · exact bd3 h2 h3 h4 x hx
theorem Kd.small {f : List Int} (h : Kd f) : Small f := by
  cases h with
  | l e d h1 h2 h3 h4 => exact ⟨Nat.le_of_ble_eq_true rfl, bd2 h3 h4⟩
  | q c b a h1 h2 h3 h4 h5 h6 => exact ⟨Nat.le_of_ble_eq_true rfl, bd3 h4 h5 h6⟩
  | c k h1 h2 => exact ⟨Nat.le_of_ble_eq_true rfl, bd4 h1 (by decide) (by decide) (by decide)⟩
theorem Kd.len {f : List Int} (h : Kd f) : 2 ≤ f.length := by cases h <;> simp
theorem Kd.good {f : List Int} (h : Kd f) : Good f := by
  cases h with
  | l e d h1 h2 h3 h4 => exact ⟨h1, by show Nat.gcd e.natAbs (Nat.gcd d.natAbs 0) = 1; rw [Nat.gcd_zero_right]; exact h2⟩
  | q c b a h1 h2 h3 h4 h5 h6 => exact ⟨h1, h3⟩
  | c k h1 h2 => exact ⟨show (0:Int) < 1 by decide, by show Nat.gcd k.natAbs (Nat.gcd 0 (Nat.gcd 0 (Nat.gcd 1 0))) = 1; simp⟩
theorem Kd.self {f : List Int} (h : Kd f) : Cop (ev f) (der f) := by
  cases h with
  | l e d h1 h2 h3 h4 => exact ⟨d, by omega, fun x => ⟨0, 1, by simp [ev, der]⟩⟩
  | q c b a h1 h2 h3 h4 h5 h6 =>
    refine ⟨4 * a * c - b * b, fun z => ?_, fun x => ⟨4 * a, -(2 * a * x + b), by simp only [ev, der]; grind⟩⟩
    exact h2 (-b) (2 * a) (.inr (by omega)) (by grind)
  | c k h1 h2 =>
    refine ⟨3 * k, fun z => ?_, fun x => ⟨3, -x, by simp only [ev, der]; grind⟩⟩
    exact h2 1 0 (by decide) (by have : k = 0 := by omega
                                 rw [this]; decide)
theorem same_dv {f g : List Int} (hf : Good f) (hg : Good g) {a b : Int} (ha : a ≠ 0) (hb : b ≠ 0) (h : ∀ x, a * ev f x = b * ev g x) : f = g :=
  eq_of_dv ⟨b, hb, fun x => ⟨a, by have := h x; grind⟩⟩ ⟨a, ha, fun x => ⟨b, by have := h x; grind⟩⟩ hf.1 hg.1 hf.2 hg.2
theorem Kd.cop {f g : List Int} (hf : Kd f) (hg : Kd g) (hne : f ≠ g) : Cop (ev f) (ev g) := by
  have gf := hf.good
  have gg := hg.good
  have LQ : ∀ (e d c b a : Int), 0 < d → Firm c b a → Cop (ev [e, d]) (ev [c, b, a]) := fun e d c b a hd h =>
    ⟨c * d * d - b * d * e + a * e * e, fun z => h e (-d) (.inr (by omega)) (by grind), fun x => ⟨-(a * d * x + b * d - a * e), d * d, by simp only [ev]; grind⟩⟩
  have LC : ∀ (e d k : Int), 0 < d → (∀ d e : Int, d ≠ 0 → k * d * d * d ≠ e * e * e) → Cop (ev [e, d]) (ev [k, 0, 0, 1]) := fun e d k hd h =>
    ⟨k * d * d * d - e * e * e, fun z => h d e (by omega) (by omega), fun x => ⟨-(d * d * x * x - d * e * x + e * e), d * d * d, by simp only [ev]; grind⟩⟩
  have QC : ∀ (c b a k : Int), 0 < a → Firm c b a → (∀ d e : Int, d ≠ 0 → k * d * d * d ≠ e * e * e) → Cop (ev [c, b, a]) (ev [k, 0, 0, 1]) := fun c b a k ha h hk => by
    by_cases hs : b * b - a * c = 0
    · refine ⟨k * a * a + b * c, fun z => hk a (-b) (by omega) (by grind), fun x => ⟨-(a * x - b), a * a, ?_⟩⟩
      simp only [ev]; grind
    · refine ⟨c * (b * b - a * c) * (b * b - a * c) - b * (b * b - a * c) * (k * a * a + b * c) + a * (k * a * a + b * c) * (k * a * a + b * c), fun z => h (k * a * a + b * c) (-(b * b - a * c)) (.inr (by omega)) (by grind), fun x => ?_⟩
      refine ⟨(b * b - a * c) * (b * b - a * c) + (a * (b * b - a * c) * x + b * (b * b - a * c) - a * (k * a * a + b * c)) * (a * x - b), -(a * a * (a * (b * b - a * c) * x + b * (b * b - a * c) - a * (k * a * a + b * c))), ?_⟩
      simp only [ev]
      grind
  cases hf with
  | l e d h1 h2 h3 h4 =>
    cases hg with
    | l e' d' k1 k2 k3 k4 =>
      refine ⟨d' * e - d * e', fun z => hne (same_dv gf gg (a := d') (b := d) (by omega) (by omega) fun x => ?_), fun x => ⟨d', -d, ?_⟩⟩
      · simp only [ev]; grind
      · simp only [ev]; grind
    | q c b a k1 k2 k3 k4 k5 k6 => exact LQ e d c b a h1 k2
    | c k k1 k2 => exact LC e d k h1 k2
  | q c b a h1 h2 h3 h4 h5 h6 =>
    cases hg with
    | l e d k1 k2 k3 k4 => exact (LQ e d c b a k1 h2).symm
    | q c' b' a' k1 k2 k3 k4 k5 k6 =>
      by_cases hp : a * b' - a' * b = 0
      · refine ⟨a * c' - a' * c, fun z => hne (same_dv gf gg (a := a') (b := a) (by omega) (by omega) fun x => ?_), fun x => ⟨-a', a, ?_⟩⟩
        · simp only [ev]; grind
        · simp only [ev]; grind
      · generalize hP : a * b' - a' * b = p at *
        generalize hQ : a * c' - a' * c = q at *
        refine ⟨c * p * p - b * p * q + a * q * q, fun z => h2 q (-p) (.inr (by omega)) (by grind), fun x => ⟨p * p + (a * p * x + b * p - a * q) * a', -((a * p * x + b * p - a * q) * a), ?_⟩⟩
        simp only [ev]
        subst hP hQ
        grind
    | c k k1 k2 => exact QC c b a k h1 h2 k2
  | c k h1 h2 =>
    cases hg with
    | l e d k1 k2 k3 k4 => exact (LC e d k k1 h2).symm
    | q c b a k1 k2 k3 k4 k5 k6 => exact (QC c b a k k1 k2 h2).symm
    | c k' k1 k2 =>
      refine ⟨k - k', fun z => hne (by have : k = k' := by omega
                                       rw [this]), fun x => ⟨1, -1, ?_⟩⟩
      simp only [ev]; omega
/-! ### which rows these are -/
theorem firm_sq {m : Int} (h0 : 0 < m) (hm : ∀ t : Int, t * t ≠ m) : Firm (-m) 0 1 := fun p q hpq z => by
  have z : p * p = m * (q * q) := by grind
  by_cases hq : q = 0
  · subst hq
    have : p * p = 0 := by rw [z]; simp
    rcases Int.mul_eq_zero.mp this with h | h <;> (rcases hpq with h' | h' <;> first | exact h' h | exact h' rfl)
  · have d : q ^ 2 ∣ p ^ 2 := ⟨m, by rw [Int.pow_succ, Int.pow_succ, Int.pow_zero, Int.pow_succ, Int.pow_succ, Int.pow_zero]; grind⟩
    obtain ⟨t, ht⟩ := (Int.pow_dvd_pow_iff (by decide)).mp d
    refine hm t (Int.eq_of_mul_eq_mul_left (a := q * q) (Int.mul_ne_zero hq hq) ?_)
    rw [ht] at z
    grind
theorem sq_ne {m : Int} (n : Nat) (h1 : (n : Int) * n < m) (h2 : m < ((n : Int) + 1) * ((n : Int) + 1)) : ∀ t : Int, t * t ≠ m := fun t z => by
  have e : t * t = (t.natAbs : Int) * t.natAbs := by rw [← Int.natAbs_mul_self' t]
  rw [e] at z
  generalize t.natAbs = u at *
  rcases Nat.lt_or_ge n u with c | c
  · have : (n + 1) * (n + 1) ≤ u * u := Nat.mul_le_mul c c
    have : (((n + 1) * (n + 1) : Nat) : Int) ≤ ((u * u : Nat) : Int) := by omega
    push_cast at this
    omega
  · have : u * u ≤ n * n := Nat.mul_le_mul c c
    have : ((u * u : Nat) : Int) ≤ ((n * n : Nat) : Int) := by omega
    push_cast at this
    omega
theorem firm_def {c b a : Int} (ha : 0 < a) (h : b * b < 4 * a * c) : Firm c b a := fun p q hpq z => by
  have e : (2 * a * p + b * q) * (2 * a * p + b * q) + (4 * a * c - b * b) * (q * q) = 0 := by grind
  have s1 : 0 ≤ (2 * a * p + b * q) * (2 * a * p + b * q) := by rw [← Int.natAbs_mul_self']; exact Int.mul_nonneg (Int.natCast_nonneg _) (Int.natCast_nonneg _)
  have s2 : 0 ≤ q * q := by rw [← Int.natAbs_mul_self']; exact Int.mul_nonneg (Int.natCast_nonneg _) (Int.natCast_nonneg _)
  by_cases hq : q = 0
  · subst hq
    have e2 : a * p * p = 0 := by grind
    rcases Int.mul_eq_zero.mp e2 with h1 | h1
    · rcases Int.mul_eq_zero.mp h1 with h1 | h1
      · omega
      · rcases hpq with h' | h' <;> first | exact h' h1 | exact h' rfl
    · rcases hpq with h' | h' <;> first | exact h' h1 | exact h' rfl
  · have s3 : 0 < q * q := by
      rcases Int.lt_or_eq_of_le s2 with h1 | h1
      · exact h1
      · rcases Int.mul_eq_zero.mp h1.symm with h1 | h1 <;> exact absurd h1 hq
    have := Int.mul_pos (show 0 < 4 * a * c - b * b by omega) s3
    omega
theorem cube_ne {k : Int} (hk : ∀ t : Int, t * t * t ≠ k) : ∀ d e : Int, d ≠ 0 → k * d * d * d ≠ e * e * e := fun d e hd z => by
  have dv : d ^ 3 ∣ e ^ 3 := ⟨k, by rw [Int.pow_succ, Int.pow_succ, Int.pow_succ, Int.pow_zero, Int.pow_succ, Int.pow_succ, Int.pow_succ, Int.pow_zero]; grind⟩
  obtain ⟨t, ht⟩ := (Int.pow_dvd_pow_iff (by decide)).mp dv
  refine hk t (Int.eq_of_mul_eq_mul_left (a := d * d * d) (Int.mul_ne_zero (Int.mul_ne_zero hd hd) hd) ?_)
  rw [ht] at z
  grind
theorem cub_ne {k : Int} (hk : k.natAbs ≠ 0) (h1 : k.natAbs ≠ 1) (h8 : k.natAbs < 8) : ∀ t : Int, t * t * t ≠ k := fun t z => by
  have e := congrArg Int.natAbs z
  rw [Int.natAbs_mul, Int.natAbs_mul] at e
  generalize t.natAbs = u at *
  rcases Nat.lt_or_ge 1 u with c | c
  · have := Nat.mul_le_mul (Nat.mul_le_mul c c) c
    omega
  · rcases Nat.le_one_iff_eq_zero_or_eq_one.mp c with rfl | rfl
    · simp at e; omega
    · simp at e; omega
end Rt

namespace Rt
open PySem PySem.Spec PyProof.Rows L2 Evl
/-! the steps that need no thought; «walk_at "ev"» goes on till it is stuck -/
local macro_rules | `(tactic| walk_at "rt1") => `(tactic| first
  | ((with_reducible show _ = true → ED _ _ _ _); intro _) | ((with_reducible show _ = false → ED _ _ _ _); intro _) | ((with_reducible show _ = true → TD _ _ _ _); intro _) | ((with_reducible show _ = false → TD _ _ _ _); intro _)
  | with_reducible exact ed_int | with_reducible exact ed_bl | with_reducible exact ed_non | with_reducible exact ad_nil | with_reducible exact od_none | with_reducible exact td_yes
  | ((with_reducible apply ed_var); exact rfl)
  | (with_reducible apply ad_cons)
  | (with_reducible apply td_test) | (with_reducible apply td_truth) | (with_reducible apply td_not) | (with_reducible apply td_and) | (with_reducible apply td_or)
  | (with_reducible apply ed_add) | (with_reducible apply ed_sub) | (with_reducible apply ed_mul) | (with_reducible apply ed_mod) | (with_reducible apply ed_fdivP) | (with_reducible apply ed_pow) | (with_reducible apply ed_neg)
  | (with_reducible apply ed_lt) | (with_reducible apply ed_le) | (with_reducible apply ed_gt) | (with_reducible apply ed_ge)
  | (with_reducible apply ed_eqD) | (with_reducible apply ed_neD)
  | (with_reducible apply ed_ix) | (with_reducible apply ed_len) | (with_reducible apply ed_abs) | (with_reducible apply ed_gcd) | (with_reducible apply ed_isi)
  | (with_reducible apply ed_tup) | (with_reducible apply ed_tuple) | (with_reducible apply ed_andV) | (with_reducible apply ed_orV) | (with_reducible apply ed_notV)
  | (with_reducible apply od_some)
  | (with_reducible apply ef_lst) | (with_reducible apply ef_list) | (with_reducible apply ef_sl) | (with_reducible apply ef_cat)
  | (with_reducible apply EF.ed; with_reducible apply ef_lst) | (with_reducible apply EF.ed; with_reducible apply ef_list) | (with_reducible apply EF.ed; with_reducible apply ef_sl) | (with_reducible apply EF.ed; with_reducible apply ef_cat)
  | (with_reducible apply ed_call)
  | ((with_reducible show SeqD _ _); first | exact SeqD.l _ | exact SeqD.t _ | assumption)
  | ((with_reducible show Truth _ _); first | exact Truth.bool _ | exact Truth.int _ | exact Truth.l _ | exact Truth.t _)
  | ((with_reducible show SeqAt.shaped _ = true); exact rfl)
  | ((with_reducible show atI _ _ = some _); first | exact rfl | assumption)
  | ((with_reducible show kitB _ _ = some _); first | exact rfl | decide +kernel)
  | ((with_reducible show List.length _ = _); rfl)
  | ((with_reducible show List.length _ ≤ 100000); first | exact Nat.le_of_ble_eq_true rfl | (simp; done) | (simp; omega)))
local macro_rules | `(tactic| walk_at "ev") => `(tactic| repeat' walk_at "rt1")
/-! ### the promises of the rows' defs -/
def F_trimmed (ds : List PyData) (r : Res) : Prop := ∃ (d : PyData) (xs : List Int), ds = [d] ∧ SeqD d (rD xs) ∧ xs.length ≤ 1000 ∧ r = .rf (rD (trimL xs))
def F_bare (ds : List PyData) (r : Res) : Prop := ∃ xs : List Int, ds = [.list (rD xs)] ∧ (xs = [] ∨ lastZ xs ≠ 0) ∧ xs.length ≤ 1000 ∧ r = .rf (rD (bareL xs))
def F_slope (ds : List PyData) (r : Res) : Prop := ∃ (xs : List Int) (N : Nat), ds = [.list (rD xs)] ∧ 1 ≤ xs.length ∧ xs.length ≤ 1000 ∧ Sz N xs ∧ N ≤ 100000000 ∧ r = .rf (rD (slopeL xs))
def F_lowered (ds : List PyData) (r : Res) : Prop := ∃ (row other : List Int) (f : Int) (k m : Nat), ds = [.list (rD row), .list (rD other), .int f] ∧ other.length ≤ row.length ∧ row.length ≤ 1000 ∧ Lt2 k f ∧ Sz m other ∧ k + m ≤ 134217000 ∧ r = .rf (rD (lowL row other f))
def F_remainder (ds : List PyData) (r : Res) : Prop := ∃ (row other : List Int) (M : Nat), ds = [.list (rD row), .list (rD other)] ∧ lastZ other ≠ 0 ∧ (row = [] ∨ lastZ row ≠ 0) ∧ row.length ≤ 1000 ∧ Sz M row ∧ Sz M other ∧ (row.length + 3 - other.length) * (M + 1) ≤ 134217000 ∧ r = .rt (.list (rD (remL row.length row other)))
def F_common_row (ds : List PyData) (r : Res) : Prop := ∃ (one other D : List Int) (M n : Nat), ds = [.list (rD one), .list (rD other)] ∧ Good one ∧ (other = [] ∨ Good other) ∧ other.length < one.length ∧ one.length ≤ 1000 ∧ other.length ≤ n ∧ lastZ D ≠ 0 ∧ Dv D one ∧ Dv D other ∧ Sz M one ∧ Sz M other ∧ (M + 1) * 3 ^ (one.length - D.length) ≤ 33000000 ∧ r = .rt (.list (rD (comL n one other)))
def F_quotient (ds : List PyData) (r : Res) : Prop := ∃ (left D P : List Int) (A k m : Nat), ds = [.list (rD left), .list (rD D)] ∧ lastZ D ≠ 0 ∧ left.length ≤ 1000 ∧ left.length + 1 = P.length + D.length ∧ (P ≠ [] → ∀ x, ev left x = ev P x * ev D x) ∧ Sz A left ∧ Sz k P ∧ Sz m D ∧ k + m ≤ A ∧ A ≤ 100000000 ∧ r = .rf (rD P)
def F_plain (C : Addr) (ds : List PyData) (r : Res) : Prop := ∃ (d : PyData) (xs : List Int), ds = [d] ∧ SeqD d (rD xs) ∧ xs.length ≤ 1000 ∧
  (((trimL xs).length < 2 ∧ r = .xc C) ∨ ∃ (fs : Facs) (k : Int), Nice fs ∧ fs ≠ [] ∧ (∀ f ∈ fs, Small f.1) ∧ many fs ≤ 9 ∧ fs.length ≤ 3 ∧ k ≠ 0 ∧ trimL xs = smul k (wL fs) ∧ r = .rf (rD (pL fs)))
abbrev sp_trimmed (K : PySem.W.Frag) : Sp := spD K 1 F_trimmed
abbrev sp_bare (K : PySem.W.Frag) : Sp := spD K 1 F_bare
abbrev sp_slope (K : PySem.W.Frag) : Sp := spD K 1 F_slope
abbrev sp_lowered (K : PySem.W.Frag) : Sp := spD K 3 F_lowered
abbrev sp_remainder (K : PySem.W.Frag) : Sp := spD K 2 F_remainder
abbrev sp_common_row (K : PySem.W.Frag) : Sp := spD K 2 F_common_row
abbrev sp_quotient (K : PySem.W.Frag) : Sp := spD K 2 F_quotient
abbrev sp_plain (K : PySem.W.Frag) (C : Addr) : Sp := spD K 1 (F_plain C)
def t_trimmed (K : PySem.W.Frag) : TS := (tSeq (tAsg (tLen K (tVar 0)) (gName 1))
  (tSeq (tWhile (tAnd (tTest (tOp (rI0 fun i j => .bl (decide (j < i))) (tVar 1) (tC (.int 0)))) (tTest (tOp (rEqD K) (tOp (rIx K) (tVar 0) (tOp (rI0 fun i j => .int (i - j)) (tVar 1) (tC (.int 1)))) (tC (.int 0))))) (tAug 1 (tC (.int 1)) (ipI fun i j => i - j)))
  (tRet (tCB (rListS K) (tCons (tSl (rSlS K) (tVar 0) tNoPart (tPart (tVar 1))) tNil)))))
abbrev N_trimmed : List Str := ["row", "many"]
def t_bare (K : PySem.W.Frag) : TS := (tSeq (tIfS (tNot (tTruth K (tVar 0))) (tRet (tLst tNil)) tNext)
  (tSeq (tAsg (tC (.int 0)) (gName 1))
  (tSeq (tFor (iSeq K (tVar 0)) (gName 2) (tAsg (tCB rGcd (tCons (tVar 1) (tCons (tVar 2) tNil))) (gName 1)))
  (tSeq (tIfS (tTest (tOp (rI0 fun i j => .bl (decide (i < j))) (tOp (rIx K) (tVar 0) (tUn (rU fun i => .int (-i)) (tC (.int 1)))) (tC (.int 0)))) (tAsg (tUn (rU fun i => .int (-i)) (tVar 1)) (gName 1)) tNext)
  (tRet (tLc (iSeq K (tVar 0)) (gName 2) tYes (tOp (rI (fun _ j => j ≠ 0) fun i j => .int (i.fdiv j)) (tVar 2) (tVar 1)) [2]))))))
abbrev N_bare : List Str := ["row", "common", "number"]
def t_slope (K : PySem.W.Frag) : TS := (tRet (tLc (iRng2 (tCons (tC (.int 1)) (tCons (tLen K (tVar 0)) tNil))) (gName 1) tYes (tOp (rI CMulX fun i j => .int (i * j)) (tVar 1) (tOp (rIx K) (tVar 0) (tVar 1))) [1]))
abbrev N_slope : List Str := ["row", "at"]
def t_lowered (K : PySem.W.Frag) : TS := (tSeq (tAsg (tOp (rI0 fun i j => .int (i - j)) (tLen K (tVar 0)) (tLen K (tVar 1))) (gName 3))
  (tSeq (tAsg (tLc (RZ.iZipA K (tCons (tSl (rSlS K) (tVar 0) (tPart (tVar 3)) tNoPart) (tCons (tVar 1) tNil))) (gTup K 2 (gCons (gName 5) (gCons (gName 6) gNil))) tYes (tOp (rI0 fun i j => .int (i - j)) (tVar 5) (tOp (rI CMulX fun i j => .int (i * j)) (tVar 2) (tVar 6))) [5, 6]) (gName 4))
  (tRet (tOp (rCatS K) (tSl (rSlS K) (tVar 0) tNoPart (tPart (tVar 3))) (tSl (rSlS K) (tVar 4) tNoPart (tPart (tUn (rU fun i => .int (-i)) (tC (.int 1)))))))))
abbrev N_lowered : List Str := ["row", "other", "factor", "gap", "high", "number", "less"]
def t_remainder (K : PySem.W.Frag) : TS := (tSeq (tAsg (tVar 0) (gName 2))
  (tSeq (tWhile (tTest (tOp (rI0 fun i j => .bl (decide (j ≤ i))) (tLen K (tVar 2)) (tLen K (tVar 1)))) (tSeq (tAsg (tCB rGcd (tCons (tOp (rIx K) (tVar 2) (tUn (rU fun i => .int (-i)) (tC (.int 1)))) (tCons (tOp (rIx K) (tVar 1) (tUn (rU fun i => .int (-i)) (tC (.int 1)))) tNil))) (gName 3))
  (tSeq (tAsg (tOp (rI (fun _ j => j ≠ 0) fun i j => .int (i.fdiv j)) (tOp (rIx K) (tVar 2) (tUn (rU fun i => .int (-i)) (tC (.int 1)))) (tVar 3)) (gName 4))
  (tSeq (tAsg (tLc (iSeq K (tVar 2)) (gName 6) tYes (tOp (rI CMulX fun i j => .int (i * j)) (tVar 6) (tOp (rI (fun _ j => j ≠ 0) fun i j => .int (i.fdiv j)) (tOp (rIx K) (tVar 1) (tUn (rU fun i => .int (-i)) (tC (.int 1)))) (tVar 3))) [6]) (gName 5))
  (tAsg (tCall (sp_trimmed K) [] E0 (tCons (tCall (sp_lowered K) [] E0 (tCons (tVar 5) (tCons (tVar 1) (tCons (tVar 4) tNil)))) tNil)) (gName 2))))))
  (tRet (tVar 2))))
abbrev N_remainder : List Str := ["row", "other", "left", "common", "factor", "raised", "number"]
def t_common_row (K : PySem.W.Frag) : TS := (tSeq (tWhile (tTruth K (tVar 1)) (tPar 0 1 (tCons (tVar 1) (tCons (tCall (sp_bare K) [] E0 (tCons (tCall (sp_remainder K) [] E0 (tCons (tVar 0) (tCons (tVar 1) tNil))) tNil)) tNil))))
  (tRet (tVar 0)))
abbrev N_common_row : List Str := ["one", "other"]
def t_quotient (K : PySem.W.Frag) : TS := (tSeq (tAsg (tVar 0) (gName 2))
  (tSeq (tAsg (tLst tNil) (gName 3))
  (tSeq (tWhile (tTest (tOp (rI0 fun i j => .bl (decide (j ≤ i))) (tLen K (tVar 2)) (tLen K (tVar 1)))) (tSeq (tAsg (tOp (rI (fun _ j => j ≠ 0) fun i j => .int (i.fdiv j)) (tOp (rIx K) (tVar 2) (tUn (rU fun i => .int (-i)) (tC (.int 1)))) (tOp (rIx K) (tVar 1) (tUn (rU fun i => .int (-i)) (tC (.int 1))))) (gName 4))
  (tSeq (tDrop (tBM K "list" rAppend (tVar 3) (tCons (tVar 4) tNil)))
  (tAsg (tCall (sp_lowered K) [] E0 (tCons (tVar 2) (tCons (tVar 1) (tCons (tVar 4) tNil)))) (gName 2)))))
  (tSeq (tDrop (tBM0 K "list" rReverse (tVar 3)))
  (tRet (tVar 3))))))
abbrev N_quotient : List Str := ["row", "other", "left", "found", "factor"]
def t_plain (K : PySem.W.Frag) (C_NoRow : Addr) (E : XK) : TS := (tSeq (tAsg (tCall (sp_trimmed K) [] E0 (tCons (tVar 0) tNil)) (gName 1))
  (tSeq (tIfS (tTest (tOp (rI0 fun i j => .bl (decide (i < j))) (tLen K (tVar 1)) (tC (.int 2)))) (fun _ _ H => E (.ref C_NoRow) none H) tNext)
  (tSeq (tAsg (tCall (sp_bare K) [] E0 (tCons (tVar 1) tNil)) (gName 2))
  (tRet (tCall (sp_quotient K) [] E0 (tCons (tVar 2) (tCons (tCall (sp_common_row K) [] E0 (tCons (tVar 2) (tCons (tCall (sp_bare K) [] E0 (tCons (tCall (sp_slope K) [] E0 (tCons (tVar 2) tNil)) tNil)) tNil))) tNil)))))))
abbrev N_plain : List Str := ["row", "kept", "whole"]
theorem rD_last' {xs : List Int} (h : xs ≠ []) : atI (rD xs) (-1) = some (.int (lastZ xs)) := by
  rw [rD_last h]; unfold lastZ; rw [List.getLast?_eq_some_getLast h]; rfl
theorem take_trim (xs : List Int) (i : Nat) (h : i ≤ xs.length) (hz : ∀ j, i ≤ j → xs.getD j 0 = 0) (hn : i = 0 ∨ xs.getD (i - 1) 0 ≠ 0) : xs.take i = trimL xs := by
  have e : xs = xs.take i ++ List.replicate (xs.length - i) 0 := by
    apply List.ext_getElem?
    intro j
    rw [List.getElem?_append, List.length_take, Nat.min_eq_left h]
    by_cases c : j < i
    · rw [if_pos c, List.getElem?_take, if_pos c]
    · rw [if_neg c, List.getElem?_replicate]
      by_cases d : j < xs.length
      · have := hz j (by omega)
        rw [List.getD_eq_getElem?_getD, List.getElem?_eq_getElem d] at this
        rw [List.getElem?_eq_getElem d, if_pos (by omega)]
        exact congrArg some this
      · rw [List.getElem?_eq_none_iff.mpr (by omega), if_neg (by omega)]
  have key : ∀ (p : List Int) (k : Nat), p = [] ∨ lastZ p ≠ 0 → trimL (p ++ List.replicate k 0) = p := fun p k hp => by
    induction k with
    | zero =>
      rw [List.replicate_zero, List.append_nil]
      rcases hp with rfl | hp
      · rfl
      · exact trimL_of hp
    | succ k ih => rw [List.replicate_succ', ← List.append_assoc, trimL_snoc, if_pos rfl]; exact ih
  have := key (xs.take i) (xs.length - i) (by
    rcases hn with rfl | hn
    · exact .inl (by rw [List.take_zero])
    · right
      have i0 : 1 ≤ i := by
        rcases Nat.eq_zero_or_pos i with z | z
        · subst z
          exact absurd (hz 0 (Nat.le_refl _)) hn
        · exact z
      have hne : xs.take i ≠ [] := by intro z; have := congrArg List.length z; rw [List.length_take, List.length_nil] at this; omega
      rw [← lastZ_getD hne, List.length_take, Nat.min_eq_left h, List.getD_eq_getElem?_getD, List.getElem?_take, if_pos (by omega), ← List.getD_eq_getElem?_getD]
      exact hn)
  rw [← e] at this
  exact this.symm
section
variable {K : PySem.W.Frag}
theorem pure_trimmed (ds : List PyData) (r : Res) (h : F_trimmed ds r) (B0 B : Hp) : SD K B0 B (t_trimmed K) (startR N_trimmed ds) (fin r) := by
  obtain ⟨d, xs, rfl, hs, hl, rfl⟩ := h
  unfold t_trimmed
  refine sd_seq (sd_set (ed_lenR (ed_var rfl) hs) ?_)
  refine sd_seq (sd_while (fun m ρ => ∃ i : Nat, ρ = [some (.d d), some (.d (.int (i : Int)))] ∧ i ≤ xs.length ∧ (∀ j, i ≤ j → xs.getD j 0 = 0) ∧ m = i) xs.length ⟨xs.length, rfl, Nat.le_refl _, fun j hj => by rw [List.getD_eq_getElem?_getD, List.getElem?_eq_none_iff.mpr hj]; rfl, rfl⟩ ?_)
  rintro m ρ ⟨i, rfl, hi, hz, hm⟩
  by_cases h0 : i = 0
  · subst h0
    have ht : TD K (tTest (tOp (rI0 fun i j => V.bl (decide (j < i))) (tVar 1) (tC (V.int 0)))) [some (.d d), some (.d (.int ((0 : Nat) : Int)))] (decide ((0 : Int) < ((0 : Nat) : Int))) := td_test (ed_gt (ed_var rfl) ed_int)
    refine ⟨_, td_and (b := false) ht (fun z => absurd z (by decide)), fun z => absurd z (by decide), fun _ => ?_⟩
    have e := take_trim xs 0 (by omega) hz (.inl rfl)
    show SD K B0 B _ _ _
    refine sd_retF (ds := rD (trimL xs)) ?_ rfl
    rw [← e]
    cases hs with
    | l => exact (ef_list (EF.ed (ef_sl (ed_var rfl) od_none (od_some (ed_var rfl)))) (SeqD.l _)).cast (cut_rD_hi xs 0)
    | t => exact (ef_list (ed_slT (ed_var rfl) od_none (od_some (ed_var rfl))) (SeqD.t _)).cast (cut_rD_hi xs 0)
  · have ea : atI (rD xs) ((i : Int) - 1) = some (.int (xs.getD (i - 1) 0)) := by
      have := rD_at (xs := xs) (k := (i : Int) - 1) (by omega) (by omega)
      rwa [show ((i : Int) - 1).toNat = i - 1 by omega] at this
    have ht : TD K (tTest (tOp (rI0 fun i j => V.bl (decide (j < i))) (tVar 1) (tC (V.int 0)))) [some (.d d), some (.d (.int (i : Int)))] (decide ((0 : Int) < i)) := by walk_at "ev"
    have hx : ED K (tOp (rIx K) (tVar 0) (tOp (rI0 fun i j => V.int (i - j)) (tVar 1) (tC (V.int 1)))) [some (.d d), some (.d (.int (i : Int)))] (.int (xs.getD (i - 1) 0)) := ed_ix (ed_var rfl) hs (ed_sub (ed_var rfl) ed_int) ea
    refine ⟨_, td_and ht (fun _ => td_test (ed_eqI hx ed_int)), fun hb => ?_, fun hb => ?_⟩
    · have hb : xs.getD (i - 1) 0 = 0 := by
        rw [Bool.and_eq_true] at hb; exact of_decide_eq_true hb.2
      refine sd_aug (a := (i : Int)) (b := 1) rfl ed_int ⟨i - 1, (by omega : i - 1 < m), i - 1, ?_, by omega, fun j hj => ?_, rfl⟩
      · show [some (SV.d d), some (SV.d (.int ((i : Int) - 1)))] = _
        rw [show (i : Int) - 1 = ((i - 1 : Nat) : Int) by omega]
      · rcases Nat.lt_or_ge j i with c | c
        · rw [show j = i - 1 by omega]; exact hb
        · exact hz j c
    · have hb : xs.getD (i - 1) 0 ≠ 0 := fun z => by
        rw [z] at hb
        simp at hb
        omega
      have e := take_trim xs i hi hz (.inr hb)
      show SD K B0 B _ _ _
      refine sd_retF (ds := rD (trimL xs)) ?_ rfl
      rw [← e]
      cases hs with
      | l => exact (ef_list (EF.ed (ef_sl (ed_var rfl) od_none (od_some (ed_var rfl)))) (SeqD.l _)).cast (cut_rD_hi xs i)
      | t => exact (ef_list (ed_slT (ed_var rfl) od_none (od_some (ed_var rfl))) (SeqD.t _)).cast (cut_rD_hi xs i)
theorem cont_snoc : ∀ (p : List Int) (a : Int), cont (p ++ [a]) = Nat.gcd (cont p) a.natAbs
  | [], a => by simp [cont]
  | b :: p, a => by
    show Nat.gcd b.natAbs (cont (p ++ [a])) = Nat.gcd (Nat.gcd b.natAbs (cont p)) a.natAbs
    rw [cont_snoc p a, Nat.gcd_assoc]
theorem take_snoc {xs : List Int} {i : Nat} {a : Int} (h : xs[i]? = some a) : xs.take (i + 1) = xs.take i ++ [a] := by rw [List.take_succ, h]; rfl
theorem pure_bare (ds : List PyData) (r : Res) (h : F_bare ds r) (B0 B : Hp) : SD K B0 B (t_bare K) (startR N_bare ds) (fin r) := by
  obtain ⟨xs, rfl, hz, hl, rfl⟩ := h
  unfold t_bare
  apply sd_seq; apply sd_if; (case h => walk_at "ev" ); all_goals intro hb
  · have hx : xs = [] := by
      cases xs with
      | nil => rfl
      | cons a xs => simp [rD] at hb
    subst hx
    apply sd_retF; (case h => walk_at "ev" )
    rfl
  · have hx : xs ≠ [] := by rintro rfl; simp [rD] at hb
    have hz := hz.resolve_left hx
    refine sd_next ?_
    apply sd_seq; apply sd_set; (case h => walk_at "ev" )
    refine sd_seq (sd_for (id_seq (ed_var rfl) (SeqD.l _)) (fun i ρ => ∃ z, ρ = [some (.d (.list (rD xs))), some (.d (.int (cont (xs.take i) : Int))), z]) ⟨none, rfl⟩ ?_ ?_)
    · rintro i d ρ' hi ⟨z, rfl⟩
      obtain ⟨a, ha, rfl⟩ := rD_get hi
      refine ⟨_, gd_name, ?_⟩
      apply sd_set; (case h => walk_at "ev" )
      refine ⟨some (.d (.int a)), ?_⟩
      rw [take_snoc ha, cont_snoc]
      rfl
    · rintro ρ' ⟨z, rfl⟩
      show SD K B0 B _ _ _
      rw [rD_len, List.take_length]
      have fin2 : ∀ z, SD K B0 B (tRet (tLc (iSeq K (tVar 0)) (gName 2) tYes (tOp (rI (fun _ j => j ≠ 0) fun i j => V.int (i.fdiv j)) (tVar 2) (tVar 1)) [2])) [some (.d (.list (rD xs))), some (.d (.int (barS xs))), z] (fin (.rf (rD (bareL xs)))) := fun z => by
        refine sd_retF (ds := rD (bareL xs)) ?_ rfl
        refine (ef_lc (ds := rD xs) (fun i => .int ((xs.getD i 0).fdiv (barS xs))) (id_seq (ed_var rfl) (SeqD.l _)) (by rw [rD_len]; omega) fun i d hi => ?_).cast ?_
        · obtain ⟨a, ha, rfl⟩ := rD_get hi
          have ea : xs.getD i 0 = a := by rw [List.getD_eq_getElem?_getD, ha]; rfl
          refine ⟨_, gc_name, ?_⟩
          rw [ea]
          exact ed_fdiv (ed_var rfl) (ed_var rfl) (barS_ne hz)
        · rw [rD_len]
          unfold rD bareL
          rw [List.map_map]
          exact map_range fun i a ha => by rw [List.getD_eq_getElem?_getD, ha]; rfl
      apply sd_seq; apply sd_if; (case h => walk_at "ev" <;> (first | (exact rD_last' hx) | walk_at "rt1")); all_goals intro hb
      · have hb : lastZ xs < 0 := of_decide_eq_true hb
        have es : barS xs = -(cont xs : Int) := by unfold barS; rw [if_pos hb]
        apply sd_set; (case h => walk_at "ev" )
        rw [← es]
        exact fin2 z
      · have hb : ¬ lastZ xs < 0 := of_decide_eq_false hb
        have es : barS xs = (cont xs : Int) := by unfold barS; rw [if_neg hb]
        rw [← es]
        exact sd_next (fin2 z)
theorem ints_get' {lo : Int} {n i : Nat} {d : PyData} (h : (intsD lo n)[i]? = some d) : i < n ∧ d = .int (lo + (i : Nat)) := by
  unfold intsD at h
  rw [List.getElem?_map] at h
  by_cases hi : i < n
  · rw [List.getElem?_range hi] at h; cases h; exact ⟨hi, rfl⟩
  · rw [List.getElem?_eq_none_iff.mpr (by rw [List.length_range]; omega)] at h; cases h
theorem ints_len' (lo : Int) (n : Nat) : (intsD lo n).length = n := by unfold intsD; rw [List.length_map, List.length_range]
theorem pure_slope (ds : List PyData) (r : Res) (h : F_slope ds r) (B0 B : Hp) : SD K B0 B (t_slope K) (startR N_slope ds) (fin r) := by
  obtain ⟨xs, N, rfl, h1, hl, hs, hN, rfl⟩ := h
  unfold t_slope
  refine sd_retF (ds := rD (slopeL xs)) ?_ rfl
  refine (ef_lc (fun k => .int (((k : Int) + 1) * xs.getD (k + 1) 0)) (id_rng2 (m := 1) (n := xs.length) (ad_cons ed_int (ad_cons (ed_lenR (ed_var rfl) (SeqD.l _)) ad_nil)) (by omega)) (by rw [ints_len']; omega) fun i d hi => ?_).cast ?_
  · obtain ⟨hi, rfl⟩ := ints_get' hi
    refine ⟨_, gc_name, ?_⟩
    have ea : atI (rD xs) (1 + (i : Nat)) = some (.int (xs.getD (i + 1) 0)) := by
      have := rD_at (xs := xs) (k := 1 + (i : Nat)) (by omega) (by omega)
      rwa [show (1 + (i : Nat) : Int).toNat = i + 1 by omega] at this
    have hk : Lt2 10 (1 + (i : Int)) := by unfold Lt2; omega
    have := ed_mul (K := K) (ta := tVar 1) (tb := tOp (rIx K) (tVar 0) (tVar 1)) (ρ := (wipeR (startR N_slope [PyData.list (rD xs)]) [1]).set 1 (some (.d (.int (1 + (i : Int)))))) (i := 1 + (i : Int)) (j := xs.getD (i + 1) 0) (ed_var rfl) (ed_ix (ed_var rfl) (SeqD.l _) (ed_var rfl) ea) (hk.cm (hs.getD _) (by omega))
    rwa [Int.add_comm 1 (i : Int)] at this ⊢
  · rw [ints_len', show ((xs.length : Int) - 1).toNat = xs.length - 1 by omega]
    unfold rD slopeL
    rw [List.map_map]; rfl
theorem pure_lowered (ds : List PyData) (r : Res) (h : F_lowered ds r) (B0 B : Hp) : SD K B0 B (t_lowered K) (startR N_lowered ds) (fin r) := by
  obtain ⟨row, other, f, k, m, rfl, ho, hl, hf, hs, hz, rfl⟩ := h
  unfold t_lowered
  have eg : ((row.length : Int) - (other.length : Int)) = ((row.length - other.length : Nat) : Int) := by omega
  refine sd_seq (sd_set (ed_sub (ed_lenR (ed_var rfl) (SeqD.l _)) (ed_lenR (ed_var rfl) (SeqD.l _))) ?_)
  rw [eg]
  let g := row.length - other.length
  have hzl : (row.drop g).length = other.length := by rw [List.length_drop]; show row.length - (row.length - other.length) = _; omega
  have lc : EF K (tLc (RZ.iZipA K (tCons (tSl (rSlS K) (tVar 0) (tPart (tVar 3)) tNoPart) (tCons (tVar 1) tNil))) (gTup K 2 (gCons (gName 5) (gCons (gName 6) gNil))) tYes (tOp (rI0 fun i j => V.int (i - j)) (tVar 5) (tOp (rI CMulX fun i j => V.int (i * j)) (tVar 2) (tVar 6))) [5, 6])
      [some (.d (.list (rD row))), some (.d (.list (rD other))), some (.d (.int f)), some (.d (.int (g : Int))), none, none, none] (rD (List.zipWith (fun a b => a - f * b) (row.drop g) other)) := by
    refine (ef_lc (fun i => .int ((row.drop g).getD i 0 - f * other.getD i 0)) (id_zip (ds := rD (row.drop g)) (es := rD other) (ad_cons (EF.ed ((ef_sl (ed_var rfl) (od_some (ed_var rfl)) od_none).cast (cut_rD_lo row g))) (ad_cons (ed_var rfl) ad_nil)) (.inl ⟨rfl, rfl⟩)) (by rw [pairs_len, rD_len, rD_len]; omega) fun i d hi => ?_).cast ?_
    · obtain ⟨x, y, rfl, h1, h2⟩ := pairs_get hi
      obtain ⟨a, ha, rfl⟩ := rD_get h1
      obtain ⟨b, hb, rfl⟩ := rD_get h2
      have ea : (row.drop g).getD i 0 = a := by rw [List.getD_eq_getElem?_getD, ha]; rfl
      have eb : other.getD i 0 = b := by rw [List.getD_eq_getElem?_getD, hb]; rfl
      refine ⟨_, gc_pair (by decide), ?_⟩
      rw [ea, eb]
      exact ed_sub (ed_var rfl) (ed_mul (ed_var rfl) (ed_var rfl) (hf.cm (hs b (List.mem_of_getElem? hb)) (by omega)))
    · rw [pairs_len, rD_len, rD_len, hzl, Nat.min_self]
      unfold rD
      apply List.ext_getElem?
      intro i
      rw [List.getElem?_map, List.getElem?_map, List.getElem?_zipWith]
      by_cases hi : i < other.length
      · rw [List.getElem?_range hi, List.getElem?_eq_getElem (by omega : i < (row.drop g).length), List.getElem?_eq_getElem hi]
        show some (PyData.int _) = some (PyData.int _)
        rw [List.getD_eq_getElem?_getD, List.getD_eq_getElem?_getD, List.getElem?_eq_getElem (by omega : i < (row.drop g).length), List.getElem?_eq_getElem hi]; rfl
      · rw [List.getElem?_eq_none_iff.mpr (by rw [List.length_range]; omega), List.getElem?_eq_none_iff.mpr (by omega : (row.drop g).length ≤ i)]; rfl
  refine sd_seq (sd_setF lc ?_)
  refine sd_frz (i := 4) rfl ?_
  have e1 := cut_rD_hi row g
  have e2 := cut_rD_m1 (List.zipWith (fun a b => a - f * b) (row.drop g) other)
  refine sd_retF (ds := rD (lowL row other f)) ((ef_cat (EF.ed ((ef_sl (ed_var rfl) od_none (od_some (ed_var rfl))).cast e1)) (EF.ed ((ef_sl (ed_var rfl) od_none (od_some (ed_neg ed_int))).cast e2)) ?_).cast ?_) rfl
  · rw [rD_len, rD_len, List.length_take, List.length_dropLast, List.length_zipWith]; omega
  · unfold lowL rD
    rw [List.map_append]
end
theorem sz_rem {M : Nat} {other : List Int} (ho : lastZ other ≠ 0) (hs : Sz M other) : ∀ (n N : Nat) {left : List Int}, left.length ≤ n → Sz N left → Sz (N + (left.length + 1 - other.length) * (M + 1)) (remL n left other)
  | 0, N, left, hn, h => h.mono (Nat.le_add_right _ _)
  | n + 1, N, left, hn, h => by
    unfold remL
    by_cases c : left.length < other.length
    · rw [if_pos c]; exact h.mono (Nat.le_add_right _ _)
    · rw [if_neg c]
      have hl := (remStep_ok (left := left) ho (by omega)).2.1
      refine (sz_rem ho hs n (N + M + 1) (by omega) (h.remStep hs ho)).mono ?_
      have e : (left.length + 1 - other.length) * (M + 1) = (left.length - other.length) * (M + 1) + (M + 1) := by
        rw [show left.length + 1 - other.length = (left.length - other.length) + 1 by omega, Nat.succ_mul]
      have e2 : ((remStep left other).length + 1 - other.length) * (M + 1) ≤ (left.length - other.length) * (M + 1) := Nat.mul_le_mul_right _ (by omega)
      omega
section
variable {K : PySem.W.Frag}
theorem pure_remainder (ds : List PyData) (r : Res) (h : F_remainder ds r) (B0 B : Hp) : SD K B0 B (t_remainder K) (startR N_remainder ds) (fin r) := by
  obtain ⟨row, other, M, rfl, ho, hr, hl, hsr, hso, hz, rfl⟩ := h
  have no := lastZ_ne ho
  have lo := List.length_pos_iff.mpr no
  unfold t_remainder
  apply sd_seq; apply sd_set; (case h => walk_at "ev" )
  refine sd_seq (sd_while (fun m ρ => ∃ (left : List Int) (n j : Nat) (z3 z4 z5 z6 : Option SV), ρ = [some (.d (.list (rD row))), some (.d (.list (rD other))), some (.d (.list (rD left))), z3, z4, z5, z6] ∧ (left = [] ∨ lastZ left ≠ 0) ∧ left.length + j ≤ row.length ∧ left.length ≤ n ∧ remL n left other = remL row.length row other ∧ Sz (M + j * (M + 1)) left ∧ m = left.length) row.length ⟨row, row.length, 0, none, none, none, none, rfl, hr, Nat.le_refl _, Nat.le_refl _, rfl, by rw [Nat.zero_mul]; exact hsr, rfl⟩ ?_)
  rintro m ρ ⟨left, n, j, z3, z4, z5, z6, rfl, hl1, hl2, hl3, he, hs, hm⟩
  refine ⟨_, td_test (ed_ge (ed_lenR (ed_var rfl) (SeqD.l _)) (ed_lenR (ed_var rfl) (SeqD.l _))), fun hb => ?_, fun hb => ?_⟩
  · have hb : other.length ≤ left.length := by have := of_decide_eq_true hb; omega
    have nl : left ≠ [] := by intro z; rw [z] at hb; simp only [List.length_nil] at hb; omega
    have c0 := gcdI_pos (a := lastZ left) ho
    have hj : j * (M + 1) + 3 * (M + 1) ≤ 134217000 := by
      rw [← Nat.add_mul]
      exact Nat.le_trans (Nat.mul_le_mul_right _ (by omega)) hz
    have f2 : Lt2 M ((lastZ other).fdiv (gcdI (lastZ left) (lastZ other))) := hso.last.of_le (natAbs_fdiv_le (gcdI_dr _ _) (by omega))
    have f1 : Lt2 (M + j * (M + 1)) ((lastZ left).fdiv (gcdI (lastZ left) (lastZ other))) := hs.last.of_le (natAbs_fdiv_le (gcdI_dl _ _) (by omega))
    have el := rD_last' nl
    have eo := rD_last' no
    refine sd_seq (sd_set (ed_gcd (ed_ix (ed_var rfl) (SeqD.l _) (ed_neg ed_int) el) (ed_ix (ed_var rfl) (SeqD.l _) (ed_neg ed_int) eo)) ?_)
    show SD K B0 B _ [some (.d (.list (rD row))), some (.d (.list (rD other))), some (.d (.list (rD left))), some (.d (.int (gcdI (lastZ left) (lastZ other)))), z4, z5, z6] _
    have hst : remStep left other = trimL (lowL (left.map fun n => n * (lastZ other).fdiv (gcdI (lastZ left) (lastZ other))) other ((lastZ left).fdiv (gcdI (lastZ left) (lastZ other)))) := rfl
    have hok := remStep_ok (left := left) ho hb
    have hsz := hs.remStep hso ho
    generalize gcdI (lastZ left) (lastZ other) = c at *
    refine sd_seq (sd_set (ed_fdiv (ed_ix (ed_var rfl) (SeqD.l _) (ed_neg ed_int) el) (ed_var rfl) (by omega)) ?_)
    have lc : EF K (tLc (iSeq K (tVar 2)) (gName 6) tYes (tOp (rI CMulX fun i j => .int (i * j)) (tVar 6) (tOp (rI (fun _ j => j ≠ 0) fun i j => .int (i.fdiv j)) (tOp (rIx K) (tVar 1) (tUn (rU fun i => .int (-i)) (tC (.int 1)))) (tVar 3))) [6])
        [some (.d (.list (rD row))), some (.d (.list (rD other))), some (.d (.list (rD left))), some (.d (.int c)), some (.d (.int ((lastZ left).fdiv c))), z5, z6] (rD (left.map fun n => n * (lastZ other).fdiv c)) := by
      refine (ef_lc (ds := rD left) (fun i => .int (left.getD i 0 * (lastZ other).fdiv c)) (id_seq (ed_var rfl) (SeqD.l _)) (by rw [rD_len]; omega) fun i d hi => ?_).cast ?_
      · obtain ⟨a, ha, rfl⟩ := rD_get hi
        have ea : left.getD i 0 = a := by rw [List.getD_eq_getElem?_getD, ha]; rfl
        refine ⟨_, gc_name, ?_⟩
        rw [ea]
        exact ed_mul (ed_var rfl) (ed_fdiv (ed_ix (ed_var rfl) (SeqD.l _) (ed_neg ed_int) eo) (ed_var rfl) (by omega)) ((hs a (List.mem_of_getElem? ha)).cm f2 (by omega))
      · rw [rD_len]
        unfold rD
        rw [List.map_map]
        exact map_range fun i a ha => by rw [List.getD_eq_getElem?_getD, ha]; rfl
    refine sd_seq (sd_set (EF.ed lc) ?_)
    have lr : (left.map fun n => n * (lastZ other).fdiv c).length = left.length := List.length_map _
    have low := low_len (row := left.map fun n => n * (lastZ other).fdiv c) (other := other) ((lastZ left).fdiv c) (by rw [lr]; exact hb) no
    refine sd_set (d := .list (rD (remStep left other))) (EF.ed (ef_call (ad_cons (EF.ed (ef_call (ad_cons (ed_var rfl) (ad_cons (ed_var rfl) (ad_cons (ed_var rfl) ad_nil))) ⟨left.map fun n => n * (lastZ other).fdiv c, other, (lastZ left).fdiv c, M + j * (M + 1), M, rfl, by rw [lr]; exact hb, by rw [lr]; omega, f1, hso, by omega, rfl⟩ rfl)) ad_nil) ⟨_, _, rfl, SeqD.l _, by rw [lr] at low; omega, by rw [hst]⟩ rfl)) ?_
    obtain ⟨n', rfl⟩ : ∃ n', n = n' + 1 := ⟨n - 1, by omega⟩
    refine ⟨(remStep left other).length, (by omega : (remStep left other).length < m), remStep left other, n', j + 1, _, _, _, _, rfl, hok.1, by omega, by omega, ?_, ?_, rfl⟩
    · rw [← he]
      show _ = (if left.length < other.length then left else remL n' (remStep left other) other)
      rw [if_neg (by omega)]
    · rw [Nat.succ_mul]; exact hsz.mono (by omega)
  · have hb : left.length < other.length := by have := of_decide_eq_false hb; omega
    have e : remL n left other = left := by
      cases n with
      | zero => rfl
      | succ n => show (if left.length < other.length then left else _) = left; rw [if_pos hb]
    show SD K B0 B _ _ _
    rw [← he, e]
    exact sd_ret (ed_var rfl) rfl
theorem pow3a (d : Nat) : d + 3 ≤ 4 * 3 ^ d := by
  induction d with
  | zero => decide
  | succ d ih => rw [Nat.pow_succ]; omega
theorem pow3b (d : Nat) : d + 1 + 2 ≤ 3 ^ (d + 1) := by
  induction d with
  | zero => decide
  | succ d ih => rw [Nat.pow_succ]; omega
theorem pure_common_row (ds : List PyData) (r : Res) (h : F_common_row ds r) (B0 B : Hp) : SD K B0 B (t_common_row K) (startR N_common_row ds) (fin r) := by
  obtain ⟨one, other, D, M, n, rfl, g1, g2, hlt, hl, hn, hD, d1, d2, s1, s2, pot, rfl⟩ := h
  unfold t_common_row
  generalize htgt : comL n one other = target
  refine sd_seq (sd_while (fun m ρ => ∃ (one other : List Int) (n M : Nat), ρ = [some (.d (.list (rD one))), some (.d (.list (rD other)))] ∧ Good one ∧ (other = [] ∨ Good other) ∧ other.length < one.length ∧ one.length ≤ 1000 ∧ other.length ≤ n ∧ Dv D one ∧ Dv D other ∧ Sz M one ∧ Sz M other ∧ (M + 1) * 3 ^ (one.length - D.length) ≤ 33000000 ∧ comL n one other = target ∧ m = other.length) other.length ⟨one, other, n, M, rfl, g1, g2, hlt, hl, hn, d1, d2, s1, s2, pot, htgt, rfl⟩ ?_)
  clear htgt pot s1 s2 d1 d2 hn hl hlt g2 g1
  rintro m ρ ⟨one, other, n, M, rfl, g1, g2, hlt, hl, hn, d1, d2, s1, s2, pot, he, hm⟩
  refine ⟨_, td_seq (ed_var rfl) (SeqD.l _), fun hb => ?_, fun hb => ?_⟩
  · have no : other ≠ [] := by rintro rfl; simp [rD] at hb
    have g2 := g2.resolve_left no
    have lo := List.length_pos_iff.mpr no
    have lD := d2.len hD g2.ne
    obtain ⟨r1, r2, a, ha, r3⟩ := rem_ok one.length (left := one) (other := other) (Nat.le_refl _) g2.ne (.inr g1.ne)
    have hsz := sz_rem g2.ne s2 one.length M (left := one) (Nat.le_refl _) s1
    obtain ⟨δ, hδ⟩ : ∃ δ, one.length = other.length + δ + 1 := ⟨one.length - other.length - 1, by omega⟩
    have ep : 3 ^ (one.length - D.length) = 3 ^ (δ + 1) * 3 ^ (other.length - D.length) := by rw [← Nat.pow_add]; congr 1; omega
    have p1 : 1 ≤ 3 ^ (other.length - D.length) := Nat.pow_pos (by decide)
    have hz : (one.length + 3 - other.length) * (M + 1) ≤ 134217000 := by
      have q1 := pow3a (δ + 1)
      have q2 : 3 ^ (δ + 1) * 1 ≤ 3 ^ (δ + 1) * 3 ^ (other.length - D.length) := Nat.mul_le_mul_left _ p1
      have q3 : (one.length + 3 - other.length) * (M + 1) ≤ (4 * 3 ^ (one.length - D.length)) * (M + 1) := Nat.mul_le_mul_right _ (by omega)
      have q4 : (4 * 3 ^ (one.length - D.length)) * (M + 1) = 4 * ((M + 1) * 3 ^ (one.length - D.length)) := by rw [Nat.mul_assoc, Nat.mul_comm (3 ^ _)]
      omega
    have fr : F_remainder [.list (rD one), .list (rD other)] (.rt (.list (rD (remL one.length one other)))) := ⟨one, other, M, rfl, g2.ne, .inr g1.ne, hl, s1, s2, hz, rfl⟩
    obtain ⟨n', rfl⟩ : ∃ n', n = n' + 1 := ⟨n - 1, by omega⟩
    have he' : comL n' other (bareL (remL one.length one other)) = target := by
      rw [← he]
      show _ = (if other.length = 0 then one else _)
      rw [if_neg (by omega)]
    generalize remL one.length one other = rr at *
    have lb : (bareL rr).length = rr.length := by unfold bareL; rw [List.length_map]
    refine sd_par (d := .list (rD other)) (e := .list (rD (bareL rr))) (ad_cons (ed_var rfl) (ad_cons (EF.ed (ef_call (ad_cons (ed_call (ad_cons (ed_var rfl) (ad_cons (ed_var rfl) ad_nil)) fr rfl) ad_nil) ⟨rr, rfl, r1, by omega, rfl⟩ rfl)) ad_nil)) ?_
    refine ⟨(bareL rr).length, by omega, other, bareL rr, n', M + (one.length + 1 - other.length) * (M + 1), rfl, g2, ?_, by omega, by omega, by omega, d2, ?_, s2.mono (Nat.le_add_right _ _), hsz.bare r1, ?_, he', rfl⟩
    · rcases r1 with rfl | r1
      · exact .inl rfl
      · exact .inr (bare_good r1)
    · refine bare_dv r1 ?_
      obtain ⟨b, hb, e1⟩ := d1
      obtain ⟨b', hb', e2⟩ := d2
      refine ⟨b * b', Int.mul_ne_zero hb hb', fun x => ?_⟩
      obtain ⟨u, hu⟩ := r3 x
      obtain ⟨k, hk⟩ := e1 x
      obtain ⟨l, hl⟩ := e2 x
      exact ⟨a * b' * k - b * u * l, by grind⟩
    · have e1 : M + (one.length + 1 - other.length) * (M + 1) + 1 = (δ + 1 + 2) * (M + 1) := by
        rw [show one.length + 1 - other.length = δ + 2 by omega]
        have : (δ + 1 + 2) * (M + 1) = (δ + 2) * (M + 1) + (M + 1) := by rw [show δ + 1 + 2 = (δ + 2) + 1 by omega, Nat.succ_mul]
        omega
      rw [e1]
      have q1 := pow3b δ
      have q2 : (δ + 1 + 2) * (M + 1) * 3 ^ (other.length - D.length) ≤ 3 ^ (δ + 1) * (M + 1) * 3 ^ (other.length - D.length) := Nat.mul_le_mul_right _ (Nat.mul_le_mul_right _ q1)
      have q3 : 3 ^ (δ + 1) * (M + 1) * 3 ^ (other.length - D.length) = (M + 1) * 3 ^ (one.length - D.length) := by rw [ep, Nat.mul_comm (3 ^ (δ + 1)), Nat.mul_assoc]
      omega
  · have no : other = [] := by
      cases other with
      | nil => rfl
      | cons a o => simp [rD] at hb
    subst no
    have e : comL n one [] = one := by cases n <;> rfl
    show SD K B0 B _ _ _
    rw [← he, e]
    exact sd_ret (ed_var rfl) rfl
end
theorem quo_step {D P left : List Int} (hD : lastZ D ≠ 0) (hl : left.length + 1 = P.length + D.length) (he : ∀ x, ev left x = ev P x * ev D x) (hP : P ≠ []) :
    ∃ P', P = P' ++ [lastZ P] ∧ (lastZ left).fdiv (lastZ D) = lastZ P ∧ (lowL left D (lastZ P)).length + 1 = P'.length + D.length ∧ (∀ x, ev (lowL left D (lastZ P)) x = ev P' x * ev D x) := by
  have d0 := List.length_pos_iff.mpr (lastZ_ne hD)
  have p0 := List.length_pos_iff.mpr hP
  have em : left = mulL P D := eq_of_ev (by have := mulL_len hP (lastZ_ne hD); omega) fun x => by rw [he, ev_mulL]
  have el : lastZ left = lastZ P * lastZ D := by rw [em]; exact lastZ_mulL hP (lastZ_ne hD)
  have ef : (lastZ left).fdiv (lastZ D) = lastZ P := by rw [el, Int.mul_comm]; exact Int.mul_fdiv_cancel_left _ hD
  obtain ⟨P', hP'⟩ := snoc_of hP
  have ll := low_len (row := left) (other := D) (lastZ P) (by omega) (lastZ_ne hD)
  have lP : P.length = P'.length + 1 := by
    have := congrArg List.length hP'
    rw [List.length_append] at this; exact this
  refine ⟨P', hP', ef, by omega, fun x => ?_⟩
  rw [ev_low (by omega) (lastZ_ne hD) el, he]
  have e3 : ev P x = ev P' x + lastZ P * x ^ P'.length := by
    have := ev_snoc P' (lastZ P) x
    rwa [← hP'] at this
  rw [e3, show left.length - D.length = P'.length by omega]
  generalize x ^ P'.length = r; grind
section
variable {K : PySem.W.Frag} {C : Addr}
theorem pure_quotient (ds : List PyData) (r : Res) (h : F_quotient ds r) (B0 B : Hp) : SD K B0 B (t_quotient K) (startR N_quotient ds) (fin r) := by
  obtain ⟨left, D, P, A, k, m, rfl, hD, hl, hlen, he, hA, hk, hm, hkm, hA8, rfl⟩ := h
  have nD := lastZ_ne hD
  have d0 := List.length_pos_iff.mpr nD
  unfold t_quotient
  apply sd_seq; apply sd_set; (case h => walk_at "ev" )
  refine sd_seq (sd_setF (ef_lst ad_nil (by decide)) ?_)
  refine sd_seq (sd_while (fun w ρ => ∃ (left' P' fd : List Int) (j : Nat) (z4 : Option SV), ρ = [some (.d (.list (rD left))), some (.d (.list (rD D))), some (.d (.list (rD left'))), some (.own (rD fd)), z4] ∧ P = P' ++ fd.reverse ∧ left'.length + 1 = P'.length + D.length ∧ (P' ≠ [] → ∀ x, ev left' x = ev P' x * ev D x) ∧ Sz (A + j) left' ∧ j + P'.length = P.length ∧ w = P'.length) P.length ⟨left, P, [], 0, none, rfl, by simp, hlen, he, hA, by omega, rfl⟩ ?_)
  rintro w ρ ⟨left', P', fd, j, z4, rfl, hP, hl', he', hs, hj, hw⟩
  have hPl := congrArg List.length hP
  rw [List.length_append, List.length_reverse] at hPl
  refine ⟨_, td_test (ed_ge (ed_lenR (ed_var rfl) (SeqD.l _)) (ed_lenR (ed_var rfl) (SeqD.l _))), fun hb => ?_, fun hb => ?_⟩
  · have hb : D.length ≤ left'.length := by have := of_decide_eq_true hb; omega
    have nP : P' ≠ [] := by rintro rfl; simp only [List.length_nil] at hl'; omega
    obtain ⟨P'', q1, q2, q3, q4⟩ := quo_step hD hl' (he' nP) nP
    have nl : left' ≠ [] := by rintro rfl; simp only [List.length_nil] at hb; omega
    have l1 := congrArg List.length q1
    rw [List.length_append] at l1
    have l1 : P'.length = P''.length + 1 := l1
    have hkP : Lt2 k (lastZ P') := hk _ (by rw [hP]; exact List.mem_append_left _ (by rw [q1]; exact List.mem_append_right _ (by rw [← q1]; exact List.mem_singleton.mpr rfl)))
    refine sd_seq (sd_set (d := .int (lastZ P')) (by rw [← q2]; exact ed_fdiv (ed_ix (ed_var rfl) (SeqD.l _) (ed_neg ed_int) (rD_last' nl)) (ed_ix (ed_var rfl) (SeqD.l _) (ed_neg ed_int) (rD_last' nD)) hD) ?_)
    refine sd_seq (sd_app (d := .int (lastZ P')) rfl (ed_var rfl) (by rw [rD_len]; omega) ?_)
    have ea : rD fd ++ [PyData.int (lastZ P')] = rD (fd ++ [lastZ P']) := by unfold rD; rw [List.map_append]; rfl
    rw [ea]
    refine sd_set (d := .list (rD (lowL left' D (lastZ P')))) (EF.ed (ef_call (ad_cons (ed_var rfl) (ad_cons (ed_var rfl) (ad_cons (ed_var rfl) ad_nil))) ⟨left', D, lastZ P', k, m, rfl, hb, by omega, hkP, hm, by omega, rfl⟩ rfl)) ?_
    refine ⟨P''.length, by omega, lowL left' D (lastZ P'), P'', fd ++ [lastZ P'], j + 1, _, rfl, ?_, q3, fun _ => q4, ?_, by omega, rfl⟩
    · rw [List.reverse_append, List.reverse_cons, List.reverse_nil, List.nil_append, ← List.append_assoc, ← q1]; exact hP
    · exact (hs.low hkP hm (by omega)).mono (by omega)
  · have hb : left'.length < D.length := by have := of_decide_eq_false hb; omega
    have nP : P' = [] := List.length_eq_zero_iff.mp (by omega)
    subst nP
    show SD K B0 B _ _ _
    refine sd_seq (sd_rev (i := 3) rfl ?_)
    refine sd_retO (i := 3) (ds := rD P) ?_ rfl
    rw [hP]
    show some (some (SV.own (rD fd).reverse)) = some (some (SV.own (rD ([] ++ fd.reverse))))
    unfold rD
    rw [List.nil_append, List.map_reverse]
theorem pure_plain (ds : List PyData) (r : Res) (h : F_plain C ds r) (B0 B : Hp) (E : XK) (hE : ∀ D, r = .xc D → ∀ G H, Step B0 B G H → E (.ref D) none H) : SD K B0 B (t_plain K C E) (startR N_plain ds) (fin r) := by
  obtain ⟨d, xs, rfl, hs, hl, h⟩ := h
  have tl : (trimL xs).length ≤ xs.length := by
    obtain ⟨k, hk⟩ := trimL_pre xs
    have := congrArg List.length hk
    rw [List.length_append] at this; omega
  unfold t_plain
  refine sd_seq (sd_setF (ef_call (ad_cons (ed_var rfl) ad_nil) ⟨d, xs, rfl, hs, hl, rfl⟩ rfl) ?_)
  refine sd_frz (i := 1) rfl ?_
  refine sd_seq (sd_if (td_test (ed_lt (ed_lenR (ed_var rfl) (SeqD.l _)) ed_int)) (fun hb => ?_) (fun hb => ?_))
  · have hb : (trimL xs).length < 2 := by have := of_decide_eq_true hb; omega
    rcases h with ⟨_, rfl⟩ | ⟨fs, k, hn, hne, _, _, _, hk, ht, _⟩
    · exact sd_raise (hE C rfl)
    · exfalso
      have l2 := wL_len hn hne
      have := congrArg List.length ht
      unfold Rt.smul at this
      rw [List.length_map] at this
      omega
  · have hb : ¬ (trimL xs).length < 2 := by have := of_decide_eq_false hb; omega
    rcases h with ⟨z, _⟩ | ⟨fs, k, hn, hne, sm, hm, hf, hk, ht, rfl⟩
    · exact absurd z hb
    · refine sd_next ?_
      have gw := hn.w
      have l2 := wL_len hn hne
      have lw := len_wL hn sm
      have lp := len_pL hn sm
      have lwpd := len_wpd hn
      have gd := hn.d
      have gp := hn.p
      have sl : lastZ (slopeL (wL fs)) ≠ 0 := by rw [slope_last l2]; exact Int.mul_ne_zero (by omega) gw.ne
      have e1 : bareL (trimL xs) = wL fs := by rw [ht, bare_smul hk gw]
      have sw : Sz 300 (wL fs) := ((bd_wL sm).sz).mono (by omega)
      have sd : Sz 300 (dL fs) := ((bd_dL sm).sz).mono (by omega)
      have sp : Sz 300 (pL fs) := ((bd_pL sm).sz).mono (by omega)
      have ss := (sw.slope (k := 10) (by omega)).bare (.inr sl)
      have lb : (bareL (slopeL (wL fs))).length = (wL fs).length - 1 := by unfold bareL; rw [List.length_map, slope_len]
      refine sd_seq (sd_set (d := .list (rD (wL fs))) (EF.ed (ef_call (ad_cons (ed_var rfl) ad_nil) ⟨trimL xs, rfl, trimL_last xs, by omega, by rw [e1]⟩ rfl)) ?_)
      have ed1 : ED K (tVar 2) [some (.d d), some (.d (.list (rD (trimL xs)))), some (.d (.list (rD (wL fs))))] (.list (rD (wL fs))) := ed_var rfl
      have ed2 := EF.ed (ef_call (K := K) (E := E0) (F := F_slope) (n := 1) (ad_cons ed1 ad_nil) ⟨wL fs, 300, rfl, by omega, by omega, sw, by decide, rfl⟩ rfl)
      have ed3 := EF.ed (ef_call (K := K) (E := E0) (F := F_bare) (n := 1) (ad_cons ed2 ad_nil) ⟨slopeL (wL fs), rfl, .inr sl, by rw [slope_len]; omega, rfl⟩ rfl)
      have pot : (310 + 1) * 3 ^ ((wL fs).length - (dL fs).length) ≤ 33000000 := by
        have : 3 ^ ((wL fs).length - (dL fs).length) ≤ 3 ^ 9 := Nat.pow_le_pow_right (by decide) (by omega)
        have : (3 : Nat) ^ 9 = 19683 := by decide
        omega
      have ed4 := ed_call (K := K) (E := E0) (F := F_common_row) (n := 2) (ad_cons ed1 (ad_cons ed3 ad_nil)) (d := .list (rD (dL fs))) ⟨wL fs, bareL (slopeL (wL fs)), dL fs, 310, (wL fs).length, rfl, gw, .inr (bare_good sl), by omega, by omega, by omega, gd.ne, ⟨1, by decide, fun x => ⟨ev (pL fs) x, by rw [ev_wL]; grind⟩⟩, bare_dv (.inr sl) ⟨1, by decide, fun x => ⟨tV fs x, by rw [slope_ev, der_wL]; grind⟩⟩, sw.mono (by decide), ss.mono (by decide), pot, by rw [← div_ok hn hne]; rfl⟩ rfl
      exact sd_retF (ef_call (ad_cons ed1 (ad_cons ed4 ad_nil)) ⟨wL fs, dL fs, pL fs, 600, 300, 300, rfl, gd.ne, by omega, lwpd, fun _ x => ev_wL fs x, sw.mono (by decide), sp, sd, by decide, by decide, rfl⟩ rfl) rfl
end
end Rt

namespace K04
open PySem PySem.Spec PyProof.Rows L2 Evl Rt
/-! the steps that need no thought; «walk_at "ev"» goes on till it is stuck -/
local macro_rules | `(tactic| walk_at "rt1") => `(tactic| first
  | ((with_reducible show _ = true → ED _ _ _ _); intro _) | ((with_reducible show _ = false → ED _ _ _ _); intro _) | ((with_reducible show _ = true → TD _ _ _ _); intro _) | ((with_reducible show _ = false → TD _ _ _ _); intro _)
  | with_reducible exact ed_int | with_reducible exact ed_bl | with_reducible exact ed_non | with_reducible exact ad_nil | with_reducible exact od_none | with_reducible exact td_yes
  | ((with_reducible apply ed_var); exact rfl)
  | (with_reducible apply ad_cons)
  | (with_reducible apply td_test) | (with_reducible apply td_truth) | (with_reducible apply td_not) | (with_reducible apply td_and) | (with_reducible apply td_or)
  | (with_reducible apply ed_add) | (with_reducible apply ed_sub) | (with_reducible apply ed_mul) | (with_reducible apply ed_mod) | (with_reducible apply ed_fdivP) | (with_reducible apply ed_pow) | (with_reducible apply ed_neg)
  | (with_reducible apply ed_lt) | (with_reducible apply ed_le) | (with_reducible apply ed_gt) | (with_reducible apply ed_ge)
  | (with_reducible apply ed_eqD) | (with_reducible apply ed_neD)
  | (with_reducible apply ed_ix) | (with_reducible apply ed_len) | (with_reducible apply ed_abs) | (with_reducible apply ed_gcd) | (with_reducible apply ed_isi)
  | (with_reducible apply ed_tup) | (with_reducible apply ed_tuple) | (with_reducible apply ed_andV) | (with_reducible apply ed_orV) | (with_reducible apply ed_notV)
  | (with_reducible apply od_some)
  | (with_reducible apply ef_lst) | (with_reducible apply ef_list) | (with_reducible apply ef_sl) | (with_reducible apply ef_cat)
  | (with_reducible apply EF.ed; with_reducible apply ef_lst) | (with_reducible apply EF.ed; with_reducible apply ef_list) | (with_reducible apply EF.ed; with_reducible apply ef_sl) | (with_reducible apply EF.ed; with_reducible apply ef_cat)
  | (with_reducible apply ed_call)
  | ((with_reducible show SeqD _ _); first | exact SeqD.l _ | exact SeqD.t _ | assumption)
  | ((with_reducible show Truth _ _); first | exact Truth.bool _ | exact Truth.int _ | exact Truth.l _ | exact Truth.t _)
  | ((with_reducible show SeqAt.shaped _ = true); exact rfl)
  | ((with_reducible show atI _ _ = some _); first | exact rfl | assumption)
  | ((with_reducible show kitB _ _ = some _); first | exact rfl | decide +kernel)
  | ((with_reducible show List.length _ = _); rfl)
  | ((with_reducible show List.length _ ≤ 100000); first | exact Nat.le_of_ble_eq_true rfl | (simp; done) | (simp; omega)))
local macro_rules | `(tactic| walk_at "ev") => `(tactic| repeat' walk_at "rt1")
local macro_rules | `(tactic| walk_at "rt1") => `(tactic| with_reducible apply ed_fdiv)
/-- a list of one's own is read as data where nothing of it stays -/
theorem td_tmp {K : PySem.W.Frag} {ρ : Rho} {t : TT} {b : Bool} {ds : List PyData} (i : Nat) (h : ρ[i]? = some (some (.own ds))) (k : TD K t (ρ.set i (some (.d (.list ds)))) b) : TD K t ρ b := fun G H σ I Q q => by
  have b0 : Base (fun _ => none) (fun _ => none) G H σ ρ := ⟨⟨fun _ _ h => (nomatch h), fun _ _ h => (nomatch h), I.gh, fun _ _ _ => rfl⟩, fun _ _ _ _ _ => rfl⟩
  obtain ⟨G2, e, I2, _⟩ := I.frz b0 h
  exact k G2 H σ I2 Q fun G3 H3 s => q G H3 ⟨Ex.refl G, s.h, I.gh.trans s.h, fun p a b => absurd b a⟩
/-! ### lists of rows -/
def rDD (fs : List (List Int)) : List PyData := fs.map fun f => .list (rD f)
theorem rDD_len (fs : List (List Int)) : (rDD fs).length = fs.length := List.length_map _
theorem rDD_get {fs : List (List Int)} {i : Nat} {f : List Int} (h : fs[i]? = some f) : (rDD fs)[i]? = some (.list (rD f)) := by
  unfold rDD; rw [List.getElem?_map, h]; rfl
theorem depthAll_rDD : ∀ fs : List (List Int), PyData.depthAll (rDD fs) ≤ 1
  | [] => Nat.zero_le _
  | f :: fs => by
    show max (PyData.depthAll (rD f) + 1) (PyData.depthAll (rDD fs)) ≤ 1
    have := depthAll_rDD fs
    rw [depthAll_rD]; omega
theorem canLayAll_rDD : ∀ fs : List (List Int), PyData.canLayAll0 (rDD fs) = true
  | [] => rfl
  | f :: fs => by
    show (PyData.canLayAll0 (rD f) && PyData.canLayAll0 (rDD fs)) = true
    rw [canLayAll_rD, canLayAll_rDD fs]; rfl
theorem shaped_rDD (fs : List (List Int)) : SeqAt.shaped (.list (rDD fs)) = true := by
  show (PyData.canLayAll0 (rDD fs) && decide (PyData.depthAll (rDD fs) + 1 ≤ 64)) = true
  have := depthAll_rDD fs
  rw [canLayAll_rDD, decide_eq_true (by omega)]; rfl
theorem any_rDD (f : List Int) : ∀ fs : List (List Int), ((rDD fs).any fun z => PyData.eqv z (.list (rD f))) = decide (f ∈ fs)
  | [] => rfl
  | g :: fs => by
    show (PyData.eqv (.list (rD g)) (.list (rD f)) || ((rDD fs).any fun z => PyData.eqv z (.list (rD f)))) = _
    rw [any_rDD f fs, eqv_l]
    by_cases h : g = f
    · subst h; simp
    · have : f ≠ g := fun z => h z.symm
      simp [h, this]
theorem eqv_rDD_nil (fs : List (List Int)) : PyData.eqv (.list (rDD fs)) (.list []) = decide (fs = []) := by cases fs <;> rfl
/-! ### the menu -/
def linL (v : Int × Int) : List Int := [0 - v.1, v.2]
def quaL (l s f : Int) : List Int := [f.fdiv (Int.gcd f (Int.gcd s l)), s.fdiv (Int.gcd f (Int.gcd s l)), l.fdiv (Int.gcd f (Int.gcd s l))]
def leadV (o : Int) : Int := 1 + o.fmod 3
def sideV (o : Int) : Int := (o.fdiv 3).fmod 9 - 4
def firstV (o : Int) : Int := (sideV o * sideV o).fdiv (4 * leadV o) + 1 + (o.fdiv 27).fmod 5
def facL (c : Int) : List Int :=
  if c.fmod 6 = 2 then [0 - [2, 3, 5, 6, 7].getD ((c.fdiv 6).fmod 5).toNat 0, 0, 1]
  else if c.fmod 6 = 3 then quaL (leadV (c.fdiv 6)) (sideV (c.fdiv 6)) (firstV (c.fdiv 6))
  else if c.fmod 6 = 4 then [[-2, -3, -5, -7, 2, 3].getD ((c.fdiv 6).fmod 6).toNat 0, 0, 0, 1]
  else if c.fmod 6 = 5 then (if (c.fdiv 6).fmod 2 = 1 then linL (partV (333333 + ((c.fdiv 6).fdiv 2).fmod 7) (10 ^ 6)) else linL (((c.fdiv 6).fdiv 2).fmod (2 * 10 ^ 9) - 10 ^ 9, 1))
  else linL (partV ((c.fdiv 6).fmod 15 - 7) (1 + ((c.fdiv 6).fdiv 15).fmod 4))
theorem fmr (a : Int) {m : Int} (h : 0 < m) : 0 ≤ a.fmod m ∧ a.fmod m < m := ⟨Int.fmod_nonneg_of_pos a h, Int.fmod_lt_of_pos a h⟩
theorem kd_lin {v : Int × Int} (h1 : 0 < v.2) (h2 : Int.gcd v.1 v.2 = 1) (h3 : v.1.natAbs ≤ 2 ^ 30) (h4 : v.2.natAbs ≤ 2 ^ 30) : Kd (linL v) := by
  refine Kd.l _ _ h1 ?_ (by omega) h4
  rw [Int.zero_sub, Int.neg_gcd]; exact h2
theorem kd_part {a b : Int} (hb : 0 < b) (h3 : a.natAbs ≤ 2 ^ 30) (h4 : b.natAbs ≤ 2 ^ 30) : Kd (linL (partV a b)) := by
  have l := partV_le (a := a) (b := b) (by omega)
  exact kd_lin (partV_pos (by omega)) (partV_gcd (by omega)) (Nat.le_trans l.1 h3) (Nat.le_trans l.2 h4)
theorem kd_qua {l s f : Int} (hl : 0 < l) (hd : s * s < 4 * l * f) (b1 : l.natAbs ≤ 2 ^ 30) (b2 : s.natAbs ≤ 2 ^ 30) (b3 : f.natAbs ≤ 2 ^ 30) : Kd (quaL l s f) := by
  unfold quaL
  have d1 : ((Int.gcd f (Int.gcd s l) : Nat) : Int) ∣ f := Int.gcd_dvd_left f _
  have d0 : ((Int.gcd f (Int.gcd s l) : Nat) : Int) ∣ ((Int.gcd s l : Nat) : Int) := Int.gcd_dvd_right f _
  have d2 : ((Int.gcd f (Int.gcd s l) : Nat) : Int) ∣ s := Int.dvd_trans d0 (Int.gcd_dvd_left s l)
  have d3 : ((Int.gcd f (Int.gcd s l) : Nat) : Int) ∣ l := Int.dvd_trans d0 (Int.gcd_dvd_right s l)
  have g0 : 0 < Int.gcd f (Int.gcd s l) := by
    rcases Nat.eq_zero_or_pos (Int.gcd f (Int.gcd s l)) with z | z
    · rw [z] at d3
      have := Int.zero_dvd.mp d3
      omega
    · exact z
  have e1 := fdiv_mul_of_dvd d1
  have e2 := fdiv_mul_of_dvd d2
  have e3 := fdiv_mul_of_dvd d3
  have n1 := natAbs_fdiv_le d1 (by omega)
  have n2 := natAbs_fdiv_le d2 (by omega)
  have n3 := natAbs_fdiv_le d3 (by omega)
  have gg : Nat.gcd f.natAbs (Nat.gcd s.natAbs l.natAbs) = Int.gcd f (Int.gcd s l) := rfl
  generalize Int.gcd f (Int.gcd s l) = g at *
  generalize f.fdiv (g : Int) = x at *
  generalize s.fdiv (g : Int) = y at *
  generalize l.fdiv (g : Int) = z at *
  have gp : (0 : Int) < g := by omega
  have zp : 0 < z := by
    by_cases h : 0 < z
    · exact h
    · have h := Int.not_lt.mp h
      have := Int.mul_nonpos_of_nonneg_of_nonpos (Int.le_of_lt gp) h
      omega
  refine Kd.q x y z zp (firm_def zp ?_) ?_ (Nat.le_trans n1 b3) (Nat.le_trans n2 b2) (Nat.le_trans n3 b1)
  · rw [← e1, ← e2, ← e3] at hd
    have h2 : 0 < (g : Int) * g * (4 * z * x - y * y) := by grind
    by_cases h : y * y < 4 * z * x
    · exact h
    · have := Int.mul_nonpos_of_nonneg_of_nonpos (Int.le_of_lt (Int.mul_pos gp gp)) (show 4 * z * x - y * y ≤ 0 by omega)
      omega
  · show Nat.gcd x.natAbs (Nat.gcd y.natAbs (Nat.gcd z.natAbs 0)) = 1
    rw [Nat.gcd_zero_right]
    rw [← e1, ← e2, ← e3, Int.natAbs_mul, Int.natAbs_mul, Int.natAbs_mul, Int.natAbs_natCast, Nat.gcd_mul_left, Nat.gcd_mul_left] at gg
    exact Nat.eq_of_mul_eq_mul_left g0 (by rw [gg, Nat.mul_one])
theorem kd_sq {m : Int} (h : m = 2 ∨ m = 3 ∨ m = 5 ∨ m = 6 ∨ m = 7) : Kd [0 - m, 0, 1] := by
  rw [Int.zero_sub]
  refine Kd.q (-m) 0 1 (by decide) (firm_sq (by omega) ?_) ?_ (by omega) (by decide) (by decide)
  · rcases h with rfl | rfl | rfl | rfl | rfl
    · exact sq_ne 1 (by decide) (by decide)
    · exact sq_ne 1 (by decide) (by decide)
    · exact sq_ne 2 (by decide) (by decide)
    · exact sq_ne 2 (by decide) (by decide)
    · exact sq_ne 2 (by decide) (by decide)
  · show Nat.gcd (-m).natAbs (Nat.gcd 0 (Nat.gcd 1 0)) = 1
    simp
theorem kd_cu {k : Int} (h : k = -2 ∨ k = -3 ∨ k = -5 ∨ k = -7 ∨ k = 2 ∨ k = 3) : Kd [k, 0, 0, 1] :=
  Kd.c k (by omega) (cube_ne (cub_ne (by omega) (by omega) (by omega)))
theorem facL_kd (c : Int) : Kd (facL c) := by
  unfold facL
  split
  · have := fmr (c.fdiv 6) (m := 5) (by decide)
    generalize (c.fdiv 6).fmod 5 = r at *
    have : r = 0 ∨ r = 1 ∨ r = 2 ∨ r = 3 ∨ r = 4 := by omega
    rcases this with rfl | rfl | rfl | rfl | rfl <;> exact kd_sq (by decide)
  · split
    · generalize c.fdiv 6 = o
      have h1 := fmr o (m := 3) (by decide)
      have h2 := fmr (o.fdiv 3) (m := 9) (by decide)
      have h3 := fmr (o.fdiv 27) (m := 5) (by decide)
      have hl : 0 < leadV o := by unfold leadV; omega
      have hl3 : leadV o ≤ 3 := by unfold leadV; omega
      have hs : -4 ≤ sideV o ∧ sideV o ≤ 4 := by unfold sideV; omega
      unfold firstV
      generalize leadV o = l at *
      generalize sideV o = s at *
      generalize (o.fdiv 27).fmod 5 = t at *
      have s2 : 0 ≤ s * s := by rw [← Int.natAbs_mul_self']; exact Int.mul_nonneg (Int.natCast_nonneg _) (Int.natCast_nonneg _)
      have s16 : (s * s).natAbs ≤ 4 * 4 := by rw [Int.natAbs_mul]; exact Nat.mul_le_mul (by omega) (by omega)
      have q1 : (s * s).fmod (4 * l) + 4 * l * (s * s).fdiv (4 * l) = s * s := by rw [Int.fmod_def]; omega
      have q2 := fmr (s * s) (m := 4 * l) (by omega)
      have q3 : 0 ≤ (s * s).fdiv (4 * l) := by rw [Int.fdiv_eq_ediv_of_nonneg _ (by omega)]; exact Int.ediv_nonneg s2 (by omega)
      generalize hu : s * s = u at *
      generalize u.fdiv (4 * l) = v at *
      generalize u.fmod (4 * l) = w at *
      have q4 : 4 * l * (v + 1 + t) = 4 * l * v + 4 * l + 4 * l * t := by grind
      have q5 : 0 ≤ 4 * l * t := Int.mul_nonneg (by omega) (by omega)
      have q6 : v ≤ 16 := by
        have : 1 * v ≤ 4 * l * v := Int.mul_le_mul_of_nonneg_right (by omega) q3
        omega
      exact kd_qua hl (by rw [hu]; omega) (by omega) (by omega) (by omega)
    · split
      · have := fmr (c.fdiv 6) (m := 6) (by decide)
        generalize (c.fdiv 6).fmod 6 = r at *
        have : r = 0 ∨ r = 1 ∨ r = 2 ∨ r = 3 ∨ r = 4 ∨ r = 5 := by omega
        rcases this with rfl | rfl | rfl | rfl | rfl | rfl <;> exact kd_cu (by decide)
      · split
        · split
          · have := fmr ((c.fdiv 6).fdiv 2) (m := 7) (by decide)
            exact kd_part (by decide) (by omega) (by decide)
          · have := fmr ((c.fdiv 6).fdiv 2) (m := 2 * 10 ^ 9) (by decide)
            have e : (2 * 10 ^ 9 : Int) = 2000000000 := by decide
            have e2 : (10 ^ 9 : Int) = 1000000000 := by decide
            rw [e] at this
            rw [e, e2]
            generalize ((c.fdiv 6).fdiv 2).fmod 2000000000 = r at *
            exact kd_lin (v := (r - 1000000000, 1)) (show (0 : Int) < 1 by decide) (Int.gcd_one_right _) (show (r - 1000000000).natAbs ≤ 2 ^ 30 by omega) (show (1 : Int).natAbs ≤ 2 ^ 30 by decide)
        · have h1 := fmr (c.fdiv 6) (m := 15) (by decide)
          have h2 := fmr ((c.fdiv 6).fdiv 15) (m := 4) (by decide)
          exact kd_part (by omega) (by omega) (by omega)
/-! ### the factors, each once, and how often they stand -/
def facs1 : List Int → List (List Int) := List.foldl (fun acc c => if facL c ∈ acc then acc else acc ++ [facL c]) []
theorem facs1_snoc (cs : List Int) (c : Int) : facs1 (cs ++ [c]) = if facL c ∈ facs1 cs then facs1 cs else facs1 cs ++ [facL c] := by
  unfold facs1; rw [List.foldl_append]; rfl
structure Menu (fs : List (List Int)) : Prop where
  kd : ∀ f ∈ fs, Kd f
  nd : fs.Nodup
theorem facs1_ok : ∀ (n : Nat) (cs : List Int), cs.length = n → Menu (facs1 cs) ∧ (facs1 cs).length ≤ cs.length
  | 0, cs, h => by
    have := List.length_eq_zero_iff.mp h
    subst this
    exact ⟨⟨fun f hf => (nomatch hf), List.nodup_nil⟩, Nat.le_refl _⟩
  | n + 1, cs, h => by
    obtain ⟨ds, c, rfl⟩ : ∃ ds c, cs = ds ++ [c] := by
      have hne : cs ≠ [] := by rintro rfl; simp at h
      exact ⟨cs.dropLast, cs.getLast hne, (List.dropLast_concat_getLast hne).symm⟩
    rw [List.length_append] at h ⊢
    have h : ds.length = n := by simpa using h
    obtain ⟨m, l⟩ := facs1_ok n ds h
    rw [facs1_snoc]
    split
    · exact ⟨m, by omega⟩
    · rename_i hn
      refine ⟨⟨fun f hf => ?_, ?_⟩, by rw [List.length_append]; simp; omega⟩
      · rcases List.mem_append.mp hf with hf | hf
        · exact m.kd f hf
        · rw [List.mem_singleton.mp hf]; exact facL_kd c
      · refine List.nodup_append.mpr ⟨m.nd, by simp, fun a ha b hb z => ?_⟩
        rw [List.mem_singleton.mp hb] at z
        exact hn (z ▸ ha)
def oft (cs : List Int) : Nat := match cs with
  | [] => 1
  | c :: _ => [1, 2, 1, 3, 1].getD (c.fmod 5).toNat 1
theorem oft_le (cs : List Int) : 1 ≤ oft cs ∧ oft cs ≤ 3 := by
  cases cs with
  | nil => decide
  | cons c cs =>
    have := fmr c (m := 5) (by decide)
    show 1 ≤ [1, 2, 1, 3, 1].getD (c.fmod 5).toNat 1 ∧ [1, 2, 1, 3, 1].getD (c.fmod 5).toNat 1 ≤ 3
    generalize c.fmod 5 = r at *
    have : r = 0 ∨ r = 1 ∨ r = 2 ∨ r = 3 ∨ r = 4 := by omega
    rcases this with rfl | rfl | rfl | rfl | rfl <;> decide
def facs : List (List Int) → List Int → Facs
  | [], _ => []
  | f :: fs, cs => (f, oft cs - 1) :: facs fs cs.tail
theorem facs_mem : ∀ {fs : List (List Int)} {cs : List Int} {g : List Int × Nat}, g ∈ facs fs cs → g.1 ∈ fs
  | f :: fs, cs, g, h => by
    rcases List.mem_cons.mp (show g ∈ (f, oft cs - 1) :: facs fs cs.tail from h) with rfl | h
    · exact List.mem_cons_self
    · exact List.mem_cons_of_mem _ (facs_mem h)
theorem facs_nice : ∀ {fs : List (List Int)} {cs : List Int}, Menu fs → Nice (facs fs cs)
  | [], _, _ => .nil
  | f :: fs, cs, m => by
    have k := m.kd f List.mem_cons_self
    have n := List.nodup_cons.mp m.nd
    refine .cons k.good k.len k.self (fun g hg => ?_) (facs_nice ⟨fun g hg => m.kd g (List.mem_cons_of_mem _ hg), n.2⟩)
    have hg := facs_mem hg
    exact k.cop (m.kd _ (List.mem_cons_of_mem _ hg)) fun z => n.1 (z ▸ hg)
theorem facs_small {fs : List (List Int)} {cs : List Int} (m : Menu fs) : ∀ g ∈ facs fs cs, Small g.1 := fun g hg => (m.kd _ (facs_mem hg)).small
theorem facs_many : ∀ (fs : List (List Int)) (cs : List Int), many (facs fs cs) ≤ 3 * fs.length
  | [], _ => Nat.le_refl _
  | f :: fs, cs => by
    have := facs_many fs cs.tail
    have := oft_le cs
    show oft cs - 1 + 1 + many (facs fs cs.tail) ≤ 3 * (fs.length + 1)
    omega
theorem facs_len : ∀ (fs : List (List Int)) (cs : List Int), (facs fs cs).length = fs.length
  | [], _ => rfl
  | f :: fs, cs => congrArg (· + 1) (facs_len fs cs.tail)
theorem facs_ne {fs : List (List Int)} (cs : List Int) (h : fs ≠ []) : facs fs cs ≠ [] := by
  cases fs with
  | nil => exact absurd rfl h
  | cons f fs => exact fun z => nomatch z
theorem pL_facs : ∀ (fs : List (List Int)) (cs ds : List Int), pL (facs fs cs) = pL (facs fs ds)
  | [], _, _ => rfl
  | f :: fs, cs, ds => by show mulL f (pL (facs fs cs.tail)) = mulL f (pL (facs fs ds.tail)); rw [pL_facs fs cs.tail ds.tail]
theorem wL_once : ∀ (fs : List (List Int)), wL (facs fs []) = pL (facs fs [])
  | [] => rfl
  | f :: fs => by show mulL f (wL (facs fs [])) = mulL f (pL (facs fs [])); rw [wL_once fs]
/-! ### noughts behind -/
theorem trim_zeros : ∀ (k : Nat) {p : List Int}, p = [] ∨ lastZ p ≠ 0 → trimL (p ++ List.replicate k 0) = p
  | 0, p, hp => by
    rw [List.replicate_zero, List.append_nil]
    rcases hp with rfl | hp
    · rfl
    · exact trimL_of hp
  | k + 1, p, hp => by rw [List.replicate_succ', ← List.append_assoc, trimL_snoc, if_pos rfl]; exact trim_zeros k hp
theorem trim_none {p : List Int} (h : ∀ x, ev p x = 0) : trimL p = [] := by
  rcases trimL_last p with z | z
  · exact z
  · obtain ⟨N, hN⟩ := far_ne z
    exact absurd (by rw [ev_trimL]; exact h N) (hN N (Nat.le_refl _))
theorem ev_zeros (p : List Int) (x : Int) : ∀ k, ev (p ++ List.replicate k 0) x = ev p x
  | 0 => by rw [List.replicate_zero, List.append_nil]
  | k + 1 => by rw [List.replicate_succ', ← List.append_assoc, ev_snoc, ev_zeros p x k]; omega
/-! ### the promises -/
def F__law_part (ds : List PyData) (r : Res) : Prop := ∃ a b : Int, ds = [.int a, .int b] ∧ b ≠ 0 ∧ r = .rt (pD (partV a b))
def F__law_by (ds : List PyData) (r : Res) : Prop := ∃ p q : List Int, ds = [.list (rD p), .list (rD q)] ∧ p ≠ [] ∧ q ≠ [] ∧ p.length ≤ 1000 ∧ q.length ≤ 1000 ∧ Sz 1000 p ∧ Sz 1000 q ∧ r = .rf (rD (mulL p q))
def F__law_factor (ds : List PyData) (r : Res) : Prop := ∃ c : Int, ds = [.int c] ∧ r = .rf (rD (facL c))
def F__law_factors (ds : List PyData) (r : Res) : Prop := ∃ cs : List Int, ds = [.list (rD cs)] ∧ cs.length ≤ 1000 ∧ r = .rf (rDD (facs1 cs))
def F__law_made (ds : List PyData) (r : Res) : Prop := ∃ (fs : List (List Int)) (cs : List Int) (m : Int), ds = [.list (rDD fs), .list (rD cs), .int m] ∧ Menu fs ∧ fs.length ≤ 3 ∧ m.natAbs ≤ 16 ∧ r = .rt (.list (rD (smul m (wL (facs fs cs)))))
def F__law_refused (ds : List PyData) (r : Res) : Prop := ∃ (d : PyData) (xs : List Int), ds = [d] ∧ SeqD d (rD xs) ∧ xs.length ≤ 1000 ∧ (trimL xs).length < 2 ∧ r = .rt (.bool true)
def F_law (ds : List PyData) (r : Res) : Prop := ∃ ns : List Int, ns.length ≤ 63 ∧ ds = [.list (ns.map .int)] ∧ r = .rt (.bool true)
abbrev sp__law_part (K : PySem.W.Frag) : Sp := spD K 2 F__law_part
abbrev sp__law_by (K : PySem.W.Frag) : Sp := spD K 2 F__law_by
abbrev sp__law_factor (K : PySem.W.Frag) : Sp := spD K 1 F__law_factor
abbrev sp__law_factors (K : PySem.W.Frag) : Sp := spD K 1 F__law_factors
abbrev sp__law_made (K : PySem.W.Frag) : Sp := spD K 3 F__law_made
abbrev sp__law_refused (K : PySem.W.Frag) : Sp := spD K 1 F__law_refused
abbrev sp_law (K : PySem.W.Frag) : Sp := spD K 1 F_law
def t__law_part (K : PySem.W.Frag) : TS := (tSeq (tAsg (tCall (sp__law_divisor K) [] E0 (tCons (tVar 0) (tCons (tVar 1) tNil))) (gName 2))
  (tSeq (tIfS (tTest (tOp (rI0 fun i j => .bl (decide (i < j))) (tVar 1) (tC (.int 0)))) (tAsg (tOp (rI0 fun i j => .int (i - j)) (tC (.int 0)) (tVar 2)) (gName 2)) tNext)
  (tRet (tTup (tCons (tOp (rI (fun _ j => j ≠ 0) fun i j => .int (i.fdiv j)) (tVar 0) (tVar 2)) (tCons (tOp (rI (fun _ j => j ≠ 0) fun i j => .int (i.fdiv j)) (tVar 1) (tVar 2)) tNil))))))
def t__law_by (K : PySem.W.Frag) : TS := (tSeq (tAsg (tLc (iRng1 (tCons (tOp (rI0 fun i j => .int (i - j)) (tOp (rI0 fun i j => .int (i + j)) (tLen K (tVar 0)) (tLen K (tVar 1))) (tC (.int 1))) tNil)) (gName 3) tYes (tC (.int 0)) [3]) (gName 2))
  (tSeq (tFor (iRng1 (tCons (tLen K (tVar 0)) tNil)) (gName 3) (tFor (iRng1 (tCons (tLen K (tVar 1)) tNil)) (gName 4) (tAsg (tOp (rI0 fun i j => .int (i + j)) (tOp (rIx K) (tVar 2) (tOp (rI0 fun i j => .int (i + j)) (tVar 3) (tVar 4))) (tOp (rI CMulX fun i j => .int (i * j)) (tOp (rIx K) (tVar 0) (tVar 3)) (tOp (rIx K) (tVar 1) (tVar 4)))) (gSub (tVar 2) (tOp (rI0 fun i j => .int (i + j)) (tVar 3) (tVar 4)) rSetL))))
  (tRet (tVar 2))))
def t__law_factor (K : PySem.W.Frag) : TS := (tSeq (tAsg (tOp (rI (fun _ j => j ≠ 0) fun i j => .int (i.fmod j)) (tVar 0) (tC (.int 6))) (gName 1))
  (tSeq (tAsg (tOp (rI (fun _ j => j ≠ 0) fun i j => .int (i.fdiv j)) (tVar 0) (tC (.int 6))) (gName 2))
  (tSeq (tIfS (tTest (tOp (rEqD K) (tVar 1) (tC (.int 2)))) (tRet (tLst (tCons (tOp (rI0 fun i j => .int (i - j)) (tC (.int 0)) (tOp (rIx K) (tLst (tCons (tC (.int 2)) (tCons (tC (.int 3)) (tCons (tC (.int 5)) (tCons (tC (.int 6)) (tCons (tC (.int 7)) tNil)))))) (tOp (rI (fun _ j => j ≠ 0) fun i j => .int (i.fmod j)) (tVar 2) (tC (.int 5))))) (tCons (tC (.int 0)) (tCons (tC (.int 1)) tNil))))) tNext)
  (tSeq (tIfS (tTest (tOp (rEqD K) (tVar 1) (tC (.int 3)))) (tSeq (tAsg (tOp (rI0 fun i j => .int (i + j)) (tC (.int 1)) (tOp (rI (fun _ j => j ≠ 0) fun i j => .int (i.fmod j)) (tVar 2) (tC (.int 3)))) (gName 3))
  (tSeq (tAsg (tOp (rI0 fun i j => .int (i - j)) (tOp (rI (fun _ j => j ≠ 0) fun i j => .int (i.fmod j)) (tOp (rI (fun _ j => j ≠ 0) fun i j => .int (i.fdiv j)) (tVar 2) (tC (.int 3))) (tC (.int 9))) (tC (.int 4))) (gName 4))
  (tSeq (tAsg (tOp (rI0 fun i j => .int (i + j)) (tOp (rI0 fun i j => .int (i + j)) (tOp (rI (fun _ j => j ≠ 0) fun i j => .int (i.fdiv j)) (tOp (rI CMulX fun i j => .int (i * j)) (tVar 4) (tVar 4)) (tOp (rI CMulX fun i j => .int (i * j)) (tC (.int 4)) (tVar 3))) (tC (.int 1))) (tOp (rI (fun _ j => j ≠ 0) fun i j => .int (i.fmod j)) (tOp (rI (fun _ j => j ≠ 0) fun i j => .int (i.fdiv j)) (tVar 2) (tC (.int 27))) (tC (.int 5)))) (gName 5))
  (tSeq (tAsg (tCall (sp__law_divisor K) [] E0 (tCons (tVar 5) (tCons (tCall (sp__law_divisor K) [] E0 (tCons (tVar 4) (tCons (tVar 3) tNil))) tNil))) (gName 6))
  (tRet (tLst (tCons (tOp (rI (fun _ j => j ≠ 0) fun i j => .int (i.fdiv j)) (tVar 5) (tVar 6)) (tCons (tOp (rI (fun _ j => j ≠ 0) fun i j => .int (i.fdiv j)) (tVar 4) (tVar 6)) (tCons (tOp (rI (fun _ j => j ≠ 0) fun i j => .int (i.fdiv j)) (tVar 3) (tVar 6)) tNil))))))))) tNext)
  (tSeq (tIfS (tTest (tOp (rEqD K) (tVar 1) (tC (.int 4)))) (tRet (tLst (tCons (tOp (rIx K) (tLst (tCons (tUn (rU fun i => .int (-i)) (tC (.int 2))) (tCons (tUn (rU fun i => .int (-i)) (tC (.int 3))) (tCons (tUn (rU fun i => .int (-i)) (tC (.int 5))) (tCons (tUn (rU fun i => .int (-i)) (tC (.int 7))) (tCons (tC (.int 2)) (tCons (tC (.int 3)) tNil))))))) (tOp (rI (fun _ j => j ≠ 0) fun i j => .int (i.fmod j)) (tVar 2) (tC (.int 6)))) (tCons (tC (.int 0)) (tCons (tC (.int 0)) (tCons (tC (.int 1)) tNil)))))) tNext)
  (tSeq (tAsg (tCall (sp__law_part K) [] E0 (tCons (tOp (rI0 fun i j => .int (i - j)) (tOp (rI (fun _ j => j ≠ 0) fun i j => .int (i.fmod j)) (tVar 2) (tC (.int 15))) (tC (.int 7))) (tCons (tOp (rI0 fun i j => .int (i + j)) (tC (.int 1)) (tOp (rI (fun _ j => j ≠ 0) fun i j => .int (i.fmod j)) (tOp (rI (fun _ j => j ≠ 0) fun i j => .int (i.fdiv j)) (tVar 2) (tC (.int 15))) (tC (.int 4)))) tNil))) (gName 7))
  (tSeq (tIfS (tTest (tOp (rEqD K) (tVar 1) (tC (.int 5)))) (tSeq (tAsg (tTup (tCons (tOp (rI0 fun i j => .int (i - j)) (tOp (rI (fun _ j => j ≠ 0) fun i j => .int (i.fmod j)) (tOp (rI (fun _ j => j ≠ 0) fun i j => .int (i.fdiv j)) (tVar 2) (tC (.int 2))) (tOp (rI CMulX fun i j => .int (i * j)) (tC (.int 2)) (tOp (rI CPow fun i j => .int (i ^ j.toNat)) (tC (.int 10)) (tC (.int 9))))) (tOp (rI CPow fun i j => .int (i ^ j.toNat)) (tC (.int 10)) (tC (.int 9)))) (tCons (tC (.int 1)) tNil))) (gName 7))
  (tIfS (tTest (tOp (rEqD K) (tOp (rI (fun _ j => j ≠ 0) fun i j => .int (i.fmod j)) (tVar 2) (tC (.int 2))) (tC (.int 1)))) (tAsg (tCall (sp__law_part K) [] E0 (tCons (tOp (rI0 fun i j => .int (i + j)) (tC (.int 333333)) (tOp (rI (fun _ j => j ≠ 0) fun i j => .int (i.fmod j)) (tOp (rI (fun _ j => j ≠ 0) fun i j => .int (i.fdiv j)) (tVar 2) (tC (.int 2))) (tC (.int 7)))) (tCons (tOp (rI CPow fun i j => .int (i ^ j.toNat)) (tC (.int 10)) (tC (.int 6))) tNil))) (gName 7)) tNext)) tNext)
  (tRet (tLst (tCons (tOp (rI0 fun i j => .int (i - j)) (tC (.int 0)) (tOp (rIx K) (tVar 7) (tC (.int 0)))) (tCons (tOp (rIx K) (tVar 7) (tC (.int 1))) tNil)))))))))))
def t__law_factors (K : PySem.W.Frag) : TS := (tSeq (tAsg (tLst tNil) (gName 1))
  (tSeq (tFor (iSeq K (tVar 0)) (gName 2) (tIfS (tTest (tOp (rNotInD K) (tCall (sp__law_factor K) [] E0 (tCons (tVar 2) tNil)) (tVar 1))) (tDrop (tBM K "list" rAppend (tVar 1) (tCons (tCall (sp__law_factor K) [] E0 (tCons (tVar 2) tNil)) tNil))) tNext))
  (tRet (tVar 1))))
def t__law_made (K : PySem.W.Frag) : TS := (tSeq (tAsg (tLst (tCons (tVar 2) tNil)) (gName 3))
  (tSeq (tFor (iRng1 (tCons (tLen K (tVar 0)) tNil)) (gName 4) (tSeq (tAsg (tC (.int 1)) (gName 5))
  (tSeq (tIfS (tTest (tOp (rI0 fun i j => .bl (decide (i < j))) (tVar 4) (tLen K (tVar 1)))) (tAsg (tOp (rIx K) (tLst (tCons (tC (.int 1)) (tCons (tC (.int 2)) (tCons (tC (.int 1)) (tCons (tC (.int 3)) (tCons (tC (.int 1)) tNil)))))) (tOp (rI (fun _ j => j ≠ 0) fun i j => .int (i.fmod j)) (tOp (rIx K) (tVar 1) (tVar 4)) (tC (.int 5)))) (gName 5)) tNext)
  (tFor (iRng1 (tCons (tVar 5) tNil)) (gName 6) (tAsg (tCall (sp__law_by K) [] E0 (tCons (tVar 3) (tCons (tOp (rIx K) (tVar 0) (tVar 4)) tNil))) (gName 3))))))
  (tRet (tVar 3))))
def t__law_refused (K : PySem.W.Frag) (C_PegError : Addr) (C_NoPart : Addr) (C_NoRow : Addr) (C_NoStretch : Addr) (C_NotAlone : Addr) (C_NoQuotient : Addr) : TS := (tSeq (tRef K (sp_plain K C_NoRow) 1 C_PegError (tCons (tVar 0) tNil) (tCls [.ref C_NoPart, .ref C_NoQuotient, .ref C_NoStretch, .ref C_NotAlone]) (.ref C_NoRow) (.ty "ValueError"))
  (tRet (tC (.bl false))))
def t_law (K : PySem.W.Frag) (C_NoRow : Addr) : TS := (tSeq (tAsg (tCall (sp__law_factors K) [] E0 (tCons (tSl (rSlS K) (tVar 0) (tPart (tC (.int 3))) (tPart (tOp (rI0 fun i j => .int (i + j)) (tC (.int 3)) (tOp (rI (fun _ j => j ≠ 0) fun i j => .int (i.fmod j)) (tCall (sp__law_cell_at K) [] E0 (tCons (tVar 0) (tCons (tC (.int 0)) tNil))) (tC (.int 4)))))) tNil)) (gName 1))
  (tSeq (tAsg (tOp (rI0 fun i j => .int (i - j)) (tOp (rI (fun _ j => j ≠ 0) fun i j => .int (i.fmod j)) (tCall (sp__law_cell_at K) [] E0 (tCons (tVar 0) (tCons (tC (.int 1)) tNil))) (tC (.int 9))) (tC (.int 4))) (gName 2))
  (tSeq (tAsg (tOp (rCatS K) (tCall (sp__law_made K) [] E0 (tCons (tVar 1) (tCons (tSl (rSlS K) (tVar 0) (tPart (tC (.int 7))) (tPart (tC (.int 10)))) (tCons (tVar 2) tNil)))) (tLc (iRng1 (tCons (tOp (rI (fun _ j => j ≠ 0) fun i j => .int (i.fmod j)) (tCall (sp__law_cell_at K) [] E0 (tCons (tVar 0) (tCons (tC (.int 2)) tNil))) (tC (.int 3))) tNil)) (gName 7) tYes (tC (.int 0)) [7])) (gName 3))
  (tSeq (tIfS (tOr (tTest (tOp (rEqD K) (tVar 2) (tC (.int 0)))) (tTest (tOp (rEqD K) (tVar 1) (tLst tNil)))) (tRet (tAndV (tCall (sp__law_refused K) [] E0 (tCons (tCB (rListS K) (tCons (tVar 3) tNil)) tNil)) (tAndV (tCall (sp__law_refused K) [] E0 (tCons (tCB (rTupS K) (tCons (tVar 3) tNil)) tNil)) (tCall (sp__law_refused K) [] E0 (tCons (tLst tNil) tNil))))) tNext)
  (tSeq (tAsg (tCB (rListS K) (tCons (tVar 3) tNil)) (gName 4))
  (tSeq (tAsg (tCall (sp_plain K C_NoRow) [] E0 (tCons (tVar 4) tNil)) (gName 5))
  (tSeq (tIfS (tOr (tNot (tTruth K (tCB (rIsi K) (tCons (tVar 5) (tCons (tC (.ty "list")) tNil))))) (tOr (tTest (tOp (rNeD K) (tVar 4) (tVar 3))) (tTest (tOp (rI0 fun i j => .bl (decide (j < i))) (tLen K (tLc (iSeq K (tVar 5)) (gName 8) (tNot (tTruth K (tCall (sp__law_whole K) [] E0 (tCons (tVar 8) tNil)))) (tVar 8) [8])) (tC (.int 0)))))) (tRet (tC (.bl false))) tNext)
  (tSeq (tAsg (tCall (sp__law_made K) [] E0 (tCons (tVar 1) (tCons (tLst tNil) (tCons (tC (.int 1)) tNil)))) (gName 6))
  (tSeq (tIfS (tTest (tOp (rNeD K) (tVar 5) (tVar 6))) (tRet (tC (.bl false))) tNext)
  (tSeq (tIfS (tOr (tTest (tOp (rNeD K) (tCall (sp_plain K C_NoRow) [] E0 (tCons (tLst (tCons (tC (.int 0)) (tCons (tC (.int 0)) (tCons (tC (.int 1)) tNil)))) tNil)) (tLst (tCons (tC (.int 0)) (tCons (tC (.int 1)) tNil))))) (tTest (tOp (rNeD K) (tVar 5) (tVar 6)))) (tRet (tC (.bl false))) tNext)
  (tSeq (tDrop (tBM K "list" rAppend (tVar 5) (tCons (tC (.int 7)) tNil)))
  (tRet (tAndV (tOp (rEqD K) (tCall (sp_plain K C_NoRow) [] E0 (tCons (tVar 4) tNil)) (tVar 6)) (tAndV (tOp (rEqD K) (tCall (sp_plain K C_NoRow) [] E0 (tCons (tCB (rTupS K) (tCons (tVar 3) tNil)) tNil)) (tVar 6)) (tOp (rEqD K) (tVar 4) (tVar 3))))))))))))))))
abbrev N__law_part : List Str := ["_law_top", "_law_bottom", "_law_by_here"]
abbrev N__law_by : List Str := ["_law_row", "_law_other", "_law_found", "_law_k", "_law_j"]
abbrev N__law_factor : List Str := ["_law_cell", "_law_way", "_law_over", "_law_lead", "_law_side", "_law_first", "_law_by_here", "_law_at"]
abbrev N__law_factors : List Str := ["_law_cells", "_law_found", "_law_cell"]
abbrev N__law_made : List Str := ["_law_factors_here", "_law_cells", "_law_many", "_law_row", "_law_k", "_law_often", "_law_j"]
abbrev N__law_refused : List Str := ["_law_row", "e"]
abbrev N_law : List Str := ["_law_script", "_law_factors_here", "_law_many", "_law_row", "_law_handed", "_law_found", "_law_due", "_law_k", "_law_one"]
structure Txt (K : PySem.W.Frag) (mg : Str → Option Value) (C_PegError C_NoPart C_NoRow C_NoStretch C_NotAlone C_NoQuotient : Addr) : Prop where
  b_len : mg "len" = none
  b_list : mg "list" = none
  b_gcd : mg "gcd" = some (.builtin "math.gcd")
  b_range : mg "range" = none
  b_zip : mg "zip" = none
  b_int : mg "int" = none
  b_isinstance : mg "isinstance" = none
  b_bool : mg "bool" = none
  b_abs : mg "abs" = none
  b_ValueError : mg "ValueError" = none
  b_tuple : mg "tuple" = none
  m_PegError : mg "PegError" = some (.ref C_PegError)
  m_NoPart : mg "NoPart" = some (.ref C_NoPart)
  m_NoRow : mg "NoRow" = some (.ref C_NoRow)
  m_NoStretch : mg "NoStretch" = some (.ref C_NoStretch)
  m_NotAlone : mg "NotAlone" = some (.ref C_NotAlone)
  m_NoQuotient : mg "NoQuotient" = some (.ref C_NoQuotient)
  x_NoRow : PySem.W.excIn K C_NoRow [.type "ValueError", .type "Exception", .type "BaseException", .type "object"] "ValueError.__new__" = true
  k_NoRow : PySem.W.keepIn K (.ref C_NoRow) = true
  s_NoRow : PySem.W.subIn K (.ref C_NoRow) (.type "BaseException") = some true
  t_NoRow : PySem.W.typeIn K (.ref C_NoRow) = some (.type "type")
  e_NoRow : ExcC K C_NoRow
  em_NoRow : PySem.W.exmOne K (.ref C_NoRow) (.ref C_PegError) = some true
  i_NoPart : PySem.W.kitOne K (.ref C_NoRow) (.ref C_NoPart) = some false
  i_NoQuotient : PySem.W.kitOne K (.ref C_NoRow) (.ref C_NoQuotient) = some false
  i_NoStretch : PySem.W.kitOne K (.ref C_NoRow) (.ref C_NoStretch) = some false
  i_NotAlone : PySem.W.kitOne K (.ref C_NoRow) (.ref C_NotAlone) = some false
  i_NoRow : PySem.W.kitOne K (.ref C_NoRow) (.ref C_NoRow) = some true
  i_ValueError : PySem.W.kitOne K (.ref C_NoRow) (.type "ValueError") = some true
section
variable {K : PySem.W.Frag} {mg : Str → Option Value} {C C_PegError C_NoPart C_NoRow C_NoStretch C_NotAlone C_NoQuotient : Addr}
theorem pure__law_part (ds : List PyData) (r : Res) (h : F__law_part ds r) (B0 B : Hp) : SD K B0 B (t__law_part K) (startR N__law_part ds) (fin r) := by
  obtain ⟨a, b, rfl, hb, rfl⟩ := h
  have s0 := partS_ne (a := a) (b := b) hb
  unfold t__law_part
  apply sd_seq; apply sd_set; (case h => walk_at "ev" <;> (first | (exact ⟨a, b, rfl, rfl⟩) | walk_at "rt1"))
  apply sd_seq; apply sd_if; (case h => walk_at "ev" ); all_goals intro hb
  · have hc : b < 0 := of_decide_eq_true hb
    have es : partS a b = 0 - (Int.gcd a b : Int) := by unfold partS; rw [if_pos hc]; omega
    apply sd_set; (case h => walk_at "ev" )
    rw [← es]
    apply sd_ret; (case h => walk_at "ev" <;> (first | (exact s0) | walk_at "rt1"))
    rfl
  · have hc : ¬ b < 0 := of_decide_eq_false hb
    have es : partS a b = (Int.gcd a b : Int) := by unfold partS; rw [if_neg hc]
    rw [← es]
    refine sd_next ?_
    apply sd_ret; (case h => walk_at "ev" <;> (first | (exact s0) | walk_at "rt1"))
    rfl
theorem mul_snoc (a : Int) (q : List Int) : ∀ (p : List Int) (t : Nat), (mulL (p ++ [a]) q).getD t 0 = (mulL p q).getD t 0 + (if p.length ≤ t then a * q.getD (t - p.length) 0 else 0)
  | [], t => by
    show (addL (smul a q) [0]).getD t 0 = ([] : List Int).getD t 0 + (if 0 ≤ t then a * q.getD (t - 0) 0 else 0)
    rw [getD_addL, getD_smul, if_pos (Nat.zero_le _), Nat.sub_zero]
    cases t <;> simp
  | b :: p, 0 => by
    show (addL (smul b q) (0 :: mulL (p ++ [a]) q)).getD 0 0 = (addL (smul b q) (0 :: mulL p q)).getD 0 0 + (if p.length + 1 ≤ 0 then _ else 0)
    rw [getD_addL, getD_addL, if_neg (by omega)]
    simp
  | b :: p, t + 1 => by
    show (addL (smul b q) (0 :: mulL (p ++ [a]) q)).getD (t + 1) 0 = (addL (smul b q) (0 :: mulL p q)).getD (t + 1) 0 + (if p.length + 1 ≤ t + 1 then a * q.getD (t + 1 - (p.length + 1)) 0 else 0)
    rw [getD_addL, getD_addL, List.getD_cons_succ, List.getD_cons_succ, mul_snoc a q p t]
    have e : t + 1 - (p.length + 1) = t - p.length := by omega
    rw [e]
    by_cases h : p.length ≤ t
    · rw [if_pos h, if_pos (by omega)]; omega
    · rw [if_neg h, if_neg (by omega)]; omega
theorem getD_set {xs : List Int} {n t : Nat} {v : Int} (h : n < xs.length) : (xs.set n v).getD t 0 = if t = n then v else xs.getD t 0 := by
  rw [List.getD_eq_getElem?_getD, List.getD_eq_getElem?_getD]
  by_cases e : n = t
  · subst e
    rw [List.getElem?_set_self h, if_pos rfl]; rfl
  · rw [List.getElem?_set_ne e, if_neg (fun z => e z.symm)]
theorem take_getD {p : List Int} {i : Nat} (h : i < p.length) : p.take (i + 1) = p.take i ++ [p.getD i 0] := by
  have : p[i]? = some (p.getD i 0) := by rw [List.getD_eq_getElem?_getD, List.getElem?_eq_getElem h]; rfl
  exact take_snoc this
theorem pure__law_by (ds : List PyData) (r : Res) (h : F__law_by ds r) (B0 B : Hp) : SD K B0 B (t__law_by K) (startR N__law_by ds) (fin r) := by
  obtain ⟨p, q, rfl, hp, hq, lp, lq, sp, sq, rfl⟩ := h
  have p0 := List.length_pos_iff.mpr hp
  have q0 := List.length_pos_iff.mpr hq
  have lm := mulL_len hp hq
  unfold t__law_by
  have lc : EF K (tLc (iRng1 (tCons (tOp (rI0 fun i j => .int (i - j)) (tOp (rI0 fun i j => .int (i + j)) (tLen K (tVar 0)) (tLen K (tVar 1))) (tC (.int 1))) tNil)) (gName 3) tYes (tC (.int 0)) [3]) (startR N__law_by [.list (rD p), .list (rD q)]) (rD (List.replicate (p.length + q.length - 1) 0)) := by
    refine (ef_lc (fun _ => .int 0) (id_rng1 (n := (p.length : Int) + q.length - 1) (ad_cons (ed_sub (ed_add (ed_lenR (ed_var rfl) (SeqD.l _)) (ed_lenR (ed_var rfl) (SeqD.l _))) ed_int) ad_nil) (by omega) (by omega)) (by rw [ints_len']; omega) fun i d hi => ⟨_, gc_name, ed_int⟩).cast ?_
    rw [ints_len', show ((p.length : Int) + q.length - 1).toNat = p.length + q.length - 1 by omega]
    unfold rD
    rw [List.map_replicate, List.eq_replicate_iff]
    refine ⟨by rw [List.length_map, List.length_range], fun b hb => ?_⟩
    obtain ⟨_, _, rfl⟩ := List.mem_map.mp hb
    rfl
  refine sd_seq (sd_setF lc ?_)
  refine sd_seq (sd_for (id_rng1 (n := (p.length : Int)) (ad_cons (ed_lenR (ed_var rfl) (SeqD.l _)) ad_nil) (by omega) (by omega)) (fun i ρ => ∃ (fd : List Int) (z3 z4 : Option SV), ρ = [some (.d (.list (rD p))), some (.d (.list (rD q))), some (.own (rD fd)), z3, z4] ∧ fd.length = p.length + q.length - 1 ∧ ∀ t, fd.getD t 0 = (mulL (p.take i) q).getD t 0) ⟨List.replicate (p.length + q.length - 1) 0, none, none, rfl, List.length_replicate, fun t => ?_⟩ ?_ ?_)
  · show (List.replicate _ (0 : Int)).getD t 0 = ([] : List Int).getD t 0
    rw [List.getD_eq_getElem?_getD, List.getElem?_replicate]
    split <;> simp
  · rintro i d ρ' hi ⟨fd, z3, z4, rfl, hl, hv⟩
    obtain ⟨hi, rfl⟩ := ints_get' hi
    have hi : i < p.length := by omega
    refine ⟨_, gd_name, ?_⟩
    refine sd_for (id_rng1 (n := (q.length : Int)) (ad_cons (ed_lenR (ed_var rfl) (SeqD.l _)) ad_nil) (by omega) (by omega)) (fun j ρ => ∃ (fd : List Int) (z4 : Option SV), ρ = [some (.d (.list (rD p))), some (.d (.list (rD q))), some (.own (rD fd)), some (.d (.int (0 + (i : Nat)))), z4] ∧ fd.length = p.length + q.length - 1 ∧ ∀ t, fd.getD t 0 = (mulL (p.take i) q).getD t 0 + (if i ≤ t ∧ t < i + j then p.getD i 0 * q.getD (t - i) 0 else 0)) ⟨fd, z4, rfl, hl, fun t => by rw [hv t, if_neg (by omega), Int.add_zero]⟩ ?_ ?_
    · rintro j d ρ' hj ⟨fd, z4, rfl, hl, hv⟩
      obtain ⟨hj, rfl⟩ := ints_get' hj
      have hj : j < q.length := by omega
      refine ⟨_, gd_name, ?_⟩
      have e1 : atI (rD fd) (0 + (i : Nat) + (0 + (j : Nat))) = some (.int (fd.getD (i + j) 0)) := by
        have := rD_at (xs := fd) (k := 0 + (i : Nat) + (0 + (j : Nat))) (by omega) (by omega)
        rwa [show (0 + (i : Nat) + (0 + (j : Nat)) : Int).toNat = i + j by omega] at this
      have e2 : atI (rD p) (0 + (i : Nat)) = some (.int (p.getD i 0)) := by
        have := rD_at (xs := p) (k := 0 + (i : Nat)) (by omega) (by omega)
        rwa [show (0 + (i : Nat) : Int).toNat = i by omega] at this
      have e3 : atI (rD q) (0 + (j : Nat)) = some (.int (q.getD j 0)) := by
        have := rD_at (xs := q) (k := 0 + (j : Nat)) (by omega) (by omega)
        rwa [show (0 + (j : Nat) : Int).toNat = j by omega] at this
      refine sd_setI (i := 2) (ds := rD fd) (m := i + j) rfl (ed_add (ed_ixO (k := 2) rfl (ed_add (ed_var rfl) (ed_var rfl)) e1) (ed_mul (ed_ix (ed_var rfl) (SeqD.l _) (ed_var rfl) e2) (ed_ix (ed_var rfl) (SeqD.l _) (ed_var rfl) e3) ((sp.getD i).cm (sq.getD j) (by decide)))) (ed_add (ed_var rfl) (ed_var rfl)) ?_ ?_
      · unfold ixN
        rw [if_pos (by omega), rD_len, if_pos (by omega)]
        congr 1; omega
      · refine ⟨fd.set (i + j) (fd.getD (i + j) 0 + p.getD i 0 * q.getD j 0), some (.d (.int (0 + (j : Nat)))), ?_, by rw [List.length_set]; exact hl, fun t => ?_⟩
        · unfold rD; rw [List.map_set]; rfl
        · rw [getD_set (by omega)]
          by_cases e : t = i + j
          · subst e
            rw [if_pos rfl, hv, if_neg (by omega), if_pos (by omega), Int.add_zero, Nat.add_sub_cancel_left]
          · rw [if_neg e, hv]
            by_cases c : i ≤ t ∧ t < i + j
            · rw [if_pos c, if_pos (by omega)]
            · rw [if_neg c, if_neg (by omega)]
    · rintro ρ' ⟨fd, z4, rfl, hl, hv⟩
      refine ⟨fd, _, z4, rfl, hl, fun t => ?_⟩
      rw [hv t, ints_len', Int.toNat_natCast, take_getD hi, mul_snoc, List.length_take, Nat.min_eq_left (by omega)]
      by_cases c : i ≤ t
      · rw [if_pos c]
        by_cases c2 : t < i + q.length
        · rw [if_pos ⟨c, c2⟩]
        · rw [if_neg (by omega), List.getD_eq_getElem?_getD, List.getD_eq_getElem?_getD (l := q), List.getElem?_eq_none_iff.mpr (show q.length ≤ t - i by omega)]
          show _ = _ + _ * 0
          rw [Int.mul_zero]
      · rw [if_neg (by omega), if_neg c]
  · rintro ρ' ⟨fd, z3, z4, rfl, hl, hv⟩
    show SD K B0 B _ _ _
    refine sd_retO (i := 2) (ds := rD (mulL p q)) ?_ rfl
    have e : fd = mulL p q := by
      rw [ints_len', Int.toNat_natCast, List.take_length] at hv
      apply List.ext_getElem (by omega)
      intro t h1 h2
      have := hv t
      rwa [List.getD_eq_getElem?_getD, List.getD_eq_getElem?_getD, List.getElem?_eq_getElem h1, List.getElem?_eq_getElem h2] at this
    rw [e]; rfl
theorem pick {xs : List Int} {k : Int} {m : Int} (h : 0 ≤ k ∧ k < m) (hm : m = xs.length) : atI (rD xs) k = some (.int (xs.getD k.toNat 0)) := rD_at h.1 (by omega)
theorem pure__law_factor (ds : List PyData) (r : Res) (h : F__law_factor ds r) (B0 B : Hp) : SD K B0 B (t__law_factor K) (startR N__law_factor ds) (fin r) := by
  obtain ⟨c, rfl, rfl⟩ := h
  unfold t__law_factor
  apply sd_seq; apply sd_set; (case h => walk_at "ev" <;> (first | (decide) | walk_at "rt1"))
  apply sd_seq; apply sd_set; (case h => walk_at "ev" <;> (first | (decide) | walk_at "rt1"))
  show SD K B0 B _ [some (.d (.int c)), some (.d (.int (c.fmod 6))), some (.d (.int (c.fdiv 6))), none, none, none, none, none] _
  apply sd_seq; apply sd_if; (case h => walk_at "ev" ); all_goals intro hb
  · have e : c.fmod 6 = 2 := by simpa [eqv_int] using hb
    have a5 := pick (xs := [2, 3, 5, 6, 7]) (fmr (c.fdiv 6) (m := 5) (by decide)) rfl
    apply sd_retF; (case h => walk_at "ev" <;> (first | (first | exact a5 | decide) | walk_at "rt1"))
    show [PyData.int _, _, _] = rD (facL c)
    unfold facL
    rw [if_pos e]
    rfl
  · have e2 : ¬ c.fmod 6 = 2 := by simpa [eqv_int] using hb
    refine sd_next ?_
    apply sd_seq; apply sd_if; (case h => walk_at "ev" ); all_goals intro hb
    · have e : c.fmod 6 = 3 := by simpa [eqv_int] using hb
      have ef : facL c = quaL (leadV (c.fdiv 6)) (sideV (c.fdiv 6)) (firstV (c.fdiv 6)) := by unfold facL; rw [if_neg e2, if_pos e]
      rw [ef]
      generalize c.fdiv 6 = o at *
      have h1 := fmr o (m := 3) (by decide)
      have h2 := fmr (o.fdiv 3) (m := 9) (by decide)
      have hl : 0 < leadV o := by unfold leadV; omega
      have hl3 : leadV o ≤ 3 := by unfold leadV; omega
      have hs : -4 ≤ sideV o ∧ sideV o ≤ 4 := by unfold sideV; omega
      have ls : Lt2 3 (sideV o) := by unfold Lt2; omega
      have ll : Lt2 3 (leadV o) := by unfold Lt2; omega
      have c1 : CMulX (sideV o) (sideV o) := ls.cm ls (by decide)
      have c2 : CMulX 4 (leadV o) := (Lt2.of_lt (n := 3) (by decide)).cm ll (by decide)
      have n4 : 4 * leadV o ≠ 0 := by omega
      have g1 : Int.gcd (sideV o) (leadV o) ≠ 0 := by have := gcd_pos (a := sideV o) (b := leadV o) (by omega); omega
      have g0 : ((Int.gcd (firstV o) (Int.gcd (sideV o) (leadV o) : Nat) : Nat) : Int) ≠ 0 := by have := gcd_pos (a := firstV o) (b := ((Int.gcd (sideV o) (leadV o) : Nat) : Int)) (by omega); omega
      apply sd_seq; apply sd_set; (case h => walk_at "ev" <;> (first | (decide) | walk_at "rt1"))
      apply sd_seq; apply sd_set; (case h => walk_at "ev" <;> (first | (decide) | walk_at "rt1"))
      apply sd_seq; apply sd_set; (case h => walk_at "ev" <;> (first | (first | exact c1 | exact c2 | exact n4 | decide) | walk_at "rt1"))
      apply sd_seq; apply sd_set; (case h => walk_at "ev" <;> (first | (exact ⟨_, _, rfl, rfl⟩) | walk_at "rt1"))
      apply sd_retF; (case h => walk_at "ev" <;> (first | (exact g0) | walk_at "rt1"))
      rfl
    · have e3 : ¬ c.fmod 6 = 3 := by simpa [eqv_int] using hb
      refine sd_next ?_
      apply sd_seq; apply sd_if; (case h => walk_at "ev" ); all_goals intro hb
      · have e : c.fmod 6 = 4 := by simpa [eqv_int] using hb
        have a6 := pick (xs := [-2, -3, -5, -7, 2, 3]) (fmr (c.fdiv 6) (m := 6) (by decide)) rfl
        apply sd_retF; (case h => walk_at "ev" <;> (first | (first | exact a6 | decide) | walk_at "rt1"))
        show [PyData.int _, _, _, _] = rD (facL c)
        unfold facL
        rw [if_neg e2, if_neg e3, if_pos e]
        rfl
      · have e4 : ¬ c.fmod 6 = 4 := by simpa [eqv_int] using hb
        refine sd_next ?_
        have h2 := fmr ((c.fdiv 6).fdiv 15) (m := 4) (by decide)
        have nb : 1 + ((c.fdiv 6).fdiv 15).fmod 4 ≠ 0 := by omega
        apply sd_seq; apply sd_set; (case h => walk_at "ev" <;> (first | (first | exact ⟨_, _, rfl, nb, rfl⟩ | decide) | walk_at "rt1"))
        apply sd_seq; apply sd_if; (case h => walk_at "ev" ); all_goals intro hb
        · have e : c.fmod 6 = 5 := by simpa [eqv_int] using hb
          have cp : CPow 10 9 := ⟨by decide, by decide, by decide⟩
          have cp6 : CPow 10 6 := ⟨by decide, by decide, by decide⟩
          have c2 : CMulX 2 (10 ^ (9 : Int).toNat) := (Lt2.of_lt (n := 3) (by decide)).cm (Lt2.of_lt (n := 40) (by decide)) (by decide)
          apply sd_seq; apply sd_set; (case h => walk_at "ev" <;> (first | (first | exact cp | exact c2 | decide) | walk_at "rt1"))
          apply sd_if; (case h => walk_at "ev" <;> (first | (decide) | walk_at "rt1")); all_goals intro hb
          · have e5 : (c.fdiv 6).fmod 2 = 1 := by simpa [eqv_int] using hb
            apply sd_set; (case h => walk_at "ev" <;> (first | (first | exact ⟨_, _, rfl, by decide, rfl⟩ | exact cp6 | decide) | walk_at "rt1"))
            show SD _ _ _ _ _ _
            unfold pD
            apply sd_retF; (case h => walk_at "ev" )
            show [PyData.int _, _] = rD (facL c)
            unfold facL
            rw [if_neg e2, if_neg e3, if_neg e4, if_pos e, if_pos e5]
            rfl
          · have e5 : ¬ (c.fdiv 6).fmod 2 = 1 := by simpa [eqv_int] using hb
            refine sd_next ?_
            show SD _ _ _ _ _ _
            apply sd_retF; (case h => walk_at "ev" )
            show [PyData.int _, _] = rD (facL c)
            unfold facL
            rw [if_neg e2, if_neg e3, if_neg e4, if_pos e, if_neg e5]
            rfl
        · have e : ¬ c.fmod 6 = 5 := by simpa [eqv_int] using hb
          refine sd_next ?_
          show SD _ _ _ _ _ _
          unfold pD
          apply sd_retF; (case h => walk_at "ev" )
          show [PyData.int _, _] = rD (facL c)
          unfold facL
          rw [if_neg e2, if_neg e3, if_neg e4, if_neg e]
          rfl
theorem pure__law_factors (ds : List PyData) (r : Res) (h : F__law_factors ds r) (B0 B : Hp) : SD K B0 B (t__law_factors K) (startR N__law_factors ds) (fin r) := by
  obtain ⟨cs, rfl, hl, rfl⟩ := h
  unfold t__law_factors
  refine sd_seq (sd_setF (ef_lst ad_nil (by decide)) ?_)
  refine sd_seq (sd_for (id_seq (ed_var rfl) (SeqD.l _)) (fun i ρ => ∃ z, ρ = [some (.d (.list (rD cs))), some (.own (rDD (facs1 (cs.take i)))), z]) ⟨none, rfl⟩ ?_ ?_)
  · rintro i d ρ' hi ⟨z, rfl⟩
    obtain ⟨c, hc, rfl⟩ := rD_get hi
    refine ⟨_, gd_name, ?_⟩
    have call : ∀ (ρ : Rho), ρ[2]? = some (some (.d (.int c))) → EF K (tCall (sp__law_factor K) [] E0 (tCons (tVar 2) tNil)) ρ (rD (facL c)) := fun ρ h => ef_call (ad_cons (ed_var h) ad_nil) ⟨c, rfl, rfl⟩ rfl
    have fl : (facs1 (cs.take i)).length ≤ 1000 := by
      have := (facs1_ok _ (cs.take i) rfl).2
      rw [List.length_take] at this; omega
    refine sd_if (td_test (ed_notInO (k := 1) rfl (EF.ed (call _ rfl)) (shaped_l _) (shaped_rDD _))) (fun hb => ?_) (fun hb => ?_)
    · rw [any_rDD] at hb
      have hb : ¬ facL c ∈ facs1 (cs.take i) := by simpa using hb
      refine sd_app (ds := rDD (facs1 (cs.take i))) rfl (EF.ed (call _ rfl)) (by rw [rDD_len]; omega) ?_
      refine ⟨some (.d (.int c)), ?_⟩
      rw [take_snoc hc, facs1_snoc, if_neg hb]
      unfold rDD
      rw [List.map_append]; rfl
    · rw [any_rDD] at hb
      have hb : facL c ∈ facs1 (cs.take i) := by simpa using hb
      refine sd_next ⟨some (.d (.int c)), ?_⟩
      rw [take_snoc hc, facs1_snoc, if_pos hb]; rfl
  · rintro ρ' ⟨z, rfl⟩
    show SD K B0 B _ _ _
    refine sd_retO (i := 1) ?_ rfl
    rw [rD_len, List.take_length]; rfl
theorem Bd.mulR {f q : List Int} {n : Nat} (hf : Small f) (hf0 : f ≠ []) (hq : Bd (2 ^ n) q) (h0 : q ≠ []) : Bd (2 ^ (n + 32)) (mulL q f) := by
  have e : mulL q f = mulL f q := eq_of_ev (by have := mulL_len hf0 h0; have := mulL_len h0 hf0; omega) fun x => by rw [ev_mulL, ev_mulL, Int.mul_comm]
  rw [e]; exact bd_small hf hq
theorem pure__law_made (ds : List PyData) (r : Res) (h : F__law_made ds r) (B0 B : Hp) : SD K B0 B (t__law_made K) (startR N__law_made ds) (fin r) := by
  obtain ⟨fs, cs, m, rfl, hM, h3, hm, rfl⟩ := h
  have nice := facs_nice (cs := cs) hM
  have lW := len_wL nice (facs_small hM)
  have mW := facs_many fs cs
  unfold t__law_made
  refine sd_seq (sd_setF (ef_lst (ad_cons (ed_var rfl) ad_nil) (show 1 ≤ 100000 by decide)) ?_)
  refine sd_frz (i := 3) rfl ?_
  refine sd_seq (sd_for (id_rng1 (n := (fs.length : Int)) (ad_cons ((ed_len (ed_var rfl) (SeqD.l _)).cast (by rw [rDD_len])) ad_nil) (by omega) (by omega)) (fun i ρ => ∃ (xs : List Int) (t : Nat) (z4 z5 z6 : Option SV), ρ = [some (.d (.list (rDD fs))), some (.d (.list (rD cs))), some (.d (.int m)), some (.d (.list (rD xs))), z4, z5, z6] ∧ xs ≠ [] ∧ xs.length + (wL (facs (fs.drop i) (cs.drop i))).length = 1 + (wL (facs fs cs)).length ∧ (∀ x, ev xs x * ev (wL (facs (fs.drop i) (cs.drop i))) x = m * ev (wL (facs fs cs)) x) ∧ Bd (2 ^ (4 + 32 * t)) xs ∧ t + many (facs (fs.drop i) (cs.drop i)) ≤ 9) ⟨[m], 0, none, none, none, rfl, by simp, rfl, fun x => by simp [ev], fun a ha => by rw [List.mem_singleton.mp ha]; exact hm, by show 0 + many (facs fs cs) ≤ 9; omega⟩ ?_ ?_)
  · rintro i d ρ' hi ⟨xs, t, z4, z5, z6, rfl, nx, hlen, hev, hbd, ht⟩
    obtain ⟨hi, rfl⟩ := ints_get' hi
    have hi : i < fs.length := by omega
    refine ⟨_, gd_name, ?_⟩
    have hf : fs[i]? = some fs[i] := List.getElem?_eq_getElem hi
    have kf : Kd fs[i] := hM.kd _ (List.getElem_mem hi)
    have ed : fs.drop i = fs[i] :: fs.drop (i + 1) := List.drop_eq_getElem_cons hi
    have ec : (cs.drop i).tail = cs.drop (i + 1) := List.tail_drop
    have eF : facs (fs.drop i) (cs.drop i) = (fs[i], oft (cs.drop i) - 1) :: facs (fs.drop (i + 1)) (cs.drop (i + 1)) := by
      rw [ed]
      show (fs[i], oft (cs.drop i) - 1) :: facs (fs.drop (i + 1)) (cs.drop i).tail = _
      rw [ec]
    have o13 := oft_le (cs.drop i)
    have ef : atI (rDD fs) (0 + (i : Nat)) = some (.list (rD fs[i])) := by
      refine atI_mk (k := i) ?_ (rDD_get hf)
      unfold ixN
      rw [if_pos (by omega), rDD_len, if_pos (by omega)]
      congr 1; omega
    rw [eF] at hlen hev ht
    have h1 : wL ((fs[i], oft (cs.drop i) - 1) :: facs (fs.drop (i + 1)) (cs.drop (i + 1))) = mulN (oft (cs.drop i)) fs[i] (wL (facs (fs.drop (i + 1)) (cs.drop (i + 1)))) := by
      show mulN (oft (cs.drop i) - 1 + 1) _ _ = _
      rw [Nat.sub_add_cancel o13.1]
    have h2 : many ((fs[i], oft (cs.drop i) - 1) :: facs (fs.drop (i + 1)) (cs.drop (i + 1))) = oft (cs.drop i) + many (facs (fs.drop (i + 1)) (cs.drop (i + 1))) := by
      show oft (cs.drop i) - 1 + 1 + many _ = _
      rw [Nat.sub_add_cancel o13.1]
    rw [h1] at hlen hev
    rw [h2] at ht
    have nq : wL (facs (fs.drop (i + 1)) (cs.drop (i + 1))) ≠ [] := by
      refine lastZ_ne (Nice.w (facs_nice ⟨fun f hf => hM.kd f (List.mem_of_mem_drop hf), hM.nd.sublist (List.drop_sublist _ _)⟩)).ne
    generalize wL (facs (fs.drop (i + 1)) (cs.drop (i + 1))) = Q at *
    generalize many (facs (fs.drop (i + 1)) (cs.drop (i + 1))) = M at *
    generalize hW : wL (facs fs cs) = W at *
    generalize hfi : fs[i] = f at *
    apply sd_seq; apply sd_set; (case h => walk_at "ev" )
    refine sd_seq (SD.imp (P := fun o => o = .nx [some (.d (.list (rDD fs))), some (.d (.list (rD cs))), some (.d (.int m)), some (.d (.list (rD xs))), some (.d (.int (0 + (i : Nat)))), some (.d (.int (oft (cs.drop i) : Int))), z6]) ?_ ?_)
    · refine sd_if (td_test (ed_lt (ed_var rfl) (ed_lenR (ed_var rfl) (SeqD.l _)))) (fun hb => ?_) (fun hb => ?_)
      · have hb : i < cs.length := by have := of_decide_eq_true hb; omega
        have ed2 : cs.drop i = cs[i] :: cs.drop (i + 1) := List.drop_eq_getElem_cons hb
        have e1 : atI (rD cs) (0 + (i : Nat)) = some (.int cs[i]) := by
          have := rD_at (xs := cs) (k := 0 + (i : Nat)) (by omega) (by omega)
          rw [show (0 + (i : Nat) : Int).toNat = i by omega] at this
          rw [this, List.getD_eq_getElem?_getD, List.getElem?_eq_getElem hb]; rfl
        have a5 := pick (xs := [1, 2, 1, 3, 1]) (fmr cs[i] (m := 5) (by decide)) rfl
        have eo : ((oft (cs.drop i) : Nat) : Int) = [1, 2, 1, 3, 1].getD (cs[i].fmod 5).toNat 0 := by
          rw [ed2]
          show (([1, 2, 1, 3, 1].getD (cs[i].fmod 5).toNat 1 : Nat) : Int) = _
          have := fmr cs[i] (m := 5) (by decide)
          generalize cs[i].fmod 5 = r at *
          have : r = 0 ∨ r = 1 ∨ r = 2 ∨ r = 3 ∨ r = 4 := by omega
          rcases this with rfl | rfl | rfl | rfl | rfl <;> rfl
        rw [eo]
        apply sd_set; (case h => walk_at "ev" <;> (first | (first | exact e1 | exact a5 | decide) | walk_at "rt1"))
        rfl
      · have hb : ¬ i < cs.length := by have := of_decide_eq_false hb; omega
        refine sd_next ?_
        have : cs.drop i = [] := List.drop_eq_nil_of_le (by omega)
        rw [this]; rfl
    · rintro o rfl
      show SD K B0 B _ _ _
      generalize oft (cs.drop i) = n at *
      refine sd_for (id_rng1 (n := (n : Int)) (ad_cons (ed_var rfl) ad_nil) (by omega) (by omega)) (fun j ρ => ∃ (xs : List Int) (t : Nat) (z6 : Option SV), ρ = [some (.d (.list (rDD fs))), some (.d (.list (rD cs))), some (.d (.int m)), some (.d (.list (rD xs))), some (.d (.int (0 + (i : Nat)))), some (.d (.int (n : Int))), z6] ∧ xs ≠ [] ∧ xs.length + (mulN (n - j) f Q).length = 1 + W.length ∧ (∀ x, ev xs x * ev (mulN (n - j) f Q) x = m * ev W x) ∧ Bd (2 ^ (4 + 32 * t)) xs ∧ t + (n - j + M) ≤ 9) ⟨xs, t, z6, rfl, nx, hlen, hev, hbd, ht⟩ ?_ ?_
      · rintro j d ρ' hj ⟨xs, t, z6, rfl, nx, hlen, hev, hbd, ht⟩
        obtain ⟨hj, rfl⟩ := ints_get' hj
        have hj : j < n := by omega
        refine ⟨_, gd_name, ?_⟩
        have ej : n - j = (n - (j + 1)) + 1 := by omega
        have nf : f ≠ [] := by have := kf.len; intro z; rw [z] at this; simp at this
        have n2 := (mulN_len kf.len nq (n - (j + 1)))
        rw [ej] at hlen hev
        have l1 := mulL_len nx nf
        have l2 := mulL_len nf n2.2
        have l3 : (mulN (n - (j + 1) + 1) f Q).length = (mulL f (mulN (n - (j + 1)) f Q)).length := rfl
        have p1 := List.length_pos_iff.mpr nx
        have p2 := List.length_pos_iff.mpr n2.2
        have p3 := List.length_pos_iff.mpr nf
        refine sd_set (d := .list (rD (mulL xs f))) (EF.ed (ef_call (ad_cons (ed_var rfl) (ad_cons (ed_ix (ed_var rfl) (SeqD.l _) (ed_var rfl) ef) ad_nil)) ⟨xs, f, rfl, nx, nf, by omega, by have := kf.small.1; omega, hbd.sz.mono (by omega), kf.small.2.sz.mono (by decide), rfl⟩ rfl)) ?_
        refine ⟨mulL xs f, t + 1, some (.d (.int (0 + (j : Nat)))), rfl, ?_, by omega, fun x => ?_, ?_, by omega⟩
        · intro z; rw [z] at l1; simp only [List.length_nil] at l1; omega
        · rw [← hev x, ev_mulL]
          show _ = ev xs x * ev (mulL f (mulN (n - (j + 1)) f Q)) x
          rw [ev_mulL]; grind
        · rw [show 4 + 32 * (t + 1) = 4 + 32 * t + 32 by omega]
          exact Bd.mulR kf.small nf hbd nx
      · rintro ρ' ⟨xs, t, z6, rfl, nx, hlen, hev, hbd, ht⟩
        rw [ints_len', Int.toNat_natCast, Nat.sub_self] at hlen hev ht
        exact ⟨xs, t, _, _, z6, rfl, nx, hlen, hev, hbd, by omega⟩
  · rintro ρ' ⟨xs, t, z4, z5, z6, rfl, nx, hlen, hev, hbd, ht⟩
    show SD K B0 B _ _ _
    refine sd_ret (ed_var rfl) ?_
    rw [ints_len', Int.toNat_natCast, List.drop_length] at hlen hev
    have e : xs = smul m (wL (facs fs cs)) := by
      refine eq_of_ev ?_ fun x => ?_
      · have l1 : (wL (facs [] (cs.drop fs.length))).length = 1 := rfl
        rw [l1] at hlen
        unfold Rt.smul
        rw [List.length_map]; omega
      · have := hev x
        rw [ev_smul, ← this]
        show ev xs x = ev xs x * (1 + x * 0)
        grind
    show PyData.list _ = PyData.list _
    rw [e]
theorem pure__law_refused (T : Txt K mg C_PegError C_NoPart C_NoRow C_NoStretch C_NotAlone C_NoQuotient) (ds : List PyData) (r : Res) (h : F__law_refused ds r) (B0 B : Hp) : SD K B0 B (t__law_refused K C_PegError C_NoPart C_NoRow C_NoStretch C_NotAlone C_NoQuotient) (startR N__law_refused ds) (fin r) := by
  obtain ⟨d, xs, rfl, hs, hl, ht, rfl⟩ := h
  unfold t__law_refused
  apply sd_seq
  refine sd_ref (ds := [d]) (ad_cons (ed_var rfl) ad_nil) ⟨d, xs, rfl, hs, hl, .inl ⟨ht, rfl⟩⟩ rfl (show 1 < 2 from by decide) T.em_NoRow T.e_NoRow (us := [.ref C_NoPart, .ref C_NoQuotient, .ref C_NoStretch, .ref C_NotAlone])
    (.cons (.own _) (.cons (.own _) (.cons (.own _) (.cons (.own _) .nil)))) (show 4 ≤ 1000 from by decide) ?_ (.own _) T.i_NoRow (.ty _) T.i_ValueError rfl
  exact kitAny_cons T.i_NoPart (fun _ => kitAny_cons T.i_NoQuotient (fun _ => kitAny_cons T.i_NoStretch (fun _ => kitAny_cons T.i_NotAlone (fun _ => rfl) (fun z => nomatch z)) (fun z => nomatch z)) (fun z => nomatch z)) (fun z => nomatch z)
theorem smul_one (p : List Int) : smul 1 p = p := by
  unfold Rt.smul
  have : (fun a : Int => 1 * a) = id := by funext a; exact Int.one_mul a
  rw [this, List.map_id]
theorem plain001 (C : Addr) : F_plain C [.list (rD [0, 0, 1])] (.rf (rD [0, 1])) := by
  have k : Kd [0, 1] := Kd.l 0 1 (by decide) (by decide) (by decide) (by decide)
  have n : Nice [([0, 1], 1)] := .cons k.good k.len k.self (fun g hg => nomatch hg) .nil
  refine ⟨_, [0, 0, 1], rfl, SeqD.l _, by decide, .inr ⟨[([0, 1], 1)], 1, n, by simp, fun f hf => ?_, by decide, by decide, by decide, by decide, ?_⟩⟩
  · rw [List.mem_singleton.mp hf]; exact k.small
  · rw [show pL [([0, 1], 1)] = [0, 1] by decide]
theorem pure_law (ds : List PyData) (r : Res) (h : F_law ds r) (B0 B : Hp) : SD K B0 B (t_law K C_NoRow) (startR N_law ds) (fin r) := by
  obtain ⟨ns, hl, rfl, rfl⟩ := h
  unfold t_law
  show SD K B0 B _ [some (.d (.list (rD ns))), none, none, none, none, none, none, none, none] _
  have cell : ∀ (k : Nat) (ρ : Rho), ρ[0]? = some (some (.d (.list (rD ns)))) → ED K (tCall (sp__law_cell_at K) [] E0 (tCons (tVar 0) (tCons (tC (.int (k : Nat))) tNil))) ρ (.int (ns.getD k 0)) := fun k ρ h => ed_call (ad_cons (ed_var h) (ad_cons ed_int ad_nil)) ⟨ns, k, rfl, by omega, rfl⟩ rfl
  have r0 := fmr (ns.getD 0 0) (m := 4) (by decide)
  have r1 := fmr (ns.getD 1 0) (m := 9) (by decide)
  have r2 := fmr (ns.getD 2 0) (m := 3) (by decide)
  obtain ⟨fm, fl⟩ := facs1_ok _ ((ns.drop (3 : Int).toNat).take ((3 + (ns.getD 0 0).fmod 4).toNat - (3 : Int).toNat)) rfl
  have sl : ((ns.drop (3 : Int).toNat).take ((3 + (ns.getD 0 0).fmod 4).toNat - (3 : Int).toNat)).length ≤ 3 := by
    rw [List.length_take]
    have : (3 + (ns.getD 0 0).fmod 4).toNat - (3 : Int).toNat ≤ 3 := by omega
    omega
  refine sd_seq (sd_set (EF.ed (ef_call (ad_cons (EF.ed ((ef_sl (ed_var rfl) (od_some ed_int) (od_some (ed_add ed_int (ed_mod (cell 0 _ rfl) ed_int (by decide))))).cast (cut_I ns (by decide) (by omega)))) ad_nil) ⟨_, rfl, by omega, rfl⟩ rfl)) ?_)
  generalize facs1 ((ns.drop (3 : Int).toNat).take ((3 + (ns.getD 0 0).fmod 4).toNat - (3 : Int).toNat)) = fs at *
  have fl3 : fs.length ≤ 3 := by omega
  refine sd_seq (sd_set (ed_sub (ed_mod (cell 1 _ rfl) ed_int (by decide)) ed_int) ?_)
  have hm : ((ns.getD 1 0).fmod 9 - 4).natAbs ≤ 16 := by omega
  generalize (ns.getD 1 0).fmod 9 - 4 = m at *
  show SD K B0 B _ [some (.d (.list (rD ns))), some (.d (.list (rDD fs))), some (.d (.int m)), none, none, none, none, none, none] _
  generalize hz : ((ns.getD 2 0).fmod 3).toNat = z at *
  have lc : EF K (tLc (iRng1 (tCons (tOp (rI (fun _ j => j ≠ 0) fun i j => .int (i.fmod j)) (tCall (sp__law_cell_at K) [] E0 (tCons (tVar 0) (tCons (tC (.int 2)) tNil))) (tC (.int 3))) tNil)) (gName 7) tYes (tC (.int 0)) [7]) [some (.d (.list (rD ns))), some (.d (.list (rDD fs))), some (.d (.int m)), none, none, none, none, none, none] (rD (List.replicate z 0)) := by
    refine (ef_lc (fun _ => .int 0) (id_rng1 (n := (ns.getD 2 0).fmod 3) (ad_cons (ed_mod (cell 2 _ rfl) ed_int (by decide)) ad_nil) (by omega) (by omega)) (by rw [ints_len']; omega) fun i d hi => ⟨_, gc_name, ed_int⟩).cast ?_
    rw [ints_len', hz]
    unfold rD
    rw [List.map_replicate, List.eq_replicate_iff]
    refine ⟨by rw [List.length_map, List.length_range], fun b hb => ?_⟩
    obtain ⟨_, _, rfl⟩ := List.mem_map.mp hb
    rfl
  have lcs : EF K (tSl (rSlS K) (tVar 0) (tPart (tC (.int 7))) (tPart (tC (.int 10)))) [some (.d (.list (rD ns))), some (.d (.list (rDD fs))), some (.d (.int m)), none, none, none, none, none, none] (rD ((ns.drop (7 : Int).toNat).take ((10 : Int).toNat - (7 : Int).toNat))) := (ef_sl (ed_var rfl) (od_some ed_int) (od_some ed_int)).cast (cut_I ns (by decide) (by decide))
  generalize (ns.drop (7 : Int).toNat).take ((10 : Int).toNat - (7 : Int).toNat) = cs at *
  have nice := facs_nice (cs := cs) fm
  have sm := facs_small (cs := cs) fm
  have lW := len_wL nice sm
  have mW := facs_many fs cs
  have lS : (smul m (wL (facs fs cs))).length = (wL (facs fs cs)).length := by unfold Rt.smul; rw [List.length_map]
  have lX : (smul m (wL (facs fs cs)) ++ List.replicate z 0).length ≤ 1000 := by rw [List.length_append, lS, List.length_replicate]; omega
  refine sd_seq (sd_set (d := .list (rD (smul m (wL (facs fs cs)) ++ List.replicate z 0))) ((EF.ed (ef_cat (ed_call (ad_cons (ed_var rfl) (ad_cons (EF.ed lcs) (ad_cons (ed_var rfl) ad_nil))) ⟨fs, cs, m, rfl, fm, fl3, hm, rfl⟩ rfl) (EF.ed lc) (by rw [rD_len, rD_len, lS, List.length_replicate]; omega))).cast (by unfold rD; rw [List.map_append])) ?_)
  have t0 : m = 0 ∨ fs = [] → (trimL (smul m (wL (facs fs cs)) ++ List.replicate z 0)).length < 2 := fun h => by
    by_cases hm0 : m = 0
    · rw [trim_none fun x => by rw [ev_zeros, ev_smul, hm0, Int.zero_mul]]; decide
    · have h := h.resolve_left hm0
      subst h
      rw [trim_zeros z (p := smul m (wL (facs [] cs))) (.inr (by rw [lastZ_smul]; show m * 1 ≠ 0; omega))]
      show 1 < 2; decide
  have t1 : m ≠ 0 → fs ≠ [] → trimL (smul m (wL (facs fs cs)) ++ List.replicate z 0) = smul m (wL (facs fs cs)) := fun h1 h2 =>
    trim_zeros z (.inr (by rw [lastZ_smul]; exact Int.mul_ne_zero h1 nice.w.ne))
  have fp : m ≠ 0 → fs ≠ [] → ∀ d, SeqD d (rD (smul m (wL (facs fs cs)) ++ List.replicate z 0)) → F_plain C_NoRow [d] (.rf (rD (pL (facs fs [])))) := fun h1 h2 d hd =>
    ⟨d, _, rfl, hd, lX, .inr ⟨facs fs cs, m, nice, facs_ne cs h2, sm, by omega, by rw [facs_len]; exact fl3, h1, t1 h1 h2, by rw [pL_facs fs cs []]⟩⟩
  show SD K B0 B _ [some (.d (.list (rD ns))), some (.d (.list (rDD fs))), some (.d (.int m)), some (.d (.list (rD (smul m (wL (facs fs cs)) ++ List.replicate z 0)))), none, none, none, none, none] _
  generalize smul m (wL (facs fs cs)) ++ List.replicate z 0 = X at *
  refine sd_seq (sd_if (td_or (td_test (ed_eqI (ed_var rfl) ed_int)) (fun _ => td_test (ed_eqD (ed_var rfl) (EF.ed (ef_lst ad_nil (by decide))) (shaped_rDD _) rfl))) (fun hb => ?_) (fun hb => ?_))
  · have hb : m = 0 ∨ fs = [] := by
      rw [eqv_rDD_nil] at hb
      simpa using hb
    have tX := t0 hb
    refine sd_ret (d := .bool true) (ed_andV (a := true) (b := true) (ed_call (ad_cons (EF.ed (ef_list (ed_var rfl) (SeqD.l _))) ad_nil) ⟨_, X, rfl, SeqD.l _, lX, tX, rfl⟩ rfl) fun _ => ed_andV (a := true) (b := true) (ed_call (ad_cons (ed_tuple (ed_var rfl) (SeqD.l _)) ad_nil) ⟨_, X, rfl, SeqD.t _, lX, tX, rfl⟩ rfl) fun _ => ed_call (ad_cons (EF.ed (ef_lst ad_nil (by decide))) ad_nil) ⟨_, [], rfl, SeqD.l _, by decide, by decide, rfl⟩ rfl) rfl
  · have hb : m ≠ 0 ∧ fs ≠ [] := by
      rw [eqv_rDD_nil] at hb
      simpa using hb
    have fp := fp hb.1 hb.2
    have n2 := facs_nice (cs := []) fm
    have lP := len_pL n2 (facs_small fm)
    rw [facs_len] at lP
    have due : smul 1 (wL (facs fs [])) = pL (facs fs []) := by rw [smul_one, wL_once]
    refine sd_next ?_
    generalize pL (facs fs []) = P at *
    refine sd_seq (sd_setF (ef_list (ed_var rfl) (SeqD.l _)) ?_)
    refine sd_frz (i := 4) rfl ?_
    refine sd_seq (sd_setF (ef_call (ad_cons (ed_var rfl) ad_nil) (fp _ (SeqD.l _)) rfl) ?_)
    have sX := shaped_l X
    have eX : PyData.eqv (.list (rD X)) (.list (rD X)) = true := by rw [eqv_l]; simp
    have sP := shaped_l P
    have eP : PyData.eqv (.list (rD P)) (.list (rD P)) = true := by rw [eqv_l]; simp
    show SD K B0 B _ [some (.d (.list (rD ns))), some (.d (.list (rDD fs))), some (.d (.int m)), some (.d (.list (rD X))), some (.d (.list (rD X))), some (.own (rD P)), none, none, none] _
    have lcw : ∀ ρ : Rho, ρ[5]? = some (some (.d (.list (rD P)))) → ρ.length = 9 → ED K (tLen K (tLc (iSeq K (tVar 5)) (gName 8) (tNot (tTruth K (tCall (sp__law_whole K) [] E0 (tCons (tVar 8) tNil)))) (tVar 8) [8])) ρ (.int 0) := fun ρ h5 h9 => by
      refine (ed_len (EF.ed (ef_lcG (b := fun _ => false) (fun _ => .int 0) (id_seq (ed_var h5) (SeqD.l _)) (by rw [rD_len]; omega) fun i d hi => ?_)) (SeqD.l _)).cast ?_
      · obtain ⟨a, ha, rfl⟩ := rD_get hi
        have e8 : ((wipeR ρ [8]).set 8 (some (.d (.int a))))[8]? = some (some (.d (.int a))) := by
          rw [List.getElem?_set_self]
          show 8 < (ρ.set 8 none).length
          rw [List.length_set, h9]; decide
        exact ⟨_, gc_name, td_not (td_truth (ed_call (ad_cons (ed_var e8) ad_nil) (show F__law_whole [.int a] (.rt (.bool true)) from ⟨a, rfl, rfl⟩) rfl) (Truth.bool _)), fun z => nomatch z⟩
      · simp
    refine sd_seq (sd_if (b := false) (td_tmp 5 rfl ((td_or (td_not (td_truth (ed_isi (ed_var rfl) rfl) (Truth.bool _))) fun _ => td_or (td_test (ed_neD (ed_var rfl) (ed_var rfl) sX sX)) fun _ => td_test (ed_gt (lcw _ rfl rfl) ed_int)).cast (by rw [eX]; rfl))) (fun hb => nomatch hb) (fun _ => ?_))
    refine sd_next ?_
    refine sd_seq (sd_set (d := .list (rD P)) ((ed_call (ad_cons (ed_var rfl) (ad_cons (EF.ed (ef_lst ad_nil (by decide))) (ad_cons ed_int ad_nil))) ⟨fs, [], 1, rfl, fm, fl3, by decide, rfl⟩ rfl).cast (by rw [due])) ?_)
    refine sd_seq (sd_if (b := false) (td_tmp 5 rfl ((td_test (ed_neD (ed_var rfl) (ed_var rfl) sP sP)).cast (by rw [eP]; rfl))) (fun hb => nomatch hb) (fun _ => ?_))
    refine sd_next ?_
    refine sd_seq (sd_if (b := false) (td_tmp 5 rfl ((td_or (td_test (ed_neD (EF.ed (ef_call (ad_cons (EF.ed (ef_lst (ad_cons ed_int (ad_cons ed_int (ad_cons ed_int ad_nil))) (by decide))) ad_nil) (plain001 C_NoRow) rfl)) (EF.ed (ef_lst (ad_cons ed_int (ad_cons ed_int ad_nil)) (by decide))) rfl rfl)) fun _ => td_test (ed_neD (ed_var rfl) (ed_var rfl) sP sP)).cast (by rw [eP]; rfl))) (fun hb => nomatch hb) (fun _ => ?_))
    refine sd_next ?_
    refine sd_seq (sd_app (ds := rD P) rfl ed_int (by rw [rD_len]; omega) ?_)
    refine sd_ret (d := .bool true) ((ed_andV (ed_eqD (EF.ed (ef_call (ad_cons (ed_var rfl) ad_nil) (fp _ (SeqD.l _)) rfl)) (ed_var rfl) sP sP) fun _ => ed_andV (ed_eqD (EF.ed (ef_call (ad_cons (ed_tuple (ed_var rfl) (SeqD.l _)) ad_nil) (fp _ (SeqD.t _)) rfl)) (ed_var rfl) sP sP) fun _ => ed_eqD (ed_var rfl) (ed_var rfl) sX sX).cast (by rw [eP, eX]; rfl)) rfl
end
end K04

namespace K04
open PySem PySem.Spec PyProof.Rows L2 Evl Rt
def top (i : Nat) : Stmt := PySem.Challenge.pw_rootpeg_k04_the_plain_row.main.body.getD i (.Pass ⟨0, 0, 0, 0⟩)
abbrev s_plain : Stmt := top 9
theorem sc_plain : FnScope N_plain ["row"] (defScope s_plain) := ⟨rfl, rfl, rfl, by decide +kernel, rfl, by decide +kernel, by decide +kernel⟩
abbrev s_trimmed : Stmt := top 10
theorem sc_trimmed : FnScope N_trimmed ["row"] (defScope s_trimmed) := ⟨rfl, rfl, rfl, by decide +kernel, rfl, by decide +kernel, by decide +kernel⟩
abbrev s_bare : Stmt := top 11
theorem sc_bare : FnScope N_bare ["row"] (defScope s_bare) := ⟨rfl, rfl, rfl, by decide +kernel, rfl, by decide +kernel, by decide +kernel⟩
abbrev s_slope : Stmt := top 12
theorem sc_slope : FnScope N_slope ["row"] (defScope s_slope) := ⟨rfl, rfl, rfl, by decide +kernel, rfl, by decide +kernel, by decide +kernel⟩
abbrev s_common_row : Stmt := top 13
theorem sc_common_row : FnScope N_common_row ["one", "other"] (defScope s_common_row) := ⟨rfl, rfl, rfl, by decide +kernel, rfl, by decide +kernel, by decide +kernel⟩
abbrev s_remainder : Stmt := top 14
theorem sc_remainder : FnScope N_remainder ["row", "other"] (defScope s_remainder) := ⟨rfl, rfl, rfl, by decide +kernel, rfl, by decide +kernel, by decide +kernel⟩
abbrev s_quotient : Stmt := top 15
theorem sc_quotient : FnScope N_quotient ["row", "other"] (defScope s_quotient) := ⟨rfl, rfl, rfl, by decide +kernel, rfl, by decide +kernel, by decide +kernel⟩
abbrev s_lowered : Stmt := top 16
theorem sc_lowered : FnScope N_lowered ["row", "other", "factor"] (defScope s_lowered) := ⟨rfl, rfl, rfl, by decide +kernel, rfl, by decide +kernel, by decide +kernel⟩
abbrev s__law_whole : Stmt := top 18
theorem sc__law_whole : FnScope N__law_whole ["_law_found"] (defScope s__law_whole) := ⟨rfl, rfl, rfl, by decide +kernel, rfl, by decide +kernel, by decide +kernel⟩
abbrev s__law_cell_at : Stmt := top 19
theorem sc__law_cell_at : FnScope N__law_cell_at ["_law_script", "_law_k"] (defScope s__law_cell_at) := ⟨rfl, rfl, rfl, by decide +kernel, rfl, by decide +kernel, by decide +kernel⟩
abbrev s__law_divisor : Stmt := top 20
theorem sc__law_divisor : FnScope N__law_divisor ["_law_one", "_law_other"] (defScope s__law_divisor) := ⟨rfl, rfl, rfl, by decide +kernel, rfl, by decide +kernel, by decide +kernel⟩
abbrev s__law_part : Stmt := top 21
theorem sc__law_part : FnScope N__law_part ["_law_top", "_law_bottom"] (defScope s__law_part) := ⟨rfl, rfl, rfl, by decide +kernel, rfl, by decide +kernel, by decide +kernel⟩
abbrev s__law_by : Stmt := top 22
theorem sc__law_by : FnScope N__law_by ["_law_row", "_law_other"] (defScope s__law_by) := ⟨rfl, rfl, rfl, by decide +kernel, rfl, by decide +kernel, by decide +kernel⟩
abbrev s__law_factor : Stmt := top 23
theorem sc__law_factor : FnScope N__law_factor ["_law_cell"] (defScope s__law_factor) := ⟨rfl, rfl, rfl, by decide +kernel, rfl, by decide +kernel, by decide +kernel⟩
abbrev s__law_factors : Stmt := top 24
theorem sc__law_factors : FnScope N__law_factors ["_law_cells"] (defScope s__law_factors) := ⟨rfl, rfl, rfl, by decide +kernel, rfl, by decide +kernel, by decide +kernel⟩
abbrev s__law_made : Stmt := top 25
theorem sc__law_made : FnScope N__law_made ["_law_factors_here", "_law_cells", "_law_many"] (defScope s__law_made) := ⟨rfl, rfl, rfl, by decide +kernel, rfl, by decide +kernel, by decide +kernel⟩
abbrev s__law_refused : Stmt := top 26
theorem sc__law_refused : FnScope N__law_refused ["_law_row"] (defScope s__law_refused) := ⟨rfl, rfl, rfl, by decide +kernel, rfl, by decide +kernel, by decide +kernel⟩
abbrev s_law : Stmt := top 27
theorem sc_law : FnScope N_law ["_law_script"] (defScope s_law) := ⟨rfl, rfl, rfl, by decide +kernel, rfl, by decide +kernel, by decide +kernel⟩
section
variable {P : Program} {w : World} {K : PySem.W.Frag} {mg : Str → Option Value} {base : Heap} {C_PegError C_NoPart C_NoRow C_NoStretch C_NotAlone C_NoQuotient : Addr}
theorem ok_plain {f : Addr} {fd : FuncData} (F : Fun K "plain" "plain" s_plain f fd) (T : Txt K mg C_PegError C_NoPart C_NoRow C_NoStretch C_NotAlone C_NoQuotient) (G_trimmed : Cal P w K mg base CX0 41 "trimmed" ["row"] (sp_trimmed K)) (G_bare : Cal P w K mg base CX0 41 "bare" ["row"] (sp_bare K)) (G_slope : Cal P w K mg base CX0 41 "slope" ["row"] (sp_slope K)) (G_common_row : Cal P w K mg base CX0 43 "common_row" ["one", "other"] (sp_common_row K)) (G_quotient : Cal P w K mg base CX0 42 "quotient" ["row", "other"] (sp_quotient K)) (S : Seer P base) : FnOk P w K mg base (L2.CX P w) 44 f fd ["row"] (sp_plain K C_NoRow) :=
  fun_okX (t := fun E => t_plain K C_NoRow E) F sc_plain rfl (fun cdv A outer s H E hr => by exact (pss_cons (ps_set (i := 1) sc_plain.nd rfl (by first | exact Or.inl rfl | exact Or.inr rfl) (pe_cal0 G_trimmed (hr.mono (by decide)) (by rfl) (pa_cons (pv 0) pa_nil)))
      (pss_cons (ps_if (pt_cmpR op_lt (pe_callB call_len_seq (by rfl) T.b_len PySem.boot_len (pa_cons (pv 1) pa_nil)) pe_int (nomark _)) (pss_one (ps_raise rfl (takes_of rfl rfl rfl rfl) (pmk_own PySem.F.excBase_ValueError T.x_NoRow T.m_NoRow T.k_NoRow (raises_own T.s_NoRow T.t_NoRow) (by exact rfl)))) pss_nil)
      (pss_cons (ps_set (i := 2) sc_plain.nd rfl (by first | exact Or.inl rfl | exact Or.inr rfl) (pe_cal0 G_bare (hr.mono (by decide)) (by rfl) (pa_cons (pv 1) pa_nil)))
      (pss_one (ps_ret (pe_cal0 G_quotient (hr.mono (by decide)) (by rfl) (pa_cons (pv 2) (pa_cons (pe_cal0 G_common_row (hr.mono (by decide)) (by rfl) (pa_cons (pv 2) (pa_cons (pe_cal0 G_bare (hr.mono (by decide)) (by rfl) (pa_cons (pe_cal0 G_slope (hr.mono (by decide)) (by rfl) (pa_cons (pv 2) pa_nil)) pa_nil)) pa_nil))) pa_nil)))))))))
    (fun ds r h B0 B E hE => pure_plain ds r h B0 B E hE)
theorem ok_trimmed {f : Addr} {fd : FuncData} (F : Fun K "trimmed" "trimmed" s_trimmed f fd) (T : Txt K mg C_PegError C_NoPart C_NoRow C_NoStretch C_NotAlone C_NoQuotient) (S : Seer P base) : FnOk P w K mg base CX0 41 f fd ["row"] (sp_trimmed K) :=
  fun_ok (t := t_trimmed K) F sc_trimmed rfl (fun cdv A outer s H E hr => by exact (pss_cons (ps_set (i := 1) sc_trimmed.nd rfl (by first | exact Or.inl rfl | exact Or.inr rfl) (pe_callB call_len_seq (by rfl) T.b_len PySem.boot_len (pa_cons (pv 0) pa_nil)))
      (pss_cons (ps_while PassesOwn.never (PW.pt (pw_and (pt_cmpR op_gt (pv 1) pe_int (nomark _)) (pw_and1 (pt_cmpR (op_eqD hr.units) (pe_ix ix_seq (pv 0) (pe_op op_sub (pv 1) pe_int) (fun _ _ => rfl)) pe_int (nomark _))))) (pss_one (ps_aug (i := 1) sc_trimmed.nd rfl (by first | exact Or.inl rfl | exact Or.inr rfl) pe_int ip_sub)))
      (pss_one (ps_ret (pe_callTy call_list_of (by rfl) T.b_list (by rfl) (pa_cons (pe_slice sl_seq (pv 0) po_none (po_some (pv 1))) pa_nil)))))))
    (fun ds r h B0 B => pure_trimmed ds r h B0 B)
theorem ok_bare {f : Addr} {fd : FuncData} (F : Fun K "bare" "bare" s_bare f fd) (T : Txt K mg C_PegError C_NoPart C_NoRow C_NoStretch C_NotAlone C_NoQuotient) (S : Seer P base) : FnOk P w K mg base CX0 41 f fd ["row"] (sp_bare K) :=
  fun_ok (t := t_bare K) F sc_bare rfl (fun cdv A outer s H E hr => by exact (pss_cons (ps_if (pt_not (pt_truth (pv 0) (by intro _; rfl))) (pss_one (ps_ret (pe_lst pa_nil))) pss_nil)
      (pss_cons (ps_set (i := 1) sc_bare.nd rfl (by first | exact Or.inl rfl | exact Or.inr rfl) pe_int)
      (pss_cons (ps_for PassesOwn.never rfl (pi_seq (pv 0)) (pg_name (i := 2) sc_bare.nd rfl (by first | exact Or.inl rfl | exact Or.inr rfl)) (pss_one (ps_set (i := 1) sc_bare.nd rfl (by first | exact Or.inl rfl | exact Or.inr rfl) (pe_callBfun cr_gcd (by rfl) T.b_gcd (pa_cons (pv 1) (pa_cons (pv 2) pa_nil))))))
      (pss_cons (ps_if (pt_cmpR op_lt (pe_ix ix_seq (pv 0) (pe_un un_neg pe_int) (fun _ _ => rfl)) pe_int (nomark _)) (pss_one (ps_set (i := 1) sc_bare.nd rfl (by first | exact Or.inl rfl | exact Or.inr rfl) (pe_un un_neg (pv 1)))) pss_nil)
      (pss_one (ps_ret (pe_lc (own := [("number", 2)]) (g := (gName 2)) (tt := tYes) rfl sc_bare.nd (pi_seq (pv 0)) (blkOk_by (N := N_bare) (sc := defScope s_bare) (by decide +kernel)) (fun _ _ _ _ _ => (pg_name (i := 2) sc_bare.nd rfl (by first | exact Or.inl rfl | exact Or.inr rfl))) (fun _ _ _ _ _ => pts_nil) (fun _ _ _ _ _ => (pe_op (op_fdivS S ⟨_, _, rfl, rfl, rfl, rfl, rfl⟩ (hr.mono (by decide))) (pv 2) (pv 1)))))))))))
    (fun ds r h B0 B => pure_bare ds r h B0 B)
theorem ok_slope {f : Addr} {fd : FuncData} (F : Fun K "slope" "slope" s_slope f fd) (T : Txt K mg C_PegError C_NoPart C_NoRow C_NoStretch C_NotAlone C_NoQuotient) (S : Seer P base) : FnOk P w K mg base CX0 41 f fd ["row"] (sp_slope K) :=
  fun_ok (t := t_slope K) F sc_slope rfl (fun cdv A outer s H E hr => by exact (pss_one (ps_ret (pe_lc (own := [("at", 1)]) (g := (gName 1)) (tt := tYes) rfl sc_slope.nd (pi_range2 (by rfl) T.b_range (pa_cons pe_int (pa_cons (pe_callB call_len_seq (by rfl) T.b_len PySem.boot_len (pa_cons (pv 0) pa_nil)) pa_nil))) (blkOk_by (N := N_slope) (sc := defScope s_slope) (by decide +kernel)) (fun _ _ _ _ _ => (pg_name (i := 1) sc_slope.nd rfl (by first | exact Or.inl rfl | exact Or.inr rfl))) (fun _ _ _ _ _ => pts_nil) (fun _ _ _ _ _ => (pe_op op_mulX (pv 1) (pe_ix ix_seq (pv 0) (pv 1) (fun _ _ => rfl))))))))
    (fun ds r h B0 B => pure_slope ds r h B0 B)
theorem ok_common_row {f : Addr} {fd : FuncData} (F : Fun K "common_row" "common_row" s_common_row f fd) (T : Txt K mg C_PegError C_NoPart C_NoRow C_NoStretch C_NotAlone C_NoQuotient) (G_remainder : Cal P w K mg base CX0 42 "remainder" ["row", "other"] (sp_remainder K)) (G_bare : Cal P w K mg base CX0 41 "bare" ["row"] (sp_bare K)) (S : Seer P base) : FnOk P w K mg base CX0 43 f fd ["one", "other"] (sp_common_row K) :=
  fun_ok (t := t_common_row K) F sc_common_row rfl (fun cdv A outer s H E hr => by exact (pss_cons (ps_while PassesOwn.never (pt_truth (pv 1) (by intro _; rfl)) (pss_one (ps_par (i := 0) (j := 1) rfl sc_common_row.nd rfl rfl (by decide) rfl rfl (pa_cons (pv 1) (pa_cons (pe_cal0 G_bare (hr.mono (by decide)) (by rfl) (pa_cons (pe_cal0 G_remainder (hr.mono (by decide)) (by rfl) (pa_cons (pv 0) (pa_cons (pv 1) pa_nil))) pa_nil)) pa_nil)) (by with_unfolding_all rfl))))
      (pss_one (ps_ret (pv 0)))))
    (fun ds r h B0 B => pure_common_row ds r h B0 B)
theorem ok_remainder {f : Addr} {fd : FuncData} (F : Fun K "remainder" "remainder" s_remainder f fd) (T : Txt K mg C_PegError C_NoPart C_NoRow C_NoStretch C_NotAlone C_NoQuotient) (G_lowered : Cal P w K mg base CX0 41 "lowered" ["row", "other", "factor"] (sp_lowered K)) (G_trimmed : Cal P w K mg base CX0 41 "trimmed" ["row"] (sp_trimmed K)) (S : Seer P base) : FnOk P w K mg base CX0 42 f fd ["row", "other"] (sp_remainder K) :=
  fun_ok (t := t_remainder K) F sc_remainder rfl (fun cdv A outer s H E hr => by exact (pss_cons (ps_set (i := 2) sc_remainder.nd rfl (by first | exact Or.inl rfl | exact Or.inr rfl) (pv 0))
      (pss_cons (ps_while PassesOwn.never (pt_cmpR op_ge (pe_callB call_len_seq (by rfl) T.b_len PySem.boot_len (pa_cons (pv 2) pa_nil)) (pe_callB call_len_seq (by rfl) T.b_len PySem.boot_len (pa_cons (pv 1) pa_nil)) (nomark _)) (pss_cons (ps_set (i := 3) sc_remainder.nd rfl (by first | exact Or.inl rfl | exact Or.inr rfl) (pe_callBfun cr_gcd (by rfl) T.b_gcd (pa_cons (pe_ix ix_seq (pv 2) (pe_un un_neg pe_int) (fun _ _ => rfl)) (pa_cons (pe_ix ix_seq (pv 1) (pe_un un_neg pe_int) (fun _ _ => rfl)) pa_nil))))
      (pss_cons (ps_set (i := 4) sc_remainder.nd rfl (by first | exact Or.inl rfl | exact Or.inr rfl) (pe_op (op_fdivS S ⟨_, _, rfl, rfl, rfl, rfl, rfl⟩ (hr.mono (by decide))) (pe_ix ix_seq (pv 2) (pe_un un_neg pe_int) (fun _ _ => rfl)) (pv 3)))
      (pss_cons (by first | exact (ps_setLc (i := 5) (own := [("number", 6)]) (g := (gName 6)) (tt := tYes) rfl sc_remainder.nd rfl rfl (sw_true rfl rfl rfl (by decide +kernel)) (pi_seq (pv 2)) (blkOk_by (N := N_remainder) (sc := defScope s_remainder) (by decide +kernel)) (fun _ _ _ _ _ => (pg_name (i := 6) sc_remainder.nd rfl (by first | exact Or.inl rfl | exact Or.inr rfl))) (fun _ _ _ _ _ => pts_nil) (fun _ _ _ _ _ => (pe_op op_mulX (pv 6) (pe_op (op_fdivS S ⟨_, _, rfl, rfl, rfl, rfl, rfl⟩ (hr.mono (by decide))) (pe_ix ix_seq (pv 1) (pe_un un_neg pe_int) (fun _ _ => rfl)) (pv 3))))) | exact (ps_set (i := 5) sc_remainder.nd rfl (by first | exact Or.inl rfl | exact Or.inr rfl) (pe_lc (own := [("number", 6)]) (g := (gName 6)) (tt := tYes) rfl sc_remainder.nd (pi_seq (pv 2)) (blkOk_by (N := N_remainder) (sc := defScope s_remainder) (by decide +kernel)) (fun _ _ _ _ _ => (pg_name (i := 6) sc_remainder.nd rfl (by first | exact Or.inl rfl | exact Or.inr rfl))) (fun _ _ _ _ _ => pts_nil) (fun _ _ _ _ _ => (pe_op op_mulX (pv 6) (pe_op (op_fdivS S ⟨_, _, rfl, rfl, rfl, rfl, rfl⟩ (hr.mono (by decide))) (pe_ix ix_seq (pv 1) (pe_un un_neg pe_int) (fun _ _ => rfl)) (pv 3)))))))
      (pss_one (ps_set (i := 2) sc_remainder.nd rfl (by first | exact Or.inl rfl | exact Or.inr rfl) (pe_cal0 G_trimmed (hr.mono (by decide)) (by rfl) (pa_cons (pe_cal0 G_lowered (hr.mono (by decide)) (by rfl) (pa_cons (pv 5) (pa_cons (pv 1) (pa_cons (pv 4) pa_nil)))) pa_nil))))))))
      (pss_one (ps_ret (pv 2))))))
    (fun ds r h B0 B => pure_remainder ds r h B0 B)
theorem ok_quotient {f : Addr} {fd : FuncData} (F : Fun K "quotient" "quotient" s_quotient f fd) (T : Txt K mg C_PegError C_NoPart C_NoRow C_NoStretch C_NotAlone C_NoQuotient) (G_lowered : Cal P w K mg base CX0 41 "lowered" ["row", "other", "factor"] (sp_lowered K)) (S : Seer P base) : FnOk P w K mg base CX0 42 f fd ["row", "other"] (sp_quotient K) :=
  fun_ok (t := t_quotient K) F sc_quotient rfl (fun cdv A outer s H E hr => by exact (pss_cons (ps_set (i := 2) sc_quotient.nd rfl (by first | exact Or.inl rfl | exact Or.inr rfl) (pv 0))
      (pss_cons (ps_set (i := 3) sc_quotient.nd rfl (by first | exact Or.inl rfl | exact Or.inr rfl) (pe_lst pa_nil))
      (pss_cons (ps_while PassesOwn.never (pt_cmpR op_ge (pe_callB call_len_seq (by rfl) T.b_len PySem.boot_len (pa_cons (pv 2) pa_nil)) (pe_callB call_len_seq (by rfl) T.b_len PySem.boot_len (pa_cons (pv 1) pa_nil)) (nomark _)) (pss_cons (ps_set (i := 4) sc_quotient.nd rfl (by first | exact Or.inl rfl | exact Or.inr rfl) (pe_op (op_fdivS S ⟨_, _, rfl, rfl, rfl, rfl, rfl⟩ (hr.mono (by decide))) (pe_ix ix_seq (pv 2) (pe_un un_neg pe_int) (fun _ _ => rfl)) (pe_ix ix_seq (pv 1) (pe_un un_neg pe_int) (fun _ _ => rfl))))
      (pss_cons (ps_expr (pe_bm PySem.F.plainAttrs_list PySem.F.slot_list_append PySem.F.type_list_append mt_append (pv 3) (pa_cons (pv 4) pa_nil)))
      (pss_one (ps_set (i := 2) sc_quotient.nd rfl (by first | exact Or.inl rfl | exact Or.inr rfl) (pe_cal0 G_lowered (hr.mono (by decide)) (by rfl) (pa_cons (pv 2) (pa_cons (pv 1) (pa_cons (pv 4) pa_nil)))))))))
      (pss_cons (ps_expr (pe_bm0 PySem.F.plainAttrs_list PySem.F.slot_list_reverse PySem.F.type_list_reverse mt_reverse (pv 3)))
      (pss_one (ps_ret (pv 3))))))))
    (fun ds r h B0 B => pure_quotient ds r h B0 B)
theorem ok_lowered {f : Addr} {fd : FuncData} (F : Fun K "lowered" "lowered" s_lowered f fd) (T : Txt K mg C_PegError C_NoPart C_NoRow C_NoStretch C_NotAlone C_NoQuotient) (S : Seer P base) : FnOk P w K mg base CX0 41 f fd ["row", "other", "factor"] (sp_lowered K) :=
  fun_ok (t := t_lowered K) F sc_lowered rfl (fun cdv A outer s H E hr => by exact (pss_cons (ps_set (i := 3) sc_lowered.nd rfl (by first | exact Or.inl rfl | exact Or.inr rfl) (pe_op op_sub (pe_callB call_len_seq (by rfl) T.b_len PySem.boot_len (pa_cons (pv 0) pa_nil)) (pe_callB call_len_seq (by rfl) T.b_len PySem.boot_len (pa_cons (pv 1) pa_nil))))
      (pss_cons (by first | exact (ps_setLc (i := 4) (own := [("number", 5), ("less", 6)]) (g := (gTup K 2 (gCons (gName 5) (gCons (gName 6) gNil)))) (tt := tYes) rfl sc_lowered.nd rfl rfl (sw_true rfl rfl rfl (by decide +kernel)) (RZ.pi_zipA (by rfl) T.b_zip (pa_cons (pe_slice sl_seq (pv 0) (po_some (pv 3)) po_none) (pa_cons (pv 1) pa_nil))) (blkOk_by (N := N_lowered) (sc := defScope s_lowered) (by decide +kernel)) (fun _ _ _ _ _ => (pg_tup rfl (pgs_cons (pg_name (i := 5) sc_lowered.nd rfl (by first | exact Or.inl rfl | exact Or.inr rfl)) (pgs_cons (pg_name (i := 6) sc_lowered.nd rfl (by first | exact Or.inl rfl | exact Or.inr rfl)) pgs_nil)))) (fun _ _ _ _ _ => pts_nil) (fun _ _ _ _ _ => (pe_op op_sub (pv 5) (pe_op op_mulX (pv 2) (pv 6))))) | exact (ps_set (i := 4) sc_lowered.nd rfl (by first | exact Or.inl rfl | exact Or.inr rfl) (pe_lc (own := [("number", 5), ("less", 6)]) (g := (gTup K 2 (gCons (gName 5) (gCons (gName 6) gNil)))) (tt := tYes) rfl sc_lowered.nd (RZ.pi_zipA (by rfl) T.b_zip (pa_cons (pe_slice sl_seq (pv 0) (po_some (pv 3)) po_none) (pa_cons (pv 1) pa_nil))) (blkOk_by (N := N_lowered) (sc := defScope s_lowered) (by decide +kernel)) (fun _ _ _ _ _ => (pg_tup rfl (pgs_cons (pg_name (i := 5) sc_lowered.nd rfl (by first | exact Or.inl rfl | exact Or.inr rfl)) (pgs_cons (pg_name (i := 6) sc_lowered.nd rfl (by first | exact Or.inl rfl | exact Or.inr rfl)) pgs_nil)))) (fun _ _ _ _ _ => pts_nil) (fun _ _ _ _ _ => (pe_op op_sub (pv 5) (pe_op op_mulX (pv 2) (pv 6)))))))
      (pss_one (ps_ret (pe_op op_catS (pe_slice sl_seq (pv 0) po_none (po_some (pv 3))) (pe_slice sl_seq (pv 4) po_none (po_some (pe_un un_neg pe_int)))))))))
    (fun ds r h B0 B => pure_lowered ds r h B0 B)
theorem ok__law_whole {f : Addr} {fd : FuncData} (F : Fun K "_law_whole" "_law_whole" s__law_whole f fd) (T : Txt K mg C_PegError C_NoPart C_NoRow C_NoStretch C_NotAlone C_NoQuotient) (S : Seer P base) : FnOk P w K mg base CX0 41 f fd ["_law_found"] (sp__law_whole K) :=
  fun_ok (t := t__law_whole K) F sc__law_whole rfl (fun cdv A outer s H E hr => by exact (pss_one (ps_ret (pe_and (pe_callB call_isi (by rfl) T.b_isinstance (by rfl) (pa_cons (pv 0) (pa_cons (pe_bltn (v := .ty "int") (by rfl) T.b_int (by rfl) rfl) pa_nil))) (pe_one (pe_not (pe_callB call_isi (by rfl) T.b_isinstance (by rfl) (pa_cons (pv 0) (pa_cons (pe_bltn (v := .ty "bool") (by rfl) T.b_bool (by rfl) rfl) pa_nil)))))))))
    (fun ds r h B0 B => pure__law_whole ds r h B0 B)
theorem ok__law_cell_at {f : Addr} {fd : FuncData} (F : Fun K "_law_cell_at" "_law_cell_at" s__law_cell_at f fd) (T : Txt K mg C_PegError C_NoPart C_NoRow C_NoStretch C_NotAlone C_NoQuotient) (S : Seer P base) : FnOk P w K mg base CX0 41 f fd ["_law_script", "_law_k"] (sp__law_cell_at K) :=
  fun_ok (t := t__law_cell_at K) F sc__law_cell_at rfl (fun cdv A outer s H E hr => by exact (pss_cons (ps_if (pt_cmpR op_lt (pv 1) (pe_callB call_len_seq (by rfl) T.b_len PySem.boot_len (pa_cons (pv 0) pa_nil)) (nomark _)) (pss_one (ps_ret (pe_ix ix_seq (pv 0) (pv 1) (fun _ _ => rfl)))) pss_nil)
      (pss_one (ps_ret pe_int))))
    (fun ds r h B0 B => pure__law_cell_at ds r h B0 B)
theorem ok__law_divisor {f : Addr} {fd : FuncData} (F : Fun K "_law_divisor" "_law_divisor" s__law_divisor f fd) (T : Txt K mg C_PegError C_NoPart C_NoRow C_NoStretch C_NotAlone C_NoQuotient) (S : Seer P base) : FnOk P w K mg base CX0 41 f fd ["_law_one", "_law_other"] (sp__law_divisor K) :=
  fun_ok (t := t__law_divisor K) F sc__law_divisor rfl (fun cdv A outer s H E hr => by exact (pss_cons (ps_while PassesOwn.never (pt_cmpR (op_neD hr.units) (pv 1) pe_int (nomark _)) (pss_cons (ps_set (i := 2) sc__law_divisor.nd rfl (by first | exact Or.inl rfl | exact Or.inr rfl) (pe_op op_modN (pv 0) (pv 1)))
      (pss_cons (ps_set (i := 0) sc__law_divisor.nd rfl (by first | exact Or.inl rfl | exact Or.inr rfl) (pv 1))
      (pss_one (ps_set (i := 1) sc__law_divisor.nd rfl (by first | exact Or.inl rfl | exact Or.inr rfl) (pv 2))))))
      (pss_one (ps_ret (pe_callB call_abs (by rfl) T.b_abs (by rfl) (pa_cons (pv 0) pa_nil))))))
    (fun ds r h B0 B => pure__law_divisor ds r h B0 B)
theorem ok__law_part {f : Addr} {fd : FuncData} (F : Fun K "_law_part" "_law_part" s__law_part f fd) (T : Txt K mg C_PegError C_NoPart C_NoRow C_NoStretch C_NotAlone C_NoQuotient) (G__law_divisor : Cal P w K mg base CX0 41 "_law_divisor" ["_law_one", "_law_other"] (sp__law_divisor K)) (S : Seer P base) : FnOk P w K mg base CX0 42 f fd ["_law_top", "_law_bottom"] (sp__law_part K) :=
  fun_ok (t := t__law_part K) F sc__law_part rfl (fun cdv A outer s H E hr => by exact (pss_cons (ps_set (i := 2) sc__law_part.nd rfl (by first | exact Or.inl rfl | exact Or.inr rfl) (pe_cal0 G__law_divisor (hr.mono (by decide)) (by rfl) (pa_cons (pv 0) (pa_cons (pv 1) pa_nil))))
      (pss_cons (ps_if (pt_cmpR op_lt (pv 1) pe_int (nomark _)) (pss_one (ps_set (i := 2) sc__law_part.nd rfl (by first | exact Or.inl rfl | exact Or.inr rfl) (pe_op op_sub pe_int (pv 2)))) pss_nil)
      (pss_one (ps_ret (pe_tup (pa_cons (pe_op (op_fdivS S ⟨_, _, rfl, rfl, rfl, rfl, rfl⟩ (hr.mono (by decide))) (pv 0) (pv 2)) (pa_cons (pe_op (op_fdivS S ⟨_, _, rfl, rfl, rfl, rfl, rfl⟩ (hr.mono (by decide))) (pv 1) (pv 2)) pa_nil))))))))
    (fun ds r h B0 B => pure__law_part ds r h B0 B)
theorem ok__law_by {f : Addr} {fd : FuncData} (F : Fun K "_law_by" "_law_by" s__law_by f fd) (T : Txt K mg C_PegError C_NoPart C_NoRow C_NoStretch C_NotAlone C_NoQuotient) (S : Seer P base) : FnOk P w K mg base CX0 41 f fd ["_law_row", "_law_other"] (sp__law_by K) :=
  fun_ok (t := t__law_by K) F sc__law_by rfl (fun cdv A outer s H E hr => by exact (pss_cons (by first | exact (ps_setLc (i := 2) (own := [("_law_k", 3)]) (g := (gName 3)) (tt := tYes) rfl sc__law_by.nd rfl rfl (sw_true rfl rfl rfl (by decide +kernel)) (pi_range1 (by rfl) T.b_range (pa_cons (pe_op op_sub (pe_op op_add (pe_callB call_len_seq (by rfl) T.b_len PySem.boot_len (pa_cons (pv 0) pa_nil)) (pe_callB call_len_seq (by rfl) T.b_len PySem.boot_len (pa_cons (pv 1) pa_nil))) pe_int) pa_nil)) (blkOk_by (N := N__law_by) (sc := defScope s__law_by) (by decide +kernel)) (fun _ _ _ _ _ => (pg_name (i := 3) sc__law_by.nd rfl (by first | exact Or.inl rfl | exact Or.inr rfl))) (fun _ _ _ _ _ => pts_nil) (fun _ _ _ _ _ => pe_int)) | exact (ps_set (i := 2) sc__law_by.nd rfl (by first | exact Or.inl rfl | exact Or.inr rfl) (pe_lc (own := [("_law_k", 3)]) (g := (gName 3)) (tt := tYes) rfl sc__law_by.nd (pi_range1 (by rfl) T.b_range (pa_cons (pe_op op_sub (pe_op op_add (pe_callB call_len_seq (by rfl) T.b_len PySem.boot_len (pa_cons (pv 0) pa_nil)) (pe_callB call_len_seq (by rfl) T.b_len PySem.boot_len (pa_cons (pv 1) pa_nil))) pe_int) pa_nil)) (blkOk_by (N := N__law_by) (sc := defScope s__law_by) (by decide +kernel)) (fun _ _ _ _ _ => (pg_name (i := 3) sc__law_by.nd rfl (by first | exact Or.inl rfl | exact Or.inr rfl))) (fun _ _ _ _ _ => pts_nil) (fun _ _ _ _ _ => pe_int))))
      (pss_cons (ps_for PassesOwn.never rfl (pi_range1 (by rfl) T.b_range (pa_cons (pe_callB call_len_seq (by rfl) T.b_len PySem.boot_len (pa_cons (pv 0) pa_nil)) pa_nil)) (pg_name (i := 3) sc__law_by.nd rfl (by first | exact Or.inl rfl | exact Or.inr rfl)) (pss_one (ps_for PassesOwn.never rfl (pi_range1 (by rfl) T.b_range (pa_cons (pe_callB call_len_seq (by rfl) T.b_len PySem.boot_len (pa_cons (pv 1) pa_nil)) pa_nil)) (pg_name (i := 4) sc__law_by.nd rfl (by first | exact Or.inl rfl | exact Or.inr rfl)) (pss_one (ps_asg (pe_op op_add (pe_ix ix_seq (pv 2) (pe_op op_add (pv 3) (pv 4)) (fun _ _ => rfl)) (pe_op op_mulX (pe_ix ix_seq (pv 0) (pv 3) (fun _ _ => rfl)) (pe_ix ix_seq (pv 1) (pv 4) (fun _ _ => rfl)))) (pg_sub (pv 2) (pe_op op_add (pv 3) (pv 4)) set_list))))))
      (pss_one (ps_ret (pv 2))))))
    (fun ds r h B0 B => pure__law_by ds r h B0 B)
theorem ok__law_factor {f : Addr} {fd : FuncData} (F : Fun K "_law_factor" "_law_factor" s__law_factor f fd) (T : Txt K mg C_PegError C_NoPart C_NoRow C_NoStretch C_NotAlone C_NoQuotient) (G__law_divisor : Cal P w K mg base CX0 41 "_law_divisor" ["_law_one", "_law_other"] (sp__law_divisor K)) (G__law_part : Cal P w K mg base CX0 42 "_law_part" ["_law_top", "_law_bottom"] (sp__law_part K)) (S : Seer P base) : FnOk P w K mg base CX0 43 f fd ["_law_cell"] (sp__law_factor K) :=
  fun_ok (t := t__law_factor K) F sc__law_factor rfl (fun cdv A outer s H E hr => by exact (pss_cons (ps_set (i := 1) sc__law_factor.nd rfl (by first | exact Or.inl rfl | exact Or.inr rfl) (pe_op op_modN (pv 0) pe_int))
      (pss_cons (ps_set (i := 2) sc__law_factor.nd rfl (by first | exact Or.inl rfl | exact Or.inr rfl) (pe_op (op_fdivS S ⟨_, _, rfl, rfl, rfl, rfl, rfl⟩ (hr.mono (by decide))) (pv 0) pe_int))
      (pss_cons (ps_if (pt_cmpR (op_eqD hr.units) (pv 1) pe_int (nomark _)) (pss_one (ps_ret (pe_lst (pa_cons (pe_op op_sub pe_int (pe_ix ix_seq (pe_lst (pa_cons pe_int (pa_cons pe_int (pa_cons pe_int (pa_cons pe_int (pa_cons pe_int pa_nil)))))) (pe_op op_modN (pv 2) pe_int) (fun _ _ => rfl))) (pa_cons pe_int (pa_cons pe_int pa_nil)))))) pss_nil)
      (pss_cons (ps_if (pt_cmpR (op_eqD hr.units) (pv 1) pe_int (nomark _)) (pss_cons (ps_set (i := 3) sc__law_factor.nd rfl (by first | exact Or.inl rfl | exact Or.inr rfl) (pe_op op_add pe_int (pe_op op_modN (pv 2) pe_int)))
      (pss_cons (ps_set (i := 4) sc__law_factor.nd rfl (by first | exact Or.inl rfl | exact Or.inr rfl) (pe_op op_sub (pe_op op_modN (pe_op (op_fdivS S ⟨_, _, rfl, rfl, rfl, rfl, rfl⟩ (hr.mono (by decide))) (pv 2) pe_int) pe_int) pe_int))
      (pss_cons (ps_set (i := 5) sc__law_factor.nd rfl (by first | exact Or.inl rfl | exact Or.inr rfl) (pe_op op_add (pe_op op_add (pe_op (op_fdivS S ⟨_, _, rfl, rfl, rfl, rfl, rfl⟩ (hr.mono (by decide))) (pe_op op_mulX (pv 4) (pv 4)) (pe_op op_mulX pe_int (pv 3))) pe_int) (pe_op op_modN (pe_op (op_fdivS S ⟨_, _, rfl, rfl, rfl, rfl, rfl⟩ (hr.mono (by decide))) (pv 2) pe_int) pe_int)))
      (pss_cons (ps_set (i := 6) sc__law_factor.nd rfl (by first | exact Or.inl rfl | exact Or.inr rfl) (pe_cal0 G__law_divisor (hr.mono (by decide)) (by rfl) (pa_cons (pv 5) (pa_cons (pe_cal0 G__law_divisor (hr.mono (by decide)) (by rfl) (pa_cons (pv 4) (pa_cons (pv 3) pa_nil))) pa_nil))))
      (pss_one (ps_ret (pe_lst (pa_cons (pe_op (op_fdivS S ⟨_, _, rfl, rfl, rfl, rfl, rfl⟩ (hr.mono (by decide))) (pv 5) (pv 6)) (pa_cons (pe_op (op_fdivS S ⟨_, _, rfl, rfl, rfl, rfl, rfl⟩ (hr.mono (by decide))) (pv 4) (pv 6)) (pa_cons (pe_op (op_fdivS S ⟨_, _, rfl, rfl, rfl, rfl, rfl⟩ (hr.mono (by decide))) (pv 3) (pv 6)) pa_nil)))))))))) pss_nil)
      (pss_cons (ps_if (pt_cmpR (op_eqD hr.units) (pv 1) pe_int (nomark _)) (pss_one (ps_ret (pe_lst (pa_cons (pe_ix ix_seq (pe_lst (pa_cons (pe_un un_neg pe_int) (pa_cons (pe_un un_neg pe_int) (pa_cons (pe_un un_neg pe_int) (pa_cons (pe_un un_neg pe_int) (pa_cons pe_int (pa_cons pe_int pa_nil))))))) (pe_op op_modN (pv 2) pe_int) (fun _ _ => rfl)) (pa_cons pe_int (pa_cons pe_int (pa_cons pe_int pa_nil))))))) pss_nil)
      (pss_cons (ps_set (i := 7) sc__law_factor.nd rfl (by first | exact Or.inl rfl | exact Or.inr rfl) (pe_cal0 G__law_part (hr.mono (by decide)) (by rfl) (pa_cons (pe_op op_sub (pe_op op_modN (pv 2) pe_int) pe_int) (pa_cons (pe_op op_add pe_int (pe_op op_modN (pe_op (op_fdivS S ⟨_, _, rfl, rfl, rfl, rfl, rfl⟩ (hr.mono (by decide))) (pv 2) pe_int) pe_int)) pa_nil))))
      (pss_cons (ps_if (pt_cmpR (op_eqD hr.units) (pv 1) pe_int (nomark _)) (pss_cons (ps_set (i := 7) sc__law_factor.nd rfl (by first | exact Or.inl rfl | exact Or.inr rfl) (pe_tup (pa_cons (pe_op op_sub (pe_op op_modN (pe_op (op_fdivS S ⟨_, _, rfl, rfl, rfl, rfl, rfl⟩ (hr.mono (by decide))) (pv 2) pe_int) (pe_op op_mulX pe_int (pe_op op_pow pe_int pe_int))) (pe_op op_pow pe_int pe_int)) (pa_cons pe_int pa_nil))))
      (pss_one (ps_if (pt_cmpR (op_eqD hr.units) (pe_op op_modN (pv 2) pe_int) pe_int (nomark _)) (pss_one (ps_set (i := 7) sc__law_factor.nd rfl (by first | exact Or.inl rfl | exact Or.inr rfl) (pe_cal0 G__law_part (hr.mono (by decide)) (by rfl) (pa_cons (pe_op op_add pe_int (pe_op op_modN (pe_op (op_fdivS S ⟨_, _, rfl, rfl, rfl, rfl, rfl⟩ (hr.mono (by decide))) (pv 2) pe_int) pe_int)) (pa_cons (pe_op op_pow pe_int pe_int) pa_nil))))) pss_nil))) pss_nil)
      (pss_one (ps_ret (pe_lst (pa_cons (pe_op op_sub pe_int (pe_ix ix_seq (pv 7) pe_int (fun _ _ => rfl))) (pa_cons (pe_ix ix_seq (pv 7) pe_int (fun _ _ => rfl)) pa_nil)))))))))))))
    (fun ds r h B0 B => pure__law_factor ds r h B0 B)
theorem ok__law_factors {f : Addr} {fd : FuncData} (F : Fun K "_law_factors" "_law_factors" s__law_factors f fd) (T : Txt K mg C_PegError C_NoPart C_NoRow C_NoStretch C_NotAlone C_NoQuotient) (G__law_factor : Cal P w K mg base CX0 43 "_law_factor" ["_law_cell"] (sp__law_factor K)) (S : Seer P base) : FnOk P w K mg base CX0 44 f fd ["_law_cells"] (sp__law_factors K) :=
  fun_ok (t := t__law_factors K) F sc__law_factors rfl (fun cdv A outer s H E hr => by exact (pss_cons (ps_set (i := 1) sc__law_factors.nd rfl (by first | exact Or.inl rfl | exact Or.inr rfl) (pe_lst pa_nil))
      (pss_cons (ps_for PassesOwn.never rfl (pi_seq (pv 0)) (pg_name (i := 2) sc__law_factors.nd rfl (by first | exact Or.inl rfl | exact Or.inr rfl)) (pss_one (ps_if (pt_cmpR (op_notInD (Room.units65 hr)) (pe_cal0 G__law_factor (hr.mono (by decide)) (by rfl) (pa_cons (pv 2) pa_nil)) (pv 1) (by with_unfolding_all rfl)) (pss_one (ps_expr (pe_bm PySem.F.plainAttrs_list PySem.F.slot_list_append PySem.F.type_list_append mt_append (pv 1) (pa_cons (pe_cal0 G__law_factor (hr.mono (by decide)) (by rfl) (pa_cons (pv 2) pa_nil)) pa_nil)))) pss_nil)))
      (pss_one (ps_ret (pv 1))))))
    (fun ds r h B0 B => pure__law_factors ds r h B0 B)
theorem ok__law_made {f : Addr} {fd : FuncData} (F : Fun K "_law_made" "_law_made" s__law_made f fd) (T : Txt K mg C_PegError C_NoPart C_NoRow C_NoStretch C_NotAlone C_NoQuotient) (G__law_by : Cal P w K mg base CX0 41 "_law_by" ["_law_row", "_law_other"] (sp__law_by K)) (S : Seer P base) : FnOk P w K mg base CX0 42 f fd ["_law_factors_here", "_law_cells", "_law_many"] (sp__law_made K) :=
  fun_ok (t := t__law_made K) F sc__law_made rfl (fun cdv A outer s H E hr => by exact (pss_cons (ps_set (i := 3) sc__law_made.nd rfl (by first | exact Or.inl rfl | exact Or.inr rfl) (pe_lst (pa_cons (pv 2) pa_nil)))
      (pss_cons (ps_for PassesOwn.never rfl (pi_range1 (by rfl) T.b_range (pa_cons (pe_callB call_len_seq (by rfl) T.b_len PySem.boot_len (pa_cons (pv 0) pa_nil)) pa_nil)) (pg_name (i := 4) sc__law_made.nd rfl (by first | exact Or.inl rfl | exact Or.inr rfl)) (pss_cons (ps_set (i := 5) sc__law_made.nd rfl (by first | exact Or.inl rfl | exact Or.inr rfl) pe_int)
      (pss_cons (ps_if (pt_cmpR op_lt (pv 4) (pe_callB call_len_seq (by rfl) T.b_len PySem.boot_len (pa_cons (pv 1) pa_nil)) (nomark _)) (pss_one (ps_set (i := 5) sc__law_made.nd rfl (by first | exact Or.inl rfl | exact Or.inr rfl) (pe_ix ix_seq (pe_lst (pa_cons pe_int (pa_cons pe_int (pa_cons pe_int (pa_cons pe_int (pa_cons pe_int pa_nil)))))) (pe_op op_modN (pe_ix ix_seq (pv 1) (pv 4) (fun _ _ => rfl)) pe_int) (fun _ _ => rfl)))) pss_nil)
      (pss_one (ps_for PassesOwn.never rfl (pi_range1 (by rfl) T.b_range (pa_cons (pv 5) pa_nil)) (pg_name (i := 6) sc__law_made.nd rfl (by first | exact Or.inl rfl | exact Or.inr rfl)) (pss_one (ps_set (i := 3) sc__law_made.nd rfl (by first | exact Or.inl rfl | exact Or.inr rfl) (pe_cal0 G__law_by (hr.mono (by decide)) (by rfl) (pa_cons (pv 3) (pa_cons (pe_ix ix_seq (pv 0) (pv 4) (fun _ _ => rfl)) pa_nil))))))))))
      (pss_one (ps_ret (pv 3))))))
    (fun ds r h B0 B => pure__law_made ds r h B0 B)
theorem ok__law_refused {f : Addr} {fd : FuncData} (F : Fun K "_law_refused" "_law_refused" s__law_refused f fd) (T : Txt K mg C_PegError C_NoPart C_NoRow C_NoStretch C_NotAlone C_NoQuotient) (G_plain : Cal P w K mg base (L2.CX P w) 44 "plain" ["row"] (sp_plain K C_NoRow)) (S : Seer P base) : FnOk P w K mg base CX0 45 f fd ["_law_row"] (sp__law_refused K) :=
  fun_ok (t := t__law_refused K C_PegError C_NoPart C_NoRow C_NoStretch C_NotAlone C_NoQuotient) F sc__law_refused rfl (fun cdv A outer s H E hr => by exact (pss_cons (ps_try_as (i := 1) (tb := fun W => tDrop (tCallS (sp_plain K C_NoRow) (WE W) (tCons (tVar 0) tNil))) (ts := tSuite K 1 (tCls [.ref C_NoPart, .ref C_NoQuotient, .ref C_NoStretch, .ref C_NotAlone]) (.ref C_NoRow) (.ty "ValueError")) (Wout := fun _ _ _ _ => False) rfl rfl sc__law_refused.nd rfl rfl ⟨rfl, by decide, Or.inl T.m_PegError⟩ takes0
      (fun W pn xe tk _ => pss_one (ps_expr (by exact (pe_calS G_plain (hr.mono (by decide)) (by rfl) (fun σ => passAt tk σ) (pa_cons (pv 0) pa_nil)))))
      (fun a oe cls d pn hz hf => by exact (pss_cons (ps_if (pt_truth (pe_callB (call_isX hz hf) (by rfl) T.b_isinstance (by rfl) (pa_cons (pv 1) (pa_cons (pe_tup (pa_cons (pe_glob (v := .ref C_NoPart) (by rfl) T.m_NoPart rfl) (pa_cons (pe_glob (v := .ref C_NoQuotient) (by rfl) T.m_NoQuotient rfl) (pa_cons (pe_glob (v := .ref C_NoStretch) (by rfl) T.m_NoStretch rfl) (pa_cons (pe_glob (v := .ref C_NotAlone) (by rfl) T.m_NotAlone rfl) pa_nil))))) pa_nil))) (by intro _; rfl)) (pss_one (ps_ret pe_bl)) pss_nil) (pss_one (ps_ret (pe_and (pe_callB (call_isX hz hf) (by rfl) T.b_isinstance (by rfl) (pa_cons (pv 1) (pa_cons (pe_glob (v := .ref C_NoRow) (by rfl) T.m_NoRow rfl) pa_nil))) (pe_one (pe_callB (call_isX hz hf) (by rfl) T.b_isinstance (by rfl) (pa_cons (pv 1) (pa_cons (pe_bltn (v := .ty "ValueError") (by rfl) T.b_ValueError (by rfl) rfl) pa_nil))))))))))
      (pss_one (ps_ret pe_bl))))
    (fun ds r h B0 B => pure__law_refused T ds r h B0 B)
theorem ok_law {f : Addr} {fd : FuncData} (F : Fun K "law" "law" s_law f fd) (T : Txt K mg C_PegError C_NoPart C_NoRow C_NoStretch C_NotAlone C_NoQuotient) (G__law_cell_at : Cal P w K mg base CX0 41 "_law_cell_at" ["_law_script", "_law_k"] (sp__law_cell_at K)) (G__law_factors : Cal P w K mg base CX0 44 "_law_factors" ["_law_cells"] (sp__law_factors K)) (G__law_made : Cal P w K mg base CX0 42 "_law_made" ["_law_factors_here", "_law_cells", "_law_many"] (sp__law_made K)) (G__law_refused : Cal P w K mg base CX0 45 "_law_refused" ["_law_row"] (sp__law_refused K)) (G_plain : Cal P w K mg base (L2.CX P w) 44 "plain" ["row"] (sp_plain K C_NoRow)) (G__law_whole : Cal P w K mg base CX0 41 "_law_whole" ["_law_found"] (sp__law_whole K)) (S : Seer P base) : FnOk P w K mg base CX0 46 f fd ["_law_script"] (sp_law K) :=
  fun_ok (t := t_law K C_NoRow) F sc_law rfl (fun cdv A outer s H E hr => by exact (pss_cons (ps_set (i := 1) sc_law.nd rfl (by first | exact Or.inl rfl | exact Or.inr rfl) (pe_cal0 G__law_factors (hr.mono (by decide)) (by rfl) (pa_cons (pe_slice sl_seq (pv 0) (po_some pe_int) (po_some (pe_op op_add pe_int (pe_op op_modN (pe_cal0 G__law_cell_at (hr.mono (by decide)) (by rfl) (pa_cons (pv 0) (pa_cons pe_int pa_nil))) pe_int)))) pa_nil)))
      (pss_cons (ps_set (i := 2) sc_law.nd rfl (by first | exact Or.inl rfl | exact Or.inr rfl) (pe_op op_sub (pe_op op_modN (pe_cal0 G__law_cell_at (hr.mono (by decide)) (by rfl) (pa_cons (pv 0) (pa_cons pe_int pa_nil))) pe_int) pe_int))
      (pss_cons (ps_set (i := 3) sc_law.nd rfl (by first | exact Or.inl rfl | exact Or.inr rfl) (pe_op op_catS (pe_cal0 G__law_made (hr.mono (by decide)) (by rfl) (pa_cons (pv 1) (pa_cons (pe_slice sl_seq (pv 0) (po_some pe_int) (po_some pe_int)) (pa_cons (pv 2) pa_nil)))) (pe_lc (own := [("_law_k", 7)]) (g := (gName 7)) (tt := tYes) rfl sc_law.nd (pi_range1 (by rfl) T.b_range (pa_cons (pe_op op_modN (pe_cal0 G__law_cell_at (hr.mono (by decide)) (by rfl) (pa_cons (pv 0) (pa_cons pe_int pa_nil))) pe_int) pa_nil)) (blkOk_by (N := N_law) (sc := defScope s_law) (by decide +kernel)) (fun _ _ _ _ _ => (pg_name (i := 7) sc_law.nd rfl (by first | exact Or.inl rfl | exact Or.inr rfl))) (fun _ _ _ _ _ => pts_nil) (fun _ _ _ _ _ => pe_int))))
      (pss_cons (ps_if (PW.pt (pw_or (pt_cmpR (op_eqD hr.units) (pv 2) pe_int (nomark _)) (pw_or1 (pt_cmpR (op_eqD hr.units) (pv 1) (pe_lst pa_nil) (nomark _))))) (pss_one (ps_ret (pe_and (pe_cal0 G__law_refused (hr.mono (by decide)) (by rfl) (pa_cons (pe_callTy call_list_of (by rfl) T.b_list (by rfl) (pa_cons (pv 3) pa_nil)) pa_nil)) (pe_and (pe_cal0 G__law_refused (hr.mono (by decide)) (by rfl) (pa_cons (pe_callTy call_tuple_of (by rfl) T.b_tuple (by rfl) (pa_cons (pv 3) pa_nil)) pa_nil)) (pe_one (pe_cal0 G__law_refused (hr.mono (by decide)) (by rfl) (pa_cons (pe_lst pa_nil) pa_nil))))))) pss_nil)
      (pss_cons (ps_set (i := 4) sc_law.nd rfl (by first | exact Or.inl rfl | exact Or.inr rfl) (pe_callTy call_list_of (by rfl) T.b_list (by rfl) (pa_cons (pv 3) pa_nil)))
      (pss_cons (ps_set (i := 5) sc_law.nd rfl (by first | exact Or.inl rfl | exact Or.inr rfl) (pe_calX G_plain (hr.mono (by decide)) (by rfl) (pa_cons (pv 4) pa_nil)))
      (pss_cons (ps_if (PW.pt (pw_or (pt_not (pt_truth (pe_callB call_isi (by rfl) T.b_isinstance (by rfl) (pa_cons (pv 5) (pa_cons (pe_bltn (v := .ty "list") (by rfl) T.b_list (by rfl) rfl) pa_nil))) (by intro _; rfl))) (pw_or (pt_cmpR (op_neD hr.units) (pv 4) (pv 3) (nomark _)) (pw_or1 (pt_cmpR op_gt (pe_callB call_len_seq (by rfl) T.b_len PySem.boot_len (pa_cons (pe_lc (own := [("_law_one", 8)]) (g := (gName 8)) (tt := (tNot (tTruth K (tCall (sp__law_whole K) [] E0 (tCons (tVar 8) tNil))))) rfl sc_law.nd (pi_seq (pv 5)) (blkOk_by (N := N_law) (sc := defScope s_law) (by decide +kernel)) (fun _ _ _ _ _ => (pg_name (i := 8) sc_law.nd rfl (by first | exact Or.inl rfl | exact Or.inr rfl))) (fun _ _ _ _ _ => (pts_one (pt_not (pt_truth (pe_cal0 G__law_whole (hr.mono (by decide)) (by rfl) (pa_cons (pv 8) pa_nil)) (by intro _; rfl))))) (fun _ _ _ _ _ => (pv 8))) pa_nil)) pe_int (nomark _)))))) (pss_one (ps_ret pe_bl)) pss_nil)
      (pss_cons (ps_set (i := 6) sc_law.nd rfl (by first | exact Or.inl rfl | exact Or.inr rfl) (pe_cal0 G__law_made (hr.mono (by decide)) (by rfl) (pa_cons (pv 1) (pa_cons (pe_lst pa_nil) (pa_cons pe_int pa_nil)))))
      (pss_cons (ps_if (pt_cmpR (op_neD hr.units) (pv 5) (pv 6) (nomark _)) (pss_one (ps_ret pe_bl)) pss_nil)
      (pss_cons (ps_if (PW.pt (pw_or (pt_cmpR (op_neD hr.units) (pe_calX G_plain (hr.mono (by decide)) (by rfl) (pa_cons (pe_lst (pa_cons pe_int (pa_cons pe_int (pa_cons pe_int pa_nil)))) pa_nil)) (pe_lst (pa_cons pe_int (pa_cons pe_int pa_nil))) (nomark _)) (pw_or1 (pt_cmpR (op_neD hr.units) (pv 5) (pv 6) (nomark _))))) (pss_one (ps_ret pe_bl)) pss_nil)
      (pss_cons (ps_expr (pe_bm PySem.F.plainAttrs_list PySem.F.slot_list_append PySem.F.type_list_append mt_append (pv 5) (pa_cons pe_int pa_nil)))
      (pss_one (ps_ret (pe_and (pe_cmpR (op_eqD hr.units) (pe_calX G_plain (hr.mono (by decide)) (by rfl) (pa_cons (pv 4) pa_nil)) (pv 6) (nomark _)) (pe_and (pe_cmpR (op_eqD hr.units) (pe_calX G_plain (hr.mono (by decide)) (by rfl) (pa_cons (pe_callTy call_tuple_of (by rfl) T.b_tuple (by rfl) (pa_cons (pv 3) pa_nil)) pa_nil)) (pv 6) (nomark _)) (pe_one (pe_cmpR (op_eqD hr.units) (pv 4) (pv 3) (nomark _)))))))))))))))))))
    (fun ds r h B0 B => pure_law ds r h B0 B)
end
theorem all_mk {l : PySem.W.OpenLaw} {w : World} {K : PySem.W.Frag} {h : Heap} {mg : Str → Option Value} {fa : Addr} {C_PegError C_NoPart C_NoRow C_NoStretch C_NotAlone C_NoQuotient : Addr} (X : K.In h) (G : h.Ns mainGlobals mg) (hfa : mg "law" = some (.ref fa))
    {f_plain f_trimmed f_bare f_slope f_common_row f_remainder f_quotient f_lowered f__law_whole f__law_cell_at f__law_divisor f__law_part f__law_by f__law_factor f__law_factors f__law_made f__law_refused f_law : Addr} {od_plain an_plain od_trimmed an_trimmed od_bare an_bare od_slope an_slope od_common_row an_common_row od_remainder an_remainder od_quotient an_quotient od_lowered an_lowered od__law_whole an__law_whole od__law_cell_at an__law_cell_at od__law_divisor an__law_divisor od__law_part an__law_part od__law_by an__law_by od__law_factor an__law_factor od__law_factors an__law_factors od__law_made an__law_made od__law_refused an__law_refused od_law an_law : Option Addr} {sl_plain sl_trimmed sl_bare sl_slope sl_common_row sl_remainder sl_quotient sl_lowered sl__law_whole sl__law_cell_at sl__law_divisor sl__law_part sl__law_by sl__law_factor sl__law_factors sl__law_made sl__law_refused sl_law : Array (Option Value)} {oc_plain kV_plain dc_plain pm_plain cd_plain ct_plain oc_trimmed kV_trimmed dc_trimmed pm_trimmed cd_trimmed ct_trimmed oc_bare kV_bare dc_bare pm_bare cd_bare ct_bare oc_slope kV_slope dc_slope pm_slope cd_slope ct_slope oc_common_row kV_common_row dc_common_row pm_common_row cd_common_row ct_common_row oc_remainder kV_remainder dc_remainder pm_remainder cd_remainder ct_remainder oc_quotient kV_quotient dc_quotient pm_quotient cd_quotient ct_quotient oc_lowered kV_lowered dc_lowered pm_lowered cd_lowered ct_lowered oc__law_whole kV__law_whole dc__law_whole pm__law_whole cd__law_whole ct__law_whole oc__law_cell_at kV__law_cell_at dc__law_cell_at pm__law_cell_at cd__law_cell_at ct__law_cell_at oc__law_divisor kV__law_divisor dc__law_divisor pm__law_divisor cd__law_divisor ct__law_divisor oc__law_part kV__law_part dc__law_part pm__law_part cd__law_part ct__law_part oc__law_by kV__law_by dc__law_by pm__law_by cd__law_by ct__law_by oc__law_factor kV__law_factor dc__law_factor pm__law_factor cd__law_factor ct__law_factor oc__law_factors kV__law_factors dc__law_factors pm__law_factors cd__law_factors ct__law_factors oc__law_made kV__law_made dc__law_made pm__law_made cd__law_made ct__law_made oc__law_refused kV__law_refused dc__law_refused pm__law_refused cd__law_refused ct__law_refused oc_law kV_law dc_law pm_law cd_law ct_law : Value}
    {bm : Addr} {obd : Data} {obs : Array (Option Value)}
    (a_PegError : PySem.W.nsIn K mainGlobals "PegError" = some (some (.ref C_PegError)))
    (a_NoPart : PySem.W.nsIn K mainGlobals "NoPart" = some (some (.ref C_NoPart)))
    (a_NoRow : PySem.W.nsIn K mainGlobals "NoRow" = some (some (.ref C_NoRow)))
    (a_NoStretch : PySem.W.nsIn K mainGlobals "NoStretch" = some (some (.ref C_NoStretch)))
    (a_NotAlone : PySem.W.nsIn K mainGlobals "NotAlone" = some (some (.ref C_NotAlone)))
    (a_NoQuotient : PySem.W.nsIn K mainGlobals "NoQuotient" = some (some (.ref C_NoQuotient)))
    (a_plain : PySem.W.nsIn K mainGlobals "plain" = some (some (.ref f_plain)))
    (l_plain : K.lookup f_plain = some ⟨oc_plain, od_plain, .func (PySem.W.fnOf "plain" "plain" (defArgs s_plain) (defBody s_plain) (defScope s_plain) .none kV_plain dc_plain pm_plain an_plain cd_plain ct_plain), sl_plain⟩)
    (c_plain : PySem.W.codeIn K cd_plain "plain" = true)
    (k_plain : PySem.W.keepIn K (.ref f_plain) = true)
    (a_trimmed : PySem.W.nsIn K mainGlobals "trimmed" = some (some (.ref f_trimmed)))
    (l_trimmed : K.lookup f_trimmed = some ⟨oc_trimmed, od_trimmed, .func (PySem.W.fnOf "trimmed" "trimmed" (defArgs s_trimmed) (defBody s_trimmed) (defScope s_trimmed) .none kV_trimmed dc_trimmed pm_trimmed an_trimmed cd_trimmed ct_trimmed), sl_trimmed⟩)
    (c_trimmed : PySem.W.codeIn K cd_trimmed "trimmed" = true)
    (k_trimmed : PySem.W.keepIn K (.ref f_trimmed) = true)
    (a_bare : PySem.W.nsIn K mainGlobals "bare" = some (some (.ref f_bare)))
    (l_bare : K.lookup f_bare = some ⟨oc_bare, od_bare, .func (PySem.W.fnOf "bare" "bare" (defArgs s_bare) (defBody s_bare) (defScope s_bare) .none kV_bare dc_bare pm_bare an_bare cd_bare ct_bare), sl_bare⟩)
    (c_bare : PySem.W.codeIn K cd_bare "bare" = true)
    (k_bare : PySem.W.keepIn K (.ref f_bare) = true)
    (a_slope : PySem.W.nsIn K mainGlobals "slope" = some (some (.ref f_slope)))
    (l_slope : K.lookup f_slope = some ⟨oc_slope, od_slope, .func (PySem.W.fnOf "slope" "slope" (defArgs s_slope) (defBody s_slope) (defScope s_slope) .none kV_slope dc_slope pm_slope an_slope cd_slope ct_slope), sl_slope⟩)
    (c_slope : PySem.W.codeIn K cd_slope "slope" = true)
    (k_slope : PySem.W.keepIn K (.ref f_slope) = true)
    (a_common_row : PySem.W.nsIn K mainGlobals "common_row" = some (some (.ref f_common_row)))
    (l_common_row : K.lookup f_common_row = some ⟨oc_common_row, od_common_row, .func (PySem.W.fnOf "common_row" "common_row" (defArgs s_common_row) (defBody s_common_row) (defScope s_common_row) .none kV_common_row dc_common_row pm_common_row an_common_row cd_common_row ct_common_row), sl_common_row⟩)
    (c_common_row : PySem.W.codeIn K cd_common_row "common_row" = true)
    (k_common_row : PySem.W.keepIn K (.ref f_common_row) = true)
    (a_remainder : PySem.W.nsIn K mainGlobals "remainder" = some (some (.ref f_remainder)))
    (l_remainder : K.lookup f_remainder = some ⟨oc_remainder, od_remainder, .func (PySem.W.fnOf "remainder" "remainder" (defArgs s_remainder) (defBody s_remainder) (defScope s_remainder) .none kV_remainder dc_remainder pm_remainder an_remainder cd_remainder ct_remainder), sl_remainder⟩)
    (c_remainder : PySem.W.codeIn K cd_remainder "remainder" = true)
    (k_remainder : PySem.W.keepIn K (.ref f_remainder) = true)
    (a_quotient : PySem.W.nsIn K mainGlobals "quotient" = some (some (.ref f_quotient)))
    (l_quotient : K.lookup f_quotient = some ⟨oc_quotient, od_quotient, .func (PySem.W.fnOf "quotient" "quotient" (defArgs s_quotient) (defBody s_quotient) (defScope s_quotient) .none kV_quotient dc_quotient pm_quotient an_quotient cd_quotient ct_quotient), sl_quotient⟩)
    (c_quotient : PySem.W.codeIn K cd_quotient "quotient" = true)
    (k_quotient : PySem.W.keepIn K (.ref f_quotient) = true)
    (a_lowered : PySem.W.nsIn K mainGlobals "lowered" = some (some (.ref f_lowered)))
    (l_lowered : K.lookup f_lowered = some ⟨oc_lowered, od_lowered, .func (PySem.W.fnOf "lowered" "lowered" (defArgs s_lowered) (defBody s_lowered) (defScope s_lowered) .none kV_lowered dc_lowered pm_lowered an_lowered cd_lowered ct_lowered), sl_lowered⟩)
    (c_lowered : PySem.W.codeIn K cd_lowered "lowered" = true)
    (k_lowered : PySem.W.keepIn K (.ref f_lowered) = true)
    (a__law_whole : PySem.W.nsIn K mainGlobals "_law_whole" = some (some (.ref f__law_whole)))
    (l__law_whole : K.lookup f__law_whole = some ⟨oc__law_whole, od__law_whole, .func (PySem.W.fnOf "_law_whole" "_law_whole" (defArgs s__law_whole) (defBody s__law_whole) (defScope s__law_whole) .none kV__law_whole dc__law_whole pm__law_whole an__law_whole cd__law_whole ct__law_whole), sl__law_whole⟩)
    (c__law_whole : PySem.W.codeIn K cd__law_whole "_law_whole" = true)
    (k__law_whole : PySem.W.keepIn K (.ref f__law_whole) = true)
    (a__law_cell_at : PySem.W.nsIn K mainGlobals "_law_cell_at" = some (some (.ref f__law_cell_at)))
    (l__law_cell_at : K.lookup f__law_cell_at = some ⟨oc__law_cell_at, od__law_cell_at, .func (PySem.W.fnOf "_law_cell_at" "_law_cell_at" (defArgs s__law_cell_at) (defBody s__law_cell_at) (defScope s__law_cell_at) .none kV__law_cell_at dc__law_cell_at pm__law_cell_at an__law_cell_at cd__law_cell_at ct__law_cell_at), sl__law_cell_at⟩)
    (c__law_cell_at : PySem.W.codeIn K cd__law_cell_at "_law_cell_at" = true)
    (k__law_cell_at : PySem.W.keepIn K (.ref f__law_cell_at) = true)
    (a__law_divisor : PySem.W.nsIn K mainGlobals "_law_divisor" = some (some (.ref f__law_divisor)))
    (l__law_divisor : K.lookup f__law_divisor = some ⟨oc__law_divisor, od__law_divisor, .func (PySem.W.fnOf "_law_divisor" "_law_divisor" (defArgs s__law_divisor) (defBody s__law_divisor) (defScope s__law_divisor) .none kV__law_divisor dc__law_divisor pm__law_divisor an__law_divisor cd__law_divisor ct__law_divisor), sl__law_divisor⟩)
    (c__law_divisor : PySem.W.codeIn K cd__law_divisor "_law_divisor" = true)
    (k__law_divisor : PySem.W.keepIn K (.ref f__law_divisor) = true)
    (a__law_part : PySem.W.nsIn K mainGlobals "_law_part" = some (some (.ref f__law_part)))
    (l__law_part : K.lookup f__law_part = some ⟨oc__law_part, od__law_part, .func (PySem.W.fnOf "_law_part" "_law_part" (defArgs s__law_part) (defBody s__law_part) (defScope s__law_part) .none kV__law_part dc__law_part pm__law_part an__law_part cd__law_part ct__law_part), sl__law_part⟩)
    (c__law_part : PySem.W.codeIn K cd__law_part "_law_part" = true)
    (k__law_part : PySem.W.keepIn K (.ref f__law_part) = true)
    (a__law_by : PySem.W.nsIn K mainGlobals "_law_by" = some (some (.ref f__law_by)))
    (l__law_by : K.lookup f__law_by = some ⟨oc__law_by, od__law_by, .func (PySem.W.fnOf "_law_by" "_law_by" (defArgs s__law_by) (defBody s__law_by) (defScope s__law_by) .none kV__law_by dc__law_by pm__law_by an__law_by cd__law_by ct__law_by), sl__law_by⟩)
    (c__law_by : PySem.W.codeIn K cd__law_by "_law_by" = true)
    (k__law_by : PySem.W.keepIn K (.ref f__law_by) = true)
    (a__law_factor : PySem.W.nsIn K mainGlobals "_law_factor" = some (some (.ref f__law_factor)))
    (l__law_factor : K.lookup f__law_factor = some ⟨oc__law_factor, od__law_factor, .func (PySem.W.fnOf "_law_factor" "_law_factor" (defArgs s__law_factor) (defBody s__law_factor) (defScope s__law_factor) .none kV__law_factor dc__law_factor pm__law_factor an__law_factor cd__law_factor ct__law_factor), sl__law_factor⟩)
    (c__law_factor : PySem.W.codeIn K cd__law_factor "_law_factor" = true)
    (k__law_factor : PySem.W.keepIn K (.ref f__law_factor) = true)
    (a__law_factors : PySem.W.nsIn K mainGlobals "_law_factors" = some (some (.ref f__law_factors)))
    (l__law_factors : K.lookup f__law_factors = some ⟨oc__law_factors, od__law_factors, .func (PySem.W.fnOf "_law_factors" "_law_factors" (defArgs s__law_factors) (defBody s__law_factors) (defScope s__law_factors) .none kV__law_factors dc__law_factors pm__law_factors an__law_factors cd__law_factors ct__law_factors), sl__law_factors⟩)
    (c__law_factors : PySem.W.codeIn K cd__law_factors "_law_factors" = true)
    (k__law_factors : PySem.W.keepIn K (.ref f__law_factors) = true)
    (a__law_made : PySem.W.nsIn K mainGlobals "_law_made" = some (some (.ref f__law_made)))
    (l__law_made : K.lookup f__law_made = some ⟨oc__law_made, od__law_made, .func (PySem.W.fnOf "_law_made" "_law_made" (defArgs s__law_made) (defBody s__law_made) (defScope s__law_made) .none kV__law_made dc__law_made pm__law_made an__law_made cd__law_made ct__law_made), sl__law_made⟩)
    (c__law_made : PySem.W.codeIn K cd__law_made "_law_made" = true)
    (k__law_made : PySem.W.keepIn K (.ref f__law_made) = true)
    (a__law_refused : PySem.W.nsIn K mainGlobals "_law_refused" = some (some (.ref f__law_refused)))
    (l__law_refused : K.lookup f__law_refused = some ⟨oc__law_refused, od__law_refused, .func (PySem.W.fnOf "_law_refused" "_law_refused" (defArgs s__law_refused) (defBody s__law_refused) (defScope s__law_refused) .none kV__law_refused dc__law_refused pm__law_refused an__law_refused cd__law_refused ct__law_refused), sl__law_refused⟩)
    (c__law_refused : PySem.W.codeIn K cd__law_refused "_law_refused" = true)
    (k__law_refused : PySem.W.keepIn K (.ref f__law_refused) = true)
    (a_law : PySem.W.nsIn K mainGlobals "law" = some (some (.ref f_law)))
    (l_law : K.lookup f_law = some ⟨oc_law, od_law, .func (PySem.W.fnOf "law" "law" (defArgs s_law) (defBody s_law) (defScope s_law) .none kV_law dc_law pm_law an_law cd_law ct_law), sl_law⟩)
    (c_law : PySem.W.codeIn K cd_law "law" = true)
    (k_law : PySem.W.keepIn K (.ref f_law) = true)
    (n_1 : PySem.W.nsOkIn K cStatics = true)
    (n_2 : PySem.W.nsIn K cStatics "sys.audit-hooks" = some none)
    (n_3 : PySem.W.nsIn K cStatics "sys.dict" = some none)
    (n_4 : PySem.W.nsOkIn K sysModules = true)
    (n_5 : PySem.W.nsIn K sysModules "_pylong" = some none)
    (n_6 : PySem.W.nsIn K mainGlobals "__builtins__" = some (some (.ref bm)))
    (n_7 : K.lookup bm = some ⟨.type "module", some builtinsNs, obd, obs⟩)
    (n_8 : l.prog.given.tree = none)
    (z_len : PySem.W.nsIn K mainGlobals "len" = some none)
    (z_list : PySem.W.nsIn K mainGlobals "list" = some none)
    (z_gcd : PySem.W.nsIn K mainGlobals "gcd" = some (some (.builtin "math.gcd")))
    (z_range : PySem.W.nsIn K mainGlobals "range" = some none)
    (z_zip : PySem.W.nsIn K mainGlobals "zip" = some none)
    (z_int : PySem.W.nsIn K mainGlobals "int" = some none)
    (z_isinstance : PySem.W.nsIn K mainGlobals "isinstance" = some none)
    (z_bool : PySem.W.nsIn K mainGlobals "bool" = some none)
    (z_abs : PySem.W.nsIn K mainGlobals "abs" = some none)
    (z_ValueError : PySem.W.nsIn K mainGlobals "ValueError" = some none)
    (z_tuple : PySem.W.nsIn K mainGlobals "tuple" = some none)
    (x_NoRow : PySem.W.excIn K C_NoRow [.type "ValueError", .type "Exception", .type "BaseException", .type "object"] "ValueError.__new__" = true)
    (kc_NoRow : PySem.W.keepIn K (.ref C_NoRow) = true)
    (s_NoRow : PySem.W.subIn K (.ref C_NoRow) (.type "BaseException") = some true)
    (t_NoRow : PySem.W.typeIn K (.ref C_NoRow) = some (.type "type"))
    (eg_NoRow : PySem.W.findIn K (.ref C_NoRow) "__getattribute__" = some (some (.builtin "BaseException.__getattribute__")))
    (ek_NoRow : PySem.W.findIn K (.ref C_NoRow) "__getattr__" = some none)
    (ed_NoRow : PySem.W.hasDictIn K C_NoRow = true)
    (ea_NoRow : PySem.W.findIn K (.ref C_NoRow) "__class__" = some (some (.builtin "object.__class__")))
    (en_NoRow : PySem.W.specialIn K (.builtin "object.__class__") "__get__" = some (some (.builtin "getset_descriptor.__get__")))
    (et_NoRow : PySem.W.takesIn K (.builtin "object.__class__") = some true)
    (eo_NoRow : PySem.W.mroIn K C_NoRow (.type "object") = some true)
    (bs_PegError : PySem.W.subIn K (.ref C_PegError) (.type "BaseException") = some true)
    (bd_PegError : PySem.W.hasDictIn K C_PegError = true)
    (bt_PegError : PySem.W.typeIn K (.ref C_PegError) = some (.type "type"))
    (bm_PegError : PySem.W.subIn K (.ref C_NoRow) (.ref C_PegError) = some true)
    (i_NoPart : PySem.W.kitOne K (.ref C_NoRow) (.ref C_NoPart) = some false)
    (i_NoQuotient : PySem.W.kitOne K (.ref C_NoRow) (.ref C_NoQuotient) = some false)
    (i_NoStretch : PySem.W.kitOne K (.ref C_NoRow) (.ref C_NoStretch) = some false)
    (i_NotAlone : PySem.W.kitOne K (.ref C_NoRow) (.ref C_NotAlone) = some false)
    (i_NoRow : PySem.W.kitOne K (.ref C_NoRow) (.ref C_NoRow) = some true)
    (i_ValueError : PySem.W.kitOne K (.ref C_NoRow) (.type "ValueError") = some true)
    : ∃ fd : FuncData, (∀ (s : Shared) (v : Value), BindsTo s fd ⟨[v], []⟩ [("_law_script", v)]) ∧ ∀ base : Heap, K.In base → base.Ns mainGlobals mg → FnOk l.prog w K mg base CX0 46 fa fd ["_law_script"] (sp_law K) := by
  have e := hfa.symm.trans (PySem.W.mg_of X G a_law)
  cases e
  have T : Txt K mg C_PegError C_NoPart C_NoRow C_NoStretch C_NotAlone C_NoQuotient := { b_len := PySem.W.mg_none_of X G z_len, b_list := PySem.W.mg_none_of X G z_list, b_gcd := PySem.W.mg_of X G z_gcd, b_range := PySem.W.mg_none_of X G z_range, b_zip := PySem.W.mg_none_of X G z_zip, b_int := PySem.W.mg_none_of X G z_int, b_isinstance := PySem.W.mg_none_of X G z_isinstance, b_bool := PySem.W.mg_none_of X G z_bool, b_abs := PySem.W.mg_none_of X G z_abs, b_ValueError := PySem.W.mg_none_of X G z_ValueError, b_tuple := PySem.W.mg_none_of X G z_tuple, m_PegError := PySem.W.mg_of X G a_PegError, m_NoPart := PySem.W.mg_of X G a_NoPart, m_NoRow := PySem.W.mg_of X G a_NoRow, m_NoStretch := PySem.W.mg_of X G a_NoStretch, m_NotAlone := PySem.W.mg_of X G a_NotAlone, m_NoQuotient := PySem.W.mg_of X G a_NoQuotient, x_NoRow := x_NoRow, k_NoRow := kc_NoRow, s_NoRow := s_NoRow, t_NoRow := t_NoRow, e_NoRow := ⟨eg_NoRow, ek_NoRow, s_NoRow, ed_NoRow, ea_NoRow, en_NoRow, et_NoRow, eo_NoRow⟩, em_NoRow := PySem.W.exm_ref bs_PegError bd_PegError bt_PegError bm_PegError, i_NoPart := i_NoPart, i_NoQuotient := i_NoQuotient, i_NoStretch := i_NoStretch, i_NotAlone := i_NotAlone, i_NoRow := i_NoRow, i_ValueError := i_ValueError }
  have F_plain' := fun_mk (st := s_plain) l_plain c_plain k_plain
  have b_plain' := F_plain'.binds (ps := ["row"]) fun _ _ _ _ _ _ us hl => match us, hl with | [_], _ => rfl
  have F_trimmed' := fun_mk (st := s_trimmed) l_trimmed c_trimmed k_trimmed
  have b_trimmed' := F_trimmed'.binds (ps := ["row"]) fun _ _ _ _ _ _ us hl => match us, hl with | [_], _ => rfl
  have F_bare' := fun_mk (st := s_bare) l_bare c_bare k_bare
  have b_bare' := F_bare'.binds (ps := ["row"]) fun _ _ _ _ _ _ us hl => match us, hl with | [_], _ => rfl
  have F_slope' := fun_mk (st := s_slope) l_slope c_slope k_slope
  have b_slope' := F_slope'.binds (ps := ["row"]) fun _ _ _ _ _ _ us hl => match us, hl with | [_], _ => rfl
  have F_common_row' := fun_mk (st := s_common_row) l_common_row c_common_row k_common_row
  have b_common_row' := F_common_row'.binds (ps := ["one", "other"]) fun _ _ _ _ _ _ us hl => match us, hl with | [_, _], _ => rfl
  have F_remainder' := fun_mk (st := s_remainder) l_remainder c_remainder k_remainder
  have b_remainder' := F_remainder'.binds (ps := ["row", "other"]) fun _ _ _ _ _ _ us hl => match us, hl with | [_, _], _ => rfl
  have F_quotient' := fun_mk (st := s_quotient) l_quotient c_quotient k_quotient
  have b_quotient' := F_quotient'.binds (ps := ["row", "other"]) fun _ _ _ _ _ _ us hl => match us, hl with | [_, _], _ => rfl
  have F_lowered' := fun_mk (st := s_lowered) l_lowered c_lowered k_lowered
  have b_lowered' := F_lowered'.binds (ps := ["row", "other", "factor"]) fun _ _ _ _ _ _ us hl => match us, hl with | [_, _, _], _ => rfl
  have F__law_whole' := fun_mk (st := s__law_whole) l__law_whole c__law_whole k__law_whole
  have b__law_whole' := F__law_whole'.binds (ps := ["_law_found"]) fun _ _ _ _ _ _ us hl => match us, hl with | [_], _ => rfl
  have F__law_cell_at' := fun_mk (st := s__law_cell_at) l__law_cell_at c__law_cell_at k__law_cell_at
  have b__law_cell_at' := F__law_cell_at'.binds (ps := ["_law_script", "_law_k"]) fun _ _ _ _ _ _ us hl => match us, hl with | [_, _], _ => rfl
  have F__law_divisor' := fun_mk (st := s__law_divisor) l__law_divisor c__law_divisor k__law_divisor
  have b__law_divisor' := F__law_divisor'.binds (ps := ["_law_one", "_law_other"]) fun _ _ _ _ _ _ us hl => match us, hl with | [_, _], _ => rfl
  have F__law_part' := fun_mk (st := s__law_part) l__law_part c__law_part k__law_part
  have b__law_part' := F__law_part'.binds (ps := ["_law_top", "_law_bottom"]) fun _ _ _ _ _ _ us hl => match us, hl with | [_, _], _ => rfl
  have F__law_by' := fun_mk (st := s__law_by) l__law_by c__law_by k__law_by
  have b__law_by' := F__law_by'.binds (ps := ["_law_row", "_law_other"]) fun _ _ _ _ _ _ us hl => match us, hl with | [_, _], _ => rfl
  have F__law_factor' := fun_mk (st := s__law_factor) l__law_factor c__law_factor k__law_factor
  have b__law_factor' := F__law_factor'.binds (ps := ["_law_cell"]) fun _ _ _ _ _ _ us hl => match us, hl with | [_], _ => rfl
  have F__law_factors' := fun_mk (st := s__law_factors) l__law_factors c__law_factors k__law_factors
  have b__law_factors' := F__law_factors'.binds (ps := ["_law_cells"]) fun _ _ _ _ _ _ us hl => match us, hl with | [_], _ => rfl
  have F__law_made' := fun_mk (st := s__law_made) l__law_made c__law_made k__law_made
  have b__law_made' := F__law_made'.binds (ps := ["_law_factors_here", "_law_cells", "_law_many"]) fun _ _ _ _ _ _ us hl => match us, hl with | [_, _, _], _ => rfl
  have F__law_refused' := fun_mk (st := s__law_refused) l__law_refused c__law_refused k__law_refused
  have b__law_refused' := F__law_refused'.binds (ps := ["_law_row"]) fun _ _ _ _ _ _ us hl => match us, hl with | [_], _ => rfl
  have F_law' := fun_mk (st := s_law) l_law c_law k_law
  have b_law' := F_law'.binds (ps := ["_law_script"]) fun _ _ _ _ _ _ us hl => match us, hl with | [_], _ => rfl
  refine ⟨PySem.W.fnOf "law" "law" (defArgs s_law) (defBody s_law) (defScope s_law) .none kV_law dc_law pm_law an_law cd_law ct_law, fun s v => .of_eq rfl, fun base KB GB => ?_⟩
  have S : Seer l.prog base := seer_of n_8 KB GB n_1 n_2 n_3 n_4 n_5 n_6 n_7
  have G__law_cell_at : Cal l.prog w K mg base CX0 41 "_law_cell_at" ["_law_script", "_law_k"] (sp__law_cell_at K) := ⟨f__law_cell_at, _, ok__law_cell_at F__law_cell_at' T S, PySem.W.mg_of X G a__law_cell_at, k__law_cell_at, b__law_cell_at'⟩
  have G__law_divisor : Cal l.prog w K mg base CX0 41 "_law_divisor" ["_law_one", "_law_other"] (sp__law_divisor K) := ⟨f__law_divisor, _, ok__law_divisor F__law_divisor' T S, PySem.W.mg_of X G a__law_divisor, k__law_divisor, b__law_divisor'⟩
  have G__law_part : Cal l.prog w K mg base CX0 42 "_law_part" ["_law_top", "_law_bottom"] (sp__law_part K) := ⟨f__law_part, _, ok__law_part F__law_part' T G__law_divisor S, PySem.W.mg_of X G a__law_part, k__law_part, b__law_part'⟩
  have G__law_factor : Cal l.prog w K mg base CX0 43 "_law_factor" ["_law_cell"] (sp__law_factor K) := ⟨f__law_factor, _, ok__law_factor F__law_factor' T G__law_divisor G__law_part S, PySem.W.mg_of X G a__law_factor, k__law_factor, b__law_factor'⟩
  have G__law_factors : Cal l.prog w K mg base CX0 44 "_law_factors" ["_law_cells"] (sp__law_factors K) := ⟨f__law_factors, _, ok__law_factors F__law_factors' T G__law_factor S, PySem.W.mg_of X G a__law_factors, k__law_factors, b__law_factors'⟩
  have G__law_by : Cal l.prog w K mg base CX0 41 "_law_by" ["_law_row", "_law_other"] (sp__law_by K) := ⟨f__law_by, _, ok__law_by F__law_by' T S, PySem.W.mg_of X G a__law_by, k__law_by, b__law_by'⟩
  have G__law_made : Cal l.prog w K mg base CX0 42 "_law_made" ["_law_factors_here", "_law_cells", "_law_many"] (sp__law_made K) := ⟨f__law_made, _, ok__law_made F__law_made' T G__law_by S, PySem.W.mg_of X G a__law_made, k__law_made, b__law_made'⟩
  have G_trimmed : Cal l.prog w K mg base CX0 41 "trimmed" ["row"] (sp_trimmed K) := ⟨f_trimmed, _, ok_trimmed F_trimmed' T S, PySem.W.mg_of X G a_trimmed, k_trimmed, b_trimmed'⟩
  have G_bare : Cal l.prog w K mg base CX0 41 "bare" ["row"] (sp_bare K) := ⟨f_bare, _, ok_bare F_bare' T S, PySem.W.mg_of X G a_bare, k_bare, b_bare'⟩
  have G_slope : Cal l.prog w K mg base CX0 41 "slope" ["row"] (sp_slope K) := ⟨f_slope, _, ok_slope F_slope' T S, PySem.W.mg_of X G a_slope, k_slope, b_slope'⟩
  have G_lowered : Cal l.prog w K mg base CX0 41 "lowered" ["row", "other", "factor"] (sp_lowered K) := ⟨f_lowered, _, ok_lowered F_lowered' T S, PySem.W.mg_of X G a_lowered, k_lowered, b_lowered'⟩
  have G_remainder : Cal l.prog w K mg base CX0 42 "remainder" ["row", "other"] (sp_remainder K) := ⟨f_remainder, _, ok_remainder F_remainder' T G_lowered G_trimmed S, PySem.W.mg_of X G a_remainder, k_remainder, b_remainder'⟩
  have G_common_row : Cal l.prog w K mg base CX0 43 "common_row" ["one", "other"] (sp_common_row K) := ⟨f_common_row, _, ok_common_row F_common_row' T G_remainder G_bare S, PySem.W.mg_of X G a_common_row, k_common_row, b_common_row'⟩
  have G_quotient : Cal l.prog w K mg base CX0 42 "quotient" ["row", "other"] (sp_quotient K) := ⟨f_quotient, _, ok_quotient F_quotient' T G_lowered S, PySem.W.mg_of X G a_quotient, k_quotient, b_quotient'⟩
  have G_plain : Cal l.prog w K mg base (L2.CX l.prog w) 44 "plain" ["row"] (sp_plain K C_NoRow) := ⟨f_plain, _, ok_plain F_plain' T G_trimmed G_bare G_slope G_common_row G_quotient S, PySem.W.mg_of X G a_plain, k_plain, b_plain'⟩
  have G__law_refused : Cal l.prog w K mg base CX0 45 "_law_refused" ["_law_row"] (sp__law_refused K) := ⟨f__law_refused, _, ok__law_refused F__law_refused' T G_plain S, PySem.W.mg_of X G a__law_refused, k__law_refused, b__law_refused'⟩
  have G__law_whole : Cal l.prog w K mg base CX0 41 "_law_whole" ["_law_found"] (sp__law_whole K) := ⟨f__law_whole, _, ok__law_whole F__law_whole' T S, PySem.W.mg_of X G a__law_whole, k__law_whole, b__law_whole'⟩
  exact ok_law F_law' T G__law_cell_at G__law_factors G__law_made G__law_refused G_plain G__law_whole S
theorem walk {l : PySem.W.OpenLaw} {q : Program} {loose : List Str} {XP : (Str → Option Value) → Heap → Prop} {YP : World → Heap → Prop} {d : DefRec} {K : Params → PySem.W.Frag} (hn : l.most = some 63) (hdf : d.params.defaults = [])
    (hY : ∀ (w : World) (h : Heap), YP w h → (K w.params).In h)
    (F : ∀ (w : World) (mg : Str → Option Value) (fa : Addr) (h : Heap), (K w.params).In h → h.Ns mainGlobals mg → mg d.name = some (.ref fa) →
      ∃ fd : FuncData, (∀ (s : Shared) (u : Value), BindsTo s fd ⟨[u], []⟩ [("_law_script", u)]) ∧ ∀ base : Heap, (K w.params).In base → base.Ns mainGlobals mg → FnOk l.prog w (K w.params) mg base CX0 46 fa fd ["_law_script"] (sp_law (K w.params))) :
    PySem.W.WalkO q loose XP YP l.row.toRowW d [] (fun f vs => PySem.call f vs) :=
  L2.walk_of (n := 63) (k := 46) (x := "_law_script") (CX := fun _ => CX0) (sp := fun w => sp_law (K w.params)) hn (by decide) hdf ⟨rfl, by decide, by decide⟩ hY F
    (fun _ H a ns hl _ hS => ⟨rfl, H, [.list (ns.map .int)], .rt (.bool true), Ex.refl H, .cons (.lst hS dpa_ints) .nil, ⟨ns, hl, rfl, rfl⟩, fun v G2 H2 _ hv => dp_bl hv⟩) fun _ _ _ _ _ z => z
end K04
open PySem PySem.W PySem.Calls PyProof.Rows
open_top hd for PySem.Challenge.rw_rootpeg_k04_the_plain_row
namespace K04
noncomputable def o1 (p : Params) : Obj := ((absHeap (hd.tree_383 p) 39 {}).get? 1).getD { cls := Value.none }
noncomputable def heapK (p : Params) : PySem.W.Frag := hd.heap_39 p ++ [(4, { cls := Value.type "module", dict := some builtinsNs }), (1, o1 p)]
theorem keysK (p : Params) : [2, 3, 43, 50, 51, 52, 53, 56, 63, 64, 65, 68, 75, 76, 77, 80, 87, 88, 89, 92, 99, 100, 101, 104, 111, 112, 113, 116, 118, 119, 121, 122, 123, 125, 126, 128, 129, 130, 133, 134, 135, 138, 139, 140, 142, 143, 145, 146, 147, 150, 151, 152, 154, 155, 157, 158, 159, 162, 163, 164, 166, 167, 169, 170, 171, 173, 174, 176, 177, 178, 180, 181, 183, 184, 185, 187, 188, 190, 191, 192, 195, 196, 197, 199, 200, 202, 203, 204, 206, 207, 209, 210, 211, 213, 214, 216, 217, 218, 220, 221, 223, 224, 225, 228, 229, 4, 1] = List.map (fun x => x.fst) (heapK p) := rfl
end K04
set_option maxRecDepth 100000 in
set_option maxHeartbeats 0 in
theorem PySem.Challenge.cw_rootpeg_k04_the_plain_row_holds : PySem.Challenge.rw_rootpeg_k04_the_plain_row.Holds := by
  w_on; o_law; o_head (kHook K04.heapK [2, 3, 43, 50, 51, 52, 53, 56, 63, 64, 65, 68, 75, 76, 77, 80, 87, 88, 89, 92, 99, 100, 101, 104, 111, 112, 113, 116, 118, 119, 121, 122, 123, 125, 126, 128, 129, 130, 133, 134, 135, 138, 139, 140, 142, 143, 145, 146, 147, 150, 151, 152, 154, 155, 157, 158, 159, 162, 163, 164, 166, 167, 169, 170, 171, 173, 174, 176, 177, 178, 180, 181, 183, 184, 185, 187, 188, 190, 191, 192, 195, 196, 197, 199, 200, 202, 203, 204, 206, 207, 209, 210, 211, 213, 214, 216, 217, 218, 220, 221, 223, 224, 225, 228, 229, 4, 1] K04.keysK); (case hw => w_witness2)
  refine K04.walk (K := K04.heapK) (l := PySem.Challenge.rw_rootpeg_k04_the_plain_row) rfl rfl (fun w h Y => PySem.W.kIn_of Y) ?F
  case F =>
    intro w mg fa h KX G hmg
    refine' K04.all_mk KX G hmg ?a_PegError ?a_NoPart ?a_NoRow ?a_NoStretch ?a_NotAlone ?a_NoQuotient ?a_plain ?l_plain ?c_plain ?k_plain ?a_trimmed ?l_trimmed ?c_trimmed ?k_trimmed ?a_bare ?l_bare ?c_bare ?k_bare ?a_slope ?l_slope ?c_slope ?k_slope ?a_common_row ?l_common_row ?c_common_row ?k_common_row ?a_remainder ?l_remainder ?c_remainder ?k_remainder ?a_quotient ?l_quotient ?c_quotient ?k_quotient ?a_lowered ?l_lowered ?c_lowered ?k_lowered ?a__law_whole ?l__law_whole ?c__law_whole ?k__law_whole ?a__law_cell_at ?l__law_cell_at ?c__law_cell_at ?k__law_cell_at ?a__law_divisor ?l__law_divisor ?c__law_divisor ?k__law_divisor ?a__law_part ?l__law_part ?c__law_part ?k__law_part ?a__law_by ?l__law_by ?c__law_by ?k__law_by ?a__law_factor ?l__law_factor ?c__law_factor ?k__law_factor ?a__law_factors ?l__law_factors ?c__law_factors ?k__law_factors ?a__law_made ?l__law_made ?c__law_made ?k__law_made ?a__law_refused ?l__law_refused ?c__law_refused ?k__law_refused ?a_law ?l_law ?c_law ?k_law ?n_1 ?n_2 ?n_3 ?n_4 ?n_5 ?n_6 ?n_7 ?n_8 ?z_len ?z_list ?z_gcd ?z_range ?z_zip ?z_int ?z_isinstance ?z_bool ?z_abs ?z_ValueError ?z_tuple ?x_NoRow ?kc_NoRow ?s_NoRow ?t_NoRow ?eg_NoRow ?ek_NoRow ?ed_NoRow ?ea_NoRow ?en_NoRow ?et_NoRow ?eo_NoRow ?bs_PegError ?bd_PegError ?bt_PegError ?bm_PegError ?i_NoPart ?i_NoQuotient ?i_NoStretch ?i_NotAlone ?i_NoRow ?i_ValueError
    (case a_PegError => first | rfl | kernel_rfl)
    (case a_NoPart => first | rfl | kernel_rfl)
    (case a_NoRow => first | rfl | kernel_rfl)
    (case a_NoStretch => first | rfl | kernel_rfl)
    (case a_NotAlone => first | rfl | kernel_rfl)
    (case a_NoQuotient => first | rfl | kernel_rfl)
    (case a_plain => first | rfl | kernel_rfl)
    (case l_plain => first | rfl | kernel_rfl)
    (case c_plain => first | rfl | kernel_rfl)
    (case k_plain => first | rfl | kernel_rfl)
    (case a_trimmed => first | rfl | kernel_rfl)
    (case l_trimmed => first | rfl | kernel_rfl)
    (case c_trimmed => first | rfl | kernel_rfl)
    (case k_trimmed => first | rfl | kernel_rfl)
    (case a_bare => first | rfl | kernel_rfl)
    (case l_bare => first | rfl | kernel_rfl)
    (case c_bare => first | rfl | kernel_rfl)
    (case k_bare => first | rfl | kernel_rfl)
    (case a_slope => first | rfl | kernel_rfl)
    (case l_slope => first | rfl | kernel_rfl)
    (case c_slope => first | rfl | kernel_rfl)
    (case k_slope => first | rfl | kernel_rfl)
    (case a_common_row => first | rfl | kernel_rfl)
    (case l_common_row => first | rfl | kernel_rfl)
    (case c_common_row => first | rfl | kernel_rfl)
    (case k_common_row => first | rfl | kernel_rfl)
    (case a_remainder => first | rfl | kernel_rfl)
    (case l_remainder => first | rfl | kernel_rfl)
    (case c_remainder => first | rfl | kernel_rfl)
    (case k_remainder => first | rfl | kernel_rfl)
    (case a_quotient => first | rfl | kernel_rfl)
    (case l_quotient => first | rfl | kernel_rfl)
    (case c_quotient => first | rfl | kernel_rfl)
    (case k_quotient => first | rfl | kernel_rfl)
    (case a_lowered => first | rfl | kernel_rfl)
    (case l_lowered => first | rfl | kernel_rfl)
    (case c_lowered => first | rfl | kernel_rfl)
    (case k_lowered => first | rfl | kernel_rfl)
    (case a__law_whole => first | rfl | kernel_rfl)
    (case l__law_whole => first | rfl | kernel_rfl)
    (case c__law_whole => first | rfl | kernel_rfl)
    (case k__law_whole => first | rfl | kernel_rfl)
    (case a__law_cell_at => first | rfl | kernel_rfl)
    (case l__law_cell_at => first | rfl | kernel_rfl)
    (case c__law_cell_at => first | rfl | kernel_rfl)
    (case k__law_cell_at => first | rfl | kernel_rfl)
    (case a__law_divisor => first | rfl | kernel_rfl)
    (case l__law_divisor => first | rfl | kernel_rfl)
    (case c__law_divisor => first | rfl | kernel_rfl)
    (case k__law_divisor => first | rfl | kernel_rfl)
    (case a__law_part => first | rfl | kernel_rfl)
    (case l__law_part => first | rfl | kernel_rfl)
    (case c__law_part => first | rfl | kernel_rfl)
    (case k__law_part => first | rfl | kernel_rfl)
    (case a__law_by => first | rfl | kernel_rfl)
    (case l__law_by => first | rfl | kernel_rfl)
    (case c__law_by => first | rfl | kernel_rfl)
    (case k__law_by => first | rfl | kernel_rfl)
    (case a__law_factor => first | rfl | kernel_rfl)
    (case l__law_factor => first | rfl | kernel_rfl)
    (case c__law_factor => first | rfl | kernel_rfl)
    (case k__law_factor => first | rfl | kernel_rfl)
    (case a__law_factors => first | rfl | kernel_rfl)
    (case l__law_factors => first | rfl | kernel_rfl)
    (case c__law_factors => first | rfl | kernel_rfl)
    (case k__law_factors => first | rfl | kernel_rfl)
    (case a__law_made => first | rfl | kernel_rfl)
    (case l__law_made => first | rfl | kernel_rfl)
    (case c__law_made => first | rfl | kernel_rfl)
    (case k__law_made => first | rfl | kernel_rfl)
    (case a__law_refused => first | rfl | kernel_rfl)
    (case l__law_refused => first | rfl | kernel_rfl)
    (case c__law_refused => first | rfl | kernel_rfl)
    (case k__law_refused => first | rfl | kernel_rfl)
    (case a_law => first | rfl | kernel_rfl)
    (case l_law => first | rfl | kernel_rfl)
    (case c_law => first | rfl | kernel_rfl)
    (case k_law => first | rfl | kernel_rfl)
    (case n_1 => first | rfl | kernel_rfl)
    (case n_2 => first | rfl | kernel_rfl)
    (case n_3 => first | rfl | kernel_rfl)
    (case n_4 => first | rfl | kernel_rfl)
    (case n_5 => first | rfl | kernel_rfl)
    (case n_6 => first | rfl | kernel_rfl)
    (case n_7 => first | rfl | kernel_rfl)
    (case n_8 => first | rfl | kernel_rfl)
    (case z_len => first | rfl | kernel_rfl)
    (case z_list => first | rfl | kernel_rfl)
    (case z_gcd => first | rfl | kernel_rfl)
    (case z_range => first | rfl | kernel_rfl)
    (case z_zip => first | rfl | kernel_rfl)
    (case z_int => first | rfl | kernel_rfl)
    (case z_isinstance => first | rfl | kernel_rfl)
    (case z_bool => first | rfl | kernel_rfl)
    (case z_abs => first | rfl | kernel_rfl)
    (case z_ValueError => first | rfl | kernel_rfl)
    (case z_tuple => first | rfl | kernel_rfl)
    (case x_NoRow => first | rfl | kernel_rfl)
    (case kc_NoRow => first | rfl | kernel_rfl)
    (case s_NoRow => first | rfl | kernel_rfl)
    (case t_NoRow => first | rfl | kernel_rfl)
    (case eg_NoRow => first | rfl | kernel_rfl)
    (case ek_NoRow => first | rfl | kernel_rfl)
    (case ed_NoRow => first | rfl | kernel_rfl)
    (case ea_NoRow => first | rfl | kernel_rfl)
    (case en_NoRow => first | rfl | kernel_rfl)
    (case et_NoRow => first | rfl | kernel_rfl)
    (case eo_NoRow => first | rfl | kernel_rfl)
    (case bs_PegError => first | rfl | kernel_rfl)
    (case bd_PegError => first | rfl | kernel_rfl)
    (case bt_PegError => first | rfl | kernel_rfl)
    (case bm_PegError => first | rfl | kernel_rfl)
    (case i_NoPart => first | rfl | kernel_rfl)
    (case i_NoQuotient => first | rfl | kernel_rfl)
    (case i_NoStretch => first | rfl | kernel_rfl)
    (case i_NotAlone => first | rfl | kernel_rfl)
    (case i_NoRow => first | rfl | kernel_rfl)
    (case i_ValueError => first | rfl | kernel_rfl)

