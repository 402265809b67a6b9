import PyProof.Rows.All
import Wide.All
import OpenK.AllK
import Wide.FinOn
import HandS.ForMost
import HandS.Wide
import HandS.WideBits
import HandS.Gcd
import HandS.IsInst
import HandS.Evl
import HandS.Style
import HandS.Flow
import PySem.Challenge.RW_otherhow_k02_rows_and_their_indexes
set_option Elab.async false
set_option linter.all false
set_option maxRecDepth 100000
set_option maxHeartbeats 4000000
namespace Oh
open PySem PySem.Spec PyProof.Rows L2 Evl

/-- a value with all that hangs on it -/
inductive D where
  | non | bl (b : Bool) | int (i : Int) | str (x : Str) | lst (xs : List D) | rol (xs : List D) | tup (xs : List D) | ob (c : String) (fs : List (Str × D))

abbrev Cl := String → Addr

mutual
inductive Rep (K : PySem.W.Frag) (cl : Cl) (G : Hp) : V → D → Prop
  | non : Rep K cl G .non .non
  | bl {b : Bool} : Rep K cl G (.bl b) (.bl b)
  | int {i : Int} : Rep K cl G (.int i) (.int i)
  | str {x : Str} : Rep K cl G (.str x) (.str x)
  | lst {a : Addr} {vs : List V} {ds : List D} : G a = some (.lst vs) → Reps K cl G vs ds → Rep K cl G (.ref a) (.lst ds)
  | rol {a : Addr} {vs : List V} {ds : List D} : SqL K G a vs → Reps K cl G vs ds → Rep K cl G (.ref a) (.rol ds)
  | tup {a : Addr} {vs : List V} {ds : List D} : SqT K G a vs → Reps K cl G vs ds → Rep K cl G (.ref a) (.tup ds)
  | ob {a dx : Addr} {c : String} {fs : List (Str × V)} {ds : List (Str × D)} : G a = some (.ins (cl c) dx fs) → FReps K cl G fs ds → Rep K cl G (.ref a) (.ob c ds)
inductive Reps (K : PySem.W.Frag) (cl : Cl) (G : Hp) : List V → List D → Prop
  | nil : Reps K cl G [] []
  | cons {v : V} {vs : List V} {d : D} {ds : List D} : Rep K cl G v d → Reps K cl G vs ds → Reps K cl G (v :: vs) (d :: ds)
inductive FReps (K : PySem.W.Frag) (cl : Cl) (G : Hp) : List (Str × V) → List (Str × D) → Prop
  | nil : FReps K cl G [] []
  | cons {n : Str} {v : V} {vs : List (Str × V)} {d : D} {ds : List (Str × D)} : Rep K cl G v d → FReps K cl G vs ds → FReps K cl G ((n, v) :: vs) ((n, d) :: ds)
end

section
variable {K : PySem.W.Frag} {cl : Cl} {G G' H H' : Hp}
mutual
theorem Rep.mono (e : Ex G G') : ∀ {v d}, Rep K cl G v d → Rep K cl G' v d
  | _, _, .non => .non
  | _, _, .bl => .bl
  | _, _, .int => .int
  | _, _, .str => .str
  | _, _, .lst h r => .lst (e _ _ h) (Reps.mono e r)
  | _, _, .rol h r => .rol (ex_l e h) (Reps.mono e r)
  | _, _, .tup h r => .tup (ex_t e h) (Reps.mono e r)
  | _, _, .ob h r => .ob (e _ _ h) (FReps.mono e r)
theorem Reps.mono (e : Ex G G') : ∀ {v d}, Reps K cl G v d → Reps K cl G' v d
  | _, _, .nil => .nil
  | _, _, .cons h r => .cons (Rep.mono e h) (Reps.mono e r)
theorem FReps.mono (e : Ex G G') : ∀ {v d}, FReps K cl G v d → FReps K cl G' v d
  | _, _, .nil => .nil
  | _, _, .cons h r => .cons (Rep.mono e h) (FReps.mono e r)
end
theorem Reps.length : ∀ {vs ds}, Reps K cl G vs ds → vs.length = ds.length
  | _, _, .nil => rfl
  | _, _, .cons _ r => congrArg (· + 1) (Reps.length r)
theorem Reps.get : ∀ {vs : List V} {ds : List D} {i : Nat} {d : D}, Reps K cl G vs ds → ds[i]? = some d → ∃ v, vs[i]? = some v ∧ Rep K cl G v d
  | _, _, _, _, .nil, h => by simp at h
  | _, _, 0, _, .cons r _, h => ⟨_, rfl, by simp at h; rw [← h]; exact r⟩
  | _, _, i + 1, _, .cons _ t, h => by
    obtain ⟨v, h1, h2⟩ := Reps.get (i := i) t (by simpa using h)
    exact ⟨v, by simpa using h1, h2⟩
theorem Reps.getV : ∀ {vs : List V} {ds : List D} {i : Nat} {v : V}, Reps K cl G vs ds → vs[i]? = some v → ∃ d, ds[i]? = some d ∧ Rep K cl G v d
  | _, _, _, _, .nil, h => by simp at h
  | _, _, 0, _, .cons r _, h => ⟨_, rfl, by simp at h; rw [← h]; exact r⟩
  | _, _, i + 1, _, .cons _ t, h => by
    obtain ⟨v, h1, h2⟩ := Reps.getV (i := i) t (by simpa using h)
    exact ⟨v, by simpa using h1, h2⟩
theorem Reps.append : ∀ {vs ds ws es}, Reps K cl G vs ds → Reps K cl G ws es → Reps K cl G (vs ++ ws) (ds ++ es)
  | _, _, _, _, .nil, s => s
  | _, _, _, _, .cons r t, s => .cons r (Reps.append t s)
theorem Reps.drop : ∀ {vs ds} (n : Nat), Reps K cl G vs ds → Reps K cl G (vs.drop n) (ds.drop n)
  | _, _, 0, r => r
  | _, _, _ + 1, .nil => .nil
  | _, _, n + 1, .cons _ t => Reps.drop n t
theorem Reps.take : ∀ {vs ds} (n : Nat), Reps K cl G vs ds → Reps K cl G (vs.take n) (ds.take n)
  | _, _, 0, _ => .nil
  | _, _, _ + 1, .nil => .nil
  | _, _, n + 1, .cons r t => .cons r (Reps.take n t)
theorem Reps.set : ∀ {vs ds v d} (n : Nat), Rep K cl G v d → Reps K cl G vs ds → Reps K cl G (vs.set n v) (ds.set n d)
  | _, _, _, _, _, _, .nil => .nil
  | _, _, _, _, 0, r, .cons _ t => .cons r t
  | _, _, _, _, n + 1, r, .cons q t => .cons q (Reps.set n r t)
theorem Reps.eraseIdx : ∀ {vs ds} (n : Nat), Reps K cl G vs ds → Reps K cl G (vs.eraseIdx n) (ds.eraseIdx n)
  | _, _, _, .nil => .nil
  | _, _, 0, .cons _ t => t
  | _, _, n + 1, .cons q t => .cons q (Reps.eraseIdx n t)
theorem Reps.reverse : ∀ {vs ds}, Reps K cl G vs ds → Reps K cl G vs.reverse ds.reverse
  | _, _, .nil => .nil
  | _, _, .cons q t => by
    rw [List.reverse_cons, List.reverse_cons]
    exact (Reps.reverse t).append (.cons q .nil)
theorem FReps.lookup : ∀ {vs ds} {n : Str} {d : D}, FReps K cl G vs ds → ds.lookup n = some d → ∃ v, vs.lookup n = some v ∧ Rep K cl G v d
  | _, _, _, _, .nil, h => by simp at h
  | _, _, n, d, .cons (n := m) r t, h => by
    rw [List.lookup_cons] at h
    rw [List.lookup_cons]
    cases e : n == m with
    | true => rw [e] at h; simp at h; exact ⟨_, rfl, by rw [← h]; exact r⟩
    | false => rw [e] at h; exact FReps.lookup t h

/-- how G (what stands for ever) and H (all) grow -/
structure Nxt (G H G' H' : Hp) : Prop where
  g : Ex G G'
  h : Ex H H'
  gh : Ex G' H'
  fr : ∀ p, G' p ≠ none → G p ≠ none ∨ H p = none
theorem Nxt.refl (gh : Ex G H) : Nxt G H G H := ⟨Ex.refl _, Ex.refl _, gh, fun _ h => .inl h⟩
theorem Nxt.trans {G1 H1 G2 H2 : Hp} (a : Nxt G H G1 H1) (b : Nxt G1 H1 G2 H2) : Nxt G H G2 H2 :=
  ⟨a.g.trans b.g, a.h.trans b.h, b.gh, fun p h => by
    rcases b.fr p h with h | h
    · exact a.fr p h
    · exact .inr (fresh_back a.h h)⟩
theorem Nxt.new {p : Addr} {o : HO} (gh : Ex G H) (hp : H p = none) : Nxt G H (upd G p o) (upd H p o) :=
  ⟨Ex.new (fresh_back gh hp), Ex.new hp, fun a u h => by
    by_cases e : a = p
    · subst e; rw [upd_same] at h ⊢; exact h
    · rw [upd_ne e] at h ⊢; exact gh a u h, fun a h => by
    by_cases e : a = p
    · subst e; exact .inr hp
    · rw [upd_ne e] at h; exact .inl h⟩
/-- laid in H alone -/
theorem Nxt.lay {p : Addr} {o : HO} (gh : Ex G H) (hp : H p = none) : Nxt G H G (upd H p o) :=
  ⟨Ex.refl _, Ex.new hp, gh.trans (Ex.new hp), fun _ h => .inl h⟩
/-- what H has and G has not is frozen -/
theorem Nxt.fz {G0 H0 : Hp} {p : Addr} {o : HO} (n : Nxt G0 H0 G H) (hp : H p = some o) (h0 : H0 p = none) (hg : G p = none) : Nxt G0 H0 (upd G p o) H :=
  ⟨n.g.trans (Ex.new hg), n.h, fun a u h => by
    by_cases e : a = p
    · subst e; rw [upd_same] at h; rw [hp]; exact h
    · rw [upd_ne e] at h; exact n.gh a u h, fun a h => by
    by_cases e : a = p
    · subst e; exact .inr h0
    · rw [upd_ne e] at h; exact n.fr a h⟩
/-- a cell of H's own is changed -/
theorem Nxt.mut {G0 H0 : Hp} {p : Addr} {o : HO} (n : Nxt G0 H0 G H) (h0 : H0 p = none) (hg : G p = none) : Nxt G0 H0 G (upd H p o) :=
  ⟨n.g, Ex.mut n.h h0, Ex.mut n.gh hg, n.fr⟩

/-! ### the slots -/
inductive Sl where
  | jk | vl (d : D) | ow (d : D)
structure Bs where
  G : Hp
  H : Hp
def SlotOk (K : PySem.W.Frag) (cl : Cl) (B : Bs) (G H : Hp) : Sl → Option V → Prop
  | .jk, _ => True
  | .vl d, o => ∃ v, o = some v ∧ Rep K cl G v d
  | .ow d, o => ∃ p vs xs, o = some (.ref p) ∧ d = .lst xs ∧ H p = some (.lst vs) ∧ G p = Option.none ∧ B.H p = Option.none ∧ Reps K cl G vs xs
structure Sig (K : PySem.W.Frag) (cl : Cl) (B : Bs) (G H : Hp) (S : List Sl) (σ : L2.St) : Prop where
  nxt : Nxt B.G B.H G H
  len : σ.length = S.length
  slots : ∀ (i : Nat) (s : Sl), S[i]? = some s → ∃ o, σ[i]? = some o ∧ SlotOk K cl B G H s o
  apart : ∀ (i j : Nat) (p : Addr) (di dj : D), i ≠ j → S[i]? = some (.ow di) → S[j]? = some (.ow dj) → σ[i]? = some (some (.ref p)) → σ[j]? ≠ some (some (.ref p))
variable {B : Bs} {S : List Sl} {σ : L2.St}
theorem SlotOk.step {s : Sl} {o : Option V} (gh : Ex G H) (n : Nxt G H G' H') (h : SlotOk K cl B G H s o) : SlotOk K cl B G' H' s o := by
  cases s with
  | jk => trivial
  | vl d =>
    obtain ⟨v, e, r⟩ := h
    exact ⟨v, e, r.mono n.g⟩
  | ow d =>
    obtain ⟨p, vs, xs, e, ed, hp, gp, bp, r⟩ := h
    refine ⟨p, vs, xs, e, ed, n.h _ _ hp, ?_, bp, r.mono n.g⟩
    cases q : G' p with
    | none => rfl
    | some u =>
      rcases n.fr p (by rw [q]; simp) with h | h
      · exact absurd gp h
      · rw [hp] at h; cases h
theorem Sig.step (I : Sig K cl B G H S σ) (n : Nxt G H G' H') : Sig K cl B G' H' S σ :=
  ⟨I.nxt.trans n, I.len, fun i s h => by
    obtain ⟨o, h1, h2⟩ := I.slots i s h
    exact ⟨o, h1, h2.step I.nxt.gh n⟩, I.apart⟩
theorem Sig.vl (I : Sig K cl B G H S σ) {i : Nat} {d : D} (h : S[i]? = some (.vl d)) : ∃ v, σ[i]? = some (some v) ∧ Rep K cl G v d := by
  obtain ⟨o, h1, v, rfl, r⟩ := I.slots i _ h
  exact ⟨v, h1, r⟩
theorem Sig.ow (I : Sig K cl B G H S σ) {i : Nat} {d : D} (h : S[i]? = some (.ow d)) :
    ∃ p vs xs, σ[i]? = some (some (.ref p)) ∧ d = .lst xs ∧ H p = some (.lst vs) ∧ G p = Option.none ∧ B.H p = Option.none ∧ Reps K cl G vs xs := by
  obtain ⟨o, h1, p, vs, xs, rfl, h2⟩ := I.slots i _ h
  exact ⟨p, vs, xs, h1, h2⟩
/-- a slot gets a value -/
theorem Sig.setV (I : Sig K cl B G H S σ) {i : Nat} {v : V} {d : D} (r : Rep K cl G v d) : Sig K cl B G H (S.set i (.vl d)) (σ.set i (some v)) := by
  refine ⟨I.nxt, by rw [List.length_set, List.length_set, I.len], fun j s h => ?_, fun j k p dj dk hjk hj hk sj => ?_⟩
  · by_cases e : i = j
    · subst e
      by_cases hl : i < S.length
      · rw [List.getElem?_set_self hl] at h
        cases h
        exact ⟨some v, by rw [List.getElem?_set_self (by rw [I.len]; exact hl)], v, rfl, r⟩
      · rw [List.getElem?_eq_none (by rw [List.length_set]; omega)] at h; cases h
    · rw [List.getElem?_set_ne e] at h
      obtain ⟨o, h1, h2⟩ := I.slots j s h
      exact ⟨o, by rw [List.getElem?_set_ne e]; exact h1, h2⟩
  · have nj : i ≠ j := fun e => by
      subst e
      by_cases hl : i < S.length
      · rw [List.getElem?_set_self hl] at hj; cases hj
      · rw [List.getElem?_eq_none (by rw [List.length_set]; omega)] at hj; cases hj
    have nk : i ≠ k := fun e => by
      subst e
      by_cases hl : i < S.length
      · rw [List.getElem?_set_self hl] at hk; cases hk
      · rw [List.getElem?_eq_none (by rw [List.length_set]; omega)] at hk; cases hk
    rw [List.getElem?_set_ne nj] at hj sj
    rw [List.getElem?_set_ne nk] at hk ⊢
    exact I.apart j k p dj dk hjk hj hk sj
/-- a slot gets a list of its own -/
theorem Sig.setO (I : Sig K cl B G H S σ) {i : Nat} {p : Addr} {vs : List V} {xs : List D} (hp : H p = some (.lst vs)) (gp : G p = Option.none) (bp : B.H p = Option.none) (r : Reps K cl G vs xs)
    (hn : ∀ j d, j ≠ i → S[j]? = some (.ow d) → σ[j]? ≠ some (some (.ref p))) : Sig K cl B G H (S.set i (.ow (.lst xs))) (σ.set i (some (.ref p))) := by
  refine ⟨I.nxt, by rw [List.length_set, List.length_set, I.len], fun j s h => ?_, fun j k q dj dk hjk hj hk sj => ?_⟩
  · by_cases e : i = j
    · subst e
      by_cases hl : i < S.length
      · rw [List.getElem?_set_self hl] at h
        cases h
        exact ⟨some (.ref p), by rw [List.getElem?_set_self (by rw [I.len]; exact hl)], p, vs, xs, rfl, rfl, hp, gp, bp, r⟩
      · rw [List.getElem?_eq_none (by rw [List.length_set]; omega)] at h; cases h
    · rw [List.getElem?_set_ne e] at h
      obtain ⟨o, h1, h2⟩ := I.slots j s h
      exact ⟨o, by rw [List.getElem?_set_ne e]; exact h1, h2⟩
  · by_cases ej : i = j
    · subst ej
      have nk : i ≠ k := hjk
      rw [List.getElem?_set_ne nk] at hk ⊢
      by_cases hl : i < σ.length
      · rw [List.getElem?_set_self hl] at sj
        cases sj
        exact hn k dk nk.symm hk
      · rw [List.getElem?_eq_none (by rw [List.length_set]; omega)] at sj; cases sj
    · rw [List.getElem?_set_ne ej] at hj sj
      by_cases ek : i = k
      · subst ek
        intro hk'
        by_cases hl : i < σ.length
        · rw [List.getElem?_set_self hl] at hk'
          cases hk'
          exact hn j dj (fun e => ej e.symm) hj sj
        · rw [List.getElem?_eq_none (by rw [List.length_set]; omega)] at hk'; cases hk'
      · rw [List.getElem?_set_ne ek] at hk ⊢
        exact I.apart j k q dj dk hjk hj hk sj
theorem set_self {α : Type} {l : List α} {i : Nat} {x : α} (h : l[i]? = some x) : l.set i x = l := by
  apply List.ext_getElem?
  intro j
  by_cases e : i = j
  · subst e
    have hl := (List.getElem?_eq_some_iff.mp h).1
    rw [List.getElem?_set_self hl, h]
  · rw [List.getElem?_set_ne e]
/-- an owned list is given away: it stands for ever -/
theorem Sig.share (I : Sig K cl B G H S σ) {i : Nat} {d : D} (h : S[i]? = some (.ow d)) :
    ∃ v G', σ[i]? = some (some v) ∧ Ex G G' ∧ Rep K cl G' v d ∧ Sig K cl B G' H (S.set i (.vl d)) σ := by
  obtain ⟨p, vs, xs, h1, rfl, hp, gp, bp, r⟩ := I.ow h
  have eg : Ex G (upd G p (.lst vs)) := Ex.new gp
  have rp : Rep K cl (upd G p (.lst vs)) (.ref p) (.lst xs) := .lst upd_same (r.mono eg)
  have hl : i < S.length := (List.getElem?_eq_some_iff.mp h).1
  refine ⟨.ref p, upd G p (.lst vs), h1, eg, rp, I.nxt.fz hp bp gp, by rw [List.length_set]; exact I.len, fun j s hs => ?_, fun j k q dj dk hjk hj hk sj => ?_⟩
  · by_cases e : i = j
    · subst e
      rw [List.getElem?_set_self hl] at hs
      cases hs
      exact ⟨_, h1, _, rfl, rp⟩
    · rw [List.getElem?_set_ne e] at hs
      obtain ⟨o, h2, h3⟩ := I.slots j s hs
      refine ⟨o, h2, ?_⟩
      cases s with
      | jk => trivial
      | vl d' =>
        obtain ⟨v, e1, r1⟩ := h3
        exact ⟨v, e1, r1.mono eg⟩
      | ow d' =>
        obtain ⟨p', vs', xs', e1, ed, hp', gp', bp', r'⟩ := h3
        subst e1
        have np : p' ≠ p := fun z => I.apart i j p _ _ e h hs h1 (by rw [h2, z])
        exact ⟨p', vs', xs', rfl, ed, hp', by rw [upd_ne np]; exact gp', bp', r'.mono eg⟩
  · have nj : i ≠ j := fun e => by
      subst e
      rw [List.getElem?_set_self hl] at hj; cases hj
    have nk : i ≠ k := fun e => by
      subst e
      rw [List.getElem?_set_self hl] at hk; cases hk
    rw [List.getElem?_set_ne nj] at hj
    rw [List.getElem?_set_ne nk] at hk
    exact I.apart j k q dj dk hjk hj hk sj
/-- an owned list is changed in place -/
theorem Sig.mut (I : Sig K cl B G H S σ) {i : Nat} {d : D} {p : Addr} {vs : List V} {xs : List D} (h : S[i]? = some (.ow d)) (h1 : σ[i]? = some (some (.ref p))) (r : Reps K cl G vs xs) :
    Sig K cl B G (upd H p (.lst vs)) (S.set i (.ow (.lst xs))) σ := by
  obtain ⟨p0, vs0, xs0, h10, rfl, hp, gp, bp, _⟩ := I.ow h
  rw [h1] at h10; cases h10
  have hl : i < S.length := (List.getElem?_eq_some_iff.mp h).1
  refine ⟨I.nxt.mut bp gp, by rw [List.length_set]; exact I.len, fun j s hs => ?_, fun j k q dj dk hjk hj hk sj => ?_⟩
  · by_cases e : i = j
    · subst e
      rw [List.getElem?_set_self hl] at hs
      cases hs
      exact ⟨_, h1, p, vs, xs, rfl, rfl, upd_same, gp, bp, r⟩
    · rw [List.getElem?_set_ne e] at hs
      obtain ⟨o, h2, h3⟩ := I.slots j s hs
      refine ⟨o, h2, ?_⟩
      cases s with
      | jk => trivial
      | vl d' => exact h3
      | ow d' =>
        obtain ⟨p', vs', xs', e1, ed, hp', gp', bp', r'⟩ := h3
        subst e1
        have np : p' ≠ p := fun z => I.apart i j p _ _ e h hs h1 (by rw [h2, z])
        exact ⟨p', vs', xs', rfl, ed, by rw [upd_ne np]; exact hp', gp', bp', r'⟩
  · have hj' : ∃ d, S[j]? = some (.ow d) := by
      by_cases e : i = j
      · subst e; exact ⟨_, h⟩
      · rw [List.getElem?_set_ne e] at hj; exact ⟨_, hj⟩
    have hk' : ∃ d, S[k]? = some (.ow d) := by
      by_cases e : i = k
      · subst e; exact ⟨_, h⟩
      · rw [List.getElem?_set_ne e] at hk; exact ⟨_, hk⟩
    obtain ⟨_, hj'⟩ := hj'
    obtain ⟨_, hk'⟩ := hk'
    exact I.apart j k q _ _ hjk hj' hk' sj
/-- some slots are forgotten -/
inductive Weak : List Sl → List Sl → Prop
  | nil : Weak [] []
  | same {s S S'} : Weak S S' → Weak (s :: S) (s :: S')
  | drop {s S S'} : Weak S S' → Weak (s :: S) (.jk :: S')
theorem Weak.refl : ∀ S, Weak S S
  | [] => .nil
  | _ :: S => .same (Weak.refl S)
theorem Weak.get : ∀ {S S' : List Sl} {i : Nat} {s : Sl}, Weak S S' → S'[i]? = some s → s = .jk ∨ S[i]? = some s
  | _, _, _, _, .nil, h => by simp at h
  | _, _, 0, _, .same _, h => .inr (by simpa using h)
  | _, _, 0, _, .drop _, h => .inl (by simp at h; exact h.symm)
  | _, _, i + 1, _, .same w, h => by
    have := Weak.get (i := i) w (by simpa using h)
    simpa using this
  | _, _, i + 1, _, .drop w, h => by
    have := Weak.get (i := i) w (by simpa using h)
    simpa using this
theorem Weak.len : ∀ {S S' : List Sl}, Weak S S' → S'.length = S.length
  | _, _, .nil => rfl
  | _, _, .same w => congrArg (· + 1) w.len
  | _, _, .drop w => congrArg (· + 1) w.len
theorem Sig.weak {S' : List Sl} (I : Sig K cl B G H S σ) (w : Weak S S') : Sig K cl B G H S' σ := by
  refine ⟨I.nxt, I.len.trans w.len.symm, fun i s h => ?_, fun j k q dj dk hjk hj hk sj => ?_⟩
  · rcases w.get h with rfl | h'
    · have hl : i < σ.length := by
        rw [I.len, ← w.len]
        exact (List.getElem?_eq_some_iff.mp h).1
      exact ⟨σ[i], List.getElem?_eq_getElem hl, trivial⟩
    · exact I.slots i s h'
  · rcases w.get hj with h | hj
    · cases h
    · rcases w.get hk with h | hk
      · cases h
      · exact I.apart j k q dj dk hjk hj hk sj
/-- a slot gets anything -/
theorem Sig.any (I : Sig K cl B G H S σ) (i : Nat) (o : Option V) : Sig K cl B G H (S.set i .jk) (σ.set i o) := by
  refine ⟨I.nxt, by rw [List.length_set, List.length_set, I.len], fun j s h => ?_, fun j k p dj dk hjk hj hk sj => ?_⟩
  · by_cases e : i = j
    · subst e
      by_cases hl : i < S.length
      · rw [List.getElem?_set_self hl] at h
        cases h
        exact ⟨o, by rw [List.getElem?_set_self (by rw [I.len]; exact hl)], trivial⟩
      · rw [List.getElem?_eq_none (by rw [List.length_set]; omega)] at h; cases h
    · rw [List.getElem?_set_ne e] at h
      obtain ⟨o, h1, h2⟩ := I.slots j s h
      exact ⟨o, by rw [List.getElem?_set_ne e]; exact h1, h2⟩
  · have nj : i ≠ j := fun e => by
      subst e
      by_cases hl : i < S.length
      · rw [List.getElem?_set_self hl] at hj; cases hj
      · rw [List.getElem?_eq_none (by rw [List.length_set]; omega)] at hj; cases hj
    have nk : i ≠ k := fun e => by
      subst e
      by_cases hl : i < S.length
      · rw [List.getElem?_set_self hl] at hk; cases hk
      · rw [List.getElem?_eq_none (by rw [List.length_set]; omega)] at hk; cases hk
    rw [List.getElem?_set_ne nj] at hj sj
    rw [List.getElem?_set_ne nk] at hk ⊢
    exact I.apart j k p dj dk hjk hj hk sj
end
end Oh
namespace Oh
open PySem PySem.Spec PyProof.Rows L2 Evl

/-! ### plain functions on data -/
def asB : D → Option Bool | .bl b => some b | _ => none
def asI : D → Option Int | .int i => some i | _ => none
def asS : D → Option Str | .str i => some i | _ => none
def asL : D → Option (List D) | .lst xs => some xs | .rol xs => some xs | _ => none
def asT : D → Option (List D) | .tup xs => some xs | _ => none
def big : Nat := 100000
def dAdd : D → D → Option D
  | .int a, .int b => some (.int (a + b))
  | .str a, .str b => if a.length + b.length ≤ 100000 then some (.str (a ++ b)) else none
  | _, _ => none
def dCat : D → D → Option D
  | .lst a, .lst b => if a.length + b.length ≤ 100000 then some (.lst (a ++ b)) else none
  | _, _ => none
def dSub : D → D → Option D
  | .int a, .int b => some (.int (a - b))
  | _, _ => none
/-- a product that the machine reckons: one factor small, or both not too long -/
abbrev MulOk (a b : Int) : Prop := ((-(2 ^ 64) < a ∧ a < 2 ^ 64) ∨ (-(2 ^ 64) < b ∧ b < 2 ^ 64)) ∨ a.natAbs.log2 + b.natAbs.log2 < 1000000
def dMul : D → D → Option D
  | .int a, .int b => if MulOk a b then some (.int (a * b)) else none
  | _, _ => none
def dFdiv : D → D → Option D
  | .int a, .int b => if 0 < b ∧ b.natAbs.log2 < 9000 then some (.int (a / b)) else none
  | _, _ => none
def dMod : D → D → Option D
  | .int a, .int b => if 0 < b then some (.int (a % b)) else none
  | _, _ => none
def dPow : D → D → Option D
  | .int a, .int b => if 0 ≤ b ∧ b ≤ 1000000 ∧ a.natAbs < 2 ^ 64 then some (.int (a ^ b.toNat)) else none
  | _, _ => none
def dNeg : D → Option D | .int a => some (.int (-a)) | _ => none
def dLt : D → D → Option D | .int a, .int b => some (.bl (decide (a < b))) | _, _ => none
def dLe : D → D → Option D | .int a, .int b => some (.bl (decide (a ≤ b))) | _, _ => none
def dGt : D → D → Option D | .int a, .int b => some (.bl (decide (b < a))) | _, _ => none
def dGe : D → D → Option D | .int a, .int b => some (.bl (decide (b ≤ a))) | _, _ => none
mutual
def toP : D → Option PyData
  | .non => some .none
  | .bl b => some (.bool b)
  | .int i => some (.int i)
  | .str x => some (.str x)
  | .lst xs => (toPs xs).map .list
  | .rol xs => (toPs xs).map .list
  | .tup xs => (toPs xs).map .tuple
  | .ob _ _ => none
def toPs : List D → Option (List PyData)
  | [] => some []
  | x :: xs => (toP x).bind fun p => (toPs xs).bind fun ps => some (p :: ps)
end
def dEqB (x y : D) : Option Bool := (toP x).bind fun p => (toP y).bind fun q => if SeqAt.shaped p = true ∧ SeqAt.shaped q = true then some (PyData.eqv p q) else none
def dEq (x y : D) : Option D := (dEqB x y).map .bl
def dNe (x y : D) : Option D := (dEqB x y).map fun b => .bl (!b)
/-- == of ints, bools, texts, None -/
def dEqF : D → D → Option D
  | .int a, .int b => some (.bl (decide (a = b)))
  | .bl a, .bl b => some (.bl (decide (a = b)))
  | .str a, .str b => some (.bl (decide (a = b)))
  | _, _ => none
def dNeF : D → D → Option D
  | .int a, .int b => some (.bl (!decide (a = b)))
  | .bl a, .bl b => some (.bl (!decide (a = b)))
  | .str a, .str b => some (.bl (!decide (a = b)))
  | _, _ => none
def dIx : D → D → Option D
  | .lst xs, .int i => atI xs i
  | .rol xs, .int i => atI xs i
  | .tup xs, .int i => atI xs i
  | .str z, .int i => if z.length ≤ 100000 then (atI z.cps.toList i).map fun c => .str ⟨#[c]⟩ else none
  | _, _ => none
def dLen : D → Option D
  | .lst xs => some (.int xs.length)
  | .rol xs => some (.int xs.length)
  | .tup xs => some (.int xs.length)
  | .str z => if z.length ≤ 100000 then some (.int z.length) else none
  | _ => none
def dInt : D → Option D
  | .int i => some (.int i)
  | .bl b => some (.int (if b then 1 else 0))
  | _ => none
def dBool : D → Option D
  | .int i => some (.bl (i != 0))
  | .bl b => some (.bl b)
  | _ => none
def dAbs : D → Option D | .int i => some (.int (if i < 0 then -i else i)) | _ => none
def dMax2 : D → D → Option D | .int i, .int j => some (.int (if j > i then j else i)) | _, _ => none
def dMin2 : D → D → Option D | .int i, .int j => some (.int (if j < i then j else i)) | _, _ => none
def dGcd : D → D → Option D | .int i, .int j => some (.int ((Nat.gcd i.natAbs j.natAbs : Nat) : Int)) | _, _ => none
def dBits : D → Option D | .int i => some (.int ((Builtin.Int.intBits i : Nat) : Int)) | _ => none
def dList : D → Option D
  | .lst xs => some (.lst xs)
  | .rol xs => some (.lst xs)
  | .tup xs => some (.lst xs)
  | _ => none
def cutD (xs : List D) (lo hi : Option Int) : List D := (xs.drop (HT.sIx xs.length 0 lo)).take (HT.sIx xs.length xs.length hi - HT.sIx xs.length 0 lo)
def dTru : D → Option Bool
  | .non => some false
  | .bl b => some b
  | .int i => some (i != 0)
  | .str y => if y.length ≤ 100000 then some ((y.length : Int) != 0) else none
  | .lst xs => some (!xs.isEmpty)
  | .rol xs => some (!xs.isEmpty)
  | .tup xs => some (!xs.isEmpty)
  | _ => none
inductive Ty where | int | bool | str | list | tuple
  deriving DecidableEq
def Ty.nm : Ty → String | .int => "int" | .bool => "bool" | .str => "str" | .list => "list" | .tuple => "tuple"
/-- isinstance against a built-in class -/
def dIsi (t : Ty) : D → Option D
  | .non => some (.bl false)
  | .bl _ => some (.bl (t = .bool ∨ t = .int))
  | .int _ => some (.bl (t = .int))
  | .str _ => some (.bl (t = .str))
  | .lst _ => some (.bl (t = .list))
  | .tup _ => some (.bl (t = .tuple))
  | _ => none

/-! ### what a reading does on data -/
section
variable (K : PySem.W.Frag) (cl : Cl)
def EV (te : TE) (S : List Sl) (m : Option D) (S' : List Sl) : Prop := ∀ (B : Bs) (G H : Hp) (σ : L2.St), Sig K cl B G H S σ → ∀ d, m = some d → ∀ Q : VK,
  (∀ v G' H', Sig K cl B G' H' S' σ → Ex G G' → Ex H H' → Rep K cl G' v d → Q v H') → te σ H Q
/-- a new list -/
def EVN (te : TE) (S : List Sl) (m : Option D) (S' : List Sl) : Prop := ∀ (B : Bs) (G H : Hp) (σ : L2.St), Sig K cl B G H S σ → ∀ d, m = some d → ∀ Q : VK,
  (∀ p vs xs G' H', Sig K cl B G' H' S' σ → Ex G G' → Ex H H' → d = .lst xs → H' p = none → Reps K cl G' vs xs → Q (.ref p) (upd H' p (.lst vs))) → te σ H Q
def ET (tt : TT) (S : List Sl) (m : Option Bool) (S' : List Sl) : Prop := ∀ (B : Bs) (G H : Hp) (σ : L2.St), Sig K cl B G H S σ → ∀ b, m = some b → ∀ Q : Bool → Hp → Prop,
  (∀ G' H', Sig K cl B G' H' S' σ → Ex G G' → Ex H H' → Q b H') → tt σ H Q
def EA (ta : TA) (S : List Sl) (m : Option (List D)) (S' : List Sl) : Prop := ∀ (B : Bs) (G H : Hp) (σ : L2.St), Sig K cl B G H S σ → ∀ ds, m = some ds → ∀ Q : List V → Hp → Prop,
  (∀ vs G' H', Sig K cl B G' H' S' σ → Ex G G' → Ex H H' → Reps K cl G' vs ds → Q vs H') → ta σ H Q
/-- operations by values -/
def Op2 (r : R2) (f : D → D → Option D) : Prop := ∀ (G H : Hp) x y d e z, Ex G H → Rep K cl G x d → Rep K cl G y e → f d e = some z → ∀ Q : VK, (∀ v, Rep K cl G v z → Q v H) → r x y H Q
def Op2N (r : R2) (f : D → D → Option D) : Prop := ∀ (G H : Hp) x y d e z, Ex G H → Rep K cl G x d → Rep K cl G y e → f d e = some z → ∀ Q : VK,
  (∀ p vs xs, H p = none → z = .lst xs → Reps K cl G vs xs → Q (.ref p) (upd H p (.lst vs))) → r x y H Q
def OpN (r : List V → Hp → VK → Prop) (f : List D → Option D) : Prop := ∀ (G H : Hp) xs ds z, Ex G H → Reps K cl G xs ds → f ds = some z → ∀ Q : VK, (∀ v, Rep K cl G v z → Q v H) → r xs H Q
def OpNN (r : List V → Hp → VK → Prop) (f : List D → Option D) : Prop := ∀ (G H : Hp) xs ds z, Ex G H → Reps K cl G xs ds → f ds = some z → ∀ Q : VK,
  (∀ p vs xs, H p = none → z = .lst xs → Reps K cl G vs xs → Q (.ref p) (upd H p (.lst vs))) → r xs H Q
end
section
variable {K : PySem.W.Frag} {cl : Cl} {S S1 S2 S' : List Sl} {ta tb te : TE} {m n : Option D} {t u : TT}
theorem EVN.ev (h : EVN K cl te S m S') : EV K cl te S m S' := fun B G H σ I d hm Q q =>
  h B G H σ I d hm Q fun p vs xs G' H' I' eg eh ed hp r => by
    subst ed
    have nx := Nxt.new (o := .lst vs) I'.nxt.gh hp
    exact q _ _ _ (I'.step nx) (eg.trans nx.g) (eh.trans nx.h) (.lst upd_same (r.mono nx.g))
theorem ev_v {i : Nat} {d : D} (h : S[i]? = some (.vl d)) : EV K cl (tVar i) S (some d) S := fun B G H σ I d' e Q q => by
  cases e
  obtain ⟨v, h1, r⟩ := I.vl h
  exact ⟨v, h1, q v G H I (Ex.refl _) (Ex.refl _) r⟩
theorem ev_sh {i : Nat} {d : D} (h : S[i]? = some (.ow d)) : EV K cl (tVar i) S (some d) (S.set i (.vl d)) := fun B G H σ I d' e Q q => by
  cases e
  obtain ⟨v, G', h1, eg, r, I'⟩ := I.share h
  exact ⟨v, h1, q v G' H I' eg (Ex.refl _) r⟩
theorem ev_int {i : Int} : EV K cl (tC (.int i)) S (some (.int i)) S := fun B G H σ I d e Q q => by cases e; exact q _ G H I (Ex.refl _) (Ex.refl _) .int
theorem ev_bl {b : Bool} : EV K cl (tC (.bl b)) S (some (.bl b)) S := fun B G H σ I d e Q q => by cases e; exact q _ G H I (Ex.refl _) (Ex.refl _) .bl
theorem ev_str {x : Str} : EV K cl (tC (.str x)) S (some (.str x)) S := fun B G H σ I d e Q q => by cases e; exact q _ G H I (Ex.refl _) (Ex.refl _) .str
theorem ev_non : EV K cl (tC .non) S (some .non) S := fun B G H σ I d e Q q => by cases e; exact q _ G H I (Ex.refl _) (Ex.refl _) .non
theorem bind_some {α β : Type} {m : Option α} {f : α → Option β} {b : β} (h : m.bind f = some b) : ∃ a, m = some a ∧ f a = some b := Option.bind_eq_some_iff.mp h
theorem rep_B {G : Hp} {v : V} {x : D} {c : Bool} (r : Rep K cl G v x) (h : asB x = some c) : v = .bl c := by
  cases r <;> cases h
  rfl
theorem ev_op {r : R2} {f : D → D → Option D} (o : Op2 K cl r f) (ha : EV K cl ta S m S1) (hb : EV K cl tb S1 n S2) : EV K cl (tOp r ta tb) S (m.bind fun x => n.bind fun y => f x y) S2 := fun B G H σ I z e Q q => by
  obtain ⟨a, ea, e⟩ := bind_some e
  obtain ⟨b, eb, e⟩ := bind_some e
  refine ha B G H σ I a ea _ fun x G1 H1 I1 g1 h1 rx => ?_
  refine hb B G1 H1 σ I1 b eb _ fun y G2 H2 I2 g2 h2 ry => ?_
  exact o G2 H2 x y a b z I2.nxt.gh (rx.mono g2) ry e Q fun v rv => q v G2 H2 I2 (g1.trans g2) (h1.trans h2) rv
theorem evn_op {r : R2} {f : D → D → Option D} (o : Op2N K cl r f) (ha : EV K cl ta S m S1) (hb : EV K cl tb S1 n S2) : EVN K cl (tOp r ta tb) S (m.bind fun x => n.bind fun y => f x y) S2 := fun B G H σ I z e Q q => by
  obtain ⟨a, ea, e⟩ := bind_some e
  obtain ⟨b, eb, e⟩ := bind_some e
  refine ha B G H σ I a ea _ fun x G1 H1 I1 g1 h1 rx => ?_
  refine hb B G1 H1 σ I1 b eb _ fun y G2 H2 I2 g2 h2 ry => ?_
  exact o G2 H2 x y a b z I2.nxt.gh (rx.mono g2) ry e Q fun p vs xs hp ez r => q p vs xs G2 H2 I2 (g1.trans g2) (h1.trans h2) ez hp r
theorem et_op {r : R2} {f : D → D → Option D} (o : Op2 K cl r f) (ha : EV K cl ta S m S1) (hb : EV K cl tb S1 n S2) : ET K cl (tTest (tOp r ta tb)) S (m.bind fun x => n.bind fun y => (f x y).bind asB) S2 := fun B G H σ I z e Q q => by
  obtain ⟨a, ea, e⟩ := bind_some e
  obtain ⟨b, eb, e⟩ := bind_some e
  obtain ⟨c, ec, e⟩ := bind_some e
  refine ha B G H σ I a ea _ fun x G1 H1 I1 g1 h1 rx => ?_
  refine hb B G1 H1 σ I1 b eb _ fun y G2 H2 I2 g2 h2 ry => ?_
  exact o G2 H2 x y a b c I2.nxt.gh (rx.mono g2) ry ec _ fun v rv => ⟨z, rep_B rv e, q G2 H2 I2 (g1.trans g2) (h1.trans h2)⟩
theorem ev_un {r : V → Hp → VK → Prop} {f : D → Option D} (o : ∀ (G H : Hp) x d z, Ex G H → Rep K cl G x d → f d = some z → ∀ Q : VK, (∀ v, Rep K cl G v z → Q v H) → r x H Q) (ha : EV K cl ta S m S1) : EV K cl (tUn r ta) S (m.bind f) S1 := fun B G H σ I z e Q q => by
  obtain ⟨a, ea, e⟩ := bind_some e
  refine ha B G H σ I a ea _ fun x G1 H1 I1 g1 h1 rx => ?_
  exact o G1 H1 x a z I1.nxt.gh rx e Q fun v rv => q v G1 H1 I1 g1 h1 rv
/-- arguments -/
theorem ea_nil : EA K cl tNil S (some []) S := fun B G H σ I ds e Q q => by cases e; exact q [] G H I (Ex.refl _) (Ex.refl _) .nil
theorem ea_cons {tr : TA} {ms : Option (List D)} (ha : EV K cl ta S m S1) (hr : EA K cl tr S1 ms S2) : EA K cl (tCons ta tr) S (m.bind fun x => ms.bind fun xs => some (x :: xs)) S2 := fun B G H σ I ds e Q q => by
  obtain ⟨a, ea, e⟩ := bind_some e
  obtain ⟨as, eas, e⟩ := bind_some e
  cases e
  refine ha B G H σ I a ea _ fun x G1 H1 I1 g1 h1 rx => ?_
  refine hr B G1 H1 σ I1 as eas _ fun vs G2 H2 I2 g2 h2 rs => ?_
  exact q _ G2 H2 I2 (g1.trans g2) (h1.trans h2) (.cons (rx.mono g2) rs)
theorem ev_cb {r : List V → Hp → VK → Prop} {f : List D → Option D} {ts : TA} {ms : Option (List D)} (o : OpN K cl r f) (ha : EA K cl ts S ms S1) : EV K cl (tCB r ts) S (ms.bind f) S1 := fun B G H σ I z e Q q => by
  obtain ⟨ds, eds, e⟩ := bind_some e
  exact ha B G H σ I ds eds _ fun vs G1 H1 I1 g1 h1 rs => o G1 H1 vs ds z I1.nxt.gh rs e Q fun v rv => q v G1 H1 I1 g1 h1 rv
theorem evn_cb {r : List V → Hp → VK → Prop} {f : List D → Option D} {ts : TA} {ms : Option (List D)} (o : OpNN K cl r f) (ha : EA K cl ts S ms S1) : EVN K cl (tCB r ts) S (ms.bind f) S1 := fun B G H σ I z e Q q => by
  obtain ⟨ds, eds, e⟩ := bind_some e
  exact ha B G H σ I ds eds _ fun vs G1 H1 I1 g1 h1 rs => o G1 H1 vs ds z I1.nxt.gh rs e Q fun p vs xs hp ez r => q p vs xs G1 H1 I1 g1 h1 ez hp r
/-- displays -/
def few (k : List D → D) (xs : List D) : Option D := if xs.length ≤ 100000 then some (k xs) else none
theorem ev_tup {ts : TA} {ms : Option (List D)} (ha : EA K cl ts S ms S1) : EV K cl (tTup ts) S (ms.bind (few .tup)) S1 := fun B G H σ I z e Q q => by
  obtain ⟨ds, eds, e⟩ := bind_some e
  unfold few at e
  split at e
  · rename_i hl
    cases e
    refine ha B G H σ I ds eds _ fun vs G1 H1 I1 g1 h1 rs => ?_
    refine ⟨sz_of (by rw [rs.length]; exact hl), fun p hp => ?_⟩
    have nx := Nxt.new (o := .tup vs) I1.nxt.gh hp
    exact q _ _ _ (I1.step nx) (g1.trans nx.g) (h1.trans nx.h) (.tup (st_of upd_same) (rs.mono nx.g))
  · cases e
theorem evn_lst {ts : TA} {ms : Option (List D)} (ha : EA K cl ts S ms S1) : EVN K cl (tLst ts) S (ms.bind (few .lst)) S1 := fun B G H σ I z e Q q => by
  obtain ⟨ds, eds, e⟩ := bind_some e
  unfold few at e
  split at e
  · rename_i hl
    cases e
    exact ha B G H σ I ds eds _ fun vs G1 H1 I1 g1 h1 rs => ⟨sz_of (by rw [rs.length]; exact hl), fun p hp => q p vs ds G1 H1 I1 g1 h1 rfl hp rs⟩
  · cases e
/-- truth values as tests, tests -/
theorem et_B (h : EV K cl te S m S1) : ET K cl (tB te) S (m.bind asB) S1 := fun B G H σ I b e Q q => by
  obtain ⟨a, ea, e⟩ := bind_some e
  exact h B G H σ I a ea _ fun v G1 H1 I1 g1 h1 rv => ⟨b, rep_B rv e, q G1 H1 I1 g1 h1⟩
theorem et_tru (h : EV K cl te S m S1) : ET K cl (fun σ H Q => te σ H fun x H' => ∃ k, TruV K x H' k ∧ Q k H') S (m.bind dTru) S1 := fun B G H σ I b e Q q => by
  obtain ⟨a, ea, e⟩ := bind_some e
  refine h B G H σ I a ea _ fun v G1 H1 I1 g1 h1 rv => ⟨b, ?_, q G1 H1 I1 g1 h1⟩
  have em : ∀ {vs : List V} {ds : List D}, Reps K cl G1 vs ds → (!vs.isEmpty) = !ds.isEmpty := fun r => by cases r <;> rfl
  cases rv with
  | non => cases e; rfl
  | bl => cases e; rfl
  | int => cases e; rfl
  | str =>
    simp only [dTru] at e
    split at e
    · rename_i hl
      exact ⟨sz_of hl, (Option.some.inj e).symm⟩
    · cases e
  | lst hg rs => cases e; exact Or.inl ⟨_, sq_of (I1.nxt.gh _ _ hg), (em rs).symm⟩
  | rol hg rs => cases e; exact Or.inl ⟨_, ex_l I1.nxt.gh hg, (em rs).symm⟩
  | tup hg rs => cases e; exact Or.inr (Or.inl ⟨_, ex_t I1.nxt.gh hg, (em rs).symm⟩)
  | ob _ _ => cases e
theorem et_and {a b : Option Bool} (h1 : ET K cl t S a S1) (h2 : ET K cl u S1 b S1) : ET K cl (tAnd t u) S (a.bind fun x => if x = true then b else some false) S1 := fun B G H σ I z e Q q => by
  obtain ⟨x, ex, e⟩ := bind_some e
  refine h1 B G H σ I x ex _ fun G1 H1 I1 g1 h1' => ?_
  cases x with
  | true => exact h2 B G1 H1 σ I1 z e Q fun G2 H2 I2 g2 h2' => q G2 H2 I2 (g1.trans g2) (h1'.trans h2')
  | false => cases e; exact q G1 H1 I1 g1 h1'
theorem et_or {a b : Option Bool} (h1 : ET K cl t S a S1) (h2 : ET K cl u S1 b S1) : ET K cl (tOr t u) S (a.bind fun x => if x = true then some true else b) S1 := fun B G H σ I z e Q q => by
  obtain ⟨x, ex, e⟩ := bind_some e
  refine h1 B G H σ I x ex _ fun G1 H1 I1 g1 h1' => ?_
  cases x with
  | true => cases e; exact q G1 H1 I1 g1 h1'
  | false => exact h2 B G1 H1 σ I1 z e Q fun G2 H2 I2 g2 h2' => q G2 H2 I2 (g1.trans g2) (h1'.trans h2')
theorem et_not {a : Option Bool} (h1 : ET K cl t S a S1) : ET K cl (tNot t) S (a.map fun x => !x) S1 := fun B G H σ I z e Q q => by
  obtain ⟨x, ex, e⟩ := Option.map_eq_some_iff.mp e
  subst e
  exact h1 B G H σ I x ex _ fun G1 H1 I1 g1 h1' => q G1 H1 I1 g1 h1'
theorem ev_and (h1 : EV K cl ta S m S1) (h2 : EV K cl tb S1 n S1) : EV K cl (tAndV ta tb) S (m.bind fun x => (asB x).bind fun c => if c = true then n else some (.bl false)) S1 := fun B G H σ I z e Q q => by
  obtain ⟨x, ex, e⟩ := bind_some e
  obtain ⟨c, ec, e⟩ := bind_some e
  refine h1 B G H σ I x ex _ fun v G1 H1 I1 g1 h1' rv => ⟨c, rep_B rv ec, ?_⟩
  cases c with
  | true => exact h2 B G1 H1 σ I1 z e Q fun v G2 H2 I2 g2 h2' => q v G2 H2 I2 (g1.trans g2) (h1'.trans h2')
  | false => cases e; exact q _ G1 H1 I1 g1 h1' .bl
theorem ev_or (h1 : EV K cl ta S m S1) (h2 : EV K cl tb S1 n S1) : EV K cl (tOrV ta tb) S (m.bind fun x => (asB x).bind fun c => if c = true then some (.bl true) else n) S1 := fun B G H σ I z e Q q => by
  obtain ⟨x, ex, e⟩ := bind_some e
  obtain ⟨c, ec, e⟩ := bind_some e
  refine h1 B G H σ I x ex _ fun v G1 H1 I1 g1 h1' rv => ⟨c, rep_B rv ec, ?_⟩
  cases c with
  | true => cases e; exact q _ G1 H1 I1 g1 h1' .bl
  | false => exact h2 B G1 H1 σ I1 z e Q fun v G2 H2 I2 g2 h2' => q v G2 H2 I2 (g1.trans g2) (h1'.trans h2')
theorem ev_not (h1 : EV K cl ta S m S1) : EV K cl (tNotV ta) S (m.bind fun x => (asB x).map fun b => .bl (!b)) S1 := fun B G H σ I z e Q q => by
  obtain ⟨x, ex, e⟩ := bind_some e
  obtain ⟨c, ec, e⟩ := Option.map_eq_some_iff.mp e
  subst e
  exact h1 B G H σ I x ex _ fun v G1 H1 I1 g1 h1' rv => ⟨c, rep_B rv ec, q _ G1 H1 I1 g1 h1' .bl⟩
theorem ev_ife {a : Option Bool} (h : ET K cl t S a S1) (h1 : EV K cl ta S1 m S1) (h2 : EV K cl tb S1 n S1) : EV K cl (tIf t ta tb) S (a.bind fun c => if c = true then m else n) S1 := fun B G H σ I z e Q q => by
  obtain ⟨x, ex, e⟩ := bind_some e
  refine h B G H σ I x ex _ fun G1 H1 I1 g1 h1' => ?_
  cases x with
  | true => exact h1 B G1 H1 σ I1 z e Q fun v G2 H2 I2 g2 h2' => q v G2 H2 I2 (g1.trans g2) (h1'.trans h2')
  | false => exact h2 B G1 H1 σ I1 z e Q fun v G2 H2 I2 g2 h2' => q v G2 H2 I2 (g1.trans g2) (h1'.trans h2')

/-! ### an owned list read for a while -/
def flatD : D → Option D
  | .non => some .non | .bl b => some (.bl b) | .int i => some (.int i) | .str x => some (.str x) | _ => none
theorem flat_rep {G G' : Hp} {v : V} {d z : D} (h : flatD d = some z) (r : Rep K cl G v d) : Rep K cl G' v z := by
  cases r <;> cases h <;> constructor
theorem Sig.lend {B : Bs} {G H : Hp} {σ : L2.St} (I : Sig K cl B G H S σ) {i : Nat} {d : D} (h : S[i]? = some (.ow d)) {G' H' : Hp} (I' : Sig K cl B G' H' (S.set i (.vl d)) σ) (eg : Ex G G') (eh : Ex H H') : Sig K cl B G H' S σ := by
  refine ⟨⟨I.nxt.g, I'.nxt.h, eg.trans I'.nxt.gh, I.nxt.fr⟩, I.len, fun j s hs => ?_, I.apart⟩
  obtain ⟨o, h1, h2⟩ := I.slots j s hs
  refine ⟨o, h1, ?_⟩
  cases s with
  | jk => trivial
  | vl d' => exact h2
  | ow d' =>
    obtain ⟨p, vs, xs, e, ed, hp, gp, bp, r⟩ := h2
    exact ⟨p, vs, xs, e, ed, eh _ _ hp, gp, bp, r⟩
theorem ev_lend {i : Nat} {d : D} (h : S[i]? = some (.ow d)) (he : EV K cl te (S.set i (.vl d)) m (S.set i (.vl d))) : EV K cl te S (m.bind flatD) S := fun B G H σ I z e Q q => by
  obtain ⟨x, ex, e⟩ := bind_some e
  obtain ⟨_, G1, _, g1, _, I1⟩ := I.share h
  refine he B G1 H σ I1 x ex Q fun v G2 H2 I2 g2 h2 rv => ?_
  exact q v G H2 (I.lend h I2 (g1.trans g2) h2) (Ex.refl _) h2 (flat_rep e rv)
theorem et_lend {i : Nat} {d : D} {a : Option Bool} (h : S[i]? = some (.ow d)) (he : ET K cl t (S.set i (.vl d)) a (S.set i (.vl d))) : ET K cl t S a S := fun B G H σ I z e Q q => by
  obtain ⟨_, G1, _, g1, _, I1⟩ := I.share h
  refine he B G1 H σ I1 z e Q fun G2 H2 I2 g2 h2 => ?_
  exact q G H2 (I.lend h I2 (g1.trans g2) h2) (Ex.refl _) h2
end
end Oh
namespace Oh
open PySem PySem.Spec PyProof.Rows L2 Evl

section
variable {K : PySem.W.Frag} {cl : Cl} {X : Cx}
/-- int + int, text + text -/
def rAddD : R2 := fun x y H Q => rI0 (fun i j => .int (i + j)) x y H Q ∨ ∃ i j, x = .str i ∧ y = .str j ∧ i.length + j.length ≤ sizeLine ∧ Q (.str (i ++ j)) H
theorem op_addD : OpR X (binaryOp .Add) rAddD := op_add.or op_add_str
theorem o_add : Op2 K cl rAddD dAdd := by
  intro G H x y d e z gh rx ry h Q q
  cases rx <;> cases ry <;> simp only [dAdd] at h <;> try (cases h; done)
  · cases h
    exact Or.inl ⟨_, _, rfl, rfl, q _ .int⟩
  · split at h
    · rename_i hl
      cases h
      exact Or.inr ⟨_, _, rfl, rfl, sz_of hl, q _ .str⟩
    · cases h
theorem o_sub : Op2 K cl (rI0 fun i j => .int (i - j)) dSub := by
  intro G H x y d e z gh rx ry h Q q
  cases rx <;> cases ry <;> simp only [dSub] at h <;> try (cases h; done)
  cases h
  exact ⟨_, _, rfl, rfl, q _ .int⟩
def rMulD : R2 := fun x y H Q => rI CMul (fun i j => .int (i * j)) x y H Q ∨ rI CMulW (fun i j => .int (i * j)) x y H Q
theorem op_mulD : OpR X (binaryOp .Mult) rMulD := op_mul.or op_mulW
theorem o_mul : Op2 K cl rMulD dMul := by
  intro G H x y d e z gh rx ry h Q q
  cases rx <;> cases ry <;> simp only [dMul] at h <;> try (cases h; done)
  split at h
  · rename_i hl
    cases h
    rcases hl with hl | hl
    · exact Or.inl ⟨_, _, rfl, rfl, hl, q _ .int⟩
    · exact Or.inr ⟨_, _, rfl, rfl, hl, q _ .int⟩
  · cases h
theorem o_fdiv : Op2 K cl (rI CDivW fun i j => .int (i / j)) dFdiv := by
  intro G H x y d e z gh rx ry h Q q
  cases rx <;> cases ry <;> simp only [dFdiv] at h <;> try (cases h; done)
  split at h
  · rename_i hl
    cases h
    exact ⟨_, _, rfl, rfl, hl, q _ .int⟩
  · cases h
theorem o_mod : Op2 K cl (rI (fun _ j => 0 < j) fun i j => .int (i % j)) dMod := by
  intro G H x y d e z gh rx ry h Q q
  cases rx <;> cases ry <;> simp only [dMod] at h <;> try (cases h; done)
  split at h
  · rename_i hl
    cases h
    exact ⟨_, _, rfl, rfl, hl, q _ .int⟩
  · cases h
theorem o_pow : Op2 K cl (rI CPow fun i j => .int (i ^ j.toNat)) dPow := by
  intro G H x y d e z gh rx ry h Q q
  cases rx <;> cases ry <;> simp only [dPow] at h <;> try (cases h; done)
  split at h
  · rename_i hl
    cases h
    exact ⟨_, _, rfl, rfl, hl, q _ .int⟩
  · cases h
theorem o_lt : Op2 K cl (rI0 fun i j => .bl (decide (i < j))) dLt := by
  intro G H x y d e z gh rx ry h Q q
  cases rx <;> cases ry <;> simp only [dLt] at h <;> try (cases h; done)
  cases h
  exact ⟨_, _, rfl, rfl, q _ .bl⟩
theorem o_le : Op2 K cl (rI0 fun i j => .bl (decide (i ≤ j))) dLe := by
  intro G H x y d e z gh rx ry h Q q
  cases rx <;> cases ry <;> simp only [dLe] at h <;> try (cases h; done)
  cases h
  exact ⟨_, _, rfl, rfl, q _ .bl⟩
theorem o_gt : Op2 K cl (rI0 fun i j => .bl (decide (j < i))) dGt := by
  intro G H x y d e z gh rx ry h Q q
  cases rx <;> cases ry <;> simp only [dGt] at h <;> try (cases h; done)
  cases h
  exact ⟨_, _, rfl, rfl, q _ .bl⟩
theorem o_ge : Op2 K cl (rI0 fun i j => .bl (decide (j ≤ i))) dGe := by
  intro G H x y d e z gh rx ry h Q q
  cases rx <;> cases ry <;> simp only [dGe] at h <;> try (cases h; done)
  cases h
  exact ⟨_, _, rfl, rfl, q _ .bl⟩
theorem o_eqF : Op2 K cl rEq dEqF := by
  intro G H x y d e z gh rx ry h Q q
  cases rx <;> cases ry <;> simp only [dEqF] at h <;> try (cases h; done)
  all_goals (cases h; refine ⟨rfl, ?_⟩)
  · rename_i a b
    have e : decide (V.bl a = V.bl b) = decide (a = b) := by rw [dec_bl, Bool.beq_eq_decide_eq]
    rw [e]; exact q _ .bl
  · rename_i a b
    have e : decide (V.int a = V.int b) = decide (a = b) := by rw [dec_int]; rfl
    rw [e]; exact q _ .bl
  · rename_i a b
    have e : decide (V.str a = V.str b) = decide (a = b) := by
      by_cases h : a = b
      · subst h; simp
      · rw [decide_eq_false h, decide_eq_false (fun z => h (V.str.inj z))]
    rw [e]; exact q _ .bl
theorem o_neF : Op2 K cl rNe dNeF := by
  intro G H x y d e z gh rx ry h Q q
  cases rx <;> cases ry <;> simp only [dNeF] at h <;> try (cases h; done)
  all_goals (cases h; refine ⟨rfl, ?_⟩)
  · rename_i a b
    have e : decide (V.bl a = V.bl b) = decide (a = b) := by rw [dec_bl, Bool.beq_eq_decide_eq]
    rw [e]; exact q _ .bl
  · rename_i a b
    have e : decide (V.int a = V.int b) = decide (a = b) := by rw [dec_int]; rfl
    rw [e]; exact q _ .bl
  · rename_i a b
    have e : decide (V.str a = V.str b) = decide (a = b) := by
      by_cases h : a = b
      · subst h; simp
      · rw [decide_eq_false h, decide_eq_false (fun z => h (V.str.inj z))]
    rw [e]; exact q _ .bl
mutual
theorem rep_dp {G H : Hp} (gh : Ex G H) : ∀ {v : V} {d : D} {p : PyData}, Rep K cl G v d → toP d = some p → Dp K H v p
  | _, .non, _, .non, h => by cases h; exact .non
  | _, .bl _, _, .bl, h => by cases h; exact .bl _
  | _, .int _, _, .int, h => by cases h; exact .int _
  | _, .str _, _, .str, h => by cases h; exact .str _
  | _, .lst ds, _, .lst hg rs, h => by
    obtain ⟨ps, e, rfl⟩ := Option.map_eq_some_iff.mp h
    exact .lst (sq_of (gh _ _ hg)) (reps_dp gh rs e)
  | _, .rol ds, _, .rol hg rs, h => by
    obtain ⟨ps, e, rfl⟩ := Option.map_eq_some_iff.mp h
    exact .lst (ex_l gh hg) (reps_dp gh rs e)
  | _, .tup ds, _, .tup hg rs, h => by
    obtain ⟨ps, e, rfl⟩ := Option.map_eq_some_iff.mp h
    exact .tup (ex_t gh hg) (reps_dp gh rs e)
  | _, .ob _ _, _, .ob _ _, h => by cases h
theorem reps_dp {G H : Hp} (gh : Ex G H) : ∀ {vs : List V} {ds : List D} {ps : List PyData}, Reps K cl G vs ds → toPs ds = some ps → DpAll K H vs ps
  | _, [], _, .nil, h => by cases h; exact .nil
  | _, d :: ds, _, .cons r rs, h => by
    obtain ⟨p, e1, h⟩ := bind_some h
    obtain ⟨ps, e2, h⟩ := bind_some h
    cases h
    exact .cons (rep_dp gh r e1) (reps_dp gh rs e2)
end
theorem eqB_of {G H : Hp} {x y : V} {d e : D} {b : Bool} (gh : Ex G H) (rx : Rep K cl G x d) (ry : Rep K cl G y e) (h : dEqB d e = some b) :
    ∃ p q, Dp K H x p ∧ Dp K H y q ∧ SeqAt.shaped p = true ∧ SeqAt.shaped q = true ∧ PyData.eqv p q = b := by
  obtain ⟨p, e1, h⟩ := bind_some h
  obtain ⟨q, e2, h⟩ := bind_some h
  split at h
  · rename_i hs
    exact ⟨p, q, rep_dp gh rx e1, rep_dp gh ry e2, hs.1, hs.2, Option.some.inj h⟩
  · cases h
theorem o_eq : Op2 K cl (rEqD K) dEq := by
  intro G H x y d e z gh rx ry h Q q
  obtain ⟨b, eb, rfl⟩ := Option.map_eq_some_iff.mp h
  obtain ⟨p1, p2, h1, h2, h3, h4, h5⟩ := eqB_of gh rx ry eb
  exact ⟨p1, p2, h1, h2, h3, h4, by rw [h5]; exact q _ .bl⟩
theorem o_ne : Op2 K cl (rNeD K) dNe := by
  intro G H x y d e z gh rx ry h Q q
  obtain ⟨b, eb, rfl⟩ := Option.map_eq_some_iff.mp h
  obtain ⟨p1, p2, h1, h2, h3, h4, h5⟩ := eqB_of gh rx ry eb
  exact ⟨p1, p2, h1, h2, h3, h4, by rw [h5]; exact q _ .bl⟩
theorem o_neg {G H : Hp} {x : V} {d z : D} (gh : Ex G H) (r : Rep K cl G x d) (h : dNeg d = some z) (Q : VK) (q : ∀ v, Rep K cl G v z → Q v H) : rU (fun i => .int (-i)) x H Q := by
  cases r <;> cases h
  exact ⟨_, rfl, q _ .int⟩
/-- an item -/
theorem atI_rep {G : Hp} {vs : List V} {ds : List D} {i : Int} {z : D} (rs : Reps K cl G vs ds) (h : atI ds i = some z) : ∃ v, atI vs i = some v ∧ Rep K cl G v z := by
  unfold atI at h ⊢
  obtain ⟨j, e, h⟩ := bind_some h
  rw [rs.length, e]
  exact rs.get h
theorem o_ix : Op2 K cl (rIx K) dIx := by
  intro G H x y d e z gh rx ry h Q q
  cases rx <;> cases ry <;> (try (cases h; done)) <;> (try simp only [dIx] at h)
  · split at h
    · rename_i hl
      obtain ⟨c, ec, rfl⟩ := Option.map_eq_some_iff.mp h
      exact Or.inr (Or.inr ⟨_, _, c, rfl, rfl, sz_of hl, ec, q _ .str⟩)
    · cases h
  · rename_i hg rs i
    obtain ⟨v, ev, rv⟩ := atI_rep rs h
    exact Or.inl ⟨_, _, _, v, rfl, rfl, sq_of (gh _ _ hg), ev, q _ rv⟩
  · rename_i hg rs i
    obtain ⟨v, ev, rv⟩ := atI_rep rs h
    exact Or.inl ⟨_, _, _, v, rfl, rfl, ex_l gh hg, ev, q _ rv⟩
  · rename_i hg rs i
    obtain ⟨v, ev, rv⟩ := atI_rep rs h
    exact Or.inr (Or.inl ⟨_, _, _, v, rfl, rfl, ex_t gh hg, ev, q _ rv⟩)
/-- built-ins -/
theorem call_lenD : CallR X (.builtin "len") (fun xs H Q => (∃ p ys, xs = [.ref p] ∧ (SqL X.K H p ys ∨ SqT X.K H p ys) ∧ Q (.int ys.length) H) ∨ ∃ z, xs = [.str z] ∧ z.length ≤ sizeLine ∧ Q (.int z.length) H) := call_len_seq.or call_len_str
def on1 (f : D → Option D) : List D → Option D | [a] => f a | _ => none
def on2 (f : D → D → Option D) : List D → Option D | [a, b] => f a b | _ => none
def on3 (f : D → D → D → Option D) : List D → Option D | [a, b, c] => f a b c | _ => none
def on4 (f : D → D → D → D → Option D) : List D → Option D | [a, b, c, d] => f a b c d | _ => none
def on5 (f : D → D → D → D → D → Option D) : List D → Option D | [a, b, c, d, e] => f a b c d e | _ => none
def on6 (f : D → D → D → D → D → D → Option D) : List D → Option D | [a, b, c, d, e, g] => f a b c d e g | _ => none
def on0 (m : Option D) : List D → Option D | [] => m | _ => none
theorem Reps.one {G : Hp} {vs : List V} {d : D} (r : Reps K cl G vs [d]) : ∃ v, vs = [v] ∧ Rep K cl G v d := by
  cases r with
  | cons r1 r2 => cases r2; exact ⟨_, rfl, r1⟩
theorem Reps.two {G : Hp} {vs : List V} {d e : D} (r : Reps K cl G vs [d, e]) : ∃ v w, vs = [v, w] ∧ Rep K cl G v d ∧ Rep K cl G w e := by
  cases r with
  | cons r1 r2 => obtain ⟨w, rfl, r3⟩ := r2.one; exact ⟨_, w, rfl, r1, r3⟩
theorem of_on1 {f : D → Option D} {ds : List D} {z : D} (h : on1 f ds = some z) : ∃ a, ds = [a] ∧ f a = some z := by
  unfold on1 at h
  split at h
  · exact ⟨_, rfl, h⟩
  · cases h
theorem of_on2 {f : D → D → Option D} {ds : List D} {z : D} (h : on2 f ds = some z) : ∃ a b, ds = [a, b] ∧ f a b = some z := by
  unfold on2 at h
  split at h
  · exact ⟨_, _, rfl, h⟩
  · cases h
theorem o_len : OpN K cl (fun xs H Q => (∃ p ys, xs = [.ref p] ∧ (SqL K H p ys ∨ SqT K H p ys) ∧ Q (.int ys.length) H) ∨ ∃ z, xs = [.str z] ∧ z.length ≤ sizeLine ∧ Q (.int z.length) H) (on1 dLen) := by
  intro G H xs ds z gh rs h Q q
  obtain ⟨a, rfl, h1⟩ := of_on1 h
  clear h
  obtain ⟨v, rfl, r⟩ := rs.one
  clear rs
  cases r with
  | str =>
    simp only [dLen] at h1
    split at h1
    · rename_i hl
      cases h1
      exact Or.inr ⟨_, rfl, sz_of hl, q _ .int⟩
    · cases h1
  | lst hg rs =>
    cases h1
    exact Or.inl ⟨_, _, rfl, Or.inl (sq_of (gh _ _ hg)), by rw [rs.length]; exact q _ .int⟩
  | rol hg rs =>
    cases h1
    exact Or.inl ⟨_, _, rfl, Or.inl (ex_l gh hg), by rw [rs.length]; exact q _ .int⟩
  | tup hg rs =>
    cases h1
    exact Or.inl ⟨_, _, rfl, Or.inr (ex_t gh hg), by rw [rs.length]; exact q _ .int⟩
  | _ => cases h1
theorem o_int : OpN K cl (fun xs H Q => (∃ i, xs = [.int i] ∧ Q (.int i) H) ∨ ∃ k, xs = [.bl k] ∧ Q (.int (if k then 1 else 0)) H) (on1 dInt) := by
  intro G H xs ds z gh rs h Q q
  obtain ⟨a, rfl, h⟩ := of_on1 h
  obtain ⟨v, rfl, r⟩ := rs.one
  cases r <;> cases h
  · exact Or.inr ⟨_, rfl, q _ .int⟩
  · exact Or.inl ⟨_, rfl, q _ .int⟩
theorem o_bool : OpN K cl (fun xs H Q => (∃ i, xs = [.int i] ∧ Q (.bl (i != 0)) H) ∨ ∃ k, xs = [.bl k] ∧ Q (.bl k) H) (on1 dBool) := by
  intro G H xs ds z gh rs h Q q
  obtain ⟨a, rfl, h⟩ := of_on1 h
  obtain ⟨v, rfl, r⟩ := rs.one
  cases r <;> cases h
  · exact Or.inr ⟨_, rfl, q _ .bl⟩
  · exact Or.inl ⟨_, rfl, q _ .bl⟩
theorem o_abs : OpN K cl (fun xs H Q => ∃ i, xs = [.int i] ∧ Q (.int (if i < 0 then -i else i)) H) (on1 dAbs) := by
  intro G H xs ds z gh rs h Q q
  obtain ⟨a, rfl, h⟩ := of_on1 h
  obtain ⟨v, rfl, r⟩ := rs.one
  cases r <;> cases h
  exact ⟨_, rfl, q _ .int⟩
theorem o_max2 : OpN K cl (fun xs H Q => ∃ i j, xs = [.int i, .int j] ∧ Q (.int (if j > i then j else i)) H) (on2 dMax2) := by
  intro G H xs ds z gh rs h Q q
  obtain ⟨a, b, rfl, h⟩ := of_on2 h
  obtain ⟨v, w, rfl, r, s⟩ := rs.two
  cases r <;> cases s <;> cases h
  exact ⟨_, _, rfl, q _ .int⟩
theorem o_min2 : OpN K cl (fun xs H Q => ∃ i j, xs = [.int i, .int j] ∧ Q (.int (if j < i then j else i)) H) (on2 dMin2) := by
  intro G H xs ds z gh rs h Q q
  obtain ⟨a, b, rfl, h⟩ := of_on2 h
  obtain ⟨v, w, rfl, r, s⟩ := rs.two
  cases r <;> cases s <;> cases h
  exact ⟨_, _, rfl, q _ .int⟩
theorem o_gcd : OpN K cl rGcd (on2 dGcd) := by
  intro G H xs ds z gh rs h Q q
  obtain ⟨a, b, rfl, h⟩ := of_on2 h
  obtain ⟨v, w, rfl, r, s⟩ := rs.two
  cases r <;> cases s <;> cases h
  exact ⟨_, _, rfl, q _ .int⟩
theorem o_list : OpNN K cl (fun xs H Q => ∃ p ys, xs = [.ref p] ∧ (SqL K H p ys ∨ SqT K H p ys) ∧ ∀ l, H l = none → Q (.ref l) (upd H l (.lst ys))) (on1 dList) := by
  intro G H xs ds z gh rs h Q q
  obtain ⟨a, rfl, h⟩ := of_on1 h
  obtain ⟨v, rfl, r⟩ := rs.one
  cases r <;> cases h
  · rename_i hg rs' 
    exact ⟨_, _, rfl, Or.inl (sq_of (gh _ _ hg)), fun l hl => q l _ _ hl rfl rs'⟩
  · rename_i hg rs'
    exact ⟨_, _, rfl, Or.inl (ex_l gh hg), fun l hl => q l _ _ hl rfl rs'⟩
  · rename_i hg rs'
    exact ⟨_, _, rfl, Or.inr (ex_t gh hg), fun l hl => q l _ _ hl rfl rs'⟩
theorem o_cat : Op2N K cl rCat dCat := by
  intro G H x y d e z gh rx ry h Q q
  cases rx <;> cases ry <;> simp only [dCat] at h <;> try (cases h; done)
  split at h
  · rename_i g1 r1 _ _ _ g2 r2 hl
    cases h
    exact ⟨_, _, _, _, rfl, rfl, gh _ _ g1, gh _ _ g2, sz_of (by rw [r1.length, r2.length]; exact hl), fun p hp => q p _ _ hp rfl (r1.append r2)⟩
  · cases h
/-- isinstance -/
theorem rep_ty {G H : Hp} (gh : Ex G H) {v : V} {d z : D} {t : Ty} (r : Rep K cl G v d) (h : dIsi t d = some z) : ∃ s : String, ∃ b : Bool, TyX K H v (.type s) ∧ z = .bl b ∧ kitB s t.nm = some b := by
  have tl : ∀ {a : Addr} {xs : List V}, SqT K G a xs → TyX K H (.ref a) (.type "tuple") := fun {a xs} h => by
    rcases h with (h | ⟨o, h⟩) | ⟨o, _, _, h, c, _⟩
    · exact .base (.tup (gh _ _ h))
    · exact .fTuple (gh _ _ h)
    · exact .kTuple h c
  cases r with
  | non => cases h; exact ⟨"NoneType", false, .base .non, rfl, by cases t <;> decide +kernel⟩
  | bl => cases h; exact ⟨"bool", decide (t = .bool ∨ t = .int), .base (.bl _), rfl, by cases t <;> decide +kernel⟩
  | int => cases h; exact ⟨"int", decide (t = .int), .base (.int _), rfl, by cases t <;> decide +kernel⟩
  | str => cases h; exact ⟨"str", decide (t = .str), .base (.str _), rfl, by cases t <;> decide +kernel⟩
  | lst hg _ => cases h; exact ⟨"list", decide (t = .list), .base (.lst (gh _ _ hg)), rfl, by cases t <;> decide +kernel⟩
  | rol _ _ => cases h
  | tup hg _ => cases h; exact ⟨"tuple", decide (t = .tuple), tl hg, rfl, by cases t <;> decide +kernel⟩
  | ob _ _ => cases h
theorem ev_isi {S S1 : List Sl} {ta : TE} {m : Option D} (t : Ty) (ha : EV K cl ta S m S1) : EV K cl (tCB (rIsi K) (tCons ta (tCons (tC (.ty t.nm)) tNil))) S (m.bind (dIsi t)) S1 := fun B G H σ I z e Q q => by
  obtain ⟨a, ea, e⟩ := bind_some e
  refine ha B G H σ I a ea _ fun x G1 H1 I1 g1 h1 rx => ?_
  obtain ⟨s, b, ht, rfl, hk⟩ := rep_ty I1.nxt.gh rx e
  exact ⟨x, .ty t.nm, .type s, .type t.nm, b, rfl, .ty _, ht, kit_ty hk, q _ G1 H1 I1 g1 h1 .bl⟩
end
end Oh
namespace Oh
open PySem PySem.Spec PyProof.Rows L2 Evl

inductive Fl (β γ : Type) where
  | nx (b : β) | rt (d : D) | bk (c : γ) | ct (c : γ)

section
variable (K : PySem.W.Frag) (cl : Cl)
/-- the end of a def: what is handed back -/
def TV (ts : TS) (S : List Sl) (fl : Bool) (m : Option D) : Prop := ∀ (B : Bs) (G H : Hp) (σ : L2.St), Sig K cl B G H S σ → ∀ d, m = some d → ∀ Dn : Ends,
  (∀ v G' H', Nxt B.G B.H G' H' → Rep K cl G' v d → Dn.rt v H') → (fl = true → d = .non → ∀ σ' G' H', Nxt B.G B.H G' H' → Dn.nx σ' H') → ts Dn σ H
/-- a step: it goes on, always -/
def SV {β : Type} (ts : TS) (S : List Sl) (m : Option β) (post : β → List Sl) : Prop := ∀ (B : Bs) (G H : Hp) (σ : L2.St), Sig K cl B G H S σ → ∀ b, m = some b → ∀ Dn : Ends,
  (∀ σ' G' H', Sig K cl B G' H' (post b) σ' → Dn.nx σ' H') → ts Dn σ H
def FEnd {β γ : Type} (B : Bs) (post : β → List Sl) (out : γ → List Sl) (Dn : Ends) : Fl β γ → Prop
  | .nx b => ∀ σ' G' H', Sig K cl B G' H' (post b) σ' → Dn.nx σ' H'
  | .rt d => ∀ v G' H', Nxt B.G B.H G' H' → Rep K cl G' v d → Dn.rt v H'
  | .bk c => ∀ σ' G' H', Sig K cl B G' H' (out c) σ' → Dn.bk σ' H'
  | .ct c => ∀ σ' G' H', Sig K cl B G' H' (out c) σ' → Dn.ct σ' H'
/-- any way out -/
def FV {β γ : Type} (ts : TS) (S : List Sl) (m : Option (Fl β γ)) (post : β → List Sl) (out : γ → List Sl) : Prop := ∀ (B : Bs) (G H : Hp) (σ : L2.St), Sig K cl B G H S σ → ∀ f, m = some f → ∀ Dn : Ends,
  FEnd K cl B post out Dn f → ts Dn σ H
/-- targets -/
def GV {γ : Type} (g : TG) (f : D → Option γ) (st : γ → List Sl → List Sl) : Prop := ∀ (B : Bs) (G H : Hp) (σ : L2.St) (S : List Sl), Sig K cl B G H S σ → ∀ v d c, Rep K cl G v d → f d = some c → ∀ Q : L2.St → Hp → Prop,
  (∀ σ', Sig K cl B G H (st c S) σ' → Q σ' H) → g v σ H Q
/-- what is walked -/
structure ItOk (J : It) (xs : List D) (G : Hp) : Prop where
  stop : ∀ G' H', Ex G G' → Ex G' H' → J.stop xs.length H'
  go : ∀ i G' H', i < xs.length → Ex G G' → Ex G' H' → J.go i H'
  yld : ∀ i x G' H' v H'', xs[i]? = some x → Ex G G' → Ex G' H' → J.yld i H' v H'' → ∃ G'', Nxt G' H' G'' H'' ∧ Rep K cl G'' v x
def IV (wi : TI) (S : List Sl) (m : Option (List D)) (S1 : List Sl) : Prop := ∀ (B : Bs) (G H : Hp) (σ : L2.St), Sig K cl B G H S σ → ∀ xs, m = some xs → ∀ R : It → Hp → Prop,
  (∀ J G' H', Sig K cl B G' H' S1 σ → Ex G G' → Ex H H' → ItOk K cl J xs G' → R J H') → wi σ H R
end

section
variable {K : PySem.W.Frag} {cl : Cl} {S S1 S2 : List Sl} {te ta tb tc : TE} {t u tr : TS} {tt : TT} {m : Option D} {β γ δ : Type}
/-! ### the end of a def -/
theorem tv_nil : TV K cl tNext S true (some .non) := fun B G H σ I d e Dn _ n => by cases e; exact n rfl rfl σ G H I.nxt
theorem tv_cons {fl : Bool} {mb : Option β} {post : β → List Sl} {k : β → Option D} (h : SV K cl t S mb post) (r : ∀ b, TV K cl u (post b) fl (k b)) : TV K cl (tSeq t u) S fl (mb.bind k) := fun B G H σ I d e Dn q n => by
  obtain ⟨b, eb, e⟩ := bind_some e
  exact h B G H σ I b eb { Dn with nx := u Dn } fun σ' G' H' I' => r b B G' H' σ' I' d e Dn q n
theorem tv_ret {fl : Bool} (h : EV K cl te S m S1) : TV K cl (tSeq (tRet te) tNever) S fl m := fun B G H σ I d e Dn q n =>
  h B G H σ I d e _ fun v G' H' I' _ _ r => q v G' H' I'.nxt r
theorem tv_ret1 {fl : Bool} (h : EV K cl te S m S1) : TV K cl (tRet te) S fl m := fun B G H σ I d e Dn q n =>
  h B G H σ I d e _ fun v G' H' I' _ _ r => q v G' H' I'.nxt r
theorem tv_retN {fl : Bool} : TV K cl (tSeq tRetN tNever) S fl (some .non) := fun B G H σ I d e Dn q n => by cases e; exact q .non G H I.nxt .non
theorem tv_ifl {fl : Bool} {mc : Option Bool} {ma mr : Option D} (hc : ET K cl tt S mc S1) (ha : TV K cl t S1 false ma) (hr : TV K cl u S1 fl mr) : TV K cl (tSeq (tIfS tt t tNext) u) S fl (mc.bind fun c => if c = true then ma else mr) := fun B G H σ I d e Dn q n => by
  obtain ⟨c, ec, e⟩ := bind_some e
  refine hc B G H σ I c ec _ fun G1 H1 I1 _ _ => ?_
  cases c with
  | true => exact ha B G1 H1 σ I1 d e _ q fun z => nomatch z
  | false => exact hr B G1 H1 σ I1 d e Dn q n
theorem tv_ite {fl : Bool} {mc : Option Bool} {ma mr : Option D} (hc : ET K cl tt S mc S1) (ha : TV K cl t S1 fl ma) (hr : TV K cl u S1 fl mr) : TV K cl (tSeq (tIfS tt t u) tNext) S fl (mc.bind fun c => if c = true then ma else mr) := fun B G H σ I d e Dn q n => by
  obtain ⟨c, ec, e⟩ := bind_some e
  refine hc B G H σ I c ec _ fun G1 H1 I1 _ _ => ?_
  cases c with
  | true => exact ha B G1 H1 σ I1 d e _ q n
  | false => exact hr B G1 H1 σ I1 d e _ q n
def flT (k : β → Option D) : Fl β Empty → Option D
  | .nx b => k b
  | .rt d => some d
  | .bk c => nomatch c
  | .ct c => nomatch c
theorem tv_flow {fl : Bool} {mb : Option (Fl β Empty)} {post : β → List Sl} {out : Empty → List Sl} {k : β → Option D} (h : FV K cl t S mb post out) (r : ∀ b, TV K cl u (post b) fl (k b)) : TV K cl (tSeq t u) S fl (mb.bind (flT k)) := fun B G H σ I d e Dn q n => by
  obtain ⟨f, ef, e⟩ := bind_some e
  refine h B G H σ I f ef { Dn with nx := u Dn } ?_
  cases f with
  | nx b => exact fun σ' G' H' I' => r b B G' H' σ' I' d e Dn q n
  | rt d' => cases e; exact q
  | bk c => exact nomatch c
  | ct c => exact nomatch c

/-! ### steps -/
theorem sv_nil {post : β → List Sl} (b : β) (w : Weak S (post b)) : SV K cl tNext S (some b) post := fun B G H σ I b' e Dn q => by cases e; exact q σ G H (I.weak w)
theorem sv_cons {mb : Option β} {post : β → List Sl} {k : β → Option γ} {post2 : γ → List Sl} (h : SV K cl t S mb post) (r : ∀ b, SV K cl u (post b) (k b) post2) : SV K cl (tSeq t u) S (mb.bind k) post2 := fun B G H σ I d e Dn q => by
  obtain ⟨b, eb, e⟩ := bind_some e
  exact h B G H σ I b eb { Dn with nx := u Dn } fun σ' G' H' I' => r b B G' H' σ' I' d e Dn q
theorem sv_asg {i : Nat} (h : EV K cl te S m S1) : SV K cl (tAsg te (gName i)) S m (fun d => S1.set i (.vl d)) := fun B G H σ I d e Dn q =>
  h B G H σ I d e _ fun v G' H' I' _ _ r => q _ G' H' (I'.setV r)
theorem sv_asgN {i : Nat} (h : EVN K cl te S m S1) : SV K cl (tAsg te (gName i)) S m (fun d => S1.set i (.ow d)) := fun B G H σ I d e Dn q =>
  h B G H σ I d e _ fun p vs xs G' H' I' _ _ ed hp r => by
    subst ed
    have nx := Nxt.lay (o := .lst vs) I'.nxt.gh hp
    refine q _ G' _ ((I'.step nx).setO upd_same (fresh_back I'.nxt.gh hp) (fresh_back I'.nxt.h hp) r fun j d _ hj sj => ?_)
    obtain ⟨p', vs', xs', h1, _, h2, _⟩ := I'.ow hj
    rw [h1] at sj; cases sj
    rw [hp] at h2; cases h2
theorem sv_asgG {g : TG} {f : D → Option γ} {st : γ → List Sl → List Sl} (h : EV K cl te S m S1) (hg : GV K cl g f st) : SV K cl (tAsg te g) S (m.bind f) (fun c => st c S1) := fun B G H σ I c e Dn q => by
  obtain ⟨d, ed, e⟩ := bind_some e
  exact h B G H σ I d ed _ fun v G' H' I' _ _ r => hg B G' H' σ S1 I' v d c r e _ fun σ' I2 => q σ' G' H' I2
def dUn2 : D → Option (D × D) | .tup [a, b] => some (a, b) | _ => none
def dUn3 : D → Option (D × D × D) | .tup [a, b, c] => some (a, b, c) | _ => none
theorem gv_name {i : Nat} : GV K cl (gName i) some (fun d S => S.set i (.vl d)) := fun B G H σ S I v d c r e Q q => by cases e; exact q _ (I.setV r)
theorem gv_tup2 {i j : Nat} : GV K cl (gTup K 2 (gCons (gName i) (gCons (gName j) gNil))) dUn2 (fun c S => (S.set i (.vl c.1)).set j (.vl c.2)) := fun B G H σ S I v d c r e Q q => by
  unfold dUn2 at e
  split at e
  · cases e
    cases r with
    | tup hs rs =>
      obtain ⟨x, y, rfl, rx, ry⟩ := rs.two
      exact ⟨_, _, rfl, ex_t I.nxt.gh hs, rfl, x, [y], rfl, y, [], rfl, rfl, q _ ((I.setV rx).setV ry)⟩
  · cases e
theorem gv_tup3 {i j k : Nat} : GV K cl (gTup K 3 (gCons (gName i) (gCons (gName j) (gCons (gName k) gNil)))) dUn3 (fun c S => ((S.set i (.vl c.1)).set j (.vl c.2.1)).set k (.vl c.2.2)) := fun B G H σ S I v d c r e Q q => by
  unfold dUn3 at e
  split at e
  · cases e
    cases r with
    | tup hs rs =>
      cases rs with
      | cons rx rs =>
        obtain ⟨y, z, rfl, ry, rz⟩ := rs.two
        exact ⟨_, _, rfl, ex_t I.nxt.gh hs, rfl, _, [y, z], rfl, y, [z], rfl, z, [], rfl, rfl, q _ (((I.setV rx).setV ry).setV rz)⟩
  · cases e
/-- a, b = e, e' -/
def pairD (xs : List D) : Option (D × D) := match xs with | [a, b] => some (a, b) | _ => none
theorem sv_par {i j : Nat} {ts : TA} {ms : Option (List D)} (h : EA K cl ts S ms S1) : SV K cl (tPar i j ts) S (ms.bind pairD) (fun c => (S1.set i (.vl c.1)).set j (.vl c.2)) := fun B G H σ I c e Dn q => by
  obtain ⟨ds, eds, e⟩ := bind_some e
  refine h B G H σ I ds eds _ fun vs G' H' I' _ _ rs => ?_
  unfold pairD at e
  split at e
  · cases e
    obtain ⟨x, y, rfl, rx, ry⟩ := rs.two
    exact ⟨x, y, rfl, q _ G' H' ((I'.setV rx).setV ry)⟩
  · cases e
/-- x += e -/
theorem sv_aug {i : Nat} {x : D} {r : TIp} {f : D → D → Option D} (hx : S1[i]? = some (.vl x)) (h0 : S[i]? = some (.vl x)) (o : Op2 K cl r f) (h : EV K cl te S m S1) : SV K cl (tAug i te r) S (m.bind fun y => f x y) (fun d => S1.set i (.vl d)) := fun B G H σ I d e Dn q => by
  obtain ⟨y, ey, e⟩ := bind_some e
  obtain ⟨v, hv, rv⟩ := I.vl h0
  refine ⟨v, hv, h B G H σ I y ey _ fun w G' H' I' g1 _ rw' => ?_⟩
  exact o G' H' v w x y d I'.nxt.gh (rv.mono g1) rw' e _ fun z rz => q _ G' H' (I'.setV rz)
def ipAdd : TIp := fun x y H Q => rI0 (fun i j => .int (i + j)) x y H Q ∨ ∃ i j, x = .str i ∧ y = .str j ∧ i.length + j.length ≤ sizeLine ∧ Q (.str (i ++ j)) H
/-- x.append(e) -/
def dApp (d x : D) : Option D := match d with | .lst xs => if xs.length < 100000 then some (.lst (xs ++ [x])) else none | _ => none
theorem sv_app {i : Nat} {d : D} (h0 : S[i]? = some (.ow d)) (h1 : S1[i]? = some (.ow d)) (h : EV K cl te S m S1) : SV K cl (tDrop (tBM K "list" rAppend (tVar i) (tCons te tNil))) S (m.bind fun x => dApp d x) (fun d' => S1.set i (.ow d')) := fun B G H σ I d' e Dn q => by
  obtain ⟨x, ex, e⟩ := bind_some e
  obtain ⟨p, vs, xs, hσ, rfl, hp, gp, bp, rs⟩ := I.ow h0
  refine ⟨.ref p, hσ, Or.inl ⟨rfl, vs, sq_of hp⟩, h B G H σ I x ex _ fun v G' H' I' g1 h1' r => ?_⟩
  unfold dApp at e
  simp only at e
  split at e
  · rename_i hl
    cases e
    refine ⟨p, vs, v, rfl, rfl, h1' _ _ hp, sz_lt (by rw [rs.length]; exact hl), q σ G' _ ?_⟩
    exact I'.mut h1 hσ ((rs.mono g1).append (.cons r .nil))
  · cases e
/-- x[k] = e -/
def dSet (d k x : D) : Option D := match d, k with | .lst xs, .int i => (ixN xs.length i).map fun j => .lst (xs.set j x) | _, _ => none
theorem sv_setL {i : Nat} {d : D} {n : Option D} (h0 : S2[i]? = some (.ow d)) (h : EV K cl te S m S1) (h1 : S1[i]? = some (.ow d)) (hk : EV K cl tb S1 n S2) : SV K cl (tAsg te (gSub (tVar i) tb rSetL)) S (m.bind fun x => n.bind fun k => dSet d k x) (fun d' => S2.set i (.ow d')) := fun B G H σ I d' e Dn q => by
  obtain ⟨x, ex, e⟩ := bind_some e
  obtain ⟨k, ek, e⟩ := bind_some e
  refine h B G H σ I x ex _ fun v G1 H1 I1 g1 h1' rv => ?_
  obtain ⟨p, vs, xs, hσ, rfl, hp, gp, bp, rs⟩ := I1.ow h1
  refine ⟨.ref p, hσ, ?_⟩
  refine hk B G1 H1 σ I1 k ek _ fun w G2 H2 I2 g2 h2' rk => ?_
  unfold dSet at e
  split at e
  · rename_i xs' j e1
    cases e1
    obtain ⟨a, ea, rfl⟩ := Option.map_eq_some_iff.mp e
    cases rk
    refine ⟨p, vs, _, a, rfl, rfl, h2' _ _ hp, by rw [rs.length]; exact ea, q σ G2 _ ?_⟩
    exact I2.mut h0 hσ (Reps.set a (rv.mono g2) (rs.mono g2))
  · cases e
theorem sv_if {mc : Option Bool} {ma mb : Option β} {post : β → List Sl} (hc : ET K cl tt S mc S1) (ha : SV K cl t S1 ma post) (hb : SV K cl u S1 mb post) : SV K cl (tIfS tt t u) S (mc.bind fun c => if c = true then ma else mb) post := fun B G H σ I d e Dn q => by
  obtain ⟨c, ec, e⟩ := bind_some e
  refine hc B G H σ I c ec _ fun G1 H1 I1 _ _ => ?_
  cases c with
  | true => exact ha B G1 H1 σ I1 d e _ q
  | false => exact hb B G1 H1 σ I1 d e _ q
/-! ### any way out -/
theorem fv_nil {post : β → List Sl} {out : γ → List Sl} (b : β) (w : Weak S (post b)) : FV K cl tNext S (some (Fl.nx b)) post out := fun B G H σ I f e Dn q => by cases e; exact q σ G H (I.weak w)
theorem fv_cons {mb : Option δ} {post : δ → List Sl} {k : δ → Option (Fl β γ)} {post2 : β → List Sl} {out : γ → List Sl} (h : SV K cl t S mb post) (r : ∀ b, FV K cl u (post b) (k b) post2 out) : FV K cl (tSeq t u) S (mb.bind k) post2 out := fun B G H σ I f e Dn q => by
  obtain ⟨b, eb, e⟩ := bind_some e
  refine h B G H σ I b eb { Dn with nx := u Dn } fun σ' G' H' I' => r b B G' H' σ' I' f e Dn q
theorem fv_ret {post : β → List Sl} {out : γ → List Sl} (h : EV K cl te S m S1) : FV K cl (tSeq (tRet te) tNever) S (m.map Fl.rt) post out := fun B G H σ I f e Dn q => by
  obtain ⟨d, ed, rfl⟩ := Option.map_eq_some_iff.mp e
  exact h B G H σ I d ed _ fun v G' H' I' _ _ r => q v G' H' I'.nxt r
theorem fv_brk {post : β → List Sl} {out : γ → List Sl} (c : γ) (w : Weak S (out c)) : FV K cl (tSeq tBreak tNever) S (some (Fl.bk c)) post out := fun B G H σ I f e Dn q => by cases e; exact q σ G H (I.weak w)
theorem fv_cont {post : β → List Sl} {out : γ → List Sl} (c : γ) (w : Weak S (out c)) : FV K cl (tSeq tCont tNever) S (some (Fl.ct c)) post out := fun B G H σ I f e Dn q => by cases e; exact q σ G H (I.weak w)
def flE : Fl Empty γ → Option (Fl β γ)
  | .nx b => nomatch b
  | .rt d => some (.rt d)
  | .bk c => some (.bk c)
  | .ct c => some (.ct c)
theorem fv_ifl {mc : Option Bool} {ma : Option (Fl Empty γ)} {mr : Option (Fl β γ)} {post : β → List Sl} {post0 : Empty → List Sl} {out : γ → List Sl} (hc : ET K cl tt S mc S1) (ha : FV K cl t S1 ma post0 out) (hr : FV K cl u S1 mr post out) :
    FV K cl (tSeq (tIfS tt t tNext) u) S (mc.bind fun c => if c = true then ma.bind flE else mr) post out := fun B G H σ I f e Dn q => by
  obtain ⟨c, ec, e⟩ := bind_some e
  refine hc B G H σ I c ec _ fun G1 H1 I1 _ _ => ?_
  cases c with
  | true =>
    obtain ⟨f0, ef, e⟩ := bind_some e
    refine ha B G1 H1 σ I1 f0 ef _ ?_
    cases f0 with
    | nx b => exact nomatch b
    | rt d => cases e; exact q
    | bk c => cases e; exact q
    | ct c => cases e; exact q
  | false => exact hr B G1 H1 σ I1 f e Dn q
theorem fv_if {mc : Option Bool} {ma mb : Option (Fl β γ)} {post : β → List Sl} {out : γ → List Sl} (hc : ET K cl tt S mc S1) (ha : FV K cl t S1 ma post out) (hb : FV K cl u S1 mb post out) : FV K cl (tIfS tt t u) S (mc.bind fun c => if c = true then ma else mb) post out := fun B G H σ I d e Dn q => by
  obtain ⟨c, ec, e⟩ := bind_some e
  refine hc B G H σ I c ec _ fun G1 H1 I1 _ _ => ?_
  cases c with
  | true => exact ha B G1 H1 σ I1 d e _ q
  | false => exact hb B G1 H1 σ I1 d e _ q
def flF (k : δ → Option (Fl β γ)) : Fl δ γ → Option (Fl β γ)
  | .nx b => k b
  | .rt d => some (.rt d)
  | .bk c => some (.bk c)
  | .ct c => some (.ct c)
theorem fv_flow {mb : Option (Fl δ γ)} {post : δ → List Sl} {k : δ → Option (Fl β γ)} {post2 : β → List Sl} {out : γ → List Sl} (h : FV K cl t S mb post out) (r : ∀ b, FV K cl u (post b) (k b) post2 out) : FV K cl (tSeq t u) S (mb.bind (flF k)) post2 out := fun B G H σ I f e Dn q => by
  obtain ⟨f0, ef, e⟩ := bind_some e
  refine h B G H σ I f0 ef { Dn with nx := u Dn } ?_
  cases f0 with
  | nx b => exact fun σ' G' H' I' => r b B G' H' σ' I' f e Dn q
  | rt d' => cases e; exact q
  | bk c => cases e; exact q
  | ct c => cases e; exact q
/-! ### loops -/
def forS (k : D → β → Option β) : List D → β → Option β
  | [], b => some b
  | x :: xs, b => (k x b).bind (forS k xs)
def forF (k : D → β → Option (Fl β β)) : List D → β → Option (Fl β γ)
  | [], b => some (.nx b)
  | x :: xs, b => (k x b).bind fun f => match f with
    | .nx b => forF k xs b
    | .ct b => forF k xs b
    | .bk b => some (.nx b)
    | .rt d => some (.rt d)
theorem drop_cons {α : Type} {xs : List α} {i : Nat} {x : α} (h : xs[i]? = some x) : xs.drop i = x :: xs.drop (i + 1) := by
  obtain ⟨hl, e⟩ := List.getElem?_eq_some_iff.mp h
  rw [List.drop_eq_getElem_cons hl, e]
theorem drop_end {α : Type} {xs : List α} {i : Nat} (h : xs.length ≤ i) : xs.drop i = [] := List.drop_eq_nil_of_le h
theorem Nxt.base {G0 H0 G1 G H : Hp} (n : Nxt G0 H0 G1 H1) (m : Nxt G1 H0 G H) : Nxt G0 H0 G H := ⟨n.g.trans m.g, m.h, m.gh, fun p h => by
    rcases m.fr p h with h | h
    · exact n.fr p h
    · exact .inr h⟩
theorem Sig.up {B : Bs} {G H : Hp} {σ : L2.St} (I : Sig K cl B G H S σ) : Sig K cl ⟨G, B.H⟩ G H S σ := ⟨⟨Ex.refl _, I.nxt.h, I.nxt.gh, fun _ h => .inl h⟩, I.len, I.slots, I.apart⟩
theorem Sig.down {B : Bs} {G H G' H' : Hp} {σ σ' : L2.St} {S' : List Sl} (I : Sig K cl B G H S σ) (I' : Sig K cl ⟨G, B.H⟩ G' H' S' σ') : Sig K cl B G' H' S' σ' := ⟨I.nxt.base I'.nxt, I'.len, I'.slots, I'.apart⟩
theorem sv_for {wi : TI} {g : TG} {mi : Option (List D)} {inv : β → List Sl} {γ' : Type} {f : D → Option γ'} {st : γ' → List Sl → List Sl} {k : γ' → β → Option β} (b0 : β) (hi : IV K cl wi S mi S1) (hw : Weak S1 (inv b0)) (hg : GV K cl g f st)
    (hb : ∀ c b, SV K cl t (st c (inv b)) (k c b) inv) : SV K cl (tFor wi g t) S (mi.bind fun xs => forS (fun x b => (f x).bind fun c => k c b) xs b0) inv := fun B G H σ I bz e Dn q => by
  obtain ⟨xs, ex, e⟩ := bind_some e
  refine hi B G H σ I xs ex _ fun J G1 H1 I1 _ _ ok => ?_
  refine ⟨fun i n σ' H' => n + i = xs.length ∧ ∃ b G', forS (fun x b => (f x).bind fun c => k c b) (xs.drop i) b = some bz ∧ Ex G1 G' ∧ Sig K cl B G' H' (inv b) σ', ⟨xs.length, rfl, b0, G1, e, Ex.refl _, I1.weak hw⟩, ?_⟩
  rintro i n σ' H' ⟨hn, b, G', eb, eg, I'⟩
  by_cases hl : i < xs.length
  · have hx : xs[i]? = some xs[i] := List.getElem?_eq_getElem hl
    rw [drop_cons hx] at eb
    obtain ⟨b2, eb2, eb⟩ := bind_some eb
    obtain ⟨c, ec, eb2⟩ := bind_some eb2
    refine .inr ⟨ok.go i G' H' hl eg I'.nxt.gh, fun σ2 H2 => ∃ G2, Ex G1 G2 ∧ Sig K cl B G2 H2 (inv b2) σ2, fun σ2 H2 ⟨G2, g2, I2⟩ => ⟨n - 1, by omega, by omega, b2, G2, eb, g2, I2⟩, fun v H2 hy => ?_⟩
    obtain ⟨G2, nx, rv⟩ := ok.yld i _ G' H' v H2 hx eg I'.nxt.gh hy
    have I2 := I'.step nx
    refine hg B G2 H2 σ' _ I2 v _ c rv ec _ fun σ3 I3 => ?_
    exact hb c b ⟨G2, B.H⟩ G2 H2 σ3 I3.up b2 eb2 _ fun σ4 G4 H4 I4 => ⟨G4, (eg.trans nx.g).trans I4.nxt.g, I3.down I4⟩
  · refine .inl ⟨?_, ?_⟩
    · have e1 : i = xs.length := by omega
      rw [e1]; exact ok.stop G' H' eg I'.nxt.gh
    · rw [drop_end (by omega)] at eb
      cases eb
      exact q σ' G' H' I'
theorem fv_for {wi : TI} {g : TG} {mi : Option (List D)} {inv : β → List Sl} {out : γ → List Sl} {γ' : Type} {f : D → Option γ'} {st : γ' → List Sl → List Sl} {k : γ' → β → Option (Fl β β)} (b0 : β) (hi : IV K cl wi S mi S1) (hw : Weak S1 (inv b0)) (hg : GV K cl g f st)
    (hb : ∀ c b, FV K cl t (st c (inv b)) (k c b) inv inv) : FV K cl (tFor wi g t) S (mi.bind fun xs => forF (γ := γ) (fun x b => (f x).bind fun c => k c b) xs b0) inv out := fun B G H σ I bz e Dn q => by
  obtain ⟨xs, ex, e⟩ := bind_some e
  refine hi B G H σ I xs ex _ fun J G1 H1 I1 _ _ ok => ?_
  refine ⟨fun i n σ' H' => n + i = xs.length ∧ ∃ b G', forF (γ := γ) (fun x b => (f x).bind fun c => k c b) (xs.drop i) b = some bz ∧ Ex G1 G' ∧ Sig K cl B G' H' (inv b) σ', ⟨xs.length, rfl, b0, G1, e, Ex.refl _, I1.weak hw⟩, ?_⟩
  rintro i n σ' H' ⟨hn, b, G', eb, eg, I'⟩
  by_cases hl : i < xs.length
  · have hx : xs[i]? = some xs[i] := List.getElem?_eq_getElem hl
    rw [drop_cons hx] at eb
    obtain ⟨fl, efl, eb⟩ := bind_some eb
    obtain ⟨c, ec, efl⟩ := bind_some efl
    refine .inr ⟨ok.go i G' H' hl eg I'.nxt.gh, fun σ2 H2 => ∃ b2 G2, forF (γ := γ) (fun x b => (f x).bind fun c => k c b) (xs.drop (i + 1)) b2 = some bz ∧ Ex G1 G2 ∧ Sig K cl B G2 H2 (inv b2) σ2, fun σ2 H2 ⟨b2, G2, eb, g2, I2⟩ => ⟨n - 1, by omega, by omega, b2, G2, eb, g2, I2⟩, fun v H2 hy => ?_⟩
    obtain ⟨G2, nx, rv⟩ := ok.yld i _ G' H' v H2 hx eg I'.nxt.gh hy
    have I2 := I'.step nx
    refine hg B G2 H2 σ' _ I2 v _ c rv ec _ fun σ3 I3 => ?_
    refine hb c b ⟨G2, B.H⟩ G2 H2 σ3 I3.up fl efl _ ?_
    cases fl with
    | nx b2 => exact fun σ4 G4 H4 I4 => ⟨b2, G4, eb, (eg.trans nx.g).trans I4.nxt.g, I3.down I4⟩
    | ct b2 => exact fun σ4 G4 H4 I4 => ⟨b2, G4, eb, (eg.trans nx.g).trans I4.nxt.g, I3.down I4⟩
    | bk b2 =>
      cases eb
      exact fun σ4 G4 H4 I4 => q σ4 G4 H4 (I3.down I4)
    | rt d =>
      cases eb
      exact fun v G4 H4 n4 r4 => q v G4 H4 (I3.nxt.base n4) r4
  · refine .inl ⟨?_, ?_⟩
    · have e1 : i = xs.length := by omega
      rw [e1]; exact ok.stop G' H' eg I'.nxt.gh
    · rw [drop_end (by omega)] at eb
      cases eb
      exact q σ' G' H' I'
/-- while, with so many turns at most -/
def whS (c : β → Option Bool) (k : β → Option β) : Nat → β → Option β
  | 0, _ => none
  | n + 1, b => (c b).bind fun x => if x = true then (k b).bind (whS c k n) else some b
theorem sv_while {inv : β → List Sl} {c : β → Option Bool} {k : β → Option β} (n : Nat) (b0 : β) (hw : Weak S (inv b0)) (hc : ∀ b, ET K cl tt (inv b) (c b) (inv b)) (hb : ∀ b, SV K cl t (inv b) (k b) inv) :
    SV K cl (tWhile tt t) S (whS c k n b0) inv := fun B G H σ I bz e Dn q => by
  refine ⟨fun m σ' H' => ∃ b G', whS c k m b = some bz ∧ Sig K cl B G' H' (inv b) σ', ⟨n, b0, G, e, I.weak hw⟩, ?_⟩
  rintro m σ' H' ⟨b, G', eb, I'⟩
  cases m with
  | zero => cases eb
  | succ m =>
    obtain ⟨x, ex, eb⟩ := bind_some eb
    refine hc b B G' H' σ' I' x ex _ fun G1 H1 I1 _ _ => ?_
    cases x with
    | true =>
      obtain ⟨b2, eb2, eb⟩ := bind_some eb
      exact ⟨fun σ2 H2 => ∃ G2, Sig K cl B G2 H2 (inv b2) σ2, fun σ2 H2 ⟨G2, I2⟩ => ⟨m, by omega, b2, G2, eb, I2⟩, hb b B G1 H1 σ' I1 b2 eb2 _ fun σ2 G2 H2 I2 => ⟨G2, I2⟩⟩
    | false =>
      cases eb
      exact q σ' G1 H1 I1
def whF (c : β → Option Bool) (k : β → Option (Fl β β)) : Nat → β → Option (Fl β γ)
  | 0, _ => none
  | n + 1, b => (c b).bind fun x => if x = true then (k b).bind fun f => (match f with
    | .nx b => whF c k n b
    | .ct b => whF c k n b
    | .bk b => some (.nx b)
    | .rt d => some (.rt d)) else some (.nx b)
theorem fv_while {inv : β → List Sl} {out : γ → List Sl} {c : β → Option Bool} {k : β → Option (Fl β β)} (n : Nat) (b0 : β) (hw : Weak S (inv b0)) (hc : ∀ b, ET K cl tt (inv b) (c b) (inv b)) (hb : ∀ b, FV K cl t (inv b) (k b) inv inv) :
    FV K cl (tWhile tt t) S (whF (γ := γ) c k n b0) inv out := fun B G H σ I bz e Dn q => by
  refine ⟨fun m σ' H' => ∃ b G', whF (γ := γ) c k m b = some bz ∧ Sig K cl B G' H' (inv b) σ', ⟨n, b0, G, e, I.weak hw⟩, ?_⟩
  rintro m σ' H' ⟨b, G', eb, I'⟩
  cases m with
  | zero => cases eb
  | succ m =>
    obtain ⟨x, ex, eb⟩ := bind_some eb
    refine hc b B G' H' σ' I' x ex _ fun G1 H1 I1 _ _ => ?_
    cases x with
    | true =>
      obtain ⟨fl, efl, eb⟩ := bind_some eb
      refine ⟨fun σ2 H2 => ∃ b2 G2, whF (γ := γ) c k m b2 = some bz ∧ Sig K cl B G2 H2 (inv b2) σ2, fun σ2 H2 ⟨b2, G2, e2, I2⟩ => ⟨m, by omega, b2, G2, e2, I2⟩, ?_⟩
      refine hb b B G1 H1 σ' I1 fl efl _ ?_
      cases fl with
      | nx b2 => exact fun σ2 G2 H2 I2 => ⟨b2, G2, eb, I2⟩
      | ct b2 => exact fun σ2 G2 H2 I2 => ⟨b2, G2, eb, I2⟩
      | bk b2 => cases eb; exact q
      | rt d => cases eb; exact q
    | false =>
      cases eb
      exact q σ' G1 H1 I1
/-! ### what is walked -/
theorem iv_list (h : EV K cl te S m S1) : IV K cl (iList K te) S (m.bind asL) S1 := fun B G H σ I xs e R r => by
  obtain ⟨d, ed, e⟩ := bind_some e
  refine h B G H σ I d ed _ fun v G' H' I' g1 h1 rv => ?_
  have key : ∀ (a : Addr) (vs : List V), SqL K G' a vs → Reps K cl G' vs xs → ∃ a', V.ref a = V.ref a' ∧ (∃ ys, SqL K H' a' ys) ∧ R (Itl K a') H' := fun a vs hs rs => by
    refine ⟨a, rfl, ⟨vs, ex_l I'.nxt.gh hs⟩, r _ G' H' I' g1 h1 ⟨fun G2 H2 eg gh => ⟨vs, ex_l gh (ex_l eg hs), by rw [rs.length]; exact Nat.le_refl _⟩, fun i G2 H2 hi eg gh => ?_, fun i x G2 H2 v H3 hx eg gh hy => ?_⟩⟩
    · have hi' : i < vs.length := by rw [rs.length]; exact hi
      exact ⟨vs, vs[i], ex_l gh (ex_l eg hs), List.getElem?_eq_getElem hi'⟩
    · obtain ⟨e1, hy⟩ := hy
      subst e1
      obtain ⟨w, hw, rw'⟩ := rs.get hx
      have := hy vs (ex_l gh (ex_l eg hs))
      rw [hw] at this
      cases this
      exact ⟨G2, Nxt.refl gh, rw'.mono eg⟩
  cases rv with
  | lst hg rs => cases e; exact key _ _ (sq_of hg) rs
  | rol hg rs => cases e; exact key _ _ hg rs
  | _ => cases e
theorem iv_tup (h : EV K cl te S m S1) : IV K cl (iTup K te) S (m.bind asT) S1 := fun B G H σ I xs e R r => by
  obtain ⟨d, ed, e⟩ := bind_some e
  refine h B G H σ I d ed _ fun v G' H' I' g1 h1 rv => ?_
  cases rv with
  | tup hs rs =>
    cases e
    rename_i a vs
    refine ⟨a, rfl, ⟨vs, ex_t I'.nxt.gh hs⟩, r _ G' H' I' g1 h1 ⟨fun G2 H2 eg gh => ⟨vs, ex_t gh (ex_t eg hs), by rw [rs.length]; exact Nat.le_refl _⟩, fun i G2 H2 hi eg gh => ?_, fun i x G2 H2 v H3 hx eg gh hy => ?_⟩⟩
    · have hi' : i < vs.length := by rw [rs.length]; exact hi
      exact ⟨vs, vs[i], ex_t gh (ex_t eg hs), List.getElem?_eq_getElem hi'⟩
    · obtain ⟨e1, hy⟩ := hy
      subst e1
      obtain ⟨w, hw, rw'⟩ := rs.get hx
      have := hy vs (ex_t gh (ex_t eg hs))
      rw [hw] at this
      cases this
      exact ⟨G2, Nxt.refl gh, rw'.mono eg⟩
  | _ => cases e
def rngD (lo : Int) (n : Nat) : List D := (List.range n).map fun i => D.int (lo + (i : Nat))
def dRng1 : D → Option (List D) | .int n => if -(2 ^ 62) ≤ n ∧ n < 2 ^ 62 then some (rngD 0 n.toNat) else none | _ => none
def dRng2 : D → D → Option (List D) | .int a, .int n => if -(2 ^ 62) ≤ a ∧ a < 2 ^ 62 ∧ -(2 ^ 62) ≤ n ∧ n < 2 ^ 62 then some (rngD a (n - a).toNat) else none | _, _ => none
theorem it_rng (lo : Int) (n : Nat) (G : Hp) : ItOk K cl (Itr lo n) (rngD lo n) G := by
  have hl : (rngD lo n).length = n := by unfold rngD; rw [List.length_map, List.length_range]
  refine ⟨fun G' H' _ _ => by rw [hl]; exact Nat.le_refl _, fun i G' H' hi _ _ => by rw [hl] at hi; exact hi, fun i x G' H' v H'' hx _ gh hy => ?_⟩
  obtain ⟨e, e2⟩ := hy
  subst e e2
  have hi : i < n := by rw [← hl]; exact (List.getElem?_eq_some_iff.mp hx).1
  have hx2 : (rngD lo n)[i]? = some (D.int (lo + (i : Nat))) := by
    unfold rngD
    rw [List.getElem?_map, List.getElem?_range hi]
    rfl
  rw [hx] at hx2
  cases hx2
  exact ⟨G', Nxt.refl gh, .int⟩
theorem iv_rng1 (h : EV K cl te S m S1) : IV K cl (iRng1 (tCons te tNil)) S (m.bind dRng1) S1 := fun B G H σ I xs e R r => by
  obtain ⟨d, ed, e⟩ := bind_some e
  refine h B G H σ I d ed _ fun v G' H' I' g1 h1 rv => ?_
  cases rv with
  | int =>
    simp only [dRng1] at e
    split at e
    · rename_i i hi
      cases e
      exact ⟨i, rfl, hi.1, hi.2, r _ G' H' I' g1 h1 (it_rng _ _ _)⟩
    · cases e
  | _ => cases e
theorem iv_rng2 {n : Option D} (ha : EV K cl ta S m S1) (hb : EV K cl tb S1 n S2) : IV K cl (iRng2 (tCons ta (tCons tb tNil))) S (m.bind fun x => n.bind fun y => dRng2 x y) S2 := fun B G H σ I xs e R r => by
  obtain ⟨d, ed, e⟩ := bind_some e
  obtain ⟨d2, ed2, e⟩ := bind_some e
  refine ha B G H σ I d ed _ fun v G' H' I' g1 h1 rv => ?_
  refine hb B G' H' σ I' d2 ed2 _ fun v2 G2 H2 I2 g2 h2 rv2 => ?_
  cases rv with
  | int =>
    cases rv2 with
    | int =>
      rename_i ei ej i j
      simp only [dRng2] at e
      split at e
      · rename_i hi
        cases e
        exact ⟨_, _, rfl, hi, r _ G2 H2 I2 (g1.trans g2) (h1.trans h2) (it_rng _ _ _)⟩
      · cases e
    | _ => cases e
  | _ => cases e
theorem iv_rev (h : EV K cl te S m S1) : IV K cl (iRev K (tCons te tNil)) S (m.bind fun d => (asL d).map List.reverse) S1 := fun B G H σ I xs e R r => by
  obtain ⟨d, ed, e⟩ := bind_some e
  obtain ⟨ys, ey, rfl⟩ := Option.map_eq_some_iff.mp e
  refine h B G H σ I d ed _ fun v G' H' I' g1 h1 rv => ?_
  have key : ∀ (a : Addr) (vs : List V), SqL K G' a vs → Reps K cl G' vs ys → ∃ (a' : Addr) (xs : List V), [V.ref a] = [V.ref a'] ∧ SqL K H' a' xs ∧ R (Itv K a' xs.length) H' := fun a vs hs rs => by
    have lv := rs.length
    refine ⟨a, vs, rfl, ex_l I'.nxt.gh hs, r _ G' H' I' g1 h1 ⟨fun G2 H2 eg gh => by rw [List.length_reverse, ← lv]; exact Nat.le_refl _, fun i G2 H2 hi eg gh => ?_, fun i x G2 H2 v H3 hx eg gh hy => ?_⟩⟩
    · rw [List.length_reverse, ← lv] at hi
      exact ⟨hi, vs, vs[vs.length - 1 - i], ex_l gh (ex_l eg hs), List.getElem?_eq_getElem (by omega)⟩
    · obtain ⟨e1, hy⟩ := hy
      subst e1
      have hi : i < ys.length := by
        have := (List.getElem?_eq_some_iff.mp hx).1
        rw [List.length_reverse] at this; exact this
      rw [List.getElem?_reverse hi] at hx
      obtain ⟨w, hw, rw'⟩ := rs.get hx
      have := hy vs (ex_l gh (ex_l eg hs))
      rw [lv, hw] at this
      cases this
      exact ⟨G2, Nxt.refl gh, rw'.mono eg⟩
  cases rv with
  | lst hg rs => cases ey; exact key _ _ (sq_of hg) rs
  | rol hg rs => cases ey; exact key _ _ hg rs
  | _ => cases ey
theorem iv_zip {n : Option D} (ha : EV K cl ta S m S1) (hb : EV K cl tb S1 n S2) : IV K cl (iZip K (tCons ta (tCons tb tNil))) S (m.bind fun x => n.bind fun y => (asL x).bind fun xs => (asL y).bind fun ys => some (List.zipWith (fun a b => D.tup [a, b]) xs ys)) S2 := fun B G H σ I xs e R r => by
  obtain ⟨d, ed, e⟩ := bind_some e
  obtain ⟨d2, ed2, e⟩ := bind_some e
  obtain ⟨ys, ey, e⟩ := bind_some e
  obtain ⟨zs, ez, e⟩ := bind_some e
  cases e
  refine ha B G H σ I d ed _ fun v G' H' I' g1 h1 rv => ?_
  refine hb B G' H' σ I' d2 ed2 _ fun v2 G2 H2 I2 g2 h2 rv2 => ?_
  have key1 : ∃ a vs, v = .ref a ∧ SqL K G2 a vs ∧ Reps K cl G2 vs ys := by
    cases rv with
    | lst hg rs => cases ey; exact ⟨_, _, rfl, ex_l g2 (sq_of hg), rs.mono g2⟩
    | rol hg rs => cases ey; exact ⟨_, _, rfl, ex_l g2 hg, rs.mono g2⟩
    | _ => cases ey
  have key2 : ∃ a vs, v2 = .ref a ∧ SqL K G2 a vs ∧ Reps K cl G2 vs zs := by
    cases rv2 with
    | lst hg rs => cases ez; exact ⟨_, _, rfl, sq_of hg, rs⟩
    | rol hg rs => cases ez; exact ⟨_, _, rfl, hg, rs⟩
    | _ => cases ez
  obtain ⟨a, vs, rfl, hs, rs⟩ := key1
  obtain ⟨a2, vs2, rfl, hs2, rs2⟩ := key2
  have lv := rs.length
  have lv2 := rs2.length
  refine ⟨a, a2, vs, vs2, rfl, ex_l I2.nxt.gh hs, ex_l I2.nxt.gh hs2, r _ G2 H2 I2 (g1.trans g2) (h1.trans h2) ⟨fun G3 H3 eg gh => ⟨vs, vs2, ex_l gh (ex_l eg hs), ex_l gh (ex_l eg hs2), ?_⟩, fun i G3 H3 hi eg gh => ?_, fun i x G3 H3 v H4 hx eg gh hy => ?_⟩⟩
  · rw [List.length_zipWith, lv, lv2]; omega
  · rw [List.length_zipWith] at hi
    exact ⟨vs, vs2, vs[i], vs2[i], ex_l gh (ex_l eg hs), ex_l gh (ex_l eg hs2), List.getElem?_eq_getElem (by omega), List.getElem?_eq_getElem (by omega)⟩
  · obtain ⟨T, x1, x2, rfl, nT, rfl, f1, f2⟩ := hy
    have f1 := f1 vs (ex_l gh (ex_l eg hs))
    have f2 := f2 vs2 (ex_l gh (ex_l eg hs2))
    obtain ⟨d1, hd1, r1⟩ := rs.getV f1
    obtain ⟨d2, hd2, r2⟩ := rs2.getV f2
    rw [List.getElem?_zipWith, hd1, hd2] at hx
    cases hx
    have nx := Nxt.new (o := .tup [x1, x2]) gh nT
    exact ⟨_, nx, .tup (st_of upd_same) (.cons (r1.mono (eg.trans nx.g)) (.cons (r2.mono (eg.trans nx.g)) .nil))⟩
/-! ### comprehensions -/
def compD (k : D → Option (Option D)) : List D → Option (List D)
  | [] => some []
  | x :: xs => (k x).bind fun o => (compD k xs).bind fun ys => some (match o with | some y => y :: ys | none => ys)
def wipeS (S : List Sl) : List Nat → List Sl
  | [] => S
  | v :: vs => (wipeS S vs).set v .jk
theorem Sig.wipe {B : Bs} {G H : Hp} {σ : L2.St} (I : Sig K cl B G H S σ) : ∀ vs : List Nat, Sig K cl B G H (wipeS S vs) (L2.wipe σ vs)
  | [] => I
  | v :: vs => (Sig.wipe I vs).any v none
theorem compD_len {k : D → Option (Option D)} : ∀ {xs ys}, compD k xs = some ys → ys.length ≤ xs.length
  | [], ys, h => by cases h; exact Nat.le_refl _
  | x :: xs, ys, h => by
    obtain ⟨o, _, h⟩ := bind_some h
    obtain ⟨zs, ez, h⟩ := bind_some h
    have := compD_len ez
    cases o <;> cases h
    · exact Nat.le_succ_of_le this
    · exact Nat.succ_le_succ this
def capD (xs : List D) : Option (List D) := if xs.length ≤ 90000 then some xs else none
def noOw : List Sl → List Sl
  | [] => []
  | .ow _ :: S => .jk :: noOw S
  | s :: S => s :: noOw S
theorem noOw_get : ∀ {S : List Sl} {i : Nat} {s : Sl}, (noOw S)[i]? = some s → s = .jk ∨ (S[i]? = some s ∧ ∀ d, s ≠ .ow d)
  | [], _, _, h => by cases h
  | .ow d :: S, 0, s, h => .inl (by cases h; rfl)
  | .jk :: S, 0, s, h => .inl (by cases h; rfl)
  | .vl d :: S, 0, s, h => .inr (by cases h; exact ⟨rfl, fun _ z => nomatch z⟩)
  | .ow d :: S, i + 1, s, h => noOw_get (S := S) (i := i) h
  | .jk :: S, i + 1, s, h => noOw_get (S := S) (i := i) h
  | .vl d :: S, i + 1, s, h => noOw_get (S := S) (i := i) h
theorem noOw_len : ∀ S : List Sl, (noOw S).length = S.length
  | [] => rfl
  | .ow d :: S => congrArg (· + 1) (noOw_len S)
  | .jk :: S => congrArg (· + 1) (noOw_len S)
  | .vl d :: S => congrArg (· + 1) (noOw_len S)
/-- a state of its own base: what stands is not changed -/
theorem Sig.own {B : Bs} {G H : Hp} {σ : L2.St} (I : Sig K cl B G H S σ) : Sig K cl ⟨G, H⟩ G H (noOw S) σ := by
  refine ⟨Nxt.refl I.nxt.gh, by rw [noOw_len]; exact I.len, fun i s h => ?_, fun i j p di dj _ hi _ _ => ?_⟩
  · rcases noOw_get h with rfl | ⟨h, n⟩
    · have hl : i < σ.length := by
        rw [I.len, ← noOw_len]
        exact (List.getElem?_eq_some_iff.mp h).1
      exact ⟨σ[i], List.getElem?_eq_getElem hl, trivial⟩
    · obtain ⟨o, h1, h2⟩ := I.slots i s h
      refine ⟨o, h1, ?_⟩
      cases s with
      | jk => trivial
      | vl d => exact h2
      | ow d => exact absurd rfl (n d)
  · rcases noOw_get hi with h | ⟨_, n⟩
    · cases h
    · exact absurd rfl (n di)
theorem wipe_out2 {σ : L2.St} {j : Nat} : ∀ {vs : List Nat}, j ∉ vs → (L2.wipe σ vs)[j]? = σ[j]?
  | [], _ => rfl
  | v :: vs, h => by
    show ((L2.wipe σ vs).set v none)[j]? = _
    rw [List.getElem?_set_ne (fun e => h (by rw [e]; exact List.mem_cons_self))]
    exact wipe_out2 fun z => h (List.mem_cons_of_mem _ z)
theorem wipe_at {σ : L2.St} {j : Nat} (hl : j < σ.length) : ∀ {vs : List Nat}, j ∈ vs → (L2.wipe σ vs)[j]? = some none
  | v :: vs, h => by
    show ((L2.wipe σ vs).set v none)[j]? = _
    by_cases e : v = j
    · subst e
      rw [List.getElem?_set_self (by rw [L2.wipe_length]; exact hl)]
    · rw [List.getElem?_set_ne e]
      refine wipe_at hl ?_
      rcases List.mem_cons.mp h with h | h
      · exact absurd h.symm e
      · exact h
theorem wipe_congr {σ σ' : L2.St} {vs : List Nat} (hl : σ'.length = σ.length) (h : ∀ j, j ∉ vs → σ'[j]? = σ[j]?) : L2.wipe σ' vs = L2.wipe σ vs := by
  apply List.ext_getElem?
  intro j
  by_cases hj : j ∈ vs
  · by_cases hk : j < σ.length
    · rw [wipe_at hk hj, wipe_at (by rw [hl]; exact hk) hj]
    · rw [List.getElem?_eq_none (by rw [L2.wipe_length]; omega), List.getElem?_eq_none (by rw [L2.wipe_length]; omega)]
  · rw [wipe_out2 hj, wipe_out2 hj, h j hj]
/-- a target that stores at vs alone -/
def GW (g : TG) (vs : List Nat) : Prop := ∀ (v : V) (σ : L2.St) (H : Hp) (Q Q' : L2.St → Hp → Prop), g v σ H Q → (∀ σ' H', (∀ j, j ∉ vs → σ'[j]? = σ[j]?) → σ'.length = σ.length → Q σ' H' → Q' σ' H') → g v σ H Q'
theorem gw_name {i : Nat} {vs : List Nat} (h : i ∈ vs) : GW (gName i) vs := fun v σ H Q Q' q k => k _ _ (fun j hj => by rw [List.getElem?_set_ne (fun e => hj (by rw [← e]; exact h))]) List.length_set q
theorem gw_tup2 {i j : Nat} {vs : List Nat} (h : i ∈ vs) (h2 : j ∈ vs) : GW (gTup K 2 (gCons (gName i) (gCons (gName j) gNil))) vs := fun v σ H Q Q' q k => by
  obtain ⟨a, xs, e1, e2, e3, x, r, e4, y, r2, e5, e6, q⟩ := q
  exact ⟨a, xs, e1, e2, e3, x, r, e4, y, r2, e5, e6, k _ _ (fun l hl => by rw [List.getElem?_set_ne (fun e => hl (by rw [← e]; exact h2)), List.getElem?_set_ne (fun e => hl (by rw [← e]; exact h))]) (by rw [List.length_set, List.length_set]) q⟩
theorem evn_lc {wi : TI} {g : TG} {mi : Option (List D)} {vs : List Nat} {γ' : Type} {f : D → Option γ'} {st : γ' → List Sl → List Sl} {kt : γ' → Option Bool} {ke : γ' → Option D} {S3 S4 : γ' → List Sl} (hi : IV K cl wi S mi S1) (hg : GV K cl g f st) (hw : GW g vs)
    (ht : ∀ c, ET K cl tt (st c (noOw (wipeS S1 vs))) (kt c) (S3 c)) (he : ∀ c, EV K cl te (S3 c) (ke c) (S4 c)) :
    EVN K cl (tLc wi g tt te vs) S (mi.bind fun xs => (capD xs).bind fun xs => (compD (fun x => (f x).bind fun c => (kt c).bind fun b => if b = true then (ke c).map some else some none) xs).map .lst) S1 := fun B G H σ I d e Q q => by
  obtain ⟨xs0, ex, e⟩ := bind_some e
  obtain ⟨xs, ec, e⟩ := bind_some e
  obtain ⟨ys, ey, rfl⟩ := Option.map_eq_some_iff.mp e
  unfold capD at ec
  split at ec
  · rename_i hcap
    cases ec
    refine hi B G H σ I xs0 ex _ fun J G1 H1 I1 g1 h1 ok => fun Dl hD => ?_
    refine ⟨fun i n H' => n + i = xs0.length ∧ ∃ av ad rest G', compD (fun x => (f x).bind fun c => (kt c).bind fun b => if b = true then (ke c).map some else some none) (xs0.drop i) = some rest ∧ ad ++ rest = ys ∧ Ex G1 G' ∧ Ex H1 H' ∧ Sig K cl B G' H' S1 σ ∧ H' Dl = some (.lst av) ∧ G' Dl = none ∧ Reps K cl G' av ad ∧ ad.length ≤ i,
      ⟨xs0.length, rfl, [], [], ys, G1, ey, rfl, Ex.refl _, Ex.new hD, I1.step (Nxt.lay I1.nxt.gh hD), upd_same, fresh_back I1.nxt.gh hD, .nil, Nat.le_refl _⟩, ?_⟩
    rintro i n H' ⟨hn, av, ad, rest, G', er, ea, eg, eh, I', hd, gd, rs, hl⟩
    by_cases hi : i < xs0.length
    · have hx : xs0[i]? = some xs0[i] := List.getElem?_eq_getElem hi
      rw [drop_cons hx] at er
      obtain ⟨o, eo, er⟩ := bind_some er
      obtain ⟨rest2, er2, er⟩ := bind_some er
      obtain ⟨c, efc, eo⟩ := bind_some eo
      obtain ⟨b, eb, eo⟩ := bind_some eo
      refine .inr ⟨ok.go i G' H' hi eg I'.nxt.gh, fun H2 => ∃ av ad G2, ad ++ rest2 = ys ∧ Ex G1 G2 ∧ Ex H1 H2 ∧ Sig K cl B G2 H2 S1 σ ∧ H2 Dl = some (.lst av) ∧ G2 Dl = none ∧ Reps K cl G2 av ad ∧ ad.length ≤ i + 1,
        fun H2 ⟨av, ad, G2, k1, k2, k3, k4, k5, k6, k7, k8⟩ => ⟨n - 1, by omega, by omega, av, ad, rest2, G2, er2, k1, k2, k3, k4, k5, k6, k7, k8⟩, fun v H2 hy => ?_⟩
      obtain ⟨G2, nx, rv⟩ := ok.yld i _ G' H' v H2 hx eg I'.nxt.gh hy
      have I2 := I'.step nx
      have IW := (I2.wipe vs).own
      refine hw v (L2.wipe σ vs) H2 (fun σ3 H3 => Sig K cl ⟨G2, H2⟩ G2 H2 (st c (noOw (wipeS S1 vs))) σ3 ∧ H3 = H2) _ (hg ⟨G2, H2⟩ G2 H2 (L2.wipe σ vs) _ IW v _ c rv efc _ fun σ3 I3 => ⟨I3, rfl⟩) fun σ3 H3 hj hlen ⟨I3, e3⟩ => ?_
      subst e3
      refine ⟨(wipe_congr hlen hj).trans (wipe_congr (by rw [L2.wipe_length]) fun j hj => wipe_out2 hj), ?_⟩
      refine ht c ⟨G2, H3⟩ G2 H3 σ3 I3 b eb _ fun G4 H4 I4 g4 h4 => ?_
      have n4 : Nxt G' H' G4 H4 := nx.trans I4.nxt
      have keep : ∀ {G5 H5}, Nxt G' H' G5 H5 → H5 Dl = some (.lst av) ∧ G5 Dl = none := fun {G5 H5} n5 => by
        refine ⟨n5.h _ _ hd, ?_⟩
        cases q5 : G5 Dl with
        | none => rfl
        | some u =>
          rcases n5.fr Dl (by rw [q5]; simp) with h | h
          · exact absurd gd h
          · rw [hd] at h; cases h
      cases b with
      | true =>
        obtain ⟨y, ey2, eo⟩ := Option.map_eq_some_iff.mp eo
        subst eo
        cases er
        show te σ3 H4 fun y H5 => ∃ acc, H5 Dl = some (.lst acc) ∧ acc.length < sizeLine ∧ _
        refine he c ⟨G2, H3⟩ G4 H4 σ3 I4 y ey2 _ fun w G5 H5 I5 g5 h5 rw5 => ?_
        have n5 : Nxt G' H' G5 H5 := nx.trans I5.nxt
        obtain ⟨k1, k2⟩ := keep n5
        refine ⟨av, k1, sz_lt (by rw [rs.length]; omega), av ++ [w], ad ++ [y], G5, by rw [List.append_assoc]; exact ea, eg.trans n5.g, Ex.mut (eh.trans n5.h) hD, ?_, upd_same, k2, (rs.mono n5.g).append (.cons rw5 .nil), by rw [List.length_append]; exact Nat.succ_le_succ hl⟩
        have I6 := I'.step n5
        refine ⟨I6.nxt.mut (fresh_back I1.nxt.h hD) k2, I6.len, fun j s hs => ?_, I6.apart⟩
        obtain ⟨o6, j1, j2⟩ := I6.slots j s hs
        refine ⟨o6, j1, ?_⟩
        cases s with
        | jk => trivial
        | vl d' => exact j2
        | ow d' =>
          obtain ⟨p', vs', xs', e1, ed, hp', gp', bp', r'⟩ := j2
          subst e1
          have np : p' ≠ Dl := fun z => by
            obtain ⟨p1, vs1, xs1, l1, _, l2, _⟩ := I1.ow hs
            rw [l1] at j1
            cases j1
            rw [z, hD] at l2
            cases l2
          exact ⟨p', vs', xs', rfl, ed, by rw [upd_ne np]; exact hp', gp', bp', r'⟩
      | false =>
        cases eo
        cases er
        obtain ⟨k1, k2⟩ := keep n4
        exact ⟨av, ad, G4, ea, eg.trans n4.g, eh.trans n4.h, I'.step n4, k1, k2, rs.mono n4.g, Nat.le_succ_of_le hl⟩
    · refine .inl ⟨?_, ?_⟩
      · have e1 : i = xs0.length := by omega
        rw [e1]; exact ok.stop G' H' eg I'.nxt.gh
      · rw [drop_end (by omega)] at er
        cases er
        rw [List.append_nil] at ea
        subst ea
        -- the list, taken out of the heap and laid again
        have eH : H' = upd (fun b => if b = Dl then none else H' b) Dl (.lst av) := by
          funext b
          unfold upd
          by_cases hb : b = Dl
          · subst hb; simp [hd]
          · simp [hb]
        have out : ∀ {A : Hp}, Ex A H' → A Dl = none → Ex A (fun b => if b = Dl then none else H' b) := fun {A} e n a u h => by
          have : a ≠ Dl := fun z => by rw [z, n] at h; cases h
          show (if a = Dl then none else H' a) = _
          rw [if_neg this]
          exact e a u h
        rw [eH]
        refine q Dl av ad G' _ ⟨⟨I'.nxt.g, out I'.nxt.h (fresh_back I1.nxt.h hD), out I'.nxt.gh gd, I'.nxt.fr⟩, I'.len, fun j s hs => ?_, I'.apart⟩ (g1.trans eg) (h1.trans (out eh hD)) rfl (if_pos rfl) rs
        obtain ⟨o6, j1, j2⟩ := I'.slots j s hs
        refine ⟨o6, j1, ?_⟩
        cases s with
        | jk => trivial
        | vl d' => exact j2
        | ow d' =>
          obtain ⟨p', vs', xs', e1, ed, hp', gp', bp', r'⟩ := j2
          subst e1
          have np : p' ≠ Dl := fun z => by
            obtain ⟨p1, vs1, xs1, l1, _, l2, _⟩ := I1.ow hs
            rw [l1] at j1
            cases j1
            rw [z, hD] at l2
            cases l2
          exact ⟨p', vs', xs', rfl, ed, by show (if p' = Dl then none else H' p') = _; rw [if_neg np]; exact hp', gp', bp', r'⟩
  · cases ec
end
end Oh
namespace Oh
open PySem PySem.Spec PyProof.Rows L2 Evl

section
variable {K : PySem.W.Frag} {cl : Cl} {S S1 S2 : List Sl} {te ta tb tc : TE} {m n : Option D}
/-! ### slices, bits -/
def optI (m : Option D) : Option (Option Int) := m.bind fun d => (asI d).map some
def EO (to : TO) (S : List Sl) (m : Option (Option Int)) (S' : List Sl) (K : PySem.W.Frag) (cl : Cl) : Prop := ∀ (B : Bs) (G H : Hp) (σ : L2.St), Sig K cl B G H S σ → ∀ o, m = some o → ∀ Q : Option Int → Hp → Prop,
  (∀ G' H', Sig K cl B G' H' S' σ → Ex G G' → Ex H H' → Q o H') → to σ H Q
theorem eo_no : EO tNoPart S (some none) S K cl := fun B G H σ I o e Q q => by cases e; exact q G H I (Ex.refl _) (Ex.refl _)
theorem eo_so (h : EV K cl te S m S1) : EO (tPart te) S (optI m) S1 K cl := fun B G H σ I o e Q q => by
  obtain ⟨d, ed, e⟩ := bind_some e
  obtain ⟨i, ei, rfl⟩ := Option.map_eq_some_iff.mp e
  refine h B G H σ I d ed _ fun v G' H' I' g1 h1 rv => ?_
  cases rv with
  | int => cases ei; exact ⟨_, rfl, q G' H' I' g1 h1⟩
  | _ => cases ei
def dSl (d : D) (lo hi : Option Int) : Option D := match d with | .lst xs => some (.lst (cutD xs lo hi)) | .rol xs => some (.lst (cutD xs lo hi)) | _ => none
theorem cut_reps {G : Hp} {vs : List V} {ds : List D} {lo hi : Option Int} (r : Reps K cl G vs ds) : Reps K cl G (cutV vs lo hi) (cutD ds lo hi) := by
  unfold cutV cutD
  rw [r.length]
  exact (r.drop _).take _
theorem evn_sl {tl th : TO} {ml mh : Option (Option Int)} {S3 : List Sl} (h : EV K cl te S m S1) (h1 : EO tl S1 ml S2 K cl) (h2 : EO th S2 mh S3 K cl) : EVN K cl (tSl (rSlL K) te tl th) S (m.bind fun d => ml.bind fun lo => mh.bind fun hi => dSl d lo hi) S3 := fun B G H σ I z e Q q => by
  obtain ⟨d, ed, e⟩ := bind_some e
  obtain ⟨lo, el, e⟩ := bind_some e
  obtain ⟨hi, eh, e⟩ := bind_some e
  refine h B G H σ I d ed _ fun v G1 H1 I1 g1 h1' rv => ?_
  refine h1 B G1 H1 σ I1 lo el _ fun G2 H2 I2 g2 h2' => ?_
  refine h2 B G2 H2 σ I2 hi eh _ fun G3 H3 I3 g3 h3' => ?_
  cases rv with
  | lst hg rs => cases e; exact ⟨_, _, rfl, sq_of ((h2'.trans h3') _ _ (I1.nxt.gh _ _ hg)), fun p hp => q p _ _ G3 H3 I3 ((g1.trans g2).trans g3) ((h1'.trans h2').trans h3') rfl hp (cut_reps (rs.mono (g2.trans g3)))⟩
  | rol hg rs => cases e; exact ⟨_, _, rfl, ex_l (h2'.trans h3') (ex_l I1.nxt.gh hg), fun p hp => q p _ _ G3 H3 I3 ((g1.trans g2).trans g3) ((h1'.trans h2').trans h3') rfl hp (cut_reps (rs.mono (g2.trans g3)))⟩
  | _ => cases e
def dRevL : D → Option D | .lst xs => some (.lst xs.reverse) | .rol xs => some (.lst xs.reverse) | _ => none
theorem reps_rev {G : Hp} {vs : List V} {ds : List D} (r : Reps K cl G vs ds) : Reps K cl G vs.reverse ds.reverse := r.reverse
theorem evn_rev (h : EV K cl te S m S1) : EVN K cl (tRevL K te) S (m.bind dRevL) S1 := fun B G H σ I z e Q q => by
  obtain ⟨d, ed, e⟩ := bind_some e
  refine h B G H σ I d ed _ fun v G1 H1 I1 g1 h1' rv => ?_
  cases rv with
  | lst hg rs => cases e; exact ⟨_, _, rfl, sq_of (I1.nxt.gh _ _ hg), fun p hp => q p _ _ G1 H1 I1 g1 h1' rfl hp rs.reverse⟩
  | rol hg rs => cases e; exact ⟨_, _, rfl, ex_l I1.nxt.gh hg, fun p hp => q p _ _ G1 H1 I1 g1 h1' rfl hp rs.reverse⟩
  | _ => cases e
theorem et_yes : ET K cl tYes S (some true) S := fun B G H σ I b e Q q => by cases e; exact q G H I (Ex.refl _) (Ex.refl _)
theorem ev_bits (h : EV K cl te S m S1) : EV K cl (tBits te) S (m.bind dBits) S1 := fun B G H σ I z e Q q => by
  obtain ⟨d, ed, e⟩ := bind_some e
  refine h B G H σ I d ed _ fun v G1 H1 I1 g1 h1' rv => ?_
  cases rv with
  | int => cases e; exact ⟨_, rfl, q _ G1 H1 I1 g1 h1' .int⟩
  | _ => cases e
/-- x[k] of an owned x -/
theorem ev_ixO {i : Nat} {d : D} (h0 : S[i]? = some (.ow d)) (hk : EV K cl tb S n S1) (h1 : S1[i]? = some (.ow d)) : EV K cl (tOp (rIx K) (tVar i) tb) S (n.bind fun k => dIx d k) S1 := fun B G H σ I z e Q q => by
  obtain ⟨k, ek, e⟩ := bind_some e
  obtain ⟨p, vs, xs, hσ, rfl, hp, gp, bp, rs⟩ := I.ow h0
  refine ⟨.ref p, hσ, hk B G H σ I k ek _ fun w G2 H2 I2 g2 h2' rk => ?_⟩
  cases rk with
  | int =>
    obtain ⟨v, ev, rv⟩ := atI_rep (rs.mono g2) e
    exact Or.inl ⟨p, vs, _, v, rfl, rfl, sq_of (h2' _ _ hp), ev, q v G2 H2 I2 g2 h2' rv⟩
  | _ => cases e
/-- every owned list at i is given away first -/
theorem ev_pre {i : Nat} {d : D} (h : S[i]? = some (.ow d)) (he : EV K cl te (S.set i (.vl d)) m S1) : EV K cl te S m S1 := fun B G H σ I z e Q q => by
  obtain ⟨_, G1, _, g1, _, I1⟩ := I.share h
  exact he B G1 H σ I1 z e Q fun v G2 H2 I2 g2 h2 rv => q v G2 H2 I2 (g1.trans g2) h2 rv
theorem evn_pre {i : Nat} {d : D} (h : S[i]? = some (.ow d)) (he : EVN K cl te (S.set i (.vl d)) m S1) : EVN K cl te S m S1 := fun B G H σ I z e Q q => by
  obtain ⟨_, G1, _, g1, _, I1⟩ := I.share h
  exact he B G1 H σ I1 z e Q fun p vs xs G2 H2 I2 g2 h2 => q p vs xs G2 H2 I2 (g1.trans g2) h2
theorem et_pre {i : Nat} {d : D} {tt : TT} {a : Option Bool} (h : S[i]? = some (.ow d)) (he : ET K cl tt (S.set i (.vl d)) a S1) : ET K cl tt S a S1 := fun B G H σ I z e Q q => by
  obtain ⟨_, G1, _, g1, _, I1⟩ := I.share h
  exact he B G1 H σ I1 z e Q fun G2 H2 I2 g2 h2 => q G2 H2 I2 (g1.trans g2) h2
theorem iv_pre {i : Nat} {d : D} {wi : TI} {a : Option (List D)} (h : S[i]? = some (.ow d)) (he : IV K cl wi (S.set i (.vl d)) a S1) : IV K cl wi S a S1 := fun B G H σ I z e R r => by
  obtain ⟨_, G1, _, g1, _, I1⟩ := I.share h
  exact he B G1 H σ I1 z e R fun J G2 H2 I2 g2 h2 ok => r J G2 H2 I2 (g1.trans g2) h2 ok
/-! ### defs -/
def spD (K : PySem.W.Frag) (cl : Cl) (f : List D → Option D) : Sp := fun vs H Q _ => ∃ G ds d, Ex G H ∧ Reps K cl G vs ds ∧ f ds = some d ∧ ∀ v G' H', Nxt G H G' H' → Rep K cl G' v d → Q v H'
theorem ev_call {f : List D → Option D} {ts : TA} {ms : Option (List D)} {E : XK} (ha : EA K cl ts S ms S1) : EV K cl (tCall (spD K cl f) [] E ts) S (ms.bind f) S1 := fun B G H σ I z e Q q => by
  obtain ⟨ds, eds, e⟩ := bind_some e
  refine ha B G H σ I ds eds _ fun vs G1 H1 I1 g1 h1 rs => ?_
  refine ⟨G1, ds, z, I1.nxt.gh, by rw [List.append_nil]; exact rs, e, fun v G' H' nx r => ?_⟩
  exact q v G' H' (I1.step nx) (g1.trans nx.g) (h1.trans nx.h) r
structure Con (P : Program) (w : World) (K : PySem.W.Frag) (cl : Cl) (mg : Str → Option Value) (base : Heap) (k : Nat) (x : Str) (f : List D → Option D) (fa : Addr) (fd : FuncData) (ps : List Str) : Prop where
  ok : FnOk P w K mg base CX0 k fa fd ps (spD K cl f)
  mg : mg x = some (.ref fa)
  kp : PySem.W.keepIn K (.ref fa) = true
  bd : Binds K fd ps []
theorem ip_addD {X : Cx} : PIp X .Add rAddD := by
  intro pins s σ H x y v u Q I r1 r2 h
  rcases h with h | h
  · exact augR iop_add I r1 r2 h
  · exact augR iop_add_str I r1 r2 h
theorem ip_subD {X : Cx} : PIp X .Sub (rI0 fun i j => .int (i - j)) := by
  intro pins s σ H x y v u Q I r1 r2 h
  exact augR iop_sub I r1 r2 h
theorem con_none {P : Program} {w : World} {mg : Str → Option Value} {base : Heap} {k : Nat} {f : List D → Option D} {fa : Addr} {fd : FuncData} {ps : List Str} (no : ∀ ds d, f ds = some d → False) : FnOk P w K mg base CX0 k fa fd ps (spD K cl f) :=
  ⟨fun vs H Q E h => by obtain ⟨G, ds, d, _, _, e, _⟩ := h; exact (no _ _ e).elim, fun A outer s H args us vs Q E _ _ _ _ h => by obtain ⟨G, ds, d, _, _, e, _⟩ := h; exact (no _ _ e).elim⟩
theorem slot_start {ds : List D} {vs : List V} {G : Hp} {k : Nat} (r : Reps K cl G vs ds) {i : Nat} {s : Sl} (h : (ds.map Sl.vl ++ List.replicate k Sl.jk)[i]? = some s) :
    ∃ o, (vs.map some ++ List.replicate k none)[i]? = some o ∧ (s = .jk ∨ ∃ v d, s = .vl d ∧ o = some v ∧ Rep K cl G v d) := by
  have hl := r.length
  by_cases hi : i < ds.length
  · rw [List.getElem?_append_left (by rw [List.length_map]; exact hi), List.getElem?_map] at h
    rw [List.getElem?_append_left (by rw [List.length_map, hl]; exact hi), List.getElem?_map]
    obtain ⟨d, hd, rfl⟩ := Option.map_eq_some_iff.mp h
    obtain ⟨v, hv, rv⟩ := r.get hd
    exact ⟨some v, by rw [hv]; rfl, .inr ⟨v, d, rfl, rfl, rv⟩⟩
  · rw [List.getElem?_append_right (by rw [List.length_map]; omega), List.length_map, List.getElem?_replicate] at h
    rw [List.getElem?_append_right (by rw [List.length_map]; omega), List.length_map, List.getElem?_replicate, hl]
    split at h
    · rename_i hk
      cases h
      exact ⟨none, if_pos hk, .inl rfl⟩
    · cases h
theorem fun_con {P : Program} {w : World} {mg : Str → Option Value} {base : Heap} {x qual : Str} {st : Stmt} {fa : Addr} {fd : FuncData} {N ps : List Str} {k n : Nat} {f : List D → Option D}
    (F : Fun K x qual st fa fd) (SC : FnScope N ps (defScope st)) (hn : ps.length = n) (ar : ∀ ds d, f ds = some d → ds.length = n) (hm : mg x = some (.ref fa)) (hb : Binds K fd ps [])
    (body : ∀ (cdv : Value) (A : Around) (outer : List Env) (s : Shared) (H : Hp) (E : XK), Room k (A.deeper (envOfC qual (defScope st) s.heap.objs.size fa cdv)) →
      ∃ t, PSs (cxOf CX0 P w K mg base N qual (defScope st) fa cdv A outer s H E).nox (defBody st) t ∧ ∀ ds : List D, ds.length = n → TV K cl t (ds.map .vl ++ List.replicate (N.length - n) .jk) true (f ds)) : Con P w K cl mg base (k + 1) x f fa fd ps := by
  refine ⟨F.ok SC (fun vs H Q E h => ?_) (fun cdv A outer s H vs Q E hr h => ?_), hm, F.kp, hb⟩
  · obtain ⟨G, ds, d, _, rs, e, _⟩ := h
    rw [rs.length, ar ds d e, hn]
  · obtain ⟨G, ds, d, gh, rs, e, q⟩ := h
    obtain ⟨t, hp, ht⟩ := body cdv A outer s H E hr
    have hl := ar ds d e
    have hv : vs.length = n := rs.length.trans hl
    refine ⟨t, hp, ?_⟩
    have e0 : L2.start N vs = vs.map some ++ List.replicate (N.length - n) none := by unfold L2.start; rw [hv]
    rw [e0]
    refine ht ds hl ⟨G, H⟩ G H _ ⟨Nxt.refl gh, by simp [rs.length], fun i s hs => ?_, fun i j p di dj _ hi _ _ => ?_⟩ d e _ (fun v G' H' nx r => q v G' H' nx r) (fun _ hd σ' G' H' nx => ?_)
    · obtain ⟨o, h1, h2⟩ := slot_start rs hs
      refine ⟨o, h1, ?_⟩
      rcases h2 with rfl | ⟨v, d', rfl, rfl, rv⟩
      · trivial
      · exact ⟨v, rfl, rv⟩
    · obtain ⟨o, _, h2⟩ := slot_start rs hi
      rcases h2 with h2 | ⟨v, d', h2, _⟩ <;> cases h2
    · subst hd
      exact q .non G' H' nx .non
/-! ### the law -/
def spLaw (K : PySem.W.Frag) : Sp := fun vs H Q _ => ∃ (a : Addr) (ns : List Int), vs = [.ref a] ∧ SqL K H a (ns.map V.int) ∧ ns.length ≤ 63 ∧ ∀ H', Q (.bl true) H'
theorem reps_ints {G : Hp} : ∀ ns : List Int, Reps K cl G (ns.map V.int) (ns.map D.int)
  | [] => .nil
  | _ :: ns => .cons .int (reps_ints ns)
theorem law_ok {P : Program} {w : World} {mg : Str → Option Value} {base : Heap} {k : Nat} {fa : Addr} {fd : FuncData} {x : Str} {f : D → Option D} (C : FnOk P w K mg base CX0 k fa fd [x] (spD K cl (on1 f)))
    (h : ∀ ns : List Int, ns.length ≤ 63 → f (.rol (ns.map D.int)) = some (.bl true)) : FnOk P w K mg base CX0 k fa fd [x] (spLaw K) := by
  refine C.imp (fun vs H Q E q => ?_)
  obtain ⟨a, ns, rfl, hs, hl, q⟩ := q
  refine ⟨H, [.rol (ns.map D.int)], .bl true, Ex.refl _, .cons (.rol hs (reps_ints ns)) .nil, h ns hl, fun v G' H' nx r => ?_⟩
  cases r
  exact q H'
theorem ar1 {f : D → Option D} : ∀ ds d, on1 f ds = some d → ds.length = 1 := fun ds d h => by
  unfold on1 at h; split at h
  · rfl
  · cases h
theorem ar2 {f : D → D → Option D} : ∀ ds d, on2 f ds = some d → ds.length = 2 := fun ds d h => by
  unfold on2 at h; split at h
  · rfl
  · cases h
theorem ar3 {f : D → D → D → Option D} : ∀ ds d, on3 f ds = some d → ds.length = 3 := fun ds d h => by
  unfold on3 at h; split at h
  · rfl
  · cases h
theorem ar4 {f : D → D → D → D → Option D} : ∀ ds d, on4 f ds = some d → ds.length = 4 := fun ds d h => by
  unfold on4 at h; split at h
  · rfl
  · cases h
theorem ar5 {f : D → D → D → D → D → Option D} : ∀ ds d, on5 f ds = some d → ds.length = 5 := fun ds d h => by
  unfold on5 at h; split at h
  · rfl
  · cases h
theorem ar6 {f : D → D → D → D → D → D → Option D} : ∀ ds d, on6 f ds = some d → ds.length = 6 := fun ds d h => by
  unfold on6 at h; split at h
  · rfl
  · cases h
theorem ar0 {m : Option D} : ∀ ds d, on0 m ds = some d → ds.length = 0 := fun ds d h => by
  unfold on0 at h; split at h
  · rfl
  · cases h
/-- a def for its arguments, one by one -/
theorem all1 {t : TS} {k : Nat} {f : D → Option D} (h : ∀ a, TV K cl t (.vl a :: List.replicate k .jk) true (f a)) : ∀ ds : List D, ds.length = 1 → TV K cl t (ds.map .vl ++ List.replicate k .jk) true (on1 f ds)
  | [a], _ => h a
theorem all2 {t : TS} {k : Nat} {f : D → D → Option D} (h : ∀ a b, TV K cl t (.vl a :: .vl b :: List.replicate k .jk) true (f a b)) : ∀ ds : List D, ds.length = 2 → TV K cl t (ds.map .vl ++ List.replicate k .jk) true (on2 f ds)
  | [a, b], _ => h a b
theorem all3 {t : TS} {k : Nat} {f : D → D → D → Option D} (h : ∀ a b c, TV K cl t (.vl a :: .vl b :: .vl c :: List.replicate k .jk) true (f a b c)) : ∀ ds : List D, ds.length = 3 → TV K cl t (ds.map .vl ++ List.replicate k .jk) true (on3 f ds)
  | [a, b, c], _ => h a b c
theorem all4 {t : TS} {k : Nat} {f : D → D → D → D → Option D} (h : ∀ a b c d, TV K cl t (.vl a :: .vl b :: .vl c :: .vl d :: List.replicate k .jk) true (f a b c d)) : ∀ ds : List D, ds.length = 4 → TV K cl t (ds.map .vl ++ List.replicate k .jk) true (on4 f ds)
  | [a, b, c, d], _ => h a b c d
theorem all5 {t : TS} {k : Nat} {f : D → D → D → D → D → Option D} (h : ∀ a b c d e, TV K cl t (.vl a :: .vl b :: .vl c :: .vl d :: .vl e :: List.replicate k .jk) true (f a b c d e)) : ∀ ds : List D, ds.length = 5 → TV K cl t (ds.map .vl ++ List.replicate k .jk) true (on5 f ds)
  | [a, b, c, d, e], _ => h a b c d e
theorem all6 {t : TS} {k : Nat} {f : D → D → D → D → D → D → Option D} (h : ∀ a b c d e g, TV K cl t (.vl a :: .vl b :: .vl c :: .vl d :: .vl e :: .vl g :: List.replicate k .jk) true (f a b c d e g)) : ∀ ds : List D, ds.length = 6 → TV K cl t (ds.map .vl ++ List.replicate k .jk) true (on6 f ds)
  | [a, b, c, d, e, g], _ => h a b c d e g
theorem all0 {t : TS} {k : Nat} {m : Option D} (h : TV K cl t (List.replicate k .jk) true m) : ∀ ds : List D, ds.length = 0 → TV K cl t (ds.map .vl ++ List.replicate k .jk) true (on0 m ds)
  | [], _ => h
end
end Oh
namespace Oh
open PySem L2

/-! ### a mirror ends well -/
def Ok {α : Type} (m : Option α) (Q : α → Prop) : Prop := ∃ r, m = some r ∧ Q r
section
variable {α β γ : Type}
theorem ok_some {a : α} {Q : α → Prop} (h : Q a) : Ok (some a) Q := ⟨a, rfl, h⟩
theorem ok_bind {m : Option α} {k : α → Option β} {P : α → Prop} {Q : β → Prop} (h : Ok m P) (hk : ∀ a, P a → Ok (k a) Q) : Ok (m.bind k) Q := by
  obtain ⟨a, e, p⟩ := h
  obtain ⟨b, e2, q⟩ := hk a p
  exact ⟨b, by rw [e]; exact e2, q⟩
theorem ok_mono {m : Option α} {P Q : α → Prop} (h : Ok m P) (hk : ∀ a, P a → Q a) : Ok m Q := by
  obtain ⟨a, e, p⟩ := h
  exact ⟨a, e, hk a p⟩
theorem ok_eq {m : Option α} {a : α} (h : Ok m (fun r => r = a)) : m = some a := by
  obtain ⟨r, e, rfl⟩ := h
  exact e
theorem ok_of {m : Option α} {a : α} {Q : α → Prop} (h : m = some a) (q : Q a) : Ok m Q := ⟨a, h, q⟩
theorem ok_map {m : Option α} {f : α → β} {P : α → Prop} {Q : β → Prop} (h : Ok m P) (hk : ∀ a, P a → Q (f a)) : Ok (m.map f) Q := by
  obtain ⟨a, e, p⟩ := h
  exact ⟨f a, by rw [e]; rfl, hk a p⟩
theorem ok_ite {c : Prop} [Decidable c] {m n : Option α} {Q : α → Prop} (h1 : c → Ok m Q) (h2 : ¬ c → Ok n Q) : Ok (if c then m else n) Q := by
  by_cases h : c
  · rw [if_pos h]; exact h1 h
  · rw [if_neg h]; exact h2 h
/-- loops -/
theorem forS_ok {k : D → β → Option β} {Q : β → Prop} (P : Nat → β → Prop) {xs : List D} {b : β} (h0 : P 0 b) (hs : ∀ i x b, xs[i]? = some x → P i b → Ok (k x b) (P (i + 1))) (hd : ∀ b, P xs.length b → Q b) : Ok (forS k xs b) Q := by
  have key : ∀ (ys : List D) (i : Nat) (b : β), ys = xs.drop i → i ≤ xs.length → P i b → Ok (forS k ys b) (P xs.length) := by
    intro ys
    induction ys with
    | nil =>
      intro i b e hi p
      have : xs.length ≤ i := by
        have := congrArg List.length e
        rw [List.length_drop] at this
        simp at this; omega
      have : i = xs.length := by omega
      subst this
      exact ok_some p
    | cons y ys ih =>
      intro i b e hi p
      have hl : i < xs.length := by
        have := congrArg List.length e
        rw [List.length_drop] at this
        simp at this; omega
      have e2 := List.drop_eq_getElem_cons hl
      rw [← e] at e2
      injection e2 with e3 e4
      refine ok_bind (hs i y b (by rw [List.getElem?_eq_getElem hl, e3]) p) fun b2 p2 => ?_
      exact ih (i + 1) b2 e4 hl p2
  exact ok_mono (key xs 0 b rfl (Nat.zero_le _) h0) hd
theorem rngD_len (lo : Int) (n : Nat) : (rngD lo n).length = n := by unfold rngD; rw [List.length_map, List.length_range]
theorem rngD_get {lo : Int} {n i : Nat} {x : D} (h : (rngD lo n)[i]? = some x) : i < n ∧ x = .int (lo + (i : Nat)) := by
  have hi : i < n := by rw [← rngD_len lo n]; exact (List.getElem?_eq_some_iff.mp h).1
  refine ⟨hi, ?_⟩
  unfold rngD at h
  rw [List.getElem?_map, List.getElem?_range hi] at h
  exact (Option.some.inj h).symm
theorem forS_rng {k : D → β → Option β} {Q : β → Prop} (P : Nat → β → Prop) {lo : Int} {n : Nat} {b : β} (h0 : P 0 b) (hs : ∀ i b, i < n → P i b → Ok (k (.int (lo + (i : Nat))) b) (P (i + 1))) (hd : ∀ b, P n b → Q b) : Ok (forS k (rngD lo n) b) Q := by
  refine forS_ok P h0 (fun i x b hx p => ?_) (fun b p => hd b (by rw [rngD_len] at p; exact p))
  obtain ⟨hi, rfl⟩ := rngD_get hx
  exact hs i b hi p
/-- a loop that may leave: here it does not -/
theorem forF_ok {k : D → β → Option (Fl β β)} {Q : Fl β γ → Prop} (P : Nat → β → Prop) {xs : List D} {b : β} (h0 : P 0 b) (hs : ∀ i x b, xs[i]? = some x → P i b → Ok (k x b) (fun f => (∃ b, f = .nx b ∧ P (i + 1) b) ∨ (∃ b, f = .ct b ∧ P (i + 1) b) ∨ (∃ b, f = .bk b ∧ Q (.nx b)) ∨ ∃ d, f = .rt d ∧ Q (.rt d))) (hd : ∀ b, P xs.length b → Q (.nx b)) : Ok (forF (γ := γ) k xs b) Q := by
  have key : ∀ (ys : List D) (i : Nat) (b : β), ys = xs.drop i → i ≤ xs.length → P i b → Ok (forF (γ := γ) k ys b) Q := by
    intro ys
    induction ys with
    | nil =>
      intro i b e hi p
      have : xs.length ≤ i := by
        have := congrArg List.length e
        rw [List.length_drop] at this
        simp at this; omega
      have : i = xs.length := by omega
      subst this
      exact ok_some (hd b p)
    | cons y ys ih =>
      intro i b e hi p
      have hl : i < xs.length := by
        have := congrArg List.length e
        rw [List.length_drop] at this
        simp at this; omega
      have e2 := List.drop_eq_getElem_cons hl
      rw [← e] at e2
      injection e2 with e3 e4
      refine ok_bind (hs i y b (by rw [List.getElem?_eq_getElem hl, e3]) p) fun f hf => ?_
      rcases hf with ⟨b2, rfl, p2⟩ | ⟨b2, rfl, p2⟩ | ⟨b2, rfl, q⟩ | ⟨d, rfl, q⟩
      · exact ih (i + 1) b2 e4 hl p2
      · exact ih (i + 1) b2 e4 hl p2
      · exact ok_some q
      · exact ok_some q
  exact key xs 0 b rfl (Nat.zero_le _) h0
theorem forF_rng {k : D → β → Option (Fl β β)} {Q : Fl β γ → Prop} (P : Nat → β → Prop) {lo : Int} {n : Nat} {b : β} (h0 : P 0 b) (hs : ∀ i b, i < n → P i b → Ok (k (.int (lo + (i : Nat))) b) (fun f => (∃ b, f = .nx b ∧ P (i + 1) b) ∨ (∃ b, f = .ct b ∧ P (i + 1) b) ∨ (∃ b, f = .bk b ∧ Q (.nx b)) ∨ ∃ d, f = .rt d ∧ Q (.rt d))) (hd : ∀ b, P n b → Q (.nx b)) : Ok (forF (γ := γ) k (rngD lo n) b) Q := by
  refine forF_ok P h0 (fun i x b hx p => ?_) (fun b p => hd b (by rw [rngD_len] at p; exact p))
  obtain ⟨hi, rfl⟩ := rngD_get hx
  exact hs i b hi p
theorem compD_ok {k : D → Option (Option D)} {Q : List D → Prop} (P : Nat → List D → Prop) {xs : List D} (h0 : P 0 []) (hs : ∀ i x ys, xs[i]? = some x → P i ys → Ok (k x) (fun o => P (i + 1) (match o with | some y => ys ++ [y] | none => ys))) (hd : ∀ ys, P xs.length ys → Q ys) : Ok (compD k xs) Q := by
  have key : ∀ (zs : List D) (i : Nat) (ys : List D), zs = xs.drop i → i ≤ xs.length → P i ys → Ok (compD k zs) (fun r => P xs.length (ys ++ r)) := by
    intro zs
    induction zs with
    | nil =>
      intro i ys e hi p
      have : xs.length ≤ i := by
        have := congrArg List.length e
        rw [List.length_drop] at this
        simp at this; omega
      have : i = xs.length := by omega
      subst this
      exact ok_some (by rw [List.append_nil]; exact p)
    | cons z zs ih =>
      intro i ys e hi p
      have hl : i < xs.length := by
        have := congrArg List.length e
        rw [List.length_drop] at this
        simp at this; omega
      have e2 := List.drop_eq_getElem_cons hl
      rw [← e] at e2
      injection e2 with e3 e4
      refine ok_bind (hs i z ys (by rw [List.getElem?_eq_getElem hl, e3]) p) fun o po => ?_
      refine ok_bind (ih (i + 1) _ e4 hl po) fun r pr => ?_
      cases o with
      | none => exact ok_some pr
      | some y => exact ok_some (by simpa using pr)
  exact ok_mono (key xs 0 [] rfl (Nat.zero_le _) h0) (fun r p => hd r (by simpa using p))
end
/-! ### values of the operations -/
theorem mul_l {a b : Int} (h : -(2 ^ 64) < a ∧ a < 2 ^ 64) : dMul (.int a) (.int b) = some (.int (a * b)) := by
  simp only [dMul]
  rw [if_pos (Or.inl (Or.inl h))]
theorem mul_r {a b : Int} (h : -(2 ^ 64) < b ∧ b < 2 ^ 64) : dMul (.int a) (.int b) = some (.int (a * b)) := by
  simp only [dMul]
  rw [if_pos (Or.inl (Or.inr h))]
theorem mul_w {a b : Int} {m n : Nat} (ha : a.natAbs < 2 ^ m) (hb : b.natAbs < 2 ^ n) (h0 : 0 < m) (h1 : 0 < n) (h : m + n ≤ 1000000) : dMul (.int a) (.int b) = some (.int (a * b)) := by
  simp only [dMul]
  rw [if_pos (show MulOk a b from Or.inr (wide_mul ha hb h0 h1 h))]
theorem fdiv_w {a b : Int} {n : Nat} (h : 0 < b) (hb : b.natAbs < 2 ^ n) (h0 : 0 < n) (h9 : n ≤ 9000) : dFdiv (.int a) (.int b) = some (.int (a / b)) := by
  simp only [dFdiv]
  rw [if_pos (show 0 < b ∧ b.natAbs.log2 < 9000 from wide_div (i := a) h hb h0 h9)]
theorem fdiv_s {a b : Int} (h : 0 < b) (hb : b < 2 ^ 64) : dFdiv (.int a) (.int b) = some (.int (a / b)) := fdiv_w (n := 64) h (by omega) (by decide) (by decide)
theorem mod_p {a b : Int} (h : 0 < b) : dMod (.int a) (.int b) = some (.int (a % b)) := by
  simp only [dMod]
  rw [if_pos h]
theorem pow_s {a b : Int} (h : 0 ≤ b ∧ b ≤ 1000000 ∧ a.natAbs < 2 ^ 64) : dPow (.int a) (.int b) = some (.int (a ^ b.toNat)) := by
  simp only [dPow]
  rw [if_pos h]
theorem app_s {xs : List D} {x : D} (h : xs.length < 100000) : dApp (.lst xs) x = some (.lst (xs ++ [x])) := by
  simp only [dApp]
  rw [if_pos h]
theorem cat_s {xs ys : List D} (h : xs.length + ys.length ≤ 100000) : dCat (.lst xs) (.lst ys) = some (.lst (xs ++ ys)) := by
  simp only [dCat]
  rw [if_pos h]
theorem few_s {k : List D → D} {xs : List D} (h : xs.length ≤ 100000) : few k xs = some (k xs) := by
  unfold few
  rw [if_pos h]
theorem rng1_s {n : Int} (h0 : -(2 ^ 62) ≤ n) (h : n < 2 ^ 62) : dRng1 (.int n) = some (rngD 0 n.toNat) := by
  simp only [dRng1]
  rw [if_pos ⟨h0, h⟩]
theorem rng1_n {n : Nat} (h : (n : Int) < 2 ^ 62) : dRng1 (.int (n : Int)) = some (rngD 0 n) := rng1_s (by omega) h
theorem set_s {xs : List D} {i : Nat} {x : D} (h : i < xs.length) : dSet (.lst xs) (.int (i : Int)) x = some (.lst (xs.set i x)) := by
  simp only [dSet]
  rw [Evl.ixN_nat h]; rfl
theorem atI_s {α : Type} {xs : List α} {i : Nat} {x : α} (h : xs[i]? = some x) : atI xs (i : Int) = some x := atI_nat h
theorem atI_z {α : Type} {xs : List α} {i : Nat} {z : Int} {x : α} (e : z = (i : Int)) (h : xs[i]? = some x) : atI xs z = some x := by rw [e]; exact atI_nat h
/-- lists of ints as data -/
abbrev dis (xs : List Int) : List D := xs.map D.int
theorem dis_get {xs : List Int} {i : Nat} {x : Int} (h : xs[i]? = some x) : (dis xs)[i]? = some (.int x) := by
  show (xs.map D.int)[i]? = _
  rw [List.getElem?_map, h]; rfl
theorem dis_app (xs : List Int) (x : Int) : dis xs ++ [D.int x] = dis (xs ++ [x]) := by simp
theorem dis_len (xs : List Int) : (dis xs).length = xs.length := List.length_map _
end Oh
namespace Oh
open PySem L2
theorem forS_foldl {α σ β : Type} {k : D → β → Option β} (enc : α → D) (e : σ → β) (g : σ → α → σ) (I : σ → Prop) {xs : List α} {s : σ} (h0 : I s) (hs : ∀ s x, x ∈ xs → I s → k (enc x) (e s) = some (e (g s x)) ∧ I (g s x)) :
    forS k (xs.map enc) (e s) = some (e (xs.foldl g s)) ∧ I (xs.foldl g s) := by
  induction xs generalizing s with
  | nil => exact ⟨rfl, h0⟩
  | cons x xs ih =>
    obtain ⟨h1, h2⟩ := hs s x (List.mem_cons_self) h0
    obtain ⟨h3, h4⟩ := ih h2 (fun s y hy => hs s y (List.mem_cons_of_mem _ hy))
    refine ⟨?_, h4⟩
    show (k (enc x) (e s)).bind (forS k (xs.map enc)) = _
    rw [h1]
    exact h3
/-- numbers from 0 on as data -/
abbrev dn (n : Nat) : D := .int (n : Int)
abbrev dns (xs : List Nat) : List D := xs.map dn
theorem dns_get {xs : List Nat} {i : Nat} {x : Nat} (h : xs[i]? = some x) : (dns xs)[i]? = some (dn x) := by
  show (xs.map dn)[i]? = _
  rw [List.getElem?_map, h]; rfl
theorem dns_app (xs : List Nat) (x : Nat) : dns xs ++ [dn x] = dns (xs ++ [x]) := by simp
theorem dns_len (xs : List Nat) : (dns xs).length = xs.length := List.length_map _
/-- data that the comparing def takes, so deep at most -/
def plain : Nat → D → Prop
  | _, .int _ => True
  | _, .bl _ => True
  | _, .str x => PySem.PyData.canLay0 (.str x) = true
  | n + 1, .lst xs => xs.length < 2 ^ 62 ∧ ∀ x ∈ xs, plain n x
  | n + 1, .tup xs => xs.length < 2 ^ 62 ∧ ∀ x ∈ xs, plain n x
  | _, _ => False
theorem dEq_int (i j : Int) : dEq (.int i) (.int j) = some (.bl (i == j)) := rfl
theorem dEq_bl (i j : Bool) : dEq (.bl i) (.bl j) = some (.bl (i == j)) := rfl
theorem dEq_str {x y : Str} (hx : PySem.PyData.canLay0 (.str x) = true) (hy : PySem.PyData.canLay0 (.str y) = true) : dEq (.str x) (.str y) = some (.bl (x == y)) := by
  unfold dEq dEqB
  simp -implicitDefEqProofs only [toP, Option.bind_some]
  rw [if_pos ⟨by unfold SeqAt.shaped; rw [hx]; rfl, by unfold SeqAt.shaped; rw [hy]; rfl⟩]
  rfl
end Oh
namespace Oh
open PySem L2
theorem asL_l {xs : List D} : asL (.lst xs) = some xs := rfl
theorem asL_r {xs : List D} : asL (.rol xs) = some xs := rfl
theorem asT_t {xs : List D} : asT (.tup xs) = some xs := rfl
theorem asB_b {b : Bool} : asB (.bl b) = some b := rfl
theorem add_i {a b : Int} : dAdd (.int a) (.int b) = some (.int (a + b)) := rfl
theorem sub_i {a b : Int} : dSub (.int a) (.int b) = some (.int (a - b)) := rfl
theorem neg_i {a : Int} : dNeg (.int a) = some (.int (-a)) := rfl
theorem lt_i {a b : Int} : dLt (.int a) (.int b) = some (.bl (decide (a < b))) := rfl
theorem le_i {a b : Int} : dLe (.int a) (.int b) = some (.bl (decide (a ≤ b))) := rfl
theorem gt_i {a b : Int} : dGt (.int a) (.int b) = some (.bl (decide (b < a))) := rfl
theorem ge_i {a b : Int} : dGe (.int a) (.int b) = some (.bl (decide (b ≤ a))) := rfl
theorem eqF_i {a b : Int} : dEqF (.int a) (.int b) = some (.bl (decide (a = b))) := rfl
theorem neF_i {a b : Int} : dNeF (.int a) (.int b) = some (.bl (!decide (a = b))) := rfl
theorem eqF_b {a b : Bool} : dEqF (.bl a) (.bl b) = some (.bl (decide (a = b))) := rfl
theorem neF_b {a b : Bool} : dNeF (.bl a) (.bl b) = some (.bl (!decide (a = b))) := rfl
theorem int_i {a : Int} : dInt (.int a) = some (.int a) := rfl
theorem int_b {a : Bool} : dInt (.bl a) = some (.int (if a then 1 else 0)) := rfl
theorem abs_i {a : Int} : dAbs (.int a) = some (.int (if a < 0 then -a else a)) := rfl
theorem max_i {a b : Int} : dMax2 (.int a) (.int b) = some (.int (if b > a then b else a)) := rfl
theorem min_i {a b : Int} : dMin2 (.int a) (.int b) = some (.int (if b < a then b else a)) := rfl
theorem gcd_i {a b : Int} : dGcd (.int a) (.int b) = some (.int ((Nat.gcd a.natAbs b.natAbs : Nat) : Int)) := rfl
theorem bits_i {a : Int} : dBits (.int a) = some (.int ((Builtin.Int.intBits a : Nat) : Int)) := rfl
theorem len_l {xs : List D} : dLen (.lst xs) = some (.int xs.length) := rfl
theorem len_r {xs : List D} : dLen (.rol xs) = some (.int xs.length) := rfl
theorem len_t {xs : List D} : dLen (.tup xs) = some (.int xs.length) := rfl
theorem list_l {xs : List D} : dList (.lst xs) = some (.lst xs) := rfl
theorem ix_l {xs : List D} {i : Int} : dIx (.lst xs) (.int i) = atI xs i := rfl
theorem ix_r {xs : List D} {i : Int} : dIx (.rol xs) (.int i) = atI xs i := rfl
theorem ix_t {xs : List D} {i : Int} : dIx (.tup xs) (.int i) = atI xs i := rfl
theorem un2_t {a b : D} : dUn2 (.tup [a, b]) = some (a, b) := rfl
theorem pair_s {a b : D} : pairD [a, b] = some (a, b) := rfl
theorem few1 {k : List D → D} {a : D} : few k [a] = some (k [a]) := few_s (by show 1 ≤ 100000; decide)
theorem few2 {k : List D → D} {a b : D} : few k [a, b] = some (k [a, b]) := few_s (by show 2 ≤ 100000; decide)
theorem few3 {k : List D → D} {a b c : D} : few k [a, b, c] = some (k [a, b, c]) := few_s (by show 3 ≤ 100000; decide)
theorem few0 {k : List D → D} : few k [] = some (k []) := rfl
theorem on1_s {f : D → Option D} {a : D} : on1 f [a] = f a := rfl
theorem on2_s {f : D → D → Option D} {a b : D} : on2 f [a, b] = f a b := rfl
theorem on3_s {f : D → D → D → Option D} {a b c : D} : on3 f [a, b, c] = f a b c := rfl
theorem on4_s {f : D → D → D → D → Option D} {a b c d : D} : on4 f [a, b, c, d] = f a b c d := rfl
theorem isi_i {t : Ty} {a : Int} : dIsi t (.int a) = some (.bl (t = .int)) := rfl
theorem isi_b {t : Ty} {a : Bool} : dIsi t (.bl a) = some (.bl (t = .bool ∨ t = .int)) := rfl
theorem isi_l {t : Ty} {a : List D} : dIsi t (.lst a) = some (.bl (t = .list)) := rfl
theorem isi_t {t : Ty} {a : List D} : dIsi t (.tup a) = some (.bl (t = .tuple)) := rfl
end Oh
namespace Oh
theorem flT_nx {β : Type} {k : β → Option D} {b : β} : flT k (.nx b) = k b := rfl
theorem flT_rt {β : Type} {k : β → Option D} {d : D} : flT k (.rt d) = some d := rfl
theorem flF_nx {β γ δ : Type} {k : δ → Option (Fl β γ)} {b : δ} : flF k (.nx b) = k b := rfl
theorem flE_rt {β γ : Type} {d : D} : (flE (.rt d) : Option (Fl β γ)) = some (.rt d) := rfl
end Oh
namespace Oh
open PySem PySem.Spec PyProof.Rows L2 Evl
def topS (i : Nat) : Stmt := PySem.Challenge.pw_otherhow_k02_rows_and_their_indexes.main.body.getD i (.Pass ⟨0, 0, 0, 0⟩)
structure Bi (mg : Str → Option Value) : Prop where
  bool : mg "bool" = none
  int : mg "int" = none
  isinstance : mg "isinstance" = none
  len : mg "len" = none
  list : mg "list" = none
  range : mg "range" = none
  reversed : mg "reversed" = none
  str : mg "str" = none
  tuple : mg "tuple" = none
  zip : mg "zip" = none
section
variable {P : Program} {w : World} {K : PySem.W.Frag} {cl : Cl} {mg : Str → Option Value} {base : Heap}
/-! _law_row -/
abbrev s_law_row : Stmt := topS 6
abbrev n_law_row : List Str := ["_law_script", "_law_place", "_law_many", "_law_cell", "_law_rest", "_law_row_here", "_law_k", "_law_mixed"]
theorem sc_law_row : FnScope n_law_row ["_law_script", "_law_place", "_law_many"] (defScope s_law_row) := ⟨rfl, rfl, rfl, by decide +kernel, rfl, by decide +kernel, by decide +kernel⟩
def m_law_row (script_1 : D) (place_2 : D) (many_3 : D) : Option D := ((((some (.int 7919)).bind fun t5 => (some place_2).bind fun t6 => dMul t5 t6).bind fun t7 => (some (.int 5)).bind fun t8 => dAdd t7 t8).bind fun cell_4 => ((((some place_2).bind fun t11 => (((some script_1).bind fun x_9 => (some []).bind fun xs_10 => some (x_9 :: xs_10)).bind (on1 dLen)).bind fun t12 => (dLt t11 t12).bind asB).bind fun c_13 => if c_13 = true then (((some script_1).bind fun t16 => (some place_2).bind fun t17 => dIx t16 t17).bind fun cell_15 => (some cell_15)) else (some cell_4)).bind fun s_14 => (((some s_14).bind fun t21 => ((some (.int 10)).bind fun t19 => (some (.int 18)).bind fun t20 => dPow t19 t20).bind fun t22 => dSub t21 t22).bind fun rest_18 => (((some []).bind (few .lst)).bind fun row_here_23 => ((((some many_3).bind dRng1).bind fun xs => forS (fun x_73 (b_24 : D × D) => (some x_73).bind fun c_25 => ((((some b_24.2).bind fun t26 => (some (.int 0)).bind fun t27 => (dGt t26 t27).bind asB).bind fun c_28 => if c_28 = true then ((((((some b_24.2).bind fun x_30 => (some []).bind fun xs_31 => some (x_30 :: xs_31)).bind (on1 dInt)).bind fun t32 => (some (.int 1000)).bind fun t33 => dMod t32 t33).bind fun t34 => dApp b_24.1 t34).bind fun row_here_35 => (((some b_24.2).bind fun t37 => (some (.int 1000)).bind fun t38 => dFdiv t37 t38).bind fun rest_36 => (some (row_here_35, rest_36)))) else ((((((((some s_14).bind fun t40 => (some (.int 48271)).bind fun t41 => dMul t40 t41).bind fun t44 => ((some c_25).bind fun t42 => (some (.int 69621)).bind fun t43 => dMul t42 t43).bind fun t45 => dAdd t44 t45).bind fun t46 => (some (.int 12345)).bind fun t47 => dAdd t46 t47).bind fun x_48 => (some []).bind fun xs_49 => some (x_48 :: xs_49)).bind (on1 dInt)).bind fun t50 => (some (.int 2147483647)).bind fun t51 => dMod t50 t51).bind fun mixed_39 => ((((((((some mixed_39).bind fun t53 => (some mixed_39).bind fun t54 => dMul t53 t54).bind fun t57 => ((some mixed_39).bind fun t55 => (some (.int 16807)).bind fun t56 => dMul t55 t56).bind fun t58 => dAdd t57 t58).bind fun t61 => ((some c_25).bind fun t59 => (some (.int 40692)).bind fun t60 => dMul t59 t60).bind fun t62 => dAdd t61 t62).bind fun x_63 => (some []).bind fun xs_64 => some (x_63 :: xs_64)).bind (on1 dInt)).bind fun t65 => (some (.int 2147483399)).bind fun t66 => dMod t65 t66).bind fun mixed_52 => (((((some mixed_52).bind fun t67 => (some (.int 64)).bind fun t68 => dFdiv t67 t68).bind fun t69 => (some (.int 1000)).bind fun t70 => dMod t69 t70).bind fun t71 => dApp b_24.1 t71).bind fun row_here_72 => (some (row_here_72, b_24.2)))))).bind fun s_29 => (some (s_29.1, s_29.2)))) xs (row_here_23, rest_18)).bind fun s_74 => (some s_74.1))))))
theorem ok_law_row {fa : Addr} {fd : FuncData} (F : Fun K "_law_row" "_law_row" s_law_row fa fd) (hm : mg "_law_row" = some (.ref fa)) (hb : Binds K fd ["_law_script", "_law_place", "_law_many"] []) (bl : Bi mg)  : Con P w K cl mg base 1 "_law_row" (on3 (m_law_row)) fa fd ["_law_script", "_law_place", "_law_many"] := by
  refine fun_con (k := 0) F sc_law_row rfl ar3 hm hb (fun cdv A outer s H E hr => ?_)
  have nd := sc_law_row.nd
  refine ⟨_, (pss_cons (ps_set (i := 3) nd rfl (by first | exact Or.inl rfl | exact Or.inr rfl) (pe_op op_addD (pe_op op_mulD pe_int (pv 1)) pe_int)) (pss_cons (ps_if (pt_cmpR op_lt (pv 1) (pe_callB call_lenD (by rfl) bl.len (by decide +kernel) (pa_cons (pv 0) pa_nil)) (nomark _)) (pss_cons (ps_set (i := 3) nd rfl (by first | exact Or.inl rfl | exact Or.inr rfl) (pe_ix ix_seq (pv 0) (pv 1) (fun _ _ => rfl))) pss_nil) pss_nil) (pss_cons (ps_set (i := 4) nd rfl (by first | exact Or.inl rfl | exact Or.inr rfl) (pe_op op_sub (pv 3) (pe_op op_pow pe_int pe_int))) (pss_cons (ps_set (i := 5) nd rfl (by first | exact Or.inl rfl | exact Or.inr rfl) (pe_lst pa_nil)) (pss_cons (ps_for PassesOwn.never rfl (pi_range1 (by rfl) bl.range (pa_cons (pv 2) pa_nil)) (pg_name (i := 6) nd rfl (by first | exact Or.inl rfl | exact Or.inr rfl)) (pss_cons (ps_if (pt_cmpR op_gt (pv 4) pe_int (nomark _)) (pss_cons (ps_expr (pe_bm PySem.F.plainAttrs_list PySem.F.slot_list_append PySem.F.type_list_append mt_append (pv 5) (pa_cons (pe_op op_mod (pe_callTy call_int1 (by rfl) bl.int (by decide +kernel) (pa_cons (pv 4) pa_nil)) pe_int) pa_nil))) (pss_cons (ps_set (i := 4) nd rfl (by first | exact Or.inl rfl | exact Or.inr rfl) (pe_op op_fdivW (pv 4) pe_int)) pss_nil)) (pss_cons (ps_set (i := 7) nd rfl (by first | exact Or.inl rfl | exact Or.inr rfl) (pe_op op_mod (pe_callTy call_int1 (by rfl) bl.int (by decide +kernel) (pa_cons (pe_op op_addD (pe_op op_addD (pe_op op_mulD (pv 3) pe_int) (pe_op op_mulD (pv 6) pe_int)) pe_int) pa_nil)) pe_int)) (pss_cons (ps_set (i := 7) nd rfl (by first | exact Or.inl rfl | exact Or.inr rfl) (pe_op op_mod (pe_callTy call_int1 (by rfl) bl.int (by decide +kernel) (pa_cons (pe_op op_addD (pe_op op_addD (pe_op op_mulD (pv 7) (pv 7)) (pe_op op_mulD (pv 7) pe_int)) (pe_op op_mulD (pv 6) pe_int)) pa_nil)) pe_int)) (pss_cons (ps_expr (pe_bm PySem.F.plainAttrs_list PySem.F.slot_list_append PySem.F.type_list_append mt_append (pv 5) (pa_cons (pe_op op_mod (pe_op op_fdivW (pv 7) pe_int) pe_int) pa_nil))) pss_nil)))) pss_nil)) (pss_cons (ps_ret (pv 5)) pss_never)))))), ?_⟩
  exact all3 fun script_1 place_2 many_3 => (tv_cons (sv_asg (i := 3) (ev_op o_add (ev_op o_mul ev_int (ev_v (i := 1) (d := place_2) rfl)) ev_int)) (fun cell_4 => (tv_cons (sv_if (post := (fun (b : D) => [.vl script_1, .vl place_2, .vl many_3, .vl b, .jk, .jk, .jk, .jk])) (et_op o_lt (ev_v (i := 1) (d := place_2) rfl) (ev_cb o_len (ea_cons (ev_v (i := 0) (d := script_1) rfl) ea_nil))) (sv_cons (sv_asg (i := 3) (ev_op o_ix (ev_v (i := 0) (d := script_1) rfl) (ev_v (i := 1) (d := place_2) rfl))) (fun cell_15 => (sv_nil cell_15 (.same (.same (.same (.same (.same (.same (.same (.same .nil))))))))))) (sv_nil cell_4 (.same (.same (.same (.same (.same (.same (.same (.same .nil)))))))))) (fun s_14 => (tv_cons (sv_asg (i := 4) (ev_op o_sub (ev_v (i := 3) (d := s_14) rfl) (ev_op o_pow ev_int ev_int))) (fun rest_18 => (tv_cons (sv_asgN (i := 5) (evn_lst ea_nil)) (fun row_here_23 => (tv_cons (sv_for (f := some) (inv := (fun (b : D × D) => [.vl script_1, .vl place_2, .vl many_3, .vl s_14, .vl b.2, .ow b.1, .jk, .jk])) (row_here_23, rest_18) (iv_rng1 (ev_v (i := 2) (d := many_3) rfl)) (.same (.same (.same (.same (.same (.same (.same (.same .nil)))))))) gv_name (fun c_25 b_24 => (sv_cons (sv_if (post := (fun (b : D × D) => [.vl script_1, .vl place_2, .vl many_3, .vl s_14, .vl b.2, .ow b.1, .vl c_25, .jk])) (et_op o_gt (ev_v (i := 4) (d := b_24.2) rfl) ev_int) (sv_cons (sv_app (i := 5) (d := b_24.1) rfl rfl (ev_op o_mod (ev_cb o_int (ea_cons (ev_v (i := 4) (d := b_24.2) rfl) ea_nil)) ev_int)) (fun row_here_35 => (sv_cons (sv_asg (i := 4) (ev_op o_fdiv (ev_v (i := 4) (d := b_24.2) rfl) ev_int)) (fun rest_36 => (sv_nil (row_here_35, rest_36) (.same (.same (.same (.same (.same (.same (.same (.same .nil))))))))))))) (sv_cons (sv_asg (i := 7) (ev_op o_mod (ev_cb o_int (ea_cons (ev_op o_add (ev_op o_add (ev_op o_mul (ev_v (i := 3) (d := s_14) rfl) ev_int) (ev_op o_mul (ev_v (i := 6) (d := c_25) rfl) ev_int)) ev_int) ea_nil)) ev_int)) (fun mixed_39 => (sv_cons (sv_asg (i := 7) (ev_op o_mod (ev_cb o_int (ea_cons (ev_op o_add (ev_op o_add (ev_op o_mul (ev_v (i := 7) (d := mixed_39) rfl) (ev_v (i := 7) (d := mixed_39) rfl)) (ev_op o_mul (ev_v (i := 7) (d := mixed_39) rfl) ev_int)) (ev_op o_mul (ev_v (i := 6) (d := c_25) rfl) ev_int)) ea_nil)) ev_int)) (fun mixed_52 => (sv_cons (sv_app (i := 5) (d := b_24.1) rfl rfl (ev_op o_mod (ev_op o_fdiv (ev_v (i := 7) (d := mixed_52) rfl) ev_int) ev_int)) (fun row_here_72 => (sv_nil (row_here_72, b_24.2) (.same (.same (.same (.same (.same (.same (.same (.drop .nil)))))))))))))))) (fun s_29 => (sv_nil (s_29.1, s_29.2) (.same (.same (.same (.same (.same (.same (.drop (.same .nil))))))))))))) (fun s_74 => (tv_ret (ev_pre (i := 5) (d := s_74.1) rfl (ev_v (i := 5) (d := s_74.1) rfl)))))))))))))
/-! _law_rows -/
abbrev s_law_rows : Stmt := topS 7
abbrev n_law_rows : List Str := ["_law_bounds", "_law_found", "_law_bound", "_law_longer", "_law_one", "_law_k"]
theorem sc_law_rows : FnScope n_law_rows ["_law_bounds"] (defScope s_law_rows) := ⟨rfl, rfl, rfl, by decide +kernel, rfl, by decide +kernel, by decide +kernel⟩
def m_law_rows (bounds_1 : D) : Option D := (((((some []).bind (few .lst)).bind fun x_3 => (some []).bind fun xs_4 => some (x_3 :: xs_4)).bind (few .lst)).bind fun found_2 => ((((some bounds_1).bind asL).bind fun xs => forS (fun x_23 (b_5 : D) => (some x_23).bind fun c_6 => (((some []).bind (few .lst)).bind fun longer_7 => ((((some b_5).bind asL).bind fun xs => forS (fun x_20 (b_8 : D) => (some x_20).bind fun c_9 => ((((some c_6).bind dRng1).bind fun xs => forS (fun x_18 (b_10 : D) => (some x_18).bind fun c_11 => ((((some c_9).bind fun t14 => (((some c_11).bind fun x_12 => (some []).bind fun xs_13 => some (x_12 :: xs_13)).bind (few .lst)).bind fun t15 => dCat t14 t15).bind fun t16 => dApp b_10 t16).bind fun longer_17 => (some longer_17))) xs b_8).bind fun s_19 => (some s_19))) xs longer_7).bind fun s_21 => ((some s_21).bind fun found_22 => (some found_22))))) xs found_2).bind fun s_24 => (some s_24)))
theorem ok_law_rows {fa : Addr} {fd : FuncData} (F : Fun K "_law_rows" "_law_rows" s_law_rows fa fd) (hm : mg "_law_rows" = some (.ref fa)) (hb : Binds K fd ["_law_bounds"] []) (bl : Bi mg)  : Con P w K cl mg base 1 "_law_rows" (on1 (m_law_rows)) fa fd ["_law_bounds"] := by
  refine fun_con (k := 0) F sc_law_rows rfl ar1 hm hb (fun cdv A outer s H E hr => ?_)
  have nd := sc_law_rows.nd
  refine ⟨_, (pss_cons (ps_set (i := 1) nd rfl (by first | exact Or.inl rfl | exact Or.inr rfl) (pe_lst (pa_cons (pe_lst pa_nil) pa_nil))) (pss_cons (ps_for PassesOwn.never rfl (pi_list (pv 0)) (pg_name (i := 2) nd rfl (by first | exact Or.inl rfl | exact Or.inr rfl)) (pss_cons (ps_set (i := 3) nd rfl (by first | exact Or.inl rfl | exact Or.inr rfl) (pe_lst pa_nil)) (pss_cons (ps_for PassesOwn.never rfl (pi_list (pv 1)) (pg_name (i := 4) nd rfl (by first | exact Or.inl rfl | exact Or.inr rfl)) (pss_cons (ps_for PassesOwn.never rfl (pi_range1 (by rfl) bl.range (pa_cons (pv 2) pa_nil)) (pg_name (i := 5) nd rfl (by first | exact Or.inl rfl | exact Or.inr rfl)) (pss_cons (ps_expr (pe_bm PySem.F.plainAttrs_list PySem.F.slot_list_append PySem.F.type_list_append mt_append (pv 3) (pa_cons (pe_op op_cat (pv 4) (pe_lst (pa_cons (pv 5) pa_nil))) pa_nil))) pss_nil)) pss_nil)) (pss_cons (ps_set (i := 1) nd rfl (by first | exact Or.inl rfl | exact Or.inr rfl) (pv 3)) pss_nil)))) (pss_cons (ps_ret (pv 1)) pss_never))), ?_⟩
  exact all1 fun bounds_1 => (tv_cons (sv_asg (i := 1) ((evn_lst (ea_cons ((evn_lst ea_nil)).ev ea_nil))).ev) (fun found_2 => (tv_cons (sv_for (f := some) (inv := (fun (b : D) => [.vl bounds_1, .vl b, .jk, .jk, .jk, .jk])) found_2 (iv_list (ev_v (i := 0) (d := bounds_1) rfl)) (.same (.same (.same (.same (.same (.same .nil)))))) gv_name (fun c_6 b_5 => (sv_cons (sv_asgN (i := 3) (evn_lst ea_nil)) (fun longer_7 => (sv_cons (sv_for (f := some) (inv := (fun (b : D) => [.vl bounds_1, .vl b_5, .vl c_6, .ow b, .jk, .jk])) longer_7 (iv_list (ev_v (i := 1) (d := b_5) rfl)) (.same (.same (.same (.same (.same (.same .nil)))))) gv_name (fun c_9 b_8 => (sv_cons (sv_for (f := some) (inv := (fun (b : D) => [.vl bounds_1, .vl b_5, .vl c_6, .ow b, .vl c_9, .jk])) b_8 (iv_rng1 (ev_v (i := 2) (d := c_6) rfl)) (.same (.same (.same (.same (.same (.same .nil)))))) gv_name (fun c_11 b_10 => (sv_cons (sv_app (i := 3) (d := b_10) rfl rfl ((evn_op o_cat (ev_v (i := 4) (d := c_9) rfl) ((evn_lst (ea_cons (ev_v (i := 5) (d := c_11) rfl) ea_nil))).ev)).ev) (fun longer_17 => (sv_nil longer_17 (.same (.same (.same (.same (.same (.drop .nil))))))))))) (fun s_19 => (sv_nil s_19 (.same (.same (.same (.same (.drop (.same .nil))))))))))) (fun s_21 => (sv_cons (sv_asg (i := 1) (ev_pre (i := 3) (d := s_21) rfl (ev_v (i := 3) (d := s_21) rfl))) (fun found_22 => (sv_nil found_22 (.same (.same (.drop (.drop (.same (.same .nil))))))))))))))) (fun s_24 => (tv_ret (ev_v (i := 1) (d := s_24) rfl))))))
/-! size -/
abbrev s_size : Stmt := topS 1
abbrev n_size : List Str := ["bounds", "many", "bound"]
theorem sc_size : FnScope n_size ["bounds"] (defScope s_size) := ⟨rfl, rfl, rfl, by decide +kernel, rfl, by decide +kernel, by decide +kernel⟩
def m_size (bounds_1 : D) : Option D := ((some (.int 1)).bind fun many_2 => ((((some bounds_1).bind asL).bind fun xs => forS (fun x_8 (b_3 : D) => (some x_8).bind fun c_4 => (((some b_3).bind fun t6 => (some c_4).bind fun t7 => dMul t6 t7).bind fun many_5 => (some many_5))) xs many_2).bind fun s_9 => (some s_9)))
theorem ok_size {fa : Addr} {fd : FuncData} (F : Fun K "size" "size" s_size fa fd) (hm : mg "size" = some (.ref fa)) (hb : Binds K fd ["bounds"] []) (bl : Bi mg)  : Con P w K cl mg base 1 "size" (on1 (m_size)) fa fd ["bounds"] := by
  refine fun_con (k := 0) F sc_size rfl ar1 hm hb (fun cdv A outer s H E hr => ?_)
  have nd := sc_size.nd
  refine ⟨_, (pss_cons (ps_set (i := 1) nd rfl (by first | exact Or.inl rfl | exact Or.inr rfl) pe_int) (pss_cons (ps_for PassesOwn.never rfl (pi_list (pv 0)) (pg_name (i := 2) nd rfl (by first | exact Or.inl rfl | exact Or.inr rfl)) (pss_cons (ps_set (i := 1) nd rfl (by first | exact Or.inl rfl | exact Or.inr rfl) (pe_op op_mulD (pv 1) (pv 2))) pss_nil)) (pss_cons (ps_ret (pv 1)) pss_never))), ?_⟩
  exact all1 fun bounds_1 => (tv_cons (sv_asg (i := 1) ev_int) (fun many_2 => (tv_cons (sv_for (f := some) (inv := (fun (b : D) => [.vl bounds_1, .vl b, .jk])) many_2 (iv_list (ev_v (i := 0) (d := bounds_1) rfl)) (.same (.same (.same .nil))) gv_name (fun c_4 b_3 => (sv_cons (sv_asg (i := 1) (ev_op o_mul (ev_v (i := 1) (d := b_3) rfl) (ev_v (i := 2) (d := c_4) rfl))) (fun many_5 => (sv_nil many_5 (.same (.same (.drop .nil)))))))) (fun s_9 => (tv_ret (ev_v (i := 1) (d := s_9) rfl))))))
/-! _law_is_integer -/
abbrev s_law_is_integer : Stmt := topS 5
abbrev n_law_is_integer : List Str := ["_law_x"]
theorem sc_law_is_integer : FnScope n_law_is_integer ["_law_x"] (defScope s_law_is_integer) := ⟨rfl, rfl, rfl, by decide +kernel, rfl, by decide +kernel, by decide +kernel⟩
def m_law_is_integer (x_1 : D) : Option D := (((some x_1).bind (dIsi .int)).bind fun t4 => (asB t4).bind fun t5 => if t5 = true then (((some x_1).bind (dIsi .bool)).bind fun t2 => (asB t2).map fun t3 => .bl (!t3)) else some (.bl false))
theorem ok_law_is_integer {fa : Addr} {fd : FuncData} (F : Fun K "_law_is_integer" "_law_is_integer" s_law_is_integer fa fd) (hm : mg "_law_is_integer" = some (.ref fa)) (hb : Binds K fd ["_law_x"] []) (bl : Bi mg)  : Con P w K cl mg base 1 "_law_is_integer" (on1 (m_law_is_integer)) fa fd ["_law_x"] := by
  refine fun_con (k := 0) F sc_law_is_integer rfl ar1 hm hb (fun cdv A outer s H E hr => ?_)
  have nd := sc_law_is_integer.nd
  refine ⟨_, (pss_cons (ps_ret (pe_and (pe_callB call_isi (by rfl) bl.isinstance (by decide +kernel) (pa_cons (pv 0) (pa_cons (pe_bltn (v := .ty "int") (by rfl) bl.int (by decide +kernel) rfl) pa_nil))) (pe_one (pe_not (pe_callB call_isi (by rfl) bl.isinstance (by decide +kernel) (pa_cons (pv 0) (pa_cons (pe_bltn (v := .ty "bool") (by rfl) bl.bool (by decide +kernel) rfl) pa_nil))))))) pss_never), ?_⟩
  exact all1 fun x_1 => (tv_ret (ev_and (ev_isi .int (ev_v (i := 0) (d := x_1) rfl)) (ev_not (ev_isi .bool (ev_v (i := 0) (d := x_1) rfl)))))
/-! _law_same -/
abbrev s_law_same : Stmt := topS 9
abbrev n_law_same : List Str := ["_law_actual", "_law_due", "_law_k"]
theorem sc_law_same : FnScope n_law_same ["_law_actual", "_law_due"] (defScope s_law_same) := ⟨rfl, rfl, rfl, by decide +kernel, rfl, by decide +kernel, by decide +kernel⟩
def m_law_same : Nat → D → D → Option D
  | 0, _, _ => none
  | fuel + 1, actual_1, due_2 => (((((some due_2).bind (dIsi .list)).bind asB).bind fun c_3 => if c_3 = true then some true else (((some due_2).bind (dIsi .tuple)).bind asB)).bind fun c_4 => if c_4 = true then (((((some actual_1).bind (dIsi .list)).bind fun t5 => ((some due_2).bind (dIsi .list)).bind fun t6 => (dNeF t5 t6).bind asB).bind fun c_9 => if c_9 = true then some true else (((some actual_1).bind (dIsi .tuple)).bind fun t7 => ((some due_2).bind (dIsi .tuple)).bind fun t8 => (dNeF t7 t8).bind asB)).bind fun c_10 => if c_10 = true then (some (.bl false)) else (((((some actual_1).bind fun x_11 => (some []).bind fun xs_12 => some (x_11 :: xs_12)).bind (on1 dLen)).bind fun t15 => (((some due_2).bind fun x_13 => (some []).bind fun xs_14 => some (x_13 :: xs_14)).bind (on1 dLen)).bind fun t16 => (dNeF t15 t16).bind asB).bind fun c_17 => if c_17 = true then (some (.bl false)) else ((((((some due_2).bind fun x_18 => (some []).bind fun xs_19 => some (x_18 :: xs_19)).bind (on1 dLen)).bind dRng1).bind fun xs => forF (γ := Empty) (fun x_32 (b_20 : Unit) => (some x_32).bind fun c_21 => (((((((some actual_1).bind fun t22 => (some c_21).bind fun t23 => dIx t22 t23).bind fun x_28 => (((some due_2).bind fun t24 => (some c_21).bind fun t25 => dIx t24 t25).bind fun x_26 => (some []).bind fun xs_27 => some (x_26 :: xs_27)).bind fun xs_29 => some (x_28 :: xs_29)).bind (on2 (m_law_same fuel))).bind asB).map fun b_30 => !b_30).bind fun c_31 => if c_31 = true then ((((some (.bl false)).map Fl.rt) : Option (Fl Empty (Unit)))).bind (flE (β := Unit)) else (some (Fl.nx ())))) xs ()).bind (flT fun s_33 => (some (.bl true)))))) else ((((some due_2).bind (dIsi .bool)).bind asB).bind fun c_34 => if c_34 = true then (((some actual_1).bind (dIsi .bool)).bind fun t37 => (asB t37).bind fun t38 => if t38 = true then ((some actual_1).bind fun t35 => (some due_2).bind fun t36 => dEq t35 t36) else some (.bl false)) else ((((some due_2).bind (dIsi .int)).bind asB).bind fun c_39 => if c_39 = true then ((((some actual_1).bind fun x_40 => (some []).bind fun xs_41 => some (x_40 :: xs_41)).bind (on1 (m_law_is_integer))).bind fun t44 => (asB t44).bind fun t45 => if t45 = true then ((some actual_1).bind fun t42 => (some due_2).bind fun t43 => dEq t42 t43) else some (.bl false)) else (((some actual_1).bind (dIsi .str)).bind fun t48 => (asB t48).bind fun t49 => if t49 = true then ((some actual_1).bind fun t46 => (some due_2).bind fun t47 => dEq t46 t47) else some (.bl false)))))
theorem ok_law_same {fa : Addr} {fd : FuncData} (F : Fun K "_law_same" "_law_same" s_law_same fa fd) (hm : mg "_law_same" = some (.ref fa)) (hb : Binds K fd ["_law_actual", "_law_due"] []) (bl : Bi mg) {f0 : Addr} {fd0 : FuncData} (C_law_is_integer : Con P w K cl mg base 1 "_law_is_integer" (on1 (m_law_is_integer)) f0 fd0 ["_law_x"]) : ∀ fuel : Nat, Con P w K cl mg base (2 + fuel) "_law_same" (on2 (m_law_same fuel)) fa fd ["_law_actual", "_law_due"]
  | 0 => ⟨con_none (fun ds d h => by
      have hl := ar2 ds d h
      match ds, hl, h with | [_, _], _, h => exact nomatch h), hm, F.kp, hb⟩
  | fuel + 1 => by
    have IH := ok_law_same F hm hb bl C_law_is_integer fuel
    refine fun_con (k := 2 + fuel) F sc_law_same rfl ar2 hm hb (fun cdv A outer s H E hr => ?_)
    have nd := sc_law_same.nd
    refine ⟨_, (pss_cons (ps_if (PW.pt (pw_or (pt_val (pe_callB call_isi (by rfl) bl.isinstance (by decide +kernel) (pa_cons (pv 1) (pa_cons (pe_bltn (v := .ty "list") (by rfl) bl.list (by decide +kernel) rfl) pa_nil)))) (pw_or1 (pt_val (pe_callB call_isi (by rfl) bl.isinstance (by decide +kernel) (pa_cons (pv 1) (pa_cons (pe_bltn (v := .ty "tuple") (by rfl) bl.tuple (by decide +kernel) rfl) pa_nil))))))) (pss_cons (ps_if (PW.pt (pw_or (pt_cmpR op_ne (pe_callB call_isi (by rfl) bl.isinstance (by decide +kernel) (pa_cons (pv 0) (pa_cons (pe_bltn (v := .ty "list") (by rfl) bl.list (by decide +kernel) rfl) pa_nil))) (pe_callB call_isi (by rfl) bl.isinstance (by decide +kernel) (pa_cons (pv 1) (pa_cons (pe_bltn (v := .ty "list") (by rfl) bl.list (by decide +kernel) rfl) pa_nil))) (nomark _)) (pw_or1 (pt_cmpR op_ne (pe_callB call_isi (by rfl) bl.isinstance (by decide +kernel) (pa_cons (pv 0) (pa_cons (pe_bltn (v := .ty "tuple") (by rfl) bl.tuple (by decide +kernel) rfl) pa_nil))) (pe_callB call_isi (by rfl) bl.isinstance (by decide +kernel) (pa_cons (pv 1) (pa_cons (pe_bltn (v := .ty "tuple") (by rfl) bl.tuple (by decide +kernel) rfl) pa_nil))) (nomark _))))) (pss_cons (ps_ret pe_bl) pss_never) pss_nil) (pss_cons (ps_if (pt_cmpR op_ne (pe_callB call_lenD (by rfl) bl.len (by decide +kernel) (pa_cons (pv 0) pa_nil)) (pe_callB call_lenD (by rfl) bl.len (by decide +kernel) (pa_cons (pv 1) pa_nil)) (nomark _)) (pss_cons (ps_ret pe_bl) pss_never) pss_nil) (pss_cons (ps_for PassesOwn.never rfl (pi_range1 (by rfl) bl.range (pa_cons (pe_callB call_lenD (by rfl) bl.len (by decide +kernel) (pa_cons (pv 1) pa_nil)) pa_nil)) (pg_name (i := 2) nd rfl (by first | exact Or.inl rfl | exact Or.inr rfl)) (pss_cons (ps_if (pt_not (pt_val (pe_call IH.ok (hr.mono (by omega)) (by rfl) IH.mg IH.kp IH.bd .nil pass0 (pa_cons (pe_ix ix_seq (pv 0) (pv 2) (fun _ _ => rfl)) (pa_cons (pe_ix ix_seq (pv 1) (pv 2) (fun _ _ => rfl)) pa_nil))))) (pss_cons (ps_ret pe_bl) pss_never) pss_nil) pss_nil)) (pss_cons (ps_ret pe_bl) pss_never)))) pss_nil) (pss_cons (ps_if (pt_val (pe_callB call_isi (by rfl) bl.isinstance (by decide +kernel) (pa_cons (pv 1) (pa_cons (pe_bltn (v := .ty "bool") (by rfl) bl.bool (by decide +kernel) rfl) pa_nil)))) (pss_cons (ps_ret (pe_and (pe_callB call_isi (by rfl) bl.isinstance (by decide +kernel) (pa_cons (pv 0) (pa_cons (pe_bltn (v := .ty "bool") (by rfl) bl.bool (by decide +kernel) rfl) pa_nil))) (pe_one (pe_cmpR (op_eqD hr.units) (pv 0) (pv 1) (nomark _))))) pss_never) pss_nil) (pss_cons (ps_if (pt_val (pe_callB call_isi (by rfl) bl.isinstance (by decide +kernel) (pa_cons (pv 1) (pa_cons (pe_bltn (v := .ty "int") (by rfl) bl.int (by decide +kernel) rfl) pa_nil)))) (pss_cons (ps_ret (pe_and (pe_call C_law_is_integer.ok (hr.mono (by omega)) (by rfl) C_law_is_integer.mg C_law_is_integer.kp C_law_is_integer.bd .nil pass0 (pa_cons (pv 0) pa_nil)) (pe_one (pe_cmpR (op_eqD hr.units) (pv 0) (pv 1) (nomark _))))) pss_never) pss_nil) (pss_cons (ps_ret (pe_and (pe_callB call_isi (by rfl) bl.isinstance (by decide +kernel) (pa_cons (pv 0) (pa_cons (pe_bltn (v := .ty "str") (by rfl) bl.str (by decide +kernel) rfl) pa_nil))) (pe_one (pe_cmpR (op_eqD hr.units) (pv 0) (pv 1) (nomark _))))) pss_never)))), ?_⟩
    exact all2 fun actual_1 due_2 => (tv_ifl (et_or (et_B (ev_isi .list (ev_v (i := 1) (d := due_2) rfl))) (et_B (ev_isi .tuple (ev_v (i := 1) (d := due_2) rfl)))) (tv_ifl (et_or (et_op o_neF (ev_isi .list (ev_v (i := 0) (d := actual_1) rfl)) (ev_isi .list (ev_v (i := 1) (d := due_2) rfl))) (et_op o_neF (ev_isi .tuple (ev_v (i := 0) (d := actual_1) rfl)) (ev_isi .tuple (ev_v (i := 1) (d := due_2) rfl)))) (tv_ret ev_bl) (tv_ifl (et_op o_neF (ev_cb o_len (ea_cons (ev_v (i := 0) (d := actual_1) rfl) ea_nil)) (ev_cb o_len (ea_cons (ev_v (i := 1) (d := due_2) rfl) ea_nil))) (tv_ret ev_bl) (tv_flow (out := fun c => nomatch c) (fv_for (γ := Empty) (f := some) (inv := (fun (b : Unit) => [.vl actual_1, .vl due_2, .jk])) () (iv_rng1 (ev_cb o_len (ea_cons (ev_v (i := 1) (d := due_2) rfl) ea_nil))) (.same (.same (.same .nil))) gv_name (fun c_21 b_20 => (fv_ifl (post0 := fun _ => []) (et_not (et_B (ev_call (ea_cons (ev_op o_ix (ev_v (i := 0) (d := actual_1) rfl) (ev_v (i := 2) (d := c_21) rfl)) (ea_cons (ev_op o_ix (ev_v (i := 1) (d := due_2) rfl) (ev_v (i := 2) (d := c_21) rfl)) ea_nil))))) (fv_ret ev_bl) (fv_nil () (.same (.same (.drop .nil))))))) (fun s_33 => (tv_ret ev_bl))))) (tv_ifl (et_B (ev_isi .bool (ev_v (i := 1) (d := due_2) rfl))) (tv_ret (ev_and (ev_isi .bool (ev_v (i := 0) (d := actual_1) rfl)) (ev_op o_eq (ev_v (i := 0) (d := actual_1) rfl) (ev_v (i := 1) (d := due_2) rfl)))) (tv_ifl (et_B (ev_isi .int (ev_v (i := 1) (d := due_2) rfl))) (tv_ret (ev_and (ev_call (ea_cons (ev_v (i := 0) (d := actual_1) rfl) ea_nil)) (ev_op o_eq (ev_v (i := 0) (d := actual_1) rfl) (ev_v (i := 1) (d := due_2) rfl)))) (tv_ret (ev_and (ev_isi .str (ev_v (i := 0) (d := actual_1) rfl)) (ev_op o_eq (ev_v (i := 0) (d := actual_1) rfl) (ev_v (i := 1) (d := due_2) rfl)))))))
/-! place -/
abbrev s_place : Stmt := topS 2
abbrev n_place : List Str := ["bounds", "row", "at", "bound", "number"]
theorem sc_place : FnScope n_place ["bounds", "row"] (defScope s_place) := ⟨rfl, rfl, rfl, by decide +kernel, rfl, by decide +kernel, by decide +kernel⟩
def m_place (bounds_1 : D) (row_2 : D) : Option D := ((some (.int 0)).bind fun at_3 => ((((some bounds_1).bind fun t4 => (some row_2).bind fun t5 => (asL t4).bind fun t6 => (asL t5).bind fun t7 => some (List.zipWith (fun a b => D.tup [a, b]) t6 t7)).bind fun xs => forS (fun x_15 (b_8 : D) => (dUn2 x_15).bind fun c_9 => ((((some b_8).bind fun t11 => (some c_9.1).bind fun t12 => dMul t11 t12).bind fun t13 => (some c_9.2).bind fun t14 => dAdd t13 t14).bind fun at_10 => (some at_10))) xs at_3).bind fun s_16 => (some s_16)))
theorem ok_place {fa : Addr} {fd : FuncData} (F : Fun K "place" "place" s_place fa fd) (hm : mg "place" = some (.ref fa)) (hb : Binds K fd ["bounds", "row"] []) (bl : Bi mg)  : Con P w K cl mg base 1 "place" (on2 (m_place)) fa fd ["bounds", "row"] := by
  refine fun_con (k := 0) F sc_place rfl ar2 hm hb (fun cdv A outer s H E hr => ?_)
  have nd := sc_place.nd
  refine ⟨_, (pss_cons (ps_set (i := 2) nd rfl (by first | exact Or.inl rfl | exact Or.inr rfl) pe_int) (pss_cons (ps_for PassesOwn.never rfl (pi_zip (by rfl) bl.zip (pa_cons (pv 0) (pa_cons (pv 1) pa_nil))) (pg_tup rfl (pgs_cons (pg_name (i := 3) nd rfl (by first | exact Or.inl rfl | exact Or.inr rfl)) (pgs_cons (pg_name (i := 4) nd rfl (by first | exact Or.inl rfl | exact Or.inr rfl)) pgs_nil))) (pss_cons (ps_set (i := 2) nd rfl (by first | exact Or.inl rfl | exact Or.inr rfl) (pe_op op_addD (pe_op op_mulD (pv 2) (pv 3)) (pv 4))) pss_nil)) (pss_cons (ps_ret (pv 2)) pss_never))), ?_⟩
  exact all2 fun bounds_1 row_2 => (tv_cons (sv_asg (i := 2) ev_int) (fun at_3 => (tv_cons (sv_for (f := dUn2) (inv := (fun (b : D) => [.vl bounds_1, .vl row_2, .vl b, .jk, .jk])) at_3 (iv_zip (ev_v (i := 0) (d := bounds_1) rfl) (ev_v (i := 1) (d := row_2) rfl)) (.same (.same (.same (.same (.same .nil))))) gv_tup2 (fun c_9 b_8 => (sv_cons (sv_asg (i := 2) (ev_op o_add (ev_op o_mul (ev_v (i := 2) (d := b_8) rfl) (ev_v (i := 3) (d := c_9.1) rfl)) (ev_v (i := 4) (d := c_9.2) rfl))) (fun at_10 => (sv_nil at_10 (.same (.same (.same (.drop (.drop .nil)))))))))) (fun s_16 => (tv_ret (ev_v (i := 2) (d := s_16) rfl))))))
/-! _law_size -/
abbrev s_law_size : Stmt := topS 8
abbrev n_law_size : List Str := ["_law_bounds", "_law_many", "_law_bound"]
theorem sc_law_size : FnScope n_law_size ["_law_bounds"] (defScope s_law_size) := ⟨rfl, rfl, rfl, by decide +kernel, rfl, by decide +kernel, by decide +kernel⟩
def m_law_size (bounds_1 : D) : Option D := ((some (.int 1)).bind fun many_2 => ((((some bounds_1).bind asL).bind fun xs => forS (fun x_8 (b_3 : D) => (some x_8).bind fun c_4 => (((some b_3).bind fun t6 => (some c_4).bind fun t7 => dMul t6 t7).bind fun many_5 => (some many_5))) xs many_2).bind fun s_9 => (some s_9)))
theorem ok_law_size {fa : Addr} {fd : FuncData} (F : Fun K "_law_size" "_law_size" s_law_size fa fd) (hm : mg "_law_size" = some (.ref fa)) (hb : Binds K fd ["_law_bounds"] []) (bl : Bi mg)  : Con P w K cl mg base 1 "_law_size" (on1 (m_law_size)) fa fd ["_law_bounds"] := by
  refine fun_con (k := 0) F sc_law_size rfl ar1 hm hb (fun cdv A outer s H E hr => ?_)
  have nd := sc_law_size.nd
  refine ⟨_, (pss_cons (ps_set (i := 1) nd rfl (by first | exact Or.inl rfl | exact Or.inr rfl) pe_int) (pss_cons (ps_for PassesOwn.never rfl (pi_list (pv 0)) (pg_name (i := 2) nd rfl (by first | exact Or.inl rfl | exact Or.inr rfl)) (pss_cons (ps_set (i := 1) nd rfl (by first | exact Or.inl rfl | exact Or.inr rfl) (pe_op op_mulD (pv 1) (pv 2))) pss_nil)) (pss_cons (ps_ret (pv 1)) pss_never))), ?_⟩
  exact all1 fun bounds_1 => (tv_cons (sv_asg (i := 1) ev_int) (fun many_2 => (tv_cons (sv_for (f := some) (inv := (fun (b : D) => [.vl bounds_1, .vl b, .jk])) many_2 (iv_list (ev_v (i := 0) (d := bounds_1) rfl)) (.same (.same (.same .nil))) gv_name (fun c_4 b_3 => (sv_cons (sv_asg (i := 1) (ev_op o_mul (ev_v (i := 1) (d := b_3) rfl) (ev_v (i := 2) (d := c_4) rfl))) (fun many_5 => (sv_nil many_5 (.same (.same (.drop .nil)))))))) (fun s_9 => (tv_ret (ev_v (i := 1) (d := s_9) rfl))))))
/-! row_at -/
abbrev s_row_at : Stmt := topS 3
abbrev n_row_at : List Str := ["bounds", "at", "row", "bound"]
theorem sc_row_at : FnScope n_row_at ["bounds", "at"] (defScope s_row_at) := ⟨rfl, rfl, rfl, by decide +kernel, rfl, by decide +kernel, by decide +kernel⟩
def m_row_at (bounds_1 : D) (at_2 : D) : Option D := (((some []).bind (few .lst)).bind fun row_3 => ((((some bounds_1).bind fun d_4 => (asL d_4).map List.reverse).bind fun xs => forS (fun x_14 (b_5 : D × D) => (some x_14).bind fun c_6 => ((((some b_5.2).bind fun t7 => (some c_6).bind fun t8 => dMod t7 t8).bind fun t9 => dApp b_5.1 t9).bind fun row_10 => (((some b_5.2).bind fun t12 => (some c_6).bind fun t13 => dFdiv t12 t13).bind fun at_11 => (some (row_10, at_11))))) xs (row_3, at_2)).bind fun s_15 => ((some s_15.1).bind dRevL)))
theorem ok_row_at {fa : Addr} {fd : FuncData} (F : Fun K "row_at" "row_at" s_row_at fa fd) (hm : mg "row_at" = some (.ref fa)) (hb : Binds K fd ["bounds", "at"] []) (bl : Bi mg)  : Con P w K cl mg base 1 "row_at" (on2 (m_row_at)) fa fd ["bounds", "at"] := by
  refine fun_con (k := 0) F sc_row_at rfl ar2 hm hb (fun cdv A outer s H E hr => ?_)
  have nd := sc_row_at.nd
  refine ⟨_, (pss_cons (ps_set (i := 2) nd rfl (by first | exact Or.inl rfl | exact Or.inr rfl) (pe_lst pa_nil)) (pss_cons (ps_for PassesOwn.never rfl (pi_reversed (by rfl) bl.reversed (pa_cons (pv 0) pa_nil)) (pg_name (i := 3) nd rfl (by first | exact Or.inl rfl | exact Or.inr rfl)) (pss_cons (ps_expr (pe_bm PySem.F.plainAttrs_list PySem.F.slot_list_append PySem.F.type_list_append mt_append (pv 2) (pa_cons (pe_op op_mod (pv 1) (pv 3)) pa_nil))) (pss_cons (ps_set (i := 1) nd rfl (by first | exact Or.inl rfl | exact Or.inr rfl) (pe_op op_fdivW (pv 1) (pv 3))) pss_nil))) (pss_cons (ps_ret (pe_revL (pv 2))) pss_never))), ?_⟩
  exact all2 fun bounds_1 at_2 => (tv_cons (sv_asgN (i := 2) (evn_lst ea_nil)) (fun row_3 => (tv_cons (sv_for (f := some) (inv := (fun (b : D × D) => [.vl bounds_1, .vl b.2, .ow b.1, .jk])) (row_3, at_2) (iv_rev (ev_v (i := 0) (d := bounds_1) rfl)) (.same (.same (.same (.same .nil)))) gv_name (fun c_6 b_5 => (sv_cons (sv_app (i := 2) (d := b_5.1) rfl rfl (ev_op o_mod (ev_v (i := 1) (d := b_5.2) rfl) (ev_v (i := 3) (d := c_6) rfl))) (fun row_10 => (sv_cons (sv_asg (i := 1) (ev_op o_fdiv (ev_v (i := 1) (d := b_5.2) rfl) (ev_v (i := 3) (d := c_6) rfl))) (fun at_11 => (sv_nil (row_10, at_11) (.same (.same (.same (.drop .nil))))))))))) (fun s_15 => (tv_ret (ev_pre (i := 2) (d := s_15.1) rfl ((evn_rev (ev_v (i := 2) (d := s_15.1) rfl))).ev))))))
/-! law -/
abbrev s_law : Stmt := topS 10
abbrev n_law : List Str := ["_law_script", "_law_row_here", "_law_bounds", "_law_k", "_law_passed", "_law_due", "_law_many", "_law_at", "_law_found"]
theorem sc_law : FnScope n_law ["_law_script"] (defScope s_law) := ⟨rfl, rfl, rfl, by decide +kernel, rfl, by decide +kernel, by decide +kernel⟩
def m_law (script_1 : D) : Option D := ((((some script_1).bind fun x_7 => ((some (.int 0)).bind fun x_5 => ((some (.int 8)).bind fun x_3 => (some []).bind fun xs_4 => some (x_3 :: xs_4)).bind fun xs_6 => some (x_5 :: xs_6)).bind fun xs_8 => some (x_7 :: xs_8)).bind (on3 (m_law_row))).bind fun row_here_2 => (((some []).bind (few .lst)).bind fun bounds_9 => ((((((((some row_here_2).bind fun t10 => (some (.int 0)).bind fun t11 => dIx t10 t11).bind fun x_12 => (some []).bind fun xs_13 => some (x_12 :: xs_13)).bind (on1 dInt)).bind fun t14 => (some (.int 7)).bind fun t15 => dMod t14 t15).bind dRng1).bind fun xs => forS (fun x_36 (b_16 : D) => (some x_36).bind fun c_17 => ((((((some b_16).bind fun x_18 => (some []).bind fun xs_19 => some (x_18 :: xs_19)).bind (on1 (m_law_size))).bind fun t20 => (some (.int 64)).bind fun t21 => (dLe t20 t21).bind asB).bind fun c_22 => if c_22 = true then ((((some (.int 1)).bind fun t32 => (((((some row_here_2).bind fun t26 => ((some (.int 1)).bind fun t24 => (some c_17).bind fun t25 => dAdd t24 t25).bind fun t27 => dIx t26 t27).bind fun x_28 => (some []).bind fun xs_29 => some (x_28 :: xs_29)).bind (on1 dInt)).bind fun t30 => (some (.int 4)).bind fun t31 => dMod t30 t31).bind fun t33 => dAdd t32 t33).bind fun t34 => dApp b_16 t34).bind fun bounds_35 => (some bounds_35)) else (some b_16)).bind fun s_23 => (some s_23))) xs bounds_9).bind fun s_37 => ((((some s_37).bind fun x_39 => (some []).bind fun xs_40 => some (x_39 :: xs_40)).bind (on1 dList)).bind fun passed_38 => ((((some s_37).bind fun x_42 => (some []).bind fun xs_43 => some (x_42 :: xs_43)).bind (on1 (m_law_rows))).bind fun due_41 => ((((some passed_38).bind fun x_45 => (some []).bind fun xs_46 => some (x_45 :: xs_46)).bind (on1 (m_size))).bind fun many_44 => (((((((some many_44).bind fun x_47 => (some []).bind fun xs_48 => some (x_47 :: xs_48)).bind (on1 (m_law_is_integer))).bind asB).map fun b_49 => !b_49).bind fun c_54 => if c_54 = true then some true else ((some many_44).bind fun t52 => (((some due_41).bind fun x_50 => (some []).bind fun xs_51 => some (x_50 :: xs_51)).bind (on1 dLen)).bind fun t53 => (dNeF t52 t53).bind asB)).bind fun c_55 => if c_55 = true then (some (.bl false)) else ((((((some due_41).bind fun x_56 => (some []).bind fun xs_57 => some (x_56 :: xs_57)).bind (on1 dLen)).bind dRng1).bind fun xs => forF (γ := Empty) (fun x_88 (b_58 : Unit) => (some x_88).bind fun c_59 => ((((some passed_38).bind fun x_67 => (((((some due_41).bind fun t61 => (some c_59).bind fun t62 => dIx t61 t62).bind fun x_63 => (some []).bind fun xs_64 => some (x_63 :: xs_64)).bind (on1 dList)).bind fun x_65 => (some []).bind fun xs_66 => some (x_65 :: xs_66)).bind fun xs_68 => some (x_67 :: xs_68)).bind (on2 (m_place))).bind fun found_60 => (((((((some found_60).bind fun x_69 => (some []).bind fun xs_70 => some (x_69 :: xs_70)).bind (on1 (m_law_is_integer))).bind asB).map fun b_71 => !b_71).bind fun c_86 => if c_86 = true then some true else (((some found_60).bind fun t72 => (some c_59).bind fun t73 => (dNeF t72 t73).bind asB).bind fun c_85 => if c_85 = true then some true else (((((((some passed_38).bind fun x_76 => ((some c_59).bind fun x_74 => (some []).bind fun xs_75 => some (x_74 :: xs_75)).bind fun xs_77 => some (x_76 :: xs_77)).bind (on2 (m_row_at))).bind fun x_82 => (((some due_41).bind fun t78 => (some c_59).bind fun t79 => dIx t78 t79).bind fun x_80 => (some []).bind fun xs_81 => some (x_80 :: xs_81)).bind fun xs_83 => some (x_82 :: xs_83)).bind (on2 (m_law_same 12))).bind asB).map fun b_84 => !b_84))).bind fun c_87 => if c_87 = true then ((((some (.bl false)).map Fl.rt) : Option (Fl Empty (Unit)))).bind (flE (β := Unit)) else (some (Fl.nx ()))))) xs ()).bind (flT fun s_89 => (((some passed_38).bind fun x_92 => ((some s_37).bind fun x_90 => (some []).bind fun xs_91 => some (x_90 :: xs_91)).bind fun xs_93 => some (x_92 :: xs_93)).bind (on2 (m_law_same 12))))))))))))
theorem ok_law {fa : Addr} {fd : FuncData} (F : Fun K "law" "law" s_law fa fd) (hm : mg "law" = some (.ref fa)) (hb : Binds K fd ["_law_script"] []) (bl : Bi mg) {f0 : Addr} {fd0 : FuncData} (C_law_row : Con P w K cl mg base 1 "_law_row" (on3 (m_law_row)) f0 fd0 ["_law_script", "_law_place", "_law_many"]) {f1 : Addr} {fd1 : FuncData} (C_law_rows : Con P w K cl mg base 1 "_law_rows" (on1 (m_law_rows)) f1 fd1 ["_law_bounds"]) {f2 : Addr} {fd2 : FuncData} (C_size : Con P w K cl mg base 1 "size" (on1 (m_size)) f2 fd2 ["bounds"]) {f3 : Addr} {fd3 : FuncData} (C_law_same : Con P w K cl mg base 14 "_law_same" (on2 (m_law_same 12)) f3 fd3 ["_law_actual", "_law_due"]) {f4 : Addr} {fd4 : FuncData} (C_place : Con P w K cl mg base 1 "place" (on2 (m_place)) f4 fd4 ["bounds", "row"]) {f5 : Addr} {fd5 : FuncData} (C_law_size : Con P w K cl mg base 1 "_law_size" (on1 (m_law_size)) f5 fd5 ["_law_bounds"]) {f6 : Addr} {fd6 : FuncData} (C_law_is_integer : Con P w K cl mg base 1 "_law_is_integer" (on1 (m_law_is_integer)) f6 fd6 ["_law_x"]) {f7 : Addr} {fd7 : FuncData} (C_row_at : Con P w K cl mg base 1 "row_at" (on2 (m_row_at)) f7 fd7 ["bounds", "at"]) : Con P w K cl mg base 15 "law" (on1 (m_law)) fa fd ["_law_script"] := by
  refine fun_con (k := 14) F sc_law rfl ar1 hm hb (fun cdv A outer s H E hr => ?_)
  have nd := sc_law.nd
  refine ⟨_, (pss_cons (ps_set (i := 1) nd rfl (by first | exact Or.inl rfl | exact Or.inr rfl) (pe_call C_law_row.ok (hr.mono (by omega)) (by rfl) C_law_row.mg C_law_row.kp C_law_row.bd .nil pass0 (pa_cons (pv 0) (pa_cons pe_int (pa_cons pe_int pa_nil))))) (pss_cons (ps_set (i := 2) nd rfl (by first | exact Or.inl rfl | exact Or.inr rfl) (pe_lst pa_nil)) (pss_cons (ps_for PassesOwn.never rfl (pi_range1 (by rfl) bl.range (pa_cons (pe_op op_mod (pe_callTy call_int1 (by rfl) bl.int (by decide +kernel) (pa_cons (pe_ix ix_seq (pv 1) pe_int (fun _ _ => rfl)) pa_nil)) pe_int) pa_nil)) (pg_name (i := 3) nd rfl (by first | exact Or.inl rfl | exact Or.inr rfl)) (pss_cons (ps_if (pt_cmpR op_le (pe_call C_law_size.ok (hr.mono (by omega)) (by rfl) C_law_size.mg C_law_size.kp C_law_size.bd .nil pass0 (pa_cons (pv 2) pa_nil)) pe_int (nomark _)) (pss_cons (ps_expr (pe_bm PySem.F.plainAttrs_list PySem.F.slot_list_append PySem.F.type_list_append mt_append (pv 2) (pa_cons (pe_op op_addD pe_int (pe_op op_mod (pe_callTy call_int1 (by rfl) bl.int (by decide +kernel) (pa_cons (pe_ix ix_seq (pv 1) (pe_op op_addD pe_int (pv 3)) (fun _ _ => rfl)) pa_nil)) pe_int)) pa_nil))) pss_nil) pss_nil) pss_nil)) (pss_cons (ps_set (i := 4) nd rfl (by first | exact Or.inl rfl | exact Or.inr rfl) (pe_callTy call_list_of (by rfl) bl.list (by decide +kernel) (pa_cons (pv 2) pa_nil))) (pss_cons (ps_set (i := 5) nd rfl (by first | exact Or.inl rfl | exact Or.inr rfl) (pe_call C_law_rows.ok (hr.mono (by omega)) (by rfl) C_law_rows.mg C_law_rows.kp C_law_rows.bd .nil pass0 (pa_cons (pv 2) pa_nil))) (pss_cons (ps_set (i := 6) nd rfl (by first | exact Or.inl rfl | exact Or.inr rfl) (pe_call C_size.ok (hr.mono (by omega)) (by rfl) C_size.mg C_size.kp C_size.bd .nil pass0 (pa_cons (pv 4) pa_nil))) (pss_cons (ps_if (PW.pt (pw_or (pt_not (pt_val (pe_call C_law_is_integer.ok (hr.mono (by omega)) (by rfl) C_law_is_integer.mg C_law_is_integer.kp C_law_is_integer.bd .nil pass0 (pa_cons (pv 6) pa_nil)))) (pw_or1 (pt_cmpR op_ne (pv 6) (pe_callB call_lenD (by rfl) bl.len (by decide +kernel) (pa_cons (pv 5) pa_nil)) (nomark _))))) (pss_cons (ps_ret pe_bl) pss_never) pss_nil) (pss_cons (ps_for PassesOwn.never rfl (pi_range1 (by rfl) bl.range (pa_cons (pe_callB call_lenD (by rfl) bl.len (by decide +kernel) (pa_cons (pv 5) pa_nil)) pa_nil)) (pg_name (i := 7) nd rfl (by first | exact Or.inl rfl | exact Or.inr rfl)) (pss_cons (ps_set (i := 8) nd rfl (by first | exact Or.inl rfl | exact Or.inr rfl) (pe_call C_place.ok (hr.mono (by omega)) (by rfl) C_place.mg C_place.kp C_place.bd .nil pass0 (pa_cons (pv 4) (pa_cons (pe_callTy call_list_of (by rfl) bl.list (by decide +kernel) (pa_cons (pe_ix ix_seq (pv 5) (pv 7) (fun _ _ => rfl)) pa_nil)) pa_nil)))) (pss_cons (ps_if (PW.pt (pw_or (pt_not (pt_val (pe_call C_law_is_integer.ok (hr.mono (by omega)) (by rfl) C_law_is_integer.mg C_law_is_integer.kp C_law_is_integer.bd .nil pass0 (pa_cons (pv 8) pa_nil)))) (pw_or (pt_cmpR op_ne (pv 8) (pv 7) (nomark _)) (pw_or1 (pt_not (pt_val (pe_call C_law_same.ok (hr.mono (by omega)) (by rfl) C_law_same.mg C_law_same.kp C_law_same.bd .nil pass0 (pa_cons (pe_call C_row_at.ok (hr.mono (by omega)) (by rfl) C_row_at.mg C_row_at.kp C_row_at.bd .nil pass0 (pa_cons (pv 4) (pa_cons (pv 7) pa_nil))) (pa_cons (pe_ix ix_seq (pv 5) (pv 7) (fun _ _ => rfl)) pa_nil))))))))) (pss_cons (ps_ret pe_bl) pss_never) pss_nil) pss_nil))) (pss_cons (ps_ret (pe_call C_law_same.ok (hr.mono (by omega)) (by rfl) C_law_same.mg C_law_same.kp C_law_same.bd .nil pass0 (pa_cons (pv 4) (pa_cons (pv 2) pa_nil)))) pss_never))))))))), ?_⟩
  exact all1 fun script_1 => (tv_cons (sv_asg (i := 1) (ev_call (ea_cons (ev_v (i := 0) (d := script_1) rfl) (ea_cons ev_int (ea_cons ev_int ea_nil))))) (fun row_here_2 => (tv_cons (sv_asgN (i := 2) (evn_lst ea_nil)) (fun bounds_9 => (tv_cons (sv_for (f := some) (inv := (fun (b : D) => [.vl script_1, .vl row_here_2, .ow b, .jk, .jk, .jk, .jk, .jk, .jk])) bounds_9 (iv_rng1 (ev_op o_mod (ev_cb o_int (ea_cons (ev_op o_ix (ev_v (i := 1) (d := row_here_2) rfl) ev_int) ea_nil)) ev_int)) (.same (.same (.same (.same (.same (.same (.same (.same (.same .nil))))))))) gv_name (fun c_17 b_16 => (sv_cons (sv_if (post := (fun (b : D) => [.vl script_1, .vl row_here_2, .ow b, .vl c_17, .jk, .jk, .jk, .jk, .jk])) (et_lend (i := 2) (d := b_16) rfl (et_op o_le (ev_call (ea_cons (ev_v (i := 2) (d := b_16) rfl) ea_nil)) ev_int)) (sv_cons (sv_app (i := 2) (d := b_16) rfl rfl (ev_op o_add ev_int (ev_op o_mod (ev_cb o_int (ea_cons (ev_op o_ix (ev_v (i := 1) (d := row_here_2) rfl) (ev_op o_add ev_int (ev_v (i := 3) (d := c_17) rfl))) ea_nil)) ev_int))) (fun bounds_35 => (sv_nil bounds_35 (.same (.same (.same (.same (.same (.same (.same (.same (.same .nil)))))))))))) (sv_nil b_16 (.same (.same (.same (.same (.same (.same (.same (.same (.same .nil))))))))))) (fun s_23 => (sv_nil s_23 (.same (.same (.same (.drop (.same (.same (.same (.same (.same .nil)))))))))))))) (fun s_37 => (tv_cons (sv_asg (i := 4) (ev_pre (i := 2) (d := s_37) rfl ((evn_cb o_list (ea_cons (ev_v (i := 2) (d := s_37) rfl) ea_nil))).ev)) (fun passed_38 => (tv_cons (sv_asg (i := 5) (ev_call (ea_cons (ev_v (i := 2) (d := s_37) rfl) ea_nil))) (fun due_41 => (tv_cons (sv_asg (i := 6) (ev_call (ea_cons (ev_v (i := 4) (d := passed_38) rfl) ea_nil))) (fun many_44 => (tv_ifl (et_or (et_not (et_B (ev_call (ea_cons (ev_v (i := 6) (d := many_44) rfl) ea_nil)))) (et_op o_neF (ev_v (i := 6) (d := many_44) rfl) (ev_cb o_len (ea_cons (ev_v (i := 5) (d := due_41) rfl) ea_nil)))) (tv_ret ev_bl) (tv_flow (out := fun c => nomatch c) (fv_for (γ := Empty) (f := some) (inv := (fun (b : Unit) => [.vl script_1, .vl row_here_2, .vl s_37, .jk, .vl passed_38, .vl due_41, .vl many_44, .jk, .jk])) () (iv_rng1 (ev_cb o_len (ea_cons (ev_v (i := 5) (d := due_41) rfl) ea_nil))) (.same (.same (.same (.same (.same (.same (.same (.same (.same .nil))))))))) gv_name (fun c_59 b_58 => (fv_cons (sv_asg (i := 8) (ev_call (ea_cons (ev_v (i := 4) (d := passed_38) rfl) (ea_cons ((evn_cb o_list (ea_cons (ev_op o_ix (ev_v (i := 5) (d := due_41) rfl) (ev_v (i := 7) (d := c_59) rfl)) ea_nil))).ev ea_nil)))) (fun found_60 => (fv_ifl (post0 := fun _ => []) (et_or (et_not (et_B (ev_call (ea_cons (ev_v (i := 8) (d := found_60) rfl) ea_nil)))) (et_or (et_op o_neF (ev_v (i := 8) (d := found_60) rfl) (ev_v (i := 7) (d := c_59) rfl)) (et_not (et_B (ev_call (ea_cons (ev_call (ea_cons (ev_v (i := 4) (d := passed_38) rfl) (ea_cons (ev_v (i := 7) (d := c_59) rfl) ea_nil))) (ea_cons (ev_op o_ix (ev_v (i := 5) (d := due_41) rfl) (ev_v (i := 7) (d := c_59) rfl)) ea_nil))))))) (fv_ret ev_bl) (fv_nil () (.same (.same (.same (.same (.same (.same (.same (.drop (.drop .nil))))))))))))))) (fun s_89 => (tv_ret (ev_call (ea_cons (ev_v (i := 4) (d := passed_38) rfl) (ea_cons (ev_v (i := 2) (d := s_37) rfl) ea_nil)))))))))))))))))))
end
theorem all_mk {l : PySem.W.OpenLaw} {w : World} {K : PySem.W.Frag} {h : Heap} {mg : Str → Option Value} {fa f0 f1 f2 f3 f4 f5 f6 f7 f8 : Addr} (X : K.In h) (G : h.Ns mainGlobals mg) (hfa : mg "law" = some (.ref fa))
    {od0 an0 od1 an1 od2 an2 od3 an3 od4 an4 od5 an5 od6 an6 od7 an7 od8 an8 : Option Addr} {sl0 sl1 sl2 sl3 sl4 sl5 sl6 sl7 sl8 : Array (Option Value)} {oc0 kV0 dc0 pm0 cd0 ct0 oc1 kV1 dc1 pm1 cd1 ct1 oc2 kV2 dc2 pm2 cd2 ct2 oc3 kV3 dc3 pm3 cd3 ct3 oc4 kV4 dc4 pm4 cd4 ct4 oc5 kV5 dc5 pm5 cd5 ct5 oc6 kV6 dc6 pm6 cd6 ct6 oc7 kV7 dc7 pm7 cd7 ct7 oc8 kV8 dc8 pm8 cd8 ct8 : Value}
    (a0 : PySem.W.nsIn K mainGlobals "_law_row" = some (some (.ref f0))) (l0 : K.lookup f0 = some ⟨oc0, od0, .func (PySem.W.fnOf "_law_row" "_law_row" (defArgs s_law_row) (defBody s_law_row) (defScope s_law_row) .none kV0 dc0 pm0 an0 cd0 ct0), sl0⟩) (c0 : PySem.W.codeIn K cd0 "_law_row" = true) (k0 : PySem.W.keepIn K (.ref f0) = true)
    (a1 : PySem.W.nsIn K mainGlobals "_law_rows" = some (some (.ref f1))) (l1 : K.lookup f1 = some ⟨oc1, od1, .func (PySem.W.fnOf "_law_rows" "_law_rows" (defArgs s_law_rows) (defBody s_law_rows) (defScope s_law_rows) .none kV1 dc1 pm1 an1 cd1 ct1), sl1⟩) (c1 : PySem.W.codeIn K cd1 "_law_rows" = true) (k1 : PySem.W.keepIn K (.ref f1) = true)
    (a2 : PySem.W.nsIn K mainGlobals "size" = some (some (.ref f2))) (l2 : K.lookup f2 = some ⟨oc2, od2, .func (PySem.W.fnOf "size" "size" (defArgs s_size) (defBody s_size) (defScope s_size) .none kV2 dc2 pm2 an2 cd2 ct2), sl2⟩) (c2 : PySem.W.codeIn K cd2 "size" = true) (k2 : PySem.W.keepIn K (.ref f2) = true)
    (a3 : PySem.W.nsIn K mainGlobals "_law_is_integer" = some (some (.ref f3))) (l3 : K.lookup f3 = some ⟨oc3, od3, .func (PySem.W.fnOf "_law_is_integer" "_law_is_integer" (defArgs s_law_is_integer) (defBody s_law_is_integer) (defScope s_law_is_integer) .none kV3 dc3 pm3 an3 cd3 ct3), sl3⟩) (c3 : PySem.W.codeIn K cd3 "_law_is_integer" = true) (k3 : PySem.W.keepIn K (.ref f3) = true)
    (a4 : PySem.W.nsIn K mainGlobals "_law_same" = some (some (.ref f4))) (l4 : K.lookup f4 = some ⟨oc4, od4, .func (PySem.W.fnOf "_law_same" "_law_same" (defArgs s_law_same) (defBody s_law_same) (defScope s_law_same) .none kV4 dc4 pm4 an4 cd4 ct4), sl4⟩) (c4 : PySem.W.codeIn K cd4 "_law_same" = true) (k4 : PySem.W.keepIn K (.ref f4) = true)
    (a5 : PySem.W.nsIn K mainGlobals "place" = some (some (.ref f5))) (l5 : K.lookup f5 = some ⟨oc5, od5, .func (PySem.W.fnOf "place" "place" (defArgs s_place) (defBody s_place) (defScope s_place) .none kV5 dc5 pm5 an5 cd5 ct5), sl5⟩) (c5 : PySem.W.codeIn K cd5 "place" = true) (k5 : PySem.W.keepIn K (.ref f5) = true)
    (a6 : PySem.W.nsIn K mainGlobals "_law_size" = some (some (.ref f6))) (l6 : K.lookup f6 = some ⟨oc6, od6, .func (PySem.W.fnOf "_law_size" "_law_size" (defArgs s_law_size) (defBody s_law_size) (defScope s_law_size) .none kV6 dc6 pm6 an6 cd6 ct6), sl6⟩) (c6 : PySem.W.codeIn K cd6 "_law_size" = true) (k6 : PySem.W.keepIn K (.ref f6) = true)
    (a7 : PySem.W.nsIn K mainGlobals "row_at" = some (some (.ref f7))) (l7 : K.lookup f7 = some ⟨oc7, od7, .func (PySem.W.fnOf "row_at" "row_at" (defArgs s_row_at) (defBody s_row_at) (defScope s_row_at) .none kV7 dc7 pm7 an7 cd7 ct7), sl7⟩) (c7 : PySem.W.codeIn K cd7 "row_at" = true) (k7 : PySem.W.keepIn K (.ref f7) = true)
    (a8 : PySem.W.nsIn K mainGlobals "law" = some (some (.ref f8))) (l8 : K.lookup f8 = some ⟨oc8, od8, .func (PySem.W.fnOf "law" "law" (defArgs s_law) (defBody s_law) (defScope s_law) .none kV8 dc8 pm8 an8 cd8 ct8), sl8⟩) (c8 : PySem.W.codeIn K cd8 "law" = true) (k8 : PySem.W.keepIn K (.ref f8) = true)
    (z_bool : PySem.W.nsIn K mainGlobals "bool" = some none) (z_int : PySem.W.nsIn K mainGlobals "int" = some none) (z_isinstance : PySem.W.nsIn K mainGlobals "isinstance" = some none) (z_len : PySem.W.nsIn K mainGlobals "len" = some none) (z_list : PySem.W.nsIn K mainGlobals "list" = some none) (z_range : PySem.W.nsIn K mainGlobals "range" = some none) (z_reversed : PySem.W.nsIn K mainGlobals "reversed" = some none) (z_str : PySem.W.nsIn K mainGlobals "str" = some none) (z_tuple : PySem.W.nsIn K mainGlobals "tuple" = some none) (z_zip : PySem.W.nsIn K mainGlobals "zip" = some none)
    (main : ∀ ns : List Int, ns.length ≤ 63 → m_law (.rol (ns.map D.int)) = some (.bl true)) :
    ∃ fd : FuncData, (∀ (s : Shared) (v : Value), BindsTo s fd ⟨[v], []⟩ [("_law_script", v)]) ∧ ∀ base : Heap, K.In base → base.Ns mainGlobals mg → FnOk l.prog w K mg base CX0 15 fa fd ["_law_script"] (spLaw K) := by
  have e := hfa.symm.trans (PySem.W.mg_of X G a8)
  cases e
  have F0 := fun_mk (st := s_law_row) l0 c0 k0
  have b0 := F0.binds (ps := ["_law_script", "_law_place", "_law_many"]) fun _ _ _ _ _ _ us hl => match us, hl with | [_, _, _], _ => rfl
  have F1 := fun_mk (st := s_law_rows) l1 c1 k1
  have b1 := F1.binds (ps := ["_law_bounds"]) fun _ _ _ _ _ _ us hl => match us, hl with | [_], _ => rfl
  have F2 := fun_mk (st := s_size) l2 c2 k2
  have b2 := F2.binds (ps := ["bounds"]) fun _ _ _ _ _ _ us hl => match us, hl with | [_], _ => rfl
  have F3 := fun_mk (st := s_law_is_integer) l3 c3 k3
  have b3 := F3.binds (ps := ["_law_x"]) fun _ _ _ _ _ _ us hl => match us, hl with | [_], _ => rfl
  have F4 := fun_mk (st := s_law_same) l4 c4 k4
  have b4 := F4.binds (ps := ["_law_actual", "_law_due"]) fun _ _ _ _ _ _ us hl => match us, hl with | [_, _], _ => rfl
  have F5 := fun_mk (st := s_place) l5 c5 k5
  have b5 := F5.binds (ps := ["bounds", "row"]) fun _ _ _ _ _ _ us hl => match us, hl with | [_, _], _ => rfl
  have F6 := fun_mk (st := s_law_size) l6 c6 k6
  have b6 := F6.binds (ps := ["_law_bounds"]) fun _ _ _ _ _ _ us hl => match us, hl with | [_], _ => rfl
  have F7 := fun_mk (st := s_row_at) l7 c7 k7
  have b7 := F7.binds (ps := ["bounds", "at"]) fun _ _ _ _ _ _ us hl => match us, hl with | [_, _], _ => rfl
  have F8 := fun_mk (st := s_law) l8 c8 k8
  have b8 := F8.binds (ps := ["_law_script"]) fun _ _ _ _ _ _ us hl => match us, hl with | [_], _ => rfl
  have bl : Bi mg := ⟨PySem.W.mg_none_of X G z_bool, PySem.W.mg_none_of X G z_int, PySem.W.mg_none_of X G z_isinstance, PySem.W.mg_none_of X G z_len, PySem.W.mg_none_of X G z_list, PySem.W.mg_none_of X G z_range, PySem.W.mg_none_of X G z_reversed, PySem.W.mg_none_of X G z_str, PySem.W.mg_none_of X G z_tuple, PySem.W.mg_none_of X G z_zip⟩
  refine ⟨PySem.W.fnOf "law" "law" (defArgs s_law) (defBody s_law) (defScope s_law) .none kV8 dc8 pm8 an8 cd8 ct8, fun s v => .of_eq rfl, fun base _ _ => ?_⟩
  have C0 := ok_law_row (P := l.prog) (w := w) (cl := fun _ => 0) (base := base) F0 (PySem.W.mg_of X G a0) b0 bl 
  have C1 := ok_law_rows (P := l.prog) (w := w) (cl := fun _ => 0) (base := base) F1 (PySem.W.mg_of X G a1) b1 bl 
  have C2 := ok_size (P := l.prog) (w := w) (cl := fun _ => 0) (base := base) F2 (PySem.W.mg_of X G a2) b2 bl 
  have C3 := ok_law_is_integer (P := l.prog) (w := w) (cl := fun _ => 0) (base := base) F3 (PySem.W.mg_of X G a3) b3 bl 
  have C4 := ok_law_same (P := l.prog) (w := w) (cl := fun _ => 0) (base := base) F4 (PySem.W.mg_of X G a4) b4 bl C3 12
  have C5 := ok_place (P := l.prog) (w := w) (cl := fun _ => 0) (base := base) F5 (PySem.W.mg_of X G a5) b5 bl 
  have C6 := ok_law_size (P := l.prog) (w := w) (cl := fun _ => 0) (base := base) F6 (PySem.W.mg_of X G a6) b6 bl 
  have C7 := ok_row_at (P := l.prog) (w := w) (cl := fun _ => 0) (base := base) F7 (PySem.W.mg_of X G a7) b7 bl 
  have C8 := ok_law (P := l.prog) (w := w) (cl := fun _ => 0) (base := base) F8 (PySem.W.mg_of X G a8) b8 bl C0 C1 C2 C4 C5 C6 C3 C7
  exact law_ok C8.ok main
end Oh
namespace Oh
open PySem L2

/-! ### the drawn row -/
theorem row_ok (ns : List Int) (p n : Nat) (hn : n ≤ 1000) : Ok (m_law_row (.rol (dis ns)) (.int p) (.int n)) (fun r => ∃ xs : List Int, r = .lst (dis xs) ∧ xs.length = n ∧ ∀ x ∈ xs, 0 ≤ x ∧ x < 1000) := by
  unfold m_law_row
  simp -implicitDefEqProofs only [Option.bind_some, on1, dLen, dAdd, dLt, dSub, asB, mul_l (a := 7919) (by decide : -(2 ^ 64) < (7919 : Int) ∧ (7919 : Int) < 2 ^ 64), pow_s (a := 10) (b := 18) (by decide), few_s (xs := []) (Nat.zero_le _), rng1_n (n := n) (by omega)]
  refine ok_bind (P := fun d => ∃ c, d = .int c) (ok_ite (fun h => ?_) (fun h => ok_some ⟨_, rfl⟩)) fun d ⟨c, e⟩ => ?_
  · have h2 : p < (dis ns).length := by have := of_decide_eq_true h; omega
    rw [dis_len] at h2
    simp -implicitDefEqProofs only [dIx]
    rw [atI_s (dis_get (List.getElem?_eq_getElem h2))]
    exact ok_some ⟨_, rfl⟩
  · subst e
    simp -implicitDefEqProofs only [Option.bind_some, dSub]
    refine ok_bind (P := fun b => ∃ xs : List Int, b.1 = .lst (dis xs) ∧ xs.length = n ∧ ∀ x ∈ xs, 0 ≤ x ∧ x < 1000) ?_ fun b ⟨xs, e, h⟩ => ok_some ⟨xs, e, h⟩
    refine forS_rng (fun i b => ∃ (xs : List Int) (r : Int), b = (.lst (dis xs), .int r) ∧ xs.length = i ∧ ∀ x ∈ xs, 0 ≤ x ∧ x < 1000) ⟨[], _, rfl, rfl, by simp⟩ (fun i b hi hp => ?_) (fun b ⟨xs, r, e, h⟩ => ⟨xs, by rw [e], h⟩)
    obtain ⟨xs, r, rfl, hl, hx⟩ := hp
    have grow : ∀ (z r' : Int), ∃ (ys : List Int) (r2 : Int), (D.lst (dis xs ++ [D.int (z % 1000)]), D.int r') = (D.lst (dis ys), D.int r2) ∧ ys.length = i + 1 ∧ ∀ x ∈ ys, 0 ≤ x ∧ x < 1000 := fun z r' => by
      refine ⟨xs ++ [z % 1000], r', by rw [dis_app], by simp [hl], fun x hx' => ?_⟩
      rcases List.mem_append.mp hx' with h | h
      · exact hx x h
      · rw [List.mem_singleton.mp h]; omega
    have hA : ∀ x : D, dApp (.lst (dis xs)) x = some (.lst (dis xs ++ [x])) := fun x => app_s (by rw [dis_len]; omega)
    simp -implicitDefEqProofs only [Option.bind_some, dGt, asB]
    refine ok_bind (P := fun s => ∃ (ys : List Int) (r2 : Int), s = (D.lst (dis ys), D.int r2) ∧ ys.length = i + 1 ∧ ∀ x ∈ ys, 0 ≤ x ∧ x < 1000) (ok_ite (fun h => ?_) (fun h => ?_)) fun s hs => ok_some hs
    · simp -implicitDefEqProofs only [Option.bind_some, on1, dInt, mod_p (b := 1000) (by decide), fdiv_s (b := 1000) (by decide) (by decide), hA]
      exact ok_some (grow _ _)
    · simp -implicitDefEqProofs only [Option.bind_some, on1, dInt, dAdd, mod_p (b := 2147483647) (by decide), mod_p (b := 2147483399) (by decide), mod_p (b := 1000) (by decide), fdiv_s (b := 64) (by decide) (by decide), mul_r (b := 48271) (by decide), mul_r (b := 69621) (by decide), mul_r (b := 16807) (by decide), mul_r (b := 40692) (by decide), hA]
      rw [mul_l (by have := Int.emod_lt_of_pos (c * 48271 + (0 + (i : Int)) * 69621 + 12345) (show (0 : Int) < 2147483647 by decide); have := Int.emod_nonneg (c * 48271 + (0 + (i : Int)) * 69621 + 12345) (show (2147483647 : Int) ≠ 0 by decide); omega)]
      simp -implicitDefEqProofs only [Option.bind_some, on1, dInt, dAdd, mod_p (b := 2147483399) (by decide), mod_p (b := 1000) (by decide), fdiv_s (b := 64) (by decide) (by decide), hA]
      exact ok_some (grow _ _)
end Oh
namespace Oh
open PySem L2
theorem same_ok : ∀ (n : Nat) (d : D), plain n d → m_law_same (n + 1) d d = some (.bl true) := by
  have lists : ∀ (n : Nat) (xs : List D) (mk : List D → D), (mk = .lst ∨ mk = .tup) → xs.length < 2 ^ 62 → (∀ x ∈ xs, m_law_same (n + 1) x x = some (.bl true)) → m_law_same (n + 2) (mk xs) (mk xs) = some (.bl true) := by
    intro n xs mk hmk hl ih
    have ix : ∀ (i : Nat) (x : D), xs[i]? = some x → dIx (mk xs) (.int (0 + (i : Nat))) = some x := fun i x h => by
      rcases hmk with rfl | rfl <;> exact atI_z (by omega) h
    have loop : ∀ {γ : Type}, forF (γ := γ) (fun x_32 (b_20 : Unit) => ((((dIx (mk xs) x_32).bind fun x_28 => ((dIx (mk xs) x_32).bind fun x_11 => some [x_11]).bind fun xs_29 => some (x_28 :: xs_29)).bind (on2 (m_law_same (n + 1)))).bind asB |>.map fun b => !b).bind fun c_31 => if c_31 = true then (((some (.bl false)).map Fl.rt : Option (Fl Empty Unit))).bind (flE (β := Unit)) else some (Fl.nx ())) (rngD 0 xs.length) () = some (.nx ()) := by
      intro γ
      refine ok_eq (forF_rng (fun _ _ => True) trivial (fun i b hi _ => ?_) (fun b _ => rfl))
      have hx : xs[i]? = some xs[i] := List.getElem?_eq_getElem hi
      rw [ix i _ hx]
      simp -implicitDefEqProofs only [Option.bind_some, on2]
      rw [ih _ (List.getElem_mem hi)]
      exact ok_some (.inl ⟨(), rfl, trivial⟩)
    have hlen : on1 dLen [mk xs] = some (.int xs.length) := by rcases hmk with rfl | rfl <;> rfl
    have hneq : dNeF (.int (xs.length : Int)) (.int (xs.length : Int)) = some (.bl false) := by
      show some (D.bl (!decide ((xs.length : Int) = xs.length))) = _
      rw [decide_eq_true rfl]; rfl
    rw [m_law_same]
    have tests : (((dIsi .list (mk xs)).bind asB).bind fun c_3 => if c_3 = true then some true else (dIsi .tuple (mk xs)).bind asB) = some true ∧ (((dIsi .list (mk xs)).bind fun t5 => (dIsi .list (mk xs)).bind fun t6 => (dNeF t5 t6).bind asB).bind fun c => if c = true then some true else (dIsi .tuple (mk xs)).bind fun t5 => (dIsi .tuple (mk xs)).bind fun t6 => (dNeF t5 t6).bind asB) = some false := by
      rcases hmk with rfl | rfl <;> exact ⟨rfl, rfl⟩
    simp -implicitDefEqProofs only [Option.bind_some, tests.1, tests.2, hlen, hneq, asB, rng1_n (n := xs.length) (by omega), if_true, loop, flT, Bool.false_eq_true, if_false]
  intro n
  induction n with
  | zero =>
    intro d hd
    cases d with
    | int i => show (dEq (.int i) (.int i)) = _; rw [dEq_int]; simp
    | bl b => show (dEq (.bl b) (.bl b)) = _; rw [dEq_bl]; simp
    | str x => show (dEq (.str x) (.str x)) = _; rw [dEq_str hd hd]; simp
    | _ => exact hd.elim
  | succ n ih =>
    intro d hd
    cases d with
    | int i => show (dEq (.int i) (.int i)) = _; rw [dEq_int]; simp
    | bl b => show (dEq (.bl b) (.bl b)) = _; rw [dEq_bl]; simp
    | str x => show (dEq (.str x) (.str x)) = _; rw [dEq_str hd hd]; simp
    | lst xs => exact lists n xs .lst (.inl rfl) hd.1 fun x hx => ih x (hd.2 x hx)
    | tup xs => exact lists n xs .tup (.inr rfl) hd.1 fun x hx => ih x (hd.2 x hx)
    | _ => exact hd.elim
end Oh
namespace Oh
open PySem L2
def prodN (bs : List Nat) : Nat := bs.foldl (fun a b => a * b) 1
def Good (bs : List Nat) : Prop := ∀ b ∈ bs, 1 ≤ b ∧ b ≤ 4
theorem small_mul {a b : Nat} (h : b ≤ 4) : dMul (dn a) (dn b) = some (dn (a * b)) := by
  show dMul (.int a) (.int b) = _
  rw [mul_r (by omega)]
  show _ = some (D.int ((a * b : Nat) : Int))
  rw [Int.natCast_mul]
theorem size_ok {bs : List Nat} (h : Good bs) : m_size (.lst (dns bs)) = some (dn (prodN bs)) := by
  unfold m_size
  simp -implicitDefEqProofs only [Option.bind_some, asL_l]
  have := (forS_foldl (k := fun (x_8 : D) (b_4 : D) => (some x_8).bind fun c_5 => (dMul b_4 c_5).bind fun many_6 => some many_6) dn dn (fun a b => a * b) (fun _ => True) (xs := bs) (s := 1) trivial (fun s x hx _ => ⟨by
    simp -implicitDefEqProofs only [Option.bind_some, small_mul (h x hx).2], trivial⟩)).1
  simp -implicitDefEqProofs only [Option.bind_some] at this
  have e1 : D.int 1 = dn 1 := rfl
  rw [e1, this]
  rfl
theorem lsize_ok {bs : List Nat} (h : Good bs) : m_law_size (.lst (dns bs)) = some (dn (prodN bs)) := by
  rw [← size_ok h]; rfl
/-! rows -/
def nextRows (found : List (List Nat)) (b : Nat) : List (List Nat) := found.flatMap fun r => (List.range b).map fun k => r ++ [k]
def rowsOf (bs : List Nat) : List (List Nat) := bs.foldl nextRows [[]]
abbrev drow (r : List Nat) : D := .lst (dns r)
abbrev drows (f : List (List Nat)) : D := .lst (f.map drow)
theorem nextRows_len (f : List (List Nat)) (b : Nat) : (nextRows f b).length = f.length * b := by
  unfold nextRows
  induction f with
  | nil => simp
  | cons r f ih => simp [List.flatMap_cons, ih, Nat.succ_mul, Nat.add_comm]
theorem prodN_snoc (bs : List Nat) (b : Nat) : prodN (bs ++ [b]) = prodN bs * b := by unfold prodN; rw [List.foldl_append]; rfl
theorem rowsOf_snoc (bs : List Nat) (b : Nat) : rowsOf (bs ++ [b]) = nextRows (rowsOf bs) b := by unfold rowsOf; rw [List.foldl_append]; rfl
theorem snoc_ind {P : List Nat → Prop} (h0 : P []) (hs : ∀ bs b, P bs → P (bs ++ [b])) : ∀ bs, P bs := by
  intro bs
  rw [← List.reverse_reverse bs]
  generalize bs.reverse = r
  induction r with
  | nil => exact h0
  | cons b r ih => rw [List.reverse_cons]; exact hs _ _ ih
theorem rowsOf_len : ∀ bs, (rowsOf bs).length = prodN bs := by
  refine snoc_ind rfl fun bs b ih => ?_
  rw [rowsOf_snoc, prodN_snoc, nextRows_len, ih]
theorem rowsOf_row_len : ∀ bs r, r ∈ rowsOf bs → r.length = bs.length := by
  refine snoc_ind ?_ fun bs b ih => ?_
  · intro r h
    have : r = [] := by simpa [rowsOf] using h
    rw [this]
  · intro r h
    rw [rowsOf_snoc] at h
    obtain ⟨q, hq, h⟩ := List.mem_flatMap.mp h
    obtain ⟨k, _, rfl⟩ := List.mem_map.mp h
    rw [List.length_append, ih q hq, List.length_append]; rfl
theorem next_get (f : List (List Nat)) (b i : Nat) (hb : 0 < b) (hi : i < f.length * b) : ∃ q, f[i / b]? = some q ∧ (nextRows f b)[i]? = some (q ++ [i % b]) := by
  induction f generalizing i with
  | nil => simp at hi
  | cons r f ih =>
    have e : nextRows (r :: f) b = ((List.range b).map fun k => r ++ [k]) ++ nextRows f b := by simp [nextRows, List.flatMap_cons]
    by_cases h : i < b
    · refine ⟨r, by rw [Nat.div_eq_of_lt h]; rfl, ?_⟩
      rw [e, List.getElem?_append_left (by simpa using h), List.getElem?_map, List.getElem?_range h, Nat.mod_eq_of_lt h]; rfl
    · have h' : b ≤ i := Nat.not_lt.mp h
      obtain ⟨q, h1, h2⟩ := ih (i - b) (by rw [List.length_cons, Nat.succ_mul] at hi; omega)
      refine ⟨q, ?_, ?_⟩
      · have : i / b = (i - b) / b + 1 := by
          rw [← Nat.sub_add_cancel h', Nat.add_div_right _ hb, Nat.sub_add_cancel h']
        rw [this]; exact h1
      · rw [e, List.getElem?_append_right (by simpa using h'), List.length_map, List.length_range, h2, Nat.mod_eq_sub_mod h']
theorem pre_le (bs : List Nat) (h : Good bs) (hp : prodN bs ≤ 1000) : ∀ pre, pre <+: bs → prodN pre ≤ 1000 := by
  intro pre ⟨suf, e⟩
  subst e
  have key : ∀ suf : List Nat, (∀ b ∈ suf, 1 ≤ b) → ∀ pre, prodN pre ≤ prodN (pre ++ suf) := by
    intro suf
    induction suf with
    | nil => intro _ pre; rw [List.append_nil]; exact Nat.le_refl _
    | cons b suf ih =>
      intro h pre
      have h1 := ih (fun c hc => h c (List.mem_cons_of_mem _ hc)) (pre ++ [b])
      rw [List.append_assoc] at h1
      have h2 : prodN pre ≤ prodN (pre ++ [b]) := by
        rw [prodN_snoc]
        exact Nat.le_mul_of_pos_right _ (h b List.mem_cons_self)
      exact Nat.le_trans h2 h1
  exact Nat.le_trans (key suf (fun b hb => (h b (List.mem_append_right _ hb)).1) pre) hp
theorem rows_ok {bs : List Nat} (h : Good bs) (hp : prodN bs ≤ 1000) (hl : bs.length ≤ 100) : m_law_rows (.lst (dns bs)) = some (drows (rowsOf bs)) := by
  unfold m_law_rows
  have f0 : few D.lst [] = some (D.lst []) := rfl
  have f1 : few D.lst [D.lst []] = some (drows [[]]) := rfl
  simp -implicitDefEqProofs only [Option.bind_some, f0, f1, asL_l]
  have e0 : Ok (forS (fun x_23 b_5 => Option.bind (Option.bind (asL b_5) fun xs => forS (fun x_20 b_8 => Option.bind (Option.bind (dRng1 x_23) fun xs => forS (fun x_18 b_10 => Option.bind (Option.bind (Option.bind (few D.lst [x_18]) fun t15 => dCat x_20 t15) fun t16 => dApp b_10 t16) fun longer_17 => some longer_17) xs b_8) fun longer_17 => some longer_17) xs (D.lst [])) fun longer_17 => some longer_17) (dns bs) (drows [[]])) (fun r => r = drows (rowsOf bs)) := by
    refine forS_ok (fun i b => b = drows (rowsOf (bs.take i))) rfl (fun i x b hx hb => ?_) (fun b hb => by rw [dns_len, List.take_length] at hb; exact hb)
    subst hb
    have hi : i < bs.length := by rw [← dns_len bs]; exact (List.getElem?_eq_some_iff.mp hx).1
    have hx2 := dns_get (List.getElem?_eq_getElem hi)
    rw [hx] at hx2
    cases hx2
    have hb := h bs[i] (List.getElem_mem hi)
    have et : bs.take (i + 1) = bs.take i ++ [bs[i]] := by rw [List.take_add_one, List.getElem?_eq_getElem hi]; rfl
    have h1 : prodN (bs.take (i + 1)) ≤ 1000 := pre_le bs h hp _ (List.take_prefix _ _)
    rw [et, prodN_snoc] at h1
    have hlr : (rowsOf (bs.take i)).length = prodN (bs.take i) := rowsOf_len _
    rw [et, rowsOf_snoc]
    generalize hf : rowsOf (bs.take i) = found at *
    generalize bs[i] = b at *
    have hrl : ∀ r ∈ found, r.length ≤ 100 := fun r hr => by
      rw [← hf] at hr
      have := rowsOf_row_len _ r hr
      rw [this]
      have := List.length_take_le i bs
      omega
    simp -implicitDefEqProofs only [Option.bind_some, asL_l, rng1_n (n := b) (by omega)]
    refine ok_bind (P := fun d => d = drows (nextRows found b)) ?_ (fun d e => ok_some e)
    refine forS_ok (fun j d => d = drows (nextRows (found.take j) b)) rfl (fun j x d hx hd => ?_) (fun d hd => by rw [List.length_map, List.take_length] at hd; exact hd)
    subst hd
    have hj : j < found.length := by have := (List.getElem?_eq_some_iff.mp hx).1; rw [List.length_map] at this; exact this
    rw [List.getElem?_map, List.getElem?_eq_getElem hj] at hx
    cases hx
    have hrj := hrl _ (List.getElem_mem hj)
    have ej : found.take (j + 1) = found.take j ++ [found[j]] := by rw [List.take_add_one, List.getElem?_eq_getElem hj]; rfl
    have en : nextRows (found.take (j + 1)) b = nextRows (found.take j) b ++ (List.range b).map fun k => found[j] ++ [k] := by
      unfold nextRows
      rw [ej, List.flatMap_append, List.flatMap_cons, List.flatMap_nil, List.append_nil]
    have hsz : (nextRows (found.take j) b).length ≤ 1000 := by
      rw [nextRows_len]
      have : (found.take j).length ≤ found.length := List.length_take_le' j found
      rw [hlr] at this
      exact Nat.le_trans (Nat.mul_le_mul_right b this) h1
    rw [en]
    generalize nextRows (found.take j) b = pre at *
    generalize found[j] = r at *
    refine ok_bind (P := fun d => d = drows (pre ++ (List.range b).map fun k => r ++ [k])) ?_ (fun d e => ok_some e)
    refine forS_rng (fun k d => d = drows (pre ++ (List.range k).map fun k => r ++ [k])) (by simp) (fun k d hk hd => ?_) (fun d hd => hd)
    subst hd
    have g1 : few D.lst [D.int (0 + (k : Nat))] = some (.lst (dns [k])) := by
      rw [few1]
      show some (D.lst [D.int (0 + (k : Int))]) = some (D.lst [D.int (k : Int)])
      rw [Int.zero_add]
    have g2 : dCat (drow r) (.lst (dns [k])) = some (drow (r ++ [k])) := by
      show dCat (.lst (dns r)) _ = _
      rw [cat_s (by rw [dns_len, dns_len]; show r.length + 1 ≤ 100000; omega), ← List.map_append]
    have g3 : dApp (drows (pre ++ (List.range k).map fun k => r ++ [k])) (drow (r ++ [k])) = some (drows (pre ++ (List.range (k + 1)).map fun k => r ++ [k])) := by
      show dApp (.lst _) _ = _
      rw [app_s (by rw [List.length_map, List.length_append, List.length_map, List.length_range]; omega)]
      simp [List.range_succ]
    simp -implicitDefEqProofs only [Option.bind_some, g1, g2, g3]
    exact ok_some rfl
  rw [ok_eq e0]
  rfl
/-! place, row_at -/
def placeOf (bs row : List Nat) : Nat := (bs.zip row).foldl (fun a p => a * p.1 + p.2) 0
theorem place_ok {bs row : List Nat} (h : Good bs) : m_place (.lst (dns bs)) (.lst (dns row)) = some (dn (placeOf bs row)) := by
  unfold m_place
  have ez : List.zipWith (fun a b => D.tup [a, b]) (dns bs) (dns row) = (bs.zip row).map fun p => D.tup [dn p.1, dn p.2] := by
    rw [List.zipWith_map, List.zip, List.map_zipWith]
  simp -implicitDefEqProofs only [Option.bind_some, asL_l, ez]
  have := (forS_foldl (k := fun (x_12 : D) (b_5 : D) => (dUn2 x_12).bind fun c_6 => ((dMul b_5 c_6.1).bind fun t9 => dAdd t9 c_6.2).bind fun at_7 => some at_7) (fun p : Nat × Nat => D.tup [dn p.1, dn p.2]) dn (fun a p => a * p.1 + p.2) (fun _ => True) (xs := bs.zip row) (s := 0) trivial (fun s x hx _ => ⟨by
    have hb := h x.1 (List.of_mem_zip hx).1
    simp -implicitDefEqProofs only [Option.bind_some, dUn2, small_mul hb.2, dAdd]
    rfl, trivial⟩)).1
  have e1 : D.int 0 = dn 0 := rfl
  rw [e1, this]
  rfl
/-- the digits, last first -/
def digs : List Nat → Nat → List Nat
  | [], _ => []
  | b :: rs, at_ => (at_ % b) :: digs rs (at_ / b)
def rowAt (bs : List Nat) (i : Nat) : List Nat := (digs bs.reverse i).reverse
theorem rowAt_snoc (bs : List Nat) (b i : Nat) : rowAt (bs ++ [b]) i = rowAt bs (i / b) ++ [i % b] := by
  unfold rowAt
  rw [List.reverse_append]
  show ((i % b) :: digs bs.reverse (i / b)).reverse = _
  rw [List.reverse_cons]
theorem digs_len : ∀ (rs : List Nat) (i : Nat), (digs rs i).length = rs.length
  | [], _ => rfl
  | _ :: rs, i => congrArg (· + 1) (digs_len rs _)
theorem row_at_ok {bs : List Nat} (h : Good bs) (hl : bs.length ≤ 100) (i : Nat) : m_row_at (.lst (dns bs)) (dn i) = some (drow (rowAt bs i)) := by
  unfold m_row_at
  have f0 : few D.lst [] = some (D.lst []) := rfl
  have er : (dns bs).reverse = dns bs.reverse := by rw [← List.map_reverse]
  simp -implicitDefEqProofs only [Option.bind_some, asL_l, f0, Option.map_some, er]
  have hr : ∀ b ∈ bs.reverse, 1 ≤ b ∧ b ≤ 4 := fun b hb => h b (List.mem_reverse.mp hb)
  have hlr : bs.reverse.length ≤ 100 := by rw [List.length_reverse]; exact hl
  have key : ∀ (rs pre : List Nat) (i : Nat), (∀ b ∈ rs, 1 ≤ b ∧ b ≤ 4) → pre.length + rs.length ≤ 100 →
      ∃ d, forS (fun x_14 (b_5 : D × D) => Option.bind (Option.bind (dMod b_5.2 x_14) fun t9 => dApp b_5.1 t9) fun row_10 => Option.bind (dFdiv b_5.2 x_14) fun at_11 => some (row_10, at_11)) (dns rs) (.lst (dns pre), dn i) = some (.lst (dns (pre ++ digs rs i)), d) := by
    intro rs
    induction rs with
    | nil => intro pre i _ _; exact ⟨dn i, by rw [digs, List.append_nil]; rfl⟩
    | cons b rs ih =>
      intro pre i hb hz
      have hb1 := hb b List.mem_cons_self
      rw [List.length_cons] at hz
      obtain ⟨d, hd⟩ := ih (pre ++ [i % b]) (i / b) (fun c hc => hb c (List.mem_cons_of_mem _ hc)) (by rw [List.length_append]; show pre.length + 1 + _ ≤ _; omega)
      refine ⟨d, ?_⟩
      have g1 : dMod (dn i) (dn b) = some (dn (i % b)) := by
        show dMod (.int i) (.int b) = _
        rw [mod_p (by omega)]
        show _ = some (D.int ((i % b : Nat) : Int))
        rw [Int.natCast_emod]
      have g2 : dFdiv (dn i) (dn b) = some (dn (i / b)) := by
        show dFdiv (.int i) (.int b) = _
        rw [fdiv_s (by omega) (by omega)]
        show _ = some (D.int ((i / b : Nat) : Int))
        rw [Int.natCast_ediv]
      show Option.bind (Option.bind (Option.bind (dMod (dn i) (dn b)) fun t9 => dApp (.lst (dns pre)) t9) fun row_10 => Option.bind (dFdiv (dn i) (dn b)) fun at_11 => some (row_10, at_11)) (forS _ (dns rs)) = _
      rw [g1, g2]
      simp -implicitDefEqProofs only [Option.bind_some]
      rw [app_s (by rw [dns_len]; omega)]
      simp -implicitDefEqProofs only [Option.bind_some, dns_app]
      rw [hd, List.append_assoc]
      rfl
  obtain ⟨d, hd⟩ := key bs.reverse [] i hr (by simpa using hlr)
  have hd' : forS (fun x_14 (b_5 : D × D) => Option.bind (Option.bind (dMod b_5.2 x_14) fun t9 => dApp b_5.1 t9) fun row_10 => Option.bind (dFdiv b_5.2 x_14) fun at_11 => some (row_10, at_11)) (dns bs.reverse) (.lst [], dn i) = some (.lst (dns (digs bs.reverse i)), d) := hd
  rw [hd']
  show dRevL (.lst (dns (digs bs.reverse i))) = _
  show some (D.lst (dns (digs bs.reverse i)).reverse) = some (D.lst (dns (digs bs.reverse i).reverse))
  rw [← List.map_reverse]
/-- each index has its row -/
theorem rows_get : ∀ bs, Good bs → ∀ i, i < prodN bs → (rowsOf bs)[i]? = some (rowAt bs i) := by
  refine snoc_ind ?_ fun bs b ih => ?_
  · intro _ i hi
    have : i = 0 := by have : prodN [] = 1 := rfl; omega
    subst this; rfl
  · intro h i hi
    have hb := h b (List.mem_append_right _ List.mem_cons_self)
    have hg : Good bs := fun c hc => h c (List.mem_append_left _ hc)
    rw [prodN_snoc] at hi
    rw [rowsOf_snoc, rowAt_snoc]
    obtain ⟨q, h1, h2⟩ := next_get (rowsOf bs) b i (by omega) (by rw [rowsOf_len]; exact hi)
    rw [h2]
    rw [ih hg (i / b) (Nat.div_lt_of_lt_mul (by rw [Nat.mul_comm]; exact hi))] at h1
    cases h1
    rfl
theorem place_rowAt : ∀ bs, Good bs → ∀ i, i < prodN bs → placeOf bs (rowAt bs i) = i := by
  refine snoc_ind ?_ fun bs b ih => ?_
  · intro _ i hi
    have : i = 0 := by have : prodN [] = 1 := rfl; omega
    subst this; rfl
  · intro h i hi
    have hb := h b (List.mem_append_right _ List.mem_cons_self)
    have hg : Good bs := fun c hc => h c (List.mem_append_left _ hc)
    rw [prodN_snoc] at hi
    have := ih hg (i / b) (Nat.div_lt_of_lt_mul (by rw [Nat.mul_comm]; exact hi))
    rw [rowAt_snoc]
    unfold placeOf at this ⊢
    rw [List.zip_append (by unfold rowAt; rw [List.length_reverse, digs_len, List.length_reverse]), List.foldl_append, this]
    show i / b * b + i % b = i
    exact Nat.div_add_mod' i b
end Oh
namespace Oh
open PySem L2
theorem bounds_step {bs : List Nat} {i : Nat} (hg : Good bs) (hp : prodN bs ≤ 64) (x : Int) (hx : 0 ≤ x) : Good (bs ++ [1 + (x % 4).toNat]) ∧ prodN (bs ++ [1 + (x % 4).toNat]) ≤ 256 := by
  have h4 : 1 + (x % 4).toNat ≤ 4 := by omega
  refine ⟨fun b hb => ?_, ?_⟩
  · rcases List.mem_append.mp hb with h | h
    · exact hg b h
    · rw [List.mem_singleton.mp h]; omega
  · rw [prodN_snoc]
    exact Nat.le_trans (Nat.mul_le_mul hp h4) (by decide)
theorem plain_dns (n : Nat) (xs : List Nat) (h : xs.length < 2 ^ 62) : plain (n + 1) (.lst (dns xs)) := by
  refine ⟨by rw [dns_len]; exact h, fun x hx => ?_⟩
  obtain ⟨y, _, rfl⟩ := List.mem_map.mp hx
  cases n <;> trivial
theorem main_law : ∀ ns : List Int, ns.length ≤ 63 → m_law (.rol (ns.map D.int)) = some (.bl true) := by
  intro ns _
  refine ok_eq ?_
  unfold m_law
  simp -implicitDefEqProofs only [Option.bind_some, on3_s, few0]
  have hrow : Ok (m_law_row (.rol (dis ns)) (.int 0) (.int 8)) (fun r => ∃ xs : List Int, r = .lst (dis xs) ∧ xs.length = 8 ∧ ∀ x ∈ xs, 0 ≤ x ∧ x < 1000) := row_ok ns 0 8 (by decide)
  refine ok_bind (P := fun r => ∃ xs : List Int, r = .lst (dis xs) ∧ xs.length = 8 ∧ ∀ x ∈ xs, 0 ≤ x ∧ x < 1000) hrow fun r ⟨xs, er, hl, hx⟩ => ?_
  subst er
  have get : ∀ i : Nat, i < 8 → ∃ x, xs[i]? = some x ∧ 0 ≤ x ∧ x < 1000 := fun i hi => ⟨xs[i], List.getElem?_eq_getElem (by omega), hx _ (List.getElem_mem (by omega))⟩
  obtain ⟨x0, g0, h0, _⟩ := get 0 (by decide)
  have ix : ∀ (i : Nat) (z x : Int), z = i → xs[i]? = some x → dIx (.lst (dis xs)) (.int z) = some (.int x) := fun i z x e h => atI_z e (dis_get h)
  simp -implicitDefEqProofs only [ix 0 0 x0 rfl g0, Option.bind_some, on1_s, int_i, mod_p (b := 7) (by decide), rng1_s (n := x0 % 7) (by omega) (by omega)]
  refine ok_bind (P := fun d => ∃ bs : List Nat, d = .lst (dns bs) ∧ Good bs ∧ prodN bs ≤ 256 ∧ bs.length ≤ 7) ?_ fun d ⟨bs, ed, hg, hp, hbl⟩ => ?_
  · refine forS_rng (fun i d => ∃ bs : List Nat, d = .lst (dns bs) ∧ Good bs ∧ prodN bs ≤ 256 ∧ bs.length ≤ i) ⟨[], rfl, (fun b hb => by cases hb), (by show 1 ≤ 256; decide), Nat.le_refl _⟩ (fun i d hi ⟨bs, ed, hg, hp, hbl⟩ => ?_) (fun d ⟨bs, h1, h2, h3, h4⟩ => ⟨bs, h1, h2, h3, by omega⟩)
    subst ed
    simp -implicitDefEqProofs only [on1_s, lsize_ok hg, Option.bind_some, le_i, asB_b, add_i]
    refine ok_bind (P := fun d => ∃ bs : List Nat, d = .lst (dns bs) ∧ Good bs ∧ prodN bs ≤ 256 ∧ bs.length ≤ i + 1) (ok_ite (fun hc => ?_) (fun hc => ok_some ⟨bs, rfl, hg, hp, by omega⟩)) fun d h => ok_some h
    obtain ⟨x, g, hx0, _⟩ := get (1 + i) (by omega)
    have hc' : prodN bs ≤ 64 := by have := of_decide_eq_true hc; omega
    obtain ⟨s1, s2⟩ := bounds_step (i := i) hg hc' x hx0
    have es : (1 + x % 4 : Int) = ((1 + (x % 4).toNat : Nat) : Int) := by omega
    simp -implicitDefEqProofs only [ix (1 + i) (1 + (0 + (i : Int))) x (by omega) g, Option.bind_some, on1_s, int_i, mod_p (b := 4) (by decide), add_i]
    rw [es, app_s (by rw [dns_len]; omega)]
    refine ok_some ⟨bs ++ [1 + (x % 4).toNat], by rw [← dns_app], s1, s2, by rw [List.length_append]; exact Nat.succ_le_succ hbl⟩
  · subst ed
    have hR : (rowsOf bs).length = prodN bs := rowsOf_len bs
    have hint : m_law_is_integer (dn (prodN bs)) = some (.bl true) := rfl
    simp -implicitDefEqProofs only [on1_s, list_l, Option.bind_some, rows_ok hg (by omega) (by omega), size_ok hg, hint, asB_b, Option.map_some, len_l, List.length_map, hR, neF_i, rng1_n (n := prodN bs) (by omega)]
    have e1 : (!decide ((prodN bs : Int) = (prodN bs : Int))) = false := by rw [decide_eq_true rfl]; rfl
    simp -implicitDefEqProofs only [Bool.not_true, Bool.false_eq_true, if_false, e1]
    refine ok_bind (P := fun f => f = Fl.nx ()) ?_ fun f ef => ?_
    · refine forF_rng (fun _ _ => True) trivial (fun i b hi _ => ?_) (fun b _ => rfl)
      have hget := rows_get bs hg i hi
      have hd : dIx (drows (rowsOf bs)) (.int (0 + (i : Int))) = some (drow (rowAt bs i)) := atI_z (i := i) (by omega) (by rw [List.getElem?_map, hget]; rfl)
      have ez : (D.int (0 + (i : Int))) = dn i := by rw [Int.zero_add]
      have hi2 : m_law_is_integer (dn i) = some (.bl true) := rfl
      have hsame : m_law_same 12 (drow (rowAt bs i)) (drow (rowAt bs i)) = some (.bl true) := same_ok 11 _ (plain_dns 10 (rowAt bs i) (by unfold rowAt; rw [List.length_reverse, digs_len, List.length_reverse]; omega))
      have e2 : dNeF (dn i) (dn i) = some (.bl false) := by show some (D.bl (!decide ((i : Int) = i))) = _; rw [decide_eq_true rfl]; rfl
      rw [ez] at hd ⊢
      simp -implicitDefEqProofs only [hd, Option.bind_some, on1_s, on2_s, list_l, place_ok hg, place_rowAt bs hg i hi, hi2, asB_b, Option.map_some, e2, row_at_ok hg (by omega : bs.length ≤ 100), hsame, Bool.not_true, Bool.false_eq_true, if_false]
      exact ok_some (.inl ⟨(), rfl, trivial⟩)
    · subst ef
      rw [flT_nx, on2_s, show m_law_same 12 (.lst (dns bs)) (.lst (dns bs)) = some (.bl true) from same_ok 11 _ (plain_dns 10 bs (by omega))]
      exact ok_some rfl
end Oh
open PySem PySem.W PyProof.Rows
set_option maxRecDepth 100000 in
set_option maxHeartbeats 0 in
theorem PySem.Challenge.cw_otherhow_k02_rows_and_their_indexes_holds : PySem.Challenge.rw_otherhow_k02_rows_and_their_indexes.Holds := by
  w_on; o_law; k_head; (case hw => w_witness2)
  k_fill
  refine L2.walk_of (l := PySem.Challenge.rw_otherhow_k02_rows_and_their_indexes) (n := 63) (k := 15) (x := "_law_script") (CX := fun _ => L2.CX0) (sp := fun w => Oh.spLaw _) rfl (by decide) rfl ⟨rfl, by decide, by decide⟩ (fun w h Y => PySem.W.kIn_of Y) ?F (fun _ _ a ns hl _ hS => ⟨a, ns, rfl, hS, hl, fun _ => rfl⟩) (fun _ _ _ _ _ h => h)
  case F =>
    intro w mg fa h KX G hmg
    refine' Oh.all_mk KX G hmg ?a0 ?l0 ?c0 ?k0 ?a1 ?l1 ?c1 ?k1 ?a2 ?l2 ?c2 ?k2 ?a3 ?l3 ?c3 ?k3 ?a4 ?l4 ?c4 ?k4 ?a5 ?l5 ?c5 ?k5 ?a6 ?l6 ?c6 ?k6 ?a7 ?l7 ?c7 ?k7 ?a8 ?l8 ?c8 ?k8 ?z_bool ?z_int ?z_isinstance ?z_len ?z_list ?z_range ?z_reversed ?z_str ?z_tuple ?z_zip Oh.main_law
    (case a0 => k_is); (case l0 => k_is); (case c0 => k_is); (case k0 => k_is); (case a1 => k_is); (case l1 => k_is); (case c1 => k_is); (case k1 => k_is); (case a2 => k_is); (case l2 => k_is); (case c2 => k_is); (case k2 => k_is); (case a3 => k_is); (case l3 => k_is); (case c3 => k_is); (case k3 => k_is); (case a4 => k_is); (case l4 => k_is); (case c4 => k_is); (case k4 => k_is); (case a5 => k_is); (case l5 => k_is); (case c5 => k_is); (case k5 => k_is); (case a6 => k_is); (case l6 => k_is); (case c6 => k_is); (case k6 => k_is); (case a7 => k_is); (case l7 => k_is); (case c7 => k_is); (case k7 => k_is); (case a8 => k_is); (case l8 => k_is); (case c8 => k_is); (case k8 => k_is); (case z_bool => k_is); (case z_int => k_is); (case z_isinstance => k_is); (case z_len => k_is); (case z_list => k_is); (case z_range => k_is); (case z_reversed => k_is); (case z_str => k_is); (case z_tuple => k_is); (case z_zip => k_is)
