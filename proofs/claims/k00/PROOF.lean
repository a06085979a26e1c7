import PyProof.Rows.All
import Wide.All
import OpenK.AllK
import Wide.FinOn
import PySem.Challenge.RW_yardsort_k00_rows_and_their_texts
import HandS.ForMost
import HandS.ForExc
import HandS.SortInts
import HandS.RaiseMore
import HandS.Conv
import HandS.Wide
import PyProof.ReprRoads
import HandS.Style
import PyProof.ReprLen
import HandS.More
import HandS.TryMany
import HandS.ExcIs
import HandS.IsInst
import HandS.Text
import HandS.DictComp
set_option Elab.async false
set_option linter.all false
set_option maxRecDepth 100000
/-! Mirrors: a def's body as a function of plain data, with lists of its own, and the proof that the program follows it. -/
namespace Mi
open PySem PySem.Spec PyProof.Rows L2

abbrev D := PyData
/-- a value: data that nothing changes any more; a list of the def's own; such a list looked at; a list that may only be read -/
inductive Val where
  | sh (d : D) | ow (xs : List D) | bw (xs : List D) | fz (xs : List D)
inductive Res (α : Type) where
  | ok (a : α) | ex (n : Str) (fs : List (Str × D)) | no
def Res.bind {α β : Type} : Res α → (α → Res β) → Res β
  | .ok a, f => f a
  | .ex n fs, _ => .ex n fs
  | .no, _ => .no
def lift {α : Type} : Option α → Res α
  | some a => .ok a
  | none => .no
abbrev Rho := List (Option Val)
inductive Out where
  | nx (ρ : Rho) | rt (r : Val) | bk (ρ : Rho) | ct (ρ : Rho) | ex (n : Str) (fs : List (Str × D)) (ρ : Rho) | no

/-! ### data in the heap -/
/-- a key as data -/
def keyD : Key → D
  | .inl k => .int k
  | .inr x => .str x
/-- data that is no object -/
inductive FlatV : V → D → Prop
  | non : FlatV .non .none
  | bl (b : Bool) : FlatV (.bl b) (.bool b)
  | int (i : Int) : FlatV (.int i) (.int i)
  | str (x : Str) : FlatV (.str x) (.str x)
inductive FlatKV : List (Key × V) → List (D × D) → Prop
  | nil : FlatKV [] []
  | cons {k : Key} {v : V} {d : D} {kvs : List (Key × V)} {ds : List (D × D)} : FlatV v d → FlatKV kvs ds → FlatKV ((k, v) :: kvs) ((keyD k, d) :: ds)
mutual
inductive Rp (K : PySem.W.Frag) (G : Hp) : V → D → Prop
  | non : Rp K G .non .none
  | bl (b : Bool) : Rp K G (.bl b) (.bool b)
  | int (i : Int) : Rp K G (.int i) (.int i)
  | str (x : Str) : Rp K G (.str x) (.str x)
  | lst {a : Addr} {vs : List V} {ds : List D} : G a = some (.lst vs) → RpA K G vs ds → Rp K G (.ref a) (.list ds)
  | tup {a : Addr} {vs : List V} {ds : List D} : SqT K G a vs → RpA K G vs ds → Rp K G (.ref a) (.tuple ds)
  | dct {a : Addr} {kvs : List (Key × V)} {ds : List (D × D)} : G a = some (.dK kvs) → FlatKV kvs ds → Rp K G (.ref a) (.dict ds)
inductive RpA (K : PySem.W.Frag) (G : Hp) : List V → List D → Prop
  | nil : RpA K G [] []
  | cons {v : V} {vs : List V} {d : D} {ds : List D} : Rp K G v d → RpA K G vs ds → RpA K G (v :: vs) (d :: ds)
end

theorem same_t {K : PySem.W.Frag} {H H' : Hp} {a : Addr} {xs : List V} (e : Same H H') (h : SqT K H a xs) : SqT K H' a xs := by
  rcases h with (h | ⟨o, h⟩) | h
  · exact .inl (.inl (e _ _ h))
  · exact .inl (.inr ⟨o, e _ _ h⟩)
  · exact .inr h

mutual
theorem Rp.mono {K : PySem.W.Frag} {G G' : Hp} (e : Same G G') : ∀ {d : D} {v : V}, Rp K G v d → Rp K G' v d
  | .none, _, .non => .non
  | .bool _, _, .bl b => .bl b
  | .int _, _, .int i => .int i
  | .str _, _, .str x => .str x
  | .list _, _, .lst h a => .lst (e _ _ h) (RpA.mono e a)
  | .tuple _, _, .tup h a => .tup (same_t e h) (RpA.mono e a)
  | .dict _, _, .dct h a => .dct (e _ _ h) a
theorem RpA.mono {K : PySem.W.Frag} {G G' : Hp} (e : Same G G') : ∀ {ds : List D} {vs : List V}, RpA K G vs ds → RpA K G' vs ds
  | [], _, .nil => .nil
  | _ :: _, _, .cons h a => .cons (Rp.mono e h) (RpA.mono e a)
end
mutual
theorem Rp.dp {K : PySem.W.Frag} {G : Hp} : ∀ {d : D} {v : V}, d.hasDict = false → Rp K G v d → Dp K G v d
  | .none, _, _, .non => .non
  | .bool _, _, _, .bl b => .bl b
  | .int _, _, _, .int i => .int i
  | .str _, _, _, .str x => .str x
  | .list _, _, nd, .lst h a => .lst (SqL.of h) (RpA.dp (by rw [PyData.hasDict] at nd; exact nd) a)
  | .tuple _, _, nd, .tup h a => .tup h (RpA.dp (by rw [PyData.hasDict] at nd; exact nd) a)
  | .dict _, _, nd, .dct _ _ => absurd nd (by rw [PyData.hasDict]; exact fun z => nomatch z)
theorem RpA.dp {K : PySem.W.Frag} {G : Hp} : ∀ {ds : List D} {vs : List V}, PyData.hasDictAll ds = false → RpA K G vs ds → DpAll K G vs ds
  | [], _, _, .nil => .nil
  | _ :: _, _, nd, .cons h a => .cons (Rp.dp (by rw [PyData.hasDictAll, Bool.or_eq_false_iff] at nd; exact nd.1) h) (RpA.dp (by rw [PyData.hasDictAll, Bool.or_eq_false_iff] at nd; exact nd.2) a)
end
theorem RpA.length {K : PySem.W.Frag} {G : Hp} : ∀ {ds : List D} {vs : List V}, RpA K G vs ds → vs.length = ds.length
  | [], _, .nil => rfl
  | _ :: _, _, .cons h a => by simp [RpA.length a]
theorem RpA.get {K : PySem.W.Frag} {G : Hp} : ∀ {ds : List D} {vs : List V} {j : Nat} {d : D}, RpA K G vs ds → ds[j]? = some d → ∃ v, vs[j]? = some v ∧ Rp K G v d
  | [], _, _, _, .nil, h => by simp at h
  | _ :: _, _, 0, _, .cons h a, e => by
    simp at e
    subst e
    exact ⟨_, rfl, h⟩
  | _ :: _, _, j + 1, _, .cons h a, e => by
    simp at e
    obtain ⟨v, e1, e2⟩ := RpA.get a e
    exact ⟨v, by simpa using e1, e2⟩
theorem RpA.getV {K : PySem.W.Frag} {G : Hp} : ∀ {ds : List D} {vs : List V} {j : Nat} {v : V}, RpA K G vs ds → vs[j]? = some v → ∃ d, ds[j]? = some d ∧ Rp K G v d
  | [], _, _, _, .nil, h => by simp at h
  | _ :: _, _, 0, _, .cons h a, e => by
    simp at e
    subst e
    exact ⟨_, rfl, h⟩
  | _ :: _, _, j + 1, _, .cons h a, e => by
    simp at e
    obtain ⟨d, e1, e2⟩ := RpA.getV a e
    exact ⟨d, by simpa using e1, e2⟩
theorem RpA.append {K : PySem.W.Frag} {G : Hp} : ∀ {ds es : List D} {vs us : List V}, RpA K G vs ds → RpA K G us es → RpA K G (vs ++ us) (ds ++ es)
  | [], _, _, _, .nil, b => b
  | _ :: _, _, _, _, .cons h a, b => .cons h (RpA.append a b)
theorem RpA.drop {K : PySem.W.Frag} {G : Hp} : ∀ (n : Nat) {ds : List D} {vs : List V}, RpA K G vs ds → RpA K G (vs.drop n) (ds.drop n)
  | 0, _, _, a => a
  | n + 1, [], _, .nil => .nil
  | n + 1, _ :: _, _, .cons h a => RpA.drop n a
theorem RpA.take {K : PySem.W.Frag} {G : Hp} : ∀ (n : Nat) {ds : List D} {vs : List V}, RpA K G vs ds → RpA K G (vs.take n) (ds.take n)
  | 0, _, _, a => by simpa using .nil
  | n + 1, [], _, .nil => .nil
  | n + 1, _ :: _, _, .cons h a => .cons h (RpA.take n a)
theorem RpA.set {K : PySem.W.Frag} {G : Hp} {d : D} {v : V} (hv : Rp K G v d) : ∀ {ds : List D} {vs : List V} (j : Nat), RpA K G vs ds → RpA K G (vs.set j v) (ds.set j d)
  | [], _, _, .nil => .nil
  | _ :: _, _, 0, .cons h a => .cons hv a
  | _ :: _, _, j + 1, .cons h a => .cons h (RpA.set hv j a)
theorem RpA.reverse {K : PySem.W.Frag} {G : Hp} : ∀ {ds : List D} {vs : List V}, RpA K G vs ds → RpA K G vs.reverse ds.reverse
  | [], _, .nil => .nil
  | _ :: _, _, .cons h a => by
    rw [List.reverse_cons, List.reverse_cons]
    exact (RpA.reverse a).append (.cons h .nil)

/-! ### what grows -/
structure Ext (G H G' H' : Hp) : Prop where
  h : Same H H'
  g : Same G G'
  s : Same G' H'
  n : ∀ p, H p ≠ none → G p = none → G' p = none
theorem Ext.refl {G H : Hp} (s : Same G H) : Ext G H G H := ⟨Same.refl _, Same.refl _, s, fun _ _ h => h⟩
theorem ne_none_of {H H' : Hp} {p : Addr} (e : Same H H') (h : H p ≠ none) : H' p ≠ none := by
  intro q
  exact h (e.free q)
theorem Ext.trans {G H G1 H1 G2 H2 : Hp} (a : Ext G H G1 H1) (b : Ext G1 H1 G2 H2) : Ext G H G2 H2 :=
  ⟨a.h.trans b.h, a.g.trans b.g, b.s, fun p h g => b.n p (ne_none_of a.h h) (a.n p h g)⟩
theorem same_new {H : Hp} {p : Addr} {o : HO} (h : H p = none) : Same H (upd H p o) := fun b x e => by
  rw [upd_ne (ne_of_none e h)]
  exact e
/-- a new object that stays as it is -/
theorem Ext.newS {G H : Hp} {p : Addr} {o : HO} (s : Same G H) (h : H p = none) : Ext G H (upd G p o) (upd H p o) := by
  have g : G p = none := s.free h
  refine ⟨same_new h, same_new g, fun b x e => ?_, fun q hq hg => ?_⟩
  · by_cases hb : b = p
    · subst hb
      rw [upd_same] at e ⊢
      exact e
    · rw [upd_ne hb] at e ⊢
      exact s _ _ e
  · have hb : q ≠ p := fun z => hq (z ▸ h)
    rw [upd_ne hb]
    exact hg
/-- a new object of one's own -/
theorem Ext.newO {G H : Hp} {p : Addr} {o : HO} (s : Same G H) (h : H p = none) : Ext G H G (upd H p o) := by
  have g : G p = none := s.free h
  refine ⟨same_new h, Same.refl _, fun b x e => ?_, fun q hq hg => hg⟩
  rw [upd_ne (ne_of_none e g)]
  exact s _ _ e

/-! ### values -/
def VR (K : PySem.W.Frag) (B G H : Hp) (v : V) : Val → Prop
  | .sh d => Rp K G v d
  | .ow xs => ∃ p vs, v = .ref p ∧ H p = some (.lst vs) ∧ G p = none ∧ B p = none ∧ RpA K G vs xs
  | .bw xs => ∃ p vs, v = .ref p ∧ H p = some (.lst vs) ∧ RpA K G vs xs
  | .fz xs => ∃ p vs, v = .ref p ∧ SqL K G p vs ∧ RpA K G vs xs
theorem VR.back {K : PySem.W.Frag} {B B' G H : Hp} {v : V} {r : Val} (e : Same B B') (h : VR K B' G H v r) : VR K B G H v r := by
  cases r with
  | sh d => exact h
  | ow xs =>
    obtain ⟨p, vs, a, b, c, d, k⟩ := h
    exact ⟨p, vs, a, b, c, e.free d, k⟩
  | bw xs => exact h
  | fz xs => exact h
theorem VR.ext {K : PySem.W.Frag} {B G H G' H' : Hp} {v : V} {r : Val} (e : Ext G H G' H') (h : VR K B G H v r) : VR K B G' H' v r := by
  cases r with
  | sh d => exact Rp.mono e.g h
  | ow xs =>
    obtain ⟨p, vs, a, b, c, d, k⟩ := h
    exact ⟨p, vs, a, e.h _ _ b, e.n p (by rw [b]; exact Option.some_ne_none _) c, d, k.mono e.g⟩
  | bw xs =>
    obtain ⟨p, vs, a, b, k⟩ := h
    exact ⟨p, vs, a, e.h _ _ b, k.mono e.g⟩
  | fz xs =>
    obtain ⟨p, vs, a, b, k⟩ := h
    exact ⟨p, vs, a, e.g.seq b, k.mono e.g⟩
inductive VRs (K : PySem.W.Frag) (B G H : Hp) : List V → List Val → Prop
  | nil : VRs K B G H [] []
  | cons {v : V} {vs : List V} {r : Val} {rs : List Val} : VR K B G H v r → VRs K B G H vs rs → VRs K B G H (v :: vs) (r :: rs)
theorem VRs.back {K : PySem.W.Frag} {B B' G H : Hp} (e : Same B B') : ∀ {vs : List V} {rs : List Val}, VRs K B' G H vs rs → VRs K B G H vs rs
  | _, _, .nil => .nil
  | _, _, .cons h a => .cons (h.back e) (VRs.back e a)
theorem VRs.ext {K : PySem.W.Frag} {B G H G' H' : Hp} (e : Ext G H G' H') : ∀ {vs : List V} {rs : List Val}, VRs K B G H vs rs → VRs K B G' H' vs rs
  | _, _, .nil => .nil
  | _, _, .cons h a => .cons (h.ext e) (VRs.ext e a)
/-- the items of a list value -/
def lit : Val → Option (List D)
  | .sh (.list xs) => some xs
  | .ow xs => some xs
  | .bw xs => some xs
  | .fz xs => some xs
  | _ => none
/-- .. of one that is tracked -/
def tlit : Val → Option (List D)
  | .sh (.list xs) => some xs
  | .ow xs => some xs
  | .bw xs => some xs
  | _ => none
/-- as data -/
def dat : Val → Option D
  | .sh d => some d
  | .ow xs => some (.list xs)
  | .bw xs => some (.list xs)
  | .fz xs => some (.list xs)
section
variable {K : PySem.W.Frag} {B G H : Hp} {v : V} {r : Val}
theorem VR.tlist {xs : List D} (s : Same G H) (h : VR K B G H v r) (e : tlit r = some xs) : ∃ p vs, v = .ref p ∧ H p = some (.lst vs) ∧ RpA K G vs xs := by
  cases r with
  | sh d =>
    cases d <;> simp [tlit] at e
    subst e
    cases h with
    | lst q a => exact ⟨_, _, rfl, s _ _ q, a⟩
  | ow ys =>
    simp [tlit] at e
    subst e
    obtain ⟨p, vs, a, b, _, _, k⟩ := h
    exact ⟨p, vs, a, b, k⟩
  | bw ys =>
    simp [tlit] at e
    subst e
    exact h
  | fz ys => simp [tlit] at e
theorem VR.list {xs : List D} (s : Same G H) (h : VR K B G H v r) (e : lit r = some xs) : ∃ p vs, v = .ref p ∧ SqL K H p vs ∧ RpA K G vs xs := by
  cases r with
  | sh d =>
    cases d <;> simp [lit] at e
    subst e
    cases h with
    | lst q a => exact ⟨_, _, rfl, SqL.of (s _ _ q), a⟩
  | ow ys =>
    simp [lit] at e
    subst e
    obtain ⟨p, vs, a, b, _, _, k⟩ := h
    exact ⟨p, vs, a, SqL.of b, k⟩
  | bw ys =>
    simp [lit] at e
    subst e
    obtain ⟨p, vs, a, b, k⟩ := h
    exact ⟨p, vs, a, SqL.of b, k⟩
  | fz ys =>
    simp [lit] at e
    subst e
    obtain ⟨p, vs, a, b, k⟩ := h
    exact ⟨p, vs, a, s.seq b, k⟩
theorem VR.dp {d : D} (s : Same G H) (h : VR K B G H v r) (e : dat r = some d) (nd : d.hasDict = false) : Dp K H v d := by
  cases r with
  | sh d' =>
    simp [dat] at e
    subst e
    exact (Rp.mono s h).dp nd
  | ow ys =>
    simp [dat] at e
    subst e
    obtain ⟨p, vs, rfl, b, _, _, k⟩ := h
    exact .lst (SqL.of b) ((k.mono s).dp (by rw [PyData.hasDict] at nd; exact nd))
  | bw ys =>
    simp [dat] at e
    subst e
    obtain ⟨p, vs, rfl, b, k⟩ := h
    exact .lst (SqL.of b) ((k.mono s).dp (by rw [PyData.hasDict] at nd; exact nd))
  | fz ys =>
    simp [dat] at e
    subst e
    obtain ⟨p, vs, rfl, b, k⟩ := h
    exact .lst (s.seq b) ((k.mono s).dp (by rw [PyData.hasDict] at nd; exact nd))
end

/-! ### the slots -/
def SlotR (K : PySem.W.Frag) (H0 G H : Hp) (v : V) : Val → Prop
  | .sh d => Rp K G v d
  | .ow xs => ∃ p vs, v = .ref p ∧ H p = some (.lst vs) ∧ G p = none ∧ H0 p = none ∧ RpA K G vs xs
  | .bw _ => False
  | .fz xs => ∃ p vs, v = .ref p ∧ SqL K G p vs ∧ RpA K G vs xs
structure EnvS (K : PySem.W.Frag) (G0 H0 : Hp) (σ : L2.St) (G H : Hp) (ρ : Rho) : Prop where
  ext : Ext G0 H0 G H
  len : σ.length = ρ.length
  slot : ∀ (i : Nat) (r : Val), ρ[i]? = some (some r) → ∃ v, σ[i]? = some (some v) ∧ SlotR K H0 G H v r
  apart : ∀ (i j : Nat) (p : Addr) (xs ys : List D), ρ[i]? = some (some (.ow xs)) → ρ[j]? = some (some (.ow ys)) → σ[i]? = some (some (.ref p)) → σ[j]? = some (some (.ref p)) → i = j
theorem SlotR.ext {K : PySem.W.Frag} {H0 G H G' H' : Hp} {v : V} {r : Val} (e : Ext G H G' H') (h : SlotR K H0 G H v r) : SlotR K H0 G' H' v r := by
  cases r with
  | sh d => exact Rp.mono e.g h
  | ow xs =>
    obtain ⟨p, vs, a, b, c, d, k⟩ := h
    exact ⟨p, vs, a, e.h _ _ b, e.n p (by rw [b]; exact Option.some_ne_none _) c, d, k.mono e.g⟩
  | bw xs => exact h
  | fz xs =>
    obtain ⟨p, vs, a, b, k⟩ := h
    exact ⟨p, vs, a, e.g.seq b, k.mono e.g⟩
theorem EnvS.ext' {K : PySem.W.Frag} {G0 H0 G H G' H' : Hp} {σ : L2.St} {ρ : Rho} (I : EnvS K G0 H0 σ G H ρ) (e : Ext G H G' H') : EnvS K G0 H0 σ G' H' ρ :=
  ⟨I.ext.trans e, I.len, fun i r q => let ⟨v, a, b⟩ := I.slot i r q; ⟨v, a, b.ext e⟩, I.apart⟩
theorem EnvS.s {K : PySem.W.Frag} {G0 H0 G H : Hp} {σ : L2.St} {ρ : Rho} (I : EnvS K G0 H0 σ G H ρ) : Same G H := I.ext.s

/-! ### readings that follow a mirror -/
def XR (fs : List (Str × D)) (K : PySem.W.Frag) (d : Option Addr) (G H : Hp) : Prop :=
  (fs = [] ∧ d = none) ∨ ∃ dd fv, d = some dd ∧ fs ≠ [] ∧ H dd = some (.xd fv) ∧ fv.map (·.1) = fs.map (·.1) ∧ RpA K G (fv.map (·.2)) (fs.map (·.2))
/-- what is wanted behind a mirror's result; G, H: at the start -/
def RR (K : PySem.W.Frag) (mg : Str → Option Value) (W : WX) {α β : Type} (R : Hp → Hp → Hp → β → α → Prop) (σ : L2.St) (G H : Hp) (Q : β → Hp → Prop) : Res α → Prop
  | .ok r => ∀ G' H' v, Ext G H G' H' → R H G' H' v r → Q v H'
  | .ex n fs => ∀ G' H' C d, Ext G H G' H' → mg n = some (.ref C) → XR fs K d G' H' → W (.ref C) d σ H'
  | .no => False
abbrev RV (K : PySem.W.Frag) : Hp → Hp → Hp → V → Val → Prop := fun B G H v r => VR K B G H v r
abbrev RB : Hp → Hp → Hp → Bool → Bool → Prop := fun _ _ _ b c => b = c
abbrev RA (K : PySem.W.Frag) : Hp → Hp → Hp → List V → List Val → Prop := fun B G H vs rs => VRs K B G H vs rs
abbrev RO : Hp → Hp → Hp → Option Int → Option Int → Prop := fun _ _ _ b c => b = c
theorem RR.bnd {K : PySem.W.Frag} {mg : Str → Option Value} {W : WX} {α β γ δ : Type} {R1 : Hp → Hp → Hp → β → α → Prop} {R2 : Hp → Hp → Hp → δ → γ → Prop} {σ : L2.St} {G H G1 H1 : Hp} {Q : δ → Hp → Prop} {Q1 : β → Hp → Prop} {m : Res α} {f : α → Res γ}
    (e : Ext G H G1 H1) (h : RR K mg W R2 σ G H Q (m.bind f)) (k : ∀ a G2 H2 v, m = .ok a → Ext G1 H1 G2 H2 → R1 H1 G2 H2 v a → RR K mg W R2 σ G H Q (f a) → Q1 v H2) : RR K mg W R1 σ G1 H1 Q1 m := by
  cases m with
  | ok a => exact fun G2 H2 v e2 q => k a G2 H2 v rfl e2 q h
  | ex n fs => exact fun G' H' C d e' a b => h G' H' C d (e.trans e') a b
  | no => exact h

def Snd (K : PySem.W.Frag) (mg : Str → Option Value) (W : WX) (te : TE) (me : Rho → Res Val) : Prop :=
  ∀ (G0 H0 : Hp) (σ : L2.St) (G H : Hp) (ρ : Rho) (Q : VK), EnvS K G0 H0 σ G H ρ → RR K mg W (RV K) σ G H Q (me ρ) → te σ H Q
def SndT (K : PySem.W.Frag) (mg : Str → Option Value) (W : WX) (tt : TT) (me : Rho → Res Bool) : Prop :=
  ∀ (G0 H0 : Hp) (σ : L2.St) (G H : Hp) (ρ : Rho) (Q : Bool → Hp → Prop), EnvS K G0 H0 σ G H ρ → RR K mg W RB σ G H Q (me ρ) → tt σ H Q
def SndA (K : PySem.W.Frag) (mg : Str → Option Value) (W : WX) (ta : TA) (me : Rho → Res (List Val)) : Prop :=
  ∀ (G0 H0 : Hp) (σ : L2.St) (G H : Hp) (ρ : Rho) (Q : List V → Hp → Prop), EnvS K G0 H0 σ G H ρ → RR K mg W (RA K) σ G H Q (me ρ) → ta σ H Q
def SndO (K : PySem.W.Frag) (mg : Str → Option Value) (W : WX) (to : TO) (me : Rho → Res (Option Int)) : Prop :=
  ∀ (G0 H0 : Hp) (σ : L2.St) (G H : Hp) (ρ : Rho) (Q : Option Int → Hp → Prop), EnvS K G0 H0 σ G H ρ → RR K mg W RO σ G H Q (me ρ) → to σ H Q
def OutR (K : PySem.W.Frag) (mg : Str → Option Value) (W : WX) (G0 H0 Gs : Hp) (D : Ends) : Out → Prop
  | .nx ρ => ∀ σ G H, EnvS K G0 H0 σ G H ρ → Same Gs G → D.nx σ H
  | .bk ρ => ∀ σ G H, EnvS K G0 H0 σ G H ρ → Same Gs G → D.bk σ H
  | .ct ρ => ∀ σ G H, EnvS K G0 H0 σ G H ρ → Same Gs G → D.ct σ H
  | .rt r => ∀ G H v, Ext G0 H0 G H → VR K H0 G H v r → D.rt v H
  | .ex n fs ρ => ∀ σ G H C d, EnvS K G0 H0 σ G H ρ → Same Gs G → mg n = some (.ref C) → XR fs K d G H → W (.ref C) d σ H
  | .no => False
theorem OutR.up {K : PySem.W.Frag} {mg : Str → Option Value} {W : WX} {G0 H0 G G' : Hp} {D : Ends} {o : Out} (e : Same G G') (h : OutR K mg W G0 H0 G D o) : OutR K mg W G0 H0 G' D o := by
  cases o with
  | nx ρ => exact fun σ G1 H I s => h σ G1 H I (e.trans s)
  | bk ρ => exact fun σ G1 H I s => h σ G1 H I (e.trans s)
  | ct ρ => exact fun σ G1 H I s => h σ G1 H I (e.trans s)
  | rt r => exact h
  | ex n fs ρ => exact fun σ G1 H C d I s => h σ G1 H C d I (e.trans s)
  | no => exact h
def SndS (K : PySem.W.Frag) (mg : Str → Option Value) (W : WX) (ts : TS) (ms : Rho → Out) : Prop :=
  ∀ (G0 H0 : Hp) (σ : L2.St) (G H : Hp) (ρ : Rho) (D : Ends), EnvS K G0 H0 σ G H ρ → OutR K mg W G0 H0 G D (ms ρ) → ts D σ H

structure PM (X : Cx) (W : WX) (e : Expr) (te : TE) (me : Rho → Res Val) : Prop where
  p : PE X e te
  s : Snd X.K X.mg W te me
structure PMT (X : Cx) (W : WX) (e : Expr) (tt : TT) (me : Rho → Res Bool) : Prop where
  p : PT X e tt
  s : SndT X.K X.mg W tt me
structure PMW (X : Cx) (W : WX) (e : Expr) (tt : TT) (me : Rho → Res Bool) : Prop where
  p : PW X e tt
  s : SndT X.K X.mg W tt me
structure PMA (X : Cx) (W : WX) (es : List Expr) (ta : TA) (me : Rho → Res (List Val)) : Prop where
  p : PA X es ta
  s : SndA X.K X.mg W ta me
structure PMO (X : Cx) (W : WX) (e : Option Expr) (to : TO) (me : Rho → Res (Option Int)) : Prop where
  p : PO X e to
  s : SndO X.K X.mg W to me
structure PMS (X : Cx) (W : WX) (st : Stmt) (ts : TS) (ms : Rho → Out) : Prop where
  p : PS X st ts
  s : SndS X.K X.mg W ts ms
structure PMSs (X : Cx) (W : WX) (st : List Stmt) (ts : TS) (ms : Rho → Out) : Prop where
  p : PSs X st ts
  s : SndS X.K X.mg W ts ms

/-! ### names, constants -/
def look : Val → Val
  | .ow xs => .bw xs
  | r => r
def mVar (i : Nat) : Rho → Res Val := fun ρ => match ρ[i]? with
  | some (some r) => .ok (look r)
  | _ => .no
def mC (d : D) : Rho → Res Val := fun _ => .ok (.sh d)
section
variable {K : PySem.W.Frag} {mg : Str → Option Value} {W : WX}
theorem snd_var (i : Nat) : Snd K mg W (tVar i) (mVar i) := by
  intro G0 H0 σ G H ρ Q I h
  unfold mVar at h
  cases e : ρ[i]? with
  | none =>
    rw [e] at h
    exact h.elim
  | some o =>
    cases o with
    | none =>
      rw [e] at h
      exact h.elim
    | some r =>
      rw [e] at h
      obtain ⟨v, hv, hs⟩ := I.slot i r e
      refine ⟨v, hv, h G H v (Ext.refl I.s) ?_⟩
      cases r with
      | sh d => exact hs
      | ow xs =>
        obtain ⟨p, vs, a, b, c, d, k⟩ := hs
        exact ⟨p, vs, a, b, k⟩
      | bw xs => exact hs.elim
      | fz xs => exact hs
theorem snd_c {v : V} {d : D} (h : ∀ G, Rp K G v d) : Snd K mg W (tC v) (mC d) := fun G0 H0 σ G H ρ Q I q => q G H v (Ext.refl I.s) (h G)
end

/-! ### operators -/
/-- an operator on values follows a function on values -/
def OpS (K : PySem.W.Frag) (r : R2) (mo : Val → Val → Option Val) : Prop :=
  ∀ (B G H : Hp) (x y : V) (a b c : Val) (Q : VK), Same G H → VR K B G H x a → VR K B G H y b → mo a b = some c → (∀ G' H' v, Ext G H G' H' → VR K H G' H' v c → Q v H') → r x y H Q
def mOp (mo : Val → Val → Option Val) (ma mb : Rho → Res Val) : Rho → Res Val := fun ρ => (ma ρ).bind fun a => (mb ρ).bind fun b => lift (mo a b)
theorem RR.lift {K : PySem.W.Frag} {mg : Str → Option Value} {W : WX} {α β : Type} {R : Hp → Hp → Hp → β → α → Prop} {σ : L2.St} {G H : Hp} {Q : β → Hp → Prop} {o : Option α} (h : RR K mg W R σ G H Q (lift o)) :
    ∃ a, o = some a ∧ ∀ G' H' v, Ext G H G' H' → R H G' H' v a → Q v H' := by
  cases o with
  | none => exact h.elim
  | some a => exact ⟨a, rfl, h⟩
section
variable {K : PySem.W.Frag} {mg : Str → Option Value} {W : WX} {ta tb : TE} {ma mb : Rho → Res Val}
theorem snd_op {r : R2} {mo : Val → Val → Option Val} (ho : OpS K r mo) (ha : Snd K mg W ta ma) (hb : Snd K mg W tb mb) : Snd K mg W (tOp r ta tb) (mOp mo ma mb) := by
  intro G0 H0 σ G H ρ Q I h
  refine ha G0 H0 σ G H ρ _ I (RR.bnd (Ext.refl I.s) h fun a G1 H1 x ea e1 r1 h1 => ?_)
  refine hb G0 H0 σ G1 H1 ρ _ (I.ext' e1) (RR.bnd e1 h1 fun b G2 H2 y eb e2 r2 h2 => ?_)
  obtain ⟨c, ec, q⟩ := h2.lift
  exact ho H G2 H2 x y a b c Q e2.s (r1.ext e2) (r2.back e1.h) ec fun G' H' v e z => q G' H' v ((e1.trans e2).trans e) (z.back (e1.h.trans e2.h))
end
section
variable {X : Cx} {W : WX} {a b : Expr} {ta tb : TE} {ma mb : Rho → Res Val} {pos : Pos}
theorem pm_var (i : Nat) {x : Str} (hN : X.N[i]? = some x := by rfl) (hv : Vis X.env.scope x := by first | exact Or.inl rfl | exact Or.inr (Or.inl rfl) | exact Or.inr (Or.inr rfl)) (hd : (x == ("__debug__" : Str)) = false := by decide)
    (hcd : (x == ("__classdict__" : Str)) = false := by decide) : PM X W (.Name x pos) (tVar i) (mVar i) := ⟨pe_var hN hv hd hcd, snd_var i⟩
theorem pm_int {i : Int} {j : Nat} : PM X W (.Constant (.int i) j pos) (tC (.int i)) (mC (.int i)) := ⟨pe_int, snd_c fun _ => .int i⟩
theorem pm_bl {b : Bool} {j : Nat} : PM X W (.Constant (.bool b) j pos) (tC (.bl b)) (mC (.bool b)) := ⟨pe_bl, snd_c fun _ => .bl b⟩
theorem pm_non {j : Nat} : PM X W (.Constant .none j pos) (tC .non) (mC .none) := ⟨pe_non, snd_c fun _ => .non⟩
theorem pm_str {x : Str} {j : Nat} : PM X W (.Constant (.str x) j pos) (tC (.str x)) (mC (.str x)) := ⟨pe_str, snd_c fun _ => .str x⟩
theorem pm_glob {x : Str} {v : V} {u : Value} {d : D} (hg : Gl X x) (hm : X.mg x = some u) (r : RelV v u) (hd' : ∀ G, Rp X.K G v d) (hd : (x == ("__debug__" : Str)) = false := by decide) : PM X W (.Name x pos) (tC v) (mC d) := ⟨pe_glob hg hm r hd, snd_c hd'⟩
theorem pm_globI {x : Str} {i : Int} (hm : ∃ t, X.mg x = some (.int i t)) (hg : Gl X x := by rfl) (hd : (x == ("__debug__" : Str)) = false := by decide) : PM X W (.Name x pos) (tC (.int i)) (mC (.int i)) := by
  obtain ⟨t, e⟩ := hm
  exact pm_glob (v := .int i) hg e ⟨t, rfl⟩ (fun _ => .int i) hd
theorem pm_op {op : Operator} {r : R2} {mo : Val → Val → Option Val} (ho : OpR X (binaryOp op) r) (hs : OpS X.K r mo) (ha : PM X W a ta ma) (hb : PM X W b tb mb) : PM X W (.BinOp a op b pos) (tOp r ta tb) (mOp mo ma mb) :=
  ⟨pe_op ho ha.p hb.p, snd_op hs ha.s hb.s⟩
theorem pm_cmp {op : CmpOp} {r : R2} {mo : Val → Val → Option Val} (ho : OpR X (compareOp op) r) (hs : OpS X.K r mo) (ha : PM X W a ta ma) (hb : PM X W b tb mb) (hm : behindInMarks op b = false := by first | exact nomark _ | rfl) : PM X W (.Compare a [op] [b] pos) (tOp r ta tb) (mOp mo ma mb) :=
  ⟨pe_cmpR ho ha.p hb.p hm, snd_op hs ha.s hb.s⟩
theorem pm_ix {r : R2} {mo : Val → Val → Option Val} (hr : IxR X r) (hs : OpS X.K r mo) (ha : PM X W a ta ma) (hb : PM X W b tb mb) (hx : PlainIx b := by exact fun _ _ => rfl) : PM X W (.Subscript a b pos) (tOp r ta tb) (mOp mo ma mb) :=
  ⟨pe_ix hr ha.p hb.p hx, snd_op hs ha.s hb.s⟩
end
end Mi

namespace Mi
open PySem PySem.Spec PyProof.Rows L2

theorem sz_le {n : Nat} (h : n ≤ 100000) : n ≤ sizeLine := Nat.le_trans h (by decide)
theorem sz_lt {n : Nat} (h : n < 100000) : n < sizeLine := Nat.lt_of_lt_of_le h (by decide)

/-! ### ints -/
def oII (g : Int → Int → D) : Val → Val → Option Val
  | .sh (.int i), .sh (.int j) => some (.sh (g i j))
  | _, _ => none
def oIC (C : Int → Int → Bool) (g : Int → Int → D) : Val → Val → Option Val
  | .sh (.int i), .sh (.int j) => if C i j = true then some (.sh (g i j)) else none
  | _, _ => none
section
variable {K : PySem.W.Frag}
theorem oII_inv {g : Int → Int → D} {a b c : Val} (e : oII g a b = some c) : ∃ i j, a = .sh (.int i) ∧ b = .sh (.int j) ∧ c = .sh (g i j) := by
  unfold oII at e
  split at e
  · exact ⟨_, _, rfl, rfl, (Option.some.inj e).symm⟩
  · cases e
theorem oIC_inv {C : Int → Int → Bool} {g : Int → Int → D} {a b c : Val} (e : oIC C g a b = some c) : ∃ i j, a = .sh (.int i) ∧ b = .sh (.int j) ∧ C i j = true ∧ c = .sh (g i j) := by
  unfold oIC at e
  split at e
  · split at e
    · exact ⟨_, _, rfl, rfl, by assumption, (Option.some.inj e).symm⟩
    · cases e
  · cases e
theorem VR.int_ {B G H : Hp} {v : V} {i : Int} (h : VR K B G H v (.sh (.int i))) : v = .int i := by
  cases (show Rp K G v (.int i) from h)
  rfl
theorem VR.str_ {B G H : Hp} {v : V} {x : Str} (h : VR K B G H v (.sh (.str x))) : v = .str x := by
  cases (show Rp K G v (.str x) from h)
  rfl
theorem VR.bool_ {B G H : Hp} {v : V} {b : Bool} (h : VR K B G H v (.sh (.bool b))) : v = .bl b := by
  cases (show Rp K G v (.bool b) from h)
  rfl
theorem VR.non_ {B G H : Hp} {v : V} (h : VR K B G H v (.sh .none)) : v = .non := by
  cases (show Rp K G v .none from h)
  rfl
theorem VR.tup {B G H : Hp} {v : V} {ds : List D} (s : Same G H) (h : VR K B G H v (.sh (.tuple ds))) : ∃ p vs, v = .ref p ∧ SqT K H p vs ∧ RpA K G vs ds := by
  cases (show Rp K G v (.tuple ds) from h) with
  | tup q a => exact ⟨_, _, rfl, same_t s q, a⟩
theorem ops_I0 {gv : Int → Int → V} {gd : Int → Int → D} (h : ∀ G i j, Rp K G (gv i j) (gd i j)) : OpS K (rI0 gv) (oII gd) := by
  intro B G H x y a b c Q s ha hb e q
  obtain ⟨i, j, rfl, rfl, rfl⟩ := oII_inv e
  exact ⟨i, j, ha.int_, hb.int_, q G H _ (Ext.refl s) (h G i j)⟩
theorem ops_I {C : Int → Int → Prop} {Cb : Int → Int → Bool} {gv : Int → Int → V} {gd : Int → Int → D} (hC : ∀ i j, Cb i j = true → C i j) (h : ∀ G i j, Rp K G (gv i j) (gd i j)) : OpS K (rI C gv) (oIC Cb gd) := by
  intro B G H x y a b c Q s ha hb e q
  obtain ⟨i, j, rfl, rfl, hc, rfl⟩ := oIC_inv e
  exact ⟨i, j, ha.int_, hb.int_, hC i j hc, q G H _ (Ext.refl s) (h G i j)⟩
def oAddI := oII fun i j => .int (i + j)
def oSub := oII fun i j => .int (i - j)
def oLt := oII fun i j => .bool (decide (i < j))
def oLe := oII fun i j => .bool (decide (i ≤ j))
def oGt := oII fun i j => .bool (decide (j < i))
def oGe := oII fun i j => .bool (decide (j ≤ i))
def oMulI := oIC (fun i j => decide ((-(2 ^ 64) < i ∧ i < 2 ^ 64) ∨ (-(2 ^ 64) < j ∧ j < 2 ^ 64))) fun i j => .int (i * j)
def oMod := oIC (fun _ j => decide (0 < j)) fun i j => .int (i % j)
def oDiv := oIC (fun _ j => decide (0 < j ∧ j < 1073741824)) fun i j => .int (i / j)
def oPow := oIC (fun i j => decide (0 ≤ j ∧ j ≤ 1000000 ∧ i.natAbs < 2 ^ 64)) fun i j => .int (i ^ j.toNat)
theorem os_addI : OpS K (rI0 fun i j => .int (i + j)) oAddI := ops_I0 fun _ _ _ => .int _
theorem os_sub : OpS K (rI0 fun i j => .int (i - j)) oSub := ops_I0 fun _ _ _ => .int _
theorem os_lt : OpS K (rI0 fun i j => .bl (decide (i < j))) oLt := ops_I0 fun _ _ _ => .bl _
theorem os_le : OpS K (rI0 fun i j => .bl (decide (i ≤ j))) oLe := ops_I0 fun _ _ _ => .bl _
theorem os_gt : OpS K (rI0 fun i j => .bl (decide (j < i))) oGt := ops_I0 fun _ _ _ => .bl _
theorem os_ge : OpS K (rI0 fun i j => .bl (decide (j ≤ i))) oGe := ops_I0 fun _ _ _ => .bl _
theorem os_mulI : OpS K (rI CMul fun i j => .int (i * j)) oMulI := ops_I (fun i j h => (of_decide_eq_true h : (-(2 ^ 64) < i ∧ i < 2 ^ 64) ∨ (-(2 ^ 64) < j ∧ j < 2 ^ 64))) fun _ _ _ => .int _
theorem os_mod : OpS K (rI (fun _ j => 0 < j) fun i j => .int (i % j)) oMod := ops_I (fun _ _ h => of_decide_eq_true h) fun _ _ _ => .int _
theorem os_div : OpS K (rI CDiv fun i j => .int (i / j)) oDiv := ops_I (fun _ j h => (of_decide_eq_true h : 0 < j ∧ j < 1073741824)) fun _ _ _ => .int _
theorem os_pow : OpS K (rI CPow fun i j => .int (i ^ j.toNat)) oPow := ops_I (fun i j h => (of_decide_eq_true h : 0 ≤ j ∧ j ≤ 1000000 ∧ i.natAbs < 2 ^ 64)) fun _ _ _ => .int _
end

/-! ### either of two -/
def r2or (r r' : R2) : R2 := fun x y H Q => r x y H Q ∨ r' x y H Q
theorem or_op {X : Cx} {f : Value → Value → Sem Value} {r r' : R2} (h : OpR X f r) (h' : OpR X f r') : OpR X f (r2or r r') := by
  intro pins s σ H x y v u Q I rx ry hq
  rcases hq with hq | hq
  · exact h pins s σ H x y v u Q I rx ry hq
  · exact h' pins s σ H x y v u Q I rx ry hq
def oOr (m m' : Val → Val → Option Val) : Val → Val → Option Val := fun a b => match m a b with
  | some c => some c
  | none => m' a b
theorem os_or {K : PySem.W.Frag} {r r' : R2} {m m' : Val → Val → Option Val} (h : OpS K r m) (h' : OpS K r' m') : OpS K (r2or r r') (oOr m m') := by
  intro B G H x y a b c Q s ha hb e q
  unfold oOr at e
  cases e1 : m a b with
  | some d =>
    rw [e1] at e
    cases e
    exact .inl (h B G H x y a b _ Q s ha hb e1 q)
  | none =>
    rw [e1] at e
    exact .inr (h' B G H x y a b _ Q s ha hb e q)

/-! ### lists and texts by operators -/
def oCat : Val → Val → Option Val := fun a b => match tlit a, tlit b with
  | some xs, some ys => if xs.length + ys.length ≤ 100000 then some (.ow (xs ++ ys)) else none
  | _, _ => none
theorem os_cat {K : PySem.W.Frag} : OpS K rCat oCat := by
  intro B G H x y a b c Q s ha hb e q
  unfold oCat at e
  split at e
  · split at e
    · rename_i xs ys e1 e2 hl
      obtain ⟨p, vs, rfl, hp, ka⟩ := ha.tlist s e1
      obtain ⟨p', us, rfl, hp', kb⟩ := hb.tlist s e2
      cases e
      refine ⟨p, p', vs, us, rfl, rfl, hp, hp', ?_, fun t ht => ?_⟩
      · rw [ka.length, kb.length]
        exact sz_le hl
      · exact q G _ _ (Ext.newO s ht) ⟨t, _, rfl, upd_same, s.free ht, ht, ka.append kb⟩
    · cases e
  · cases e
def oStrCat : Val → Val → Option Val
  | .sh (.str x), .sh (.str y) => if x.length + y.length ≤ 100000 then some (.sh (.str (x ++ y))) else none
  | _, _ => none
theorem os_strcat {K : PySem.W.Frag} : OpS K (fun x y H Q => ∃ i j, x = .str i ∧ y = .str j ∧ i.length + j.length ≤ sizeLine ∧ Q (.str (i ++ j)) H) oStrCat := by
  intro B G H x y a b c Q s ha hb e q
  unfold oStrCat at e
  split at e
  · split at e
    · rename_i hl
      cases e
      exact ⟨_, _, ha.str_, hb.str_, sz_le hl, q G H _ (Ext.refl s) (.str _)⟩
    · cases e
  · cases e
def oAdd := oOr oAddI (oOr oStrCat oCat)
def rep (xs : List D) : Nat → List D
  | 0 => []
  | n + 1 => xs ++ rep xs n
def oRep : Val → Val → Option Val := fun a b => match tlit a, b with
  | some [d], .sh (.int k) => if 0 ≤ k ∧ k ≤ 100000 then some (.ow (List.replicate k.toNat d)) else none
  | _, _ => none
def oMul := oOr oMulI oRep
def oEq : Val → Val → Option Val := fun a b => match dat a, dat b with
  | some d, some e => if (SeqAt.shaped d && SeqAt.shaped e) = true then some (.sh (.bool (PyData.eqv d e))) else none
  | _, _ => none
def oNe : Val → Val → Option Val := fun a b => match dat a, dat b with
  | some d, some e => if (SeqAt.shaped d && SeqAt.shaped e) = true then some (.sh (.bool (!PyData.eqv d e))) else none
  | _, _ => none
mutual
theorem noDict_lay : ∀ {d : D}, d.canLay0 = true → d.hasDict = false
  | .none, _ => by rw [PyData.hasDict]
  | .bool _, _ => by rw [PyData.hasDict]
  | .int _, _ => by rw [PyData.hasDict]
  | .str _, _ => by rw [PyData.hasDict]
  | .list xs, h => by
    rw [PyData.canLay0] at h
    rw [PyData.hasDict]
    exact noDict_lays h
  | .tuple xs, h => by
    rw [PyData.canLay0] at h
    rw [PyData.hasDict]
    exact noDict_lays h
  | .dict _, h => by
    rw [PyData.canLay0] at h
    cases h
theorem noDict_lays : ∀ {ds : List D}, PyData.canLayAll0 ds = true → PyData.hasDictAll ds = false
  | [], _ => by rw [PyData.hasDictAll]
  | d :: ds, h => by
    rw [PyData.canLayAll0, Bool.and_eq_true] at h
    rw [PyData.hasDictAll, noDict_lay h.1, noDict_lays h.2]
    rfl
end
theorem noDict_shaped {d : D} (h : SeqAt.shaped d = true) : d.hasDict = false := noDict_lay (SeqAt.canLay_of_shaped h)
theorem os_eq {K : PySem.W.Frag} : OpS K (rEqD K) oEq := by
  intro B G H x y a b c Q s ha hb e q
  unfold oEq at e
  split at e
  · split at e
    · rename_i d d' e1 e2 hl
      cases e
      rw [Bool.and_eq_true] at hl
      exact ⟨d, d', ha.dp s e1 (noDict_shaped hl.1), hb.dp s e2 (noDict_shaped hl.2), hl.1, hl.2, q G H _ (Ext.refl s) (.bl _)⟩
    · cases e
  · cases e
theorem os_ne {K : PySem.W.Frag} : OpS K (rNeD K) oNe := by
  intro B G H x y a b c Q s ha hb e q
  unfold oNe at e
  split at e
  · split at e
    · rename_i d d' e1 e2 hl
      cases e
      rw [Bool.and_eq_true] at hl
      exact ⟨d, d', ha.dp s e1 (noDict_shaped hl.1), hb.dp s e2 (noDict_shaped hl.2), hl.1, hl.2, q G H _ (Ext.refl s) (.bl _)⟩
    · cases e
  · cases e
/-- x is None -/
def isNone : Val → Bool
  | .sh .none => true
  | _ => false
def oIsN (neg : Bool) : Val → Val → Option Val
  | a, .sh .none => some (.sh (.bool (if neg then !isNone a else isNone a)))
  | _, _ => none
theorem isNone_of {K : PySem.W.Frag} {B G H : Hp} {v : V} {a : Val} (h : VR K B G H v a) : decide (v = .non) = isNone a := by
  cases a with
  | sh d =>
    have h : Rp K G v d := h
    cases h <;> rfl
  | ow xs =>
    obtain ⟨p, vs, rfl, _⟩ := h
    rfl
  | bw xs =>
    obtain ⟨p, vs, rfl, _⟩ := h
    rfl
  | fz xs =>
    obtain ⟨p, vs, rfl, _⟩ := h
    rfl
theorem os_isN {K : PySem.W.Frag} : OpS K (fun x y H Q => y = .non ∧ Q (.bl (decide (x = .non))) H) (oIsN false) := by
  intro B G H x y a b c Q s ha hb e q
  unfold oIsN at e
  split at e
  · cases e
    refine ⟨hb.non_, ?_⟩
    rw [isNone_of ha]
    exact q G H _ (Ext.refl s) (.bl _)
  · cases e
theorem os_notN {K : PySem.W.Frag} : OpS K (fun x y H Q => y = .non ∧ Q (.bl (!decide (x = .non))) H) (oIsN true) := by
  intro B G H x y a b c Q s ha hb e q
  unfold oIsN at e
  split at e
  · cases e
    refine ⟨hb.non_, ?_⟩
    rw [isNone_of ha]
    exact q G H _ (Ext.refl s) (.bl _)
  · cases e
/-- x in xs, flat -/
def flatD : D → Bool
  | .none => true
  | .bool _ => true
  | .int _ => true
  | .str _ => true
  | _ => false
def inD (d : D) (xs : List D) : Bool := xs.any fun z => PyData.eqv z d
theorem flat_of {K : PySem.W.Frag} {G : Hp} {v : V} {d : D} (h : Rp K G v d) : flatV v = flatD d := by
  cases h <;> rfl
theorem eqv_of {K : PySem.W.Frag} {G : Hp} {v u : V} {d e : D} (h : Rp K G v d) (k : Rp K G u e) (f : flatD d = true) (g : flatD e = true) : eqV v u = PyData.eqv d e := by
  cases h <;> cases k <;> first | rfl | (simp [eqV, PyData.eqv]; done) | (cases f; done) | (cases g; done) | (simp only [eqV, PyData.eqv])
theorem flats_of {K : PySem.W.Frag} {G : Hp} : ∀ {xs : List D} {vs : List V}, RpA K G vs xs → vs.all flatV = xs.all flatD
  | [], _, .nil => rfl
  | _ :: _, _, .cons h a => by rw [List.all_cons, List.all_cons, flat_of h, flats_of a]
theorem inV_of {K : PySem.W.Frag} {G : Hp} {v : V} {d : D} (h : Rp K G v d) (f : flatD d = true) : ∀ {xs : List D} {vs : List V}, RpA K G vs xs → xs.all flatD = true → inV v vs = inD d xs
  | [], _, .nil, _ => rfl
  | x :: xs, _, .cons k a, g => by
    rw [List.all_cons, Bool.and_eq_true] at g
    have ih := inV_of h f a g.2
    unfold inV inD at ih ⊢
    rw [List.any_cons, List.any_cons, ih, eqv_of k h g.1 f]
def seqOf : Val → Option (List D)
  | .sh (.tuple xs) => some xs
  | r => lit r
def oIn (neg : Bool) : Val → Val → Option Val := fun a b => match a, seqOf b with
  | .sh d, some xs => if (flatD d && xs.all flatD) = true then some (.sh (.bool (if neg then !inD d xs else inD d xs))) else none
  | _, _ => none
theorem VR.seq {K : PySem.W.Frag} {B G H : Hp} {v : V} {r : Val} {xs : List D} (s : Same G H) (h : VR K B G H v r) (e : seqOf r = some xs) : ∃ p vs, v = .ref p ∧ (SqL K H p vs ∨ SqT K H p vs) ∧ RpA K G vs xs := by
  unfold seqOf at e
  split at e
  · cases e
    obtain ⟨p, vs, a, b, c⟩ := h.tup s
    exact ⟨p, vs, a, .inr b, c⟩
  · obtain ⟨p, vs, a, b, c⟩ := h.list s e
    exact ⟨p, vs, a, .inl b, c⟩
theorem os_in {K : PySem.W.Frag} {neg : Bool} : OpS K (rIn K neg) (oIn neg) := by
  intro B G H x y a b c Q s ha hb e q
  unfold oIn at e
  split at e
  · split at e
    · rename_i d xs e2 hl
      cases e
      rw [Bool.and_eq_true] at hl
      obtain ⟨p, vs, rfl, hp, k⟩ := hb.seq s e2
      have hd : Rp K G x d := ha
      refine ⟨p, vs, rfl, hp, ?_, ?_, ?_⟩
      · rw [flat_of hd]
        exact hl.1
      · rw [flats_of k]
        exact hl.2
      · rw [inV_of hd hl.1 k hl.2]
        exact q G H _ (Ext.refl s) (.bl _)
    · cases e
  · cases e
/-- s in t, texts -/
def oInS (neg : Bool) : Val → Val → Option Val
  | .sh (.str i), .sh (.str j) => some (.sh (.bool (if neg then !(!(Builtin.Str.occurrences j i 0 j.length 1).isEmpty) else !(Builtin.Str.occurrences j i 0 j.length 1).isEmpty)))
  | _, _ => none
theorem os_inS {K : PySem.W.Frag} : OpS K (fun x y H Q => ∃ i j, x = .str i ∧ y = .str j ∧ Q (.bl (!(Builtin.Str.occurrences j i 0 j.length 1).isEmpty)) H) (oInS false) := by
  intro B G H x y a b c Q s ha hb e q
  unfold oInS at e
  split at e
  · cases e
    exact ⟨_, _, ha.str_, hb.str_, q G H _ (Ext.refl s) (.bl _)⟩
  · cases e
theorem os_notInS {K : PySem.W.Frag} : OpS K (fun x y H Q => ∃ i j, x = .str i ∧ y = .str j ∧ Q (.bl (!(!(Builtin.Str.occurrences j i 0 j.length 1).isEmpty))) H) (oInS true) := by
  intro B G H x y a b c Q s ha hb e q
  unfold oInS at e
  split at e
  · cases e
    exact ⟨_, _, ha.str_, hb.str_, q G H _ (Ext.refl s) (.bl _)⟩
  · cases e
/-- xs[i] -/
def oIx : Val → Val → Option Val := fun a b => match a, b with
  | .sh (.str z), .sh (.int i) => if z.length ≤ 100000 then (atI z.cps.toList i).map fun c => .sh (.str ⟨#[c]⟩) else none
  | a, .sh (.int i) => match seqOf a with
    | some xs => (atI xs i).map .sh
    | none => none
  | _, _ => none
theorem atI_of {K : PySem.W.Frag} {G : Hp} {xs : List D} {vs : List V} {i : Int} {d : D} (k : RpA K G vs xs) (e : atI xs i = some d) : ∃ v, atI vs i = some v ∧ Rp K G v d := by
  unfold atI at e ⊢
  rw [k.length]
  cases h : ixN xs.length i with
  | none =>
    rw [h] at e
    cases e
  | some j =>
    rw [h] at e
    exact k.get e
theorem os_ix {K : PySem.W.Frag} : OpS K (rIx K) oIx := by
  intro B G H x y a b c Q s ha hb e q
  unfold oIx at e
  split at e
  · split at e
    · rename_i z i hl
      cases h : atI z.cps.toList i with
      | none =>
        rw [h] at e
        cases e
      | some cc =>
        rw [h] at e
        cases e
        exact .inr (.inr ⟨z, i, cc, ha.str_, hb.int_, sz_le hl, h, q G H _ (Ext.refl s) (.str _)⟩)
    · cases e
  · rename_i i _
    split at e
    · rename_i xs e2
      cases h : atI xs i with
      | none =>
        rw [h] at e
        cases e
      | some d =>
        rw [h] at e
        cases e
        obtain ⟨p, vs, rfl, hp, k⟩ := ha.seq s e2
        obtain ⟨v, ev, rv⟩ := atI_of k h
        rcases hp with hp | hp
        · exact .inl ⟨p, vs, i, v, rfl, hb.int_, hp, ev, q G H _ (Ext.refl s) rv⟩
        · exact .inr (.inl ⟨p, vs, i, v, rfl, hb.int_, hp, ev, q G H _ (Ext.refl s) rv⟩)
    · cases e
  · cases e
theorem rpa_replicate {K : PySem.W.Frag} {G : Hp} {v : V} {d : D} (h : Rp K G v d) : ∀ n, RpA K G (List.replicate n v) (List.replicate n d)
  | 0 => .nil
  | n + 1 => .cons h (rpa_replicate h n)
theorem flat_rep {α : Type} (v : α) : ∀ n, (List.replicate n [v]).flatten = List.replicate n v
  | 0 => rfl
  | n + 1 => by
    rw [List.replicate_succ, List.flatten_cons, flat_rep v n]
    rfl
theorem rpa_one {K : PySem.W.Frag} {G : Hp} {d : D} {vs : List V} (h : RpA K G vs [d]) : ∃ v, vs = [v] ∧ Rp K G v d := by
  cases h with
  | cons a b =>
    cases b
    exact ⟨_, rfl, a⟩
theorem os_rep {K : PySem.W.Frag} : OpS K rRep oRep := by
  intro B G H x y a b c Q s ha hb e q
  unfold oRep at e
  split at e
  · split at e
    · rename_i d k e1 hl
      obtain ⟨p, vs, rfl, hp, ka⟩ := ha.tlist s e1
      obtain ⟨v, rfl, rv⟩ := rpa_one ka
      cases e
      refine ⟨p, k, [v], rfl, hb.int_, hp, by omega, by omega, ?_, fun t ht => ?_⟩
      · show 1 * k.toNat ≤ _
        exact sz_le (by omega)
      · rw [flat_rep]
        exact q G _ _ (Ext.newO s ht) ⟨t, _, rfl, upd_same, s.free ht, ht, rpa_replicate rv _⟩
    · cases e
  · cases e
end Mi

namespace Mi
open PySem PySem.Spec PyProof.Rows L2

/-! ### argument lists -/
def mNil : Rho → Res (List Val) := fun _ => .ok []
def mCons (ma : Rho → Res Val) (mr : Rho → Res (List Val)) : Rho → Res (List Val) := fun ρ => (ma ρ).bind fun a => (mr ρ).bind fun r => .ok (a :: r)
section
variable {K : PySem.W.Frag} {mg : Str → Option Value} {W : WX} {ta tb : TE} {ma mb : Rho → Res Val} {tr : TA} {mr : Rho → Res (List Val)}
theorem snd_nil : SndA K mg W tNil mNil := fun G0 H0 σ G H ρ Q I q => q G H [] (Ext.refl I.s) .nil
theorem snd_cons (ha : Snd K mg W ta ma) (hr : SndA K mg W tr mr) : SndA K mg W (tCons ta tr) (mCons ma mr) := by
  intro G0 H0 σ G H ρ Q I h
  refine ha G0 H0 σ G H ρ _ I (RR.bnd (Ext.refl I.s) h fun a G1 H1 x ea e1 r1 h1 => ?_)
  refine hr G0 H0 σ G1 H1 ρ _ (I.ext' e1) (RR.bnd e1 h1 fun r G2 H2 y eb e2 r2 h2 => ?_)
  exact h2 G2 H2 (x :: y) (e1.trans e2) (.cons (r1.ext e2) (r2.back e1.h))
end
section
variable {X : Cx} {W : WX} {a b c : Expr} {es : List Expr} {ta tb tc : TE} {tr : TA} {ma mb mc : Rho → Res Val} {mr : Rho → Res (List Val)} {pos : Pos}
theorem pma_nil : PMA X W [] tNil mNil := ⟨pa_nil, snd_nil⟩
theorem pma_cons (ha : PM X W a ta ma) (hr : PMA X W es tr mr) (hs : starEach (a :: es) X.env = (false, eval a X.env) :: starEach es X.env := by rfl) : PMA X W (a :: es) (tCons ta tr) (mCons ma mr) := ⟨pa_cons ha.p hr.p hs, snd_cons ha.s hr.s⟩
end

/-! ### what is handed on as data -/
def esc : Val → Option D
  | .sh d => some d
  | .ow xs => some (.list xs)
  | _ => none
def VW (K : PySem.W.Frag) (B G H : Hp) (v : V) : Val → Prop
  | .sh d => Rp K G v d
  | .ow xs => ∃ p vs, v = .ref p ∧ H p = some (.lst vs) ∧ B p = none ∧ RpA K G vs xs
  | _ => True
theorem VR.vw {K : PySem.W.Frag} {B G H : Hp} {v : V} {r : Val} (h : VR K B G H v r) : VW K B G H v r := by
  cases r with
  | sh d => exact h
  | ow xs =>
    obtain ⟨p, vs, a, b, _, c, k⟩ := h
    exact ⟨p, vs, a, b, c, k⟩
  | bw xs => trivial
  | fz xs => trivial
theorem VW.up {K : PySem.W.Frag} {B G G' H : Hp} {v : V} {r : Val} (e : Same G G') (h : VW K B G H v r) : VW K B G' H v r := by
  cases r with
  | sh d => exact Rp.mono e h
  | ow xs =>
    obtain ⟨p, vs, a, b, c, k⟩ := h
    exact ⟨p, vs, a, b, c, k.mono e⟩
  | bw xs => trivial
  | fz xs => trivial
/-- an own list made steady -/
theorem Ext.frz {Gs Hs G H : Hp} {p : Addr} {o : HO} (e : Ext Gs Hs G H) (hp : H p = some o) (hb : Hs p = none) (hg : G p = none) : Ext Gs Hs (upd G p o) H := by
  refine ⟨e.h, e.g.trans (same_new hg), fun b u q => ?_, fun q hq hg' => ?_⟩
  · by_cases hb' : b = p
    · subst hb'
      rw [upd_same] at q
      rw [← q]
      exact hp
    · rw [upd_ne hb'] at q
      exact e.s _ _ q
  · have z : q ≠ p := fun z => hq (z ▸ hb)
    rw [upd_ne z]
    exact e.n q hq hg'
theorem esc_one {K : PySem.W.Frag} {Gs Hs G H : Hp} {v : V} {r : Val} {d : D} (e : Ext Gs Hs G H) (h : VW K Hs G H v r) (he : esc r = some d) : ∃ G', Ext Gs Hs G' H ∧ Same G G' ∧ Rp K G' v d := by
  cases r with
  | sh d' =>
    cases he
    exact ⟨G, e, Same.refl _, h⟩
  | ow xs =>
    cases he
    obtain ⟨p, vs, rfl, b, c, k⟩ := h
    cases g : G p with
    | none =>
      have s : Same G (upd G p (.lst vs)) := same_new g
      exact ⟨_, e.frz b c g, s, .lst upd_same (k.mono s)⟩
    | some o =>
      have q := e.s _ _ g
      rw [b] at q
      cases q
      exact ⟨G, e, Same.refl _, .lst g k⟩
  | bw xs => cases he
  | fz xs => cases he
def escs : List Val → Option (List D)
  | [] => some []
  | r :: rs => match esc r, escs rs with
    | some d, some ds => some (d :: ds)
    | _, _ => none
theorem esc_all {K : PySem.W.Frag} {Gs Hs H : Hp} : ∀ {rs : List Val} {vs : List V} {G : Hp} {ds : List D}, Ext Gs Hs G H → VRs K Hs G H vs rs → escs rs = some ds → ∃ G', Ext Gs Hs G' H ∧ Same G G' ∧ RpA K G' vs ds := by
  have core : ∀ {rs : List Val} {vs : List V} {G : Hp} {ds : List D}, Ext Gs Hs G H → Paired (fun v r => VW K Hs G H v r) vs rs → escs rs = some ds → ∃ G', Ext Gs Hs G' H ∧ Same G G' ∧ RpA K G' vs ds := by
    intro rs
    induction rs with
    | nil =>
      intro vs G ds e h he
      cases h
      cases he
      exact ⟨G, e, Same.refl _, .nil⟩
    | cons r rs ih =>
      intro vs G ds e h he
      cases h with
      | cons h1 h2 =>
        unfold escs at he
        split at he
        · rename_i d ds' e1 e2
          cases he
          obtain ⟨G1, x1, s1, k1⟩ := esc_one e h1 e1
          have h2' : Paired (fun v r => VW K Hs G1 H v r) ‹List V› rs := by
            clear ih e2
            induction h2 with
            | nil => exact .nil
            | cons a b ih => exact .cons (a.up s1) ih
          obtain ⟨G2, x2, s2, k2⟩ := ih x1 h2' e2
          exact ⟨G2, x2, s1.trans s2, .cons (k1.mono s2) k2⟩
        · cases he
  intro rs vs G ds e h he
  refine core e ?_ he
  clear he
  induction h with
  | nil => exact .nil
  | cons a b ih => exact .cons a.vw ih

/-! ### displays -/
def mLst (ma : Rho → Res (List Val)) : Rho → Res Val := fun ρ => (ma ρ).bind fun as => lift (match escs as with
  | some ds => if ds.length ≤ 100000 then some (.ow ds) else none
  | none => none)
def mTup (ma : Rho → Res (List Val)) : Rho → Res Val := fun ρ => (ma ρ).bind fun as => lift (match escs as with
  | some ds => if ds.length ≤ 100000 then some (.sh (.tuple ds)) else none
  | none => none)
section
variable {K : PySem.W.Frag} {mg : Str → Option Value} {W : WX} {tr : TA} {mr : Rho → Res (List Val)}
theorem snd_lst (ha : SndA K mg W tr mr) : Snd K mg W (tLst tr) (mLst mr) := by
  intro G0 H0 σ G H ρ Q I h
  refine ha G0 H0 σ G H ρ _ I (RR.bnd (Ext.refl I.s) h fun a G1 H1 x ea e1 r1 h1 => ?_)
  obtain ⟨c, ec, q⟩ := h1.lift
  split at ec
  · split at ec
    · rename_i ds e2 hl
      cases ec
      obtain ⟨G2, x2, s2, k2⟩ := esc_all e1 r1 e2
      refine ⟨?_, fun p hp => ?_⟩
      · rw [k2.length]
        exact sz_le hl
      · have hp0 : H p = none := e1.h.free hp
        exact q G2 _ _ (x2.trans (Ext.newO x2.s hp)) ⟨p, x, rfl, upd_same, x2.s.free hp, hp0, k2⟩
    · cases ec
  · cases ec
theorem snd_tup (ha : SndA K mg W tr mr) : Snd K mg W (tTup tr) (mTup mr) := by
  intro G0 H0 σ G H ρ Q I h
  refine ha G0 H0 σ G H ρ _ I (RR.bnd (Ext.refl I.s) h fun a G1 H1 x ea e1 r1 h1 => ?_)
  obtain ⟨c, ec, q⟩ := h1.lift
  split at ec
  · split at ec
    · rename_i ds e2 hl
      cases ec
      obtain ⟨G2, x2, s2, k2⟩ := esc_all e1 r1 e2
      refine ⟨?_, fun p hp => ?_⟩
      · rw [k2.length]
        exact sz_le hl
      · exact q _ _ _ (x2.trans (Ext.newS x2.s hp)) (Rp.tup (.inl (.inl upd_same)) (k2.mono (same_new (x2.s.free hp))))
    · cases ec
  · cases ec
end
section
variable {X : Cx} {W : WX} {a b c e : Expr} {es : List Expr} {ta tb tc te : TE} {tr : TA} {tA tB : TT} {ma mb mc me : Rho → Res Val} {mA mB : Rho → Res Bool} {mr : Rho → Res (List Val)} {pos : Pos}
theorem pm_lst (h : PMA X W es tr mr) : PM X W (.List es pos) (tLst tr) (mLst mr) := ⟨pe_lst h.p, snd_lst h.s⟩
theorem pm_tup {x1} (h : PMA X W es tr mr) : PM X W (.Tuple es x1 pos) (tTup tr) (mTup mr) := ⟨pe_tup h.p, snd_tup h.s⟩
end

/-! ### calls of built-ins -/
def CallS (K : PySem.W.Frag) (r : List V → Hp → VK → Prop) (mo : List Val → Option Val) : Prop :=
  ∀ (B G H : Hp) (vs : List V) (as : List Val) (c : Val) (Q : VK), Same G H → VRs K B G H vs as → mo as = some c → (∀ G' H' v, Ext G H G' H' → VR K H G' H' v c → Q v H') → r vs H Q
def mCall (mo : List Val → Option Val) (ma : Rho → Res (List Val)) : Rho → Res Val := fun ρ => (ma ρ).bind fun as => lift (mo as)
section
variable {K : PySem.W.Frag} {mg : Str → Option Value} {W : WX} {ta : TA} {ma : Rho → Res (List Val)}
theorem snd_call {r : List V → Hp → VK → Prop} {mo : List Val → Option Val} (ho : CallS K r mo) (ha : SndA K mg W ta ma) : Snd K mg W (tCB r ta) (mCall mo ma) := by
  intro G0 H0 σ G H ρ Q I h
  refine ha G0 H0 σ G H ρ _ I (RR.bnd (Ext.refl I.s) h fun a G1 H1 x ea e1 r1 h1 => ?_)
  obtain ⟨c, ec, q⟩ := h1.lift
  exact ho H G1 H1 x a c Q e1.s r1 ec fun G' H' v e z => q G' H' v (e1.trans e) (z.back e1.h)
end
section
variable {X : Cx} {W : WX} {e : Expr} {es : List Expr} {ta : TA} {ma : Rho → Res (List Val)} {p pos : Pos} {id : String} {x : Str} {r : List V → Hp → VK → Prop} {mo : List Val → Option Val} {T : String}
theorem pm_callB (hc : CallR X (.builtin id) r) (hs : CallS X.K r mo) (hm : X.mg x = none) (hv : bootBuiltins x = some (.builtin id)) (ha : PMA X W (e :: es) ta ma) (hg : Gl X x := by rfl) (hn : x ≠ "__name__" := by decide) (hdb : (x == ("__debug__" : Str)) = false := by decide)
    (he : starEach (e :: es) X.env = (false, eval e X.env) :: starEach es X.env := by rfl) (hpl : (backTo pos (starEach es X.env)).any (·.1) = false := by rfl) : PM X W (.Call (.Name x p) (e :: es) [] pos) (tCB r ta) (mCall mo ma) :=
  ⟨pe_callB hc hg hm hv ha.p hn hdb he hpl, snd_call hs ha.s⟩
theorem pm_callTy (hc : CallR X (.type T) r) (hs : CallS X.K r mo) (hm : X.mg x = none) (hv : bootBuiltins x = some (.type T)) (ha : PMA X W (e :: es) ta ma) (hg : Gl X x := by rfl) (hn : x ≠ "__name__" := by decide) (hdb : (x == ("__debug__" : Str)) = false := by decide)
    (he : starEach (e :: es) X.env = (false, eval e X.env) :: starEach es X.env := by rfl) (hpl : (backTo pos (starEach es X.env)).any (·.1) = false := by rfl) : PM X W (.Call (.Name x p) (e :: es) [] pos) (tCB r ta) (mCall mo ma) :=
  ⟨pe_callTy hc hg hm hv ha.p hn hdb he hpl, snd_call hs ha.s⟩
end
theorem vrs1 {K : PySem.W.Frag} {B G H : Hp} {vs : List V} {a : Val} (h : VRs K B G H vs [a]) : ∃ v, vs = [v] ∧ VR K B G H v a := by
  cases h with
  | cons h1 h2 =>
    cases h2
    exact ⟨_, rfl, h1⟩
theorem vrs2 {K : PySem.W.Frag} {B G H : Hp} {vs : List V} {a b : Val} (h : VRs K B G H vs [a, b]) : ∃ v u, vs = [v, u] ∧ VR K B G H v a ∧ VR K B G H u b := by
  cases h with
  | cons h1 h2 =>
    obtain ⟨u, rfl, h3⟩ := vrs1 h2
    exact ⟨_, u, rfl, h1, h3⟩
/-- len -/
def cLen : List Val → Option Val
  | [.sh (.str z)] => if z.length ≤ 100000 then some (.sh (.int z.length)) else none
  | [a] => match seqOf a with
    | some xs => some (.sh (.int xs.length))
    | none => none
  | _ => none
theorem cs_len {K : PySem.W.Frag} : CallS K (fun xs H Q => ∃ x n, xs = [x] ∧ LenV K x H n ∧ Q (.int n) H) cLen := by
  intro B G H vs as c Q s h e q
  unfold cLen at e
  split at e
  · split at e
    · rename_i z hl
      cases e
      obtain ⟨v, rfl, h1⟩ := vrs1 h
      cases h1.str_
      exact ⟨_, z.length, rfl, ⟨sz_le hl, rfl⟩, q G H _ (Ext.refl s) (Rp.int _)⟩
    · cases e
  · split at e
    · rename_i xs e2
      cases e
      obtain ⟨v, rfl, h1⟩ := vrs1 h
      obtain ⟨p, us, rfl, hp, k⟩ := h1.seq s e2
      refine ⟨_, us.length, rfl, ?_, ?_⟩
      · rcases hp with hp | hp
        · exact .inl ⟨us, hp, rfl⟩
        · exact .inr ⟨us, hp, rfl⟩
      · rw [k.length]
        exact q G H _ (Ext.refl s) (Rp.int _)
    · cases e
  · cases e
/-- list(xs) -/
def cList : List Val → Option Val
  | [a] => match seqOf a with
    | some xs => some (.ow xs)
    | none => none
  | _ => none
theorem cs_list {K : PySem.W.Frag} : CallS K (fun xs H Q => ∃ p ys, xs = [.ref p] ∧ (SqL K H p ys ∨ SqT K H p ys) ∧ ∀ l, H l = none → Q (.ref l) (upd H l (.lst ys))) cList := by
  intro B G H vs as c Q s h e q
  unfold cList at e
  split at e
  · split at e
    · rename_i xs e2
      cases e
      obtain ⟨v, rfl, h1⟩ := vrs1 h
      obtain ⟨p, us, rfl, hp, k⟩ := h1.seq s e2
      exact ⟨p, us, rfl, hp, fun l hl => q G _ _ (Ext.newO s hl) ⟨l, us, rfl, upd_same, s.free hl, hl, k⟩⟩
    · cases e
  · cases e
/-- ints -/
def intOf : D → Option Int
  | .int i => some i
  | _ => none
def intsOf : List D → Option (List Int)
  | [] => some []
  | d :: ds => match intOf d, intsOf ds with
    | some i, some ns => some (i :: ns)
    | _, _ => none
theorem intOf_rp {K : PySem.W.Frag} {G : Hp} {d : D} {v : V} {i : Int} (h : Rp K G v d) (e : intOf d = some i) : v = .int i ∧ d = .int i := by
  cases h <;> cases e
  exact ⟨rfl, rfl⟩
theorem intsOf_rp {K : PySem.W.Frag} {G : Hp} : ∀ {ds : List D} {vs : List V} {ns : List Int}, RpA K G vs ds → intsOf ds = some ns → vs = ns.map V.int ∧ ds = ns.map PyData.int
  | [], _, ns, .nil, e => by
    cases e
    exact ⟨rfl, rfl⟩
  | d :: ds, _, ns, .cons h a, e => by
    unfold intsOf at e
    split at e
    · rename_i i ms e1 e2
      cases e
      obtain ⟨rfl, rfl⟩ := intOf_rp h e1
      obtain ⟨rfl, rfl⟩ := intsOf_rp a e2
      exact ⟨rfl, rfl⟩
    · cases e
theorem intsOf_map : ∀ ns : List Int, intsOf (ns.map PyData.int) = some ns
  | [] => rfl
  | n :: ns => by
    rw [List.map_cons]
    unfold intsOf
    rw [intsOf_map ns]
    rfl
theorem rpa_ints {K : PySem.W.Frag} {G : Hp} : ∀ ns : List Int, RpA K G (ns.map V.int) (ns.map PyData.int)
  | [] => .nil
  | n :: ns => .cons (.int n) (rpa_ints ns)
/-- in ascending order -/
def insI (n : Int) : List Int → List Int
  | [] => [n]
  | m :: ms => if n ≤ m then n :: m :: ms else m :: insI n ms
def isort : List Int → List Int
  | [] => []
  | n :: ns => insI n (isort ns)
theorem insI_perm (n : Int) : ∀ ms : List Int, (insI n ms).Perm (n :: ms)
  | [] => .refl _
  | m :: ms => by
    unfold insI
    split
    · exact .refl _
    · exact ((insI_perm n ms).cons m).trans (.swap n m ms)
theorem isort_perm : ∀ ns : List Int, (isort ns).Perm ns
  | [] => .refl _
  | n :: ns => (insI_perm n (isort ns)).trans ((isort_perm ns).cons n)
theorem insI_sorted (n : Int) : ∀ {ms : List Int}, ms.Pairwise (· ≤ ·) → (insI n ms).Pairwise (· ≤ ·)
  | [], _ => by simp [insI]
  | m :: ms, h => by
    unfold insI
    have hm := List.pairwise_cons.mp h
    split
    · rename_i c
      refine List.pairwise_cons.mpr ⟨fun x hx => ?_, h⟩
      rcases List.mem_cons.mp hx with rfl | hx
      · exact c
      · exact Int.le_trans c (hm.1 x hx)
    · rename_i c
      refine List.pairwise_cons.mpr ⟨fun x hx => ?_, insI_sorted n hm.2⟩
      rcases List.mem_cons.mp ((insI_perm n ms).mem_iff.mp hx) with rfl | hx
      · omega
      · exact hm.1 x hx
theorem isort_sorted : ∀ ns : List Int, (isort ns).Pairwise (· ≤ ·)
  | [] => .nil
  | n :: ns => insI_sorted n (isort_sorted ns)
theorem sorted_uniq : ∀ {xs ys : List Int}, xs.Perm ys → xs.Pairwise (· ≤ ·) → ys.Pairwise (· ≤ ·) → xs = ys
  | [], ys, p, _, _ => p.nil_eq
  | x :: xs, [], p, _, _ => by
    have := p.length_eq
    simp at this
  | x :: xs, y :: ys, p, hx, hy => by
    have h1 := List.pairwise_cons.mp hx
    have h2 := List.pairwise_cons.mp hy
    have e : x = y := by
      have a : x ∈ y :: ys := p.mem_iff.mp List.mem_cons_self
      have b : y ∈ x :: xs := p.mem_iff.mpr List.mem_cons_self
      have a' : y ≤ x := by
        rcases List.mem_cons.mp a with rfl | a
        · exact Int.le_refl _
        · exact h2.1 x a
      have b' : x ≤ y := by
        rcases List.mem_cons.mp b with rfl | b
        · exact Int.le_refl _
        · exact h1.1 y b
      omega
    subst e
    rw [sorted_uniq p.cons_inv h1.2 h2.2]
/-- sorted, ints -/
def cSorted : List Val → Option Val
  | [a] => match lit a with
    | some xs => match intsOf xs with
      | some ns => some (.ow ((isort ns).map .int))
      | none => none
    | none => none
  | _ => none
theorem cs_sorted {K : PySem.W.Frag} : CallS K (rSortedI K) cSorted := by
  intro B G H vs as c Q s h e q
  unfold cSorted at e
  split at e
  · split at e
    · split at e
      · rename_i xs e2 _ ns e3
        cases e
        obtain ⟨v, rfl, h1⟩ := vrs1 h
        obtain ⟨p, us, rfl, hp, k⟩ := h1.list s e2
        obtain ⟨rfl, rfl⟩ := intsOf_rp k e3
        refine ⟨p, ns, rfl, hp, fun ns' l hP hS hl => ?_⟩
        have en : ns' = isort ns := sorted_uniq (hP.trans (isort_perm ns).symm) hS (isort_sorted ns)
        subst en
        exact q G _ _ (Ext.newO s hl) ⟨l, _, rfl, upd_same, s.free hl, hl, rpa_ints _⟩
      · cases e
    · cases e
  · cases e
def cSum : List Val → Option Val
  | [a] => match lit a with
    | some xs => match intsOf xs with
      | some ns => some (.sh (.int ns.sum))
      | none => none
    | none => none
  | _ => none
theorem cs_sum {K : PySem.W.Frag} : CallS K (rSum K) cSum := by
  intro B G H vs as c Q s h e q
  unfold cSum at e
  split at e
  · split at e
    · split at e
      · rename_i xs e2 _ ns e3
        cases e
        obtain ⟨v, rfl, h1⟩ := vrs1 h
        obtain ⟨p, us, rfl, hp, k⟩ := h1.list s e2
        obtain ⟨rfl, rfl⟩ := intsOf_rp k e3
        exact ⟨p, ns, rfl, hp, q G H _ (Ext.refl s) (Rp.int _)⟩
      · cases e
    · cases e
  · cases e
def cInt2 (f : Int → Int → Int) : List Val → Option Val
  | [.sh (.int i), .sh (.int j)] => some (.sh (.int (f i j)))
  | _ => none
theorem cs_int2 {K : PySem.W.Frag} {f : Int → Int → Int} : CallS K (fun xs H Q => ∃ i j, xs = [.int i, .int j] ∧ Q (.int (f i j)) H) (cInt2 f) := by
  intro B G H vs as c Q s h e q
  unfold cInt2 at e
  split at e
  · cases e
    obtain ⟨v, u, rfl, h1, h2⟩ := vrs2 h
    cases h1.int_
    cases h2.int_
    exact ⟨_, _, rfl, q G H _ (Ext.refl s) (Rp.int _)⟩
  · cases e
def cInt1 : List Val → Option Val
  | [.sh (.int i)] => some (.sh (.int i))
  | _ => none
theorem cs_int1 {K : PySem.W.Frag} : CallS K (fun xs H Q => (∃ i, xs = [.int i] ∧ Q (.int i) H) ∨ ∃ k, xs = [.bl k] ∧ Q (.int (if k then 1 else 0)) H) cInt1 := by
  intro B G H vs as c Q s h e q
  unfold cInt1 at e
  split at e
  · cases e
    obtain ⟨v, rfl, h1⟩ := vrs1 h
    cases h1.int_
    exact .inl ⟨_, rfl, q G H _ (Ext.refl s) (Rp.int _)⟩
  · cases e
def cStrI : List Val → Option Val
  | [.sh (.int i)] => if i.natAbs < 1000000 then some (.sh (.str (toString i : String))) else none
  | _ => none
theorem log_small {n : Nat} (h : n < 1000000) : n.log2 < 1920 := by
  by_cases z : n = 0
  · subst z
    decide
  · have h2 : n.log2 < 20 := (Nat.log2_lt z).mpr (Nat.lt_of_lt_of_le h (by decide))
    omega
theorem cs_strI {K : PySem.W.Frag} : CallS K (fun xs H Q => ∃ i, xs = [.int i] ∧ i.natAbs.log2 < 1920 ∧ Q (.str (toString i)) H) cStrI := by
  intro B G H vs as c Q s h e q
  unfold cStrI at e
  split at e
  · split at e
    · rename_i hl
      cases e
      obtain ⟨v, rfl, h1⟩ := vrs1 h
      cases h1.int_
      exact ⟨_, rfl, log_small hl, q G H _ (Ext.refl s) (Rp.str _)⟩
    · cases e
  · cases e
end Mi

namespace Mi
open PySem PySem.Spec PyProof.Rows L2

/-! ### repr -/
def rRepr (K : PySem.W.Frag) : List V → Hp → VK → Prop := fun xs H Q => ∃ v d, xs = [v] ∧ Dp K H v d ∧ d.showable = true ∧ d.hasDict = false ∧ d.depth ≤ 60 ∧ d.shown.length ≤ sizeLine ∧ Q (.str d.shown) H
theorem call_reprD {X : Cx} (gd : X.A.guards = some []) (hu : X.A.units + 64 < cLine) : CallR X (.builtin "repr") (rRepr X.K) := by
  intro pins s σ H xs us Q I r h
  obtain ⟨v, d, rfl, hd, hs, hn, hq, hz, q⟩ := h
  obtain ⟨u, rfl, ru⟩ := vals1 r
  cases hd with
  | non =>
    cases ru
    exact PySem.P.repr_of_none ⟨.str _, H, I.tok _, ⟨_, rfl⟩, q⟩
  | bl b =>
    cases ru
    refine PySem.P.repr_of_bool ⟨.str _, H, I.tok _, ⟨_, rfl⟩, ?_⟩
    cases b <;> exact q
  | int i =>
    obtain ⟨t, rfl⟩ := ru
    exact PySem.P.repr_of_int (of_decide_eq_true hs) ⟨.str _, H, I.tok _, ⟨_, rfl⟩, q⟩
  | str x =>
    obtain ⟨t, rfl⟩ := ru
    exact PySem.P.repr_of_str ⟨.str _, H, I.tok _, ⟨_, rfl⟩, q⟩ hz
  | @lst a vs ds hl ha =>
    cases ru
    obtain ⟨as, hr⟩ := Dp.reads I (.list ds) (.ref a) (.ref a) (.lst hl ha) rfl
    exact repr_of_reads' hr hs (PyData.noDict_hsm hn) gd (by omega) (fun _ _ e => e) (fun h' u tk hk => ⟨.str _, H, I.kept hk, ⟨_, rfl⟩, q⟩) hz
  | @tup a vs ds hl ha =>
    cases ru
    obtain ⟨as, hr⟩ := Dp.reads I (.tuple ds) (.ref a) (.ref a) (.tup hl ha) rfl
    exact repr_of_reads' hr hs (PyData.noDict_hsm hn) gd (by omega) (fun _ _ e => e) (fun h' u tk hk => ⟨.str _, H, I.kept hk, ⟨_, rfl⟩, q⟩) hz
/-- data that repr shows -/
def shows (d : D) : Bool := d.showable && !d.hasDict && decide (d.depth ≤ 60) && decide (d.shown.length ≤ 100000)
def cRepr : List Val → Option Val
  | [a] => match dat a with
    | some d => if shows d = true then some (.sh (.str d.shown)) else none
    | none => none
  | _ => none
theorem cs_repr {K : PySem.W.Frag} : CallS K (rRepr K) cRepr := by
  intro B G H vs as c Q s h e q
  unfold cRepr at e
  split at e
  · split at e
    · split at e
      · rename_i d e1 hl
        cases e
        obtain ⟨v, rfl, h1⟩ := vrs1 h
        unfold shows at hl
        simp only [Bool.and_eq_true, Bool.not_eq_true', decide_eq_true_eq] at hl
        exact ⟨v, d, rfl, h1.dp s e1 hl.1.1.2, hl.1.1.1, hl.1.1.2, hl.1.2, sz_le hl.2, q G H _ (Ext.refl s) (Rp.str _)⟩
      · cases e
    · cases e
  · cases e

/-! ### tests -/
def truth : Val → Option Bool
  | .sh .none => some false
  | .sh (.bool b) => some b
  | .sh (.int i) => some (i != 0)
  | .sh (.str z) => if z.length ≤ 100000 then some ((z.length : Int) != 0) else none
  | a => match seqOf a with
    | some xs => some (!xs.isEmpty)
    | none => none
def boolOf : Val → Option Bool
  | .sh (.bool b) => some b
  | _ => none
def mTest (ma : Rho → Res Val) : Rho → Res Bool := fun ρ => (ma ρ).bind fun a => lift (boolOf a)
def mTru (ma : Rho → Res Val) : Rho → Res Bool := fun ρ => (ma ρ).bind fun a => lift (truth a)
def mAnd (ma mb : Rho → Res Bool) : Rho → Res Bool := fun ρ => (ma ρ).bind fun a => if a = true then mb ρ else .ok false
def mOr (ma mb : Rho → Res Bool) : Rho → Res Bool := fun ρ => (ma ρ).bind fun a => if a = true then .ok true else mb ρ
def mNot (ma : Rho → Res Bool) : Rho → Res Bool := fun ρ => (ma ρ).bind fun a => .ok (!a)
def mAndV (ma mb : Rho → Res Val) : Rho → Res Val := fun ρ => (ma ρ).bind fun a => (lift (boolOf a)).bind fun a => if a = true then mb ρ else .ok (.sh (.bool false))
def mOrV (ma mb : Rho → Res Val) : Rho → Res Val := fun ρ => (ma ρ).bind fun a => (lift (boolOf a)).bind fun a => if a = true then .ok (.sh (.bool true)) else mb ρ
def mNotV (ma : Rho → Res Val) : Rho → Res Val := fun ρ => (ma ρ).bind fun a => (lift (boolOf a)).bind fun a => .ok (.sh (.bool (!a)))
def mIfE (mc : Rho → Res Bool) (ma mb : Rho → Res Val) : Rho → Res Val := fun ρ => (mc ρ).bind fun a => if a = true then ma ρ else mb ρ
def mNeg (ma : Rho → Res Val) : Rho → Res Val := fun ρ => (ma ρ).bind fun a => lift (match a with
  | .sh (.int i) => some (.sh (.int (-i)))
  | _ => none)
/-- a < b < c -/
def mChain (m1 m2 : Val → Val → Option Val) (ma mb mc : Rho → Res Val) : Rho → Res Val := fun ρ => (ma ρ).bind fun a => (mb ρ).bind fun b => (lift ((m1 a b).bind boolOf)).bind fun k => if k = true then (mc ρ).bind fun c => lift (m2 b c) else .ok (.sh (.bool false))
section
variable {K : PySem.W.Frag} {mg : Str → Option Value} {W : WX} {ta tb tc : TE} {ma mb mc : Rho → Res Val} {tA tB : TT} {mA mB : Rho → Res Bool}
theorem boolOf_inv {K : PySem.W.Frag} {B G H : Hp} {v : V} {a : Val} {b : Bool} (h : VR K B G H v a) (e : boolOf a = some b) : v = .bl b := by
  unfold boolOf at e
  split at e
  · cases e
    exact h.bool_
  · cases e
theorem RR.start {α β : Type} {R : Hp → Hp → Hp → β → α → Prop} {σ : L2.St} {G H : Hp} {Q : β → Hp → Prop} {m : Res α} {G1 H1 : Hp} (e : Ext G H G1 H1) (bk : ∀ G' H' v r, R H1 G' H' v r → R H G' H' v r) (h : RR K mg W R σ G H Q m) : RR K mg W R σ G1 H1 Q m := by
  cases m with
  | ok a => exact fun G2 H2 v e2 q => h G2 H2 v (e.trans e2) (bk _ _ _ _ q)
  | ex n fs => exact fun G' H' C d e' a b => h G' H' C d (e.trans e') a b
  | no => exact h
theorem snd_test (ha : Snd K mg W ta ma) : SndT K mg W (tTest ta) (mTest ma) := by
  intro G0 H0 σ G H ρ Q I h
  refine ha G0 H0 σ G H ρ _ I (RR.bnd (Ext.refl I.s) h fun a G1 H1 x ea e1 r1 h1 => ?_)
  obtain ⟨c, ec, q⟩ := h1.lift
  exact ⟨c, boolOf_inv r1 ec, q G1 H1 c e1 rfl⟩
theorem snd_tru (ha : Snd K mg W ta ma) : SndT K mg W (fun σ H Q => ta σ H fun x H' => ∃ k, TruV K x H' k ∧ Q k H') (mTru ma) := by
  intro G0 H0 σ G H ρ Q I h
  refine ha G0 H0 σ G H ρ _ I (RR.bnd (Ext.refl I.s) h fun a G1 H1 x ea e1 r1 h1 => ?_)
  obtain ⟨c, ec, q⟩ := h1.lift
  refine ⟨c, ?_, q G1 H1 c e1 rfl⟩
  unfold truth at ec
  split at ec
  · cases ec
    cases r1.non_
    rfl
  · cases ec
    cases r1.bool_
    rfl
  · cases ec
    cases r1.int_
    rfl
  · split at ec
    · rename_i z hl
      cases ec
      cases r1.str_
      exact ⟨sz_le hl, rfl⟩
    · cases ec
  · split at ec
    · rename_i xs e2
      cases ec
      obtain ⟨p, vs, rfl, hp, k⟩ := r1.seq e1.s e2
      have en : vs.isEmpty = xs.isEmpty := by
        cases k <;> rfl
      rw [← en]
      rcases hp with hp | hp
      · exact .inl ⟨vs, hp, rfl⟩
      · exact .inr (.inl ⟨vs, hp, rfl⟩)
    · cases ec
theorem snd_and (ha : SndT K mg W tA mA) (hb : SndT K mg W tB mB) : SndT K mg W (tAnd tA tB) (mAnd mA mB) := by
  intro G0 H0 σ G H ρ Q I h
  refine ha G0 H0 σ G H ρ _ I (RR.bnd (Ext.refl I.s) h fun a G1 H1 x ea e1 r1 h1 => ?_)
  cases (show x = a from r1)
  cases a with
  | true => exact iteT (hb G0 H0 σ G1 H1 ρ _ (I.ext' e1) (RR.start e1 (fun _ _ _ _ z => z) h1))
  | false => exact iteF (h1 G1 H1 false e1 rfl)
theorem snd_or (ha : SndT K mg W tA mA) (hb : SndT K mg W tB mB) : SndT K mg W (tOr tA tB) (mOr mA mB) := by
  intro G0 H0 σ G H ρ Q I h
  refine ha G0 H0 σ G H ρ _ I (RR.bnd (Ext.refl I.s) h fun a G1 H1 x ea e1 r1 h1 => ?_)
  cases (show x = a from r1)
  cases a with
  | false => exact iteF (hb G0 H0 σ G1 H1 ρ _ (I.ext' e1) (RR.start e1 (fun _ _ _ _ z => z) h1))
  | true => exact iteT (h1 G1 H1 true e1 rfl)
theorem snd_not (ha : SndT K mg W tA mA) : SndT K mg W (tNot tA) (mNot mA) := by
  intro G0 H0 σ G H ρ Q I h
  refine ha G0 H0 σ G H ρ _ I (RR.bnd (Ext.refl I.s) h fun a G1 H1 x ea e1 r1 h1 => ?_)
  cases (show x = a from r1)
  exact h1 G1 H1 _ e1 rfl
theorem snd_andV (ha : Snd K mg W ta ma) (hb : Snd K mg W tb mb) : Snd K mg W (tAndV ta tb) (mAndV ma mb) := by
  intro G0 H0 σ G H ρ Q I h
  refine ha G0 H0 σ G H ρ _ I (RR.bnd (Ext.refl I.s) h fun a G1 H1 x ea e1 r1 h1 => ?_)
  cases eb : boolOf a with
  | none =>
    rw [eb] at h1
    exact h1.elim
  | some k =>
    rw [eb] at h1
    refine ⟨k, boolOf_inv r1 eb, ?_⟩
    cases k with
    | true => exact iteT (hb G0 H0 σ G1 H1 ρ _ (I.ext' e1) (RR.start e1 (fun _ _ _ _ z => z.back e1.h) h1))
    | false => exact iteF (h1 G1 H1 _ e1 (Rp.bl _))
theorem snd_orV (ha : Snd K mg W ta ma) (hb : Snd K mg W tb mb) : Snd K mg W (tOrV ta tb) (mOrV ma mb) := by
  intro G0 H0 σ G H ρ Q I h
  refine ha G0 H0 σ G H ρ _ I (RR.bnd (Ext.refl I.s) h fun a G1 H1 x ea e1 r1 h1 => ?_)
  cases eb : boolOf a with
  | none =>
    rw [eb] at h1
    exact h1.elim
  | some k =>
    rw [eb] at h1
    refine ⟨k, boolOf_inv r1 eb, ?_⟩
    cases k with
    | false => exact iteF (hb G0 H0 σ G1 H1 ρ _ (I.ext' e1) (RR.start e1 (fun _ _ _ _ z => z.back e1.h) h1))
    | true => exact iteT (h1 G1 H1 _ e1 (Rp.bl _))
theorem snd_notV (ha : Snd K mg W ta ma) : Snd K mg W (tNotV ta) (mNotV ma) := by
  intro G0 H0 σ G H ρ Q I h
  refine ha G0 H0 σ G H ρ _ I (RR.bnd (Ext.refl I.s) h fun a G1 H1 x ea e1 r1 h1 => ?_)
  cases eb : boolOf a with
  | none =>
    rw [eb] at h1
    exact h1.elim
  | some k =>
    rw [eb] at h1
    exact ⟨k, boolOf_inv r1 eb, h1 G1 H1 _ e1 (Rp.bl _)⟩
theorem snd_ifE (hc : SndT K mg W tA mA) (ha : Snd K mg W ta ma) (hb : Snd K mg W tb mb) : Snd K mg W (tIf tA ta tb) (mIfE mA ma mb) := by
  intro G0 H0 σ G H ρ Q I h
  refine hc G0 H0 σ G H ρ _ I (RR.bnd (Ext.refl I.s) h fun a G1 H1 x ea e1 r1 h1 => ?_)
  cases (show x = a from r1)
  cases a with
  | false => exact iteF (hb G0 H0 σ G1 H1 ρ _ (I.ext' e1) (RR.start e1 (fun _ _ _ _ z => z.back e1.h) h1))
  | true => exact iteT (ha G0 H0 σ G1 H1 ρ _ (I.ext' e1) (RR.start e1 (fun _ _ _ _ z => z.back e1.h) h1))
theorem snd_neg (ha : Snd K mg W ta ma) : Snd K mg W (tUn (rU fun i => .int (-i)) ta) (mNeg ma) := by
  intro G0 H0 σ G H ρ Q I h
  refine ha G0 H0 σ G H ρ _ I (RR.bnd (Ext.refl I.s) h fun a G1 H1 x ea e1 r1 h1 => ?_)
  obtain ⟨c, ec, q⟩ := h1.lift
  split at ec
  · cases ec
    exact ⟨_, r1.int_, q G1 H1 _ e1 (Rp.int _)⟩
  · cases ec
theorem snd_chain {r r' : R2} {m1 m2 : Val → Val → Option Val} (h1 : OpS K r m1) (h2 : OpS K r' m2) (ha : Snd K mg W ta ma) (hb : Snd K mg W tb mb) (hc : Snd K mg W tc mc) : Snd K mg W (tChain r r' ta tb tc) (mChain m1 m2 ma mb mc) := by
  intro G0 H0 σ G H ρ Q I h
  refine ha G0 H0 σ G H ρ _ I (RR.bnd (Ext.refl I.s) h fun a G1 H1 x ea e1 r1 q1 => ?_)
  refine hb G0 H0 σ G1 H1 ρ _ (I.ext' e1) (RR.bnd e1 q1 fun b G2 H2 y eb e2 r2 q2 => ?_)
  cases eo : m1 a b with
  | none =>
    rw [eo] at q2
    exact q2.elim
  | some z =>
    rw [eo] at q2
    refine h1 H G2 H2 x y a b z _ e2.s (r1.ext e2) (r2.back e1.h) eo fun G3 H3 v e3 r3 => ?_
    change RR K mg W (RV K) σ G H Q (Res.bind (lift (boolOf z)) _) at q2
    cases ez : boolOf z with
    | none =>
      rw [ez] at q2
      exact q2.elim
    | some k =>
      rw [ez] at q2
      refine ⟨k, boolOf_inv r3 ez, ?_⟩
      have e03 := (e1.trans e2).trans e3
      cases k with
      | false => exact iteF (q2 G3 H3 _ e03 (Rp.bl _))
      | true =>
        refine iteT (hc G0 H0 σ G3 H3 ρ _ (I.ext' e03) (RR.bnd e03 q2 fun c G4 H4 w ec e4 r4 q4 => ?_))
        obtain ⟨c', ec', q⟩ := q4.lift
        exact h2 H G4 H4 y w b c c' Q e4.s (r2.back e1.h |>.ext e3 |>.ext e4) (r4.back e03.h) ec' fun G' H' v e z => q G' H' v ((e03.trans e4).trans e) (z.back (e03.trans e4).h)
end
section
variable {X : Cx} {W : WX} {a b c : Expr} {rest : List Expr} {ta tb tc : TE} {ma mb mc : Rho → Res Val} {tA tB : TT} {mA mB : Rho → Res Bool} {pos : Pos}
theorem pmt_cmp {op : CmpOp} {r : R2} {mo : Val → Val → Option Val} (ho : OpR X (compareOp op) r) (hs : OpS X.K r mo) (ha : PM X W a ta ma) (hb : PM X W b tb mb) (hm : behindInMarks op b = false := by first | exact nomark _ | rfl) :
    PMT X W (.Compare a [op] [b] pos) (tTest (tOp r ta tb)) (mTest (mOp mo ma mb)) := ⟨pt_cmpR ho ha.p hb.p hm, snd_test (snd_op hs ha.s hb.s)⟩
theorem pmt_chain {op op' : CmpOp} {r r' : R2} {m1 m2 : Val → Val → Option Val} (ho : OpR X (compareOp op) r) (ho' : OpR X (compareOp op') r') (h1 : OpS X.K r m1) (h2 : OpS X.K r' m2) (ha : PM X W a ta ma) (hb : PM X W b tb mb) (hc : PM X W c tc mc)
    (hm : lastMarks [op, op'] [b, c] = false := by with_unfolding_all rfl) : PMT X W (.Compare a [op, op'] [b, c] pos) (tTest (tChain r r' ta tb tc)) (mTest (mChain m1 m2 ma mb mc)) := ⟨pt_chain ho ho' ha.p hb.p hc.p hm, snd_test (snd_chain h1 h2 ha.s hb.s hc.s)⟩
theorem pm_chain {op op' : CmpOp} {r r' : R2} {m1 m2 : Val → Val → Option Val} (ho : OpR X (compareOp op) r) (ho' : OpR X (compareOp op') r') (h1 : OpS X.K r m1) (h2 : OpS X.K r' m2) (ha : PM X W a ta ma) (hb : PM X W b tb mb) (hc : PM X W c tc mc)
    (hm : lastMarks [op, op'] [b, c] = false := by with_unfolding_all rfl) : PM X W (.Compare a [op, op'] [b, c] pos) (tChain r r' ta tb tc) (mChain m1 m2 ma mb mc) := ⟨pe_chain ho ho' ha.p hb.p hc.p hm, snd_chain h1 h2 ha.s hb.s hc.s⟩
theorem pmt_tru (ha : PM X W a ta ma) (he : ∀ whole, isTrue a X.env whole = (do let v ← whole; standAt a.pos; holding [v] (truthy v)) := by intro _; rfl) :
    PMT X W a (fun σ H Q => ta σ H fun x H' => ∃ k, TruV X.K x H' k ∧ Q k H') (mTru ma) := ⟨pt_truth ha.p he, snd_tru ha.s⟩
theorem pmt_not (ha : PMT X W a tA mA) : PMT X W (.UnaryOp .Not a pos) (tNot tA) (mNot mA) := ⟨pt_not ha.p, snd_not ha.s⟩
theorem pmw_and1 (ha : PMT X W a tA mA) : PMW X W (.BoolOp .And [a] pos) tA mA := ⟨pw_and1 ha.p, ha.s⟩
theorem pmw_or1 (ha : PMT X W a tA mA) : PMW X W (.BoolOp .Or [a] pos) tA mA := ⟨pw_or1 ha.p, ha.s⟩
theorem pmw_and (ha : PMT X W a tA mA) (hb : PMW X W (.BoolOp .And (b :: rest) pos) tB mB) : PMW X W (.BoolOp .And (a :: b :: rest) pos) (tAnd tA tB) (mAnd mA mB) := ⟨pw_and ha.p hb.p, snd_and ha.s hb.s⟩
theorem pmw_or (ha : PMT X W a tA mA) (hb : PMW X W (.BoolOp .Or (b :: rest) pos) tB mB) : PMW X W (.BoolOp .Or (a :: b :: rest) pos) (tOr tA tB) (mOr mA mB) := ⟨pw_or ha.p hb.p, snd_or ha.s hb.s⟩
theorem PMW.t (h : PMW X W a tA mA) : PMT X W a tA mA := ⟨h.p.pt, h.s⟩
theorem pm_one {op} (h : PM X W a ta ma) : PM X W (.BoolOp op [a] pos) ta ma := ⟨pe_one h.p, h.s⟩
theorem pm_and (ha : PM X W a ta ma) (hb : PM X W (.BoolOp .And (b :: rest) pos) tb mb) : PM X W (.BoolOp .And (a :: b :: rest) pos) (tAndV ta tb) (mAndV ma mb) := ⟨pe_and ha.p hb.p, snd_andV ha.s hb.s⟩
theorem pm_or (ha : PM X W a ta ma) (hb : PM X W (.BoolOp .Or (b :: rest) pos) tb mb) : PM X W (.BoolOp .Or (a :: b :: rest) pos) (tOrV ta tb) (mOrV ma mb) := ⟨pe_or ha.p hb.p, snd_orV ha.s hb.s⟩
theorem pm_not (ha : PM X W a ta ma) : PM X W (.UnaryOp .Not a pos) (tNotV ta) (mNotV ma) := ⟨pe_not ha.p, snd_notV ha.s⟩
theorem pm_ifE (hc : PMT X W c tA mA) (ha : PM X W a ta ma) (hb : PM X W b tb mb) : PM X W (.IfExp c a b pos) (tIf tA ta tb) (mIfE mA ma mb) := ⟨pe_ifExp hc.p ha.p hb.p, snd_ifE hc.s ha.s hb.s⟩
theorem pm_neg (ha : PM X W a ta ma) : PM X W (.UnaryOp .USub a pos) (tUn (rU fun i => .int (-i)) ta) (mNeg ma) := ⟨pe_un un_neg ha.p, snd_neg ha.s⟩
end
/-! ### slices of lists -/
def cutD (xs : List D) (lo hi : Option Int) : List D := (xs.drop (HT.sIx xs.length 0 lo)).take (HT.sIx xs.length xs.length hi - HT.sIx xs.length 0 lo)
def mNoPart : Rho → Res (Option Int) := fun _ => .ok none
def mPart (ma : Rho → Res Val) : Rho → Res (Option Int) := fun ρ => (ma ρ).bind fun a => lift (match a with
  | .sh (.int i) => some (some i)
  | _ => none)
def mSl (ma : Rho → Res Val) (ml mh : Rho → Res (Option Int)) : Rho → Res Val := fun ρ => (ma ρ).bind fun a => (ml ρ).bind fun l => (mh ρ).bind fun u => lift (match lit a with
  | some xs => some (.ow (cutD xs l u))
  | none => none)
section
variable {K : PySem.W.Frag} {mg : Str → Option Value} {W : WX} {ta : TE} {ma : Rho → Res Val} {tl th : TO} {ml mh : Rho → Res (Option Int)}
theorem snd_noPart : SndO K mg W tNoPart mNoPart := fun G0 H0 σ G H ρ Q I h => h G H none (Ext.refl I.s) rfl
theorem snd_part (ha : Snd K mg W ta ma) : SndO K mg W (tPart ta) (mPart ma) := by
  intro G0 H0 σ G H ρ Q I h
  refine ha G0 H0 σ G H ρ _ I (RR.bnd (Ext.refl I.s) h fun a G1 H1 x ea e1 r1 h1 => ?_)
  obtain ⟨c, ec, q⟩ := h1.lift
  split at ec
  · cases ec
    exact ⟨_, r1.int_, q G1 H1 _ e1 rfl⟩
  · cases ec
theorem snd_sl (ha : Snd K mg W ta ma) (hl : SndO K mg W tl ml) (hh : SndO K mg W th mh) : Snd K mg W (tSl (rSlL K) ta tl th) (mSl ma ml mh) := by
  intro G0 H0 σ G H ρ Q I h
  refine ha G0 H0 σ G H ρ _ I (RR.bnd (Ext.refl I.s) h fun a G1 H1 x ea e1 r1 h1 => ?_)
  refine hl G0 H0 σ G1 H1 ρ _ (I.ext' e1) (RR.bnd e1 h1 fun l G2 H2 y eb e2 r2 h2 => ?_)
  cases (show y = l from r2)
  have e02 := e1.trans e2
  refine hh G0 H0 σ G2 H2 ρ _ (I.ext' e02) (RR.bnd e02 h2 fun u G3 H3 z ez e3 r3 h3 => ?_)
  cases (show z = u from r3)
  obtain ⟨c, ec, q⟩ := h3.lift
  split at ec
  · rename_i xs e4
    cases ec
    obtain ⟨p, vs, rfl, hp, k⟩ := ((r1.ext e2).ext e3).list e3.s e4
    have e03 := e02.trans e3
    refine ⟨p, vs, rfl, hp, fun t ht => q G3 _ _ (e03.trans (Ext.newO e3.s ht)) ⟨t, _, rfl, upd_same, e3.s.free ht, e03.h.free ht, ?_⟩⟩
    unfold cutV cutD
    rw [k.length]
    exact (k.drop _).take _
  · cases ec
end
section
variable {X : Cx} {W : WX} {a : Expr} {ta : TE} {ma : Rho → Res Val} {lo hi : Option Expr} {tl th : TO} {ml mh : Rho → Res (Option Int)} {pos p2 : Pos}
theorem pmo_none : PMO X W none tNoPart mNoPart := ⟨po_none, snd_noPart⟩
theorem pmo_some (ha : PM X W a ta ma) : PMO X W (some a) (tPart ta) (mPart ma) := ⟨po_some ha.p, snd_part ha.s⟩
theorem pm_slice (ha : PM X W a ta ma) (hl : PMO X W lo tl ml) (hh : PMO X W hi th mh) : PM X W (.Subscript a (.Slice lo hi none p2) pos) (tSl (rSlL X.K) ta tl th) (mSl ma ml mh) := ⟨pe_slice sl_list ha.p hl.p hh.p, snd_sl ha.s hl.s hh.s⟩
end
end Mi

namespace Mi
open PySem PySem.Spec PyProof.Rows L2

/-! ### the slots change -/
/-- what a name may take -/
def store : Val → Option Val
  | .bw _ => none
  | r => some r
theorem VR.slot {K : PySem.W.Frag} {H0 H G' H' : Hp} {v : V} {r r' : Val} (e : Same H0 H) (h : VR K H G' H' v r) (es : store r = some r') : r' = r ∧ SlotR K H0 G' H' v r := by
  cases r with
  | sh d =>
    cases es
    exact ⟨rfl, h⟩
  | ow xs =>
    cases es
    obtain ⟨p, vs, a, b, c, d, k⟩ := h
    exact ⟨rfl, p, vs, a, b, c, e.free d, k⟩
  | bw xs => cases es
  | fz xs =>
    cases es
    exact ⟨rfl, h⟩
theorem set_get {α : Type} {l : List α} {i j : Nat} {a b : α} (h : (l.set i a)[j]? = some b) : (i = j ∧ b = a ∧ i < l.length) ∨ (i ≠ j ∧ l[j]? = some b) := by
  rw [List.getElem?_set] at h
  by_cases e : i = j
  · rw [if_pos e] at h
    split at h
    · exact .inl ⟨e, (Option.some.inj h).symm, by assumption⟩
    · cases h
  · rw [if_neg e] at h
    exact .inr ⟨e, h⟩
/-- a name takes a value that is new, or steady -/
theorem EnvS.put {K : PySem.W.Frag} {G0 H0 G H G' H' : Hp} {σ : L2.St} {ρ : Rho} {i : Nat} {v : V} {r r' : Val} (I : EnvS K G0 H0 σ G H ρ) (e : Ext G H G' H') (h : VR K H G' H' v r) (es : store r = some r') :
    EnvS K G0 H0 (σ.set i (some v)) G' H' (ρ.set i (some r')) := by
  have J := I.ext' e
  obtain ⟨rfl, hs⟩ := h.slot I.ext.h es
  refine ⟨J.ext, ?_, fun j s hj => ?_, fun j k p xs ys hj hk sj sk => ?_⟩
  · rw [List.length_set, List.length_set]
    exact J.len
  · rcases set_get hj with ⟨rfl, e2, hl⟩ | ⟨ne, e2⟩
    · cases e2
      refine ⟨v, ?_, hs⟩
      rw [List.getElem?_set, if_pos rfl, if_pos (by rw [J.len]; exact hl)]
    · obtain ⟨u, hu, k⟩ := J.slot j s e2
      refine ⟨u, ?_, k⟩
      rw [List.getElem?_set, if_neg ne]
      exact hu
  · have key : ∀ (j : Nat) (ys : List D), i ≠ j → ρ[j]? = some (some (.ow ys)) → σ[j]? = some (some (.ref p)) → H p ≠ none := fun j ys ne e2 s2 => by
      obtain ⟨u, hu, q, vs, eu, hq, _⟩ := I.slot j _ e2
      rw [s2] at hu
      cases hu
      cases eu
      rw [hq]
      exact Option.some_ne_none _
    have new : ∀ (xs : List D), (some (Val.ow xs) : Option Val) = some r' → v = .ref p → H p = none := fun xs e2 ev => by
      cases e2
      obtain ⟨q, vs, eq, _, _, hb, _⟩ := h
      rw [ev] at eq
      cases eq
      exact hb
    rcases set_get hj with ⟨e1, e2, hl⟩ | ⟨ne, e2⟩
    · rcases set_get hk with ⟨e3, e4, hl'⟩ | ⟨ne', e4⟩
      · rw [← e1, ← e3]
      · rcases set_get sj with ⟨_, s1, _⟩ | ⟨z, _⟩
        · rcases set_get sk with ⟨z, _⟩ | ⟨_, s2⟩
          · exact absurd z ne'
          · exact absurd (new xs e2 (Option.some.inj s1).symm) (key k ys ne' e4 s2)
        · exact absurd e1 z
    · rcases set_get sj with ⟨z, _⟩ | ⟨_, s1⟩
      · exact absurd z ne
      · rcases set_get hk with ⟨e3, e4, hl'⟩ | ⟨ne', e4⟩
        · rcases set_get sk with ⟨_, s2, _⟩ | ⟨z, _⟩
          · exact absurd (new ys e4 (Option.some.inj s2).symm) (key j xs ne e2 s1)
          · exact absurd e3 z
        · rcases set_get sk with ⟨z, _⟩ | ⟨_, s2⟩
          · exact absurd z ne'
          · exact J.apart j k p xs ys e2 e4 s1 s2
/-- an own list made steady (nothing happens) -/
def frz (i : Nat) (ρ : Rho) : Rho := match ρ[i]? with
  | some (some (.ow xs)) => ρ.set i (some (.sh (.list xs)))
  | _ => ρ
theorem EnvS.frz {K : PySem.W.Frag} {G0 H0 G H : Hp} {σ : L2.St} {ρ : Rho} (i : Nat) (I : EnvS K G0 H0 σ G H ρ) : ∃ G', EnvS K G0 H0 σ G' H (frz i ρ) ∧ Same G G' := by
  unfold Mi.frz
  split
  · rename_i xs e
    obtain ⟨v, hv, p, vs, rfl, hp, hg, h0, k⟩ := I.slot i _ e
    have s1 : Same G (upd G p (.lst vs)) := same_new hg
    refine ⟨upd G p (.lst vs), ⟨I.ext.frz hp h0 hg, ?_, fun j s hj => ?_, fun j k q xs ys hj hk sj sk => ?_⟩, s1⟩
    · rw [List.length_set]
      exact I.len
    · rcases set_get hj with ⟨rfl, e2, hl⟩ | ⟨ne, e2⟩
      · cases e2
        exact ⟨_, hv, .lst upd_same (k.mono s1)⟩
      · obtain ⟨u, hu, z⟩ := I.slot j s e2
        refine ⟨u, hu, ?_⟩
        cases s with
        | sh d => exact Rp.mono s1 z
        | ow ys =>
          obtain ⟨q, us, rfl, hq, gq, h0q, kq⟩ := z
          have nq : q ≠ p := fun z => ne (I.apart i j p xs ys e e2 hv (z ▸ hu))
          exact ⟨q, us, rfl, hq, by rw [upd_ne nq]; exact gq, h0q, kq.mono s1⟩
        | bw ys => exact z
        | fz ys =>
          obtain ⟨q, us, a, b, c⟩ := z
          exact ⟨q, us, a, s1.seq b, c.mono s1⟩
    · rcases set_get hj with ⟨_, e2, _⟩ | ⟨ne, e2⟩
      · cases e2
      · rcases set_get hk with ⟨_, e4, _⟩ | ⟨ne', e4⟩
        · cases e4
        · exact I.apart j k q xs ys e2 e4 sj sk
  · exact ⟨G, I, Same.refl _⟩
/-- an own list is changed -/
theorem EnvS.mut {K : PySem.W.Frag} {G0 H0 G H : Hp} {σ : L2.St} {ρ : Rho} {i : Nat} {p : Addr} {xs ys : List D} {us : List V} (I : EnvS K G0 H0 σ G H ρ) (e : ρ[i]? = some (some (.ow xs))) (hv : σ[i]? = some (some (.ref p))) (k : RpA K G us ys) :
    EnvS K G0 H0 σ G (upd H p (.lst us)) (ρ.set i (some (.ow ys))) := by
  obtain ⟨v, hv', q, vs, rfl, hp, hg, h0, kx⟩ := I.slot i _ e
  rw [hv] at hv'
  cases hv'
  refine ⟨⟨fun b o z => ?_, I.ext.g, fun b o z => ?_, I.ext.n⟩, ?_, fun j s hj => ?_, fun j l q xs' ys' hj hl sj sl => ?_⟩
  · rw [upd_ne (ne_of_none z h0)]
    exact I.ext.h _ _ z
  · rw [upd_ne (ne_of_none z hg)]
    exact I.ext.s _ _ z
  · rw [List.length_set]
    exact I.len
  · rcases set_get hj with ⟨rfl, e2, hl⟩ | ⟨ne, e2⟩
    · cases e2
      exact ⟨_, hv, p, us, rfl, upd_same, hg, h0, k⟩
    · obtain ⟨u, hu, z⟩ := I.slot j s e2
      refine ⟨u, hu, ?_⟩
      cases s with
      | sh d => exact z
      | ow zs =>
        obtain ⟨q, ws, rfl, hq, gq, h0q, kq⟩ := z
        have nq : q ≠ p := fun z => ne (I.apart i j p xs zs e e2 hv (z ▸ hu))
        exact ⟨q, ws, rfl, by rw [upd_ne nq]; exact hq, gq, h0q, kq⟩
      | bw zs => exact z
      | fz zs => exact z
  · have back : ∀ (j : Nat) (zs : List D), (ρ.set i (some (.ow ys)))[j]? = some (some (.ow zs)) → ∃ ws, ρ[j]? = some (some (.ow ws)) := fun j zs hj => by
      rcases set_get hj with ⟨rfl, _, _⟩ | ⟨_, e2⟩
      · exact ⟨xs, e⟩
      · exact ⟨zs, e2⟩
    obtain ⟨a, ha⟩ := back j xs' hj
    obtain ⟨b, hb⟩ := back l ys' hl
    exact I.apart j l q a b ha hb sj sl
/-- slots that are not looked at any more -/
theorem EnvS.drop {K : PySem.W.Frag} {G0 H0 G H : Hp} {σ : L2.St} {ρ : Rho} (i : Nat) (o : Option V) (I : EnvS K G0 H0 σ G H ρ) : EnvS K G0 H0 (σ.set i o) G H (ρ.set i none) := by
  refine ⟨I.ext, by rw [List.length_set, List.length_set]; exact I.len, fun j s hj => ?_, fun j l q xs ys hj hl sj sl => ?_⟩
  · rcases set_get hj with ⟨_, e2, _⟩ | ⟨ne, e2⟩
    · cases e2
    · rw [List.getElem?_set, if_neg ne]
      exact I.slot j s e2
  · rcases set_get hj with ⟨_, e2, _⟩ | ⟨ne, e2⟩
    · cases e2
    · rcases set_get hl with ⟨_, e4, _⟩ | ⟨ne', e4⟩
      · cases e4
      · rw [List.getElem?_set, if_neg ne] at sj
        rw [List.getElem?_set, if_neg ne'] at sl
        exact I.apart j l q xs ys e2 e4 sj sl

/-! ### statements -/
def sRes {α : Type} (m : Res α) (ρ : Rho) (f : α → Out) : Out := match m with
  | .ok a => f a
  | .ex n fs => .ex n fs ρ
  | .no => .no
theorem RR.out {K : PySem.W.Frag} {mg : Str → Option Value} {W : WX} {α β : Type} {R1 : Hp → Hp → Hp → β → α → Prop} {σ : L2.St} {G0 H0 G H : Hp} {ρ : Rho} {D : Ends} {Q1 : β → Hp → Prop} {m : Res α} {f : α → Out} (I : EnvS K G0 H0 σ G H ρ)
    (h : OutR K mg W G0 H0 G D (sRes m ρ f)) (k : ∀ a G1 H1 v, m = .ok a → Ext G H G1 H1 → R1 H G1 H1 v a → OutR K mg W G0 H0 G1 D (f a) → Q1 v H1) : RR K mg W R1 σ G H Q1 m := by
  cases m with
  | ok a => exact fun G1 H1 v e q => k a G1 H1 v rfl e q (OutR.up e.g h)
  | ex n fs => exact fun G' H' C d e a b => h σ G' H' C d (I.ext' e) e.g a b
  | no => exact h
def mSet (i : Nat) (me : Rho → Res Val) : Rho → Out := fun ρ => sRes (me ρ) ρ fun r => match store r with
  | some r' => .nx (ρ.set i (some r'))
  | none => .no
def mSeq (a b : Rho → Out) : Rho → Out := fun ρ => match a ρ with
  | .nx ρ' => b ρ'
  | o => o
def mSkip : Rho → Out := fun ρ => .nx ρ
def mRet (me : Rho → Res Val) : Rho → Out := fun ρ => sRes (me ρ) ρ fun r => match store r with
  | some r' => .rt r'
  | none => .no
def mRetV (i : Nat) : Rho → Out := fun ρ => match ρ[i]? with
  | some (some r) => .rt r
  | _ => .no
def mRetN : Rho → Out := fun _ => .rt (.sh .none)
def mIf (mc : Rho → Res Bool) (a b : Rho → Out) : Rho → Out := fun ρ => sRes (mc ρ) ρ fun k => if k = true then a ρ else b ρ
def mDrop (me : Rho → Res Val) : Rho → Out := fun ρ => sRes (me ρ) ρ fun _ => .nx ρ
def mBrk : Rho → Out := fun ρ => .bk ρ
def mCnt : Rho → Out := fun ρ => .ct ρ
def mFrz (i : Nat) (a : Rho → Out) : Rho → Out := fun ρ => a (frz i ρ)
def mRaise (n : Str) : Rho → Out := fun ρ => .ex n [] ρ
def mApp (i : Nat) (me : Rho → Res Val) : Rho → Out := fun ρ => match ρ[i]? with
  | some (some (.ow xs)) => sRes (me ρ) ρ fun r => match esc r with
    | some d => if xs.length < 100000 then .nx (ρ.set i (some (.ow (xs ++ [d])))) else .no
    | none => .no
  | _ => .no
def mPut (i : Nat) (mi me : Rho → Res Val) : Rho → Out := fun ρ => sRes (me ρ) ρ fun r => match esc r with
  | some d => match ρ[i]? with
    | some (some (.ow xs)) => sRes (mi ρ) ρ fun k => match k with
      | .sh (.int k) => match ixN xs.length k with
        | some j => .nx (ρ.set i (some (.ow (xs.set j d))))
        | none => .no
      | _ => .no
    | _ => .no
  | none => .no
def mAug (i : Nat) (mo : Val → Val → Option Val) (me : Rho → Res Val) : Rho → Out := fun ρ => match ρ[i]? with
  | some (some a) => sRes (me ρ) ρ fun b => match (mo (look a) b).bind store with
    | some c => .nx (ρ.set i (some c))
    | none => .no
  | _ => .no
section
variable {K : PySem.W.Frag} {mg : Str → Option Value} {W : WX} {te ti : TE} {me mi : Rho → Res Val} {tA : TT} {mA : Rho → Res Bool} {t u : TS} {a b : Rho → Out}
theorem snd_set {i : Nat} (h : Snd K mg W te me) : SndS K mg W (tAsg te (gName i)) (mSet i me) := by
  intro G0 H0 σ G H ρ D I q
  refine h G0 H0 σ G H ρ _ I (RR.out I q fun r G1 H1 v er e1 r1 q1 => ?_)
  split at q1
  · rename_i r' es
    exact q1 _ G1 H1 (I.put e1 r1 es) (Same.refl _)
  · exact q1.elim
theorem snd_seq (ha : SndS K mg W t a) (hb : SndS K mg W u b) : SndS K mg W (tSeq t u) (mSeq a b) := by
  intro G0 H0 σ G H ρ D I q
  refine ha G0 H0 σ G H ρ _ I ?_
  unfold mSeq at q
  cases ea : a ρ with
  | nx ρ' =>
    rw [ea] at q
    exact fun σ' G' H' I' s' => hb G0 H0 σ' G' H' ρ' D I' (OutR.up s' q)
  | rt r =>
    rw [ea] at q
    exact q
  | bk ρ' =>
    rw [ea] at q
    exact q
  | ct ρ' =>
    rw [ea] at q
    exact q
  | ex n fs ρ' =>
    rw [ea] at q
    exact q
  | no =>
    rw [ea] at q
    exact q.elim
theorem snd_skip : SndS K mg W tNext mSkip := fun G0 H0 σ G H ρ D I q => q σ G H I (Same.refl _)
theorem snd_ret (h : Snd K mg W te me) : SndS K mg W (tRet te) (mRet me) := by
  intro G0 H0 σ G H ρ D I q
  refine h G0 H0 σ G H ρ _ I (RR.out I q fun r G1 H1 v er e1 r1 q1 => ?_)
  split at q1
  · rename_i r' es
    obtain ⟨rfl, _⟩ := r1.slot I.ext.h es
    exact q1 G1 H1 v (I.ext.trans e1) (r1.back I.ext.h)
  · exact q1.elim
theorem snd_retV {i : Nat} : SndS K mg W (tRet (tVar i)) (mRetV i) := by
  intro G0 H0 σ G H ρ D I q
  unfold mRetV at q
  split at q
  · rename_i r e
    obtain ⟨v, hv, hs⟩ := I.slot i r e
    refine ⟨v, hv, q G H v I.ext ?_⟩
    cases r with
    | sh d => exact hs
    | ow xs => exact hs
    | bw xs => exact hs.elim
    | fz xs => exact hs
  · exact q.elim
theorem snd_retN : SndS K mg W tRetN mRetN := fun G0 H0 σ G H ρ D I q => q G H _ I.ext Rp.non
theorem snd_if (hc : SndT K mg W tA mA) (ha : SndS K mg W t a) (hb : SndS K mg W u b) : SndS K mg W (tIfS tA t u) (mIf mA a b) := by
  intro G0 H0 σ G H ρ D I q
  refine hc G0 H0 σ G H ρ _ I (RR.out I q fun k G1 H1 v er e1 r1 q1 => ?_)
  cases (show v = k from r1)
  cases k with
  | true => exact iteT (ha G0 H0 σ G1 H1 ρ D (I.ext' e1) q1)
  | false => exact iteF (hb G0 H0 σ G1 H1 ρ D (I.ext' e1) q1)
theorem snd_drop (h : Snd K mg W te me) : SndS K mg W (tDrop te) (mDrop me) := by
  intro G0 H0 σ G H ρ D I q
  exact h G0 H0 σ G H ρ _ I (RR.out I q fun r G1 H1 v er e1 r1 q1 => q1 σ G1 H1 (I.ext' e1) (Same.refl _))
theorem snd_brk : SndS K mg W tBreak mBrk := fun G0 H0 σ G H ρ D I q => q σ G H I (Same.refl _)
theorem snd_cnt : SndS K mg W tCont mCnt := fun G0 H0 σ G H ρ D I q => q σ G H I (Same.refl _)
theorem snd_frz {i : Nat} (ha : SndS K mg W t a) : SndS K mg W t (mFrz i a) := by
  intro G0 H0 σ G H ρ D I q
  obtain ⟨G', I', s'⟩ := I.frz i
  exact ha G0 H0 σ G' H _ D I' (OutR.up s' q)
theorem own_get {G0 H0 G H : Hp} {σ : L2.St} {ρ : Rho} {i : Nat} {xs : List D} (I : EnvS K G0 H0 σ G H ρ) (e : ρ[i]? = some (some (.ow xs))) : ∃ p vs, σ[i]? = some (some (.ref p)) ∧ H p = some (.lst vs) ∧ G p = none ∧ RpA K G vs xs := by
  obtain ⟨v, hv, p, vs, rfl, hp, hg, h0, k⟩ := I.slot i _ e
  exact ⟨p, vs, hv, hp, hg, k⟩
theorem snd_app {i : Nat} (h : Snd K mg W te me) : SndS K mg W (tDrop (tBM K "list" rAppend (tVar i) (tCons te tNil))) (mApp i me) := by
  intro G0 H0 σ G H ρ D I q
  unfold mApp at q
  split at q
  · rename_i xs e
    obtain ⟨p, vs, hv, hp, hg, k⟩ := own_get I e
    refine ⟨.ref p, hv, .inl ⟨rfl, vs, SqL.of hp⟩, ?_⟩
    refine h G0 H0 σ G H ρ _ I (RR.out I q fun r G1 H1 v er e1 r1 q1 => ?_)
    split at q1
    · rename_i d ed
      split at q1
      · rename_i hl
        obtain ⟨G2, x2, s2, kd⟩ := esc_one e1 r1.vw ed
        have I2 := I.ext' x2
        obtain ⟨p', vs', hv', hp', hg', k'⟩ := own_get I2 e
        rw [hv] at hv'
        cases hv'
        have ev : vs' = vs := by
          have z := x2.h _ _ hp
          rw [hp'] at z
          cases z
          rfl
        subst ev
        refine ⟨p, vs', v, rfl, rfl, hp', ?_, q1 σ G2 _ (I2.mut e hv (k'.append (.cons kd .nil))) s2⟩
        rw [k.length]
        exact sz_lt hl
      · exact q1.elim
    · exact q1.elim
  · exact q.elim
theorem snd_put {i : Nat} (hi : Snd K mg W ti mi) (h : Snd K mg W te me) : SndS K mg W (tAsg te (gSub (tVar i) ti rSetL)) (mPut i mi me) := by
  intro G0 H0 σ G H ρ D I q
  refine h G0 H0 σ G H ρ _ I (RR.out I q fun r G1 H1 v er e1 r1 q1 => ?_)
  split at q1
  · rename_i d ed
    obtain ⟨G2, x2, s2, kd⟩ := esc_one e1 r1.vw ed
    have I2 := I.ext' x2
    have q1 := OutR.up s2 q1
    split at q1
    · rename_i xs e
      obtain ⟨p, vs, hv, hp, hg, k⟩ := own_get I2 e
      refine ⟨.ref p, hv, ?_⟩
      refine hi G0 H0 σ G2 H1 ρ _ I2 (RR.out I2 q1 fun kk G3 H3 z ez e3 r3 q3 => ?_)
      split at q3
      · split at q3
        · rename_i kk j ej
          have I3 := I2.ext' e3
          obtain ⟨p', vs', hv', hp', hg', k'⟩ := own_get I3 e
          rw [hv] at hv'
          cases hv'
          refine ⟨p, vs', _, j, rfl, r3.int_, hp', ?_, q3 σ G3 _ (I3.mut e hv (RpA.set (Rp.mono e3.g kd) j k')) (Same.refl _)⟩
          rw [k'.length]
          exact ej
        · exact q3.elim
      · exact q3.elim
    · exact q1.elim
  · exact q1.elim
end
section
variable {X : Cx} {W : WX} {e i c : Expr} {te ti : TE} {me mi : Rho → Res Val} {tA : TT} {mA : Rho → Res Bool} {t u : TS} {a b : Rho → Out} {st : Stmt} {sts rest : List Stmt} {pos pos' : Pos}
theorem pms_set (i : Nat) {x : Str} (hN : X.N.Nodup) (h : PM X W e te me) (hi : X.N[i]? = some x := by rfl) (hx : Loc X.env.scope x := by first | exact Or.inl rfl | exact Or.inr rfl) (hs : swapsWith e (some (.Name x pos')) pos.line X.env = pure false := by rfl)
    (hf : X.fn x = true ∨ X.env.scope.names.lookup x = some .local := by first | exact .inl rfl | exact .inr rfl | assumption) : PMS X W (.Assign [.Name x pos'] e pos) (tAsg te (gName i)) (mSet i me) := ⟨ps_set hN hi hx h.p hs hf, snd_set h.s⟩
theorem pms_ret (h : PM X W e te me) : PMS X W (.Return (some e) pos) (tRet te) (mRet me) := ⟨ps_ret h.p, snd_ret h.s⟩
theorem pms_retV (i : Nat) {x : Str} (hN : X.N[i]? = some x := by rfl) (hv : Vis X.env.scope x := by first | exact Or.inl rfl | exact Or.inr (Or.inl rfl) | exact Or.inr (Or.inr rfl)) (hd : (x == ("__debug__" : Str)) = false := by decide)
    (hcd : (x == ("__classdict__" : Str)) = false := by decide) : PMS X W (.Return (some (.Name x pos')) pos) (tRet (tVar i)) (mRetV i) := ⟨ps_ret (pe_var hN hv hd hcd), snd_retV⟩
theorem pms_retN : PMS X W (.Return none pos) tRetN mRetN := ⟨ps_retN, snd_retN⟩
theorem pms_if (hc : PMT X W c tA mA) (ha : PMSs X W sts t a) (hb : PMSs X W rest u b) : PMS X W (.If c sts rest pos) (tIfS tA t u) (mIf mA a b) := ⟨ps_if hc.p ha.p hb.p, snd_if hc.s ha.s hb.s⟩
theorem pms_drop (h : PM X W e te me) (hs : swapsWith e none pos.line X.env = pure false := by rfl) : PMS X W (.Expr e pos) (tDrop te) (mDrop me) := ⟨ps_expr h.p hs, snd_drop h.s⟩
theorem pms_brk : PMS X W (.Break pos) tBreak mBrk := ⟨ps_break, snd_brk⟩
theorem pms_cnt : PMS X W (.Continue pos) tCont mCnt := ⟨ps_continue, snd_cnt⟩
theorem pms_pass : PMS X W (.Pass pos) tNext mSkip := ⟨ps_pass, snd_skip⟩
theorem pms_doc {x j} : PMS X W (.Expr (.Constant (.str x) j pos) pos') tNext mSkip := ⟨ps_doc, snd_skip⟩
theorem pmss_nil : PMSs X W [] tNext mSkip := ⟨pss_nil, snd_skip⟩
theorem pmss_cons (h : PMS X W st t a) (r : PMSs X W rest u b) : PMSs X W (st :: rest) (tSeq t u) (mSeq a b) := ⟨pss_cons h.p r.p, snd_seq h.s r.s⟩
theorem pmss_one (h : PMS X W st t a) : PMSs X W [st] t a := ⟨pss_one h.p, h.s⟩
theorem pmss_frz (i : Nat) (h : PMSs X W sts t a) : PMSs X W sts t (mFrz i a) := ⟨h.p, snd_frz h.s⟩
theorem pms_frz (i : Nat) (h : PMS X W st t a) : PMS X W st t (mFrz i a) := ⟨h.p, snd_frz h.s⟩
theorem pms_app (i : Nat) {x : Str} {p apos cpos : Pos} (h : PM X W e te me) (hN : X.N[i]? = some x := by rfl) (hv : Vis X.env.scope x := by first | exact Or.inl rfl | exact Or.inr (Or.inl rfl) | exact Or.inr (Or.inr rfl)) (hd : (x == ("__debug__" : Str)) = false := by decide)
    (hcd : (x == ("__classdict__" : Str)) = false := by decide)
    (hst : starEach [e] X.env = (false, eval e X.env) :: starEach [] X.env := by rfl)
    (hbase : attributeBase (.Name x p) "append" X.env (eval (.Name x p) X.env) = eval (.Name x p) X.env := by rfl)
    (hfew : ((backTo cpos (starEach [e] X.env)).all (fun x => !x.1) && (backToKw cpos (keywordEach [] X.env)).all (fun x => x.1.isSome) && decide ([e].length + ([] : List Keyword).length + (if ([] : List Keyword).isEmpty then 0 else 1) < 30)) = true := by rfl)
    (hline : (apos.endLine == cpos.line) = true := by rfl) (hplain : (backTo cpos (starEach [] X.env)).any (·.1) = false := by rfl)
    (hs : swapsWith (.Call (.Attribute (.Name x p) "append" apos) [e] [] cpos) none pos.line X.env = pure false := by rfl) :
    PMS X W (.Expr (.Call (.Attribute (.Name x p) "append" apos) [e] [] cpos) pos) (tDrop (tBM X.K "list" rAppend (tVar i) (tCons te tNil))) (mApp i me) :=
  ⟨ps_expr (pe_bm PySem.F.plainAttrs_list PySem.F.slot_list_append PySem.F.type_list_append mt_append (pe_var hN hv hd hcd) (pa_cons h.p pa_nil hst) hbase hfew hline hst hplain) hs, snd_app h.s⟩
theorem pms_put (n : Nat) {x : Str} {p sp : Pos} (hi : PM X W i ti mi) (h : PM X W e te me) (hN : X.N[n]? = some x := by rfl) (hv : Vis X.env.scope x := by first | exact Or.inl rfl | exact Or.inr (Or.inl rfl) | exact Or.inr (Or.inr rfl)) (hd : (x == ("__debug__" : Str)) = false := by decide)
    (hcd : (x == ("__classdict__" : Str)) = false := by decide) (ha : ∀ v, assign (.Subscript (.Name x p) i sp) X.env v = (do
      let ov ← holding [v] (eval (.Name x p) X.env); let iv ← holding [v, ov] (eval i X.env); standAt sp; holding [v, ov, iv] (setItem ov iv v); release [v, ov, iv] []) := by intro _; rfl)
    (hs : swapsWithSole [.Subscript (.Name x p) i sp] e pos.line X.env = pure false := by rfl) (hw : swappedStores [.Subscript (.Name x p) i sp] e X.env = pure none := by rfl)
    (h1 : (assignEach [.Subscript (.Name x p) i sp] X.env).map (·.2) = [assign (.Subscript (.Name x p) i sp) X.env] := by rfl) : PMS X W (.Assign [.Subscript (.Name x p) i sp] e pos) (tAsg te (gSub (tVar n) ti rSetL)) (mPut n mi me) :=
  ⟨ps_asg h.p (pg_sub (pe_var hN hv hd hcd) hi.p set_list ha) hs hw h1, snd_put hi.s h.s⟩
end
end Mi

namespace Mi
open PySem PySem.Spec PyProof.Rows L2

/-! ### targets -/
abbrev BP := D → Rho → Option Rho
/-- only the slots ts differ -/
def OnlyAt (ts : List Nat) (σ σ' : L2.St) : Prop := ∀ us : List Nat, (∀ t ∈ ts, t ∈ us) → wipe σ' us = wipe σ us
theorem OnlyAt.refl {ts : List Nat} {σ : L2.St} : OnlyAt ts σ σ := fun _ _ => rfl
theorem OnlyAt.both {ts us : List Nat} {σ σ1 σ2 : L2.St} (a : OnlyAt ts σ σ1) (b : OnlyAt us σ1 σ2) : OnlyAt (ts ++ us) σ σ2 := fun vs h => (b vs fun t q => h t (List.mem_append_right _ q)).trans (a vs fun t q => h t (List.mem_append_left _ q))
theorem set_same {α : Type} (l : List α) (i : Nat) (a b : α) : (l.set i a).set i b = l.set i b := by
  rw [List.set_set]
theorem wipe_set (i : Nat) (o : Option V) : ∀ (us : List Nat) (σ : L2.St), (i ∈ us → wipe (σ.set i o) us = wipe σ us) ∧ (i ∉ us → wipe (σ.set i o) us = (wipe σ us).set i o)
  | [], σ => ⟨fun h => absurd h (List.not_mem_nil), fun _ => rfl⟩
  | u :: us, σ => by
    have ih := wipe_set i o us σ
    refine ⟨fun h => ?_, fun h => ?_⟩
    · show (wipe (σ.set i o) us).set u none = (wipe σ us).set u none
      by_cases hu : i ∈ us
      · rw [ih.1 hu]
      · have e : i = u := by
          rcases List.mem_cons.mp h with e | e
          · exact e
          · exact absurd e hu
        rw [ih.2 hu, e, set_same]
    · have h1 : i ≠ u := fun e => h (e ▸ List.mem_cons_self)
      have h2 : i ∉ us := fun e => h (List.mem_cons_of_mem _ e)
      show (wipe (σ.set i o) us).set u none = ((wipe σ us).set u none).set i o
      rw [ih.2 h2, List.set_comm _ _ h1]
theorem onlyAt_set {i : Nat} {σ : L2.St} {o : Option V} : OnlyAt [i] σ (σ.set i o) := fun us h => (wipe_set i o us σ).1 (h i List.mem_cons_self)
theorem onlyAt_wipe : ∀ (vs : List Nat) (σ : L2.St), OnlyAt vs σ (wipe σ vs)
  | [], σ => OnlyAt.refl
  | v :: vs, σ => fun us h => by
    show wipe ((wipe σ vs).set v none) us = wipe σ us
    rw [(wipe_set v none us _).1 (h v List.mem_cons_self)]
    exact onlyAt_wipe vs σ us fun t q => h t (List.mem_cons_of_mem _ q)
def SndG (K : PySem.W.Frag) (g : TG) (bp : BP) (ts : List Nat) : Prop := ∀ (G0 H0 : Hp) (σ : L2.St) (G H : Hp) (ρ : Rho) (v : V) (d : D) (ρ' : Rho) (Q : L2.St → Hp → Prop), EnvS K G0 H0 σ G H ρ → Rp K G v d → bp d ρ = some ρ' → (∀ σ', EnvS K G0 H0 σ' G H ρ' → OnlyAt ts σ σ' → Q σ' H) → g v σ H Q
def bName (i : Nat) : BP := fun d ρ => some (ρ.set i (some (.sh d)))
def bNil : List D → Rho → Option Rho := fun ds ρ => match ds with
  | [] => some ρ
  | _ => none
def bCons (b : BP) (r : List D → Rho → Option Rho) : List D → Rho → Option Rho := fun ds ρ => match ds with
  | d :: ds => (b d ρ).bind (r ds)
  | [] => none
def bTup (r : List D → Rho → Option Rho) : BP := fun d ρ => match d with
  | .tuple ds => r ds ρ
  | _ => none
structure SndGs (K : PySem.W.Frag) (g : TGs) (bp : List D → Rho → Option Rho) (n : Nat) (ts : List Nat) : Prop where
  len : ∀ ds ρ ρ', bp ds ρ = some ρ' → ds.length = n
  run : ∀ (G0 H0 : Hp) (σ : L2.St) (G H : Hp) (ρ : Rho) (vs : List V) (ds : List D) (ρ' : Rho) (Q : L2.St → Hp → Prop), EnvS K G0 H0 σ G H ρ → RpA K G vs ds → bp ds ρ = some ρ' → (∀ σ', EnvS K G0 H0 σ' G H ρ' → OnlyAt ts σ σ' → Q σ' H) → g vs σ H Q
structure PMG (X : Cx) (tg : Expr) (g : TG) (bp : BP) (ts : List Nat) : Prop where
  p : PG X tg g
  s : SndG X.K g bp ts
structure PMGs (X : Cx) (tgs : List Expr) (g : TGs) (bp : List D → Rho → Option Rho) (n : Nat) (ts : List Nat) : Prop where
  p : PGs X tgs g
  s : SndGs X.K g bp n ts
theorem sndg_name {K : PySem.W.Frag} {i : Nat} : SndG K (gName i) (bName i) [i] := by
  intro G0 H0 σ G H ρ v d ρ' Q I h e q
  cases e
  exact q _ (I.put (r := .sh d) (Ext.refl I.s) h rfl) onlyAt_set
theorem sndg_nil {K : PySem.W.Frag} : SndGs K gNil bNil 0 [] := by
  refine ⟨fun ds ρ ρ' e => ?_, fun G0 H0 σ G H ρ vs ds ρ' Q I h e q => ?_⟩
  · cases ds with
    | nil => rfl
    | cons d ds => cases e
  · cases h with
    | nil =>
      cases e
      exact ⟨rfl, q _ I OnlyAt.refl⟩
    | cons a b => cases e
theorem sndg_cons {K : PySem.W.Frag} {g : TG} {bp : BP} {gs : TGs} {bs : List D → Rho → Option Rho} {n : Nat} {ts us : List Nat} (h1 : SndG K g bp ts) (h2 : SndGs K gs bs n us) : SndGs K (gCons g gs) (bCons bp bs) (n + 1) (ts ++ us) := by
  refine ⟨fun ds ρ ρ' e => ?_, fun G0 H0 σ G H ρ vs ds ρ' Q I h e q => ?_⟩
  · cases ds with
    | nil => cases e
    | cons d ds =>
      have e : (bp d ρ).bind (bs ds) = some ρ' := e
      cases e1 : bp d ρ with
      | none =>
        rw [e1] at e
        cases e
      | some ρ1 =>
        rw [e1] at e
        exact congrArg (· + 1) (h2.len ds ρ1 ρ' e)
  · cases h with
    | nil => cases e
    | @cons v vs d ds a b =>
      have e : (bp d ρ).bind (bs ds) = some ρ' := e
      cases e1 : bp d ρ with
      | none =>
        rw [e1] at e
        cases e
      | some ρ1 =>
        rw [e1] at e
        exact ⟨v, vs, rfl, h1 G0 H0 σ G H ρ v d ρ1 _ I a e1 fun σ1 I1 o1 => h2.run G0 H0 σ1 G H ρ1 vs ds ρ' Q I1 b e fun σ2 I2 o2 => q σ2 I2 (o1.both o2)⟩
theorem sndg_tup {K : PySem.W.Frag} {gs : TGs} {bs : List D → Rho → Option Rho} {n : Nat} {ts : List Nat} (h : SndGs K gs bs n ts) : SndG K (gTup K n gs) (bTup bs) ts := by
  intro G0 H0 σ G H ρ v d ρ' Q I hd e q
  unfold bTup at e
  split at e
  · cases hd with
    | tup ht ha => exact ⟨_, _, rfl, same_t I.s ht, by rw [ha.length]; exact h.len _ _ _ e, h.run G0 H0 σ G H ρ _ _ ρ' Q I ha e q⟩
  · cases e
section
variable {X : Cx} {g : TG} {bp : BP} {gs : TGs} {bs : List D → Rho → Option Rho} {n : Nat} {ts us : List Nat} {e : Expr} {es : List Expr} {pos : Pos} {k : Nat}
theorem pmg_name (i : Nat) {x : Str} (hN : X.N.Nodup) (hi : X.N[i]? = some x := by rfl) (hx : Loc X.env.scope x := by first | exact Or.inl rfl | exact Or.inr rfl) (hf : X.fn x = true ∨ X.env.scope.names.lookup x = some .local := by first | exact .inl rfl | exact .inr rfl | assumption) :
    PMG X (.Name x pos) (gName i) (bName i) [i] := ⟨pg_name hN hi hx hf, sndg_name⟩
theorem pmg_nil : PMGs X [] gNil bNil 0 [] := ⟨pgs_nil, sndg_nil⟩
theorem pmg_cons (h1 : PMG X e g bp ts) (h2 : PMGs X es gs bs n us) (hs : (assignEach (e :: es) X.env).map (·.2) = assign e X.env :: (assignEach es X.env).map (·.2) := by rfl) : PMGs X (e :: es) (gCons g gs) (bCons bp bs) (n + 1) (ts ++ us) := ⟨pgs_cons h1.p h2.p hs, sndg_cons h1.s h2.s⟩
theorem pmg_tup (hc : X.calm = true) (h : PMGs X es gs bs n ts) (hn : (assignEach es X.env).length = n := by rfl) (hst : (assignEach es X.env).findIdx? (·.1) = none := by rfl) : PMG X (.Tuple es k pos) (gTup X.K n gs) (bTup bs) ts := ⟨pg_tup hc h.p hn hst, sndg_tup h.s⟩
end

/-! ### what is walked -/
structure ItS (K : PySem.W.Frag) (Ga Ha : Hp) (J : It) (xs : List D) : Prop where
  go : ∀ i G H, Same Ga G → Same G H → i < xs.length → J.go i H
  stop : ∀ i G H, Same Ga G → Same G H → xs.length ≤ i → J.stop i H
  yld : ∀ i G H x H', Same Ga G → Same G H → i < xs.length → J.yld i H x H' → ∃ d G', xs[i]? = some d ∧ Ext G H G' H' ∧ Rp K G' x d
abbrev RI (K : PySem.W.Frag) : Hp → Hp → Hp → It → List D → Prop := fun _ G' H' J xs => ItS K G' H' J xs
def SndI (K : PySem.W.Frag) (mg : Str → Option Value) (W : WX) (wi : TI) (mi : Rho → Res (List D)) : Prop :=
  ∀ (G0 H0 : Hp) (σ : L2.St) (G H : Hp) (ρ : Rho) (R : It → Hp → Prop), EnvS K G0 H0 σ G H ρ → RR K mg W (RI K) σ G H R (mi ρ) → wi σ H R
structure PMI (X : Cx) (W : WX) (tg iter : Expr) (wi : TI) (mi : Rho → Res (List D)) : Prop where
  p : PI X tg iter wi
  s : SndI X.K X.mg W wi mi
/-- a list that stays as it is while it is walked -/
def fix : Val → Option (List D)
  | .sh (.list xs) => some xs
  | .ow xs => some xs
  | .fz xs => some xs
  | _ => none
def mIterL (ma : Rho → Res Val) : Rho → Res (List D) := fun ρ => (ma ρ).bind fun a => lift (fix a)
def mIterT (ma : Rho → Res Val) : Rho → Res (List D) := fun ρ => (ma ρ).bind fun a => lift (match a with
  | .sh (.tuple xs) => some xs
  | _ => none)
def rangeD (lo : Int) (n : Nat) : List D := (List.range n).map fun i => .int (lo + (i : Nat))
def mIter1 (ma : Rho → Res (List Val)) : Rho → Res (List D) := fun ρ => (ma ρ).bind fun as => lift (match as with
  | [.sh (.int j)] => if j.natAbs ≤ 1000000 then some (rangeD 0 j.toNat) else none
  | _ => none)
def mIter2 (ma : Rho → Res (List Val)) : Rho → Res (List D) := fun ρ => (ma ρ).bind fun as => lift (match as with
  | [.sh (.int i), .sh (.int j)] => if i.natAbs ≤ 1000000 ∧ j.natAbs ≤ 1000000 then some (rangeD i (j - i).toNat) else none
  | _ => none)
def numbered (k : Nat) : List D → List D
  | [] => []
  | d :: ds => .tuple [.int (k : Nat), d] :: numbered (k + 1) ds
def mIterE (ma : Rho → Res (List Val)) : Rho → Res (List D) := fun ρ => (ma ρ).bind fun as => lift (match as with
  | [a] => (fix a).map (numbered 0)
  | _ => none)
theorem fix_ok {K : PySem.W.Frag} {Gs Hs G H : Hp} {v : V} {r : Val} {xs : List D} (e : Ext Gs Hs G H) (h : VR K Hs G H v r) (ef : fix r = some xs) : ∃ a vs G', v = .ref a ∧ Ext Gs Hs G' H ∧ SqL K G' a vs ∧ RpA K G' vs xs := by
  unfold fix at ef
  split at ef
  · cases ef
    cases (show Rp K G v _ from h) with
    | lst q k => exact ⟨_, _, G, rfl, e, SqL.of q, k⟩
  · cases ef
    obtain ⟨p, vs, rfl, a, b, c, k⟩ := h
    exact ⟨p, vs, _, rfl, e.frz a c b, SqL.of upd_same, k.mono (same_new b)⟩
  · cases ef
    obtain ⟨p, vs, rfl, a, k⟩ := h
    exact ⟨p, vs, G, rfl, e, a, k⟩
  · cases ef
theorem its_list {K : PySem.W.Frag} {Ga Ha : Hp} {a : Addr} {vs : List V} {xs : List D} (h : SqL K Ga a vs) (k : RpA K Ga vs xs) : ItS K Ga Ha (Itl K a) xs := by
  have hv : ∀ {G H : Hp}, Same Ga G → Same G H → SqL K H a vs := fun e1 e2 => e2.seq (e1.seq h)
  refine ⟨fun i G H e1 e2 hi => ?_, fun i G H e1 e2 hi => ⟨vs, hv e1 e2, by rw [k.length]; exact hi⟩, fun i G H x H' e1 e2 hi y => ?_⟩
  · have hi' : i < vs.length := by rw [k.length]; exact hi
    exact ⟨vs, vs[i], hv e1 e2, List.getElem?_eq_getElem hi'⟩
  · obtain ⟨rfl, f⟩ := y
    obtain ⟨d, ed, rd⟩ := k.getV (f vs (hv e1 e2))
    exact ⟨d, G, ed, Ext.refl e2, Rp.mono e1 rd⟩
theorem its_tup {K : PySem.W.Frag} {Ga Ha : Hp} {a : Addr} {vs : List V} {xs : List D} (h : SqT K Ga a vs) (k : RpA K Ga vs xs) : ItS K Ga Ha (Itt K a) xs := by
  have hv : ∀ {G H : Hp}, Same Ga G → Same G H → SqT K H a vs := fun e1 e2 => same_t e2 (same_t e1 h)
  refine ⟨fun i G H e1 e2 hi => ?_, fun i G H e1 e2 hi => ⟨vs, hv e1 e2, by rw [k.length]; exact hi⟩, fun i G H x H' e1 e2 hi y => ?_⟩
  · have hi' : i < vs.length := by rw [k.length]; exact hi
    exact ⟨vs, vs[i], hv e1 e2, List.getElem?_eq_getElem hi'⟩
  · obtain ⟨rfl, f⟩ := y
    obtain ⟨d, ed, rd⟩ := k.getV (f vs (hv e1 e2))
    exact ⟨d, G, ed, Ext.refl e2, Rp.mono e1 rd⟩
theorem rangeD_len (lo : Int) (n : Nat) : (rangeD lo n).length = n := by
  unfold rangeD
  rw [List.length_map, List.length_range]
theorem rangeD_get {lo : Int} {n i : Nat} (h : i < n) : (rangeD lo n)[i]? = some (.int (lo + (i : Nat))) := by
  unfold rangeD
  rw [List.getElem?_map, List.getElem?_range h]
  rfl
theorem its_rng {K : PySem.W.Frag} {Ga Ha : Hp} {lo : Int} {n : Nat} : ItS K Ga Ha (Itr lo n) (rangeD lo n) := by
  refine ⟨fun i G H e1 e2 hi => ?_, fun i G H e1 e2 hi => ?_, fun i G H x H' e1 e2 hi y => ?_⟩
  · rw [rangeD_len] at hi
    exact hi
  · rw [rangeD_len] at hi
    exact hi
  · rw [rangeD_len] at hi
    obtain ⟨rfl, rfl⟩ := y
    exact ⟨_, G, rangeD_get hi, Ext.refl e2, .int _⟩
theorem numbered_len : ∀ (k : Nat) (ds : List D), (numbered k ds).length = ds.length
  | _, [] => rfl
  | k, d :: ds => congrArg (· + 1) (numbered_len (k + 1) ds)
theorem numbered_get : ∀ (k : Nat) (ds : List D) (i : Nat) (d : D), ds[i]? = some d → (numbered k ds)[i]? = some (.tuple [.int ((k + i : Nat) : Int), d])
  | _, [], i, d, h => by simp at h
  | k, x :: ds, 0, d, h => by
    simp at h
    subst h
    rfl
  | k, x :: ds, i + 1, d, h => by
    have h : ds[i]? = some d := by simpa using h
    have e : k + 1 + i = k + (i + 1) := by omega
    have q := numbered_get (k + 1) ds i d h
    rw [e] at q
    exact q
theorem its_enum {K : PySem.W.Frag} {Ga Ha : Hp} {a : Addr} {vs : List V} {xs : List D} (h : SqL K Ga a vs) (k : RpA K Ga vs xs) : ItS K Ga Ha (Ite K a) (numbered 0 xs) := by
  have hv : ∀ {G H : Hp}, Same Ga G → Same G H → SqL K H a vs := fun e1 e2 => e2.seq (e1.seq h)
  refine ⟨fun i G H e1 e2 hi => ?_, fun i G H e1 e2 hi => ⟨vs, hv e1 e2, by rw [k.length, ← numbered_len 0 xs]; exact hi⟩, fun i G H x H' e1 e2 hi y => ?_⟩
  · have hi' : i < vs.length := by rw [k.length, ← numbered_len 0 xs]; exact hi
    exact ⟨vs, vs[i], hv e1 e2, List.getElem?_eq_getElem hi'⟩
  · obtain ⟨T, z, rfl, nT, rfl, f⟩ := y
    obtain ⟨d, ed, rd⟩ := k.getV (f vs (hv e1 e2))
    refine ⟨_, _, numbered_get 0 xs i d ed, Ext.newS e2 nT, ?_⟩
    rw [Nat.zero_add]
    exact Rp.tup (.inl (.inl upd_same)) (.cons (.int _) (.cons (Rp.mono (e1.trans (same_new (e2.free nT))) rd) .nil))
section
variable {K : PySem.W.Frag} {mg : Str → Option Value} {W : WX} {te : TE} {me : Rho → Res Val} {ta : TA} {ma : Rho → Res (List Val)}
theorem sndi_list (h : Snd K mg W te me) : SndI K mg W (iList K te) (mIterL me) := by
  intro G0 H0 σ G H ρ R I q
  refine h G0 H0 σ G H ρ _ I (RR.bnd (Ext.refl I.s) q fun a G1 H1 x ea e1 r1 h1 => ?_)
  obtain ⟨xs, ex, q1⟩ := h1.lift
  obtain ⟨p, vs, G2, rfl, e2, hs, k⟩ := fix_ok e1 r1 ex
  exact ⟨p, rfl, ⟨vs, e2.s.seq hs⟩, q1 G2 H1 _ e2 (its_list hs k)⟩
theorem sndi_tup (h : Snd K mg W te me) : SndI K mg W (iTup K te) (mIterT me) := by
  intro G0 H0 σ G H ρ R I q
  refine h G0 H0 σ G H ρ _ I (RR.bnd (Ext.refl I.s) q fun a G1 H1 x ea e1 r1 h1 => ?_)
  obtain ⟨xs, ex, q1⟩ := h1.lift
  split at ex
  · cases ex
    cases (show Rp K G1 x _ from r1) with
    | tup ht k => exact ⟨_, rfl, ⟨_, same_t e1.s ht⟩, q1 G1 H1 _ e1 (its_tup ht k)⟩
  · cases ex
theorem sndi_1 (h : SndA K mg W ta ma) : SndI K mg W (iRng1 ta) (mIter1 ma) := by
  intro G0 H0 σ G H ρ R I q
  refine h G0 H0 σ G H ρ _ I (RR.bnd (Ext.refl I.s) q fun a G1 H1 x ea e1 r1 h1 => ?_)
  obtain ⟨xs, ex, q1⟩ := h1.lift
  split at ex
  · split at ex
    · cases ex
      obtain ⟨v, rfl, z⟩ := vrs1 r1
      cases z.int_
      exact ⟨_, rfl, by omega, by omega, q1 G1 H1 _ e1 its_rng⟩
    · cases ex
  · cases ex
theorem sndi_2 (h : SndA K mg W ta ma) : SndI K mg W (iRng2 ta) (mIter2 ma) := by
  intro G0 H0 σ G H ρ R I q
  refine h G0 H0 σ G H ρ _ I (RR.bnd (Ext.refl I.s) q fun a G1 H1 x ea e1 r1 h1 => ?_)
  obtain ⟨xs, ex, q1⟩ := h1.lift
  split at ex
  · split at ex
    · cases ex
      obtain ⟨v, u, rfl, z1, z2⟩ := vrs2 r1
      cases z1.int_
      cases z2.int_
      exact ⟨_, _, rfl, ⟨by omega, by omega, by omega, by omega⟩, q1 G1 H1 _ e1 its_rng⟩
    · cases ex
  · cases ex
theorem sndi_e (h : SndA K mg W ta ma) : SndI K mg W (iEnum K ta) (mIterE ma) := by
  intro G0 H0 σ G H ρ R I q
  refine h G0 H0 σ G H ρ _ I (RR.bnd (Ext.refl I.s) q fun a G1 H1 x ea e1 r1 h1 => ?_)
  obtain ⟨xs, ex, q1⟩ := h1.lift
  split at ex
  · rename_i r
    obtain ⟨v, rfl, z⟩ := vrs1 r1
    cases ef : fix r with
    | none =>
      rw [ef] at ex
      cases ex
    | some ys =>
      rw [ef] at ex
      cases ex
      obtain ⟨p, vs, G2, rfl, e2, hs, k⟩ := fix_ok e1 z ef
      exact ⟨p, vs, rfl, e2.s.seq hs, q1 G2 H1 _ e2 (its_enum hs k)⟩
  · cases ex
end
section
variable {X : Cx} {W : WX} {tg e a b : Expr} {te : TE} {me : Rho → Res Val} {ta : TA} {ma : Rho → Res (List Val)} {p pos tpos : Pos} {elts : List Expr} {kk : Nat}
theorem pmi_list (h : PM X W e te me) : PMI X W tg e (iList X.K te) (mIterL me) := ⟨pi_list h.p, sndi_list h.s⟩
theorem pmi_tup (h : PM X W e te me) : PMI X W tg e (iTup X.K te) (mIterT me) := ⟨pi_tup h.p, sndi_tup h.s⟩
theorem pmi_1 (hm : X.mg "range" = none) (h : PMA X W [a] ta ma) (hg : Gl X "range" := by rfl) (hs : starEach [a] X.env = [(false, eval a X.env)] := by rfl) : PMI X W tg (.Call (.Name "range" p) [a] [] pos) (iRng1 ta) (mIter1 ma) := ⟨pi_range1 hg hm h.p hs, sndi_1 h.s⟩
theorem pmi_2 (hm : X.mg "range" = none) (h : PMA X W [a, b] ta ma) (hg : Gl X "range" := by rfl) (hs : starEach [a, b] X.env = [(false, eval a X.env), (false, eval b X.env)] := by rfl) (hs2 : starEach [b] X.env = [(false, eval b X.env)] := by rfl) :
    PMI X W tg (.Call (.Name "range" p) [a, b] [] pos) (iRng2 ta) (mIter2 ma) := ⟨pi_range2 hg hm h.p hs hs2, sndi_2 h.s⟩
theorem pmi_e (hm : X.mg "enumerate" = none) (h : PMA X W [a] ta ma) (hg : Gl X "enumerate" := by rfl) (hs : starEach [a] X.env = [(false, eval a X.env)] := by rfl) : PMI X W (.Tuple elts kk tpos) (.Call (.Name "enumerate" p) [a] [] pos) (iEnum X.K ta) (mIterE ma) := ⟨pi_enum hg hm h.p hs, sndi_e h.s⟩
end

/-! ### loops -/
def loop (bp : BP) (body : Rho → Out) : List D → Rho → Out
  | [], ρ => .nx ρ
  | d :: ds, ρ => match bp d ρ with
    | none => .no
    | some ρ1 => match body ρ1 with
      | .nx ρ' => loop bp body ds ρ'
      | .ct ρ' => loop bp body ds ρ'
      | .bk ρ' => .nx ρ'
      | o => o
def mFor (mi : Rho → Res (List D)) (bp : BP) (body : Rho → Out) : Rho → Out := fun ρ => sRes (mi ρ) ρ fun xs => loop bp body xs ρ
theorem snd_for {K : PySem.W.Frag} {mg : Str → Option Value} {W : WX} {wi : TI} {mi : Rho → Res (List D)} {g : TG} {bp : BP} {tb : TS} {mb : Rho → Out} {ts : List Nat} (hi : SndI K mg W wi mi) (hg : SndG K g bp ts) (hb : SndS K mg W tb mb) : SndS K mg W (tFor wi g tb) (mFor mi bp mb) := by
  intro G0 H0 σ G H ρ D I q
  refine hi G0 H0 σ G H ρ _ I (RR.out I q fun xs G1 H1 J ex e1 hJ q1 => ?_)
  have hJ : ItS K G1 H1 J xs := hJ
  refine ⟨fun i m σ H => ∃ G ρ, EnvS K G0 H0 σ G H ρ ∧ Same G1 G ∧ i ≤ xs.length ∧ m = xs.length - i ∧ OutR K mg W G0 H0 G D (loop bp mb (xs.drop i) ρ), ⟨xs.length, G1, ρ, I.ext' e1, Same.refl _, Nat.zero_le _, rfl, q1⟩, ?_⟩
  rintro i m σ H ⟨G2, ρ2, I2, s2, hi2, rfl, q2⟩
  by_cases hlt : i < xs.length
  · refine .inr ⟨hJ.go i G2 H s2 I2.s hlt, fun σ' H' => ∃ G ρ, EnvS K G0 H0 σ' G H' ρ ∧ Same G1 G ∧ OutR K mg W G0 H0 G D (loop bp mb (xs.drop (i + 1)) ρ), fun σ' H' ⟨G3, ρ3, I3, s3, q3⟩ => ⟨xs.length - (i + 1), by omega, G3, ρ3, I3, s3, hlt, rfl, q3⟩, fun x H' y => ?_⟩
    obtain ⟨d, G3, ed, e3, rd⟩ := hJ.yld i G2 H x H' s2 I2.s hlt y
    have I3 := I2.ext' e3
    have hd : xs.drop i = d :: xs.drop (i + 1) := by
      rw [List.drop_eq_getElem_cons hlt]
      congr 1
      rw [List.getElem?_eq_getElem hlt] at ed
      exact Option.some.inj ed
    rw [hd] at q2
    unfold loop at q2
    split at q2
    · exact q2.elim
    · rename_i ρ4 eb
      refine hg G0 H0 σ G3 H' ρ2 x d ρ4 _ I3 rd eb fun σ4 I4 _ => ?_
      refine hb G0 H0 σ4 G3 H' ρ4 _ I4 ?_
      have q2 := OutR.up e3.g q2
      have s3 : Same G1 G3 := s2.trans e3.g
      cases eo : mb ρ4 with
      | nx ρ' =>
        rw [eo] at q2
        exact fun σ5 G5 H5 I5 s5 => ⟨G5, ρ', I5, s3.trans s5, OutR.up s5 q2⟩
      | ct ρ' =>
        rw [eo] at q2
        exact fun σ5 G5 H5 I5 s5 => ⟨G5, ρ', I5, s3.trans s5, OutR.up s5 q2⟩
      | bk ρ' =>
        rw [eo] at q2
        exact q2
      | rt r =>
        rw [eo] at q2
        exact q2
      | ex n fs ρ' =>
        rw [eo] at q2
        exact q2
      | no =>
        rw [eo] at q2
        exact q2.elim
  · have e : i = xs.length := by omega
    subst e
    rw [List.drop_length] at q2
    exact .inl ⟨hJ.stop _ G2 H s2 I2.s (Nat.le_refl _), q2 σ G2 H I2 (Same.refl _)⟩
/-- while, so many turns at most -/
def whil (mc : Rho → Res Bool) (body : Rho → Out) : Nat → Rho → Out
  | 0, _ => .no
  | n + 1, ρ => sRes (mc ρ) ρ fun k => if k = true then match body ρ with
      | .nx ρ' => whil mc body n ρ'
      | .ct ρ' => whil mc body n ρ'
      | .bk ρ' => .nx ρ'
      | o => o
    else .nx ρ
theorem snd_while {K : PySem.W.Frag} {mg : Str → Option Value} {W : WX} {tc : TT} {mc : Rho → Res Bool} {tb : TS} {mb : Rho → Out} (n : Nat) (hc : SndT K mg W tc mc) (hb : SndS K mg W tb mb) : SndS K mg W (tWhile tc tb) (whil mc mb n) := by
  intro G0 H0 σ G H ρ D I q
  refine ⟨fun m σ H => ∃ G ρ, EnvS K G0 H0 σ G H ρ ∧ OutR K mg W G0 H0 G D (whil mc mb m ρ), ⟨n, G, ρ, I, q⟩, ?_⟩
  rintro m σ H ⟨G2, ρ2, I2, q2⟩
  cases m with
  | zero => exact q2.elim
  | succ m =>
    refine hc G0 H0 σ G2 H ρ2 _ I2 (RR.out I2 q2 fun k G3 H3 v er e1 r1 q3 => ?_)
    cases (show v = k from r1)
    cases k with
    | false => exact iteF (q3 σ G3 H3 (I2.ext' e1) (Same.refl _))
    | true =>
      refine iteT ⟨fun σ' H' => ∃ G ρ, EnvS K G0 H0 σ' G H' ρ ∧ OutR K mg W G0 H0 G D (whil mc mb m ρ), fun σ' H' h => ⟨m, Nat.lt_succ_self m, h⟩, ?_⟩
      refine hb G0 H0 σ G3 H3 ρ2 _ (I2.ext' e1) ?_
      have q3 : OutR K mg W G0 H0 G3 D (match mb ρ2 with
        | .nx ρ' => whil mc mb m ρ'
        | .ct ρ' => whil mc mb m ρ'
        | .bk ρ' => .nx ρ'
        | o => o) := q3
      cases eo : mb ρ2 with
      | nx ρ' =>
        rw [eo] at q3
        exact fun σ5 G5 H5 I5 s5 => ⟨G5, ρ', I5, OutR.up s5 q3⟩
      | ct ρ' =>
        rw [eo] at q3
        exact fun σ5 G5 H5 I5 s5 => ⟨G5, ρ', I5, OutR.up s5 q3⟩
      | bk ρ' =>
        rw [eo] at q3
        exact q3
      | rt r =>
        rw [eo] at q3
        exact q3
      | ex n fs ρ' =>
        rw [eo] at q3
        exact q3
      | no =>
        rw [eo] at q3
        exact q3.elim
section
variable {X : Cx} {W : WX} {tg iter c : Expr} {wi : TI} {mi : Rho → Res (List D)} {g : TG} {bp : BP} {tb : TS} {mb : Rho → Out} {body : List Stmt} {pos : Pos} {tc : TT} {mc : Rho → Res Bool} {ts : List Nat}
theorem pms_for (hp : PassesOwn (model X.prog X.w) X.A X.env X.xe) (hc : X.calm = true) (hi : PMI X W tg iter wi mi) (hg : PMG X tg g bp ts) (hb : PMSs X W body tb mb) (hs : ∀ x, foldedSetIterable iter X.env x = pure x := by intro _; rfl) :
    PMS X W (.For tg iter body [] pos) (tFor wi g tb) (mFor mi bp mb) := ⟨ps_for hp hc hi.p hg.p hb.p hs, snd_for hi.s hg.s hb.s⟩
theorem pms_while (n : Nat) (hp : PassesOwn (model X.prog X.w) X.A X.env X.xe) (hc : PMT X W c tc mc) (hb : PMSs X W body tb mb) : PMS X W (.While c body [] pos) (tWhile tc tb) (whil mc mb n) := ⟨ps_while hp hc.p hb.p, snd_while n hc.s hb.s⟩
end
end Mi

namespace Mi
open PySem PySem.Spec PyProof.Rows L2

/-! ### comprehensions -/
def wipeR (ρ : Rho) : List Nat → Rho
  | [] => ρ
  | v :: vs => (wipeR ρ vs).set v none
theorem EnvS.wipe {K : PySem.W.Frag} {G0 H0 G H : Hp} {σ : L2.St} {ρ : Rho} (I : EnvS K G0 H0 σ G H ρ) : ∀ vs : List Nat, EnvS K G0 H0 (L2.wipe σ vs) G H (wipeR ρ vs)
  | [] => I
  | v :: vs => (I.wipe vs).drop v none
def comp (bp : BP) (mt : Rho → Res Bool) (me : Rho → Res Val) (ρ : Rho) : List D → List D → Res (List D)
  | [], acc => .ok acc
  | d :: ds, acc => match bp d ρ with
    | none => .no
    | some ρ1 => match mt ρ1 with
      | .ok b => if b = true then match me ρ1 with
          | .ok r => match esc r with
            | some x => if acc.length < 100000 then comp bp mt me ρ ds (acc ++ [x]) else .no
            | none => .no
          | _ => .no
        else comp bp mt me ρ ds acc
      | _ => .no
def mComp (mi : Rho → Res (List D)) (bp : BP) (mt : Rho → Res Bool) (me : Rho → Res Val) (vs : List Nat) : Rho → Res Val := fun ρ => (mi ρ).bind fun xs => match comp bp mt me (wipeR ρ vs) xs [] with
  | .ok ys => .ok (.ow ys)
  | _ => .no
def W0 : WX := fun _ _ _ _ => False
theorem Ext.mutN {G1 H1 G H : Hp} {p : Addr} {o : HO} (e : Ext G1 H1 G H) (h : H1 p = none) (g : G p = none) : Ext G1 H1 G (upd H p o) := by
  refine ⟨fun b u q => ?_, e.g, fun b u q => ?_, e.n⟩
  · rw [upd_ne (ne_of_none q h)]
    exact e.h _ _ q
  · rw [upd_ne (ne_of_none q g)]
    exact e.s _ _ q
theorem snd_comp {K : PySem.W.Frag} {mg : Str → Option Value} {W : WX} {wi : TI} {mi : Rho → Res (List D)} {g : TG} {bp : BP} {ts : List Nat} {tt : TT} {mt : Rho → Res Bool} {te : TE} {me : Rho → Res Val} {vs : List Nat} (hi : SndI K mg W wi mi) (hg : SndG K g bp ts) (hts : ∀ t ∈ ts, t ∈ vs)
    (ht : SndT K mg W0 tt mt) (he : Snd K mg W0 te me) : Snd K mg W (tLc wi g tt te vs) (mComp mi bp mt me vs) := by
  intro G0 H0 σ G H ρ Q I q
  refine hi G0 H0 σ G H ρ _ I (RR.bnd (Ext.refl I.s) q fun xs G1 H1 J ex e1 hJ q1 => ?_)
  have hJ : ItS K G1 H1 J xs := hJ
  intro Dl nD
  have hD : H Dl = none := e1.h.free nD
  have gD : G1 Dl = none := e1.s.free nD
  have I1 := (I.ext' e1).wipe vs
  split at q1
  · rename_i ys ey
    refine ⟨fun i m H2 => ∃ G2 acc av, Ext G1 H1 G2 H2 ∧ G2 Dl = none ∧ H2 Dl = some (.lst av) ∧ RpA K G2 av acc ∧ i ≤ xs.length ∧ m = xs.length - i ∧ comp bp mt me (wipeR ρ vs) (xs.drop i) acc = .ok ys,
      ⟨xs.length, G1, [], [], Ext.newO e1.s nD, gD, upd_same, .nil, Nat.zero_le _, rfl, ey⟩, ?_⟩
    rintro i m H2 ⟨G2, acc, av, e2, g2, h2, ka, hi2, rfl, ec⟩
    by_cases hlt : i < xs.length
    · refine .inr ⟨hJ.go i G2 H2 e2.g e2.s hlt, fun H' => ∃ G2 acc av, Ext G1 H1 G2 H' ∧ G2 Dl = none ∧ H' Dl = some (.lst av) ∧ RpA K G2 av acc ∧ comp bp mt me (wipeR ρ vs) (xs.drop (i + 1)) acc = .ok ys,
        fun H' ⟨G3, acc3, av3, z1, z2, z3, z4, z5⟩ => ⟨xs.length - (i + 1), by omega, G3, acc3, av3, z1, z2, z3, z4, hlt, rfl, z5⟩, fun x H' y => ?_⟩
      obtain ⟨d, G3, ed, e3, rd⟩ := hJ.yld i G2 H2 x H' e2.g e2.s hlt y
      have hd : xs.drop i = d :: xs.drop (i + 1) := by
        rw [List.drop_eq_getElem_cons hlt]
        congr 1
        rw [List.getElem?_eq_getElem hlt] at ed
        exact Option.some.inj ed
      rw [hd] at ec
      unfold comp at ec
      split at ec
      · cases ec
      · rename_i ρ4 eb
        have e13 := e2.trans e3
        refine hg G0 H0 _ G3 H' (wipeR ρ vs) x d ρ4 _ (I1.ext' e13) rd eb fun σ4 I4 oa => ⟨?_, ?_⟩
        · exact (oa vs hts).trans (onlyAt_wipe vs σ vs fun t q => q)
        · split at ec
          · rename_i b et
            refine ht G0 H0 σ4 G3 H' ρ4 _ I4 ?_
            rw [et]
            intro G4 H4 b' e4 eb'
            cases (show b' = b from eb')
            cases b with
            | false =>
              have ne34 := e3.trans e4
              refine iteF ⟨G4, acc, av, e13.trans e4, ?_, ne34.h _ _ h2, ka.mono ne34.g, ec⟩
              exact ne34.n Dl (by rw [h2]; exact Option.some_ne_none _) g2
            | true =>
              refine iteT (he G0 H0 σ4 G4 H4 ρ4 _ (I4.ext' e4) ?_)
              have ec : (match me ρ4 with
                | .ok r => match esc r with
                  | some x => if acc.length < 100000 then comp bp mt me (wipeR ρ vs) (xs.drop (i + 1)) (acc ++ [x]) else .no
                  | none => .no
                | _ => .no) = .ok ys := ec
              split at ec
              · rename_i r er
                rw [er]
                intro G5 H5 v e5 r5
                split at ec
                · rename_i x' ex'
                  split at ec
                  · rename_i hl
                    obtain ⟨G6, e6, s6, k6⟩ := esc_one e5 r5.vw ex'
                    have e26 := (e3.trans e4).trans e6
                    have g6 : G6 Dl = none := e26.n Dl (by rw [h2]; exact Option.some_ne_none _) g2
                    refine ⟨av, e26.h _ _ h2, ?_, G6, acc ++ [x'], av ++ [v], ((e2.trans e26).mutN nD g6), g6, upd_same, (ka.mono e26.g).append (.cons k6 .nil), ec⟩
                    rw [ka.length]
                    exact sz_lt hl
                  · cases ec
                · cases ec
              · cases ec
          · cases ec
    · have e : i = xs.length := by omega
      subst e
      rw [List.drop_length] at ec
      have ec : Res.ok acc = Res.ok ys := ec
      cases ec
      exact .inl ⟨hJ.stop _ G2 H2 e2.g e2.s (Nat.le_refl _), q1 G2 H2 _ (e1.trans e2) ⟨Dl, av, rfl, h2, g2, hD, ka⟩⟩
  · exact q1.elim
def mYes : Rho → Res Bool := fun _ => .ok true
theorem snd_yes {K : PySem.W.Frag} {mg : Str → Option Value} {W : WX} : SndT K mg W tYes mYes := fun G0 H0 σ G H ρ Q I q => q G H true (Ext.refl I.s) rfl
structure PMTs (X : Cx) (W : WX) (ifs : List Expr) (tt : TT) (mt : Rho → Res Bool) : Prop where
  p : PTs X ifs tt
  s : SndT X.K X.mg W tt mt
theorem pmts_nil {X : Cx} {W : WX} : PMTs X W [] tYes mYes := ⟨pts_nil, snd_yes⟩
theorem pmts_one {X : Cx} {W : WX} {c : Expr} {tt : TT} {mt : Rho → Res Bool} (h : PMT X W c tt mt) : PMTs X W [c] tt mt := ⟨pts_one h.p, h.s⟩
section
variable {X : Cx} {W : WX} {elt tg iter : Expr} {ifs : List Expr} {scope : Scope} {own : List (Str × Nat)} {pos : Pos} {wi : TI} {mi : Rho → Res (List D)} {g : TG} {bp : BP} {ts : List Nat} {tt : TT} {mt : Rho → Res Bool} {te : TE} {me : Rho → Res Val}
theorem pm_lc (own : List (Str × Nat)) (hc : X.calm = true) (hN : X.N.Nodup) (hi : PMI X W tg iter wi mi) (ok : BlkOk X.N X.env.scope scope own) (hts : ∀ t ∈ ts, t ∈ own.map (·.2))
    (hg : ∀ (s : Shared) (H : Hp) (C : Addr) (cl : List (Str × Addr)) (fp : List Addr), PMG (X.blk s H scope (compEnvC scope cl C X.env) fp) tg g bp ts)
    (ht : ∀ (s : Shared) (H : Hp) (C : Addr) (cl : List (Str × Addr)) (fp : List Addr), PMTs (X.blk s H scope (compEnvC scope cl C X.env) fp) W0 ifs tt mt)
    (he : ∀ (s : Shared) (H : Hp) (C : Addr) (cl : List (Str × Addr)) (fp : List Addr), PM (X.blk s H scope (compEnvC scope cl C X.env) fp) W0 elt te me) (hs : ∀ x, foldedSetIterable iter X.env x = pure x := by intro _; rfl) :
    PM X W (.ListComp elt [⟨tg, iter, ifs, 0⟩] scope pos) (tLc wi g tt te (own.map (·.2))) (mComp mi bp mt me (own.map (·.2))) := by
  have h1 := hg X.s_0 X.H_0 0 [] []
  have h2 := ht X.s_0 X.H_0 0 [] []
  have h3 := he X.s_0 X.H_0 0 [] []
  exact ⟨pe_lc hc hN hi.p ok (fun s H C cl fp => (hg s H C cl fp).p) (fun s H C cl fp => (ht s H C cl fp).p) (fun s H C cl fp => (he s H C cl fp).p) hs, snd_comp hi.s h1.s hts h2.s h3.s⟩
theorem pms_setLc (i : Nat) (own : List (Str × Nat)) {y : Str} {py spos : Pos} (hc : X.calm = true) (hN : X.N.Nodup) (hy : X.N[i]? = some y) (hyl : X.env.scope.names.lookup y = some .local)
    (hsw : swapsWith (.ListComp elt [⟨tg, iter, ifs, 0⟩] scope pos) (some (.Name y py)) spos.line X.env = pure true) (hi : PMI X W tg iter wi mi) (ok : BlkOk X.N X.env.scope scope own) (hts : ∀ t ∈ ts, t ∈ own.map (·.2))
    (hg : ∀ (s : Shared) (H : Hp) (C : Addr) (cl : List (Str × Addr)) (fp : List Addr), PMG (X.blk s H scope (compEnvC scope cl C X.env) fp) tg g bp ts)
    (ht : ∀ (s : Shared) (H : Hp) (C : Addr) (cl : List (Str × Addr)) (fp : List Addr), PMTs (X.blk s H scope (compEnvC scope cl C X.env) fp) W0 ifs tt mt)
    (he : ∀ (s : Shared) (H : Hp) (C : Addr) (cl : List (Str × Addr)) (fp : List Addr), PM (X.blk s H scope (compEnvC scope cl C X.env) fp) W0 elt te me) (hs : ∀ x, foldedSetIterable iter X.env x = pure x := by intro _; rfl) :
    PMS X W (.Assign [.Name y py] (.ListComp elt [⟨tg, iter, ifs, 0⟩] scope pos) spos) (tAsg (tLc wi g tt te (own.map (·.2))) (gName i)) (mSet i (mComp mi bp mt me (own.map (·.2)))) := by
  have h1 := hg X.s_0 X.H_0 0 [] []
  have h2 := ht X.s_0 X.H_0 0 [] []
  have h3 := he X.s_0 X.H_0 0 [] []
  exact ⟨ps_setLc hc hN hy hyl hsw hi.p ok (fun s H C cl fp => (hg s H C cl fp).p) (fun s H C cl fp => (ht s H C cl fp).p) (fun s H C cl fp => (he s H C cl fp).p) hs, snd_set (snd_comp hi.s h1.s hts h2.s h3.s)⟩
end
/-! ### list(range(a, b)) -/
def mListR1 (ma : Rho → Res Val) : Rho → Res Val := fun ρ => (ma ρ).bind fun a => lift (match a with
  | .sh (.int j) => if j.natAbs ≤ 1000000 then some (.ow (rangeD 0 j.toNat)) else none
  | _ => none)
def mListR2 (ma mb : Rho → Res Val) : Rho → Res Val := fun ρ => (ma ρ).bind fun a => (mb ρ).bind fun b => lift (match a, b with
  | .sh (.int i), .sh (.int j) => if i.natAbs ≤ 1000000 ∧ j.natAbs ≤ 1000000 then some (.ow (rangeD i (j - i).toNat)) else none
  | _, _ => none)
theorem rpa_range {K : PySem.W.Frag} {G : Hp} {a b : Int} : RpA K G (rgV a b) (rangeD a (b - a).toNat) := by
  unfold rgV rangeD
  generalize (List.range (b - a).toNat) = l
  induction l with
  | nil => exact .nil
  | cons n l ih => exact .cons (.int _) ih
section
variable {K : PySem.W.Frag} {mg : Str → Option Value} {W : WX} {ta tb : TE} {ma mb : Rho → Res Val}
theorem snd_listR1 (ha : Snd K mg W ta ma) : Snd K mg W (tLstRg (tRg1 ta)) (mListR1 ma) := by
  intro G0 H0 σ G H ρ Q I h
  refine ha G0 H0 σ G H ρ _ I (RR.bnd (Ext.refl I.s) h fun a G1 H1 x ea e1 r1 h1 => ?_)
  obtain ⟨c, ec, q⟩ := h1.lift
  split at ec
  · split at ec
    · rename_i j hj
      cases ec
      refine ⟨j, r1.int_, ⟨by omega, by omega, by omega, by omega, by omega⟩, fun p hp => ?_⟩
      have z := q G1 _ (.ref p) (e1.trans (Ext.newO e1.s hp)) ⟨p, rgV 0 j, rfl, upd_same, e1.s.free hp, e1.h.free hp, by simpa using rpa_range (a := 0) (b := j)⟩
      exact z
    · cases ec
  · cases ec
theorem snd_listR2 (ha : Snd K mg W ta ma) (hb : Snd K mg W tb mb) : Snd K mg W (tLstRg (tRg2 ta tb)) (mListR2 ma mb) := by
  intro G0 H0 σ G H ρ Q I h
  refine ha G0 H0 σ G H ρ _ I (RR.bnd (Ext.refl I.s) h fun a G1 H1 x ea e1 r1 h1 => ?_)
  refine hb G0 H0 σ G1 H1 ρ _ (I.ext' e1) (RR.bnd e1 h1 fun b G2 H2 y eb e2 r2 h2 => ?_)
  obtain ⟨c, ec, q⟩ := h2.lift
  split at ec
  · split at ec
    · rename_i i j hj
      cases ec
      have e02 := e1.trans e2
      refine ⟨i, j, r1.int_, r2.int_, ⟨by omega, by omega, by omega, by omega, by omega⟩, fun p hp => ?_⟩
      exact q G2 _ (.ref p) (e02.trans (Ext.newO e2.s hp)) ⟨p, rgV i j, rfl, upd_same, e2.s.free hp, e02.h.free hp, rpa_range⟩
    · cases ec
  · cases ec
end
section
variable {X : Cx} {W : WX} {a b : Expr} {ta tb : TE} {ma mb : Rho → Res Val} {p pos p' pos' : Pos}
theorem pm_listR1 (hc : X.calm = true) (ml : X.mg "list" = none) (mr : X.mg "range" = none) (ha : PM X W a ta ma) (gl : Gl X "list" := by rfl) (gr : Gl X "range" := by rfl) (na : starEach [a] X.env = (false, eval a X.env) :: starEach [] X.env := by rfl)
    (nb : starEach [Expr.Call (.Name "range" p') [a] [] pos'] X.env = (false, eval (Expr.Call (.Name "range" p') [a] [] pos') X.env) :: starEach [] X.env := by rfl) :
    PM X W (.Call (.Name "list" p) [.Call (.Name "range" p') [a] [] pos'] [] pos) (tLstRg (tRg1 ta)) (mListR1 ma) := ⟨pe_listRg hc gl ml (prg_1 gr mr ha.p na) nb, snd_listR1 ha.s⟩
theorem pm_listR2 (hc : X.calm = true) (ml : X.mg "list" = none) (mr : X.mg "range" = none) (ha : PM X W a ta ma) (hb : PM X W b tb mb) (gl : Gl X "list" := by rfl) (gr : Gl X "range" := by rfl) (na : starEach [a, b] X.env = (false, eval a X.env) :: starEach [b] X.env := by rfl)
    (nb : starEach [b] X.env = (false, eval b X.env) :: starEach [] X.env := by rfl) (hp : (backTo pos' (starEach [b] X.env)).any (·.1) = false := by rfl)
    (nc : starEach [Expr.Call (.Name "range" p') [a, b] [] pos'] X.env = (false, eval (Expr.Call (.Name "range" p') [a, b] [] pos') X.env) :: starEach [] X.env := by rfl) :
    PM X W (.Call (.Name "list" p) [.Call (.Name "range" p') [a, b] [] pos'] [] pos) (tLstRg (tRg2 ta tb)) (mListR2 ma mb) := ⟨pe_listRg hc gl ml (prg_2 gr mr ha.p hb.p na nb hp) nc, snd_listR2 ha.s hb.s⟩
end
end Mi

namespace Mi
open PySem PySem.Spec PyProof.Rows L2

/-! ### a def's promise: it follows its mirror -/
def isArg : Val → Bool
  | .sh _ => true
  | .fz _ => true
  | _ => false
def wOf (E : XK) : WX := fun cls d _ H => E cls d H
def spM (K : PySem.W.Frag) (mg : Str → Option Value) (n : Nat) (M : List Val → Res Val) : Sp := fun vs H Q E => ∃ G as, Same G H ∧ VRs K H G H vs as ∧ as.all isArg = true ∧ vs.length = n ∧ RR K mg (wOf E) (RV K) [] G H Q (M as)
/-- as the layer's FnOk, where no repr is under way -/
structure FnG (P : Program) (w : World) (K : PySem.W.Frag) (mg : Str → Option Value) (base : Heap) (k : Nat) (f : Addr) (fd : FuncData) (ps : List Str) (sp : Sp) : Prop where
  len : ∀ vs H Q E, sp vs H Q E → vs.length = ps.length
  go : ∀ (A : Around) (outer : List Env) (s : Shared) (H : Hp) (args : Args) (us : List Value) (vs : List V) (Q : VK) (E : XK), A.guards = some [] → Room k A → Env0 P w K mg base A outer s H → BindsTo s fd args (ps.zip us) → Vals vs us → sp vs H Q E →
    codeAny (model P w) A (.call (.ref f) args) (CR (L2.CX P w) outer P w H s Q E) s
theorem FnG.mono {P : Program} {w : World} {K : PySem.W.Frag} {mg : Str → Option Value} {base : Heap} {j k : Nat} {f : Addr} {fd : FuncData} {ps : List Str} {sp : Sp} (F : FnG P w K mg base j f fd ps sp) (h : j ≤ k) : FnG P w K mg base k f fd ps sp :=
  ⟨F.len, fun A outer s H args us vs Q E gd hr => F.go A outer s H args us vs Q E gd (hr.mono h)⟩

/-! ### calls of defs -/
def pas : Val → Val
  | .sh d => .sh d
  | .ow xs => .sh (.list xs)
  | .bw xs => .sh (.list xs)
  | .fz xs => .fz xs
def isBw : Val → Bool
  | .bw _ => true
  | _ => false
def flatR : Val → Bool
  | .sh d => flatD d
  | .ow xs => xs.all flatD
  | _ => false
def mDef (M : List Val → Res Val) (ma : Rho → Res (List Val)) : Rho → Res Val := fun ρ => (ma ρ).bind fun as => match M (as.map pas) with
  | .ok r => if (!as.any isBw || flatR r) = true then .ok r else .no
  | .ex n fs => if fs.all (fun p => flatD p.2) = true then .ex n fs else .no
  | .no => .no
theorem pas_arg (as : List Val) : (as.map pas).all isArg = true := by
  rw [List.all_map, List.all_eq_true]
  intro r _
  cases r <;> rfl
/-- cells taken into a region -/
def VC (K : PySem.W.Frag) (G H : Hp) (v : V) : Val → Prop
  | .sh d => Rp K G v d
  | .ow xs => ∃ p vs, v = .ref p ∧ H p = some (.lst vs) ∧ RpA K G vs xs
  | .bw xs => ∃ p vs, v = .ref p ∧ H p = some (.lst vs) ∧ RpA K G vs xs
  | .fz xs => ∃ p vs, v = .ref p ∧ SqL K G p vs ∧ RpA K G vs xs
theorem VR.vc {K : PySem.W.Frag} {B G H : Hp} {v : V} {r : Val} (h : VR K B G H v r) : VC K G H v r := by
  cases r with
  | sh d => exact h
  | ow xs =>
    obtain ⟨p, vs, a, b, _, _, k⟩ := h
    exact ⟨p, vs, a, b, k⟩
  | bw xs => exact h
  | fz xs => exact h
theorem VC.up {K : PySem.W.Frag} {G G' H : Hp} {v : V} {r : Val} (e : Same G G') (h : VC K G H v r) : VC K G' H v r := by
  cases r with
  | sh d => exact Rp.mono e h
  | ow xs =>
    obtain ⟨p, vs, a, b, k⟩ := h
    exact ⟨p, vs, a, b, k.mono e⟩
  | bw xs =>
    obtain ⟨p, vs, a, b, k⟩ := h
    exact ⟨p, vs, a, b, k.mono e⟩
  | fz xs =>
    obtain ⟨p, vs, a, b, k⟩ := h
    exact ⟨p, vs, a, e.seq b, k.mono e⟩
theorem cell_in {K : PySem.W.Frag} {G H : Hp} {p : Addr} {vs : List V} {xs : List D} (s : Same G H) (hp : H p = some (.lst vs)) (k : RpA K G vs xs) : ∃ G', Same G G' ∧ Same G' H ∧ Rp K G' (.ref p) (.list xs) ∧ ∀ q, q ≠ p → G' q = G q := by
  cases g : G p with
  | none =>
    refine ⟨upd G p (.lst vs), same_new g, fun b o z => ?_, .lst upd_same (k.mono (same_new g)), fun q ne => upd_ne ne⟩
    by_cases hb : b = p
    · subst hb
      rw [upd_same] at z
      rw [← z]
      exact hp
    · rw [upd_ne hb] at z
      exact s _ _ z
  | some o =>
    have z := s _ _ g
    rw [hp] at z
    cases z
    exact ⟨G, Same.refl _, s, .lst g k, fun _ _ => rfl⟩
theorem pas_one {K : PySem.W.Frag} {G H : Hp} {v : V} {r : Val} (s : Same G H) (h : VC K G H v r) : ∃ G', Same G G' ∧ Same G' H ∧ VR K H G' H v (pas r) := by
  cases r with
  | sh d => exact ⟨G, Same.refl _, s, h⟩
  | ow xs =>
    obtain ⟨p, vs, rfl, b, k⟩ := h
    obtain ⟨G', a1, a2, a3, _⟩ := cell_in s b k
    exact ⟨G', a1, a2, a3⟩
  | bw xs =>
    obtain ⟨p, vs, rfl, b, k⟩ := h
    obtain ⟨G', a1, a2, a3, _⟩ := cell_in s b k
    exact ⟨G', a1, a2, a3⟩
  | fz xs => exact ⟨G, Same.refl _, s, h⟩
theorem VR.upA {K : PySem.W.Frag} {G G' H : Hp} {v : V} {r : Val} (e : Same G G') (ha : isArg r = true) (h : VR K H G H v r) : VR K H G' H v r := by
  cases r with
  | sh d => exact Rp.mono e h
  | ow xs => cases ha
  | bw xs => cases ha
  | fz xs =>
    obtain ⟨p, vs, a, b, k⟩ := h
    exact ⟨p, vs, a, e.seq b, k.mono e⟩
theorem isArg_pas (r : Val) : isArg (pas r) = true := by cases r <;> rfl
theorem pas_all {K : PySem.W.Frag} {H : Hp} : ∀ {as : List Val} {vs : List V} {G : Hp}, Same G H → Paired (fun v r => VC K G H v r) vs as → ∃ G', Same G G' ∧ Same G' H ∧ VRs K H G' H vs (as.map pas)
  | [], _, G, s, .nil => ⟨G, Same.refl _, s, .nil⟩
  | a :: as, _, G, s, .cons h t => by
    obtain ⟨G1, s1, t1, k1⟩ := pas_one s h
    have t' : Paired (fun v r => VC K G1 H v r) ‹List V› as := by
      clear h k1
      induction t with
      | nil => exact .nil
      | cons a b ih => exact .cons (a.up s1) ih
    obtain ⟨G2, s2, t2, k2⟩ := pas_all t1 t'
    exact ⟨G2, s1.trans s2, t2, .cons (k1.upA s2 (isArg_pas a)) k2⟩
/-- without a borrowed one the region holds new cells alone -/
theorem pas_new {K : PySem.W.Frag} {Gs Hs H : Hp} : ∀ {as : List Val} {vs : List V} {G : Hp}, Ext Gs Hs G H → as.any isBw = false → Paired (fun v r => VW K Hs G H v r ∧ VC K G H v r) vs as → ∃ G', Ext Gs Hs G' H ∧ Same G G' ∧ VRs K H G' H vs (as.map pas)
  | [], _, G, e, _, .nil => ⟨G, e, Same.refl _, .nil⟩
  | a :: as, _, G, e, hb, .cons h t => by
    rw [List.any_cons, Bool.or_eq_false_iff] at hb
    obtain ⟨G1, e1, s1, k1⟩ : ∃ G1, Ext Gs Hs G1 H ∧ Same G G1 ∧ VR K H G1 H ‹V› (pas a) := by
      cases a with
      | sh d => exact ⟨G, e, Same.refl _, h.1⟩
      | ow xs => exact esc_one e h.1 rfl
      | bw xs => cases hb.1
      | fz xs => exact ⟨G, e, Same.refl _, h.2⟩
    have t' : Paired (fun v r => VW K Hs G1 H v r ∧ VC K G1 H v r) ‹List V› as := by
      clear h k1 hb
      induction t with
      | nil => exact .nil
      | cons a b ih => exact .cons ⟨a.1.up s1, a.2.up s1⟩ ih
    obtain ⟨G2, e2, s2, k2⟩ := pas_new e1 hb.2 t'
    exact ⟨G2, e2, s1.trans s2, .cons (k1.upA s2 (isArg_pas a)) k2⟩
theorem flat_rp {K : PySem.W.Frag} {G G' : Hp} {v : V} {d : D} (f : flatD d = true) (h : Rp K G v d) : Rp K G' v d := by
  cases h with
  | non => exact .non
  | bl b => exact .bl b
  | int i => exact .int i
  | str x => exact .str x
  | lst _ _ => cases f
  | tup _ _ => cases f
  | dct _ _ => cases f
theorem flat_rpa {K : PySem.W.Frag} {G G' : Hp} : ∀ {ds : List D} {vs : List V}, ds.all flatD = true → RpA K G vs ds → RpA K G' vs ds
  | [], _, _, .nil => .nil
  | _ :: _, _, f, .cons h a => by
    rw [List.all_cons, Bool.and_eq_true] at f
    exact .cons (flat_rp f.1 h) (flat_rpa f.2 a)
theorem VRs.len {K : PySem.W.Frag} {B G H : Hp} {vs : List V} {as : List Val} (h : VRs K B G H vs as) : vs.length = as.length := by
  induction h with
  | nil => rfl
  | cons a b ih => exact congrArg (· + 1) ih
theorem VRs.wc {K : PySem.W.Frag} {B G H : Hp} {vs : List V} {as : List Val} (h : VRs K B G H vs as) : Paired (fun v r => VW K B G H v r ∧ VC K G H v r) vs as := by
  induction h with
  | nil => exact .nil
  | cons a b ih => exact .cons ⟨a.vw, a.vc⟩ ih
theorem VRs.cc {K : PySem.W.Frag} {B G H : Hp} {vs : List V} {as : List Val} (h : VRs K B G H vs as) : Paired (fun v r => VC K G H v r) vs as := by
  induction h with
  | nil => exact .nil
  | cons a b ih => exact .cons a.vc ih
theorem snd_def {K : PySem.W.Frag} {mg : Str → Option Value} {W : WX} {n : Nat} {M : List Val → Res Val} {ta : TA} {ma : Rho → Res (List Val)} (hn : ∀ ρ as, ma ρ = .ok as → as.length = n) (ha : SndA K mg W ta ma) : Snd K mg W (tCallS (spM K mg n M) (WE W) ta) (mDef M ma) := by
  intro G0 H0 σ G H ρ Q I h
  refine ha G0 H0 σ G H ρ _ I (RR.bnd (Ext.refl I.s) h fun as G1 H1 vs ea e1 r1 h1 => ?_)
  have r1 : VRs K H G1 H1 vs as := r1
  have hlen : vs.length = as.length := r1.len
  have hn' : vs.length = n := hlen.trans (hn ρ as ea)
  by_cases hb : as.any isBw = false
  · have pr := r1.wc
    obtain ⟨G2, e2, s2, k2⟩ := pas_new e1 hb pr
    refine ⟨G2, as.map pas, e2.s, k2, pas_arg as, hn', ?_⟩
    cases em : M (as.map pas) with
    | no =>
      rw [em] at h1
      exact h1.elim
    | ok r =>
      rw [em] at h1
      have c : (!as.any isBw || flatR r) = true := by rw [hb]; rfl
      have h1 : RR K mg W (RV K) σ G H Q (if (!as.any isBw || flatR r) = true then .ok r else .no) := h1
      rw [if_pos c] at h1
      exact fun G' H' v e z => h1 G' H' v (e2.trans e) (z.back e2.h)
    | ex x fs =>
      rw [em] at h1
      have h1 : RR K mg W (RV K) σ G H Q (if fs.all (fun p => flatD p.2) = true then .ex x fs else .no) := h1
      split at h1
      · exact fun G' H' C d e a b => h1 G' H' C d (e2.trans e) a b
      · exact h1.elim
  · have hb : as.any isBw = true := by
      cases q : as.any isBw
      · exact absurd q hb
      · rfl
    have pr := r1.cc
    obtain ⟨G2, s2, t2, k2⟩ := pas_all e1.s pr
    refine ⟨G2, as.map pas, t2, k2, pas_arg as, hn', ?_⟩
    have eH : ∀ {H' : Hp}, Same H1 H' → Ext G H G1 H' := fun {H'} s => e1.trans ⟨s, Same.refl _, e1.s.trans s, fun _ _ q => q⟩
    cases em : M (as.map pas) with
    | no =>
      rw [em] at h1
      exact h1.elim
    | ok r =>
      rw [em] at h1
      have h1 : RR K mg W (RV K) σ G H Q (if (!as.any isBw || flatR r) = true then .ok r else .no) := h1
      rw [hb] at h1
      have h1 : RR K mg W (RV K) σ G H Q (if (flatR r) = true then .ok r else .no) := h1
      split at h1
      · rename_i fl
        intro G' H' v e z
        refine h1 G1 H' v (eH e.h) ?_
        cases r with
        | sh d => exact flat_rp fl z
        | ow xs =>
          obtain ⟨p, us, rfl, b, c, d, k⟩ := z
          exact ⟨p, us, rfl, b, e1.s.free d, e1.h.free d, flat_rpa fl k⟩
        | bw xs => cases fl
        | fz xs => cases fl
      · exact h1.elim
    | ex x fs =>
      rw [em] at h1
      have h1 : RR K mg W (RV K) σ G H Q (if fs.all (fun p => flatD p.2) = true then .ex x fs else .no) := h1
      split at h1
      · rename_i fl
        intro G' H' C d e a b
        refine h1 G1 H' C d (eH e.h) a ?_
        rcases b with b | ⟨dd, fv, b1, b2, b3, b4, b5⟩
        · exact .inl b
        · refine .inr ⟨dd, fv, b1, b2, b3, b4, flat_rpa ?_ b5⟩
          rw [List.all_map]
          exact fl
      · exact h1.elim
theorem mNil_len : ∀ (ρ : Rho) (as : List Val), mNil ρ = .ok as → as.length = 0 := fun ρ as e => by
  cases e
  rfl
theorem mCons_len {n : Nat} {ma : Rho → Res Val} {mr : Rho → Res (List Val)} (h : ∀ ρ as, mr ρ = .ok as → as.length = n) : ∀ (ρ : Rho) (as : List Val), mCons ma mr ρ = .ok as → as.length = n + 1 := fun ρ as e => by
  unfold mCons at e
  cases h1 : ma ρ with
  | ok a =>
    rw [h1] at e
    cases h2 : mr ρ with
    | ok r =>
      rw [h2] at e
      cases e
      exact congrArg (· + 1) (h ρ r h2)
    | ex n fs =>
      rw [h2] at e
      cases e
    | no =>
      rw [h2] at e
      cases e
  | ex n fs =>
    rw [h1] at e
    cases e
  | no =>
    rw [h1] at e
    cases e
section
variable {X : Cx} {W : WX} {k n : Nat} {f : Addr} {fd : FuncData} {ps : List Str} {M : List Val → Res Val} {x : Str} {p pos : Pos} {e : Expr} {es : List Expr} {ta : TA} {ma : Rho → Res (List Val)}
theorem pm_def (F : FnG X.prog X.w X.K X.mg X.base k f fd ps (spM X.K X.mg n M)) (gd : X.A.guards = some []) (hr : Room k X.A) (gm : X.mg x = some (.ref f)) (kp : PySem.W.keepIn X.K (.ref f) = true) (hb : Binds X.K fd ps []) (hx : ∀ σ, PassesAt (L2.CX X.prog X.w) X σ (WE W σ))
    (ha : PMA X W (e :: es) ta ma) (hn : ∀ ρ as, ma ρ = .ok as → as.length = n) (gl : Gl X x := by rfl) (db : (x == ("__debug__" : Str)) = false := by decide) (st : starEach (e :: es) X.env = (false, eval e X.env) :: starEach es X.env := by rfl) (pl : (backTo pos (starEach es X.env)).any (·.1) = false := by rfl) :
    PM X W (.Call (.Name x p) (e :: es) [] pos) (tCallS (spM X.K X.mg n M) (WE W) ta) (mDef M ma) := by
  refine ⟨⟨fun pins s σ H Q J h => wpAny_Call_Name_kw (ld_glob J gl gm (PySem.W.callWith_K (h₀ := X.base) J.ok.mod.kin kp (thn (ha.p.run pos pins s σ H _ J h) fun us s1 ⟨vs, H1, J1, r, q⟩ => ⟨J1.kIn, ?_⟩) st pl) db)⟩, snd_def hn ha.s⟩
  have hl : us.length = ps.length := r.length.symm.trans (F.len _ _ _ _ q)
  have bb := hb s1 us J1.kIn ((congrArg List.length (List.append_nil us)).trans hl)
  rw [List.append_nil] at bb
  refine wpAny_call (codeAny_mono (F.go X.A X.stack s1 H1 ⟨us, []⟩ us vs Q (WE W σ) gd hr J1.env0 bb r q) fun o s2 hq => ?_)
  match o, hq with
  | .error err, hq => exact hx σ pins H1 s1 err s2 J1 hq
  | .ok (.ret u), hq => exact J1.after hq
  | .ok .next, hq => exact hq.elim
  | .ok .brk, hq => exact hq.elim
  | .ok .cont, hq => exact hq.elim
end
/-! ### raise, of a class without its own __init__ -/
theorem pms_raise {X : Cx} {W : WX} {bmB : List Value} {B newId initId : String} {C : Addr} {x m : Str} {j : Nat} {p p2 pos pos2 : Pos} (hc : X.calm = true) (tk : Takes X W) (F : ExcBaseFacts B newId initId bmB) (q : PySem.W.excIn X.K C bmB newId = true) (gC : X.mg x = some (.ref C)) (kC : PySem.W.keepIn X.K (.ref C) = true) (r : Raises X (.ref C))
    (hg : Gl X x := by rfl) (hdb : (x == ("__debug__" : Str)) = false := by decide) : PMS X W (.Raise (some (.Call (.Name x p) [.Constant (.str m) j p2] [] pos)) none pos2) (fun _ σ H => W (.ref C) none σ H) (mRaise x) :=
  ⟨ps_raise (t := fun _ H Q => Q (.ref C) none H) hc tk (pmk_own F q gC kC r hg hdb), fun G0 H0 σ G H ρ D I h => h σ G H C none I (Same.refl _) gC (.inl ⟨rfl, rfl⟩)⟩

/-! ### a def of the text -/
def fin : Out → Res Val
  | .rt r => .ok r
  | .nx _ => .ok (.sh .none)
  | .ex n fs _ => .ex n fs
  | _ => .no
def mFn (N : Nat) (ms : Rho → Out) : List Val → Res Val := fun as => fin (ms (as.map some ++ List.replicate (N - as.length) none))
theorem env_start {K : PySem.W.Frag} {G H : Hp} {vs : List V} {as : List Val} (s : Same G H) (h : VRs K H G H vs as) (ha : as.all isArg = true) (m : Nat) : EnvS K G H (vs.map some ++ List.replicate m none) G H (as.map some ++ List.replicate m none) := by
  have hl : vs.length = as.length := by
    clear ha
    induction h with
    | nil => rfl
    | cons a b ih => exact congrArg (· + 1) ih
  have key : ∀ (i : Nat) (r : Val), (as.map some ++ List.replicate m none)[i]? = some (some r) → as[i]? = some r ∧ i < as.length := fun i r q => by
    by_cases hi : i < as.length
    · rw [List.getElem?_append_left (by rw [List.length_map]; exact hi), List.getElem?_map, List.getElem?_eq_getElem hi] at q
      exact ⟨by rw [List.getElem?_eq_getElem hi]; exact Option.some.inj q, hi⟩
    · rw [List.getElem?_append_right (by rw [List.length_map]; omega), List.getElem?_replicate] at q
      split at q <;> cases q
  have get : ∀ {as : List Val} {vs : List V} (i : Nat) (r : Val), VRs K H G H vs as → as.all isArg = true → as[i]? = some r → ∃ v, vs[i]? = some v ∧ VR K H G H v r ∧ isArg r = true := by
    intro as vs i r h
    induction h generalizing i with
    | nil => intro _ q; simp at q
    | cons a b ih =>
      intro ha q
      rw [List.all_cons, Bool.and_eq_true] at ha
      cases i with
      | zero =>
        simp at q
        subst q
        exact ⟨_, rfl, a, ha.1⟩
      | succ i =>
        obtain ⟨v, e, z⟩ := ih i ha.2 (by simpa using q)
        exact ⟨v, by simpa using e, z⟩
  refine ⟨Ext.refl s, by simp [hl], fun i r q => ?_, fun i j p xs ys q => ?_⟩
  · obtain ⟨e, hi⟩ := key i r q
    obtain ⟨v, ev, rv, ra⟩ := get i r h ha e
    refine ⟨v, ?_, ?_⟩
    · rw [List.getElem?_append_left (by rw [List.length_map]; omega), List.getElem?_map, ev]
      rfl
    · cases r with
      | sh d => exact rv
      | ow xs => cases ra
      | bw xs => cases ra
      | fz xs => exact rv
  · obtain ⟨e, hi⟩ := key i _ q
    obtain ⟨v, ev, rv, ra⟩ := get i _ h ha e
    cases ra
section
variable {P : Program} {w : World} {K : PySem.W.Frag} {mg : Str → Option Value} {base : Heap}
theorem def_ok {x qual : Str} {st : Stmt} {f : Addr} {fd : FuncData} {N ps : List Str} {k : Nat} {ms : Rho → Out} (F : Fun K x qual st f fd) (S : FnScope N ps (defScope st))
    (hbody : ∀ (cdv : Value) (A : Around) (outer : List Env) (s : Shared) (H : Hp) (E : XK), A.guards = some [] → Room k (A.deeper (envOfC qual (defScope st) s.heap.objs.size f cdv)) →
      ∃ ts, PMSs (cxOf (L2.CX P w) P w K mg base N qual (defScope st) f cdv A outer s H E) (wOf E) (defBody st) ts ms) : FnG P w K mg base (k + 1) f fd ps (spM K mg ps.length (mFn N.length ms)) := by
  obtain ⟨oc, od, kV, doc, pm, an, cdv, ct, osl, rfl, lk, hcd⟩ := F.ex
  refine ⟨fun vs H Q E ⟨G, as, _, _, _, h, _⟩ => h, fun A outer s H args us vs Q E gd hr e0 hb r hsp => ?_⟩
  have hl : vs.length = ps.length := by
    obtain ⟨G, as, _, _, _, h, _⟩ := hsp
    exact h
  have KX : K.In s.heap := e0.mod.kin.keeps fun b o z => (e0.bs b o z).1
  have lim : s.heap.NoLimit := e0.mod.nolimit.keeps fun b o z => (e0.bs b o z).1
  have names : ∀ y ∈ ps.zip us, (defScope st).names.lookup y.1 = some .local ∨ ((defScope st).names.lookup y.1 = some .cell ∧ ((cellsFrom (s.heap.objs.size + 1) (defScope st).names []).lookup y.1).isSome = true) := fun y hy =>
    (S.par y.1 (List.of_mem_zip (a := y.1) (b := y.2) hy).1).imp id fun z => ⟨z, PySem.W.cellsFrom_some _ _ _ (.inl z)⟩
  obtain ⟨ts, B⟩ := hbody cdv A outer s H E gd (hr.deeper _)
  have want : ts { nx := fun _ H' => Q .non H', rt := Q } (start N vs) H := by
    obtain ⟨G, as, hs, hv, ha, _, h⟩ := hsp
    have hl' : vs.length = as.length := hv.len
    have I := env_start hs hv ha (N.length - vs.length)
    refine B.s G H (start N vs) G H _ _ I ?_
    rw [hl'] at I ⊢
    unfold mFn fin at h
    cases eo : ms (as.map some ++ List.replicate (N.length - as.length) none) with
    | nx ρ =>
      rw [eo] at h
      exact fun σ' G' H'' I' _ => h G' H'' .non I'.ext Rp.non
    | rt r =>
      rw [eo] at h
      exact h
    | bk ρ =>
      rw [eo] at h
      exact h.elim
    | ct ρ =>
      rw [eo] at h
      exact h.elim
    | ex n fs ρ =>
      rw [eo] at h
      exact fun σ' G' H'' C d I' _ a b => h G' H'' C d I'.ext a b
    | no =>
      rw [eo] at h
      exact h.elim
  refine codeAny_call_function hr.depth (KX _ _ lk) rfl S.co S.gen rfl (PySem.W.codeRec_of KX hcd) (hb _ _ _ _ (wpAny_newFunctionEnv_cells S.kind names fun env he s1 ic => ?_))
  subst he
  refine ⟨lim.keeps ic.toInCall.keep, codeAny_func (wpAny_mono (B.p.run [] s1 (start N vs) H _ (inv_start (CX := L2.CX P w) (E := E) S hr.hd e0 hl r ic) want) (fun fl s' z => ?_) fun _ _ z => z)⟩
  match fl, z with
  | .ret u, ⟨v, σ', H', J, rv, q⟩ => exact ⟨v, H', J.os, J.bare, J.base, J.hok, rv, q⟩
  | .next, ⟨σ', H', J, q⟩ => exact ⟨V.non, H', J.os, J.bare, J.base, J.hok, rfl, q⟩
  | .brk, ⟨_, _, _, q⟩ => exact q.elim
  | .cont, ⟨_, _, _, q⟩ => exact q.elim
end
end Mi

namespace Mi
open PySem PySem.Spec PyProof.Rows L2

/-! ### try: .. except X: .. -/
def noEx : Out → Out
  | .ex _ _ _ => .no
  | o => o
def mTry (body : Rho → Out) (dec : Str → Option Bool) (h : Rho → Out) : Rho → Out := fun ρ => match body ρ with
  | .ex m fs ρ' => match dec m with
    | some true => noEx (h ρ')
    | some false => .ex m fs ρ'
    | none => .no
  | o => o
def Decs (K : PySem.W.Frag) (mg : Str → Option Value) (c : Value) (dec : Str → Option Bool) : Prop := ∀ (m : Str) (b : Bool) (C : Addr), dec m = some b → mg m = some (.ref C) → PySem.W.exmOne K (.ref C) c = some b
theorem snd_try {K : PySem.W.Frag} {mg : Str → Option Value} {Wout : WX} {c : Value} {dec : Str → Option Bool} {tb : WX → TS} {mb : Rho → Out} {ts : Addr → Value → Option Addr → TS} {mh : Rho → Out} (hd : Decs K mg c dec)
    (hb : ∀ W, SndS K mg W (tb W) mb) (hh : ∀ a cls d, SndS K mg W0 (ts a cls d) mh) : SndS K mg Wout (fun D σ H => tb (wOnly K c ts Wout D) D σ H) (mTry mb dec mh) := by
  intro G0 H0 σ G H ρ D I q
  refine hb _ G0 H0 σ G H ρ D I ?_
  unfold mTry at q
  cases eo : mb ρ with
  | nx ρ' =>
    rw [eo] at q
    exact q
  | rt r =>
    rw [eo] at q
    exact q
  | bk ρ' =>
    rw [eo] at q
    exact q
  | ct ρ' =>
    rw [eo] at q
    exact q
  | no =>
    rw [eo] at q
    exact q
  | ex m fs ρ' =>
    rw [eo] at q
    have q : OutR K mg Wout G0 H0 G D (match dec m with
      | some true => noEx (mh ρ')
      | some false => .ex m fs ρ'
      | none => .no) := q
    intro σ' G' H' C d I' s' hC hx
    cases ed : dec m with
    | none =>
      rw [ed] at q
      exact q.elim
    | some b =>
      refine ⟨b, hd m b C ed hC, fun eb a ha => ?_, fun eb => ?_⟩
      · subst eb
        rw [ed] at q
        have q : OutR K mg Wout G0 H0 G D (noEx (mh ρ')) := q
        refine hh a (.ref C) d G0 H0 σ' G' H' ρ' D I' ?_
        have q := OutR.up s' q
        cases eh : mh ρ' with
        | nx ρ2 =>
          rw [eh] at q
          exact q
        | rt r =>
          rw [eh] at q
          exact q
        | bk ρ2 =>
          rw [eh] at q
          exact q
        | ct ρ2 =>
          rw [eh] at q
          exact q
        | no =>
          rw [eh] at q
          exact q
        | ex m2 fs2 ρ2 =>
          rw [eh] at q
          exact q.elim
      · subst eb
        rw [ed] at q
        exact q σ' G' H' C d I' s' hC hx
section
variable {X : Cx} {Wout : WX} {x : Str} {c : Value} {body suite : List Stmt} {b₀ : Stmt} {np pos pos' : Pos} {tb : WX → TS} {mb : Rho → Out} {ts : Addr → Value → Option Addr → TS} {mh : Rho → Out} {dec : Str → Option Bool}
theorem pms_try (hs : X.stack = X.env :: X.outer) (hf : X.env.frame = some X.env.locals) (gc : X.mg x = some c) (tk : Takes X Wout) (hd : Decs X.K X.mg c dec)
    (hb : ∀ (W : WX) (pn : List (Addr × Obj)) (xe : Value → Shared → Prop), Takes (X.tr pn xe) W → PMSs (X.tr pn xe) W body (tb W) mb)
    (hh : ∀ (a : Addr) (oe : Obj) (cls : Value) (d : Option Addr) (pn : List (Addr × Obj)), PMSs (X.suite a ((a, oe) :: pn)) W0 (b₀ :: suite) (ts a cls d) mh) (gl : Gl X x := by rfl) (db : (x == ("__debug__" : Str)) = false := by decide) :
    PMS X Wout (.Try body [.ExceptHandler (some (.Name x np)) none (b₀ :: suite) pos'] [] [] pos) (fun D σ H => tb (wOnly X.K c ts Wout D) D σ H) (mTry mb dec mh) := by
  refine ⟨ps_try_only hs hf ⟨gl, db, .inl gc⟩ tk (fun W pn xe t _ => (hb W pn xe t).p) (fun a oe cls d pn _ _ => (hh a oe cls d pn).p), snd_try hd (fun W => ?_) fun a cls d => (hh a { cls := cls, dict := d, data := .fields #[] } cls d []).s⟩
  exact (hb W [] (fun u s' => XE (X.tr [] fun _ _ => False) W u s') fun u s' ⟨a, B, sI, pins, σ, H, cls, d, e, J, rest⟩ => ⟨a, B, sI, pins, σ, H, cls, d, e, J.wish (fun _ _ => False), rest⟩).s
end

/-! ### the law's end -/
/-- the law follows its mirror, which says True of the script -/
theorem law_run {P : Program} {w : World} {K : PySem.W.Frag} {mg mb : Str → Option Value} {k : Nat} {fa a : Addr} {fd : FuncData} {x : Str} {M : List Val → Res Val} {s₁ : Shared} {vs : List Value} {ns : List Int}
    (kin : K.In s₁.heap) (nsg : s₁.heap.Ns mainGlobals mg) (nsb : s₁.heap.Ns builtinsNs mb) (blt : ∀ x : Str, x ≠ "__name__" → mb x = bootBuiltins x) (lim : s₁.heap.NoLimit) (gens : s₁.gens = #[]) (ha : s₁.heap.get? a = some { cls := .type "list", data := .seq vs.toArray })
    (iv : IntsAre vs ns) (small : ns.length ≤ sizeLine) (room : Room k callerA) (F : ∀ base : Heap, K.In base → base.Ns mainGlobals mg → FnG P w K mg base k fa fd [x] (spM K mg 1 M)) (bind : ∀ (s : Shared) (u : Value), BindsTo s fd ⟨[u], []⟩ [(x, u)])
    (says : M [.fz (ns.map .int)] = .ok (.sh (.bool true))) : codeAny (model P w) callerA (.call (.ref fa) ⟨[.ref a], []⟩) (fun r s' => r = .ok (.ret (.bool true)) ∧ OldK s₁.heap s'.heap ∧ s'.os = s₁.os ∧ AllBare s'.gens) s₁ := by
  have vals := vals_ints iv
  -- the script is tracked as it lies, if it is no object of the module
  have main : ∀ (H : Hp), (∀ b u, H b = some u → b = a ∧ K.lookup a = none ∧ ∃ o : Obj, u = .frz o (.lst (ns.map V.int)) ∧ ObjOk P w H s₁.heap b u ∧ s₁.heap.get? a = some o) → SqL K H a (ns.map V.int) →
      codeAny (model P w) callerA (.call (.ref fa) ⟨[.ref a], []⟩) (fun r s' => r = .ok (.ret (.bool true)) ∧ OldK s₁.heap s'.heap ∧ s'.os = s₁.os ∧ AllBare s'.gens) s₁ := by
    intro H only sq
    have free : ∀ {b : Addr} {o : Obj}, s₁.heap.get? b = some o → b ≠ a → H b = none := fun {b o} _ ne => by
      cases q : H b with
      | none => rfl
      | some u => exact absurd (only b u q).1 ne
    have spaces : ∀ {b : Addr} {m : Str → Option Value}, s₁.heap.Ns b m → (hidT s₁.heap H).Ns b m := fun {b m} ⟨o, es, ep, e, d, r⟩ => by
      have ne : b ≠ a := fun z => by
        rw [z, ha] at e
        cases e
        cases d
      exact ⟨o, es, ep, hidT_get e (free e ne), d, r⟩
    have kb : K.In (hidT s₁.heap H) := fun b o e => by
      refine hidT_get (kin b o e) ?_
      cases q : H b with
      | none => rfl
      | some u =>
        obtain ⟨rfl, n, _⟩ := only b u q
        rw [n] at e
        cases e
    have env : Env0 P w K mg (hidT s₁.heap H) callerA [] s₁ H := ⟨rfl, ⟨kb, spaces nsg, ⟨mb, spaces nsb, blt⟩, let ⟨mc, h1, h2⟩ := lim; ⟨mc, spaces h1, h2⟩⟩, fun b o e => of_hidT e, Nat.le_of_eq (hidT_size _ _), trivial, (fun b z => nomatch z),
      (fun b u q => (only b u q).2.2.elim fun _ z => z.2.1), .of_eq gens⟩
    have promise : spM K mg 1 M [.ref a] H (fun v _ => v = .bl true) fun _ _ _ => False := by
      refine ⟨H, [.fz (ns.map .int)], Same.refl _, .cons ⟨a, ns.map V.int, rfl, sq, rpa_ints ns⟩ .nil, rfl, rfl, ?_⟩
      rw [says]
      intro G' H' v _ z
      cases (show Rp K G' v (.bool true) from z)
      rfl
    refine codeAny_mono ((F _ kb (spaces nsg)).go callerA [] s₁ H ⟨[.ref a], []⟩ [.ref a] [.ref a] _ _ rfl room env (bind s₁ (.ref a)) (.cons rfl .nil) promise) fun r s' z => ?_
    match r, z with
    | .error e, ⟨_, _, _, _, _, _, _, _, _, _, _, _, no⟩ => exact no.elim
    | .ok .next, no => exact no.elim
    | .ok .brk, no => exact no.elim
    | .ok .cont, no => exact no.elim
    | .ok (.ret u), ⟨v, H', os, bare, un, ok', rv, q⟩ =>
      cases (show v = .bl true from q)
      cases (show u = Value.bool true from rv)
      refine ⟨rfl, OldK.of_keep fun b o e => ?_, os, bare⟩
      cases q : H b with
      | none => exact un.keep b o e q (fun z => nomatch z) (fun z => nomatch z)
      | some u =>
        obtain ⟨rfl, _, ob, rfl, _, e2⟩ := only b u q
        rw [ha] at e e2
        cases e
        cases e2
        exact (ok' b _ (un.frzs b _ _ q)).1
  cases own : K.lookup a with
  | some o =>
    have z := kin a o own
    rw [ha] at z
    cases z
    exact main (fun _ => none) (fun b u q => nomatch q) (.inr ⟨_, vs.toArray, _, own, rfl, rfl, rfl, (by rw [List.size_toArray, iv.length]; exact small), (by simpa using vals)⟩)
  | none =>
    refine main (fun b => if b = a then some (.frz { cls := .type "list", data := .seq vs.toArray } (.lst (ns.map V.int))) else none) (fun b u q => ?_) (.inl (.inr ⟨_, if_pos rfl⟩))
    by_cases hb : b = a
    · subst hb
      rw [if_pos rfl] at q
      cases q
      exact ⟨rfl, own, _, rfl, ⟨ha, by rw [List.length_map]; exact small, vs, _, vals, ha⟩, ha⟩
    · rw [if_neg hb] at q
      cases q
theorem law_end {l : PySem.W.OpenLaw} {n k : Nat} {q : Program} {loose : List Str} {XP : (Str → Option Value) → Heap → Prop} {YP : World → Heap → Prop} {d : DefRec} {K : Params → PySem.W.Frag} {M : List Val → Res Val} {x : Str} (hn : l.most = some n) (hn2 : n ≤ sizeLine) (hdf : d.params.defaults = []) (room : Room k callerA)
    (hY : ∀ (w : World) (h : Heap), YP w h → (K w.params).In h) (F : ∀ (w : World) (mg : Str → Option Value) (fa : Addr) (h : Heap), (K w.params).In h → h.Ns mainGlobals mg → mg d.name = some (.ref fa) →
      ∃ fd : FuncData, (∀ (s : Shared) (u : Value), BindsTo s fd ⟨[u], []⟩ [(x, u)]) ∧ ∀ base : Heap, (K w.params).In base → base.Ns mainGlobals mg → FnG l.prog w (K w.params) mg base k fa fd [x] (spM (K w.params) mg 1 M))
    (says : ∀ ns : List Int, ns.length ≤ n → M [.fz (ns.map .int)] = .ok (.sh (.bool true))) : PySem.W.WalkO q loose XP YP l.row.toRowW d [] (fun f vs => PySem.call f vs) := by
  refine Att.attach_call hn hdf fun w s₀ s₁ mg mb fa o pm cd doc a vs ns G Y _ _ _ hmg hobj hints hlen gens => ?_
  obtain ⟨fd, bind, go⟩ := F w mg fa _ (hY w _ Y) G.T.g hmg
  exact law_run (hY w _ Y) G.T.g G.T.b G.T.builtins G.T.nolimit gens hobj hints (Nat.le_trans hlen hn2) room go bind (says ns hlen)
end Mi

namespace Mi
open PySem PySem.Spec PyProof.Rows L2
/-! ### xs[::-1] -/
def mRev (ma : Rho → Res Val) : Rho → Res Val := fun ρ => (ma ρ).bind fun a => lift (match lit a with
  | some xs => some (.ow xs.reverse)
  | none => none)
theorem snd_rev {K : PySem.W.Frag} {mg : Str → Option Value} {W : WX} {ta : TE} {ma : Rho → Res Val} (ha : Snd K mg W ta ma) : Snd K mg W (tRevL K ta) (mRev ma) := by
  intro G0 H0 σ G H ρ Q I h
  refine ha G0 H0 σ G H ρ _ I (RR.bnd (Ext.refl I.s) h fun a G1 H1 x ea e1 r1 h1 => ?_)
  obtain ⟨c, ec, q⟩ := h1.lift
  split at ec
  · rename_i xs e2
    cases ec
    obtain ⟨p, vs, rfl, hp, k⟩ := r1.list e1.s e2
    exact ⟨p, vs, rfl, hp, fun t ht => q G1 _ _ (e1.trans (Ext.newO e1.s ht)) ⟨t, _, rfl, upd_same, e1.s.free ht, e1.h.free ht, k.reverse⟩⟩
  · cases ec
theorem pm_rev {X : Cx} {W : WX} {e : Expr} {te : TE} {me : Rho → Res Val} {k : Nat} {p1 p2 p3 pos : Pos} (h : PM X W e te me) : PM X W (.Subscript e (.Slice none none (some (.UnaryOp .USub (.Constant (.int 1) k p1) p2)) p3) pos) (tRevL X.K te) (mRev me) := ⟨pe_revL h.p, snd_rev h.s⟩
/-! ### nothing is let out of a comprehension's block -/
theorem passB {X : Cx} {σ : L2.St} : PassesAt (L2.CX X.prog X.w) X σ (WE W0 σ) := fun _ _ _ _ _ _ h => by
  obtain ⟨_, _, _, _, _, _, _, _, _, _, _, _, z⟩ := h
  exact z.elim
/-- an error of an own class against an except clause of an own class -/
theorem exm_own {K : PySem.W.Frag} {S T : Addr} {b : Bool} (h1 : PySem.W.subIn K (.ref T) (.type "BaseException") = some true) (h2 : PySem.W.isClsIn K T = true) (h3 : PySem.W.typeIn K (.ref T) = some (.type "type")) (h4 : PySem.W.subIn K (.ref S) (.ref T) = some b) : PySem.W.exmOne K (.ref S) (.ref T) = some b := by
  have e1 : (PySem.W.subIn K (.ref T) (.type "BaseException") == some true) = true := by rw [h1]; rfl
  have e2 : ((PySem.W.clsIn K T).isSome && PySem.W.typeIn K (.ref T) == some (.type "type")) = true := by
    have z : (PySem.W.clsIn K T).isSome = true := h2
    rw [z, h3]; rfl
  unfold PySem.W.exmOne PySem.W.kitCls
  rw [if_pos e1]
  exact (if_pos e2).trans h4
/-! ### the rules with the written part by its name (within a comprehension's block it must not hang on the block) -/
section
variable {X : Cx} {K : PySem.W.Frag}
theorem ix_seqK (h : X.K = K := by rfl) : IxR X (rIx K) := h ▸ ix_seq
theorem call_lenK (h : X.K = K := by rfl) : CallR X (.builtin "len") (fun xs H Q => ∃ x n, xs = [x] ∧ LenV K x H n ∧ Q (.int n) H) := h ▸ call_len
theorem call_list_ofK (h : X.K = K := by rfl) : CallR X (.type "list") (fun xs H Q => ∃ p ys, xs = [.ref p] ∧ (SqL K H p ys ∨ SqT K H p ys) ∧ ∀ l, H l = none → Q (.ref l) (upd H l (.lst ys))) := h ▸ call_list_of
theorem cr_sortedIK (h : X.K = K := by rfl) : CallR X (.builtin "sorted") (rSortedI K) := h ▸ cr_sortedI
theorem cr_sumK (hc : X.calm = true := by rfl) (h : X.K = K := by rfl) : CallR X (.builtin "sum") (rSum K) := h ▸ cr_sum hc
theorem op_eqDK (hu : X.A.units + 64 < cLine) (h : X.K = K := by rfl) : OpR X (compareOp .Eq) (rEqD K) := h ▸ op_eqD hu
theorem op_neDK (hu : X.A.units + 64 < cLine) (h : X.K = K := by rfl) : OpR X (compareOp .NotEq) (rNeD K) := h ▸ op_neD hu
theorem op_in_seqK (h : X.K = K := by rfl) : OpR X (compareOp .In) (rIn K false) := h ▸ op_in_seq
theorem op_notIn_seqK (h : X.K = K := by rfl) : OpR X (compareOp .NotIn) (rIn K true) := h ▸ op_notIn_seq
theorem call_reprDK (gd : X.A.guards = some []) (hu : X.A.units + 64 < cLine) (h : X.K = K := by rfl) : CallR X (.builtin "repr") (rRepr K) := h ▸ call_reprD gd hu
end
section
variable {X : Cx} {K : PySem.W.Frag} {W : WX} {a e : Expr} {ta te : TE} {ma me : Rho → Res Val} {lo hi : Option Expr} {tl th : TO} {ml mh : Rho → Res (Option Int)} {pos p1 p2 p3 p : Pos} {k n : Nat}
theorem pm_sliceK (ha : PM X W a ta ma) (hl : PMO X W lo tl ml) (hh : PMO X W hi th mh) (h : X.K = K := by rfl) : PM X W (.Subscript a (.Slice lo hi none p2) pos) (tSl (rSlL K) ta tl th) (mSl ma ml mh) := h ▸ pm_slice ha hl hh
theorem pmt_truK (ha : PM X W a ta ma) (he : ∀ whole, isTrue a X.env whole = (do let v ← whole; standAt a.pos; holding [v] (truthy v)) := by intro _; rfl) (h : X.K = K := by rfl) :
    PMT X W a (fun σ H Q => ta σ H fun x H' => ∃ k, TruV K x H' k ∧ Q k H') (mTru ma) := h ▸ pmt_tru ha he
theorem pm_revK (ha : PM X W e te me) (h : X.K = K := by rfl) : PM X W (.Subscript e (.Slice none none (some (.UnaryOp .USub (.Constant (.int 1) k p1) p2)) p3) pos) (tRevL K te) (mRev me) := h ▸ pm_rev ha
theorem pm_defK {P : Program} {w : World} {mg : Str → Option Value} {base : Heap} {f : Addr} {fd : FuncData} {ps : List Str} {M : List Val → Res Val} {x : Str} {es : List Expr} {tr : TA} {mr : Rho → Res (List Val)} (F : FnG P w K mg base k f fd ps (spM K mg n M)) (gd : X.A.guards = some []) (hr : Room k X.A) (gm : mg x = some (.ref f)) (kp : PySem.W.keepIn K (.ref f) = true) (hb : Binds K fd ps [])
    (hx : ∀ σ, PassesAt (L2.CX X.prog X.w) X σ (WE W σ)) (ha : PMA X W (e :: es) tr mr) (hn : ∀ ρ as, mr ρ = .ok as → as.length = n) (gl : Gl X x := by rfl) (h1 : X.prog = P := by rfl) (h2 : X.w = w := by rfl) (h3 : X.K = K := by rfl) (h4 : X.mg = mg := by rfl) (h5 : X.base = base := by rfl)
    (db : (x == ("__debug__" : Str)) = false := by decide) (st : starEach (e :: es) X.env = (false, eval e X.env) :: starEach es X.env := by rfl) (pl : (backTo pos (starEach es X.env)).any (·.1) = false := by rfl) :
    PM X W (.Call (.Name x p) (e :: es) [] pos) (tCallS (spM K mg n M) (WE W) tr) (mDef M mr) := by
  subst h1 h2 h3 h4 h5
  exact pm_def F gd hr gm kp hb hx ha hn gl db st pl
end
end Mi

namespace Mi
open PySem PySem.Spec PyProof.Rows L2
/-! ### texts compared -/
def oEqS : Val → Val → Option Val
  | .sh (.str a), .sh (.str b) => some (.sh (.bool (decide (a = b))))
  | _, _ => none
def oNeS : Val → Val → Option Val
  | .sh (.str a), .sh (.str b) => some (.sh (.bool (!decide (a = b))))
  | _, _ => none
theorem dec_str (a b : Str) : decide (V.str a = V.str b) = decide (a = b) := by
  by_cases h : a = b
  · rw [h, decide_eq_true rfl, decide_eq_true rfl]
  · rw [decide_eq_false h, decide_eq_false fun z => h (V.str.inj z)]
theorem os_eqS {K : PySem.W.Frag} : OpS K rEq oEqS := by
  intro B G H x y a b c Q s ha hb e q
  unfold oEqS at e
  split at e
  · cases e
    cases ha.str_
    cases hb.str_
    refine ⟨rfl, ?_⟩
    rw [dec_str]
    exact q G H _ (Ext.refl s) (Rp.bl _)
  · cases e
theorem os_neS {K : PySem.W.Frag} : OpS K rNe oNeS := by
  intro B G H x y a b c Q s ha hb e q
  unfold oNeS at e
  split at e
  · cases e
    cases ha.str_
    cases hb.str_
    refine ⟨rfl, ?_⟩
    rw [dec_str]
    exact q G H _ (Ext.refl s) (Rp.bl _)
  · cases e
end Mi

namespace Mi
open PySem PySem.Spec PyProof.Rows L2
/-! ### methods of built-in values, asked -/
def tyOf (T : String) : Val → Bool
  | .sh (.str _) => T == "str"
  | r => (lit r).isSome && T == "list"
theorem tyV_of {K : PySem.W.Frag} {B G H : Hp} {v : V} {r : Val} {T : String} (s : Same G H) (h : VR K B G H v r) (t : tyOf T r = true) : tyV K T v H := by
  unfold tyOf at t
  split at t
  · cases h.str_
    exact beq_iff_eq.mp t
  · rw [Bool.and_eq_true] at t
    obtain ⟨xs, e⟩ := Option.isSome_iff_exists.mp t.1
    obtain ⟨p, vs, rfl, hp, _⟩ := h.list s e
    exact .inl ⟨beq_iff_eq.mp t.2, vs, hp⟩
def MethS (K : PySem.W.Frag) (r : V → List V → Hp → VK → Prop) (mo : Val → List Val → Option Val) : Prop :=
  ∀ (B G H : Hp) (x : V) (o : Val) (vs : List V) (as : List Val) (c : Val) (Q : VK), Same G H → VR K B G H x o → VRs K B G H vs as → mo o as = some c → (∀ G' H' v, Ext G H G' H' → VR K H G' H' v c → Q v H') → r x vs H Q
def mMeth (T : String) (mm : Val → List Val → Option Val) (mo : Rho → Res Val) (ma : Rho → Res (List Val)) : Rho → Res Val := fun ρ => (mo ρ).bind fun o => if tyOf T o = true then (ma ρ).bind fun as => lift (mm o as) else .no
theorem snd_meth {K : PySem.W.Frag} {mg : Str → Option Value} {W : WX} {T : String} {r : V → List V → Hp → VK → Prop} {mm : Val → List Val → Option Val} {to : TE} {mo : Rho → Res Val} {ta : TA} {ma : Rho → Res (List Val)} (hs : MethS K r mm) (ho : Snd K mg W to mo) (ha : SndA K mg W ta ma) : Snd K mg W (tBM K T r to ta) (mMeth T mm mo ma) := by
  intro G0 H0 σ G H ρ Q I h
  refine ho G0 H0 σ G H ρ _ I (RR.bnd (Ext.refl I.s) h fun o G1 H1 x eo e1 r1 h1 => ?_)
  split at h1
  · rename_i ht
    refine ⟨tyV_of e1.s r1 ht, ?_⟩
    refine ha G0 H0 σ G1 H1 ρ _ (I.ext' e1) (RR.bnd e1 h1 fun as G2 H2 vs ea e2 r2 h2 => ?_)
    obtain ⟨c, ec, q⟩ := h2.lift
    exact hs H G2 H2 x o vs as c Q e2.s (r1.ext e2) (r2.back e1.h) ec fun G' H' v e z => q G' H' v ((e1.trans e2).trans e) (z.back (e1.trans e2).h)
  · exact h1.elim
theorem pm_meth {X : Cx} {K : PySem.W.Frag} {W : WX} {o e : Expr} {es : List Expr} {name : Str} {T id : String} {apos cpos : Pos} {r : V → List V → Hp → VK → Prop} {mm : Val → List Val → Option Val} {to : TE} {mo : Rho → Res Val} {ta : TA} {ma : Rho → Res (List Val)} (pa : PlainAttrs T) (slot : Slot T name id) (hty : typeOf (.builtin id) = pure (.type "method_descriptor"))
    (hm : MtR X id r) (hs : MethS K r mm) (ho : PM X W o to mo) (ha : PMA X W (e :: es) ta ma) (hK : X.K = K := by rfl)
    (hbase : attributeBase o name X.env (eval o X.env) = eval o X.env := by rfl)
    (hfew : ((backTo cpos (starEach (e :: es) X.env)).all (fun x => !x.1) && (backToKw cpos (keywordEach [] X.env)).all (fun x => x.1.isSome) && decide ((e :: es).length + ([] : List Keyword).length + (if ([] : List Keyword).isEmpty then 0 else 1) < 30)) = true := by rfl)
    (hline : (apos.endLine == cpos.line) = true := by rfl) (st : starEach (e :: es) X.env = (false, eval e X.env) :: starEach es X.env := by rfl) (hplain : (backTo cpos (starEach es X.env)).any (·.1) = false := by rfl) :
    PM X W (.Call (.Attribute o name apos) (e :: es) [] cpos) (tBM K T r to ta) (mMeth T mm mo ma) := by
  subst hK
  exact ⟨pe_bm pa slot hty hm ho.p ha.p hbase hfew hline st hplain, snd_meth hs ho.s ha.s⟩
/-- the place of the first item that equals d -/
def firstAt (d : D) : List D → Option Nat
  | [] => none
  | z :: zs => if PyData.eqv z d = true then some 0 else (firstAt d zs).map (· + 1)
theorem firstAt_ok {d : D} : ∀ {xs : List D} {j : Nat}, firstAt d xs = some j → (∃ z, xs[j]? = some z ∧ PyData.eqv z d = true) ∧ ∀ (m : Nat) (z' : D), m < j → xs[m]? = some z' → PyData.eqv z' d = false
  | [], _, h => by cases h
  | z :: zs, j, h => by
    unfold firstAt at h
    by_cases e : PyData.eqv z d = true
    · rw [if_pos e] at h
      cases h
      exact ⟨⟨z, rfl, e⟩, fun m _ hm => absurd hm (Nat.not_lt_zero m)⟩
    · rw [if_neg e] at h
      cases q : firstAt d zs with
      | none =>
        rw [q] at h
        cases h
      | some i =>
        rw [q] at h
        cases h
        obtain ⟨⟨y, h1, h2⟩, h3⟩ := firstAt_ok q
        refine ⟨⟨y, by simpa using h1, h2⟩, fun m z' hm hz => ?_⟩
        cases m with
        | zero =>
          have : z = z' := by simpa using hz
          subst this
          cases b : PyData.eqv z d
          · rfl
          · exact absurd b e
        | succ m =>
          have hm : m + 1 < i + 1 := hm
          exact h3 m z' (by omega) (by simpa using hz)
def kIndex : Val → List Val → Option Val := fun o as => match lit o, as with
  | some xs, [.sh d] => if (flatD d && xs.all flatD) = true then (firstAt d xs).map fun j => .sh (.int (j : Nat)) else none
  | _, _ => none
theorem ks_index {K : PySem.W.Frag} : MethS K (rIndex K) kIndex := by
  intro B G H x o vs as c Q s ho ha e q
  unfold kIndex at e
  split at e
  · split at e
    · rename_i xs d e1 hf
      rw [Bool.and_eq_true] at hf
      cases ej : firstAt d xs with
      | none =>
        rw [ej] at e
        cases e
      | some j =>
        rw [ej] at e
        cases e
        obtain ⟨p, us, rfl, hp, k⟩ := ho.list s e1
        obtain ⟨y, rfl, hy⟩ := vrs1 ha
        have hy : Rp K G y d := hy
        obtain ⟨⟨z, h1, h2⟩, h3⟩ := firstAt_ok ej
        obtain ⟨u, hu, ru⟩ := k.get h1
        have fz : flatD z = true := List.all_eq_true.mp hf.2 z (List.mem_of_getElem? h1)
        refine ⟨p, us, y, j, u, rfl, rfl, hp, ?_, ?_, hu, ?_, fun m u' hm hu' => ?_, q G H _ (Ext.refl s) (Rp.int _)⟩
        · rw [flat_of hy]
          exact hf.1
        · rw [flats_of k]
          exact hf.2
        · rw [eqv_of ru hy fz hf.1]
          exact h2
        · obtain ⟨z', hz', rz'⟩ := k.getV hu'
          rw [eqv_of rz' hy (List.all_eq_true.mp hf.2 z' (List.mem_of_getElem? hz')) hf.1]
          exact h3 m z' hm hz'
    · cases e
  · cases e
/-- the rule with the written part by its name -/
theorem mt_indexK {X : Cx} {K : PySem.W.Frag} (h : X.K = K := by rfl) : MtR X "list.index" (rIndex K) := h ▸ mt_index

/-! ### row.insert(i, x) -/
def rIns : V → List V → Hp → VK → Prop := fun x vs H Q => ∃ (l : Addr) (xs : List V) (i : Int) (y : V), x = .ref l ∧ vs = [.int i, y] ∧ H l = some (.lst xs) ∧ xs.length < sizeLine ∧ 0 ≤ i ∧ i < 2 ^ 63 ∧ Q .non (upd H l (.lst (xs.take i.toNat ++ [y] ++ xs.drop i.toNat)))
def mIns (i : Nat) (m1 m2 : Rho → Res Val) : Rho → Out := fun ρ => match ρ[i]? with
  | some (some (.ow xs)) => sRes (m1 ρ) ρ fun k => sRes (m2 ρ) ρ fun r => match k, esc r with
    | .sh (.int k), some d => if xs.length < 100000 ∧ 0 ≤ k ∧ k ≤ 1000000 then .nx (ρ.set i (some (.ow (xs.take k.toNat ++ [d] ++ xs.drop k.toNat)))) else .no
    | _, _ => .no
  | _ => .no
theorem snd_ins {K : PySem.W.Frag} {mg : Str → Option Value} {W : WX} {i : Nat} {t1 t2 : TE} {m1 m2 : Rho → Res Val} (h1 : Snd K mg W t1 m1) (h2 : Snd K mg W t2 m2) : SndS K mg W (tDrop (tBM K "list" rIns (tVar i) (tCons t1 (tCons t2 tNil)))) (mIns i m1 m2) := by
  intro G0 H0 σ G H ρ D I q
  unfold mIns at q
  split at q
  · rename_i xs e
    obtain ⟨p, vs, hv, hp, hg, k⟩ := own_get I e
    refine ⟨.ref p, hv, .inl ⟨rfl, vs, SqL.of hp⟩, ?_⟩
    refine h1 G0 H0 σ G H ρ _ I (RR.out I q fun a G1 H1 x ea e1 r1 q1 => ?_)
    have I1 := I.ext' e1
    refine h2 G0 H0 σ G1 H1 ρ _ I1 (RR.out I1 q1 fun b G2 H2 y eb e2 r2 q2 => ?_)
    split at q2
    · split at q2
      · rename_i kk d ed hl
        obtain ⟨G3, x3, s3, kd⟩ := esc_one e2 r2.vw ed
        have I3 := I1.ext' x3
        obtain ⟨p', vs', hv', hp', hg', k'⟩ := own_get I3 e
        rw [hv] at hv'
        cases hv'
        cases r1.int_
        refine ⟨p, vs', _, y, rfl, rfl, hp', ?_, hl.2.1, by omega, OutR.up s3 q2 σ G3 _ (I3.mut e hv (((k'.take _).append (.cons kd .nil)).append (k'.drop _))) (Same.refl _)⟩
        rw [k'.length]
        exact sz_lt hl.1
      · exact q2.elim
    · exact q2.elim
  · exact q.elim
theorem pms_ins {X : Cx} {W : WX} (i : Nat) {x : Str} {p apos cpos pos : Pos} {e f : Expr} {t1 t2 : TE} {m1 m2 : Rho → Res Val} (h1 : PM X W e t1 m1) (h2 : PM X W f t2 m2) (hN : X.N[i]? = some x := by rfl) (hv : Vis X.env.scope x := by first | exact Or.inl rfl | exact Or.inr (Or.inl rfl) | exact Or.inr (Or.inr rfl)) (hd : (x == ("__debug__" : Str)) = false := by decide)
    (hcd : (x == ("__classdict__" : Str)) = false := by decide) (st : starEach [e, f] X.env = (false, eval e X.env) :: starEach [f] X.env := by rfl) (st2 : starEach [f] X.env = (false, eval f X.env) :: starEach [] X.env := by rfl)
    (hbase : attributeBase (.Name x p) "insert" X.env (eval (.Name x p) X.env) = eval (.Name x p) X.env := by rfl)
    (hfew : ((backTo cpos (starEach [e, f] X.env)).all (fun x => !x.1) && (backToKw cpos (keywordEach [] X.env)).all (fun x => x.1.isSome) && decide ([e, f].length + ([] : List Keyword).length + (if ([] : List Keyword).isEmpty then 0 else 1) < 30)) = true := by rfl)
    (hline : (apos.endLine == cpos.line) = true := by rfl) (hplain : (backTo cpos (starEach [f] X.env)).any (·.1) = false := by rfl)
    (hs : swapsWith (.Call (.Attribute (.Name x p) "insert" apos) [e, f] [] cpos) none pos.line X.env = pure false := by rfl) :
    PMS X W (.Expr (.Call (.Attribute (.Name x p) "insert" apos) [e, f] [] cpos) pos) (tDrop (tBM X.K "list" rIns (tVar i) (tCons t1 (tCons t2 tNil)))) (mIns i m1 m2) :=
  ⟨ps_expr (pe_bm PySem.F.plainAttrs_list PySem.F.slot_list_insert PySem.F.type_list_insert mt_insert (pe_var hN hv hd hcd) (pa_cons h1.p (pa_cons h2.p pa_nil st2) st) hbase hfew hline st hplain) hs, snd_ins h1.s h2.s⟩

/-! ### all, any of truth values -/
def boolsOf : List D → Option (List Bool)
  | [] => some []
  | d :: ds => match d, boolsOf ds with
    | .bool b, some bs => some (b :: bs)
    | _, _ => none
theorem boolsOf_rp {K : PySem.W.Frag} {G : Hp} : ∀ {ds : List D} {vs : List V} {bs : List Bool}, RpA K G vs ds → boolsOf ds = some bs → vs = bs.map V.bl
  | [], _, _, .nil, e => by
    cases e
    rfl
  | d :: ds, _, _, .cons h a, e => by
    unfold boolsOf at e
    split at e
    · rename_i b cs e2
      cases e
      cases h
      rw [boolsOf_rp a e2]
      rfl
    · cases e
def cAll (f : List Bool → Bool) : List Val → Option Val
  | [a] => match lit a with
    | some xs => match boolsOf xs with
      | some bs => some (.sh (.bool (f bs)))
      | none => none
    | none => none
  | _ => none
theorem cs_all {K : PySem.W.Frag} : CallS K (rAll K) (cAll fun bs => bs.all id) := by
  intro B G H vs as c Q s h e q
  unfold cAll at e
  split at e
  · split at e
    · split at e
      · rename_i xs e2 _ bs e3
        cases e
        obtain ⟨v, rfl, h1⟩ := vrs1 h
        obtain ⟨p, us, rfl, hp, k⟩ := h1.list s e2
        cases boolsOf_rp k e3
        exact ⟨p, bs, rfl, hp, q G H _ (Ext.refl s) (Rp.bl _)⟩
      · cases e
    · cases e
  · cases e
theorem cs_any {K : PySem.W.Frag} : CallS K (rAny K) (cAll fun bs => bs.any id) := by
  intro B G H vs as c Q s h e q
  unfold cAll at e
  split at e
  · split at e
    · split at e
      · rename_i xs e2 _ bs e3
        cases e
        obtain ⟨v, rfl, h1⟩ := vrs1 h
        obtain ⟨p, us, rfl, hp, k⟩ := h1.list s e2
        cases boolsOf_rp k e3
        exact ⟨p, bs, rfl, hp, q G H _ (Ext.refl s) (Rp.bl _)⟩
      · cases e
    · cases e
  · cases e
theorem cr_allK {X : Cx} {K : PySem.W.Frag} (hc : X.calm = true := by rfl) (h : X.K = K := by rfl) : CallR X (.builtin "all") (rAll K) := h ▸ cr_all hc
theorem cr_anyK {X : Cx} {K : PySem.W.Frag} (hc : X.calm = true := by rfl) (h : X.K = K := by rfl) : CallR X (.builtin "any") (rAny K) := h ▸ cr_any hc

/-! ### for i in range(a, b, -1) -/
def downD (hi : Int) (n : Nat) : List D := (List.range n).map fun i => .int (hi - (i : Nat))
def mIter3 (ma : Rho → Res (List Val)) : Rho → Res (List D) := fun ρ => (ma ρ).bind fun as => lift (match as with
  | [.sh (.int i), .sh (.int j), .sh (.int c)] => if i.natAbs ≤ 1000000 ∧ j.natAbs ≤ 1000000 ∧ c = -1 then some (downD i (i - j).toNat) else none
  | _ => none)
theorem downD_len (hi : Int) (n : Nat) : (downD hi n).length = n := by
  unfold downD
  rw [List.length_map, List.length_range]
theorem its_down {K : PySem.W.Frag} {Ga Ha : Hp} {hi : Int} {n : Nat} : ItS K Ga Ha (Itc hi (-1) n) (downD hi n) := by
  refine ⟨fun i G H e1 e2 hj => ?_, fun i G H e1 e2 hj => ?_, fun i G H x H' e1 e2 hj y => ?_⟩
  · rw [downD_len] at hj
    exact hj
  · rw [downD_len] at hj
    exact hj
  · rw [downD_len] at hj
    obtain ⟨rfl, rfl⟩ := y
    refine ⟨.int (hi - (i : Nat)), G, ?_, Ext.refl e2, ?_⟩
    · unfold downD
      rw [List.getElem?_map, List.getElem?_range hj]
      rfl
    · have z : hi + (i : Nat) * (-1) = hi - (i : Nat) := by omega
      rw [z]
      exact .int _
theorem vrs3 {K : PySem.W.Frag} {B G H : Hp} {vs : List V} {a b c : Val} (h : VRs K B G H vs [a, b, c]) : ∃ v u w, vs = [v, u, w] ∧ VR K B G H v a ∧ VR K B G H u b ∧ VR K B G H w c := by
  cases h with
  | cons h1 h2 =>
    obtain ⟨u, w, rfl, h3, h4⟩ := vrs2 h2
    exact ⟨_, u, w, rfl, h1, h3, h4⟩
theorem sndi_3 {K : PySem.W.Frag} {mg : Str → Option Value} {W : WX} {ta : TA} {ma : Rho → Res (List Val)} (h : SndA K mg W ta ma) : SndI K mg W (iRng3 ta) (mIter3 ma) := by
  intro G0 H0 σ G H ρ R I q
  refine h G0 H0 σ G H ρ _ I (RR.bnd (Ext.refl I.s) q fun a G1 H1 x ea e1 r1 h1 => ?_)
  obtain ⟨xs, ex, q1⟩ := h1.lift
  split at ex
  · split at ex
    · rename_i i j c hc
      cases ex
      obtain ⟨v, u, w, rfl, z1, z2, z3⟩ := vrs3 r1
      cases z1.int_
      cases z2.int_
      cases z3.int_
      obtain ⟨_, _, rfl⟩ := hc
      exact ⟨i, j, -1, (i - j).toNat, rfl, RgC.neg (by omega) (by omega) (by omega) (by omega), q1 G1 H1 _ e1 its_down⟩
    · cases ex
  · cases ex
theorem pmi_3 {X : Cx} {W : WX} {tg a b c : Expr} {ta : TA} {ma : Rho → Res (List Val)} {p pos : Pos} (hm : X.mg "range" = none) (h : PMA X W [a, b, c] ta ma) (hg : Gl X "range" := by rfl) (st : starEach [a, b, c] X.env = (false, eval a X.env) :: starEach [b, c] X.env := by rfl) (hpl : (backTo pos (starEach [b, c] X.env)).any (·.1) = false := by rfl) :
    PMI X W tg (.Call (.Name "range" p) [a, b, c] [] pos) (iRng3 ta) (mIter3 ma) := ⟨pi_range3 hg hm h.p st hpl, sndi_3 h.s⟩

/-! ### several except clauses -/
/-- a clause: which classes it takes, its suite -/
abbrev Clause := (Str → Option Bool) × (Rho → Out)
def clauses (m : Str) (fs : List (Str × D)) (ρ : Rho) : List Clause → Out
  | [] => .ex m fs ρ
  | (dec, h) :: r => match dec m with
    | some true => noEx (h ρ)
    | some false => clauses m fs ρ r
    | none => .no
def mTryM (body : Rho → Out) (l : List Clause) : Rho → Out := fun ρ => match body ρ with
  | .ex m fs ρ' => clauses m fs ρ' l
  | o => o
inductive ClsS (K : PySem.W.Frag) (mg : Str → Option Value) : List (Value × (Addr → Value → Option Addr → TS)) → List Clause → Prop
  | nil : ClsS K mg [] []
  | cons {c : Value} {ts : Addr → Value → Option Addr → TS} {dec : Str → Option Bool} {mh : Rho → Out} {l : List (Value × (Addr → Value → Option Addr → TS))} {r : List Clause} : Decs K mg c dec → (∀ a cls d, SndS K mg W0 (ts a cls d) mh) → ClsS K mg l r → ClsS K mg ((c, ts) :: l) ((dec, mh) :: r)
theorem noEx_ok {K : PySem.W.Frag} {mg : Str → Option Value} {W : WX} {G0 H0 G : Hp} {D : Ends} {o : Out} (h : OutR K mg W G0 H0 G D (noEx o)) : OutR K mg W0 G0 H0 G D o := by
  cases o <;> first | exact h | exact h.elim
theorem snd_tryM {K : PySem.W.Frag} {mg : Str → Option Value} {Wout : WX} {l : List (Value × (Addr → Value → Option Addr → TS))} {cl : List Clause} {tb : WX → TS} {mb : Rho → Out} (hb : ∀ W, SndS K mg W (tb W) mb) (hl : ClsS K mg l cl) :
    SndS K mg Wout (fun D σ H => tb (wMany K Wout D l) D σ H) (mTryM mb cl) := by
  intro G0 H0 σ G H ρ D I q
  refine hb _ G0 H0 σ G H ρ D I ?_
  unfold mTryM at q
  cases eo : mb ρ with
  | nx ρ' =>
    rw [eo] at q
    exact q
  | rt r =>
    rw [eo] at q
    exact q
  | bk ρ' =>
    rw [eo] at q
    exact q
  | ct ρ' =>
    rw [eo] at q
    exact q
  | no =>
    rw [eo] at q
    exact q
  | ex m fs ρ' =>
    rw [eo] at q
    have q : OutR K mg Wout G0 H0 G D (clauses m fs ρ' cl) := q
    intro σ' G' H' C d I' s' hC hx
    clear hb eo
    induction hl with
    | nil => exact q σ' G' H' C d I' s' hC hx
    | @cons c ts dec mh l r hd hh hr ih =>
      unfold clauses at q
      cases ed : dec m with
      | none =>
        rw [ed] at q
        exact q.elim
      | some b =>
        refine ⟨b, hd m b C ed hC, fun eb a ha => ?_, fun eb => ?_⟩
        · subst eb
          rw [ed] at q
          exact hh a (.ref C) d G0 H0 σ' G' H' ρ' D I' (noEx_ok (OutR.up s' q))
        · subst eb
          rw [ed] at q
          exact ih q q
inductive PMH (X : Cx) : List ExceptHandler → List (Value × (Addr → Value → Option Addr → TS)) → List Clause → Prop
  | nil : PMH X [] [] []
  | cons {x : Str} {c : Value} {ts : Addr → Value → Option Addr → TS} {b₀ : Stmt} {suite : List Stmt} {np pos' : Pos} {hds : List ExceptHandler} {l : List (Value × (Addr → Value → Option Addr → TS))} {dec : Str → Option Bool} {mh : Rho → Out} {r : List Clause} (gc : X.mg x = some c) (gl : Gl X x) (db : (x == ("__debug__" : Str)) = false) (hd : Decs X.K X.mg c dec)
      (hh : ∀ (a : Addr) (oe : Obj) (cls : Value) (d : Option Addr) (pn : List (Addr × Obj)), PMSs (X.suite a ((a, oe) :: pn)) W0 (b₀ :: suite) (ts a cls d) mh) (t : PMH X hds l r) : PMH X (.ExceptHandler (some (.Name x np)) none (b₀ :: suite) pos' :: hds) ((c, ts) :: l) ((dec, mh) :: r)
theorem PMH.hds {X : Cx} {h : List ExceptHandler} {l : List (Value × (Addr → Value → Option Addr → TS))} {r : List Clause} (p : PMH X h l r) : HdsOk X h l ∧ ClsS X.K X.mg l r := by
  induction p with
  | nil => exact ⟨.nil, .nil⟩
  | cons gc gl db hd hh t ih => exact ⟨.cons ⟨gl, db, .inl gc⟩ (fun a oe cls d pn _ _ => (hh a oe cls d pn).p) ih.1, .cons hd (fun a cls d => (hh a { cls := cls, dict := d, data := .fields #[] } cls d []).s) ih.2⟩
theorem pms_tryM {X : Cx} {Wout : WX} {body : List Stmt} {h₀ : ExceptHandler} {hds : List ExceptHandler} {l : List (Value × (Addr → Value → Option Addr → TS))} {cl : List Clause} {pos : Pos} {tb : WX → TS} {mb : Rho → Out} (hs : X.stack = X.env :: X.outer) (hf : X.env.frame = some X.env.locals) (tk : Takes X Wout)
    (hb : ∀ (W : WX) (pn : List (Addr × Obj)) (xe : Value → Shared → Prop), Takes (X.tr pn xe) W → PMSs (X.tr pn xe) W body (tb W) mb) (hh : PMH X (h₀ :: hds) l cl) : PMS X Wout (.Try body (h₀ :: hds) [] [] pos) (fun D σ H => tb (wMany X.K Wout D l) D σ H) (mTryM mb cl) := by
  refine ⟨ps_try_many hs hf tk (fun W pn xe t _ => (hb W pn xe t).p) hh.hds.1, snd_tryM (fun W => ?_) hh.hds.2⟩
  exact (hb W [] (fun u s' => XE (X.tr [] fun _ _ => False) W u s') fun u s' ⟨a, B, sI, pins, σ, H, cls, d, e, J, rest⟩ => ⟨a, B, sI, pins, σ, H, cls, d, e, J.wish (fun _ _ => False), rest⟩).s
end Mi

namespace Mi
open PySem PySem.Spec PyProof.Rows L2

/-! ### except X as e: .. isinstance(e, C) .. -/
def rIsX (K : PySem.W.Frag) (a : Addr) (cls : Value) (d : Option Addr) : List V → Hp → VK → Prop := fun xs H Q => ∃ D, cls = .ref D ∧ d = none ∧ ExcC K D ∧ rIsE K D a xs H Q
theorem call_isX {X : Cx} {a : Addr} {oe : Obj} {pn : List (Addr × Obj)} {cls : Value} {d : Option Addr} (hz : Zc cls d oe) (hf : ∃ vs, oe.data = .fields vs) : CallR (X.suite a ((a, oe) :: pn)) (.builtin "isinstance") (rIsX X.K a cls d) := by
  intro pins s σ H xs us Q I r h
  obtain ⟨D, rfl, rfl, C, h⟩ := h
  exact call_isE C hz hf pins s σ H xs us Q I r h
def Exs (i : Nat) (a : Addr) (te : TE) (b : Bool) : Prop := ∀ (σ : L2.St) (H : Hp) (Q : VK), σ[i]? = some (some (.ref a)) → Q (.bl b) H → te σ H Q
def Tst (i : Nat) (a : Addr) (tt : TT) (b : Bool) : Prop := ∀ (σ : L2.St) (H : Hp) (Q : Bool → Hp → Prop), σ[i]? = some (some (.ref a)) → Q b H → tt σ H Q
/-- what the class D answers about the class c -/
def IsD (K : PySem.W.Frag) (mg : Str → Option Value) (c : Value) (mt : Str → Option Bool) : Prop := ∀ (m : Str) (b : Bool) (C : Addr), mt m = some b → mg m = some (.ref C) → ExcC K C ∧ PySem.W.kitOne K (.ref C) c = some b
section
variable {X : Cx} {i : Nat} {a : Addr} {cls : Value} {d : Option Addr} {e e1 e2 : Expr} {te : TE} {tt tA tB : TT} {mt m1 m2 : Str → Option Bool} {pos : Pos} {rest : List Expr} {b : Expr}
structure PHE (X : Cx) (i : Nat) (a : Addr) (cls : Value) (d : Option Addr) (e : Expr) (te : TE) (mt : Str → Option Bool) : Prop where
  p : PE X e te
  s : ∀ m C b, cls = .ref C → d = none → X.mg m = some (.ref C) → mt m = some b → Exs i a te b
structure PHT (X : Cx) (i : Nat) (a : Addr) (cls : Value) (d : Option Addr) (e : Expr) (tt : TT) (mt : Str → Option Bool) : Prop where
  p : PT X e tt
  s : ∀ m C b, cls = .ref C → d = none → X.mg m = some (.ref C) → mt m = some b → Tst i a tt b
structure PHW (X : Cx) (i : Nat) (a : Addr) (cls : Value) (d : Option Addr) (e : Expr) (tt : TT) (mt : Str → Option Bool) : Prop where
  p : PW X e tt
  s : ∀ m C b, cls = .ref C → d = none → X.mg m = some (.ref C) → mt m = some b → Tst i a tt b
theorem phe_is {K : PySem.W.Frag} {x y : Str} {p p1 p2 : Pos} {v : V} {u : Value} (hk : X.K = K) (hc : CallR X (.builtin "isinstance") (rIsX K a cls d)) (hy : X.mg y = some u) (rv : RelV v u) (hu : ∀ w, RelV v w → w = u) (hd' : IsD K X.mg u mt) (hm : X.mg "isinstance" = none) (hN : X.N[i]? = some x := by rfl)
    (hv : Vis X.env.scope x := by first | exact Or.inl rfl | exact Or.inr (Or.inl rfl) | exact Or.inr (Or.inr rfl)) (hd : (x == ("__debug__" : Str)) = false := by decide) (hcd : (x == ("__classdict__" : Str)) = false := by decide)
    (gy : Gl X y := by rfl) (dy : (y == ("__debug__" : Str)) = false := by decide) (hg : Gl X "isinstance" := by rfl)
    (he : starEach (.Name x p1 :: [.Name y p2]) X.env = (false, eval (.Name x p1) X.env) :: starEach [.Name y p2] X.env := by rfl) (hs2 : starEach (.Name y p2 :: []) X.env = (false, eval (.Name y p2) X.env) :: starEach [] X.env := by rfl) (hpl : (backTo pos (starEach [.Name y p2] X.env)).any (·.1) = false := by rfl) :
    PHE X i a cls d (.Call (.Name "isinstance" p) [.Name x p1, .Name y p2] [] pos) (tCB (rIsX K a cls d) (tCons (tVar i) (tCons (tC v) tNil))) mt := by
  subst hk
  exact ⟨pe_callB hc hg hm rfl (pa_cons (pe_var hN hv hd hcd) (pa_cons (pe_glob gy hy rv dy) pa_nil hs2) he) (by decide) (by decide) he hpl, fun m C b hC hn hmC hb σ H Q hσ q => by
    obtain ⟨EC, ek⟩ := hd' m b C hb hmC
    exact ⟨_, hσ, C, hC, hn, EC, v, u, b, rfl, hu, ek, q⟩⟩
theorem pht_tru {K : PySem.W.Frag} (hk : X.K = K) (h : PHE X i a cls d e te mt) (he : ∀ whole, isTrue e X.env whole = (do let v ← whole; standAt e.pos; holding [v] (truthy v)) := by intro _; rfl) : PHT X i a cls d e (fun σ H Q => te σ H fun x H' => ∃ k, TruV K x H' k ∧ Q k H') mt := by
  subst hk
  exact ⟨pt_truth h.p he, fun m C b h1 h2 h3 h4 σ H Q hσ q => h.s m C b h1 h2 h3 h4 σ H _ hσ ⟨b, rfl, q⟩⟩
theorem pht_not (h : PHT X i a cls d e tA mt) : PHT X i a cls d (.UnaryOp .Not e pos) (tNot tA) (fun m => (mt m).map (!·)) :=
  ⟨pt_not h.p, fun m C b h1 h2 h3 h4 σ H Q hσ q => by
    cases e0 : mt m with
    | none =>
      rw [e0] at h4
      cases h4
    | some k =>
      rw [e0] at h4
      cases h4
      exact h.s m C k h1 h2 h3 e0 σ H _ hσ q⟩
theorem phw_or1 (h : PHT X i a cls d e tA mt) : PHW X i a cls d (.BoolOp .Or [e] pos) tA mt := ⟨pw_or1 h.p, h.s⟩
theorem phw_or (h : PHT X i a cls d e tA m1) (h2 : PHW X i a cls d (.BoolOp .Or (b :: rest) pos) tB m2) : PHW X i a cls d (.BoolOp .Or (e :: b :: rest) pos) (tOr tA tB) (fun m => (m1 m).bind fun k => if k = true then some true else m2 m) :=
  ⟨pw_or h.p h2.p, fun m C k h1 hn h3 h4 σ H Q hσ q => by
    cases e0 : m1 m with
    | none =>
      rw [e0] at h4
      cases h4
    | some k0 =>
      rw [e0] at h4
      have h4 : (if k0 = true then some true else m2 m) = some k := h4
      refine h.s m C k0 h1 hn h3 e0 σ H _ hσ ?_
      cases k0 with
      | true =>
        cases h4
        exact iteT q
      | false => exact iteF (h2.s m C k h1 hn h3 h4 σ H _ hσ q)⟩
theorem PHW.t (h : PHW X i a cls d e tA mt) : PHT X i a cls d e tA mt := ⟨h.p.pt, h.s⟩
end
/-- a suite of a handler -/
def SndH (K : PySem.W.Frag) (mg : Str → Option Value) (i : Nat) (a : Addr) (ts : TS) (mh : Rho → Out) : Prop :=
  ∀ (G0 H0 : Hp) (σ : L2.St) (G H : Hp) (ρ : Rho) (D : Ends), EnvS K G0 H0 σ G H ρ → σ[i]? = some (some (.ref a)) → OutR K mg W0 G0 H0 G D (mh ρ) → ts D σ H
structure PHS (X : Cx) (i : Nat) (a : Addr) (cls : Value) (d : Option Addr) (st : List Stmt) (ts : TS) (mh : Str → Rho → Out) : Prop where
  p : PSs X st ts
  s : ∀ m C, cls = .ref C → d = none → X.mg m = some (.ref C) → SndH X.K X.mg i a ts (mh m)
def mHIf (mt : Str → Option Bool) (a b : Rho → Out) : Str → Rho → Out := fun m ρ => match mt m with
  | some true => a ρ
  | some false => b ρ
  | none => .no
def mHRet (mt : Str → Option Bool) : Str → Rho → Out := fun m _ => match mt m with
  | some b => .rt (.sh (.bool b))
  | none => .no
section
variable {X : Cx} {i : Nat} {a : Addr} {cls : Value} {d : Option Addr} {e : Expr} {te : TE} {tt : TT} {mt : Str → Option Bool} {pos : Pos} {sts rest : List Stmt} {t u : TS} {ma mb : Rho → Out}
theorem phs_if (h : PHT X i a cls d e tt mt) (ha : PMSs X W0 sts t ma) (hb : PMSs X W0 rest u mb) : PHS X i a cls d [.If e sts rest pos] (tIfS tt t u) (mHIf mt ma mb) :=
  ⟨pss_one (ps_if h.p ha.p hb.p), fun m C h1 h2 h3 G0 H0 σ G H ρ D I hσ q => by
    unfold mHIf at q
    cases e0 : mt m with
    | none =>
      rw [e0] at q
      exact q.elim
    | some k =>
      rw [e0] at q
      refine h.s m C k h1 h2 h3 e0 σ H _ hσ ?_
      cases k with
      | true => exact iteT (ha.s G0 H0 σ G H ρ D I q)
      | false => exact iteF (hb.s G0 H0 σ G H ρ D I q)⟩
theorem phs_ret (h : PHE X i a cls d e te mt) : PHS X i a cls d [.Return (some e) pos] (tRet te) (mHRet mt) :=
  ⟨pss_one (ps_ret h.p), fun m C h1 h2 h3 G0 H0 σ G H ρ D I hσ q => by
    unfold mHRet at q
    cases e0 : mt m with
    | none =>
      rw [e0] at q
      exact q.elim
    | some k =>
      rw [e0] at q
      exact h.s m C k h1 h2 h3 e0 σ H _ hσ (q G H (.bl k) I.ext (Rp.bl k))⟩
end
/-- behind the suite the name is gone -/
def offX (i : Nat) : Out → Out
  | .nx ρ => .nx (ρ.set i none)
  | .bk ρ => .bk (ρ.set i none)
  | .ct ρ => .ct (ρ.set i none)
  | .rt r => .rt r
  | _ => .no
def mTryAs (body : Rho → Out) (dec : Str → Option Bool) (i : Nat) (h : Str → Rho → Out) : Rho → Out := fun ρ => match body ρ with
  | .ex m fs ρ' => match dec m with
    | some true => if fs.isEmpty = true ∧ i < ρ'.length then offX i (h m (ρ'.set i none)) else .no
    | some false => .ex m fs ρ'
    | none => .no
  | o => o
theorem snd_tryAs {K : PySem.W.Frag} {mg : Str → Option Value} {Wout : WX} {c : Value} {dec : Str → Option Bool} {i : Nat} {tb : WX → TS} {mb : Rho → Out} {ts : Addr → Value → Option Addr → TS} {mh : Str → Rho → Out} (hd : Decs K mg c dec)
    (hb : ∀ W, SndS K mg W (tb W) mb) (hh : ∀ a cls d m C, cls = .ref C → d = none → mg m = some (.ref C) → SndH K mg i a (ts a cls d) (mh m)) : SndS K mg Wout (fun D σ H => tb (wAs K c i ts Wout D) D σ H) (mTryAs mb dec i mh) := by
  intro G0 H0 σ G H ρ D I q
  refine hb _ G0 H0 σ G H ρ D I ?_
  unfold mTryAs at q
  cases eo : mb ρ with
  | nx ρ' =>
    rw [eo] at q
    exact q
  | rt r =>
    rw [eo] at q
    exact q
  | bk ρ' =>
    rw [eo] at q
    exact q
  | ct ρ' =>
    rw [eo] at q
    exact q
  | no =>
    rw [eo] at q
    exact q
  | ex m fs ρ' =>
    rw [eo] at q
    have q : OutR K mg Wout G0 H0 G D (match dec m with
      | some true => if fs.isEmpty = true ∧ i < ρ'.length then offX i (mh m (ρ'.set i none)) else .no
      | some false => .ex m fs ρ'
      | none => .no) := q
    intro σ' G' H' C d I' s' hC hx
    cases ed : dec m with
    | none =>
      rw [ed] at q
      exact q.elim
    | some b =>
      refine ⟨b, hd m b C ed hC, fun eb a ha => ?_, fun eb => ?_⟩
      · subst eb
        rw [ed] at q
        have q : OutR K mg Wout G0 H0 G D (if fs.isEmpty = true ∧ i < ρ'.length then offX i (mh m (ρ'.set i none)) else .no) := q
        split at q
        · rename_i hc
          have hdn : d = none := by
            rcases hx with ⟨_, h⟩ | ⟨dd, fv, _, hne, _⟩
            · exact h
            · exact (hne (List.isEmpty_iff.mp hc.1)).elim
          refine hh a (.ref C) d m C rfl hdn hC G0 H0 _ G' H' (ρ'.set i none) _ (I'.drop i (some (.ref a))) (by rw [List.getElem?_set_self (by rw [I'.len]; exact hc.2)]) ?_
          have q := OutR.up s' q
          cases eh : mh m (ρ'.set i none) with
          | nx ρ2 =>
            rw [eh] at q
            exact fun σ2 G2 H2 I2 s2 => q (σ2.set i none) G2 H2 (I2.drop i none) s2
          | rt r =>
            rw [eh] at q
            exact q
          | bk ρ2 =>
            rw [eh] at q
            exact fun σ2 G2 H2 I2 s2 => q (σ2.set i none) G2 H2 (I2.drop i none) s2
          | ct ρ2 =>
            rw [eh] at q
            exact fun σ2 G2 H2 I2 s2 => q (σ2.set i none) G2 H2 (I2.drop i none) s2
          | no =>
            rw [eh] at q
            exact q
          | ex m2 fs2 ρ2 =>
            rw [eh] at q
            exact q.elim
        · exact q.elim
      · subst eb
        rw [ed] at q
        exact q σ' G' H' C d I' s' hC hx
section
variable {X : Cx} {Wout : WX} {x n : Str} {c : Value} {i : Nat} {body suite : List Stmt} {b₀ : Stmt} {np pos pos' : Pos} {tb : WX → TS} {mb : Rho → Out} {ts : Addr → Value → Option Addr → TS} {mh : Str → Rho → Out} {dec : Str → Option Bool}
theorem pms_tryAs (hs : X.stack = X.env :: X.outer) (hf : X.env.frame = some X.env.locals) (hN : X.N.Nodup) (hi : X.N[i]? = some n) (hln : X.env.kindOf n = some .local) (gc : X.mg x = some c) (tk : Takes X Wout) (hd : Decs X.K X.mg c dec)
    (hb : ∀ (W : WX) (pn : List (Addr × Obj)) (xe : Value → Shared → Prop), Takes (X.tr pn xe) W → PMSs (X.tr pn xe) W body (tb W) mb)
    (hh : ∀ (a : Addr) (oe : Obj) (cls : Value) (d : Option Addr) (pn : List (Addr × Obj)), CallR (X.suite a ((a, oe) :: pn)) (.builtin "isinstance") (rIsX X.K a cls d) → PHS (X.suite a ((a, oe) :: pn)) i a cls d (b₀ :: suite) (ts a cls d) mh) (gl : Gl X x := by rfl) (db : (x == ("__debug__" : Str)) = false := by decide) :
    PMS X Wout (.Try body [.ExceptHandler (some (.Name x np)) (some n) (b₀ :: suite) pos'] [] [] pos) (fun D σ H => tb (wAs X.K c i ts Wout D) D σ H) (mTryAs mb dec i mh) := by
  refine ⟨ps_try_as hs hf hN hi hln ⟨gl, db, .inl gc⟩ tk (fun W pn xe t _ => (hb W pn xe t).p) (fun a oe cls d pn hz hf => (hh a oe cls d pn (call_isX hz hf)).p), snd_tryAs hd (fun W => ?_) fun a cls d m C h1 h2 h3 => ?_⟩
  · exact (hb W [] (fun u s' => XE (X.tr [] fun _ _ => False) W u s') fun u s' ⟨a, B, sI, pins, σ, H, cls, d, e, J, rest⟩ => ⟨a, B, sI, pins, σ, H, cls, d, e, J.wish (fun _ _ => False), rest⟩).s
  · exact (hh a { cls := cls, dict := d, data := .fields #[] } cls d [] (call_isX ⟨rfl, rfl⟩ ⟨_, rfl⟩)).s m C h1 h2 h3
end
theorem pmg_tupK {X : Cx} {K : PySem.W.Frag} {es : List Expr} {gs : TGs} {bs : List D → Rho → Option Rho} {n : Nat} {ts : List Nat} {k : Nat} {pos : Pos} (hk : X.K = K) (hc : X.calm = true) (h : PMGs X es gs bs n ts) (hn : (assignEach es X.env).length = n := by rfl) (hst : (assignEach es X.env).findIdx? (·.1) = none := by rfl) : PMG X (.Tuple es k pos) (gTup K n gs) (bTup bs) ts := by
  subst hk
  exact pmg_tup hc h hn hst
/-! ### isinstance(x, T), T a built-in type -/
def tyB (T : String) : Val → Option Bool
  | .ow _ => kitB "list" T
  | .bw _ => kitB "list" T
  | .sh .none => kitB "NoneType" T
  | .sh (.bool _) => kitB "bool" T
  | .sh (.int _) => kitB "int" T
  | .sh (.str _) => kitB "str" T
  | _ => none
def mIsT (T : String) (me : Rho → Res Val) : Rho → Res Val := fun ρ => (me ρ).bind fun a => lift ((tyB T a).map fun b => .sh (.bool b))
theorem tyB_ok {K : PySem.W.Frag} {B G H : Hp} {v : V} {a : Val} {T : String} {b : Bool} (h : VR K B G H v a) (e : tyB T a = some b) : ∃ t, TyX K H v t ∧ PySem.W.kitOne K t (.type T) = some b := by
  unfold tyB at e
  split at e
  · obtain ⟨p, vs, rfl, hp, _⟩ := h
    exact ⟨_, .base (.lst hp), kit_ty e⟩
  · obtain ⟨p, vs, rfl, hp, _⟩ := h
    exact ⟨_, .base (.lst hp), kit_ty e⟩
  · cases h.non_
    exact ⟨_, .base .non, kit_ty e⟩
  · cases h.bool_
    exact ⟨_, .base (.bl _), kit_ty e⟩
  · cases h.int_
    exact ⟨_, .base (.int _), kit_ty e⟩
  · cases h.str_
    exact ⟨_, .base (.str _), kit_ty e⟩
  · cases e
theorem snd_isT {K : PySem.W.Frag} {mg : Str → Option Value} {W : WX} {te : TE} {me : Rho → Res Val} {T : String} (hs : Snd K mg W te me) : Snd K mg W (tCB (rIsi K) (tCons te (tCons (tC (.ty T)) tNil))) (mIsT T me) := by
  intro G0 H0 σ G H ρ Q I h
  refine hs G0 H0 σ G H ρ _ I (RR.bnd (Ext.refl I.s) h fun a G1 H1 x ea e1 r1 h1 => ?_)
  obtain ⟨c, ec, q⟩ := h1.lift
  cases eb : tyB T a with
  | none =>
    rw [eb] at ec
    cases ec
  | some b =>
    rw [eb] at ec
    cases ec
    obtain ⟨t, ty, ek⟩ := tyB_ok r1 eb
    exact ⟨x, .ty T, t, .type T, b, rfl, .ty T, ty, ek, q G1 H1 _ e1 (Rp.bl b)⟩
theorem pm_isT {X : Cx} {W : WX} {e : Expr} {te : TE} {me : Rho → Res Val} {x : Str} {T : String} {p p2 pos : Pos} (hm : X.mg "isinstance" = none) (hT : X.mg x = none) (hv : bootBuiltins x = some (.type T)) (h : PM X W e te me) (gx : Gl X x := by rfl) (hn : x ≠ "__name__" := by decide) (dx : (x == ("__debug__" : Str)) = false := by decide) (hg : Gl X "isinstance" := by rfl)
    (he : starEach (e :: [.Name x p2]) X.env = (false, eval e X.env) :: starEach [.Name x p2] X.env := by rfl) (hs2 : starEach (.Name x p2 :: []) X.env = (false, eval (.Name x p2) X.env) :: starEach [] X.env := by rfl) (hpl : (backTo pos (starEach [.Name x p2] X.env)).any (·.1) = false := by rfl) :
    PM X W (.Call (.Name "isinstance" p) [e, .Name x p2] [] pos) (tCB (rIsi X.K) (tCons te (tCons (tC (.ty T)) tNil))) (mIsT T me) :=
  ⟨pe_callB call_isi hg hm rfl (pa_cons h.p (pa_cons (pe_bltn gx hT hv rfl hn dx) pa_nil hs2) he) (by decide) (by decide) he hpl, snd_isT h.s⟩
end Mi

namespace Mi
open PySem PySem.Spec PyProof.Rows L2

/-! ### texts: signs one by one, slices -/
def signs (z : Str) : List D := z.cps.toList.map fun c => .str ⟨#[c]⟩
theorem its_str {K : PySem.W.Frag} {Ga Ha : Hp} {x : Str} : ItS K Ga Ha (Its x) (signs x) := by
  refine ⟨fun i G H e1 e2 hi => ?_, fun i G H e1 e2 hi => ?_, fun i G H v H' e1 e2 hi y => ?_⟩
  · unfold signs at hi
    have hi : i < x.cps.size := by simpa using hi
    exact hi
  · unfold signs at hi
    have hi : x.cps.size ≤ i := by simpa using hi
    exact hi
  · obtain ⟨rfl, c, hc, rfl⟩ := y
    refine ⟨.str ⟨#[c]⟩, G, ?_, Ext.refl e2, .str _⟩
    unfold signs
    rw [List.getElem?_map, Array.getElem?_toList, hc]
    rfl
def mIterX (me : Rho → Res Val) : Rho → Res (List D) := fun ρ => (me ρ).bind fun a => lift (match a with
  | .sh (.str z) => some (signs z)
  | a => fix a)
def iOr (a b : TI) : TI := fun σ H R => a σ H R ∨ b σ H R
theorem pi_or {X : Cx} {tg e : Expr} {a b : TI} (h : PI X tg e a) (h' : PI X tg e b) : PI X tg e (iOr a b) := ⟨fun pins s σ H R I q => q.elim (h.run pins s σ H R I) (h'.run pins s σ H R I)⟩
theorem sndi_x {K : PySem.W.Frag} {mg : Str → Option Value} {W : WX} {te : TE} {me : Rho → Res Val} (h : Snd K mg W te me) : SndI K mg W (iOr (iList K te) (iStr te)) (mIterX me) := by
  intro G0 H0 σ G H ρ R I q
  by_cases z : ∃ x, me ρ = .ok (.sh (.str x))
  · obtain ⟨x, ex⟩ := z
    refine .inr (h G0 H0 σ G H ρ _ I (RR.bnd (Ext.refl I.s) q fun a G1 H1 v ea e1 r1 h1 => ?_))
    rw [ex] at ea
    cases ea
    obtain ⟨xs, exs, q1⟩ := h1.lift
    cases exs
    exact ⟨x, r1.str_, q1 G1 H1 _ e1 its_str⟩
  · refine .inl (sndi_list h G0 H0 σ G H ρ R I ?_)
    have e : mIterX me ρ = mIterL me ρ := by
      unfold mIterX mIterL
      cases em : me ρ with
      | ok a =>
        show lift _ = lift _
        congr 1
        split
        · rename_i x
          exact (z ⟨x, em⟩).elim
        · rfl
      | ex n fs => rfl
      | no => rfl
    rw [← e]
    exact q
theorem pmi_x {X : Cx} {W : WX} {tg e : Expr} {te : TE} {me : Rho → Res Val} (h : PM X W e te me) : PMI X W tg e (iOr (iList X.K te) (iStr te)) (mIterX me) := ⟨pi_or (pi_list h.p) (pi_str h.p), sndi_x h.s⟩
def rSlX (K : PySem.W.Frag) : V → Option Int → Option Int → Hp → VK → Prop := fun x lo hi H Q => rSlL K x lo hi H Q ∨ rSlS x lo hi H Q
def mSlX (ma : Rho → Res Val) (ml mh : Rho → Res (Option Int)) : Rho → Res Val := fun ρ => (ma ρ).bind fun a => (ml ρ).bind fun l => (mh ρ).bind fun u => lift (match a with
  | .sh (.str z) => if z.length ≤ 100000 then some (.sh (.str (cutS z l u))) else none
  | a => match lit a with
    | some xs => some (.ow (cutD xs l u))
    | none => none)
theorem snd_slX {K : PySem.W.Frag} {mg : Str → Option Value} {W : WX} {ta : TE} {ma : Rho → Res Val} {tl th : TO} {ml mh : Rho → Res (Option Int)} (ha : Snd K mg W ta ma) (hl : SndO K mg W tl ml) (hh : SndO K mg W th mh) : Snd K mg W (tSl (rSlX K) ta tl th) (mSlX ma ml mh) := by
  intro G0 H0 σ G H ρ Q I h
  refine ha G0 H0 σ G H ρ _ I (RR.bnd (Ext.refl I.s) h fun a G1 H1 x ea e1 r1 h1 => ?_)
  refine hl G0 H0 σ G1 H1 ρ _ (I.ext' e1) (RR.bnd e1 h1 fun l G2 H2 y eb e2 r2 h2 => ?_)
  cases (show y = l from r2)
  have e02 := e1.trans e2
  refine hh G0 H0 σ G2 H2 ρ _ (I.ext' e02) (RR.bnd e02 h2 fun u G3 H3 z ez e3 r3 h3 => ?_)
  cases (show z = u from r3)
  obtain ⟨c, ec, q⟩ := h3.lift
  split at ec
  · split at ec
    · rename_i zz hz
      cases ec
      exact .inr ⟨zz, r1.str_, sz_le hz, q G3 H3 _ (e02.trans e3) (.str _)⟩
    · cases ec
  · split at ec
    · rename_i xs e4
      cases ec
      obtain ⟨p, vs, rfl, hp, k⟩ := ((r1.ext e2).ext e3).list e3.s e4
      have e03 := e02.trans e3
      refine .inl ⟨p, vs, rfl, hp, fun t ht => q G3 _ _ (e03.trans (Ext.newO e3.s ht)) ⟨t, _, rfl, upd_same, e3.s.free ht, e03.h.free ht, ?_⟩⟩
      unfold cutV cutD
      rw [k.length]
      exact (k.drop _).take _
    · cases ec
theorem pm_sliceXK {X : Cx} {K : PySem.W.Frag} {W : WX} {a : Expr} {ta : TE} {ma : Rho → Res Val} {lo hi : Option Expr} {tl th : TO} {ml mh : Rho → Res (Option Int)} {pos p2 : Pos} (ha : PM X W a ta ma) (hl : PMO X W lo tl ml) (hh : PMO X W hi th mh) (h : X.K = K := by rfl) : PM X W (.Subscript a (.Slice lo hi none p2) pos) (tSl (rSlX K) ta tl th) (mSlX ma ml mh) := by
  subst h
  exact ⟨pe_slice (sl_list.or sl_str) ha.p hl.p hh.p, snd_slX ha.s hl.s hh.s⟩

/-! ### split, join, int of a text -/
def strsOf : List D → Option (List Str)
  | [] => some []
  | d :: ds => match d, strsOf ds with
    | .str b, some bs => some (b :: bs)
    | _, _ => none
theorem strsOf_rp {K : PySem.W.Frag} {G : Hp} : ∀ {ds : List D} {vs : List V} {bs : List Str}, RpA K G vs ds → strsOf ds = some bs → vs = bs.map V.str
  | [], _, _, .nil, e => by
    cases e
    rfl
  | d :: ds, _, bs, .cons h a, e => by
    unfold strsOf at e
    split at e
    · rename_i b bs' eb
      cases e
      cases h
      rw [strsOf_rp a eb]
      rfl
    · cases e
theorem rp_strs {K : PySem.W.Frag} {G : Hp} : ∀ ys : List Str, RpA K G (ys.map V.str) (ys.map PyData.str)
  | [] => .nil
  | _ :: ys => .cons (.str _) (rp_strs ys)
def mM1 (mm : Val → Val → Option Val) (mo me : Rho → Res Val) : Rho → Res Val := fun ρ => (mo ρ).bind fun o => match o with
  | .sh (.str _) => (me ρ).bind fun a => lift (mm o a)
  | _ => .no
/-- a method of a text with one argument -/
def M1S (K : PySem.W.Frag) (r : V → List V → Hp → VK → Prop) (mm : Val → Val → Option Val) : Prop :=
  ∀ (B G H : Hp) (x y : V) (o a : Val) (c : Val) (Q : VK), Same G H → VR K B G H x o → VR K B G H y a → mm o a = some c → (∀ G' H' v, Ext G H G' H' → VR K H G' H' v c → Q v H') → r x [y] H Q
theorem snd_m1 {K : PySem.W.Frag} {mg : Str → Option Value} {W : WX} {to te : TE} {mo me : Rho → Res Val} {r : V → List V → Hp → VK → Prop} {mm : Val → Val → Option Val} (hs : M1S K r mm) (ho : Snd K mg W to mo) (he : Snd K mg W te me) : Snd K mg W (tM1 r to te) (mM1 mm mo me) := by
  intro G0 H0 σ G H ρ Q I h
  refine ho G0 H0 σ G H ρ _ I (RR.bnd (Ext.refl I.s) h fun o G1 H1 x eo e1 r1 h1 => ?_)
  split at h1
  · rename_i z
    refine ⟨⟨z, r1.str_⟩, ?_⟩
    refine he G0 H0 σ G1 H1 ρ _ (I.ext' e1) (RR.bnd e1 h1 fun a G2 H2 y ea e2 r2 h2 => ?_)
    obtain ⟨c, ec, q⟩ := h2.lift
    exact hs H1 G2 H2 x y (.sh (.str z)) a c Q e2.s (show Rp K G2 x (.str z) from r1.ext e2) r2 ec fun G' H' v e zz => q G' H' v ((e1.trans e2).trans e) (zz.back (e1.trans e2).h)
  · exact h1.elim
def oSplit : Val → Val → Option Val
  | .sh (.str a), .sh (.str b) => if (b.length == 0) = false ∧ a.length ≤ 99000 then some (.ow ((Txt.split a b).map .str)) else none
  | _, _ => none
def oJoin : Val → Val → Option Val
  | .sh (.str a), r => match lit r with
    | some xs => match strsOf xs with
      | some ys => if (ys.map (·.length)).sum + ys.length * a.length ≤ 100000 then some (.sh (.str (Txt.join a ys))) else none
      | none => none
    | none => none
  | _, _ => none
theorem m1_split {K : PySem.W.Frag} : M1S K (fun x xs H Q => ∃ a b, x = .str a ∧ xs = [.str b] ∧ (b.length == 0) = false ∧ a.length + 2 ≤ sizeLine ∧ rNewStrs (Txt.split a b) H Q) oSplit := by
  intro B G H x y o a c Q s ho ha e q
  unfold oSplit at e
  split at e
  · split at e
    · rename_i a b hc
      cases e
      refine ⟨a, b, ho.str_, by rw [ha.str_], hc.1, Nat.le_trans (by omega : a.length + 2 ≤ 100000) (by decide), fun p hp => q G _ _ (Ext.newO s hp) ⟨p, _, rfl, upd_same, s.free hp, hp, rp_strs _⟩⟩
    · cases e
  · cases e
theorem m1_join {K : PySem.W.Frag} : M1S K (fun x xs H Q => ∃ a p, ∃ ys : List Str, x = .str a ∧ xs = [.ref p] ∧ (SqL K H p (ys.map V.str) ∨ SqT K H p (ys.map V.str)) ∧ (ys.map (·.length)).sum + ys.length * a.length ≤ 16777216 ∧ Q (.str (Txt.join a ys)) H) oJoin := by
  intro B G H x y o r c Q s ho ha e q
  unfold oJoin at e
  split at e
  · rename_i a
    split at e
    · rename_i xs e1
      split at e
      · rename_i ys e2
        split at e
        · rename_i hz
          cases e
          obtain ⟨p, vs, rfl, hp, k⟩ := ha.list s e1
          have ev := strsOf_rp k e2
          subst ev
          exact ⟨a, p, ys, ho.str_, rfl, .inl hp, by omega, q G H _ (Ext.refl s) (Rp.str _)⟩
        · cases e
      · cases e
    · cases e
  · cases e
section
variable {X : Cx} {W : WX} {o e : Expr} {to te : TE} {mo me : Rho → Res Val} {apos pos : Pos}
theorem pm_splitK (ho : PM X W o to mo) (he : PM X W e te me) (hs : starEach [e] X.env = [(false, eval e X.env)] := by rfl) (hbase : attributeBase o "split" X.env (eval o X.env) = eval o X.env := by rfl) (hline : (apos.endLine == pos.line) = true := by rfl) :
    PM X W (.Call (.Attribute o "split" apos) [e] [] pos) (tM1 (fun x xs H Q => ∃ a b, x = .str a ∧ xs = [.str b] ∧ (b.length == 0) = false ∧ a.length + 2 ≤ sizeLine ∧ rNewStrs (Txt.split a b) H Q) to te) (mM1 oSplit mo me) :=
  ⟨pe_split ho.p he.p hs hbase hline, snd_m1 m1_split ho.s he.s⟩
theorem pm_joinK {K : PySem.W.Frag} (ho : PM X W o to mo) (he : PM X W e te me) (hk : X.K = K := by rfl) (hs : starEach [e] X.env = [(false, eval e X.env)] := by rfl) (hbase : attributeBase o "join" X.env (eval o X.env) = eval o X.env := by rfl) (hline : (apos.endLine == pos.line) = true := by rfl) :
    PM X W (.Call (.Attribute o "join" apos) [e] [] pos) (tM1 (fun x xs H Q => ∃ a p, ∃ ys : List Str, x = .str a ∧ xs = [.ref p] ∧ (SqL K H p (ys.map V.str) ∨ SqT K H p (ys.map V.str)) ∧ (ys.map (·.length)).sum + ys.length * a.length ≤ 16777216 ∧ Q (.str (Txt.join a ys)) H) to te) (mM1 oJoin mo me) := by
  subst hk
  exact ⟨pe_join ho.p he.p hs hbase hline, snd_m1 m1_join ho.s he.s⟩
end
def cIntS : List Val → Option Val
  | [.sh (.str a)] => if a.length ≤ 640 then (PySem.intText? a).map fun n => .sh (.int n) else none
  | _ => none
theorem cs_intS {K : PySem.W.Frag} : CallS K (fun xs H Q => ∃ a n, xs = [.str a] ∧ PySem.intText? a = some n ∧ a.length ≤ 640 ∧ Q (.int n) H) cIntS := by
  intro B G H vs as c Q s h e q
  unfold cIntS at e
  split at e
  · split at e
    · rename_i a hl
      obtain ⟨v, rfl, h1⟩ := vrs1 h
      cases en : PySem.intText? a with
      | none =>
        rw [en] at e
        cases e
      | some n =>
        rw [en] at e
        cases e
        exact ⟨a, n, by rw [h1.str_], en, hl, q G H _ (Ext.refl s) (Rp.int _)⟩
    · cases e
  · cases e
def rOr (r r' : List V → Hp → VK → Prop) : List V → Hp → VK → Prop := fun xs H Q => r xs H Q ∨ r' xs H Q
theorem cr_or {X : Cx} {f : Value} {r r' : List V → Hp → VK → Prop} (h : CallR X f r) (h' : CallR X f r') : CallR X f (rOr r r') := by
  intro pins s σ H xs us Q I k q
  rcases q with q | q
  · exact h pins s σ H xs us Q I k q
  · exact h' pins s σ H xs us Q I k q
def cOr (m m' : List Val → Option Val) : List Val → Option Val := fun a => match m a with
  | some c => some c
  | none => m' a
theorem cs_or {K : PySem.W.Frag} {r r' : List V → Hp → VK → Prop} {m m' : List Val → Option Val} (h : CallS K r m) (h' : CallS K r' m') : CallS K (rOr r r') (cOr m m') := by
  intro B G H vs as c Q s ha e q
  unfold cOr at e
  cases e1 : m as with
  | some c1 =>
    rw [e1] at e
    cases e
    exact .inl (h B G H vs as c Q s ha e1 q)
  | none =>
    rw [e1] at e
    exact .inr (h' B G H vs as c Q s ha e q)
end Mi

namespace Mi
open PySem PySem.Spec PyProof.Rows L2

/-! ### dicts: a comprehension with keys that differ, get with a default -/
inductive FlatA : List (Key × V) → List (Key × D) → Prop
  | nil : FlatA [] []
  | cons {k : Key} {v : V} {d : D} {kvs : List (Key × V)} {ds : List (Key × D)} : FlatV v d → FlatA kvs ds → FlatA ((k, v) :: kvs) ((k, d) :: ds)
def dictD (acc : List (Key × D)) : D := .dict (acc.map fun p => (keyD p.1, p.2))
theorem FlatA.kv {kvs : List (Key × V)} {ds : List (Key × D)} (h : FlatA kvs ds) : FlatKV kvs (ds.map fun p => (keyD p.1, p.2)) := by
  induction h with
  | nil => exact .nil
  | cons f _ ih => exact .cons f ih
theorem FlatA.len {kvs : List (Key × V)} {ds : List (Key × D)} (h : FlatA kvs ds) : kvs.length = ds.length := by
  induction h with
  | nil => rfl
  | cons _ _ ih => exact congrArg (· + 1) ih
theorem FlatA.has {kvs : List (Key × V)} {ds : List (Key × D)} (k : Key) (h : FlatA kvs ds) : (kvs.any fun p => decide (p.1 = k)) = ds.any fun p => decide (p.1 = k) := by
  induction h with
  | nil => rfl
  | cons _ _ ih => rw [List.any_cons, List.any_cons, ih]
theorem FlatA.push {kvs : List (Key × V)} {ds : List (Key × D)} {k : Key} {v : V} {d : D} (h : FlatA kvs ds) (f : FlatV v d) : FlatA (kvs ++ [(k, v)]) (ds ++ [(k, d)]) := by
  induction h with
  | nil => exact .cons f .nil
  | cons g _ ih => exact .cons g ih
def keyOf : Val → Option Key
  | .sh (.int i) => some (.inl i)
  | .sh (.str x) => some (.inr x)
  | _ => none
def flatOf : Val → Option D
  | .sh d => if flatD d = true then some d else none
  | _ => none
theorem keyOf_ok {K : PySem.W.Frag} {B G H : Hp} {v : V} {a : Val} {k : Key} (h : VR K B G H v a) (e : keyOf a = some k) : v = kV k := by
  unfold keyOf at e
  split at e
  · cases e
    exact h.int_
  · cases e
    exact h.str_
  · cases e
theorem flatOf_ok {K : PySem.W.Frag} {B G H : Hp} {v : V} {a : Val} {d : D} (h : VR K B G H v a) (e : flatOf a = some d) : FlatV v d := by
  unfold flatOf at e
  split at e
  · split at e
    · rename_i f
      cases e
      cases (show Rp K G v _ from h) with
      | non => exact .non
      | bl b => exact .bl b
      | int i => exact .int i
      | str x => exact .str x
      | lst _ _ => cases f
      | tup _ _ => cases f
      | dct _ _ => cases f
    · cases e
  · cases e
def dcomp (bp : BP) (mt : Rho → Res Bool) (mk mv : Rho → Res Val) (ρ : Rho) : List D → List (Key × D) → Res (List (Key × D))
  | [], acc => .ok acc
  | d :: ds, acc => match bp d ρ with
    | none => .no
    | some ρ1 => match mt ρ1 with
      | .ok b => if b = true then match mk ρ1 with
          | .ok rk => match keyOf rk with
            | some k => match mv ρ1 with
              | .ok rv => match flatOf rv with
                | some x => if acc.length < 100000 ∧ (acc.any fun p => decide (p.1 = k)) = false then dcomp bp mt mk mv ρ ds (acc ++ [(k, x)]) else .no
                | none => .no
              | _ => .no
            | none => .no
          | _ => .no
        else dcomp bp mt mk mv ρ ds acc
      | _ => .no
def mDc (mi : Rho → Res (List D)) (bp : BP) (mt : Rho → Res Bool) (mk mv : Rho → Res Val) (vs : List Nat) : Rho → Res Val := fun ρ => (mi ρ).bind fun xs => match dcomp bp mt mk mv (wipeR ρ vs) xs [] with
  | .ok ys => .ok (.sh (dictD ys))
  | _ => .no
theorem snd_dc {K : PySem.W.Frag} {mg : Str → Option Value} {W : WX} {wi : TI} {mi : Rho → Res (List D)} {g : TG} {bp : BP} {ts : List Nat} {tt : TT} {mt : Rho → Res Bool} {tk tv : TE} {mk mv : Rho → Res Val} {vs : List Nat} (hi : SndI K mg W wi mi) (hg : SndG K g bp ts) (hts : ∀ t ∈ ts, t ∈ vs)
    (ht : SndT K mg W0 tt mt) (hk : Snd K mg W0 tk mk) (hv : Snd K mg W0 tv mv) : Snd K mg W (tDc wi g tt tk tv vs) (mDc mi bp mt mk mv vs) := by
  intro G0 H0 σ G H ρ Q I q
  refine hi G0 H0 σ G H ρ _ I (RR.bnd (Ext.refl I.s) q fun xs G1 H1 J ex e1 hJ q1 => ?_)
  have hJ : ItS K G1 H1 J xs := hJ
  intro Dl nD
  have hD : H Dl = none := e1.h.free nD
  have gD : G1 Dl = none := e1.s.free nD
  have I1 := (I.ext' e1).wipe vs
  split at q1
  · rename_i ys ey
    refine ⟨fun i m H2 => ∃ G2 acc av, Ext G1 H1 G2 H2 ∧ G2 Dl = none ∧ H2 Dl = some (.dK av) ∧ FlatA av acc ∧ i ≤ xs.length ∧ m = xs.length - i ∧ dcomp bp mt mk mv (wipeR ρ vs) (xs.drop i) acc = .ok ys,
      ⟨xs.length, G1, [], [], Ext.newO e1.s nD, gD, upd_same, .nil, Nat.zero_le _, rfl, ey⟩, ?_⟩
    rintro i m H2 ⟨G2, acc, av, e2, g2, h2, ka, hi2, rfl, ec⟩
    by_cases hlt : i < xs.length
    · refine .inr ⟨hJ.go i G2 H2 e2.g e2.s hlt, fun H' => ∃ G2 acc av, Ext G1 H1 G2 H' ∧ G2 Dl = none ∧ H' Dl = some (.dK av) ∧ FlatA av acc ∧ dcomp bp mt mk mv (wipeR ρ vs) (xs.drop (i + 1)) acc = .ok ys,
        fun H' ⟨G3, acc3, av3, z1, z2, z3, z4, z5⟩ => ⟨xs.length - (i + 1), by omega, G3, acc3, av3, z1, z2, z3, z4, hlt, rfl, z5⟩, fun x H' y => ?_⟩
      obtain ⟨d, G3, ed, e3, rd⟩ := hJ.yld i G2 H2 x H' e2.g e2.s hlt y
      have hd : xs.drop i = d :: xs.drop (i + 1) := by
        rw [List.drop_eq_getElem_cons hlt]
        congr 1
        rw [List.getElem?_eq_getElem hlt] at ed
        exact Option.some.inj ed
      rw [hd] at ec
      unfold dcomp at ec
      split at ec
      · cases ec
      · rename_i ρ4 eb
        have e13 := e2.trans e3
        refine hg G0 H0 _ G3 H' (wipeR ρ vs) x d ρ4 _ (I1.ext' e13) rd eb fun σ4 I4 oa => ⟨?_, ?_⟩
        · exact (oa vs hts).trans (onlyAt_wipe vs σ vs fun t q => q)
        · split at ec
          · rename_i b et
            refine ht G0 H0 σ4 G3 H' ρ4 _ I4 ?_
            rw [et]
            intro G4 H4 b' e4 eb'
            cases (show b' = b from eb')
            cases b with
            | false =>
              have ne34 := e3.trans e4
              refine iteF ⟨G4, acc, av, e13.trans e4, ?_, ne34.h _ _ h2, ka, ec⟩
              exact ne34.n Dl (by rw [h2]; exact Option.some_ne_none _) g2
            | true =>
              refine iteT (hk G0 H0 σ4 G4 H4 ρ4 _ (I4.ext' e4) ?_)
              have ec : (match mk ρ4 with
                | .ok rk => match keyOf rk with
                  | some k => match mv ρ4 with
                    | .ok rv => match flatOf rv with
                      | some x => if acc.length < 100000 ∧ (acc.any fun p => decide (p.1 = k)) = false then dcomp bp mt mk mv (wipeR ρ vs) (xs.drop (i + 1)) (acc ++ [(k, x)]) else .no
                      | none => .no
                    | _ => .no
                  | none => .no
                | _ => .no) = .ok ys := ec
              split at ec
              · rename_i rk erk
                rw [erk]
                split at ec
                · rename_i k ek
                  split at ec
                  · rename_i rv erv
                    split at ec
                    · rename_i x' ex'
                      split at ec
                      · rename_i hl
                        intro G5 H5 y5 e5 r5
                        refine hv G0 H0 σ4 G5 H5 ρ4 _ ((I4.ext' e4).ext' e5) ?_
                        rw [erv]
                        intro G6 H6 v6 e6 r6
                        have e26 := ((e3.trans e4).trans e5).trans e6
                        have g6 : G6 Dl = none := e26.n Dl (by rw [h2]; exact Option.some_ne_none _) g2
                        have hp : putK av k v6 = av ++ [(k, v6)] := by
                          unfold putK
                          rw [if_neg]
                          rw [ka.has k, hl.2]
                          exact Bool.false_ne_true
                        refine ⟨av, k, keyOf_ok r5 ek, e26.h _ _ h2, by rw [ka.len]; exact sz_lt hl.1, G6, acc ++ [(k, x')], av ++ [(k, v6)], ((e2.trans e26).mutN nD g6), g6, by rw [hp]; exact upd_same, ka.push (flatOf_ok r6 ex'), ec⟩
                      · cases ec
                    · cases ec
                  · cases ec
                · cases ec
              · cases ec
          · cases ec
    · have e : i = xs.length := by omega
      subst e
      rw [List.drop_length] at ec
      have ec : Res.ok acc = Res.ok ys := ec
      cases ec
      exact .inl ⟨hJ.stop _ G2 H2 e2.g e2.s (Nat.le_refl _), q1 _ H2 _ ((e1.trans e2).frz h2 hD g2) (show Rp K _ (.ref Dl) (dictD _) from .dct upd_same ka.kv)⟩
  · exact q1.elim
theorem pm_dc {X : Cx} {W : WX} {kx vx tg iter : Expr} {ifs : List Expr} {scope : Scope} {own : List (Str × Nat)} {pos : Pos} {wi : TI} {mi : Rho → Res (List D)} {g : TG} {bp : BP} {ts : List Nat} {tt : TT} {mt : Rho → Res Bool} {tk tv : TE} {mk mv : Rho → Res Val} (hc : X.calm = true) (hN : X.N.Nodup) (hi : PMI X W tg iter wi mi) (ok : BlkOk X.N X.env.scope scope own) (hts : ∀ t ∈ ts, t ∈ own.map (·.2))
    (hg : ∀ (s : Shared) (H : Hp) (C : Addr) (cl : List (Str × Addr)) (fp : List Addr), PMG (X.blk s H scope (compEnvC scope cl C X.env) fp) tg g bp ts)
    (ht : ∀ (s : Shared) (H : Hp) (C : Addr) (cl : List (Str × Addr)) (fp : List Addr), PMTs (X.blk s H scope (compEnvC scope cl C X.env) fp) W0 ifs tt mt)
    (hk : ∀ (s : Shared) (H : Hp) (C : Addr) (cl : List (Str × Addr)) (fp : List Addr), PM (X.blk s H scope (compEnvC scope cl C X.env) fp) W0 kx tk mk)
    (hv : ∀ (s : Shared) (H : Hp) (C : Addr) (cl : List (Str × Addr)) (fp : List Addr), PM (X.blk s H scope (compEnvC scope cl C X.env) fp) W0 vx tv mv) (hs : ∀ x, foldedSetIterable iter X.env x = pure x := by intro _; rfl) :
    PM X W (.DictComp kx vx [⟨tg, iter, ifs, 0⟩] scope pos) (tDc wi g tt tk tv (own.map (·.2))) (mDc mi bp mt mk mv (own.map (·.2))) := by
  have h1 := hg X.s_0 X.H_0 0 [] []
  have h2 := ht X.s_0 X.H_0 0 [] []
  have h3 := hk X.s_0 X.H_0 0 [] []
  have h4 := hv X.s_0 X.H_0 0 [] []
  exact ⟨pe_dc hc hN hi.p ok (fun s H C cl fp => (hg s H C cl fp).p) (fun s H C cl fp => (ht s H C cl fp).p) (fun s H C cl fp => (hk s H C cl fp).p) (fun s H C cl fp => (hv s H C cl fp).p) hs, snd_dc hi.s h1.s hts h2.s h3.s h4.s⟩
def keyB : Key → D → Bool
  | .inl i, .int j => decide (j = i)
  | .inr x, .str y => decide (y = x)
  | _, _ => false
theorem keyB_is (k k' : Key) : keyB k (keyD k') = decide (k' = k) := by
  cases k <;> cases k' <;> simp [keyB, keyD]
def getD2 (ds : List (D × D)) (k : Key) : Option D := (ds.find? fun p => keyB k p.1).map (·.2)
theorem get_ok {kvs : List (Key × V)} {ds : List (D × D)} (k : Key) (h : FlatKV kvs ds) : (getD2 ds k = none ∧ valV kvs k = none) ∨ ∃ d v, getD2 ds k = some d ∧ valV kvs k = some v ∧ FlatV v d := by
  induction h with
  | nil => exact .inl ⟨rfl, rfl⟩
  | @cons k' v d kvs ds f _ ih =>
    unfold getD2 valV at ih ⊢
    rw [List.find?_cons, List.find?_cons, keyB_is]
    cases e : decide (k' = k) with
    | true => exact .inr ⟨d, v, rfl, rfl, f⟩
    | false => exact ih
def mGet2 (mo mk md : Rho → Res Val) : Rho → Res Val := fun ρ => (mo ρ).bind fun o => match o with
  | .sh (.dict ds) => (mk ρ).bind fun rk => (md ρ).bind fun rd => lift (match keyOf rk with
    | some k => match getD2 ds k with
      | some d => some (.sh d)
      | none => match rd with
        | .sh x => some (.sh x)
        | _ => none
    | none => none)
  | _ => .no
theorem FlatV.rp {K : PySem.W.Frag} {G : Hp} {v : V} {d : D} (h : FlatV v d) : Rp K G v d := by
  cases h with
  | non => exact .non
  | bl b => exact .bl b
  | int i => exact .int i
  | str x => exact .str x
theorem snd_get2 {K : PySem.W.Frag} {mg : Str → Option Value} {W : WX} {to tk td : TE} {mo mk md : Rho → Res Val} (ho : Snd K mg W to mo) (hk : Snd K mg W tk mk) (hd : Snd K mg W td md) : Snd K mg W (tDGet2 to tk td) (mGet2 mo mk md) := by
  intro G0 H0 σ G H ρ Q I h
  refine ho G0 H0 σ G H ρ _ I (RR.bnd (Ext.refl I.s) h fun o G1 H1 x eo e1 r1 h1 => ?_)
  split at h1
  · rename_i ds
    cases (show Rp K G1 x (.dict ds) from r1) with
    | @dct a kvs _ ha kf =>
      refine ⟨a, rfl, .inl ⟨kvs, .inl (e1.s _ _ ha)⟩, ?_⟩
      refine hk G0 H0 σ G1 H1 ρ _ (I.ext' e1) (RR.bnd e1 h1 fun rk G2 H2 y ek e2 r2 h2 => ?_)
      refine hd G0 H0 σ G2 H2 ρ _ (I.ext' (e1.trans e2)) (RR.bnd (e1.trans e2) h2 fun rd G3 H3 z ez e3 r3 h3 => ?_)
      obtain ⟨c, ec, q⟩ := h3.lift
      have e13 := (e1.trans e2).trans e3
      split at ec
      · rename_i k ek2
        have hk3 : H3 a = some (.dK kvs) := e3.s _ _ (e3.g _ _ (e2.g _ _ ha))
        refine ⟨_, by rw [keyOf_ok r2 ek2]; exact DGet.k hk3, ?_⟩
        rcases get_ok k kf with ⟨n1, n2⟩ | ⟨d, v, s1, s2, f⟩
        · rw [n1] at ec
          rw [n2]
          cases rd with
          | sh x =>
            cases ec
            exact q G3 H3 _ e13 (show Rp K G3 z x from r3)
          | ow _ => cases ec
          | bw _ => cases ec
          | fz _ => cases ec
        · rw [s1] at ec
          rw [s2]
          cases ec
          exact q G3 H3 _ e13 (show Rp K G3 v d from f.rp)
      · cases ec
  · exact h1.elim
theorem pm_get2 {X : Cx} {W : WX} {o e f : Expr} {to tk td : TE} {mo mk md : Rho → Res Val} {apos cpos : Pos} (hu : X.A.units + 64 < cLine) (ho : PM X W o to mo) (hk : PM X W e tk mk) (hd : PM X W f td md) (m : M2 X o "get" apos e f cpos := by exact ⟨rfl, rfl, rfl, rfl⟩) : PM X W (.Call (.Attribute o "get" apos) [e, f] [] cpos) (tDGet2 to tk td) (mGet2 mo mk md) :=
  ⟨pe_dget2 (by omega) ho.p hk.p hd.p m, snd_get2 ho.s hk.s hd.s⟩
theorem phe_isB {X : Cx} {i : Nat} {a : Addr} {cls : Value} {d : Option Addr} {mt : Str → Option Bool} {pos : Pos} {K : PySem.W.Frag} {x y : Str} {p p1 p2 : Pos} {T : String} (hk : X.K = K) (hc : CallR X (.builtin "isinstance") (rIsX K a cls d)) (hy : X.mg y = none) (hb : bootBuiltins y = some (.type T)) (hd' : IsD K X.mg (.type T) mt) (hm : X.mg "isinstance" = none) (hN : X.N[i]? = some x := by rfl)
    (hv : Vis X.env.scope x := by first | exact Or.inl rfl | exact Or.inr (Or.inl rfl) | exact Or.inr (Or.inr rfl)) (hd : (x == ("__debug__" : Str)) = false := by decide) (hcd : (x == ("__classdict__" : Str)) = false := by decide)
    (gy : Gl X y := by rfl) (ny : y ≠ "__name__" := by decide) (dy : (y == ("__debug__" : Str)) = false := by decide) (hg : Gl X "isinstance" := by rfl)
    (he : starEach (.Name x p1 :: [.Name y p2]) X.env = (false, eval (.Name x p1) X.env) :: starEach [.Name y p2] X.env := by rfl) (hs2 : starEach (.Name y p2 :: []) X.env = (false, eval (.Name y p2) X.env) :: starEach [] X.env := by rfl) (hpl : (backTo pos (starEach [.Name y p2] X.env)).any (·.1) = false := by rfl) :
    PHE X i a cls d (.Call (.Name "isinstance" p) [.Name x p1, .Name y p2] [] pos) (tCB (rIsX K a cls d) (tCons (tVar i) (tCons (tC (.ty T)) tNil))) mt := by
  subst hk
  exact ⟨pe_callB hc hg hm rfl (pa_cons (pe_var hN hv hd hcd) (pa_cons (pe_bltn gy hy hb rfl ny dy) pa_nil hs2) he) (by decide) (by decide) he hpl, fun m C b hC hn hmC hb' σ H Q hσ q => by
    obtain ⟨EC, ek⟩ := hd' m b C hb' hmC
    exact ⟨_, hσ, C, hC, hn, EC, .ty T, .type T, b, rfl, fun _ z => z, ek, q⟩⟩
end Mi

/-! Mirrors evaluated: lists of ints. -/
namespace Mi
open PySem PySem.Spec PyProof.Rows L2
abbrev iL (ns : List Int) : D := .list (ns.map .int)
abbrev I (i : Int) : Option Val := some (.sh (.int i))
abbrev SL (ns : List Int) : Option Val := some (.sh (iL ns))
abbrev OL (ns : List Int) : Option Val := some (.ow (ns.map .int))
theorem eqv_int (a b : Int) : PyData.eqv (.int a) (.int b) = decide (a = b) := by
  rw [PyData.eqv]
  rfl
theorem eqv_str (a b : Str) : PyData.eqv (.str a) (.str b) = (a == b) := by
  rw [PyData.eqv]
theorem eqvAll_iL : ∀ a b : List Int, PyData.eqvAll (a.map .int) (b.map .int) = decide (a = b)
  | [], [] => rfl
  | [], _ :: _ => rfl
  | _ :: _, [] => rfl
  | x :: a, y :: b => by
    rw [List.map_cons, List.map_cons, PyData.eqvAll, eqvAll_iL a b, eqv_int]
    by_cases h1 : x = y <;> by_cases h2 : a = b <;> simp [h1, h2]
theorem eqv_iL (a b : List Int) : PyData.eqv (iL a) (iL b) = decide (a = b) := by
  rw [PyData.eqv]
  exact eqvAll_iL a b
theorem canLay_iL : ∀ a : List Int, PyData.canLayAll0 (a.map .int) = true
  | [] => by simp [PyData.canLayAll0]
  | x :: a => by
    rw [List.map_cons, PyData.canLayAll0, canLay_iL a]
    rfl
theorem depth_iL : ∀ a : List Int, PyData.depthAll (a.map .int) = 0
  | [] => by simp [PyData.depthAll]
  | x :: a => by
    rw [List.map_cons, PyData.depthAll, depth_iL a]
    rfl
theorem shaped_iL (a : List Int) : SeqAt.shaped (iL a) = true := by
  unfold SeqAt.shaped
  have h1 : PyData.canLay0 (iL a) = true := by
    rw [PyData.canLay0]
    exact canLay_iL a
  have h2 : PyData.depth (iL a) = 1 := by
    rw [PyData.depth, depth_iL a]
  rw [h1, h2]
  rfl
theorem shaped_int (a : Int) : SeqAt.shaped (.int a) = true := rfl
/-- lo, lo + 1, .. -/
def upto (lo : Int) (n : Nat) : List Int := (List.range n).map fun (i : Nat) => lo + (i : Int)
theorem rangeD_upto (lo : Int) (n : Nat) : rangeD lo n = (upto lo n).map .int := by
  unfold rangeD upto
  rw [List.map_map]
  rfl
theorem upto_len (lo : Int) (n : Nat) : (upto lo n).length = n := by
  unfold upto
  rw [List.length_map, List.length_range]
theorem upto_mem {lo : Int} {n : Nat} {v : Int} : v ∈ upto lo n ↔ lo ≤ v ∧ v < lo + n := by
  unfold upto
  rw [List.mem_map]
  constructor
  · rintro ⟨i, hi, rfl⟩
    have := List.mem_range.mp hi
    omega
  · rintro ⟨h1, h2⟩
    exact ⟨(v - lo).toNat, List.mem_range.mpr (by omega), by omega⟩
theorem upto_get {lo : Int} {n i : Nat} (h : i < n) : (upto lo n)[i]? = some (lo + i) := by
  unfold upto
  rw [List.getElem?_map, List.getElem?_range h]
  rfl
theorem upto_succ (lo : Int) (n : Nat) : upto lo (n + 1) = lo :: upto (lo + 1) n := by
  unfold upto
  rw [List.range_succ_eq_map, List.map_cons, List.map_map]
  congr 1
  · simp
  · apply List.map_congr_left
    intro i _
    simp
    omega
theorem upto_sorted : ∀ (n : Nat) (lo : Int), (upto lo n).Pairwise (· ≤ ·)
  | 0, lo => .nil
  | n + 1, lo => by
    rw [upto_succ]
    refine List.pairwise_cons.mpr ⟨fun v hv => ?_, upto_sorted n (lo + 1)⟩
    have := upto_mem.mp hv
    omega
theorem upto_nodup : ∀ (n : Nat) (lo : Int), (upto lo n).Nodup
  | 0, lo => .nil
  | n + 1, lo => by
    rw [upto_succ]
    refine List.nodup_cons.mpr ⟨fun hv => ?_, upto_nodup n (lo + 1)⟩
    have := upto_mem.mp hv
    omega
theorem isort_of_perm {ns ms : List Int} (h : ns.Perm ms) (s : ms.Pairwise (· ≤ ·)) : isort ns = ms := sorted_uniq ((isort_perm ns).trans h) (isort_sorted ns) s
theorem mpush (acc : List Int) (v : Int) : acc.map PyData.int ++ [.int v] = (acc ++ [v]).map .int := by
  rw [List.map_append]
  rfl
theorem mcat (a b : List Int) : a.map PyData.int ++ b.map .int = (a ++ b).map .int := (List.map_append).symm
theorem mrev (a : List Int) : (a.map PyData.int).reverse = a.reverse.map .int := (List.map_reverse).symm
theorem mset (a : List Int) (j : Nat) (v : Int) : (a.map PyData.int).set j (.int v) = (a.set j v).map .int := by rw [List.map_set]
theorem mrep (n : Nat) (v : Int) : List.replicate n (PyData.int v) = (List.replicate n v).map .int := by rw [List.map_replicate]
theorem mcut (a : List Int) (lo hi : Option Int) : cutD (a.map .int) lo hi = ((a.drop (HT.sIx a.length 0 lo)).take (HT.sIx a.length a.length hi - HT.sIx a.length 0 lo)).map .int := by
  unfold cutD
  rw [List.length_map, List.map_take, List.map_drop]
theorem mat (a : List Int) (i : Int) : atI (a.map PyData.int) i = (atI a i).map .int := by
  unfold atI
  rw [List.length_map]
  cases ixN a.length i with
  | none => rfl
  | some j => exact List.getElem?_map
theorem ixN_in {n : Nat} {i : Int} (h0 : 0 ≤ i) (h1 : i < n) : ixN n i = some i.toNat := by
  unfold ixN
  rw [if_pos h0, if_pos h1]
theorem atI_in {a : List Int} {i : Int} (h0 : 0 ≤ i) (h1 : i < a.length) : ∃ v, a[i.toNat]? = some v ∧ atI a i = some v := by
  have h : i.toNat < a.length := by omega
  refine ⟨a[i.toNat], List.getElem?_eq_getElem h, ?_⟩
  unfold atI
  rw [ixN_in h0 h1]
  exact List.getElem?_eq_getElem h
theorem cutL {a : List Int} {i : Int} (h0 : 0 ≤ i) (h1 : i ≤ a.length) : (a.drop (HT.sIx a.length 0 none)).take (HT.sIx a.length a.length (some i) - HT.sIx a.length 0 none) = a.take i.toNat := by
  have e : HT.sIx a.length a.length (some i) = i.toNat := by
    obtain ⟨k, rfl⟩ := Int.eq_ofNat_of_zero_le h0
    rw [HT.sIx_nat]
    have : k ≤ a.length := by omega
    rw [Nat.min_eq_left this]
    rfl
  rw [e, HT.sIx_none, List.drop_zero, Nat.sub_zero]
theorem cutR {a : List Int} {i : Int} (h0 : 0 ≤ i) (h1 : i ≤ a.length) : (a.drop (HT.sIx a.length 0 (some i))).take (HT.sIx a.length a.length none - HT.sIx a.length 0 (some i)) = a.drop i.toNat := by
  have e : HT.sIx a.length 0 (some i) = i.toNat := by
    obtain ⟨k, rfl⟩ := Int.eq_ofNat_of_zero_le h0
    rw [HT.sIx_nat]
    have : k ≤ a.length := by omega
    rw [Nat.min_eq_left this]
    rfl
  rw [e, HT.sIx_none]
  exact List.take_of_length_le (by rw [List.length_drop]; omega)
theorem loop_nil {bp : BP} {body : Rho → Out} {ρ : Rho} : loop bp body [] ρ = .nx ρ := rfl
theorem loop_cons {bp : BP} {body : Rho → Out} {d : D} {ds : List D} {ρ ρ1 ρ2 : Rho} (h1 : bp d ρ = some ρ1) (h2 : body ρ1 = .nx ρ2) : loop bp body (d :: ds) ρ = loop bp body ds ρ2 := by
  simp only [loop, h1, h2]
theorem shownAll_len : ∀ {x : List Int}, (∀ v ∈ x, v.natAbs < 10 ^ 7) → ((PyData.shownAll (x.map .int)).map (·.length)).sum ≤ 8 * x.length ∧ (PyData.shownAll (x.map .int)).length = x.length
  | [], _ => by
    rw [List.map_nil, PyData.shownAll]
    exact ⟨Nat.le_refl _, rfl⟩
  | v :: x, h => by
    have ih := shownAll_len (x := x) fun u hu => h u (List.mem_cons_of_mem _ hu)
    rw [List.map_cons, PyData.shownAll, List.map_cons, List.sum_cons, List.length_cons, List.length_cons, PyData.shown]
    have z : (PySem.Str.ofString (toString v)).length ≤ 8 := by
      rw [PySem.ofString_length]
      exact int_text_length_le10 (k := 7) (by decide) (h v List.mem_cons_self)
    exact ⟨by show (PySem.Str.ofString (toString v)).length + _ ≤ _; omega, by omega⟩
theorem showable_iL : ∀ {x : List Int}, (∀ v ∈ x, v.natAbs < 10 ^ 7) → PyData.showableAll (x.map .int) = true ∧ PyData.hasDictAll (x.map .int) = false
  | [], _ => by
    rw [List.map_nil, PyData.showableAll, PyData.hasDictAll]
    exact ⟨rfl, rfl⟩
  | v :: x, h => by
    have ih := showable_iL (x := x) fun u hu => h u (List.mem_cons_of_mem _ hu)
    have hv := h v List.mem_cons_self
    have z : v.natAbs.log2 < 1920 := by
      by_cases z : v.natAbs = 0
      · rw [z]
        decide
      · have h2 : v.natAbs.log2 < 24 := (Nat.log2_lt z).mpr (Nat.lt_of_lt_of_le hv (by decide))
        omega
    rw [List.map_cons, PyData.showableAll, PyData.hasDictAll, ih.1, ih.2, PyData.showable, PyData.hasDict, decide_eq_true z]
    exact ⟨rfl, rfl⟩
theorem shows_iL {x : List Int} (h : ∀ v ∈ x, v.natAbs < 10 ^ 7) (hl : x.length ≤ 1000) : shows (iL x) = true := by
  obtain ⟨h1, h2⟩ := showable_iL h
  obtain ⟨h3, h4⟩ := shownAll_len h
  have e1 : PyData.showable (iL x) = true := by rw [PyData.showable]; exact h1
  have e2 : PyData.hasDict (iL x) = false := by rw [PyData.hasDict]; exact h2
  have e3 : PyData.depth (iL x) ≤ 60 := by rw [PyData.depth, depth_iL]; decide
  have e4 : (PyData.shown (iL x)).length ≤ 100000 := by
    rw [PyData.shown]
    have z := listText_len_le (PyData.shownAll (x.map .int))
    omega
  unfold shows
  rw [e1, e2, decide_eq_true e3, decide_eq_true e4]
  rfl
theorem oEqS_str (a b : Str) : oEqS (.sh (.str a)) (.sh (.str b)) = some (.sh (.bool (decide (a = b)))) := rfl
theorem cRepr_D {a : Val} {d : D} (h : dat a = some d) (hs : shows d = true) : cRepr [a] = some (.sh (.str d.shown)) := by
  simp only [cRepr, h, hs, if_true]
theorem cRepr_sh {x : List Int} (hs : shows (iL x) = true) : cRepr [.sh (iL x)] = some (.sh (.str (iL x).shown)) := cRepr_D rfl hs
theorem cRepr_ow {x : List Int} (hs : shows (iL x) = true) : cRepr [.ow (x.map .int)] = some (.sh (.str (iL x).shown)) := cRepr_D rfl hs
theorem cRepr_bw {x : List Int} (hs : shows (iL x) = true) : cRepr [.bw (x.map .int)] = some (.sh (.str (iL x).shown)) := cRepr_D rfl hs
theorem comp_map {bp : BP} {mt : Rho → Res Bool} {me : Rho → Res Val} {ρ : Rho} {g : Int → Int} : ∀ {ns acc : List Int}, (∀ v ∈ ns, ∃ ρ1, bp (.int v) ρ = some ρ1 ∧ mt ρ1 = .ok true ∧ me ρ1 = .ok (.sh (.int (g v)))) → acc.length + ns.length ≤ 100000 →
    comp bp mt me ρ (ns.map .int) (acc.map .int) = .ok ((acc ++ ns.map g).map .int)
  | [], acc, _, _ => by
    rw [List.map_nil, List.map_nil, List.append_nil]
    rfl
  | v :: ns, acc, h, hl => by
    rw [List.length_cons] at hl
    obtain ⟨ρ1, h1, h2, h3⟩ := h v List.mem_cons_self
    have ih := comp_map (ns := ns) (acc := acc ++ [g v]) (fun u hu => h u (List.mem_cons_of_mem _ hu)) (by rw [List.length_append, List.length_singleton]; omega)
    have ha : acc.length < 100000 := by omega
    rw [List.map_cons]
    simp only [comp, h1, h2, h3, esc, if_true, List.length_map, ha]
    rw [mpush, ih, List.append_assoc]
    rfl
theorem comp_map0 {bp : BP} {mt : Rho → Res Bool} {me : Rho → Res Val} {ρ : Rho} {g : Int → Int} {ns : List Int} (h : ∀ v ∈ ns, ∃ ρ1, bp (.int v) ρ = some ρ1 ∧ mt ρ1 = .ok true ∧ me ρ1 = .ok (.sh (.int (g v)))) (hl : ns.length ≤ 100000) : comp bp mt me ρ (ns.map .int) [] = .ok ((ns.map g).map .int) :=
  comp_map (acc := []) h (by simpa using hl)
theorem seq_step {a b : Rho → Out} {ρ ρ' : Rho} {x : Res Val} (h : a ρ = .nx ρ') (k : fin (b ρ') = x) : fin (mSeq a b ρ) = x := by
  unfold mSeq
  rw [h]
  exact k
theorem frz_step {i : Nat} {a : Rho → Out} {ρ : Rho} {x : Res Val} (k : fin (a (frz i ρ)) = x) : fin (mFrz i a ρ) = x := k
theorem seq_ret {a b : Rho → Out} {ρ : Rho} {r : Val} (h : a ρ = .rt r) : fin (mSeq a b ρ) = .ok r := by
  unfold mSeq
  rw [h]
  rfl
theorem comp_filt {bp : BP} {mt : Rho → Res Bool} {me : Rho → Res Val} {ρ : Rho} {t : Int → Bool} {g : Int → Int} : ∀ {ns acc : List Int}, (∀ v ∈ ns, ∃ ρ1, bp (.int v) ρ = some ρ1 ∧ mt ρ1 = .ok (t v) ∧ (t v = true → me ρ1 = .ok (.sh (.int (g v))))) → acc.length + ns.length ≤ 100000 →
    comp bp mt me ρ (ns.map .int) (acc.map .int) = .ok ((acc ++ (ns.filter t).map g).map .int)
  | [], acc, _, _ => by
    rw [List.map_nil, List.filter_nil, List.map_nil, List.append_nil]
    rfl
  | v :: ns, acc, h, hl => by
    rw [List.length_cons] at hl
    obtain ⟨ρ1, h1, h2, h3⟩ := h v List.mem_cons_self
    have hr : ∀ u ∈ ns, ∃ ρ1, bp (.int u) ρ = some ρ1 ∧ mt ρ1 = .ok (t u) ∧ (t u = true → me ρ1 = .ok (.sh (.int (g u)))) := fun u hu => h u (List.mem_cons_of_mem _ hu)
    have ha : acc.length < 100000 := by omega
    rw [List.map_cons]
    cases c : t v with
    | true =>
      have ih := comp_filt (ns := ns) (acc := acc ++ [g v]) hr (by rw [List.length_append, List.length_singleton]; omega)
      rw [c] at h2
      simp only [comp, h1, h2, h3 c, esc, if_true, List.length_map, ha]
      rw [mpush, ih, List.append_assoc, List.filter_cons_of_pos c]
      rfl
    | false =>
      have ih := comp_filt (ns := ns) (acc := acc) hr (by omega)
      rw [c] at h2
      simp only [comp, h1, h2]
      rw [List.filter_cons_of_neg (by rw [c]; exact Bool.false_ne_true)]
      exact ih
theorem comp_filt0 {bp : BP} {mt : Rho → Res Bool} {me : Rho → Res Val} {ρ : Rho} {t : Int → Bool} {g : Int → Int} {ns : List Int} (h : ∀ v ∈ ns, ∃ ρ1, bp (.int v) ρ = some ρ1 ∧ mt ρ1 = .ok (t v) ∧ (t v = true → me ρ1 = .ok (.sh (.int (g v))))) (hl : ns.length ≤ 100000) :
    comp bp mt me ρ (ns.map .int) [] = .ok (((ns.filter t).map g).map .int) := comp_filt (acc := []) h (by simpa using hl)
theorem all_flat (x : List Int) : (x.map PyData.int).all flatD = true := by
  rw [List.all_map, List.all_eq_true]
  intro v _
  rfl
theorem firstAt_int : ∀ {row : List Int} {p : Nat} {v : Int}, row.Nodup → row[p]? = some v → firstAt (.int v) (row.map .int) = some p
  | [], _, _, _, h => by simp at h
  | u :: row, 0, v, _, h => by
    have e : u = v := by simpa using h
    subst e
    rw [List.map_cons]
    unfold firstAt
    rw [eqv_int, decide_eq_true rfl]
    rfl
  | u :: row, p + 1, v, nd, h => by
    have nd' := List.nodup_cons.mp nd
    have h : row[p]? = some v := by simpa using h
    have ne : ¬ u = v := fun e => nd'.1 (e ▸ List.mem_of_getElem? h)
    rw [List.map_cons]
    unfold firstAt
    rw [eqv_int, decide_eq_false ne, firstAt_int nd'.2 h]
    rfl
theorem kIndex_L {o : Val} {row : List Int} {p : Nat} {v : Int} (e : lit o = some (row.map .int)) (nd : row.Nodup) (h : row[p]? = some v) : kIndex o [.sh (.int v)] = some (.sh (.int (p : Nat))) := by
  unfold kIndex
  rw [e]
  show (if (flatD (.int v) && (row.map PyData.int).all flatD) = true then (firstAt (.int v) (row.map .int)).map fun j => Val.sh (.int (j : Nat)) else none) = _
  rw [all_flat, firstAt_int nd h]
  rfl
theorem inD_iL (v : Int) (ns : List Int) : inD (.int v) (ns.map .int) = decide (v ∈ ns) := by
  unfold inD
  rw [List.any_map]
  induction ns with
  | nil => rfl
  | cons u ns ih =>
    rw [List.any_cons, ih]
    show (PyData.eqv (.int u) (.int v) || _) = _
    rw [eqv_int]
    by_cases h : u = v
    · have z : v ∈ u :: ns := by rw [h]; exact List.mem_cons_self
      rw [decide_eq_true h, decide_eq_true z]
      rfl
    · rw [decide_eq_false h]
      have : (v ∈ u :: ns) ↔ v ∈ ns := by
        constructor
        · intro z
          rcases List.mem_cons.mp z with z | z
          · exact absurd z.symm h
          · exact z
        · exact List.mem_cons_of_mem _
      simp only [this, Bool.false_or]
end Mi

namespace Law
open PySem PySem.Spec PyProof.Rows L2 Mi
def isd_ValueError (m : Str) : Option Bool := if m = "YardsortError" then some true else if m = "NotRow" then some true else if m = "NotCode" then some true else none
def isd_YardsortError (m : Str) : Option Bool := if m = "YardsortError" then some true else if m = "NotRow" then some true else if m = "NotCode" then some true else none
def dec_YardsortError (m : Str) : Option Bool := if m = "YardsortError" then some true else if m = "NotRow" then some true else if m = "NotCode" then some true else none
def dec_NotRow (m : Str) : Option Bool := if m = "YardsortError" then some false else if m = "NotRow" then some true else if m = "NotCode" then some false else none
def isd_NotCode (m : Str) : Option Bool := if m = "YardsortError" then some false else if m = "NotRow" then some false else if m = "NotCode" then some true else none
def dec_NotCode (m : Str) : Option Bool := if m = "YardsortError" then some false else if m = "NotRow" then some false else if m = "NotCode" then some true else none
def ms_is_row : Rho → Out := (mSeq (mSet 1 (mCall cLen (mCons (mVar 0) mNil)))
  (mRet (mAndV (mOp oLe (mVar 1) (mC (.int 60))) (mOp (oOr oEqS oEq) (mCall cSorted (mCons (mVar 0) mNil)) (mListR2 (mC (.int 1)) (mOp oAdd (mVar 1) (mC (.int 1))))))))
def M_is_row : List Val → Res Val := mFn 2 ms_is_row
theorem M_is_row_eq (v0 : Val) : M_is_row [v0] = fin (ms_is_row [some v0, none]) := rfl
def ms_check_row : Rho → Out := (mIf (mNot (mTru (mDef M_is_row (mCons (mVar 0) mNil))))
  (mRaise "NotRow")
  mSkip)
def M_check_row : List Val → Res Val := mFn 1 ms_check_row
theorem M_check_row_eq (v0 : Val) : M_check_row [v0] = fin (ms_check_row [some v0]) := rfl
def ms_row_text : Rho → Out := (mSeq (mDrop (mDef M_check_row (mCons (mVar 0) mNil)))
  (mRet (mM1 oJoin (mC (.str " ")) (mComp (mIterX (mVar 0)) (bName 1) mYes (mCall cStrI (mCons (mVar 1) mNil)) [1]))))
def M_row_text : List Val → Res Val := mFn 2 ms_row_text
theorem M_row_text_eq (v0 : Val) : M_row_text [v0] = fin (ms_row_text [some v0, none]) := rfl
def ms_read_row : Rho → Out := (mSeq (mIf (mTest (mOp (oOr oEqS oEq) (mVar 0) (mC (.str ""))))
  (mRet (mLst mNil))
  mSkip)
  (mSeq (mSet 1 (mDc (mIter2 (mCons (mC (.int 1)) (mCons (mOp oAdd (mC (.int 60)) (mC (.int 1))) mNil))) (bName 3) mYes (mCall cStrI (mCons (mVar 3) mNil)) (mVar 3) [3]))
  (mSeq (mSet 2 (mComp (mIterX (mM1 oSplit (mVar 0) (mC (.str " ")))) (bName 4) mYes (mGet2 (mVar 1) (mVar 4) (mC (.int 0))) [4]))
  (mSeq (mDrop (mDef M_check_row (mCons (mVar 2) mNil)))
  (mRetV 2)))))
def M_read_row : List Val → Res Val := mFn 5 ms_read_row
theorem M_read_row_eq (v0 : Val) : M_read_row [v0] = fin (ms_read_row [some v0, none, none, none, none]) := rfl
def ms__law_cell : Rho → Out := (mSeq (mIf (mTest (mOp oLt (mVar 1) (mCall cLen (mCons (mVar 0) mNil))))
  (mRet (mOp oIx (mVar 0) (mVar 1)))
  mSkip)
  (mRet (mC (.int 0))))
def M__law_cell : List Val → Res Val := mFn 2 ms__law_cell
theorem M__law_cell_eq (v0 v1 : Val) : M__law_cell [v0, v1] = fin (ms__law_cell [some v0, some v1]) := rfl
def lp__law_values_0 : Rho → Out := (mIf (mTest (mOp oGe (mVar 4) (mOp oPow (mC (.int 10)) (mC (.int 12)))))
  (mSeq (mApp 3 (mOp oMod (mCall (cOr cInt1 cIntS) (mCons (mVar 4) mNil)) (mVar 2)))
  (mSet 4 (mOp oDiv (mVar 4) (mVar 2))))
  (mSeq (mSet 6 (mOp oMod (mOp oAdd (mOp oAdd (mOp oMul (mOp oMod (mCall (cOr cInt1 cIntS) (mCons (mVar 0) mNil)) (mC (.int 2147483647))) (mC (.int 48271))) (mOp oMul (mVar 5) (mC (.int 69621)))) (mC (.int 7))) (mC (.int 2147483647))))
  (mApp 3 (mOp oMod (mOp oMod (mOp oMul (mVar 6) (mC (.int 16807))) (mC (.int 2147483647))) (mVar 2)))))
def ms__law_values : Rho → Out := (mSeq (mSet 3 (mLst mNil))
  (mSeq (mSet 4 (mVar 0))
  (mSeq (mFor (mIter1 (mCons (mVar 1) mNil)) (bName 5)
  lp__law_values_0)
  (mRetV 3))))
def M__law_values : List Val → Res Val := mFn 7 ms__law_values
theorem M__law_values_eq (v0 v1 v2 : Val) : M__law_values [v0, v1, v2] = fin (ms__law_values [some v0, some v1, some v2, none, none, none, none]) := rfl
def lp__law_row_0 : Rho → Out := (mSeq (mSet 6 (mOp oMod (mOp oIx (mVar 2) (mVar 5)) (mCall cLen (mCons (mVar 3) mNil))))
  (mSeq (mApp 4 (mOp oIx (mVar 3) (mVar 6)))
  (mSet 3 (mOp oAdd (mSlX (mVar 3) mNoPart (mPart (mVar 6))) (mSlX (mVar 3) (mPart (mOp oAdd (mVar 6) (mC (.int 1)))) mNoPart)))))
def ms__law_row : Rho → Out := (mSeq (mSet 2 (mDef M__law_values (mCons (mVar 0) (mCons (mVar 1) (mCons (mC (.int 61)) mNil)))))
  (mSeq (mSet 3 (mListR2 (mC (.int 1)) (mOp oAdd (mVar 1) (mC (.int 1)))))
  (mSeq (mSet 4 (mLst mNil))
  (mSeq (mFor (mIter1 (mCons (mVar 1) mNil)) (bName 5)
  lp__law_row_0)
  (mRetV 4)))))
def M__law_row : List Val → Res Val := mFn 7 ms__law_row
theorem M__law_row_eq (v0 v1 : Val) : M__law_row [v0, v1] = fin (ms__law_row [some v0, some v1, none, none, none, none, none]) := rfl
def ms__law_size : Rho → Out := (mSeq (mIf (mTest (mOp (oOr oEqS oEq) (mOp oMod (mOp oDiv (mVar 0) (mC (.int 8))) (mC (.int 9))) (mC (.int 4))))
  (mRet (mOp oAdd (mC (.int 8)) (mOp oMod (mOp oDiv (mVar 0) (mC (.int 72))) (mC (.int 53)))))
  mSkip)
  (mRet (mOp oMod (mVar 0) (mC (.int 8)))))
def M__law_size : List Val → Res Val := mFn 1 ms__law_size
theorem M__law_size_eq (v0 : Val) : M__law_size [v0] = fin (ms__law_size [some v0]) := rfl
def lp__law_is_row_0 : Rho → Out := (mIf (mTest (mOp (oOr (oIn true) (oInS true)) (mVar 1) (mVar 0)))
  (mRet (mC (.bool false)))
  mSkip)
def ms__law_is_row : Rho → Out := (mSeq (mIf (mTest (mOp oGt (mCall cLen (mCons (mVar 0) mNil)) (mC (.int 60))))
  (mRet (mC (.bool false)))
  mSkip)
  (mSeq (mFor (mIter2 (mCons (mC (.int 1)) (mCons (mOp oAdd (mCall cLen (mCons (mVar 0) mNil)) (mC (.int 1))) mNil))) (bName 1)
  lp__law_is_row_0)
  (mRet (mC (.bool true)))))
def M__law_is_row : List Val → Res Val := mFn 2 ms__law_is_row
theorem M__law_is_row_eq (v0 : Val) : M__law_is_row [v0] = fin (ms__law_is_row [some v0, none]) := rfl
def lp__law_text_0 : Rho → Out := (mSeq (mIf (mTest (mOp (oOr oNeS oNe) (mVar 1) (mC (.str ""))))
  (mSet 1 (mOp oAdd (mVar 1) (mC (.str " "))))
  mSkip)
  (mSeq (mIf (mTest (mOp oGt (mVar 2) (mC (.int 9))))
  (mSet 1 (mOp oAdd (mVar 1) (mOp oIx (mC (.str "0123456789")) (mOp oDiv (mVar 2) (mC (.int 10))))))
  mSkip)
  (mSet 1 (mOp oAdd (mVar 1) (mOp oIx (mC (.str "0123456789")) (mOp oMod (mVar 2) (mC (.int 10))))))))
def ms__law_text : Rho → Out := (mSeq (mSet 1 (mC (.str "")))
  (mSeq (mFor (mIterX (mVar 0)) (bName 2)
  lp__law_text_0)
  (mRetV 1)))
def M__law_text : List Val → Res Val := mFn 3 ms__law_text
theorem M__law_text_eq (v0 : Val) : M__law_text [v0] = fin (ms__law_text [some v0, none, none]) := rfl
def ms__law_told : Rho → Out := (mSeq (mTryAs (mSeq (mIf (mTru (mVar 1))
  (mRet (mDef M_read_row (mCons (mVar 0) mNil)))
  mSkip)
  (mRet (mDef M_row_text (mCons (mVar 0) mNil)))) dec_NotRow 2 (mHIf (fun m => (isd_NotCode m).bind fun k => if k = true then some true else (fun m => ((fun m => (isd_YardsortError m).map (!·)) m).bind fun k => if k = true then some true else (fun m => (isd_ValueError m).map (!·)) m) m) (mRet (mC (.int 1))) mSkip))
  (mRet (mC .none)))
def M__law_told : List Val → Res Val := mFn 3 ms__law_told
theorem M__law_told_eq (v0 v1 : Val) : M__law_told [v0, v1] = fin (ms__law_told [some v0, some v1, none]) := rfl
def lp__law_wagon_0 : Rho → Out := (mIf (mTest (mOp (oOr (oIn true) (oInS true)) (mVar 1) (mC (.str "0123456789"))))
  (mRet (mC (.int 0)))
  mSkip)
def ms__law_wagon : Rho → Out := (mSeq (mIf (mOr (mTest (mOp (oOr oEqS oEq) (mVar 0) (mC (.str "")))) (mOr (mTest (mOp oGt (mCall cLen (mCons (mVar 0) mNil)) (mC (.int 2)))) (mTest (mOp (oOr oEqS oEq) (mOp oIx (mVar 0) (mC (.int 0))) (mC (.str "0"))))))
  (mRet (mC (.int 0)))
  mSkip)
  (mSeq (mFor (mIterX (mVar 0)) (bName 1)
  lp__law_wagon_0)
  (mRet (mCall (cOr cInt1 cIntS) (mCons (mVar 0) mNil)))))
def M__law_wagon : List Val → Res Val := mFn 2 ms__law_wagon
theorem M__law_wagon_eq (v0 : Val) : M__law_wagon [v0] = fin (ms__law_wagon [some v0, none]) := rfl
def ms__law_read : Rho → Out := (mSeq (mIf (mTest (mOp (oOr oEqS oEq) (mVar 0) (mC (.str ""))))
  (mRet (mLst mNil))
  mSkip)
  (mSeq (mSet 1 (mComp (mIterX (mM1 oSplit (mVar 0) (mC (.str " ")))) (bName 2) mYes (mDef M__law_wagon (mCons (mVar 2) mNil)) [2]))
  (mFrz 1 (mRet (mIfE (mTru (mDef M__law_is_row (mCons (mVar 1) mNil))) (mVar 1) (mC .none))))))
def M__law_read : List Val → Res Val := mFn 3 ms__law_read
theorem M__law_read_eq (v0 : Val) : M__law_read [v0] = fin (ms__law_read [some v0, none, none]) := rfl
def lp_law_0 : Rho → Out := (mSeq (mSet 7 (mCall cList (mCons (mVar 6) mNil)))
  (mSeq (mSet 8 (mDef M__law_is_row (mCons (mVar 6) mNil)))
  (mSeq (mIf (mOr (mTest (mOp (oOr oNeS oNe) (mCall cRepr (mCons (mDef M_is_row (mCons (mVar 7) mNil)) mNil)) (mCall cRepr (mCons (mVar 8) mNil)))) (mTest (mOp (oOr oNeS oNe) (mVar 7) (mVar 6))))
  (mRet (mC (.bool false)))
  mSkip)
  (mSeq (mSet 9 (mDef M__law_told (mCons (mVar 7) (mCons (mC (.bool false)) mNil))))
  (mIf (mOr (mAnd (mTru (mVar 8)) (mOr (mNot (mTru (mIsT "str" (mVar 9)))) (mTest (mOp (oOr oNeS oNe) (mVar 9) (mDef M__law_text (mCons (mVar 6) mNil)))))) (mAnd (mNot (mTru (mVar 8))) (mTest (mOp (oIsN true) (mVar 9) (mC .none)))))
  (mRet (mC (.bool false)))
  mSkip)))))
def lp_law_1 : Rho → Out := (mIf (mTest (mOp (oOr oNeS oNe) (mCall cRepr (mCons (mDef M__law_told (mCons (mVar 14) (mCons (mC (.bool true)) mNil))) mNil)) (mCall cRepr (mCons (mDef M__law_read (mCons (mVar 14) mNil)) mNil))))
  (mRet (mC (.bool false)))
  mSkip)
def ms_law : Rho → Out := (mSeq (mSet 1 (mDef M__law_row (mCons (mDef M__law_cell (mCons (mVar 0) (mCons (mC (.int 0)) mNil))) (mCons (mDef M__law_size (mCons (mDef M__law_cell (mCons (mVar 0) (mCons (mC (.int 1)) mNil))) mNil)) mNil))))
  (mSeq (mSet 2 (mCall cList (mCons (mVar 1) mNil)))
  (mSeq (mSet 3 (mOp oMod (mDef M__law_cell (mCons (mVar 0) (mCons (mC (.int 2)) mNil))) (mOp oAdd (mCall cLen (mCons (mVar 1) mNil)) (mC (.int 1)))))
  (mSeq (mSet 4 (mOp oSub (mOp oMod (mDef M__law_cell (mCons (mVar 0) (mCons (mC (.int 3)) mNil))) (mOp oAdd (mCall cLen (mCons (mVar 1) mNil)) (mC (.int 4)))) (mC (.int 1))))
  (mSeq (mSet 5 (mOp oMod (mDef M__law_cell (mCons (mVar 0) (mCons (mC (.int 4)) mNil))) (mC (.int 5))))
  (mFrz 4 (mSeq (mIf (mTest (mOp (oOr oEqS oEq) (mVar 5) (mC (.int 0))))
  (mFrz 4 (mSet 2 (mOp oAdd (mOp oAdd (mSlX (mVar 2) mNoPart (mPart (mVar 3))) (mLst (mCons (mVar 4) mNil))) (mSlX (mVar 2) (mPart (mOp oAdd (mVar 3) (mC (.int 1)))) mNoPart))))
  (mFrz 4 (mIf (mTest (mOp (oOr oEqS oEq) (mVar 5) (mC (.int 1))))
  (mSet 2 (mOp oAdd (mSlX (mVar 2) mNoPart (mPart (mVar 3))) (mSlX (mVar 2) (mPart (mOp oAdd (mVar 3) (mC (.int 1)))) mNoPart)))
  (mFrz 4 (mIf (mTest (mOp (oOr oEqS oEq) (mVar 5) (mC (.int 2))))
  (mFrz 4 (mSet 2 (mOp oAdd (mOp oAdd (mSlX (mVar 2) mNoPart (mPart (mVar 3))) (mLst (mCons (mVar 4) mNil))) (mSlX (mVar 2) (mPart (mVar 3)) mNoPart))))
  (mIf (mTest (mOp (oOr oEqS oEq) (mVar 5) (mC (.int 3))))
  (mSet 2 (mListR2 (mC (.int 1)) (mC (.int 62))))
  mSkip))))))
  (mFrz 2 (mFrz 1 (mSeq (mFor (mIterX (mLst (mCons (mVar 1) (mCons (mVar 2) mNil)))) (bName 6)
  lp_law_0)
  (mSeq (mSet 10 (mDef M__law_text (mCons (mVar 1) mNil)))
  (mSeq (mSet 11 (mOp oMod (mDef M__law_cell (mCons (mVar 0) (mCons (mC (.int 5)) mNil))) (mOp oAdd (mCall cLen (mCons (mVar 10) mNil)) (mC (.int 1)))))
  (mSeq (mSet 12 (mOp oIx (mLst (mCons (mC (.str "")) (mCons (mC (.str " ")) (mCons (mC (.str "0")) (mCons (mC (.str "1")) (mCons (mC (.str "9")) (mCons (mC (.str "+")) (mCons (mC (.str "a")) (mCons (mC (.str ",")) (mCons (mC (.str "\n")) (mCons (mC (.str "60")) mNil))))))))))) (mOp oMod (mDef M__law_cell (mCons (mVar 0) (mCons (mC (.int 6)) mNil))) (mC (.int 10)))))
  (mFrz 10 (mSeq (mSet 13 (mLst (mCons (mVar 10) (mCons (mOp oAdd (mOp oAdd (mSlX (mVar 10) mNoPart (mPart (mVar 11))) (mVar 12)) (mSlX (mVar 10) (mPart (mVar 11)) mNoPart)) (mCons (mOp oAdd (mSlX (mVar 10) mNoPart (mPart (mVar 11))) (mSlX (mVar 10) (mPart (mOp oAdd (mVar 11) (mC (.int 1)))) mNoPart)) (mCons (mOp oAdd (mVar 10) (mVar 12)) mNil))))))
  (mFrz 13 (mSeq (mFor (mIterX (mVar 13)) (bName 14)
  lp_law_1)
  (mRet (mC (.bool true))))))))))))))))))))
def M_law : List Val → Res Val := mFn 15 ms_law
theorem M_law_eq (v0 : Val) : M_law [v0] = fin (ms_law [some v0, none, none, none, none, none, none, none, none, none, none, none, none, none, none]) := rfl
end Law

namespace Law
open PySem PySem.Spec PyProof.Rows L2 Mi
set_option maxHeartbeats 4000000
def topS (i : Nat) : Stmt := PySem.Challenge.pw_yardsort_k00_rows_and_their_texts.main.body.getD i (.Pass ⟨0, 0, 0, 0⟩)
abbrev s_is_row : Stmt := topS 6
abbrev N_is_row : List Str := ["numbers", "size"]
abbrev P_is_row : List Str := ["numbers"]
theorem sc_is_row : FnScope N_is_row P_is_row (defScope s_is_row) := ⟨rfl, rfl, rfl, by decide +kernel, rfl, by decide +kernel, by decide +kernel⟩
abbrev s_check_row : Stmt := topS 7
abbrev N_check_row : List Str := ["row"]
abbrev P_check_row : List Str := ["row"]
theorem sc_check_row : FnScope N_check_row P_check_row (defScope s_check_row) := ⟨rfl, rfl, rfl, by decide +kernel, rfl, by decide +kernel, by decide +kernel⟩
abbrev s_row_text : Stmt := topS 8
abbrev N_row_text : List Str := ["row", "wagon"]
abbrev P_row_text : List Str := ["row"]
theorem sc_row_text : FnScope N_row_text P_row_text (defScope s_row_text) := ⟨rfl, rfl, rfl, by decide +kernel, rfl, by decide +kernel, by decide +kernel⟩
abbrev s_read_row : Stmt := topS 9
abbrev N_read_row : List Str := ["text", "numbers", "row", "wagon", "word"]
abbrev P_read_row : List Str := ["text"]
theorem sc_read_row : FnScope N_read_row P_read_row (defScope s_read_row) := ⟨rfl, rfl, rfl, by decide +kernel, rfl, by decide +kernel, by decide +kernel⟩
abbrev s__law_cell : Stmt := topS 11
abbrev N__law_cell : List Str := ["script", "k"]
abbrev P__law_cell : List Str := ["script", "k"]
theorem sc__law_cell : FnScope N__law_cell P__law_cell (defScope s__law_cell) := ⟨rfl, rfl, rfl, by decide +kernel, rfl, by decide +kernel, by decide +kernel⟩
abbrev s__law_values : Stmt := topS 12
abbrev N__law_values : List Str := ["cell", "count", "size", "values", "rest", "k", "mixed"]
abbrev P__law_values : List Str := ["cell", "count", "size"]
theorem sc__law_values : FnScope N__law_values P__law_values (defScope s__law_values) := ⟨rfl, rfl, rfl, by decide +kernel, rfl, by decide +kernel, by decide +kernel⟩
abbrev s__law_row : Stmt := topS 13
abbrev N__law_row : List Str := ["cell", "count", "values", "left", "row", "k", "at"]
abbrev P__law_row : List Str := ["cell", "count"]
theorem sc__law_row : FnScope N__law_row P__law_row (defScope s__law_row) := ⟨rfl, rfl, rfl, by decide +kernel, rfl, by decide +kernel, by decide +kernel⟩
abbrev s__law_size : Stmt := topS 14
abbrev N__law_size : List Str := ["cell"]
abbrev P__law_size : List Str := ["cell"]
theorem sc__law_size : FnScope N__law_size P__law_size (defScope s__law_size) := ⟨rfl, rfl, rfl, by decide +kernel, rfl, by decide +kernel, by decide +kernel⟩
abbrev s__law_is_row : Stmt := topS 15
abbrev N__law_is_row : List Str := ["numbers", "wagon"]
abbrev P__law_is_row : List Str := ["numbers"]
theorem sc__law_is_row : FnScope N__law_is_row P__law_is_row (defScope s__law_is_row) := ⟨rfl, rfl, rfl, by decide +kernel, rfl, by decide +kernel, by decide +kernel⟩
abbrev s__law_text : Stmt := topS 16
abbrev N__law_text : List Str := ["row", "text", "wagon"]
abbrev P__law_text : List Str := ["row"]
theorem sc__law_text : FnScope N__law_text P__law_text (defScope s__law_text) := ⟨rfl, rfl, rfl, by decide +kernel, rfl, by decide +kernel, by decide +kernel⟩
abbrev s__law_told : Stmt := topS 17
abbrev N__law_told : List Str := ["what", "is_text", "e"]
abbrev P__law_told : List Str := ["what", "is_text"]
theorem sc__law_told : FnScope N__law_told P__law_told (defScope s__law_told) := ⟨rfl, rfl, rfl, by decide +kernel, rfl, by decide +kernel, by decide +kernel⟩
abbrev s__law_wagon : Stmt := topS 18
abbrev N__law_wagon : List Str := ["word", "char"]
abbrev P__law_wagon : List Str := ["word"]
theorem sc__law_wagon : FnScope N__law_wagon P__law_wagon (defScope s__law_wagon) := ⟨rfl, rfl, rfl, by decide +kernel, rfl, by decide +kernel, by decide +kernel⟩
abbrev s__law_read : Stmt := topS 19
abbrev N__law_read : List Str := ["text", "row", "word"]
abbrev P__law_read : List Str := ["text"]
theorem sc__law_read : FnScope N__law_read P__law_read (defScope s__law_read) := ⟨rfl, rfl, rfl, by decide +kernel, rfl, by decide +kernel, by decide +kernel⟩
abbrev s_law : Stmt := topS 20
abbrev N_law : List Str := ["script", "row", "other", "at", "number", "choice", "numbers", "given", "due", "told", "text", "place", "extra", "texts", "one"]
abbrev P_law : List Str := ["script"]
theorem sc_law : FnScope N_law P_law (defScope s_law) := ⟨rfl, rfl, rfl, by decide +kernel, rfl, by decide +kernel, by decide +kernel⟩
structure Fx (K : PySem.W.Frag) (mg : Str → Option Value) (a_is_row a_check_row a_row_text a_read_row a__law_cell a__law_values a__law_row a__law_size a__law_is_row a__law_text a__law_told a__law_wagon a__law_read a_law : Addr) (d_is_row d_check_row d_row_text d_read_row d__law_cell d__law_values d__law_row d__law_size d__law_is_row d__law_text d__law_told d__law_wagon d__law_read d_law : FuncData) (C_NotCode C_NotRow C_YardsortError : Addr) : Prop where
  g_is_row : mg "is_row" = some (.ref a_is_row)
  f_is_row : Fun K "is_row" "is_row" s_is_row a_is_row d_is_row
  b_is_row : Binds K d_is_row P_is_row []
  g_check_row : mg "check_row" = some (.ref a_check_row)
  f_check_row : Fun K "check_row" "check_row" s_check_row a_check_row d_check_row
  b_check_row : Binds K d_check_row P_check_row []
  g_row_text : mg "row_text" = some (.ref a_row_text)
  f_row_text : Fun K "row_text" "row_text" s_row_text a_row_text d_row_text
  b_row_text : Binds K d_row_text P_row_text []
  g_read_row : mg "read_row" = some (.ref a_read_row)
  f_read_row : Fun K "read_row" "read_row" s_read_row a_read_row d_read_row
  b_read_row : Binds K d_read_row P_read_row []
  g__law_cell : mg "_law_cell" = some (.ref a__law_cell)
  f__law_cell : Fun K "_law_cell" "_law_cell" s__law_cell a__law_cell d__law_cell
  b__law_cell : Binds K d__law_cell P__law_cell []
  g__law_values : mg "_law_values" = some (.ref a__law_values)
  f__law_values : Fun K "_law_values" "_law_values" s__law_values a__law_values d__law_values
  b__law_values : Binds K d__law_values P__law_values []
  g__law_row : mg "_law_row" = some (.ref a__law_row)
  f__law_row : Fun K "_law_row" "_law_row" s__law_row a__law_row d__law_row
  b__law_row : Binds K d__law_row P__law_row []
  g__law_size : mg "_law_size" = some (.ref a__law_size)
  f__law_size : Fun K "_law_size" "_law_size" s__law_size a__law_size d__law_size
  b__law_size : Binds K d__law_size P__law_size []
  g__law_is_row : mg "_law_is_row" = some (.ref a__law_is_row)
  f__law_is_row : Fun K "_law_is_row" "_law_is_row" s__law_is_row a__law_is_row d__law_is_row
  b__law_is_row : Binds K d__law_is_row P__law_is_row []
  g__law_text : mg "_law_text" = some (.ref a__law_text)
  f__law_text : Fun K "_law_text" "_law_text" s__law_text a__law_text d__law_text
  b__law_text : Binds K d__law_text P__law_text []
  g__law_told : mg "_law_told" = some (.ref a__law_told)
  f__law_told : Fun K "_law_told" "_law_told" s__law_told a__law_told d__law_told
  b__law_told : Binds K d__law_told P__law_told []
  g__law_wagon : mg "_law_wagon" = some (.ref a__law_wagon)
  f__law_wagon : Fun K "_law_wagon" "_law_wagon" s__law_wagon a__law_wagon d__law_wagon
  b__law_wagon : Binds K d__law_wagon P__law_wagon []
  g__law_read : mg "_law_read" = some (.ref a__law_read)
  f__law_read : Fun K "_law_read" "_law_read" s__law_read a__law_read d__law_read
  b__law_read : Binds K d__law_read P__law_read []
  g_law : mg "law" = some (.ref a_law)
  f_law : Fun K "law" "law" s_law a_law d_law
  b_law : Binds K d_law P_law []
  n_ValueError : mg "ValueError" = none
  n_int : mg "int" = none
  n_isinstance : mg "isinstance" = none
  n_len : mg "len" = none
  n_list : mg "list" = none
  n_range : mg "range" = none
  n_repr : mg "repr" = none
  n_sorted : mg "sorted" = none
  n_str : mg "str" = none
  c_MOST_WAGONS : ∃ t, mg "MOST_WAGONS" = some (.int 60 t)
  e_NotCode : mg "NotCode" = some (.ref C_NotCode)
  x_NotCode : PySem.W.excIn K C_NotCode [.type "ValueError", .type "Exception", .type "BaseException", .type "object"] "ValueError.__new__" = true
  k_NotCode : PySem.W.keepIn K (.ref C_NotCode) = true
  r_NotCode : PySem.W.subIn K (.ref C_NotCode) (.type "BaseException") = some true
  t_NotCode : PySem.W.typeIn K (.ref C_NotCode) = some (.type "type")
  e_NotRow : mg "NotRow" = some (.ref C_NotRow)
  x_NotRow : PySem.W.excIn K C_NotRow [.type "ValueError", .type "Exception", .type "BaseException", .type "object"] "ValueError.__new__" = true
  k_NotRow : PySem.W.keepIn K (.ref C_NotRow) = true
  r_NotRow : PySem.W.subIn K (.ref C_NotRow) (.type "BaseException") = some true
  t_NotRow : PySem.W.typeIn K (.ref C_NotRow) = some (.type "type")
  e_YardsortError : mg "YardsortError" = some (.ref C_YardsortError)
  x_YardsortError : PySem.W.excIn K C_YardsortError [.type "ValueError", .type "Exception", .type "BaseException", .type "object"] "ValueError.__new__" = true
  k_YardsortError : PySem.W.keepIn K (.ref C_YardsortError) = true
  r_YardsortError : PySem.W.subIn K (.ref C_YardsortError) (.type "BaseException") = some true
  t_YardsortError : PySem.W.typeIn K (.ref C_YardsortError) = some (.type "type")
  d_NotCode : Decs K mg (.ref C_NotCode) dec_NotCode
  d_NotRow : Decs K mg (.ref C_NotRow) dec_NotRow
  d_YardsortError : Decs K mg (.ref C_YardsortError) dec_YardsortError
  j_NotCode : IsD K mg (.ref C_NotCode) isd_NotCode
  j_ValueError : IsD K mg (.type "ValueError") isd_ValueError
  j_YardsortError : IsD K mg (.ref C_YardsortError) isd_YardsortError
section
variable {P : Program} {w : World} {K : PySem.W.Frag} {mg : Str → Option Value} {base : Heap} {a_is_row a_check_row a_row_text a_read_row a__law_cell a__law_values a__law_row a__law_size a__law_is_row a__law_text a__law_told a__law_wagon a__law_read a_law : Addr} {d_is_row d_check_row d_row_text d_read_row d__law_cell d__law_values d__law_row d__law_size d__law_is_row d__law_text d__law_told d__law_wagon d__law_read d_law : FuncData} {C_NotCode C_NotRow C_YardsortError : Addr}
theorem ok_is_row (T : Fx K mg a_is_row a_check_row a_row_text a_read_row a__law_cell a__law_values a__law_row a__law_size a__law_is_row a__law_text a__law_told a__law_wagon a__law_read a_law d_is_row d_check_row d_row_text d_read_row d__law_cell d__law_values d__law_row d__law_size d__law_is_row d__law_text d__law_told d__law_wagon d__law_read d_law C_NotCode C_NotRow C_YardsortError) : FnG P w K mg base 1 a_is_row d_is_row P_is_row (spM K mg 1 M_is_row) := by
  refine def_ok (N := N_is_row) (ps := P_is_row) (k := 0) (ms := ms_is_row) T.f_is_row sc_is_row fun cdv A outer s H E gd hr => ?_
  have tk : Takes (cxOf (L2.CX P w) P w K mg base N_is_row "is_row" (defScope s_is_row) a_is_row cdv A outer s H E) (wOf E) := takes_of rfl rfl rfl rfl
  exact ⟨_, (pmss_cons (pms_set 1 sc_is_row.nd (pm_callB (call_lenK (K := K)) (cs_len (K := K)) T.n_len (by decide +kernel) (pma_cons (pm_var 0) pma_nil)))
    (pmss_one (pms_ret (pm_and (pm_cmp op_le (os_le (K := K)) (pm_var 1) (pm_globI T.c_MOST_WAGONS)) (pm_one (pm_cmp (or_op op_eq (op_eqDK (K := K) hr.units)) (os_or (os_eqS (K := K)) (os_eq (K := K))) (pm_callB (cr_sortedIK (K := K)) (cs_sorted (K := K)) T.n_sorted (by decide +kernel) (pma_cons (pm_var 0) pma_nil)) (pm_listR2 rfl T.n_list T.n_range pm_int (pm_op (or_op op_add (or_op op_add_str op_cat)) (os_or (os_addI (K := K)) (os_or (os_strcat (K := K)) (os_cat (K := K)))) (pm_var 1) pm_int))))))))⟩
theorem ok_check_row (T : Fx K mg a_is_row a_check_row a_row_text a_read_row a__law_cell a__law_values a__law_row a__law_size a__law_is_row a__law_text a__law_told a__law_wagon a__law_read a_law d_is_row d_check_row d_row_text d_read_row d__law_cell d__law_values d__law_row d__law_size d__law_is_row d__law_text d__law_told d__law_wagon d__law_read d_law C_NotCode C_NotRow C_YardsortError) : FnG P w K mg base 2 a_check_row d_check_row P_check_row (spM K mg 1 M_check_row) := by
  have F_is_row : FnG P w K mg base 1 a_is_row d_is_row P_is_row (spM K mg 1 M_is_row) := ok_is_row T
  refine def_ok (N := N_check_row) (ps := P_check_row) (k := 1) (ms := ms_check_row) T.f_check_row sc_check_row fun cdv A outer s H E gd hr => ?_
  have tk : Takes (cxOf (L2.CX P w) P w K mg base N_check_row "check_row" (defScope s_check_row) a_check_row cdv A outer s H E) (wOf E) := takes_of rfl rfl rfl rfl
  exact ⟨_, (pmss_one (pms_if (pmt_not (pmt_truK (K := K) (pm_defK F_is_row gd (hr.mono (by decide)) T.g_is_row T.f_is_row.kp T.b_is_row (fun σ => passAt tk σ) (pma_cons (pm_var 0) pma_nil) (mCons_len mNil_len))))
    (pmss_one (pms_raise rfl tk PySem.F.excBase_ValueError T.x_NotRow T.e_NotRow T.k_NotRow (raises_own T.r_NotRow T.t_NotRow)))
    pmss_nil))⟩
theorem ok_row_text (T : Fx K mg a_is_row a_check_row a_row_text a_read_row a__law_cell a__law_values a__law_row a__law_size a__law_is_row a__law_text a__law_told a__law_wagon a__law_read a_law d_is_row d_check_row d_row_text d_read_row d__law_cell d__law_values d__law_row d__law_size d__law_is_row d__law_text d__law_told d__law_wagon d__law_read d_law C_NotCode C_NotRow C_YardsortError) : FnG P w K mg base 3 a_row_text d_row_text P_row_text (spM K mg 1 M_row_text) := by
  have F_check_row : FnG P w K mg base 2 a_check_row d_check_row P_check_row (spM K mg 1 M_check_row) := ok_check_row T
  refine def_ok (N := N_row_text) (ps := P_row_text) (k := 2) (ms := ms_row_text) T.f_row_text sc_row_text fun cdv A outer s H E gd hr => ?_
  have tk : Takes (cxOf (L2.CX P w) P w K mg base N_row_text "row_text" (defScope s_row_text) a_row_text cdv A outer s H E) (wOf E) := takes_of rfl rfl rfl rfl
  exact ⟨_, (pmss_cons (pms_drop (pm_defK F_check_row gd (hr.mono (by decide)) T.g_check_row T.f_check_row.kp T.b_check_row (fun σ => passAt tk σ) (pma_cons (pm_var 0) pma_nil) (mCons_len mNil_len)))
    (pmss_one (pms_ret (pm_joinK (K := K) pm_str (pm_lc [("wagon", 1)] rfl sc_row_text.nd (pmi_x (pm_var 0)) (blkOk_by (own := [("wagon", 1)]) (N := N_row_text) (sc := defScope s_row_text) (by decide +kernel)) (by decide) (fun _ _ _ _ _ => (pmg_name 1 sc_row_text.nd)) (fun _ _ _ _ _ => pmts_nil) (fun _ _ _ _ _ => (pm_callTy call_str_int (cs_strI (K := K)) T.n_str (by decide +kernel) (pma_cons (pm_var 1) pma_nil))))))))⟩
theorem ok_read_row (T : Fx K mg a_is_row a_check_row a_row_text a_read_row a__law_cell a__law_values a__law_row a__law_size a__law_is_row a__law_text a__law_told a__law_wagon a__law_read a_law d_is_row d_check_row d_row_text d_read_row d__law_cell d__law_values d__law_row d__law_size d__law_is_row d__law_text d__law_told d__law_wagon d__law_read d_law C_NotCode C_NotRow C_YardsortError) : FnG P w K mg base 3 a_read_row d_read_row P_read_row (spM K mg 1 M_read_row) := by
  have F_check_row : FnG P w K mg base 2 a_check_row d_check_row P_check_row (spM K mg 1 M_check_row) := ok_check_row T
  refine def_ok (N := N_read_row) (ps := P_read_row) (k := 2) (ms := ms_read_row) T.f_read_row sc_read_row fun cdv A outer s H E gd hr => ?_
  have tk : Takes (cxOf (L2.CX P w) P w K mg base N_read_row "read_row" (defScope s_read_row) a_read_row cdv A outer s H E) (wOf E) := takes_of rfl rfl rfl rfl
  exact ⟨_, (pmss_cons (pms_if (pmt_cmp (or_op op_eq (op_eqDK (K := K) hr.units)) (os_or (os_eqS (K := K)) (os_eq (K := K))) (pm_var 0) pm_str)
    (pmss_one (pms_ret (pm_lst pma_nil)))
    pmss_nil)
    (pmss_cons (pms_set 1 sc_read_row.nd (pm_dc (own := [("wagon", 3)]) rfl sc_read_row.nd (pmi_2 T.n_range (pma_cons pm_int (pma_cons (pm_op (or_op op_add (or_op op_add_str op_cat)) (os_or (os_addI (K := K)) (os_or (os_strcat (K := K)) (os_cat (K := K)))) (pm_globI T.c_MOST_WAGONS) pm_int) pma_nil))) (blkOk_by (own := [("wagon", 3)]) (N := N_read_row) (sc := defScope s_read_row) (by decide +kernel)) (by decide) (fun _ _ _ _ _ => (pmg_name 3 sc_read_row.nd)) (fun _ _ _ _ _ => pmts_nil) (fun _ _ _ _ _ => (pm_callTy call_str_int (cs_strI (K := K)) T.n_str (by decide +kernel) (pma_cons (pm_var 3) pma_nil))) (fun _ _ _ _ _ => (pm_var 3))))
    (pmss_cons (pms_setLc 2 [("word", 4)] rfl sc_read_row.nd rfl rfl (sw_true rfl rfl rfl (by decide +kernel)) (pmi_x (pm_splitK (pm_var 0) pm_str)) (blkOk_by (own := [("word", 4)]) (N := N_read_row) (sc := defScope s_read_row) (by decide +kernel)) (by decide) (fun _ _ _ _ _ => (pmg_name 4 sc_read_row.nd)) (fun _ _ _ _ _ => pmts_nil) (fun _ _ _ _ _ => (pm_get2 hr.units (pm_var 1) (pm_var 4) pm_int)))
    (pmss_cons (pms_drop (pm_defK F_check_row gd (hr.mono (by decide)) T.g_check_row T.f_check_row.kp T.b_check_row (fun σ => passAt tk σ) (pma_cons (pm_var 2) pma_nil) (mCons_len mNil_len)))
    (pmss_one (pms_retV 2))))))⟩
theorem ok__law_cell (T : Fx K mg a_is_row a_check_row a_row_text a_read_row a__law_cell a__law_values a__law_row a__law_size a__law_is_row a__law_text a__law_told a__law_wagon a__law_read a_law d_is_row d_check_row d_row_text d_read_row d__law_cell d__law_values d__law_row d__law_size d__law_is_row d__law_text d__law_told d__law_wagon d__law_read d_law C_NotCode C_NotRow C_YardsortError) : FnG P w K mg base 1 a__law_cell d__law_cell P__law_cell (spM K mg 2 M__law_cell) := by
  refine def_ok (N := N__law_cell) (ps := P__law_cell) (k := 0) (ms := ms__law_cell) T.f__law_cell sc__law_cell fun cdv A outer s H E gd hr => ?_
  have tk : Takes (cxOf (L2.CX P w) P w K mg base N__law_cell "_law_cell" (defScope s__law_cell) a__law_cell cdv A outer s H E) (wOf E) := takes_of rfl rfl rfl rfl
  exact ⟨_, (pmss_cons (pms_if (pmt_cmp op_lt (os_lt (K := K)) (pm_var 1) (pm_callB (call_lenK (K := K)) (cs_len (K := K)) T.n_len (by decide +kernel) (pma_cons (pm_var 0) pma_nil)))
    (pmss_one (pms_ret (pm_ix (ix_seqK (K := K)) (os_ix (K := K)) (pm_var 0) (pm_var 1))))
    pmss_nil)
    (pmss_one (pms_ret pm_int)))⟩
theorem ok__law_values (T : Fx K mg a_is_row a_check_row a_row_text a_read_row a__law_cell a__law_values a__law_row a__law_size a__law_is_row a__law_text a__law_told a__law_wagon a__law_read a_law d_is_row d_check_row d_row_text d_read_row d__law_cell d__law_values d__law_row d__law_size d__law_is_row d__law_text d__law_told d__law_wagon d__law_read d_law C_NotCode C_NotRow C_YardsortError) : FnG P w K mg base 1 a__law_values d__law_values P__law_values (spM K mg 3 M__law_values) := by
  refine def_ok (N := N__law_values) (ps := P__law_values) (k := 0) (ms := ms__law_values) T.f__law_values sc__law_values fun cdv A outer s H E gd hr => ?_
  have tk : Takes (cxOf (L2.CX P w) P w K mg base N__law_values "_law_values" (defScope s__law_values) a__law_values cdv A outer s H E) (wOf E) := takes_of rfl rfl rfl rfl
  exact ⟨_, (pmss_cons (pms_set 3 sc__law_values.nd (pm_lst pma_nil))
    (pmss_cons (pms_set 4 sc__law_values.nd (pm_var 0))
    (pmss_cons (pms_for (passes_of rfl) rfl (pmi_1 T.n_range (pma_cons (pm_var 1) pma_nil)) (pmg_name 5 sc__law_values.nd)
    (pmss_one (pms_if (pmt_cmp op_ge (os_ge (K := K)) (pm_var 4) (pm_op op_pow (os_pow (K := K)) pm_int pm_int))
    (pmss_cons (pms_app 3 (pm_op op_mod (os_mod (K := K)) (pm_callTy (cr_or call_int1 call_int_str) (cs_or (cs_int1 (K := K)) (cs_intS (K := K))) T.n_int (by decide +kernel) (pma_cons (pm_var 4) pma_nil)) (pm_var 2)))
    (pmss_one (pms_set 4 sc__law_values.nd (pm_op op_fdiv (os_div (K := K)) (pm_var 4) (pm_var 2)))))
    (pmss_cons (pms_set 6 sc__law_values.nd (pm_op op_mod (os_mod (K := K)) (pm_op (or_op op_add (or_op op_add_str op_cat)) (os_or (os_addI (K := K)) (os_or (os_strcat (K := K)) (os_cat (K := K)))) (pm_op (or_op op_add (or_op op_add_str op_cat)) (os_or (os_addI (K := K)) (os_or (os_strcat (K := K)) (os_cat (K := K)))) (pm_op (or_op op_mul op_rep) (os_or (os_mulI (K := K)) (os_rep (K := K))) (pm_op op_mod (os_mod (K := K)) (pm_callTy (cr_or call_int1 call_int_str) (cs_or (cs_int1 (K := K)) (cs_intS (K := K))) T.n_int (by decide +kernel) (pma_cons (pm_var 0) pma_nil)) pm_int) pm_int) (pm_op (or_op op_mul op_rep) (os_or (os_mulI (K := K)) (os_rep (K := K))) (pm_var 5) pm_int)) pm_int) pm_int))
    (pmss_one (pms_app 3 (pm_op op_mod (os_mod (K := K)) (pm_op op_mod (os_mod (K := K)) (pm_op (or_op op_mul op_rep) (os_or (os_mulI (K := K)) (os_rep (K := K))) (pm_var 6) pm_int) pm_int) (pm_var 2))))))))
    (pmss_one (pms_retV 3)))))⟩
theorem ok__law_row (T : Fx K mg a_is_row a_check_row a_row_text a_read_row a__law_cell a__law_values a__law_row a__law_size a__law_is_row a__law_text a__law_told a__law_wagon a__law_read a_law d_is_row d_check_row d_row_text d_read_row d__law_cell d__law_values d__law_row d__law_size d__law_is_row d__law_text d__law_told d__law_wagon d__law_read d_law C_NotCode C_NotRow C_YardsortError) : FnG P w K mg base 2 a__law_row d__law_row P__law_row (spM K mg 2 M__law_row) := by
  have F__law_values : FnG P w K mg base 1 a__law_values d__law_values P__law_values (spM K mg 3 M__law_values) := ok__law_values T
  refine def_ok (N := N__law_row) (ps := P__law_row) (k := 1) (ms := ms__law_row) T.f__law_row sc__law_row fun cdv A outer s H E gd hr => ?_
  have tk : Takes (cxOf (L2.CX P w) P w K mg base N__law_row "_law_row" (defScope s__law_row) a__law_row cdv A outer s H E) (wOf E) := takes_of rfl rfl rfl rfl
  exact ⟨_, (pmss_cons (pms_set 2 sc__law_row.nd (pm_defK F__law_values gd (hr.mono (by decide)) T.g__law_values T.f__law_values.kp T.b__law_values (fun σ => passAt tk σ) (pma_cons (pm_var 0) (pma_cons (pm_var 1) (pma_cons pm_int pma_nil))) (mCons_len (mCons_len (mCons_len mNil_len)))))
    (pmss_cons (pms_set 3 sc__law_row.nd (pm_listR2 rfl T.n_list T.n_range pm_int (pm_op (or_op op_add (or_op op_add_str op_cat)) (os_or (os_addI (K := K)) (os_or (os_strcat (K := K)) (os_cat (K := K)))) (pm_var 1) pm_int)))
    (pmss_cons (pms_set 4 sc__law_row.nd (pm_lst pma_nil))
    (pmss_cons (pms_for (passes_of rfl) rfl (pmi_1 T.n_range (pma_cons (pm_var 1) pma_nil)) (pmg_name 5 sc__law_row.nd)
    (pmss_cons (pms_set 6 sc__law_row.nd (pm_op op_mod (os_mod (K := K)) (pm_ix (ix_seqK (K := K)) (os_ix (K := K)) (pm_var 2) (pm_var 5)) (pm_callB (call_lenK (K := K)) (cs_len (K := K)) T.n_len (by decide +kernel) (pma_cons (pm_var 3) pma_nil))))
    (pmss_cons (pms_app 4 (pm_ix (ix_seqK (K := K)) (os_ix (K := K)) (pm_var 3) (pm_var 6)))
    (pmss_one (pms_set 3 sc__law_row.nd (pm_op (or_op op_add (or_op op_add_str op_cat)) (os_or (os_addI (K := K)) (os_or (os_strcat (K := K)) (os_cat (K := K)))) (pm_sliceXK (K := K) (pm_var 3) pmo_none (pmo_some (pm_var 6))) (pm_sliceXK (K := K) (pm_var 3) (pmo_some (pm_op (or_op op_add (or_op op_add_str op_cat)) (os_or (os_addI (K := K)) (os_or (os_strcat (K := K)) (os_cat (K := K)))) (pm_var 6) pm_int)) pmo_none)))))))
    (pmss_one (pms_retV 4))))))⟩
theorem ok__law_size (T : Fx K mg a_is_row a_check_row a_row_text a_read_row a__law_cell a__law_values a__law_row a__law_size a__law_is_row a__law_text a__law_told a__law_wagon a__law_read a_law d_is_row d_check_row d_row_text d_read_row d__law_cell d__law_values d__law_row d__law_size d__law_is_row d__law_text d__law_told d__law_wagon d__law_read d_law C_NotCode C_NotRow C_YardsortError) : FnG P w K mg base 1 a__law_size d__law_size P__law_size (spM K mg 1 M__law_size) := by
  refine def_ok (N := N__law_size) (ps := P__law_size) (k := 0) (ms := ms__law_size) T.f__law_size sc__law_size fun cdv A outer s H E gd hr => ?_
  have tk : Takes (cxOf (L2.CX P w) P w K mg base N__law_size "_law_size" (defScope s__law_size) a__law_size cdv A outer s H E) (wOf E) := takes_of rfl rfl rfl rfl
  exact ⟨_, (pmss_cons (pms_if (pmt_cmp (or_op op_eq (op_eqDK (K := K) hr.units)) (os_or (os_eqS (K := K)) (os_eq (K := K))) (pm_op op_mod (os_mod (K := K)) (pm_op op_fdiv (os_div (K := K)) (pm_var 0) pm_int) pm_int) pm_int)
    (pmss_one (pms_ret (pm_op (or_op op_add (or_op op_add_str op_cat)) (os_or (os_addI (K := K)) (os_or (os_strcat (K := K)) (os_cat (K := K)))) pm_int (pm_op op_mod (os_mod (K := K)) (pm_op op_fdiv (os_div (K := K)) (pm_var 0) pm_int) pm_int))))
    pmss_nil)
    (pmss_one (pms_ret (pm_op op_mod (os_mod (K := K)) (pm_var 0) pm_int))))⟩
theorem ok__law_is_row (T : Fx K mg a_is_row a_check_row a_row_text a_read_row a__law_cell a__law_values a__law_row a__law_size a__law_is_row a__law_text a__law_told a__law_wagon a__law_read a_law d_is_row d_check_row d_row_text d_read_row d__law_cell d__law_values d__law_row d__law_size d__law_is_row d__law_text d__law_told d__law_wagon d__law_read d_law C_NotCode C_NotRow C_YardsortError) : FnG P w K mg base 1 a__law_is_row d__law_is_row P__law_is_row (spM K mg 1 M__law_is_row) := by
  refine def_ok (N := N__law_is_row) (ps := P__law_is_row) (k := 0) (ms := ms__law_is_row) T.f__law_is_row sc__law_is_row fun cdv A outer s H E gd hr => ?_
  have tk : Takes (cxOf (L2.CX P w) P w K mg base N__law_is_row "_law_is_row" (defScope s__law_is_row) a__law_is_row cdv A outer s H E) (wOf E) := takes_of rfl rfl rfl rfl
  exact ⟨_, (pmss_cons (pms_if (pmt_cmp op_gt (os_gt (K := K)) (pm_callB (call_lenK (K := K)) (cs_len (K := K)) T.n_len (by decide +kernel) (pma_cons (pm_var 0) pma_nil)) pm_int)
    (pmss_one (pms_ret pm_bl))
    pmss_nil)
    (pmss_cons (pms_for (passes_of rfl) rfl (pmi_2 T.n_range (pma_cons pm_int (pma_cons (pm_op (or_op op_add (or_op op_add_str op_cat)) (os_or (os_addI (K := K)) (os_or (os_strcat (K := K)) (os_cat (K := K)))) (pm_callB (call_lenK (K := K)) (cs_len (K := K)) T.n_len (by decide +kernel) (pma_cons (pm_var 0) pma_nil)) pm_int) pma_nil))) (pmg_name 1 sc__law_is_row.nd)
    (pmss_one (pms_if (pmt_cmp (or_op (op_notIn_seqK (K := K)) op_notIn_str) (os_or (os_in (K := K)) (os_notInS (K := K))) (pm_var 1) (pm_var 0) (by rfl))
    (pmss_one (pms_ret pm_bl))
    pmss_nil)))
    (pmss_one (pms_ret pm_bl))))⟩
theorem ok__law_text (T : Fx K mg a_is_row a_check_row a_row_text a_read_row a__law_cell a__law_values a__law_row a__law_size a__law_is_row a__law_text a__law_told a__law_wagon a__law_read a_law d_is_row d_check_row d_row_text d_read_row d__law_cell d__law_values d__law_row d__law_size d__law_is_row d__law_text d__law_told d__law_wagon d__law_read d_law C_NotCode C_NotRow C_YardsortError) : FnG P w K mg base 1 a__law_text d__law_text P__law_text (spM K mg 1 M__law_text) := by
  refine def_ok (N := N__law_text) (ps := P__law_text) (k := 0) (ms := ms__law_text) T.f__law_text sc__law_text fun cdv A outer s H E gd hr => ?_
  have tk : Takes (cxOf (L2.CX P w) P w K mg base N__law_text "_law_text" (defScope s__law_text) a__law_text cdv A outer s H E) (wOf E) := takes_of rfl rfl rfl rfl
  exact ⟨_, (pmss_cons (pms_set 1 sc__law_text.nd pm_str)
    (pmss_cons (pms_for (passes_of rfl) rfl (pmi_x (pm_var 0)) (pmg_name 2 sc__law_text.nd)
    (pmss_cons (pms_if (pmt_cmp (or_op op_ne (op_neDK (K := K) hr.units)) (os_or (os_neS (K := K)) (os_ne (K := K))) (pm_var 1) pm_str)
    (pmss_one (pms_set 1 sc__law_text.nd (pm_op (or_op op_add (or_op op_add_str op_cat)) (os_or (os_addI (K := K)) (os_or (os_strcat (K := K)) (os_cat (K := K)))) (pm_var 1) pm_str)))
    pmss_nil)
    (pmss_cons (pms_if (pmt_cmp op_gt (os_gt (K := K)) (pm_var 2) pm_int)
    (pmss_one (pms_set 1 sc__law_text.nd (pm_op (or_op op_add (or_op op_add_str op_cat)) (os_or (os_addI (K := K)) (os_or (os_strcat (K := K)) (os_cat (K := K)))) (pm_var 1) (pm_ix (ix_seqK (K := K)) (os_ix (K := K)) pm_str (pm_op op_fdiv (os_div (K := K)) (pm_var 2) pm_int)))))
    pmss_nil)
    (pmss_one (pms_set 1 sc__law_text.nd (pm_op (or_op op_add (or_op op_add_str op_cat)) (os_or (os_addI (K := K)) (os_or (os_strcat (K := K)) (os_cat (K := K)))) (pm_var 1) (pm_ix (ix_seqK (K := K)) (os_ix (K := K)) pm_str (pm_op op_mod (os_mod (K := K)) (pm_var 2) pm_int))))))))
    (pmss_one (pms_retV 1))))⟩
theorem ok__law_told (T : Fx K mg a_is_row a_check_row a_row_text a_read_row a__law_cell a__law_values a__law_row a__law_size a__law_is_row a__law_text a__law_told a__law_wagon a__law_read a_law d_is_row d_check_row d_row_text d_read_row d__law_cell d__law_values d__law_row d__law_size d__law_is_row d__law_text d__law_told d__law_wagon d__law_read d_law C_NotCode C_NotRow C_YardsortError) : FnG P w K mg base 4 a__law_told d__law_told P__law_told (spM K mg 2 M__law_told) := by
  have F_read_row : FnG P w K mg base 3 a_read_row d_read_row P_read_row (spM K mg 1 M_read_row) := ok_read_row T
  have F_row_text : FnG P w K mg base 3 a_row_text d_row_text P_row_text (spM K mg 1 M_row_text) := ok_row_text T
  refine def_ok (N := N__law_told) (ps := P__law_told) (k := 3) (ms := ms__law_told) T.f__law_told sc__law_told fun cdv A outer s H E gd hr => ?_
  have tk : Takes (cxOf (L2.CX P w) P w K mg base N__law_told "_law_told" (defScope s__law_told) a__law_told cdv A outer s H E) (wOf E) := takes_of rfl rfl rfl rfl
  exact ⟨_, (pmss_cons (pms_tryAs (i := 2) rfl rfl sc__law_told.nd rfl rfl T.e_NotRow tk T.d_NotRow (fun W pn xe tk => (pmss_cons (pms_if (pmt_truK (K := K) (pm_var 1))
    (pmss_one (pms_ret (pm_defK F_read_row gd (hr.mono (by decide)) T.g_read_row T.f_read_row.kp T.b_read_row (fun σ => passAt tk σ) (pma_cons (pm_var 0) pma_nil) (mCons_len mNil_len))))
    pmss_nil)
    (pmss_one (pms_ret (pm_defK F_row_text gd (hr.mono (by decide)) T.g_row_text T.f_row_text.kp T.b_row_text (fun σ => passAt tk σ) (pma_cons (pm_var 0) pma_nil) (mCons_len mNil_len)))))) (fun _ _ _ _ _ hc => (phs_if (PHW.t (phw_or (pht_tru (K := K) rfl (phe_is (i := 2) (v := .ref C_NotCode) (K := K) rfl hc T.e_NotCode rfl (fun _ z => z) T.j_NotCode T.n_isinstance)) (phw_or (pht_not (pht_tru (K := K) rfl (phe_is (i := 2) (v := .ref C_YardsortError) (K := K) rfl hc T.e_YardsortError rfl (fun _ z => z) T.j_YardsortError T.n_isinstance))) (phw_or1 (pht_not (pht_tru (K := K) rfl (phe_isB (i := 2) (T := "ValueError") (K := K) rfl hc T.n_ValueError (by decide +kernel) T.j_ValueError T.n_isinstance))))))) (pmss_one (pms_ret pm_int)) pmss_nil)))
    (pmss_one (pms_ret pm_non)))⟩
theorem ok__law_wagon (T : Fx K mg a_is_row a_check_row a_row_text a_read_row a__law_cell a__law_values a__law_row a__law_size a__law_is_row a__law_text a__law_told a__law_wagon a__law_read a_law d_is_row d_check_row d_row_text d_read_row d__law_cell d__law_values d__law_row d__law_size d__law_is_row d__law_text d__law_told d__law_wagon d__law_read d_law C_NotCode C_NotRow C_YardsortError) : FnG P w K mg base 1 a__law_wagon d__law_wagon P__law_wagon (spM K mg 1 M__law_wagon) := by
  refine def_ok (N := N__law_wagon) (ps := P__law_wagon) (k := 0) (ms := ms__law_wagon) T.f__law_wagon sc__law_wagon fun cdv A outer s H E gd hr => ?_
  have tk : Takes (cxOf (L2.CX P w) P w K mg base N__law_wagon "_law_wagon" (defScope s__law_wagon) a__law_wagon cdv A outer s H E) (wOf E) := takes_of rfl rfl rfl rfl
  exact ⟨_, (pmss_cons (pms_if (PMW.t (pmw_or (pmt_cmp (or_op op_eq (op_eqDK (K := K) hr.units)) (os_or (os_eqS (K := K)) (os_eq (K := K))) (pm_var 0) pm_str) (pmw_or (pmt_cmp op_gt (os_gt (K := K)) (pm_callB (call_lenK (K := K)) (cs_len (K := K)) T.n_len (by decide +kernel) (pma_cons (pm_var 0) pma_nil)) pm_int) (pmw_or1 (pmt_cmp (or_op op_eq (op_eqDK (K := K) hr.units)) (os_or (os_eqS (K := K)) (os_eq (K := K))) (pm_ix (ix_seqK (K := K)) (os_ix (K := K)) (pm_var 0) pm_int) pm_str)))))
    (pmss_one (pms_ret pm_int))
    pmss_nil)
    (pmss_cons (pms_for (passes_of rfl) rfl (pmi_x (pm_var 0)) (pmg_name 1 sc__law_wagon.nd)
    (pmss_one (pms_if (pmt_cmp (or_op (op_notIn_seqK (K := K)) op_notIn_str) (os_or (os_in (K := K)) (os_notInS (K := K))) (pm_var 1) pm_str (by rfl))
    (pmss_one (pms_ret pm_int))
    pmss_nil)))
    (pmss_one (pms_ret (pm_callTy (cr_or call_int1 call_int_str) (cs_or (cs_int1 (K := K)) (cs_intS (K := K))) T.n_int (by decide +kernel) (pma_cons (pm_var 0) pma_nil))))))⟩
theorem ok__law_read (T : Fx K mg a_is_row a_check_row a_row_text a_read_row a__law_cell a__law_values a__law_row a__law_size a__law_is_row a__law_text a__law_told a__law_wagon a__law_read a_law d_is_row d_check_row d_row_text d_read_row d__law_cell d__law_values d__law_row d__law_size d__law_is_row d__law_text d__law_told d__law_wagon d__law_read d_law C_NotCode C_NotRow C_YardsortError) : FnG P w K mg base 2 a__law_read d__law_read P__law_read (spM K mg 1 M__law_read) := by
  have F__law_is_row : FnG P w K mg base 1 a__law_is_row d__law_is_row P__law_is_row (spM K mg 1 M__law_is_row) := ok__law_is_row T
  have F__law_wagon : FnG P w K mg base 1 a__law_wagon d__law_wagon P__law_wagon (spM K mg 1 M__law_wagon) := ok__law_wagon T
  refine def_ok (N := N__law_read) (ps := P__law_read) (k := 1) (ms := ms__law_read) T.f__law_read sc__law_read fun cdv A outer s H E gd hr => ?_
  have tk : Takes (cxOf (L2.CX P w) P w K mg base N__law_read "_law_read" (defScope s__law_read) a__law_read cdv A outer s H E) (wOf E) := takes_of rfl rfl rfl rfl
  exact ⟨_, (pmss_cons (pms_if (pmt_cmp (or_op op_eq (op_eqDK (K := K) hr.units)) (os_or (os_eqS (K := K)) (os_eq (K := K))) (pm_var 0) pm_str)
    (pmss_one (pms_ret (pm_lst pma_nil)))
    pmss_nil)
    (pmss_cons (pms_setLc 1 [("word", 2)] rfl sc__law_read.nd rfl rfl (sw_true rfl rfl rfl (by decide +kernel)) (pmi_x (pm_splitK (pm_var 0) pm_str)) (blkOk_by (own := [("word", 2)]) (N := N__law_read) (sc := defScope s__law_read) (by decide +kernel)) (by decide) (fun _ _ _ _ _ => (pmg_name 2 sc__law_read.nd)) (fun _ _ _ _ _ => pmts_nil) (fun _ _ _ _ _ => (pm_defK F__law_wagon gd (hr.mono (by decide)) T.g__law_wagon T.f__law_wagon.kp T.b__law_wagon (fun σ => passB) (pma_cons (pm_var 2) pma_nil) (mCons_len mNil_len))))
    (pmss_frz 1 (pmss_one (pms_ret (pm_ifE (pmt_truK (K := K) (pm_defK F__law_is_row gd (hr.mono (by decide)) T.g__law_is_row T.f__law_is_row.kp T.b__law_is_row (fun σ => passAt tk σ) (pma_cons (pm_var 1) pma_nil) (mCons_len mNil_len))) (pm_var 1) pm_non))))))⟩
theorem ok_law (T : Fx K mg a_is_row a_check_row a_row_text a_read_row a__law_cell a__law_values a__law_row a__law_size a__law_is_row a__law_text a__law_told a__law_wagon a__law_read a_law d_is_row d_check_row d_row_text d_read_row d__law_cell d__law_values d__law_row d__law_size d__law_is_row d__law_text d__law_told d__law_wagon d__law_read d_law C_NotCode C_NotRow C_YardsortError) : FnG P w K mg base 5 a_law d_law P_law (spM K mg 1 M_law) := by
  have F__law_cell : FnG P w K mg base 1 a__law_cell d__law_cell P__law_cell (spM K mg 2 M__law_cell) := ok__law_cell T
  have F__law_is_row : FnG P w K mg base 1 a__law_is_row d__law_is_row P__law_is_row (spM K mg 1 M__law_is_row) := ok__law_is_row T
  have F__law_read : FnG P w K mg base 2 a__law_read d__law_read P__law_read (spM K mg 1 M__law_read) := ok__law_read T
  have F__law_row : FnG P w K mg base 2 a__law_row d__law_row P__law_row (spM K mg 2 M__law_row) := ok__law_row T
  have F__law_size : FnG P w K mg base 1 a__law_size d__law_size P__law_size (spM K mg 1 M__law_size) := ok__law_size T
  have F__law_text : FnG P w K mg base 1 a__law_text d__law_text P__law_text (spM K mg 1 M__law_text) := ok__law_text T
  have F__law_told : FnG P w K mg base 4 a__law_told d__law_told P__law_told (spM K mg 2 M__law_told) := ok__law_told T
  have F_is_row : FnG P w K mg base 1 a_is_row d_is_row P_is_row (spM K mg 1 M_is_row) := ok_is_row T
  refine def_ok (N := N_law) (ps := P_law) (k := 4) (ms := ms_law) T.f_law sc_law fun cdv A outer s H E gd hr => ?_
  have tk : Takes (cxOf (L2.CX P w) P w K mg base N_law "law" (defScope s_law) a_law cdv A outer s H E) (wOf E) := takes_of rfl rfl rfl rfl
  exact ⟨_, (pmss_cons (pms_set 1 sc_law.nd (pm_defK F__law_row gd (hr.mono (by decide)) T.g__law_row T.f__law_row.kp T.b__law_row (fun σ => passAt tk σ) (pma_cons (pm_defK F__law_cell gd (hr.mono (by decide)) T.g__law_cell T.f__law_cell.kp T.b__law_cell (fun σ => passAt tk σ) (pma_cons (pm_var 0) (pma_cons pm_int pma_nil)) (mCons_len (mCons_len mNil_len))) (pma_cons (pm_defK F__law_size gd (hr.mono (by decide)) T.g__law_size T.f__law_size.kp T.b__law_size (fun σ => passAt tk σ) (pma_cons (pm_defK F__law_cell gd (hr.mono (by decide)) T.g__law_cell T.f__law_cell.kp T.b__law_cell (fun σ => passAt tk σ) (pma_cons (pm_var 0) (pma_cons pm_int pma_nil)) (mCons_len (mCons_len mNil_len))) pma_nil) (mCons_len mNil_len)) pma_nil)) (mCons_len (mCons_len mNil_len))))
    (pmss_cons (pms_set 2 sc_law.nd (pm_callTy (call_list_ofK (K := K)) (cs_list (K := K)) T.n_list (by decide +kernel) (pma_cons (pm_var 1) pma_nil)))
    (pmss_cons (pms_set 3 sc_law.nd (pm_op op_mod (os_mod (K := K)) (pm_defK F__law_cell gd (hr.mono (by decide)) T.g__law_cell T.f__law_cell.kp T.b__law_cell (fun σ => passAt tk σ) (pma_cons (pm_var 0) (pma_cons pm_int pma_nil)) (mCons_len (mCons_len mNil_len))) (pm_op (or_op op_add (or_op op_add_str op_cat)) (os_or (os_addI (K := K)) (os_or (os_strcat (K := K)) (os_cat (K := K)))) (pm_callB (call_lenK (K := K)) (cs_len (K := K)) T.n_len (by decide +kernel) (pma_cons (pm_var 1) pma_nil)) pm_int)))
    (pmss_cons (pms_set 4 sc_law.nd (pm_op op_sub (os_sub (K := K)) (pm_op op_mod (os_mod (K := K)) (pm_defK F__law_cell gd (hr.mono (by decide)) T.g__law_cell T.f__law_cell.kp T.b__law_cell (fun σ => passAt tk σ) (pma_cons (pm_var 0) (pma_cons pm_int pma_nil)) (mCons_len (mCons_len mNil_len))) (pm_op (or_op op_add (or_op op_add_str op_cat)) (os_or (os_addI (K := K)) (os_or (os_strcat (K := K)) (os_cat (K := K)))) (pm_callB (call_lenK (K := K)) (cs_len (K := K)) T.n_len (by decide +kernel) (pma_cons (pm_var 1) pma_nil)) pm_int)) pm_int))
    (pmss_cons (pms_set 5 sc_law.nd (pm_op op_mod (os_mod (K := K)) (pm_defK F__law_cell gd (hr.mono (by decide)) T.g__law_cell T.f__law_cell.kp T.b__law_cell (fun σ => passAt tk σ) (pma_cons (pm_var 0) (pma_cons pm_int pma_nil)) (mCons_len (mCons_len mNil_len))) pm_int))
    (pmss_frz 4 (pmss_cons (pms_if (pmt_cmp (or_op op_eq (op_eqDK (K := K) hr.units)) (os_or (os_eqS (K := K)) (os_eq (K := K))) (pm_var 5) pm_int)
    (pmss_frz 4 (pmss_one (pms_set 2 sc_law.nd (pm_op (or_op op_add (or_op op_add_str op_cat)) (os_or (os_addI (K := K)) (os_or (os_strcat (K := K)) (os_cat (K := K)))) (pm_op (or_op op_add (or_op op_add_str op_cat)) (os_or (os_addI (K := K)) (os_or (os_strcat (K := K)) (os_cat (K := K)))) (pm_sliceXK (K := K) (pm_var 2) pmo_none (pmo_some (pm_var 3))) (pm_lst (pma_cons (pm_var 4) pma_nil))) (pm_sliceXK (K := K) (pm_var 2) (pmo_some (pm_op (or_op op_add (or_op op_add_str op_cat)) (os_or (os_addI (K := K)) (os_or (os_strcat (K := K)) (os_cat (K := K)))) (pm_var 3) pm_int)) pmo_none)))))
    (pmss_frz 4 (pmss_one (pms_if (pmt_cmp (or_op op_eq (op_eqDK (K := K) hr.units)) (os_or (os_eqS (K := K)) (os_eq (K := K))) (pm_var 5) pm_int)
    (pmss_one (pms_set 2 sc_law.nd (pm_op (or_op op_add (or_op op_add_str op_cat)) (os_or (os_addI (K := K)) (os_or (os_strcat (K := K)) (os_cat (K := K)))) (pm_sliceXK (K := K) (pm_var 2) pmo_none (pmo_some (pm_var 3))) (pm_sliceXK (K := K) (pm_var 2) (pmo_some (pm_op (or_op op_add (or_op op_add_str op_cat)) (os_or (os_addI (K := K)) (os_or (os_strcat (K := K)) (os_cat (K := K)))) (pm_var 3) pm_int)) pmo_none))))
    (pmss_frz 4 (pmss_one (pms_if (pmt_cmp (or_op op_eq (op_eqDK (K := K) hr.units)) (os_or (os_eqS (K := K)) (os_eq (K := K))) (pm_var 5) pm_int)
    (pmss_frz 4 (pmss_one (pms_set 2 sc_law.nd (pm_op (or_op op_add (or_op op_add_str op_cat)) (os_or (os_addI (K := K)) (os_or (os_strcat (K := K)) (os_cat (K := K)))) (pm_op (or_op op_add (or_op op_add_str op_cat)) (os_or (os_addI (K := K)) (os_or (os_strcat (K := K)) (os_cat (K := K)))) (pm_sliceXK (K := K) (pm_var 2) pmo_none (pmo_some (pm_var 3))) (pm_lst (pma_cons (pm_var 4) pma_nil))) (pm_sliceXK (K := K) (pm_var 2) (pmo_some (pm_var 3)) pmo_none)))))
    (pmss_one (pms_if (pmt_cmp (or_op op_eq (op_eqDK (K := K) hr.units)) (os_or (os_eqS (K := K)) (os_eq (K := K))) (pm_var 5) pm_int)
    (pmss_one (pms_set 2 sc_law.nd (pm_listR2 rfl T.n_list T.n_range pm_int pm_int)))
    pmss_nil)))))))))
    (pmss_frz 2 (pmss_frz 1 (pmss_cons (pms_for (passes_of rfl) rfl (pmi_x (pm_lst (pma_cons (pm_var 1) (pma_cons (pm_var 2) pma_nil)))) (pmg_name 6 sc_law.nd)
    (pmss_cons (pms_set 7 sc_law.nd (pm_callTy (call_list_ofK (K := K)) (cs_list (K := K)) T.n_list (by decide +kernel) (pma_cons (pm_var 6) pma_nil)))
    (pmss_cons (pms_set 8 sc_law.nd (pm_defK F__law_is_row gd (hr.mono (by decide)) T.g__law_is_row T.f__law_is_row.kp T.b__law_is_row (fun σ => passAt tk σ) (pma_cons (pm_var 6) pma_nil) (mCons_len mNil_len)))
    (pmss_cons (pms_if (PMW.t (pmw_or (pmt_cmp (or_op op_ne (op_neDK (K := K) hr.units)) (os_or (os_neS (K := K)) (os_ne (K := K))) (pm_callB (call_reprDK (K := K) gd hr.units) (cs_repr (K := K)) T.n_repr (by decide +kernel) (pma_cons (pm_defK F_is_row gd (hr.mono (by decide)) T.g_is_row T.f_is_row.kp T.b_is_row (fun σ => passAt tk σ) (pma_cons (pm_var 7) pma_nil) (mCons_len mNil_len)) pma_nil)) (pm_callB (call_reprDK (K := K) gd hr.units) (cs_repr (K := K)) T.n_repr (by decide +kernel) (pma_cons (pm_var 8) pma_nil))) (pmw_or1 (pmt_cmp (or_op op_ne (op_neDK (K := K) hr.units)) (os_or (os_neS (K := K)) (os_ne (K := K))) (pm_var 7) (pm_var 6)))))
    (pmss_one (pms_ret pm_bl))
    pmss_nil)
    (pmss_cons (pms_set 9 sc_law.nd (pm_defK F__law_told gd (hr.mono (by decide)) T.g__law_told T.f__law_told.kp T.b__law_told (fun σ => passAt tk σ) (pma_cons (pm_var 7) (pma_cons pm_bl pma_nil)) (mCons_len (mCons_len mNil_len))))
    (pmss_one (pms_if (PMW.t (pmw_or (PMW.t (pmw_and (pmt_truK (K := K) (pm_var 8)) (pmw_and1 (PMW.t (pmw_or (pmt_not (pmt_truK (K := K) (pm_isT T.n_isinstance T.n_str (by decide +kernel) (pm_var 9)))) (pmw_or1 (pmt_cmp (or_op op_ne (op_neDK (K := K) hr.units)) (os_or (os_neS (K := K)) (os_ne (K := K))) (pm_var 9) (pm_defK F__law_text gd (hr.mono (by decide)) T.g__law_text T.f__law_text.kp T.b__law_text (fun σ => passAt tk σ) (pma_cons (pm_var 6) pma_nil) (mCons_len mNil_len))))))))) (pmw_or1 (PMW.t (pmw_and (pmt_not (pmt_truK (K := K) (pm_var 8))) (pmw_and1 (pmt_cmp op_notN (os_notN (K := K)) (pm_var 9) pm_non)))))))
    (pmss_one (pms_ret pm_bl))
    pmss_nil)))))))
    (pmss_cons (pms_set 10 sc_law.nd (pm_defK F__law_text gd (hr.mono (by decide)) T.g__law_text T.f__law_text.kp T.b__law_text (fun σ => passAt tk σ) (pma_cons (pm_var 1) pma_nil) (mCons_len mNil_len)))
    (pmss_cons (pms_set 11 sc_law.nd (pm_op op_mod (os_mod (K := K)) (pm_defK F__law_cell gd (hr.mono (by decide)) T.g__law_cell T.f__law_cell.kp T.b__law_cell (fun σ => passAt tk σ) (pma_cons (pm_var 0) (pma_cons pm_int pma_nil)) (mCons_len (mCons_len mNil_len))) (pm_op (or_op op_add (or_op op_add_str op_cat)) (os_or (os_addI (K := K)) (os_or (os_strcat (K := K)) (os_cat (K := K)))) (pm_callB (call_lenK (K := K)) (cs_len (K := K)) T.n_len (by decide +kernel) (pma_cons (pm_var 10) pma_nil)) pm_int)))
    (pmss_cons (pms_set 12 sc_law.nd (pm_ix (ix_seqK (K := K)) (os_ix (K := K)) (pm_lst (pma_cons pm_str (pma_cons pm_str (pma_cons pm_str (pma_cons pm_str (pma_cons pm_str (pma_cons pm_str (pma_cons pm_str (pma_cons pm_str (pma_cons pm_str (pma_cons pm_str pma_nil))))))))))) (pm_op op_mod (os_mod (K := K)) (pm_defK F__law_cell gd (hr.mono (by decide)) T.g__law_cell T.f__law_cell.kp T.b__law_cell (fun σ => passAt tk σ) (pma_cons (pm_var 0) (pma_cons pm_int pma_nil)) (mCons_len (mCons_len mNil_len))) pm_int)))
    (pmss_frz 10 (pmss_cons (pms_set 13 sc_law.nd (pm_lst (pma_cons (pm_var 10) (pma_cons (pm_op (or_op op_add (or_op op_add_str op_cat)) (os_or (os_addI (K := K)) (os_or (os_strcat (K := K)) (os_cat (K := K)))) (pm_op (or_op op_add (or_op op_add_str op_cat)) (os_or (os_addI (K := K)) (os_or (os_strcat (K := K)) (os_cat (K := K)))) (pm_sliceXK (K := K) (pm_var 10) pmo_none (pmo_some (pm_var 11))) (pm_var 12)) (pm_sliceXK (K := K) (pm_var 10) (pmo_some (pm_var 11)) pmo_none)) (pma_cons (pm_op (or_op op_add (or_op op_add_str op_cat)) (os_or (os_addI (K := K)) (os_or (os_strcat (K := K)) (os_cat (K := K)))) (pm_sliceXK (K := K) (pm_var 10) pmo_none (pmo_some (pm_var 11))) (pm_sliceXK (K := K) (pm_var 10) (pmo_some (pm_op (or_op op_add (or_op op_add_str op_cat)) (os_or (os_addI (K := K)) (os_or (os_strcat (K := K)) (os_cat (K := K)))) (pm_var 11) pm_int)) pmo_none)) (pma_cons (pm_op (or_op op_add (or_op op_add_str op_cat)) (os_or (os_addI (K := K)) (os_or (os_strcat (K := K)) (os_cat (K := K)))) (pm_var 10) (pm_var 12)) pma_nil))))))
    (pmss_frz 13 (pmss_cons (pms_for (passes_of rfl) rfl (pmi_x (pm_var 13)) (pmg_name 14 sc_law.nd)
    (pmss_one (pms_if (pmt_cmp (or_op op_ne (op_neDK (K := K) hr.units)) (os_or (os_neS (K := K)) (os_ne (K := K))) (pm_callB (call_reprDK (K := K) gd hr.units) (cs_repr (K := K)) T.n_repr (by decide +kernel) (pma_cons (pm_defK F__law_told gd (hr.mono (by decide)) T.g__law_told T.f__law_told.kp T.b__law_told (fun σ => passAt tk σ) (pma_cons (pm_var 14) (pma_cons pm_bl pma_nil)) (mCons_len (mCons_len mNil_len))) pma_nil)) (pm_callB (call_reprDK (K := K) gd hr.units) (cs_repr (K := K)) T.n_repr (by decide +kernel) (pma_cons (pm_defK F__law_read gd (hr.mono (by decide)) T.g__law_read T.f__law_read.kp T.b__law_read (fun σ => passAt tk σ) (pma_cons (pm_var 14) pma_nil) (mCons_len mNil_len)) pma_nil)))
    (pmss_one (pms_ret pm_bl))
    pmss_nil)))
    (pmss_one (pms_ret pm_bl)))))))))))))))))))⟩
end
theorem all_mk {l : PySem.W.OpenLaw} {w : World} {K : PySem.W.Frag} {h : Heap} {mg : Str → Option Value} {fa : Addr} (X : K.In h) (G : h.Ns mainGlobals mg) (hfa : mg "law" = some (.ref fa))
    {a_is_row a_check_row a_row_text a_read_row a__law_cell a__law_values a__law_row a__law_size a__law_is_row a__law_text a__law_told a__law_wagon a__law_read a_law : Addr} {C_NotCode C_NotRow C_YardsortError : Addr}
    {od_is_row an_is_row : Option Addr} {sl_is_row : Array (Option Value)} {oc_is_row kV_is_row dc_is_row pm_is_row cd_is_row ct_is_row : Value}
    {od_check_row an_check_row : Option Addr} {sl_check_row : Array (Option Value)} {oc_check_row kV_check_row dc_check_row pm_check_row cd_check_row ct_check_row : Value}
    {od_row_text an_row_text : Option Addr} {sl_row_text : Array (Option Value)} {oc_row_text kV_row_text dc_row_text pm_row_text cd_row_text ct_row_text : Value}
    {od_read_row an_read_row : Option Addr} {sl_read_row : Array (Option Value)} {oc_read_row kV_read_row dc_read_row pm_read_row cd_read_row ct_read_row : Value}
    {od__law_cell an__law_cell : Option Addr} {sl__law_cell : Array (Option Value)} {oc__law_cell kV__law_cell dc__law_cell pm__law_cell cd__law_cell ct__law_cell : Value}
    {od__law_values an__law_values : Option Addr} {sl__law_values : Array (Option Value)} {oc__law_values kV__law_values dc__law_values pm__law_values cd__law_values ct__law_values : Value}
    {od__law_row an__law_row : Option Addr} {sl__law_row : Array (Option Value)} {oc__law_row kV__law_row dc__law_row pm__law_row cd__law_row ct__law_row : Value}
    {od__law_size an__law_size : Option Addr} {sl__law_size : Array (Option Value)} {oc__law_size kV__law_size dc__law_size pm__law_size cd__law_size ct__law_size : Value}
    {od__law_is_row an__law_is_row : Option Addr} {sl__law_is_row : Array (Option Value)} {oc__law_is_row kV__law_is_row dc__law_is_row pm__law_is_row cd__law_is_row ct__law_is_row : Value}
    {od__law_text an__law_text : Option Addr} {sl__law_text : Array (Option Value)} {oc__law_text kV__law_text dc__law_text pm__law_text cd__law_text ct__law_text : Value}
    {od__law_told an__law_told : Option Addr} {sl__law_told : Array (Option Value)} {oc__law_told kV__law_told dc__law_told pm__law_told cd__law_told ct__law_told : Value}
    {od__law_wagon an__law_wagon : Option Addr} {sl__law_wagon : Array (Option Value)} {oc__law_wagon kV__law_wagon dc__law_wagon pm__law_wagon cd__law_wagon ct__law_wagon : Value}
    {od__law_read an__law_read : Option Addr} {sl__law_read : Array (Option Value)} {oc__law_read kV__law_read dc__law_read pm__law_read cd__law_read ct__law_read : Value}
    {od_law an_law : Option Addr} {sl_law : Array (Option Value)} {oc_law kV_law dc_law pm_law cd_law ct_law : Value}
    {tk_MOST_WAGONS : Tok}
    (a1_is_row : PySem.W.nsIn K mainGlobals "is_row" = some (some (.ref a_is_row))) (l1_is_row : K.lookup a_is_row = some ⟨oc_is_row, od_is_row, .func (PySem.W.fnOf "is_row" "is_row" (defArgs s_is_row) (defBody s_is_row) (defScope s_is_row) .none kV_is_row dc_is_row pm_is_row an_is_row cd_is_row ct_is_row), sl_is_row⟩) (c1_is_row : PySem.W.codeIn K cd_is_row "is_row" = true) (k1_is_row : PySem.W.keepIn K (.ref a_is_row) = true)
    (a1_check_row : PySem.W.nsIn K mainGlobals "check_row" = some (some (.ref a_check_row))) (l1_check_row : K.lookup a_check_row = some ⟨oc_check_row, od_check_row, .func (PySem.W.fnOf "check_row" "check_row" (defArgs s_check_row) (defBody s_check_row) (defScope s_check_row) .none kV_check_row dc_check_row pm_check_row an_check_row cd_check_row ct_check_row), sl_check_row⟩) (c1_check_row : PySem.W.codeIn K cd_check_row "check_row" = true) (k1_check_row : PySem.W.keepIn K (.ref a_check_row) = true)
    (a1_row_text : PySem.W.nsIn K mainGlobals "row_text" = some (some (.ref a_row_text))) (l1_row_text : K.lookup a_row_text = some ⟨oc_row_text, od_row_text, .func (PySem.W.fnOf "row_text" "row_text" (defArgs s_row_text) (defBody s_row_text) (defScope s_row_text) .none kV_row_text dc_row_text pm_row_text an_row_text cd_row_text ct_row_text), sl_row_text⟩) (c1_row_text : PySem.W.codeIn K cd_row_text "row_text" = true) (k1_row_text : PySem.W.keepIn K (.ref a_row_text) = true)
    (a1_read_row : PySem.W.nsIn K mainGlobals "read_row" = some (some (.ref a_read_row))) (l1_read_row : K.lookup a_read_row = some ⟨oc_read_row, od_read_row, .func (PySem.W.fnOf "read_row" "read_row" (defArgs s_read_row) (defBody s_read_row) (defScope s_read_row) .none kV_read_row dc_read_row pm_read_row an_read_row cd_read_row ct_read_row), sl_read_row⟩) (c1_read_row : PySem.W.codeIn K cd_read_row "read_row" = true) (k1_read_row : PySem.W.keepIn K (.ref a_read_row) = true)
    (a1__law_cell : PySem.W.nsIn K mainGlobals "_law_cell" = some (some (.ref a__law_cell))) (l1__law_cell : K.lookup a__law_cell = some ⟨oc__law_cell, od__law_cell, .func (PySem.W.fnOf "_law_cell" "_law_cell" (defArgs s__law_cell) (defBody s__law_cell) (defScope s__law_cell) .none kV__law_cell dc__law_cell pm__law_cell an__law_cell cd__law_cell ct__law_cell), sl__law_cell⟩) (c1__law_cell : PySem.W.codeIn K cd__law_cell "_law_cell" = true) (k1__law_cell : PySem.W.keepIn K (.ref a__law_cell) = true)
    (a1__law_values : PySem.W.nsIn K mainGlobals "_law_values" = some (some (.ref a__law_values))) (l1__law_values : K.lookup a__law_values = some ⟨oc__law_values, od__law_values, .func (PySem.W.fnOf "_law_values" "_law_values" (defArgs s__law_values) (defBody s__law_values) (defScope s__law_values) .none kV__law_values dc__law_values pm__law_values an__law_values cd__law_values ct__law_values), sl__law_values⟩) (c1__law_values : PySem.W.codeIn K cd__law_values "_law_values" = true) (k1__law_values : PySem.W.keepIn K (.ref a__law_values) = true)
    (a1__law_row : PySem.W.nsIn K mainGlobals "_law_row" = some (some (.ref a__law_row))) (l1__law_row : K.lookup a__law_row = some ⟨oc__law_row, od__law_row, .func (PySem.W.fnOf "_law_row" "_law_row" (defArgs s__law_row) (defBody s__law_row) (defScope s__law_row) .none kV__law_row dc__law_row pm__law_row an__law_row cd__law_row ct__law_row), sl__law_row⟩) (c1__law_row : PySem.W.codeIn K cd__law_row "_law_row" = true) (k1__law_row : PySem.W.keepIn K (.ref a__law_row) = true)
    (a1__law_size : PySem.W.nsIn K mainGlobals "_law_size" = some (some (.ref a__law_size))) (l1__law_size : K.lookup a__law_size = some ⟨oc__law_size, od__law_size, .func (PySem.W.fnOf "_law_size" "_law_size" (defArgs s__law_size) (defBody s__law_size) (defScope s__law_size) .none kV__law_size dc__law_size pm__law_size an__law_size cd__law_size ct__law_size), sl__law_size⟩) (c1__law_size : PySem.W.codeIn K cd__law_size "_law_size" = true) (k1__law_size : PySem.W.keepIn K (.ref a__law_size) = true)
    (a1__law_is_row : PySem.W.nsIn K mainGlobals "_law_is_row" = some (some (.ref a__law_is_row))) (l1__law_is_row : K.lookup a__law_is_row = some ⟨oc__law_is_row, od__law_is_row, .func (PySem.W.fnOf "_law_is_row" "_law_is_row" (defArgs s__law_is_row) (defBody s__law_is_row) (defScope s__law_is_row) .none kV__law_is_row dc__law_is_row pm__law_is_row an__law_is_row cd__law_is_row ct__law_is_row), sl__law_is_row⟩) (c1__law_is_row : PySem.W.codeIn K cd__law_is_row "_law_is_row" = true) (k1__law_is_row : PySem.W.keepIn K (.ref a__law_is_row) = true)
    (a1__law_text : PySem.W.nsIn K mainGlobals "_law_text" = some (some (.ref a__law_text))) (l1__law_text : K.lookup a__law_text = some ⟨oc__law_text, od__law_text, .func (PySem.W.fnOf "_law_text" "_law_text" (defArgs s__law_text) (defBody s__law_text) (defScope s__law_text) .none kV__law_text dc__law_text pm__law_text an__law_text cd__law_text ct__law_text), sl__law_text⟩) (c1__law_text : PySem.W.codeIn K cd__law_text "_law_text" = true) (k1__law_text : PySem.W.keepIn K (.ref a__law_text) = true)
    (a1__law_told : PySem.W.nsIn K mainGlobals "_law_told" = some (some (.ref a__law_told))) (l1__law_told : K.lookup a__law_told = some ⟨oc__law_told, od__law_told, .func (PySem.W.fnOf "_law_told" "_law_told" (defArgs s__law_told) (defBody s__law_told) (defScope s__law_told) .none kV__law_told dc__law_told pm__law_told an__law_told cd__law_told ct__law_told), sl__law_told⟩) (c1__law_told : PySem.W.codeIn K cd__law_told "_law_told" = true) (k1__law_told : PySem.W.keepIn K (.ref a__law_told) = true)
    (a1__law_wagon : PySem.W.nsIn K mainGlobals "_law_wagon" = some (some (.ref a__law_wagon))) (l1__law_wagon : K.lookup a__law_wagon = some ⟨oc__law_wagon, od__law_wagon, .func (PySem.W.fnOf "_law_wagon" "_law_wagon" (defArgs s__law_wagon) (defBody s__law_wagon) (defScope s__law_wagon) .none kV__law_wagon dc__law_wagon pm__law_wagon an__law_wagon cd__law_wagon ct__law_wagon), sl__law_wagon⟩) (c1__law_wagon : PySem.W.codeIn K cd__law_wagon "_law_wagon" = true) (k1__law_wagon : PySem.W.keepIn K (.ref a__law_wagon) = true)
    (a1__law_read : PySem.W.nsIn K mainGlobals "_law_read" = some (some (.ref a__law_read))) (l1__law_read : K.lookup a__law_read = some ⟨oc__law_read, od__law_read, .func (PySem.W.fnOf "_law_read" "_law_read" (defArgs s__law_read) (defBody s__law_read) (defScope s__law_read) .none kV__law_read dc__law_read pm__law_read an__law_read cd__law_read ct__law_read), sl__law_read⟩) (c1__law_read : PySem.W.codeIn K cd__law_read "_law_read" = true) (k1__law_read : PySem.W.keepIn K (.ref a__law_read) = true)
    (a1_law : PySem.W.nsIn K mainGlobals "law" = some (some (.ref a_law))) (l1_law : K.lookup a_law = some ⟨oc_law, od_law, .func (PySem.W.fnOf "law" "law" (defArgs s_law) (defBody s_law) (defScope s_law) .none kV_law dc_law pm_law an_law cd_law ct_law), sl_law⟩) (c1_law : PySem.W.codeIn K cd_law "law" = true) (k1_law : PySem.W.keepIn K (.ref a_law) = true)
    (z_ValueError : PySem.W.nsIn K mainGlobals "ValueError" = some none)
    (z_int : PySem.W.nsIn K mainGlobals "int" = some none)
    (z_isinstance : PySem.W.nsIn K mainGlobals "isinstance" = some none)
    (z_len : PySem.W.nsIn K mainGlobals "len" = some none)
    (z_list : PySem.W.nsIn K mainGlobals "list" = some none)
    (z_range : PySem.W.nsIn K mainGlobals "range" = some none)
    (z_repr : PySem.W.nsIn K mainGlobals "repr" = some none)
    (z_sorted : PySem.W.nsIn K mainGlobals "sorted" = some none)
    (z_str : PySem.W.nsIn K mainGlobals "str" = some none)
    (v_MOST_WAGONS : PySem.W.nsIn K mainGlobals "MOST_WAGONS" = some (some (.int 60 tk_MOST_WAGONS)))
    (e_NotCode : PySem.W.nsIn K mainGlobals "NotCode" = some (some (.ref C_NotCode))) (x_NotCode : PySem.W.excIn K C_NotCode [.type "ValueError", .type "Exception", .type "BaseException", .type "object"] "ValueError.__new__" = true) (k_NotCode : PySem.W.keepIn K (.ref C_NotCode) = true) (r_NotCode : PySem.W.subIn K (.ref C_NotCode) (.type "BaseException") = some true) (t_NotCode : PySem.W.typeIn K (.ref C_NotCode) = some (.type "type"))
    (e_NotRow : PySem.W.nsIn K mainGlobals "NotRow" = some (some (.ref C_NotRow))) (x_NotRow : PySem.W.excIn K C_NotRow [.type "ValueError", .type "Exception", .type "BaseException", .type "object"] "ValueError.__new__" = true) (k_NotRow : PySem.W.keepIn K (.ref C_NotRow) = true) (r_NotRow : PySem.W.subIn K (.ref C_NotRow) (.type "BaseException") = some true) (t_NotRow : PySem.W.typeIn K (.ref C_NotRow) = some (.type "type"))
    (e_YardsortError : PySem.W.nsIn K mainGlobals "YardsortError" = some (some (.ref C_YardsortError))) (x_YardsortError : PySem.W.excIn K C_YardsortError [.type "ValueError", .type "Exception", .type "BaseException", .type "object"] "ValueError.__new__" = true) (k_YardsortError : PySem.W.keepIn K (.ref C_YardsortError) = true) (r_YardsortError : PySem.W.subIn K (.ref C_YardsortError) (.type "BaseException") = some true) (t_YardsortError : PySem.W.typeIn K (.ref C_YardsortError) = some (.type "type"))
    (i_NotCode : PySem.W.isClsIn K C_NotCode = true)
    (i_NotRow : PySem.W.isClsIn K C_NotRow = true)
    (i_YardsortError : PySem.W.isClsIn K C_YardsortError = true)
    (s_YardsortError_NotCode : PySem.W.subIn K (.ref C_YardsortError) (.ref C_NotCode) = some false)
    (s_NotRow_NotCode : PySem.W.subIn K (.ref C_NotRow) (.ref C_NotCode) = some false)
    (s_NotCode_NotCode : PySem.W.subIn K (.ref C_NotCode) (.ref C_NotCode) = some true)
    (s_YardsortError_NotRow : PySem.W.subIn K (.ref C_YardsortError) (.ref C_NotRow) = some false)
    (s_NotRow_NotRow : PySem.W.subIn K (.ref C_NotRow) (.ref C_NotRow) = some true)
    (s_NotCode_NotRow : PySem.W.subIn K (.ref C_NotCode) (.ref C_NotRow) = some false)
    (s_YardsortError_YardsortError : PySem.W.subIn K (.ref C_YardsortError) (.ref C_YardsortError) = some true)
    (s_NotRow_YardsortError : PySem.W.subIn K (.ref C_NotRow) (.ref C_YardsortError) = some true)
    (s_NotCode_YardsortError : PySem.W.subIn K (.ref C_NotCode) (.ref C_YardsortError) = some true)
    (q5 : PySem.W.specialIn K (.builtin "object.__class__") "__get__" = some (some (.builtin "getset_descriptor.__get__"))) (q6 : PySem.W.takesIn K (.builtin "object.__class__") = some true)
    (q0_YardsortError : PySem.W.findIn K (.ref C_YardsortError) "__getattribute__" = some (some (.builtin "BaseException.__getattribute__"))) (q1_YardsortError : PySem.W.findIn K (.ref C_YardsortError) "__getattr__" = some none) (q2_YardsortError : PySem.W.hasDictIn K C_YardsortError = true) (q3_YardsortError : PySem.W.findIn K (.ref C_YardsortError) "__class__" = some (some (.builtin "object.__class__"))) (q4_YardsortError : PySem.W.mroIn K C_YardsortError (.type "object") = some true)
    (q0_NotRow : PySem.W.findIn K (.ref C_NotRow) "__getattribute__" = some (some (.builtin "BaseException.__getattribute__"))) (q1_NotRow : PySem.W.findIn K (.ref C_NotRow) "__getattr__" = some none) (q2_NotRow : PySem.W.hasDictIn K C_NotRow = true) (q3_NotRow : PySem.W.findIn K (.ref C_NotRow) "__class__" = some (some (.builtin "object.__class__"))) (q4_NotRow : PySem.W.mroIn K C_NotRow (.type "object") = some true)
    (q0_NotCode : PySem.W.findIn K (.ref C_NotCode) "__getattribute__" = some (some (.builtin "BaseException.__getattribute__"))) (q1_NotCode : PySem.W.findIn K (.ref C_NotCode) "__getattr__" = some none) (q2_NotCode : PySem.W.hasDictIn K C_NotCode = true) (q3_NotCode : PySem.W.findIn K (.ref C_NotCode) "__class__" = some (some (.builtin "object.__class__"))) (q4_NotCode : PySem.W.mroIn K C_NotCode (.type "object") = some true)
    (o_YardsortError_NotCode : PySem.W.kitOne K (.ref C_YardsortError) (.ref C_NotCode) = some false)
    (o_NotRow_NotCode : PySem.W.kitOne K (.ref C_NotRow) (.ref C_NotCode) = some false)
    (o_NotCode_NotCode : PySem.W.kitOne K (.ref C_NotCode) (.ref C_NotCode) = some true)
    (o_YardsortError_ValueError : PySem.W.kitOne K (.ref C_YardsortError) (.type "ValueError") = some true)
    (o_NotRow_ValueError : PySem.W.kitOne K (.ref C_NotRow) (.type "ValueError") = some true)
    (o_NotCode_ValueError : PySem.W.kitOne K (.ref C_NotCode) (.type "ValueError") = some true)
    (o_YardsortError_YardsortError : PySem.W.kitOne K (.ref C_YardsortError) (.ref C_YardsortError) = some true)
    (o_NotRow_YardsortError : PySem.W.kitOne K (.ref C_NotRow) (.ref C_YardsortError) = some true)
    (o_NotCode_YardsortError : PySem.W.kitOne K (.ref C_NotCode) (.ref C_YardsortError) = some true)
    : ∃ fd : FuncData, (∀ (s : Shared) (v : Value), BindsTo s fd ⟨[v], []⟩ [("script", v)]) ∧ ∀ base : Heap, K.In base → base.Ns mainGlobals mg → FnG l.prog w K mg base 5 fa fd ["script"] (spM K mg 1 M_law) := by
  have e := hfa.symm.trans (PySem.W.mg_of X G a1_law)
  cases e
  have F_is_row := fun_mk (st := s_is_row) l1_is_row c1_is_row k1_is_row
  have B_is_row := F_is_row.binds (ps := P_is_row) fun _ _ _ _ _ _ us hl => match us, hl with | [_], _ => rfl
  have F_check_row := fun_mk (st := s_check_row) l1_check_row c1_check_row k1_check_row
  have B_check_row := F_check_row.binds (ps := P_check_row) fun _ _ _ _ _ _ us hl => match us, hl with | [_], _ => rfl
  have F_row_text := fun_mk (st := s_row_text) l1_row_text c1_row_text k1_row_text
  have B_row_text := F_row_text.binds (ps := P_row_text) fun _ _ _ _ _ _ us hl => match us, hl with | [_], _ => rfl
  have F_read_row := fun_mk (st := s_read_row) l1_read_row c1_read_row k1_read_row
  have B_read_row := F_read_row.binds (ps := P_read_row) fun _ _ _ _ _ _ us hl => match us, hl with | [_], _ => rfl
  have F__law_cell := fun_mk (st := s__law_cell) l1__law_cell c1__law_cell k1__law_cell
  have B__law_cell := F__law_cell.binds (ps := P__law_cell) fun _ _ _ _ _ _ us hl => match us, hl with | [_, _], _ => rfl
  have F__law_values := fun_mk (st := s__law_values) l1__law_values c1__law_values k1__law_values
  have B__law_values := F__law_values.binds (ps := P__law_values) fun _ _ _ _ _ _ us hl => match us, hl with | [_, _, _], _ => rfl
  have F__law_row := fun_mk (st := s__law_row) l1__law_row c1__law_row k1__law_row
  have B__law_row := F__law_row.binds (ps := P__law_row) fun _ _ _ _ _ _ us hl => match us, hl with | [_, _], _ => rfl
  have F__law_size := fun_mk (st := s__law_size) l1__law_size c1__law_size k1__law_size
  have B__law_size := F__law_size.binds (ps := P__law_size) fun _ _ _ _ _ _ us hl => match us, hl with | [_], _ => rfl
  have F__law_is_row := fun_mk (st := s__law_is_row) l1__law_is_row c1__law_is_row k1__law_is_row
  have B__law_is_row := F__law_is_row.binds (ps := P__law_is_row) fun _ _ _ _ _ _ us hl => match us, hl with | [_], _ => rfl
  have F__law_text := fun_mk (st := s__law_text) l1__law_text c1__law_text k1__law_text
  have B__law_text := F__law_text.binds (ps := P__law_text) fun _ _ _ _ _ _ us hl => match us, hl with | [_], _ => rfl
  have F__law_told := fun_mk (st := s__law_told) l1__law_told c1__law_told k1__law_told
  have B__law_told := F__law_told.binds (ps := P__law_told) fun _ _ _ _ _ _ us hl => match us, hl with | [_, _], _ => rfl
  have F__law_wagon := fun_mk (st := s__law_wagon) l1__law_wagon c1__law_wagon k1__law_wagon
  have B__law_wagon := F__law_wagon.binds (ps := P__law_wagon) fun _ _ _ _ _ _ us hl => match us, hl with | [_], _ => rfl
  have F__law_read := fun_mk (st := s__law_read) l1__law_read c1__law_read k1__law_read
  have B__law_read := F__law_read.binds (ps := P__law_read) fun _ _ _ _ _ _ us hl => match us, hl with | [_], _ => rfl
  have F_law := fun_mk (st := s_law) l1_law c1_law k1_law
  have B_law := F_law.binds (ps := P_law) fun _ _ _ _ _ _ us hl => match us, hl with | [_], _ => rfl
  have D_NotCode : Decs K mg (.ref C_NotCode) dec_NotCode := by
    intro m b C hm hC
    unfold dec_NotCode at hm
    split at hm
    · rename_i z
      subst z
      cases hm
      cases (PySem.W.mg_of X G e_YardsortError).symm.trans hC
      exact exm_own r_NotCode i_NotCode t_NotCode s_YardsortError_NotCode
    split at hm
    · rename_i z
      subst z
      cases hm
      cases (PySem.W.mg_of X G e_NotRow).symm.trans hC
      exact exm_own r_NotCode i_NotCode t_NotCode s_NotRow_NotCode
    split at hm
    · rename_i z
      subst z
      cases hm
      cases (PySem.W.mg_of X G e_NotCode).symm.trans hC
      exact exm_own r_NotCode i_NotCode t_NotCode s_NotCode_NotCode
    cases hm
  have D_NotRow : Decs K mg (.ref C_NotRow) dec_NotRow := by
    intro m b C hm hC
    unfold dec_NotRow at hm
    split at hm
    · rename_i z
      subst z
      cases hm
      cases (PySem.W.mg_of X G e_YardsortError).symm.trans hC
      exact exm_own r_NotRow i_NotRow t_NotRow s_YardsortError_NotRow
    split at hm
    · rename_i z
      subst z
      cases hm
      cases (PySem.W.mg_of X G e_NotRow).symm.trans hC
      exact exm_own r_NotRow i_NotRow t_NotRow s_NotRow_NotRow
    split at hm
    · rename_i z
      subst z
      cases hm
      cases (PySem.W.mg_of X G e_NotCode).symm.trans hC
      exact exm_own r_NotRow i_NotRow t_NotRow s_NotCode_NotRow
    cases hm
  have D_YardsortError : Decs K mg (.ref C_YardsortError) dec_YardsortError := by
    intro m b C hm hC
    unfold dec_YardsortError at hm
    split at hm
    · rename_i z
      subst z
      cases hm
      cases (PySem.W.mg_of X G e_YardsortError).symm.trans hC
      exact exm_own r_YardsortError i_YardsortError t_YardsortError s_YardsortError_YardsortError
    split at hm
    · rename_i z
      subst z
      cases hm
      cases (PySem.W.mg_of X G e_NotRow).symm.trans hC
      exact exm_own r_YardsortError i_YardsortError t_YardsortError s_NotRow_YardsortError
    split at hm
    · rename_i z
      subst z
      cases hm
      cases (PySem.W.mg_of X G e_NotCode).symm.trans hC
      exact exm_own r_YardsortError i_YardsortError t_YardsortError s_NotCode_YardsortError
    cases hm
  have J_NotCode : IsD K mg (.ref C_NotCode) isd_NotCode := by
    intro m b C hm hC
    unfold isd_NotCode at hm
    split at hm
    · rename_i z
      subst z
      cases hm
      cases (PySem.W.mg_of X G e_YardsortError).symm.trans hC
      exact ⟨⟨q0_YardsortError, q1_YardsortError, r_YardsortError, q2_YardsortError, q3_YardsortError, q5, q6, q4_YardsortError⟩, o_YardsortError_NotCode⟩
    split at hm
    · rename_i z
      subst z
      cases hm
      cases (PySem.W.mg_of X G e_NotRow).symm.trans hC
      exact ⟨⟨q0_NotRow, q1_NotRow, r_NotRow, q2_NotRow, q3_NotRow, q5, q6, q4_NotRow⟩, o_NotRow_NotCode⟩
    split at hm
    · rename_i z
      subst z
      cases hm
      cases (PySem.W.mg_of X G e_NotCode).symm.trans hC
      exact ⟨⟨q0_NotCode, q1_NotCode, r_NotCode, q2_NotCode, q3_NotCode, q5, q6, q4_NotCode⟩, o_NotCode_NotCode⟩
    cases hm
  have J_ValueError : IsD K mg (.type "ValueError") isd_ValueError := by
    intro m b C hm hC
    unfold isd_ValueError at hm
    split at hm
    · rename_i z
      subst z
      cases hm
      cases (PySem.W.mg_of X G e_YardsortError).symm.trans hC
      exact ⟨⟨q0_YardsortError, q1_YardsortError, r_YardsortError, q2_YardsortError, q3_YardsortError, q5, q6, q4_YardsortError⟩, o_YardsortError_ValueError⟩
    split at hm
    · rename_i z
      subst z
      cases hm
      cases (PySem.W.mg_of X G e_NotRow).symm.trans hC
      exact ⟨⟨q0_NotRow, q1_NotRow, r_NotRow, q2_NotRow, q3_NotRow, q5, q6, q4_NotRow⟩, o_NotRow_ValueError⟩
    split at hm
    · rename_i z
      subst z
      cases hm
      cases (PySem.W.mg_of X G e_NotCode).symm.trans hC
      exact ⟨⟨q0_NotCode, q1_NotCode, r_NotCode, q2_NotCode, q3_NotCode, q5, q6, q4_NotCode⟩, o_NotCode_ValueError⟩
    cases hm
  have J_YardsortError : IsD K mg (.ref C_YardsortError) isd_YardsortError := by
    intro m b C hm hC
    unfold isd_YardsortError at hm
    split at hm
    · rename_i z
      subst z
      cases hm
      cases (PySem.W.mg_of X G e_YardsortError).symm.trans hC
      exact ⟨⟨q0_YardsortError, q1_YardsortError, r_YardsortError, q2_YardsortError, q3_YardsortError, q5, q6, q4_YardsortError⟩, o_YardsortError_YardsortError⟩
    split at hm
    · rename_i z
      subst z
      cases hm
      cases (PySem.W.mg_of X G e_NotRow).symm.trans hC
      exact ⟨⟨q0_NotRow, q1_NotRow, r_NotRow, q2_NotRow, q3_NotRow, q5, q6, q4_NotRow⟩, o_NotRow_YardsortError⟩
    split at hm
    · rename_i z
      subst z
      cases hm
      cases (PySem.W.mg_of X G e_NotCode).symm.trans hC
      exact ⟨⟨q0_NotCode, q1_NotCode, r_NotCode, q2_NotCode, q3_NotCode, q5, q6, q4_NotCode⟩, o_NotCode_YardsortError⟩
    cases hm
  have T : Fx K mg a_is_row a_check_row a_row_text a_read_row a__law_cell a__law_values a__law_row a__law_size a__law_is_row a__law_text a__law_told a__law_wagon a__law_read fa _ _ _ _ _ _ _ _ _ _ _ _ _ _ C_NotCode C_NotRow C_YardsortError :=
    ⟨PySem.W.mg_of X G a1_is_row, F_is_row, B_is_row, PySem.W.mg_of X G a1_check_row, F_check_row, B_check_row, PySem.W.mg_of X G a1_row_text, F_row_text, B_row_text, PySem.W.mg_of X G a1_read_row, F_read_row, B_read_row, PySem.W.mg_of X G a1__law_cell, F__law_cell, B__law_cell, PySem.W.mg_of X G a1__law_values, F__law_values, B__law_values, PySem.W.mg_of X G a1__law_row, F__law_row, B__law_row, PySem.W.mg_of X G a1__law_size, F__law_size, B__law_size, PySem.W.mg_of X G a1__law_is_row, F__law_is_row, B__law_is_row, PySem.W.mg_of X G a1__law_text, F__law_text, B__law_text, PySem.W.mg_of X G a1__law_told, F__law_told, B__law_told, PySem.W.mg_of X G a1__law_wagon, F__law_wagon, B__law_wagon, PySem.W.mg_of X G a1__law_read, F__law_read, B__law_read, PySem.W.mg_of X G a1_law, F_law, B_law, PySem.W.mg_none_of X G z_ValueError, PySem.W.mg_none_of X G z_int, PySem.W.mg_none_of X G z_isinstance, PySem.W.mg_none_of X G z_len, PySem.W.mg_none_of X G z_list, PySem.W.mg_none_of X G z_range, PySem.W.mg_none_of X G z_repr, PySem.W.mg_none_of X G z_sorted, PySem.W.mg_none_of X G z_str, ⟨_, PySem.W.mg_of X G v_MOST_WAGONS⟩, PySem.W.mg_of X G e_NotCode, x_NotCode, k_NotCode, r_NotCode, t_NotCode, PySem.W.mg_of X G e_NotRow, x_NotRow, k_NotRow, r_NotRow, t_NotRow, PySem.W.mg_of X G e_YardsortError, x_YardsortError, k_YardsortError, r_YardsortError, t_YardsortError, D_NotCode, D_NotRow, D_YardsortError, J_NotCode, J_ValueError, J_YardsortError⟩
  exact ⟨PySem.W.fnOf "law" "law" (defArgs s_law) (defBody s_law) (defScope s_law) .none kV_law dc_law pm_law an_law cd_law ct_law, fun s v => .of_eq rfl, fun base _ _ => ok_law T⟩
end Law

namespace Law
open PySem PySem.Spec PyProof.Rows L2 Mi
local macro_rules | `(tactic| walk_at "ev") => `(tactic| try simp only [mSeq, mSet, mCall, mCons, mNil, mVar, look, Res.bind, sRes, lift, cLen, cList, seqOf, lit, store, mRet, mRetV, mAndV, mOrV, mNotV, mOp, mC, oLe, oLt, oGe, oGt, oII, oIC, oSub, oMod, oDiv, oPow, oMul, oMulI, oRep, oStrCat, oCat, boolOf, oEq, oNe, oEqS, oNeS, cSorted, cSum, mListR1, mListR2, oAdd, oOr, oAddI, dat, fin, mIf, mIfE, mNot, mTru, mTest, truth, mRaise, mSkip, mDrop, mDef, mApp, mPut, mRev, esc, cInt1, cOr, cInt2, mFor, mIter1, mIter2, mIterL, mIterE, mIterX, fix, bName, bTup, bCons, bNil, oIx, mSl, mSlX, mPart, mNoPart, mLst, mTup, escs, mComp, mYes, wipeR, mFrz, frz, mAnd, mOr, mNeg, mChain, isNone, oIsN, mTry, noEx, mMeth,
  List.getElem?_cons_succ, List.getElem?_cons_zero, List.set_cons_succ, List.set_cons_zero, intsOf_map, rangeD_upto, shaped_iL, eqv_iL, eqv_int, shaped_int, Bool.and_self, if_true, List.length_map, Option.map, Option.bind, tlit, pas, isBw, flatR, flatD, List.map_cons, List.map_nil, List.any_cons, List.any_nil, List.all_nil, List.length_cons, List.length_nil, Bool.or_false, Bool.not_false, Bool.true_or, mpush, mcat, mat, mcut, mrev, mset, mrep, decide_eq_true_eq, Int.reduceLT, Int.reduceLE, Int.reduceNeg, Int.reduceAdd, Int.reduceSub, Nat.reduceLeDiff, and_self, true_and, and_true, ↓reduceIte, ite_self, decide_true, decide_false, Bool.true_and, Bool.false_and, Bool.and_true, Bool.and_false, Bool.not_true, Bool.false_eq_true, Bool.or_true, Bool.or_self, Bool.and_eq_true, Int.toNat_natCast, Int.natAbs_one, Int.natAbs_zero, Int.natAbs_natCast, Int.add_sub_cancel, Nat.reduceAdd, List.cons_append, List.nil_append, List.length_singleton, Nat.reduceMul])
local macro_rules | `(tactic| walk_at "eva") => `(tactic| try simp only [*, mSeq, mSet, mCall, mCons, mNil, mVar, look, Res.bind, sRes, lift, cLen, cList, seqOf, lit, store, mRet, mRetV, mAndV, mOrV, mNotV, mOp, mC, oLe, oLt, oGe, oGt, oII, oIC, oSub, oMod, oDiv, oPow, oMul, oMulI, oRep, oStrCat, oCat, boolOf, oEq, oNe, oEqS, oNeS, cSorted, cSum, mListR1, mListR2, oAdd, oOr, oAddI, dat, fin, mIf, mIfE, mNot, mTru, mTest, truth, mRaise, mSkip, mDrop, mDef, mApp, mPut, mRev, esc, cInt1, cOr, cInt2, mFor, mIter1, mIter2, mIterL, mIterE, mIterX, fix, bName, bTup, bCons, bNil, oIx, mSl, mSlX, mPart, mNoPart, mLst, mTup, escs, mComp, mYes, wipeR, mFrz, frz, mAnd, mOr, mNeg, mChain, isNone, oIsN, mTry, noEx, mMeth,
  List.getElem?_cons_succ, List.getElem?_cons_zero, List.set_cons_succ, List.set_cons_zero, intsOf_map, rangeD_upto, shaped_iL, eqv_iL, eqv_int, shaped_int, Bool.and_self, if_true, List.length_map, Option.map, Option.bind, tlit, pas, isBw, flatR, flatD, List.map_cons, List.map_nil, List.any_cons, List.any_nil, List.all_nil, List.length_cons, List.length_nil, Bool.or_false, Bool.not_false, Bool.true_or, mpush, mcat, mat, mcut, mrev, mset, mrep, decide_eq_true_eq, Int.reduceLT, Int.reduceLE, Int.reduceNeg, Int.reduceAdd, Int.reduceSub, Nat.reduceLeDiff, and_self, true_and, and_true, ↓reduceIte, ite_self, decide_true, decide_false, Bool.true_and, Bool.false_and, Bool.and_true, Bool.and_false, Bool.not_true, Bool.false_eq_true, Bool.or_true, Bool.or_self, Bool.and_eq_true, Int.toNat_natCast, Int.natAbs_one, Int.natAbs_zero, Int.natAbs_natCast, Int.add_sub_cancel, Nat.reduceAdd, List.cons_append, List.nil_append, List.length_singleton, Nat.reduceMul])
theorem e_cell (ns : List Int) (k : Int) (h0 : 0 ≤ k) : ∃ c, M__law_cell [.fz (ns.map .int), .sh (.int k)] = .ok (.sh (.int c)) := by
  rw [M__law_cell_eq]
  unfold ms__law_cell
  walk_at "ev"
  by_cases c : k < ns.length
  · obtain ⟨v, _, hv⟩ := atI_in h0 c
    simp only [c, if_true, hv]
    exact ⟨v, rfl⟩
  · simp only [c, if_false]
    exact ⟨0, rfl⟩
theorem e_size (c : Int) : ∃ n : Nat, M__law_size [.sh (.int c)] = .ok (.sh (.int n)) ∧ n ≤ 60 := by
  rw [M__law_size_eq]
  unfold ms__law_size
  walk_at "ev"
  by_cases h : c / 8 % 9 = 4
  · simp only [h, if_true]
    exact ⟨(8 + c / 72 % 53).toNat, by congr 3; omega, by omega⟩
  · simp only [h, if_false]
    walk_at "ev"
    exact ⟨(c % 8).toNat, by congr 3; omega, by omega⟩
theorem ev_values (c n size : Int) (hs : 0 < size) (hs2 : size < 1000000) : ∀ (ks acc : List Int) (rest : Int) (a5 a6 : Option Val), (∀ k ∈ ks, 0 ≤ k ∧ k ≤ 1000) → acc.length + ks.length ≤ 1000 → ∃ (vs : List Int) (rest' : Int) (b5 b6 : Option Val),
    loop (bName 5) lp__law_values_0 (ks.map .int) [I c, I n, I size, OL acc, I rest, a5, a6] = .nx [I c, I n, I size, OL (acc ++ vs), I rest', b5, b6] ∧ vs.length = ks.length ∧ ∀ v ∈ vs, 0 ≤ v ∧ v < size
  | [], acc, rest, a5, a6, _, _ => ⟨[], rest, a5, a6, by rw [List.append_nil]; rfl, rfl, fun _ h => nomatch h⟩
  | k :: ks, acc, rest, a5, a6, hk, hl => by
    rw [List.length_cons] at hl
    have hk0 := hk k List.mem_cons_self
    have m1 : ∀ x : Int, 0 ≤ x % size ∧ x % size < size := fun x => ⟨Int.emod_nonneg x (by omega), Int.emod_lt_of_pos x hs⟩
    have step : ∃ (v rest1 : Int) (b6 : Option Val), lp__law_values_0 [I c, I n, I size, OL acc, I rest, I k, a6] = .nx [I c, I n, I size, OL (acc ++ [v]), I rest1, I k, b6] ∧ 0 ≤ v ∧ v < size := by
      unfold lp__law_values_0
      walk_at "ev"
      have ha : acc.length < 100000 := by omega
      have e10 : (10 : Int) ^ (12 : Int).toNat = 1000000000000 := by decide
      have p10 : (0 : Int) ≤ 12 ∧ (12 : Int) ≤ 1000000 ∧ (10 : Int).natAbs < 2 ^ 64 := by decide
      simp only [p10, and_self, if_true, e10]
      by_cases hr : 1000000000000 ≤ rest
      · have d2 : size < 1073741824 := by omega
        walk_at "eva"
        exact ⟨_, _, _, rfl, m1 _⟩
      · simp only [hr, if_false]
        have q1 : (-(2 ^ 64) < c % 2147483647 ∧ c % 2147483647 < 2 ^ 64) ∨ (-(2 ^ 64) < (48271 : Int) ∧ (48271 : Int) < 2 ^ 64) := .inr (by decide)
        have q2 : (-(2 ^ 64) < k ∧ k < 2 ^ 64) ∨ (-(2 ^ 64) < (69621 : Int) ∧ (69621 : Int) < 2 ^ 64) := .inr (by decide)
        simp only [q1, q2, if_true]
        walk_at "ev"
        generalize (c % 2147483647 * 48271 + k * 69621 + 7) % 2147483647 = mixed
        have q3 : (-(2 ^ 64) < mixed ∧ mixed < 2 ^ 64) ∨ (-(2 ^ 64) < (16807 : Int) ∧ (16807 : Int) < 2 ^ 64) := .inr (by decide)
        simp only [q3, if_true]
        walk_at "ev"
        simp only [hs, ha, if_true]
        walk_at "ev"
        exact ⟨_, _, _, rfl, m1 _⟩
    obtain ⟨v, rest1, b6, e1, hv⟩ := step
    obtain ⟨vs, rest', c5, c6, e2, hl2, hv2⟩ := ev_values c n size hs hs2 ks (acc ++ [v]) rest1 (I k) b6 (fun x hx => hk x (List.mem_cons_of_mem _ hx)) (by rw [List.length_append, List.length_singleton]; omega)
    refine ⟨v :: vs, rest', c5, c6, ?_, congrArg (· + 1) hl2, fun x hx => ?_⟩
    · rw [List.map_cons, loop_cons (ρ1 := [I c, I n, I size, OL acc, I rest, I k, a6]) rfl e1, e2, List.append_assoc]
      rfl
    · rcases List.mem_cons.mp hx with rfl | hx
      · exact hv
      · exact hv2 x hx
theorem e_values (c size : Int) (n : Nat) (hn : n ≤ 1000) (hs : 0 < size) (hs2 : size < 1000000) : ∃ vs : List Int, M__law_values [.sh (.int c), .sh (.int n), .sh (.int size)] = .ok (.ow (vs.map .int)) ∧ vs.length = n ∧ ∀ v ∈ vs, 0 ≤ v ∧ v < size := by
  obtain ⟨vs, rest, b5, b6, e, hl, hv⟩ := ev_values c n size hs hs2 (upto 0 n) [] c none none (fun k hk => by have := upto_mem.mp hk; omega) (by rw [upto_len]; simpa using hn)
  rw [upto_len] at hl
  refine ⟨vs, ?_, hl, hv⟩
  rw [M__law_values_eq]
  unfold ms__law_values
  walk_at "ev"
  have h1 : n ≤ 1000000 := by omega
  simp only [h1, if_true]
  rw [show [some (Val.sh (PyData.int c)), some (Val.sh (PyData.int n)), some (Val.sh (PyData.int size)), some (Val.ow []), some (Val.sh (PyData.int c)), none, none] = [I c, I n, I size, OL [], I c, none, none] from rfl, e]
  rfl
theorem pick_perm : ∀ {left : List Int} {j : Nat} {x : Int}, left[j]? = some x → (x :: (left.take j ++ left.drop (j + 1))).Perm left
  | [], j, x, h => by simp at h
  | y :: left, 0, x, h => by
    simp at h
    subst h
    exact .refl _
  | y :: left, j + 1, x, h => by
    have h : left[j]? = some x := by simpa using h
    have ih := pick_perm h
    show (x :: (y :: (left.take j ++ left.drop (j + 1)))).Perm (y :: left)
    exact (List.Perm.swap y x _).trans (ih.cons y)
theorem ev_row (c : Int) (n : Nat) (hn : n ≤ 60) (vs : List Int) (hv : vs.length = n) (hv0 : ∀ v ∈ vs, 0 ≤ v) : ∀ (m k : Nat) (left row : List Int) (a5 a6 : Option Val), k + m = n → left.length = m → (row ++ left).Perm (upto 1 n) →
    ∃ (left' row' : List Int) (b5 b6 : Option Val), loop (bName 5) lp__law_row_0 ((upto k m).map .int) [I c, I n, OL vs, OL left, OL row, a5, a6] = .nx [I c, I n, OL vs, OL left', OL row', b5, b6] ∧ row'.Perm (upto 1 n)
  | 0, k, left, row, a5, a6, hk, hl, hp => by
    have e : left = [] := List.length_eq_zero_iff.mp hl
    subst e
    rw [List.append_nil] at hp
    exact ⟨[], row, a5, a6, rfl, hp⟩
  | m + 1, k, left, row, a5, a6, hk, hl, hp => by
    obtain ⟨v, hg, hat⟩ := atI_in (a := vs) (i := (k : Int)) (by omega) (by omega)
    have hv1 : 0 ≤ v := hv0 v (List.mem_of_getElem? hg)
    have hpos : (0 : Int) < left.length := by omega
    have b1 := Int.emod_nonneg v (Int.ne_of_gt hpos)
    have b2 := Int.emod_lt_of_pos v hpos
    obtain ⟨x, hx, hax⟩ := atI_in (a := left) b1 b2
    have c1 := cutL (a := left) b1 (by omega)
    have c2 := cutR (a := left) (i := v % (left.length : Int) + 1) (by omega) (by omega)
    have lr : row.length + left.length = n := by
      have z := hp.length_eq
      rw [List.length_append, upto_len] at z
      exact z
    have h5 : row.length < 100000 := by omega
    have h6 : (left.take (v % (left.length : Int)).toNat).length + (left.drop (v % (left.length : Int) + 1).toNat).length ≤ 100000 := by
      rw [List.length_take, List.length_drop]
      omega
    have step : lp__law_row_0 [I c, I n, OL vs, OL left, OL row, I k, a6] = .nx [I c, I n, OL vs, OL (left.take (v % (left.length : Int)).toNat ++ left.drop (v % (left.length : Int) + 1).toNat), OL (row ++ [x]), I k, I (v % (left.length : Int))] := by
      unfold lp__law_row_0
      walk_at "ev"
      simp only [hat]
      walk_at "ev"
      simp only [hpos, if_true]
      walk_at "ev"
      simp only [hax, h5, if_true]
      walk_at "ev"
      (try simp only [c1, c2, h6, if_true])
      walk_at "ev"
      (try simp only [c1, c2, h6, if_true])
    have e1 : (v % (left.length : Int) + 1).toNat = (v % (left.length : Int)).toNat + 1 := by omega
    rw [e1] at step
    obtain ⟨l', r', b5, b6, e2, hp2⟩ := ev_row c n hn vs hv hv0 m (k + 1) (left.take (v % (left.length : Int)).toNat ++ left.drop ((v % (left.length : Int)).toNat + 1)) (row ++ [x]) (I k) (I (v % (left.length : Int))) (by omega)
      (by rw [List.length_append, List.length_take, List.length_drop]; omega)
      ((by rw [List.append_assoc]; exact (pick_perm hx).append_left row : (row ++ [x] ++ (left.take (v % (left.length : Int)).toNat ++ left.drop ((v % (left.length : Int)).toNat + 1))).Perm (row ++ left)).trans hp)
    refine ⟨l', r', b5, b6, ?_, hp2⟩
    rw [upto_succ, List.map_cons, loop_cons (ρ1 := [I c, I n, OL vs, OL left, OL row, I k, a6]) rfl step]
    exact e2
theorem e_row (c : Int) (n : Nat) (hn : n ≤ 60) : ∃ row : List Int, M__law_row [.sh (.int c), .sh (.int n)] = .ok (.ow (row.map .int)) ∧ row.Perm (upto 1 n) := by
  obtain ⟨vs, ev, hl, hv⟩ := e_values c 61 n (by omega) (by decide) (by decide)
  obtain ⟨l', r', b5, b6, e2, hp⟩ := ev_row c n hn vs hl (fun v hv' => (hv v hv').1) n 0 (upto 1 n) [] none none (by omega) (upto_len _ _) (.refl _)
  refine ⟨r', ?_, hp⟩
  rw [M__law_row_eq]
  unfold ms__law_row
  walk_at "ev"
  simp only [ev]
  walk_at "ev"
  have h1 : ((n : Int) + 1).natAbs ≤ 1000000 := by omega
  have h2 : n ≤ 1000000 := by omega
  have h3 : ((n : Int) + 1 - 1).toNat = n := by omega
  simp only [h1, h2, h3, if_true]
  walk_at "ev"
  have e3 : loop (bName 5) lp__law_row_0 (List.map PyData.int (upto 0 n)) [I c, I n, OL vs, OL (upto 1 n), some (.ow []), none, none] = .nx [I c, I n, OL vs, OL l', OL r', b5, b6] := e2
  simp only [h2, if_true, e3]
  walk_at "ev"
def isRow (ns : List Int) : Bool := decide ((ns.length : Int) ≤ 60) && decide (isort ns = upto 1 ns.length)
theorem e_is_row (ns : List Int) (h : ns.length ≤ 1000) : M_is_row [.sh (iL ns)] = .ok (.sh (.bool (isRow ns))) := by
  rw [M_is_row_eq]
  unfold ms_is_row
  walk_at "ev"
  have h1 : ((ns.length : Int) + 1).natAbs ≤ 1000000 := by omega
  have h2 : ((ns.length : Int) + 1 - 1).toNat = ns.length := by omega
  simp only [h1, h2, if_true]
  unfold isRow
  by_cases c : (ns.length : Int) ≤ 60
  · simp only [c, if_true, decide_true, Bool.true_and]
    walk_at "ev"
  · simp only [c, if_false, decide_false, Bool.false_and]
    walk_at "ev"
theorem isRow_of_perm {ns : List Int} {n : Nat} (hn : n ≤ 60) (h : ns.Perm (upto 1 n)) : isRow ns = true := by
  have hl : ns.length = n := by rw [h.length_eq, upto_len]
  unfold isRow
  rw [isort_of_perm h (upto_sorted n 1), hl, decide_eq_true (by omega), decide_eq_true rfl]
  rfl
theorem perm_of_isRow {ns : List Int} (h : isRow ns = true) : ns.length ≤ 60 ∧ ns.Perm (upto 1 ns.length) := by
  unfold isRow at h
  rw [Bool.and_eq_true] at h
  have h1 := of_decide_eq_true h.1
  have h2 := of_decide_eq_true h.2
  exact ⟨by omega, h2 ▸ (isort_perm ns).symm⟩
theorem e_check_row (ns : List Int) (h : isRow ns = true) : M_check_row [.sh (iL ns)] = .ok (.sh .none) := by
  have e := e_is_row ns (by have := (perm_of_isRow h).1; omega)
  rw [M_check_row_eq]
  unfold ms_check_row
  walk_at "ev"
  simp only [e, h]
  walk_at "ev"
theorem e_check_no (ns : List Int) (hl : ns.length ≤ 1000) (h : isRow ns = false) : M_check_row [.sh (iL ns)] = .ex "NotRow" [] := by
  have e := e_is_row ns hl
  rw [M_check_row_eq]
  unfold ms_check_row
  walk_at "ev"
  simp only [e, h]
  walk_at "ev"
/-- place k + 1 put at each wagon -/
def putAll : Nat → List Int → List Int → List Int
  | _, [], x => x
  | k, w :: ws, x => putAll (k + 1) ws (x.set (w - 1).toNat ((k : Int) + 1))
def invL (row : List Int) : List Int := putAll 0 row (List.replicate row.length 0)
theorem putAll_len : ∀ (k : Nat) (ws x : List Int), (putAll k ws x).length = x.length
  | _, [], _ => rfl
  | k, w :: ws, x => by
    show (putAll (k + 1) ws _).length = _
    rw [putAll_len, List.length_set]
theorem putAll_other : ∀ (k : Nat) (ws x : List Int) (j : Nat), (∀ u ∈ ws, (u - 1).toNat ≠ j) → (putAll k ws x)[j]? = x[j]?
  | _, [], _, _, _ => rfl
  | k, w :: ws, x, j, h => by
    show (putAll (k + 1) ws _)[j]? = _
    rw [putAll_other (k + 1) ws _ j fun u hu => h u (List.mem_cons_of_mem _ hu), List.getElem?_set_ne (h w List.mem_cons_self)]
theorem putAll_at : ∀ (k : Nat) (ws x : List Int) (p : Nat) (v : Int), ws.Nodup → (∀ u ∈ ws, 1 ≤ u ∧ u ≤ x.length) → ws[p]? = some v → (putAll k ws x)[(v - 1).toNat]? = some (((k + p : Nat) : Int) + 1)
  | _, [], _, _, _, _, _, h => by simp at h
  | k, w :: ws, x, p, v, nd, hb, h => by
    have nd' := List.nodup_cons.mp nd
    have hw := hb w List.mem_cons_self
    show (putAll (k + 1) ws _)[_]? = _
    cases p with
    | zero =>
      have e : w = v := by simpa using h
      subst e
      rw [putAll_other]
      · rw [List.getElem?_set_self (by omega)]
        rfl
      · intro u hu z
        have hu' := hb u (List.mem_cons_of_mem _ hu)
        have : u = w := by omega
        exact nd'.1 (this ▸ hu)
    | succ p =>
      have h : ws[p]? = some v := by simpa using h
      have ih := putAll_at (k + 1) ws (x.set (w - 1).toNat ((k : Int) + 1)) p v nd'.2 (fun u hu => by rw [List.length_set]; exact hb u (List.mem_cons_of_mem _ hu)) h
      rw [ih]
      congr 2
      omega
/-- x has at each wagon's number its place, counted from 1 -/
def Inv (row x : List Int) : Prop := ∀ (p : Nat) (v : Int), row[p]? = some v → x[(v - 1).toNat]? = some ((p : Int) + 1)
section
variable {row x y : List Int} {n : Nat}
theorem row_mem (h : row.Perm (upto 1 n)) {v : Int} (hv : v ∈ row) : 1 ≤ v ∧ v ≤ n := by
  have := upto_mem.mp (h.mem_iff.mp hv)
  omega
theorem row_len (h : row.Perm (upto 1 n)) : row.length = n := by rw [h.length_eq, upto_len]
theorem row_has (h : row.Perm (upto 1 n)) {i : Nat} (hi : i < n) : ∃ p : Nat, p < n ∧ row[p]? = some ((i : Int) + 1) := by
  have m : ((i : Int) + 1) ∈ row := h.mem_iff.mpr (upto_mem.mpr (by omega))
  obtain ⟨p, hp⟩ := List.mem_iff_getElem?.mp m
  exact ⟨p, by rw [← row_len h]; exact (List.getElem?_eq_some_iff.mp hp).1, hp⟩
theorem row_nodup (h : row.Perm (upto 1 n)) : row.Nodup := h.nodup_iff.mpr (upto_nodup n 1)
theorem inv_inv (h : row.Perm (upto 1 n)) : Inv row (invL row) := fun p v hp => by
  have q := putAll_at 0 row (List.replicate row.length 0) p v (row_nodup h) (fun u hu => by rw [List.length_replicate, row_len h]; exact row_mem h hu) hp
  rw [Nat.zero_add] at q
  exact q
theorem inv_len (row : List Int) : (invL row).length = row.length := by
  unfold invL
  rw [putAll_len, List.length_replicate]
theorem inv_uniq (h : row.Perm (upto 1 n)) (hx : x.length = n) (hy : y.length = n) (a : Inv row x) (b : Inv row y) : x = y := by
  refine List.ext_getElem? fun i => ?_
  by_cases hi : i < n
  · obtain ⟨p, _, hp⟩ := row_has h hi
    have e1 := a p _ hp
    have e2 := b p _ hp
    have z : ((i : Int) + 1 - 1).toNat = i := by omega
    rw [z] at e1 e2
    rw [e1, e2]
  · rw [List.getElem?_eq_none (by omega), List.getElem?_eq_none (by omega)]
theorem inv_perm (h : row.Perm (upto 1 n)) (hx : x.length = n) (a : Inv row x) : x.Perm (upto 1 n) := by
  have e1 : (upto 1 n).map (fun v => (x[(v - 1).toNat]?).getD 0) = x := by
    refine List.ext_getElem? fun i => ?_
    rw [List.getElem?_map]
    by_cases hi : i < n
    · rw [upto_get hi]
      show some ((x[((1 : Int) + i - 1).toNat]?).getD 0) = _
      have z : ((1 : Int) + i - 1).toNat = i := by omega
      rw [z, List.getElem?_eq_getElem (by omega)]
      rfl
    · rw [List.getElem?_eq_none (by rw [upto_len]; omega), List.getElem?_eq_none (by omega)]
      rfl
  have e2 : row.map (fun v => (x[(v - 1).toNat]?).getD 0) = upto 1 n := by
    refine List.ext_getElem? fun i => ?_
    rw [List.getElem?_map]
    by_cases hi : i < n
    · rw [upto_get hi]
      have hl : i < row.length := by rw [row_len h]; exact hi
      rw [List.getElem?_eq_getElem hl]
      show some ((x[(row[i] - 1).toNat]?).getD 0) = _
      rw [a i row[i] (List.getElem?_eq_getElem hl)]
      show some ((i : Int) + 1) = some (1 + (i : Int))
      rw [Int.add_comm]
    · rw [List.getElem?_eq_none (by rw [row_len h]; omega), List.getElem?_eq_none (by rw [upto_len]; omega)]
      rfl
  have p := h.map (fun v => (x[(v - 1).toNat]?).getD 0)
  rw [e1, e2] at p
  exact p.symm
theorem inv_symm (h : row.Perm (upto 1 n)) (hx : x.length = n) (a : Inv row x) : Inv x row := fun p v hp => by
  have hlt : p < n := by rw [← hx]; exact (List.getElem?_eq_some_iff.mp hp).1
  obtain ⟨q, _, hq⟩ := row_has h hlt
  have e := a q _ hq
  have z : ((p : Int) + 1 - 1).toNat = p := by omega
  rw [z, hp] at e
  cases e
  have z2 : ((q : Int) + 1 - 1).toNat = q := by omega
  rw [z2]
  exact hq
theorem rev_perm (h : row.Perm (upto 1 n)) : row.reverse.Perm (upto 1 n) := (List.reverse_perm row).trans h
/-- numbers in the opposite order -/
def compl (row : List Int) : List Int := row.map fun w => (row.length : Int) + 1 - w
theorem compl_len (row : List Int) : (compl row).length = row.length := List.length_map _
theorem upto_compl (n : Nat) : (upto 1 n).map (fun w => (n : Int) + 1 - w) = (upto 1 n).reverse := by
  refine List.ext_getElem? fun i => ?_
  rw [List.getElem?_map]
  by_cases hi : i < n
  · rw [upto_get hi, List.getElem?_reverse (by rw [upto_len]; exact hi), upto_len, upto_get (by omega)]
    show some ((n : Int) + 1 - (1 + i)) = some (1 + ((n - 1 - i : Nat) : Int))
    congr 1
    omega
  · rw [List.getElem?_eq_none (by rw [upto_len]; omega), List.getElem?_eq_none (by rw [List.length_reverse, upto_len]; omega)]
    rfl
theorem compl_perm (h : row.Perm (upto 1 n)) : (compl row).Perm (upto 1 n) := by
  unfold compl
  rw [row_len h]
  have p := h.map (fun w => (n : Int) + 1 - w)
  rw [upto_compl] at p
  exact p.trans (List.reverse_perm _)
theorem compl_get {p : Nat} {v : Int} (h : row[p]? = some v) : (compl row)[p]? = some ((row.length : Int) + 1 - v) := by
  unfold compl
  rw [List.getElem?_map, h]
  rfl
theorem compl_compl (row : List Int) : compl (compl row) = row := by
  refine List.ext_getElem? fun i => ?_
  by_cases hi : i < row.length
  · have e := compl_get (compl_get (List.getElem?_eq_getElem hi))
    rw [e, List.getElem?_eq_getElem hi, compl_len]
    congr 1
    omega
  · rw [List.getElem?_eq_none (by rw [compl_len, compl_len]; omega), List.getElem?_eq_none (by omega)]
theorem compl_rev (row : List Int) : (compl row).reverse = compl row.reverse := by
  unfold compl
  rw [List.map_reverse, List.length_reverse]
theorem inv_rev (h : row.Perm (upto 1 n)) (hx : x.length = n) (a : Inv row x) : Inv row.reverse (compl x) := fun p v hp => by
  have hl := row_len h
  have hp1 : p < row.length := by
    have := (List.getElem?_eq_some_iff.mp hp).1
    rw [List.length_reverse] at this
    exact this
  rw [List.getElem?_reverse hp1] at hp
  have e := compl_get (a _ v hp)
  rw [e, hx]
  congr 1
  omega
end
theorem perm_of_sub : ∀ {l m : List Int}, l.Nodup → (∀ v ∈ l, v ∈ m) → m.length ≤ l.length → m.Perm l
  | [], m, _, _, h => by
    rw [List.length_eq_zero_iff.mp (Nat.le_zero.mp h)]
  | a :: l, m, nd, hs, h => by
    have nd' := List.nodup_cons.mp nd
    have ha := hs a List.mem_cons_self
    have p := List.perm_cons_erase ha
    have hl := p.length_eq
    rw [List.length_cons] at hl h
    have ih := perm_of_sub (m := m.erase a) nd'.2 (fun v hv => (List.mem_erase_of_ne (fun e : v = a => nd'.1 (by rw [← e]; exact hv))).mpr (hs v (List.mem_cons_of_mem _ hv))) (by omega)
    exact p.trans (ih.cons a)
theorem isRow_iff {ns : List Int} : isRow ns = true ↔ (ns.length : Int) ≤ 60 ∧ ∀ v ∈ upto 1 ns.length, v ∈ ns := by
  constructor
  · intro h
    obtain ⟨h1, h2⟩ := perm_of_isRow h
    exact ⟨by omega, fun v hv => h2.mem_iff.mpr hv⟩
  · rintro ⟨h1, h2⟩
    exact isRow_of_perm (by omega) (perm_of_sub (upto_nodup _ _) h2 (by rw [upto_len]; exact Nat.le_refl _))
theorem ev_isrow (ns : List Int) : ∀ (m k : Nat) (b1 : Option Val), (∃ c1, (∀ v ∈ upto ((k : Int) + 1) m, v ∈ ns) ∧ loop (bName 1) lp__law_is_row_0 ((upto ((k : Int) + 1) m).map .int) [SL ns, b1] = .nx [SL ns, c1]) ∨ ((¬ ∀ v ∈ upto ((k : Int) + 1) m, v ∈ ns) ∧ loop (bName 1) lp__law_is_row_0 ((upto ((k : Int) + 1) m).map .int) [SL ns, b1] = .rt (.sh (.bool false)))
  | 0, k, b1 => .inl ⟨b1, fun v hv => by have := upto_mem.mp hv; omega, rfl⟩
  | m + 1, k, b1 => by
    have e0 : (((k + 1 : Nat) : Int)) = (k : Int) + 1 := rfl
    rw [upto_succ, List.map_cons]
    by_cases c : (k : Int) + 1 ∈ ns
    · have step : lp__law_is_row_0 [SL ns, I ((k : Int) + 1)] = .nx [SL ns, I ((k : Int) + 1)] := by
        unfold lp__law_is_row_0
        walk_at "ev"
        simp only [oIn, seqOf, lit, all_flat, inD_iL, c, flatD, decide_true]
        walk_at "ev"
      rw [loop_cons (ρ1 := [SL ns, I ((k : Int) + 1)]) rfl step]
      have ih := ev_isrow ns m (k + 1) (I ((k : Int) + 1))
      rw [e0] at ih
      rcases ih with ⟨c1, h1, h2⟩ | ⟨h1, h2⟩
      · refine .inl ⟨c1, fun v hv => ?_, h2⟩
        rcases List.mem_cons.mp hv with rfl | hv
        · exact c
        · exact h1 v hv
      · exact .inr ⟨fun h => h1 fun v hv => h v (List.mem_cons_of_mem _ hv), h2⟩
    · have step : lp__law_is_row_0 [SL ns, I ((k : Int) + 1)] = .rt (.sh (.bool false)) := by
        unfold lp__law_is_row_0
        walk_at "ev"
        simp only [oIn, seqOf, lit, all_flat, inD_iL, c, flatD, decide_false]
        walk_at "ev"
      refine .inr ⟨fun h => c (h _ List.mem_cons_self), ?_⟩
      show (match lp__law_is_row_0 [SL ns, I ((k : Int) + 1)] with
        | .nx ρ' => loop (bName 1) lp__law_is_row_0 ((upto ((k : Int) + 1 + 1) m).map .int) ρ'
        | .ct ρ' => loop (bName 1) lp__law_is_row_0 ((upto ((k : Int) + 1 + 1) m).map .int) ρ'
        | .bk ρ' => .nx ρ'
        | o => o) = _
      rw [step]
theorem e_law_is_row (ns : List Int) (h : ns.length ≤ 1000) : M__law_is_row [.sh (iL ns)] = .ok (.sh (.bool (isRow ns))) := by
  rw [M__law_is_row_eq]
  unfold ms__law_is_row
  walk_at "ev"
  by_cases z : (60 : Int) < ns.length
  · have e : isRow ns = false := by
      cases e : isRow ns with
      | false => rfl
      | true => have := (isRow_iff.mp e).1; omega
    simp only [z, if_true, e]
    walk_at "ev"
  · simp only [z, if_false]
    walk_at "ev"
    have h1 : ((ns.length : Int) + 1).natAbs ≤ 1000000 := by omega
    have h2 : ((ns.length : Int) + 1 - 1).toNat = ns.length := by omega
    simp only [h1, h2, if_true]
    walk_at "ev"
    rcases ev_isrow ns ns.length 0 none with ⟨c1, h3, h4⟩ | ⟨h3, h4⟩
    · have h4 : loop (bName 1) lp__law_is_row_0 ((upto 1 ns.length).map .int) [SL ns, none] = .nx [SL ns, c1] := h4
      have e : isRow ns = true := isRow_iff.mpr ⟨by omega, h3⟩
      simp only [h4, e]
      walk_at "ev"
    · have h4 : loop (bName 1) lp__law_is_row_0 ((upto 1 ns.length).map .int) [SL ns, none] = .rt (.sh (.bool false)) := h4
      have e : isRow ns = false := by
        cases e : isRow ns with
        | false => rfl
        | true => exact (h3 (isRow_iff.mp e).2).elim
      simp only [h4, e]
      walk_at "ev"
theorem comp_mapD {bp : BP} {mt : Rho → Res Bool} {me : Rho → Res Val} {ρ : Rho} {g : Int → D} : ∀ {ns : List Int} {acc : List D}, (∀ v ∈ ns, ∃ ρ1 r, bp (.int v) ρ = some ρ1 ∧ mt ρ1 = .ok true ∧ me ρ1 = .ok r ∧ esc r = some (g v)) → acc.length + ns.length ≤ 100000 →
    comp bp mt me ρ (ns.map .int) acc = .ok (acc ++ ns.map g)
  | [], acc, _, _ => by
    rw [List.map_nil, List.map_nil, List.append_nil]
    rfl
  | v :: ns, acc, h, hl => by
    rw [List.length_cons] at hl
    obtain ⟨ρ1, r, h1, h2, h3, h4⟩ := h v List.mem_cons_self
    have ih := comp_mapD (ns := ns) (acc := acc ++ [g v]) (fun u hu => h u (List.mem_cons_of_mem _ hu)) (by rw [List.length_append, List.length_singleton]; omega)
    have ha : acc.length < 100000 := by omega
    rw [List.map_cons]
    simp only [comp, h1, h2, h3, h4, if_true, ha]
    rw [ih, List.append_assoc]
    rfl
def tS (i : Int) : Str := (toString i : String)
theorem tS_small : ∀ w ∈ upto 1 60, tS w = (if 9 < w then ⟨#[(48 + w / 10).toNat, (48 + w % 10).toNat]⟩ else ⟨#[(48 + w % 10).toNat]⟩) := by decide +kernel
theorem dig_small : ∀ w ∈ upto 0 10, atI (Str.ofString "0123456789").cps.toList w = some (48 + w).toNat := by decide +kernel
theorem tS_len {w : Int} (h : 1 ≤ w ∧ w ≤ 60) : 1 ≤ (tS w).length ∧ (tS w).length ≤ 2 := by
  rw [tS_small w (upto_mem.mpr (by omega))]
  split
  · exact ⟨by show (1 : Nat) ≤ 2; omega, by show (2 : Nat) ≤ 2; omega⟩
  · exact ⟨by show (1 : Nat) ≤ 1; omega, by show (1 : Nat) ≤ 2; omega⟩
theorem sum_le {f : Int → Nat} : ∀ {ns : List Int}, (∀ v ∈ ns, f v ≤ 2) → (ns.map f).sum ≤ 2 * ns.length
  | [], _ => Nat.le_refl _
  | v :: ns, h => by
    have h1 := h v List.mem_cons_self
    have ih := sum_le (ns := ns) fun u hu => h u (List.mem_cons_of_mem _ hu)
    rw [List.map_cons, List.sum_cons, List.length_cons]
    omega
theorem strsOf_map : ∀ ys : List Str, strsOf (ys.map PyData.str) = some ys
  | [] => rfl
  | y :: ys => by
    rw [List.map_cons]
    unfold strsOf
    rw [strsOf_map ys]
def textL (ns : List Int) : Str := Txt.join " " (ns.map tS)
theorem e_row_text {ns : List Int} (h : isRow ns = true) : M_row_text [.sh (iL ns)] = .ok (.sh (.str (textL ns))) := by
  obtain ⟨hl, hp⟩ := perm_of_isRow h
  have e := e_check_row ns h
  have hb : ∀ v ∈ ns, (1 : Int) ≤ v ∧ v ≤ 60 := fun v hv => by have := row_mem hp hv; omega
  rw [M_row_text_eq]
  unfold ms_row_text
  walk_at "ev"
  simp only [e]
  walk_at "ev"
  simp only [mM1]
  walk_at "ev"
  rw [comp_mapD (g := fun w => .str (tS w))]
  · walk_at "ev"
    have s0 := sum_le (f := fun w => (tS w).length) fun v hv => (tS_len (hb v hv)).2
    have ej : oJoin (.sh (.str " ")) (.ow (ns.map fun w => .str (tS w))) = some (.sh (.str (textL ns))) := by
      have em : (ns.map fun w => PyData.str (tS w)) = (ns.map tS).map PyData.str := by
        rw [List.map_map]
        rfl
      have ez : ((ns.map tS).map (·.length)).sum + (ns.map tS).length * (Str.ofString " ").length ≤ 100000 := by
        rw [List.map_map, List.length_map]
        have one : (Str.ofString " ").length = 1 := by decide +kernel
        rw [one]
        have s0 : (ns.map ((fun x : Str => x.length) ∘ tS)).sum ≤ 2 * ns.length := s0
        omega
      rw [em]
      simp only [oJoin, lit, strsOf_map, ez, if_true]
      rfl
    simp only [ej]
    walk_at "ev"
  · intro v hv
    have hv' := hb v hv
    have hz : v.natAbs < 1000000 := by omega
    refine ⟨_, .sh (.str (tS v)), rfl, rfl, ?_, rfl⟩
    walk_at "ev"
    simp only [cStrI, hz, if_true]
    rfl
  · show 0 + _ ≤ _
    omega
theorem e_row_text_no {ns : List Int} (hl : ns.length ≤ 1000) (h : isRow ns = false) : M_row_text [.sh (iL ns)] = .ex "NotRow" [] := by
  have e := e_check_no ns hl h
  rw [M_row_text_eq]
  unfold ms_row_text
  walk_at "ev"
  simp only [e]
  walk_at "ev"
/-- a wagon's text put behind -/
def addW (t : Str) (w : Int) : Str := (if t = "" then t else t ++ " ") ++ tS w
theorem seq_nx {a b : Rho → Out} {ρ ρ' : Rho} (h : a ρ = .nx ρ') : mSeq a b ρ = b ρ' := by
  show (match a ρ with | .nx ρ' => b ρ' | o => o) = _
  rw [h]
theorem one_len (n : Nat) : (⟨#[n]⟩ : Str).length = 1 := rfl
theorem app_len (a b : Str) : (a ++ b).length = a.length + b.length := Array.size_append
theorem sp_len : (Str.ofString " ").length = 1 := by decide +kernel
theorem addW_len {t : Str} {w : Int} (h : 1 ≤ w ∧ w ≤ 60) : (addW t w).length ≤ t.length + 3 ∧ 1 ≤ (addW t w).length := by
  have := tS_len h
  unfold addW
  split
  · rw [app_len]
    omega
  · rw [app_len, app_len, sp_len]
    omega
theorem pair_str (a b : Nat) (t : Str) : t ++ (⟨#[a]⟩ : Str) ++ (⟨#[b]⟩ : Str) = t ++ (⟨#[a, b]⟩ : Str) := by
  rw [Str.append_assoc]
  rfl
theorem ev_lawtext (s : Option Val) : ∀ (ns : List Int) (t : Str) (b2 : Option Val), (∀ v ∈ ns, 1 ≤ v ∧ v ≤ 60) → t.length + 3 * ns.length ≤ 1000 → ∃ c2, loop (bName 2) lp__law_text_0 (ns.map .int) [s, some (.sh (.str t)), b2] = .nx [s, some (.sh (.str (ns.foldl addW t))), c2]
  | [], t, b2, _, _ => ⟨b2, rfl⟩
  | w :: ns, t, b2, h, hl => by
    have hw := h w List.mem_cons_self
    rw [List.length_cons] at hl
    have hal := addW_len (t := t) hw
    have d1 := dig_small (w % 10) (upto_mem.mpr (by omega))
    have d2 := dig_small (w / 10) (upto_mem.mpr (by omega))
    have ts := tS_small w (upto_mem.mpr (by omega))
    have dl : (Str.ofString "0123456789").length ≤ 100000 := by decide +kernel
    obtain ⟨t1, ht1⟩ : ∃ t1 : Str, t1 = if t = "" then t else t ++ " " := ⟨_, rfl⟩
    have l1 : t1.length ≤ t.length + 1 := by
      rw [ht1]
      split
      · omega
      · rw [app_len, sp_len]
        exact Nat.le_refl _
    obtain ⟨t2, ht2⟩ : ∃ t2 : Str, t2 = if 9 < w then t1 ++ (⟨#[(48 + w / 10).toNat]⟩ : Str) else t1 := ⟨_, rfl⟩
    have l2 : t2.length ≤ t1.length + 1 := by
      rw [ht2]
      split
      · rw [app_len, one_len]
        exact Nat.le_refl _
      · omega
    have fin3 : t2 ++ (⟨#[(48 + w % 10).toNat]⟩ : Str) = addW t w := by
      unfold addW
      rw [← ht1, ts, ht2]
      split
      · exact pair_str _ _ _
      · rfl
    have step : lp__law_text_0 [s, some (.sh (.str t)), I w] = .nx [s, some (.sh (.str (addW t w))), I w] := by
      unfold lp__law_text_0
      rw [seq_nx (ρ' := [s, some (.sh (.str t1)), I w]), seq_nx (ρ' := [s, some (.sh (.str t2)), I w])]
      · have z3 : t2.length + (⟨#[(48 + w % 10).toNat]⟩ : Str).length ≤ 100000 := by rw [one_len]; omega
        walk_at "ev"
        simp only [dl, d1, if_true]
        walk_at "ev"
        simp only [z3, if_true, fin3]
      · have z2 : t1.length + (⟨#[(48 + w / 10).toNat]⟩ : Str).length ≤ 100000 := by rw [one_len]; omega
        rw [ht2]
        by_cases c9 : 9 < w
        · walk_at "ev"
          simp only [c9, if_true]
          walk_at "ev"
          simp only [dl, d2, if_true]
          walk_at "ev"
          simp only [z2, if_true]
        · walk_at "ev"
          simp only [c9, if_false]
          (try walk_at "ev")
      · have z1 : t.length + (Str.ofString " ").length ≤ 100000 := by rw [sp_len]; omega
        rw [ht1]
        by_cases c : t = ""
        · walk_at "ev"
          simp only [c, decide_true]
          walk_at "ev"
        · walk_at "ev"
          simp only [c, decide_false]
          walk_at "ev"
          simp only [z1, if_true]
          (try walk_at "ev")
    obtain ⟨c2, el⟩ := ev_lawtext s ns (addW t w) (I w) (fun u hu => h u (List.mem_cons_of_mem _ hu)) (by omega)
    refine ⟨c2, ?_⟩
    rw [List.map_cons, loop_cons (ρ1 := [s, some (.sh (.str t)), I w]) rfl step]
    exact el
theorem foldl_text : ∀ (ns : List Int) (t : Str), (∀ v ∈ ns, 1 ≤ v ∧ v ≤ 60) → 1 ≤ t.length → ns.foldl addW t = ⟨(ns.map tS).foldl (fun acc p => acc ++ (Str.ofString " ").cps ++ p.cps) t.cps⟩
  | [], t, _, _ => rfl
  | w :: ns, t, h, ht => by
    have hw := h w List.mem_cons_self
    have ne : t ≠ "" := fun e => by
      rw [e] at ht
      have z : (Str.ofString "").length = 0 := by decide +kernel
      omega
    have e1 : addW t w = ⟨t.cps ++ (Str.ofString " ").cps ++ (tS w).cps⟩ := by
      unfold addW
      rw [if_neg ne]
      rfl
    rw [List.foldl_cons, List.map_cons, List.foldl_cons, foldl_text ns (addW t w) (fun u hu => h u (List.mem_cons_of_mem _ hu)) (addW_len hw).2, e1]
theorem e_law_text {ns : List Int} (h : isRow ns = true) : M__law_text [.sh (iL ns)] = .ok (.sh (.str (textL ns))) := by
  obtain ⟨hl, hp⟩ := perm_of_isRow h
  have hb : ∀ v ∈ ns, (1 : Int) ≤ v ∧ v ≤ 60 := fun v hv => by have := row_mem hp hv; omega
  have z : (Str.ofString "").length = 0 := by decide +kernel
  obtain ⟨c2, el⟩ := ev_lawtext (SL ns) ns "" none hb (by rw [z]; omega)
  have ef : ns.foldl addW "" = textL ns := by
    unfold textL
    cases ns with
    | nil => rfl
    | cons w ns =>
      have e0 : addW "" w = tS w := by
        unfold addW
        rw [if_pos rfl]
        exact Str.empty_append _
      rw [List.foldl_cons, e0, foldl_text ns (tS w) (fun u hu => hb u (List.mem_cons_of_mem _ hu)) (tS_len (hb w List.mem_cons_self)).1]
      rfl
  rw [ef] at el
  rw [M__law_text_eq]
  unfold ms__law_text
  walk_at "ev"
  simp only [el]
  walk_at "ev"
theorem k_nr : dec_NotRow "NotRow" = some true := rfl
theorem k_i1 : isd_NotCode "NotRow" = some false := rfl
theorem k_i2 : isd_YardsortError "NotRow" = some true := rfl
theorem k_i3 : isd_ValueError "NotRow" = some true := rfl
theorem told_text {ns : List Int} (h : isRow ns = true) : M__law_told [.sh (iL ns), .sh (.bool false)] = .ok (.sh (.str (textL ns))) := by
  have e := e_row_text h
  rw [M__law_told_eq]
  unfold ms__law_told
  walk_at "ev"
  simp only [mTryAs]
  walk_at "ev"
  simp only [e]
  walk_at "ev"
theorem told_text_no {ns : List Int} (hl : ns.length ≤ 1000) (h : isRow ns = false) : M__law_told [.sh (iL ns), .sh (.bool false)] = .ok (.sh .none) := by
  have e := e_row_text_no hl h
  rw [M__law_told_eq]
  unfold ms__law_told
  walk_at "ev"
  simp only [mTryAs]
  walk_at "ev"
  simp only [e]
  walk_at "ev"
  simp only [k_nr, mHIf, k_i1, k_i2, k_i3, offX, List.isEmpty_nil, show (2 : Nat) < 3 from by decide]
  walk_at "ev"
theorem isS : kitB "str" "str" = some true := by decide +kernel
theorem isSn : kitB "NoneType" "str" = some false := by decide +kernel
theorem shB (b : Bool) : shows (.bool b) = true := by cases b <;> decide +kernel
theorem ev_one (s r1 r2 r3 r4 r5 b7 b8 b9 r10 r11 r12 r13 r14 : Option Val) (ns : List Int) (hl : ns.length ≤ 1000) : ∃ c7 c8 c9, lp_law_0 [s, r1, r2, r3, r4, r5, SL ns, b7, b8, b9, r10, r11, r12, r13, r14] = .nx [s, r1, r2, r3, r4, r5, SL ns, c7, c8, c9, r10, r11, r12, r13, r14] := by
  have e1 := e_is_row ns hl
  have e2 := e_law_is_row ns hl
  cases hr : isRow ns with
  | true =>
    rw [hr] at e1 e2
    have e3 := told_text hr
    have e4 := e_law_text hr
    refine ⟨OL ns, some (.sh (.bool true)), some (.sh (.str (textL ns))), ?_⟩
    unfold lp_law_0
    rw [seq_nx (ρ' := [s, r1, r2, r3, r4, r5, SL ns, OL ns, b8, b9, r10, r11, r12, r13, r14]) (by walk_at "ev"), seq_nx (ρ' := [s, r1, r2, r3, r4, r5, SL ns, OL ns, some (.sh (.bool true)), b9, r10, r11, r12, r13, r14]), seq_nx (ρ' := [s, r1, r2, r3, r4, r5, SL ns, OL ns, some (.sh (.bool true)), b9, r10, r11, r12, r13, r14]), seq_nx (ρ' := [s, r1, r2, r3, r4, r5, SL ns, OL ns, some (.sh (.bool true)), some (.sh (.str (textL ns))), r10, r11, r12, r13, r14])]
    · walk_at "ev"
      simp only [mIsT, tyB, isS, e4]
      walk_at "ev"
    · walk_at "ev"
      simp only [e3]
      walk_at "ev"
    · walk_at "ev"
      simp only [e1]
      walk_at "ev"
      simp only [cRepr_D (a := .sh (.bool true)) rfl (shB true)]
      walk_at "ev"
    · walk_at "ev"
      simp only [e2]
      walk_at "ev"
  | false =>
    rw [hr] at e1 e2
    have e3 := told_text_no hl hr
    refine ⟨OL ns, some (.sh (.bool false)), some (.sh .none), ?_⟩
    unfold lp_law_0
    rw [seq_nx (ρ' := [s, r1, r2, r3, r4, r5, SL ns, OL ns, b8, b9, r10, r11, r12, r13, r14]) (by walk_at "ev"), seq_nx (ρ' := [s, r1, r2, r3, r4, r5, SL ns, OL ns, some (.sh (.bool false)), b9, r10, r11, r12, r13, r14]), seq_nx (ρ' := [s, r1, r2, r3, r4, r5, SL ns, OL ns, some (.sh (.bool false)), b9, r10, r11, r12, r13, r14]), seq_nx (ρ' := [s, r1, r2, r3, r4, r5, SL ns, OL ns, some (.sh (.bool false)), some (.sh .none), r10, r11, r12, r13, r14])]
    · walk_at "ev"
    · walk_at "ev"
      simp only [e3]
      walk_at "ev"
    · walk_at "ev"
      simp only [e1]
      walk_at "ev"
      simp only [cRepr_D (a := .sh (.bool false)) rfl (shB false)]
      walk_at "ev"
    · walk_at "ev"
      simp only [e2]
      walk_at "ev"
theorem digs : (Str.ofString "0123456789").cps.toList = [48, 49, 50, 51, 52, 53, 54, 55, 56, 57] := by decide +kernel
theorem zero_is : Str.ofString "0" = ⟨#[48]⟩ := by decide +kernel
theorem empty_is : Str.ofString "" = ⟨#[]⟩ := by decide +kernel
theorem int1 : ∀ a ∈ List.range 58, 49 ≤ a → PySem.intText? ⟨#[a]⟩ = some ((a : Int) - 48) := by decide +kernel
theorem int2 : ∀ a ∈ List.range 58, 49 ≤ a → ∀ b ∈ List.range 58, 48 ≤ b → PySem.intText? ⟨#[a, b]⟩ = some (((a : Int) - 48) * 10 + ((b : Int) - 48)) := by decide +kernel
theorem ev_sign (s : Option Val) (c : Nat) : lp__law_wagon_0 [s, some (.sh (.str ⟨#[c]⟩))] = if 48 ≤ c ∧ c ≤ 57 then .nx [s, some (.sh (.str ⟨#[c]⟩))] else .rt (.sh (.int 0)) := by
  have f := PySem.StrLaws.found_one (Str.ofString "0123456789") c
  unfold lp__law_wagon_0
  walk_at "ev"
  simp only [oIn, seqOf, lit, oInS, f, digs, if_true]
  by_cases h : 48 ≤ c ∧ c ≤ 57
  · have m : c ∈ [48, 49, 50, 51, 52, 53, 54, 55, 56, 57] := by
      simp only [List.mem_cons, List.not_mem_nil, or_false]
      omega
    simp only [m, h, decide_true, and_self, if_true]
    walk_at "ev"
  · have m : ¬ c ∈ [48, 49, 50, 51, 52, 53, 54, 55, 56, 57] := by
      simp only [List.mem_cons, List.not_mem_nil, or_false]
      intro m
      exact h (by omega)
    simp only [m, h, decide_false, if_false]
    walk_at "ev"
def wagL : List Nat → Int
  | [a] => if 49 ≤ a ∧ a ≤ 57 then (a : Int) - 48 else 0
  | [a, b] => if (49 ≤ a ∧ a ≤ 57) ∧ 48 ≤ b ∧ b ≤ 57 then ((a : Int) - 48) * 10 + ((b : Int) - 48) else 0
  | _ => 0
theorem atI_nat0 (a : Nat) (l : List Nat) : ∃ v, v = a ∧ atI (a :: l) 0 = some a := by
  refine ⟨a, rfl, ?_⟩
  unfold atI
  have hi : ixN (a :: l).length 0 = some 0 := ixN_in (by omega) (by rw [List.length_cons]; omega)
  rw [hi]
  rfl
theorem len_list (l : List Nat) : (⟨l.toArray⟩ : Str).length = l.length := by
  show l.toArray.size = l.length
  rw [List.size_toArray]
theorem ev_signs (s : Option Val) : ∀ (l : List Nat) (b1 : Option Val), (∃ c1, (∀ c ∈ l, 48 ≤ c ∧ c ≤ 57) ∧ loop (bName 1) lp__law_wagon_0 (l.map fun c => .str ⟨#[c]⟩) [s, b1] = .nx [s, c1]) ∨ ((¬ ∀ c ∈ l, 48 ≤ c ∧ c ≤ 57) ∧ loop (bName 1) lp__law_wagon_0 (l.map fun c => .str ⟨#[c]⟩) [s, b1] = .rt (.sh (.int 0)))
  | [], b1 => .inl ⟨b1, (fun c h => by simp at h), rfl⟩
  | a :: l, b1 => by
    have st := ev_sign s a
    rw [List.map_cons]
    by_cases c : 48 ≤ a ∧ a ≤ 57
    · rw [if_pos c] at st
      rw [loop_cons (ρ1 := [s, some (.sh (.str ⟨#[a]⟩))]) rfl st]
      rcases ev_signs s l (some (.sh (.str ⟨#[a]⟩))) with ⟨c1, h1, h2⟩ | ⟨h1, h2⟩
      · refine .inl ⟨c1, fun v hv => ?_, h2⟩
        rcases List.mem_cons.mp hv with rfl | hv
        · exact c
        · exact h1 v hv
      · exact .inr ⟨fun h => h1 fun v hv => h v (List.mem_cons_of_mem _ hv), h2⟩
    · rw [if_neg c] at st
      refine .inr ⟨fun h => c (h _ List.mem_cons_self), ?_⟩
      show (match lp__law_wagon_0 [s, some (.sh (.str ⟨#[a]⟩))] with
        | .nx ρ' => loop (bName 1) lp__law_wagon_0 (l.map fun c => .str ⟨#[c]⟩) ρ'
        | .ct ρ' => loop (bName 1) lp__law_wagon_0 (l.map fun c => .str ⟨#[c]⟩) ρ'
        | .bk ρ' => .nx ρ'
        | o => o) = _
      rw [st]
theorem ev_first (a : Nat) (l : List Nat) (h : (a :: l).length ≤ 100000) : (mIf (mOr (mTest (mOp (oOr oEqS oEq) (mVar 0) (mC (.str "")))) (mOr (mTest (mOp oGt (mCall cLen (mCons (mVar 0) mNil)) (mC (.int 2)))) (mTest (mOp (oOr oEqS oEq) (mOp oIx (mVar 0) (mC (.int 0))) (mC (.str "0"))))))
    (mRet (mC (.int 0))) mSkip) [some (.sh (.str ⟨(a :: l).toArray⟩)), none] = if 2 < l.length + 1 ∨ a = 48 then .rt (.sh (.int 0)) else .nx [some (.sh (.str ⟨(a :: l).toArray⟩)), none] := by
  have n0 : ¬ ((⟨(a :: l).toArray⟩ : Str) = ⟨#[]⟩) := fun e => by
    have := congrArg Str.length e
    rw [len_list] at this
    simp [Str.length] at this
  have ll := len_list (a :: l)
  have ix : atI (a :: l) 0 = some a := by
    obtain ⟨v, h1, h2⟩ := atI_nat0 a l
    exact h2
  have z0 : ((⟨#[a]⟩ : Str) = ⟨#[48]⟩) ↔ a = 48 := ⟨fun e => by cases e; rfl, fun e => by rw [e]⟩
  walk_at "ev"
  simp only [empty_is, zero_is, n0, decide_false, ll, h, if_true]
  walk_at "ev"
  by_cases c : (2 : Int) < ((l.length + 1 : Nat) : Int)
  · have c' : 2 < l.length + 1 := by omega
    rw [if_pos (show 2 < l.length + 1 ∨ a = 48 from .inl c')]
    simp only [c, if_true]
    walk_at "ev"
  · have c' : ¬ 2 < l.length + 1 := by omega
    simp only [c, if_false, ix]
    walk_at "ev"
    by_cases c0 : a = 48
    · rw [if_pos (show 2 < l.length + 1 ∨ a = 48 from .inr c0)]
      simp only [z0.mpr c0, decide_true, c, if_false]
      walk_at "ev"
    · have nz : ¬ ((⟨#[a]⟩ : Str) = ⟨#[48]⟩) := fun e => c0 (z0.mp e)
      rw [if_neg (show ¬ (2 < l.length + 1 ∨ a = 48) from fun z => z.elim c' c0)]
      simp only [nz, decide_false, c, if_false]
      walk_at "ev"
theorem wag1 (a : Nat) : wagL [a] = if 49 ≤ a ∧ a ≤ 57 then (a : Int) - 48 else 0 := rfl
theorem wag2 (a b : Nat) : wagL [a, b] = if (49 ≤ a ∧ a ≤ 57) ∧ 48 ≤ b ∧ b ≤ 57 then ((a : Int) - 48) * 10 + ((b : Int) - 48) else 0 := rfl
theorem e_wagon (l : List Nat) (h : l.length ≤ 100000) : M__law_wagon [.sh (.str ⟨l.toArray⟩)] = .ok (.sh (.int (wagL l))) := by
  rw [M__law_wagon_eq]
  unfold ms__law_wagon
  cases l with
  | nil =>
    walk_at "ev"
    simp only [empty_is, decide_true]
    walk_at "ev"
    rfl
  | cons a l =>
    have f := ev_first a l h
    by_cases c : 2 < l.length + 1 ∨ a = 48
    · rw [if_pos c] at f
      have w0 : wagL (a :: l) = 0 := by
        match l, c with
        | [], c =>
          have : a = 48 := c.elim (fun z => by simp at z) id
          rw [wag1]
          rw [if_neg (by omega)]
        | [b], c =>
          have : a = 48 := c.elim (fun z => by simp at z) id
          rw [wag2]
          rw [if_neg (by omega)]
        | _ :: _ :: _, _ => rfl
      rw [w0]
      exact seq_ret f
    · rw [if_neg c] at f
      refine seq_step f ?_
      have hs : (⟨(a :: l).toArray⟩ : Str).cps.toList = a :: l := rfl
      have hz : (⟨(a :: l).toArray⟩ : Str).length ≤ 640 := by
        rw [len_list, List.length_cons]
        have : ¬ 2 < l.length + 1 := fun z => c (.inl z)
        omega
      have a48 : a ≠ 48 := fun z => c (.inr z)
      rcases ev_signs (some (.sh (.str ⟨(a :: l).toArray⟩))) (a :: l) none with ⟨c1, h1, h2⟩ | ⟨h1, h2⟩
      · refine seq_step (ρ' := [some (.sh (.str ⟨(a :: l).toArray⟩)), c1]) ?_ ?_
        · walk_at "ev"
          simp only [Mi.signs]
          exact h2
        · have ei : PySem.intText? ⟨(a :: l).toArray⟩ = some (wagL (a :: l)) := by
            have ha := h1 a List.mem_cons_self
            match l, c, h1 with
            | [], _, _ =>
              rw [wag1]
              rw [if_pos (by omega)]
              exact int1 a (List.mem_range.mpr (by omega)) (by omega)
            | [b], _, h1 =>
              have hb := h1 b (List.mem_cons_of_mem _ List.mem_cons_self)
              rw [wag2]
              rw [if_pos (by omega)]
              exact int2 a (List.mem_range.mpr (by omega)) (by omega) b (List.mem_range.mpr (by omega)) (by omega)
            | _ :: _ :: _, c, _ => exact (c (.inl (by simp only [List.length_cons]; omega))).elim
          walk_at "ev"
          simp only [cIntS, hz, ei, if_true]
          walk_at "ev"
      · have w0 : wagL (a :: l) = 0 := by
          match l, c, h1 with
          | [], _, h1 =>
            rw [wag1]
            rw [if_neg]
            intro z
            exact h1 fun v hv => by
              rcases List.mem_cons.mp hv with rfl | hv
              · omega
              · simp at hv
          | [b], _, h1 =>
            rw [wag2]
            rw [if_neg]
            intro z
            exact h1 fun v hv => by
              rcases List.mem_cons.mp hv with rfl | hv
              · omega
              · rcases List.mem_cons.mp hv with rfl | hv
                · omega
                · simp at hv
          | _ :: _ :: _, _, _ => rfl
        rw [w0]
        refine seq_ret ?_
        walk_at "ev"
        simp only [Mi.signs]
        exact h2
def wagS (w : Str) : Int := wagL w.cps.toList
def getS (w : Str) : Int := ((upto 1 60).find? fun v => decide (tS v = w)).getD 0
theorem wag_tS : ∀ v ∈ upto 1 60, wagS (tS v) = v := by decide +kernel
theorem tS_wag1 : ∀ a ∈ List.range 58, 49 ≤ a → tS ((a : Int) - 48) = ⟨#[a]⟩ := by decide +kernel
theorem tS_wag2 : ∀ a ∈ List.range 58, 49 ≤ a → ∀ b ∈ List.range 58, 48 ≤ b → ((a : Int) - 48) * 10 + ((b : Int) - 48) ≤ 60 → tS (((a : Int) - 48) * 10 + ((b : Int) - 48)) = ⟨#[a, b]⟩ := by decide +kernel
theorem wag_range (w : Str) : 0 ≤ wagS w ∧ wagS w ≤ 99 := by
  unfold wagS
  match w.cps.toList with
  | [] => exact ⟨Int.le_refl 0, by show (0 : Int) ≤ 99; omega⟩
  | [a] =>
    rw [wag1]
    split <;> omega
  | [a, b] =>
    rw [wag2]
    split <;> omega
  | _ :: _ :: _ :: _ => exact ⟨Int.le_refl 0, by show (0 : Int) ≤ 99; omega⟩
theorem tS_wag (w : Str) (h1 : 1 ≤ wagS w) (h2 : wagS w ≤ 60) : tS (wagS w) = w := by
  obtain ⟨arr⟩ := w
  obtain ⟨l⟩ := arr
  have e : wagS ⟨⟨l⟩⟩ = wagL l := rfl
  rw [e] at h1 h2 ⊢
  match l with
  | [] => exact absurd h1 (by show ¬ (1 : Int) ≤ 0; omega)
  | [a] =>
    rw [wag1] at h1 h2 ⊢
    split at h1
    · rename_i c
      rw [if_pos c]
      exact tS_wag1 a (List.mem_range.mpr (by omega)) c.1
    · omega
  | [a, b] =>
    rw [wag2] at h1 h2 ⊢
    split at h1
    · rename_i c
      rw [if_pos c] at h2 ⊢
      exact tS_wag2 a (List.mem_range.mpr (by omega)) c.1.1 b (List.mem_range.mpr (by omega)) c.2.1 h2
    · omega
  | _ :: _ :: _ :: _ => exact absurd h1 (by show ¬ (1 : Int) ≤ 0; omega)
theorem get_wag (w : Str) : getS w = if wagS w ≤ 60 then wagS w else 0 := by
  unfold getS
  cases e : (upto 1 60).find? fun v => decide (tS v = w) with
  | some v =>
    have hv := List.mem_of_find?_eq_some e
    have hp := List.find?_some e
    have ht : tS v = w := of_decide_eq_true hp
    have hw := wag_tS v hv
    rw [ht] at hw
    have := upto_mem.mp hv
    rw [hw, if_pos (by omega)]
    rfl
  | none =>
    show (0 : Int) = _
    split
    · rename_i c
      by_cases h1 : 1 ≤ wagS w
      · have n := List.find?_eq_none.mp e (wagS w) (upto_mem.mpr (by omega))
        exact absurd (decide_eq_true (tS_wag w h1 c)) n
      · have := (wag_range w).1
        omega
    · rfl
theorem rows_same {W : List Str} : isRow (W.map getS) = isRow (W.map wagS) ∧ (isRow (W.map wagS) = true → W.map getS = W.map wagS) := by
  have k1 : isRow (W.map wagS) = true → W.map getS = W.map wagS := fun h => by
    obtain ⟨hl, hp⟩ := perm_of_isRow h
    refine List.map_congr_left fun w hw => ?_
    have := row_mem hp (List.mem_map.mpr ⟨w, hw, rfl⟩)
    rw [get_wag, if_pos (by omega)]
  have k2 : isRow (W.map getS) = true → W.map getS = W.map wagS := fun h => by
    obtain ⟨hl, hp⟩ := perm_of_isRow h
    refine List.map_congr_left fun w hw => ?_
    have hm := row_mem hp (List.mem_map.mpr ⟨w, hw, rfl⟩)
    rw [get_wag] at hm ⊢
    split
    · rfl
    · rename_i c
      rw [if_neg c] at hm
      omega
  refine ⟨?_, k1⟩
  cases e : isRow (W.map wagS) with
  | true => rw [k1 e, e]
  | false =>
    cases e2 : isRow (W.map getS) with
    | false => rfl
    | true =>
      rw [k2 e2, e] at e2
      cases e2
theorem comp_mapS {bp : BP} {mt : Rho → Res Bool} {me : Rho → Res Val} {ρ : Rho} {g : Str → Int} : ∀ {W : List Str} {acc : List Int}, (∀ w ∈ W, ∃ ρ1, bp (.str w) ρ = some ρ1 ∧ mt ρ1 = .ok true ∧ me ρ1 = .ok (.sh (.int (g w)))) → acc.length + W.length ≤ 100000 →
    comp bp mt me ρ (W.map .str) (acc.map .int) = .ok ((acc ++ W.map g).map .int)
  | [], acc, _, _ => by
    rw [List.map_nil, List.map_nil, List.append_nil]
    rfl
  | w :: W, acc, h, hl => by
    rw [List.length_cons] at hl
    obtain ⟨ρ1, h1, h2, h3⟩ := h w List.mem_cons_self
    have ih := comp_mapS (W := W) (acc := acc ++ [g w]) (fun u hu => h u (List.mem_cons_of_mem _ hu)) (by rw [List.length_append, List.length_singleton]; omega)
    have ha : acc.length < 100000 := by omega
    rw [List.map_cons]
    simp only [comp, h1, h2, h3, esc, if_true, List.length_map, ha]
    rw [mpush, ih, List.append_assoc]
    rfl
theorem word_len (x y : Str) : ∀ w ∈ Txt.split x y, w.length ≤ x.length := fun w hw => by
  unfold Txt.split at hw
  split at hw
  · rw [List.mem_singleton.mp hw]
    exact Nat.le_refl _
  · split at hw
    · rw [List.mem_singleton.mp hw]
      exact Nat.le_refl _
    · unfold Builtin.Str.partsBetween at hw
      obtain ⟨⟨i, j⟩, _, rfl⟩ := List.mem_map.mp hw
      show (x.cps.extract i j).size ≤ x.cps.size
      rw [Array.size_extract]
      omega
def kvOf (v : Int) : Key × D := (Sum.inr (tS v), .int v)
theorem ev_dict (a b c d e : Option Val) : ∀ (vs : List Int) (acc : List (Key × D)), (∀ v ∈ vs, 1 ≤ v ∧ v ≤ 60) → vs.Nodup → (∀ v ∈ vs, (acc.any fun p => decide (p.1 = Sum.inr (tS v))) = false) → acc.length + vs.length ≤ 1000 →
    dcomp (bName 3) mYes (mCall cStrI (mCons (mVar 3) mNil)) (mVar 3) [a, b, c, d, e] (vs.map .int) acc = .ok (acc ++ vs.map kvOf)
  | [], acc, _, _, _, _ => by
    rw [List.map_nil, List.map_nil, List.append_nil]
    rfl
  | v :: vs, acc, h, nd, ha, hl => by
    rw [List.length_cons] at hl
    have nd' := List.nodup_cons.mp nd
    have hv := h v List.mem_cons_self
    have hz : v.natAbs < 1000000 := by omega
    have e1 : bName 3 (.int v) [a, b, c, d, e] = some [a, b, c, I v, e] := rfl
    have e2 : mYes [a, b, c, I v, e] = .ok true := rfl
    have e3 : mCall cStrI (mCons (mVar 3) mNil) [a, b, c, I v, e] = .ok (.sh (.str (tS v))) := by
      walk_at "ev"
      simp only [cStrI, hz, if_true]
      rfl
    have e4 : mVar 3 [a, b, c, I v, e] = .ok (.sh (.int v)) := rfl
    have a1 := ha v List.mem_cons_self
    have a2 : acc.length < 100000 := by omega
    have ih := ev_dict a b c d e vs (acc ++ [kvOf v]) (fun u hu => h u (List.mem_cons_of_mem _ hu)) nd'.2 (fun u hu => by
      rw [List.any_append, ha u (List.mem_cons_of_mem _ hu)]
      show (false || (decide ((Sum.inr (tS v) : Key) = Sum.inr (tS u)) || false)) = false
      rw [decide_eq_false]
      · rfl
      · intro z
        have z : tS v = tS u := Sum.inr.inj z
        have w1 := wag_tS v (upto_mem.mpr (by omega))
        have w2 := wag_tS u (upto_mem.mpr (by have := h u (List.mem_cons_of_mem _ hu); omega))
        rw [z, w2] at w1
        exact nd'.1 (w1 ▸ hu)) (by rw [List.length_append, List.length_singleton]; omega)
    rw [List.map_cons]
    simp only [dcomp, e1, e2, e3, e4, keyOf, flatOf, flatD, a1, a2, and_self, if_true]
    have ih : dcomp (bName 3) mYes (mCall cStrI (mCons (mVar 3) mNil)) (mVar 3) [a, b, c, d, e] (vs.map .int) (acc ++ [(Sum.inr (tS v), .int v)]) = .ok ((acc ++ [kvOf v]) ++ vs.map kvOf) := ih
    rw [ih, List.append_assoc]
    rfl
theorem get_dict (w : Str) : ∀ vs : List Int, getD2 ((vs.map kvOf).map fun p => (keyD p.1, p.2)) (Sum.inr w) = (vs.find? fun v => decide (tS v = w)).map PyData.int
  | [] => rfl
  | v :: vs => by
    have ih := get_dict w vs
    unfold getD2 at ih ⊢
    rw [List.map_cons, List.map_cons, List.find?_cons, List.find?_cons]
    have e : keyB (Sum.inr w) (keyD (kvOf v).1) = decide (tS v = w) := rfl
    show Option.map _ (match keyB (Sum.inr w) (keyD (kvOf v).1) with | true => some _ | false => _) = _
    rw [e]
    cases decide (tS v = w) with
    | true => rfl
    | false => exact ih
def wordsL (t : Str) : List Str := Txt.split t " "
theorem words_len (t : Str) : (wordsL t).length ≤ t.length + 2 := PyProof.Rows.split_le t " "
theorem nd60 : (upto 1 60).Nodup := upto_nodup 60 1
theorem e_read_empty : M_read_row [.sh (.str "")] = .ok (.ow []) := by
  rw [M_read_row_eq]
  unfold ms_read_row
  walk_at "ev"
theorem e_read {t : Str} (ht : t ≠ "") (hl : t.length ≤ 900) : M_read_row [.sh (.str t)] = if isRow ((wordsL t).map getS) = true then .ok (.ow (((wordsL t).map getS).map .int)) else .ex "NotRow" [] := by
  have wl := words_len t
  have sp0 : ((Str.ofString " ").length == 0) = false ∧ t.length ≤ 99000 := ⟨by decide +kernel, by omega⟩
  rw [M_read_row_eq]
  unfold ms_read_row
  refine seq_step (ρ' := [some (.sh (.str t)), none, none, none, none]) ?_ ?_
  · walk_at "ev"
    simp only [ht, decide_false]
    walk_at "ev"
  refine seq_step (ρ' := [some (.sh (.str t)), some (.sh (dictD ((upto 1 60).map kvOf))), none, none, none]) ?_ ?_
  · have ed2 := ev_dict (some (.sh (.str t))) none none none none (upto 1 60) [] (fun v hv => by have := upto_mem.mp hv; omega) nd60 (fun _ _ => rfl) (by rw [upto_len]; show 0 + 60 ≤ 1000; omega)
    have ei : mIter2 (mCons (mC (.int 1)) (mCons (mOp oAdd (mC (.int 60)) (mC (.int 1))) mNil)) [some (.sh (.str t)), none, none, none, none] = .ok ((upto 1 60).map .int) := by
      walk_at "ev"
      rfl
    have eD : mDc (mIter2 (mCons (mC (.int 1)) (mCons (mOp oAdd (mC (.int 60)) (mC (.int 1))) mNil))) (bName 3) mYes (mCall cStrI (mCons (mVar 3) mNil)) (mVar 3) [3] [some (.sh (.str t)), none, none, none, none] = .ok (.sh (dictD ((upto 1 60).map kvOf))) := by
      unfold mDc
      rw [ei]
      show (match dcomp (bName 3) mYes (mCall cStrI (mCons (mVar 3) mNil)) (mVar 3) [some (.sh (.str t)), none, none, none, none] ((upto 1 60).map .int) [] with
        | .ok ys => Res.ok (Val.sh (dictD ys))
        | _ => .no) = _
      rw [ed2]
      rfl
    simp only [mSet]
    rw [eD]
    walk_at "ev"
  have eC : mComp (mIterX (mM1 oSplit (mVar 0) (mC (.str " ")))) (bName 4) mYes (mGet2 (mVar 1) (mVar 4) (mC (.int 0))) [4] [some (.sh (.str t)), some (.sh (dictD ((upto 1 60).map kvOf))), none, none, none] = .ok (.ow (((wordsL t).map getS).map .int)) := by
    have ei : mIterX (mM1 oSplit (mVar 0) (mC (.str " "))) [some (.sh (.str t)), some (.sh (dictD ((upto 1 60).map kvOf))), none, none, none] = .ok ((wordsL t).map .str) := by
      simp only [mIterX, mM1]
      walk_at "ev"
      simp only [oSplit, sp0, and_self, if_true]
      rfl
    unfold mComp
    rw [ei]
    show (match comp (bName 4) mYes (mGet2 (mVar 1) (mVar 4) (mC (.int 0))) [some (.sh (.str t)), some (.sh (dictD ((upto 1 60).map kvOf))), none, none, none] ((wordsL t).map .str) (([] : List Int).map .int) with
      | .ok ys => Res.ok (Val.ow ys)
      | _ => .no) = _
    rw [comp_mapS (g := getS)]
    · rfl
    · intro w hw
      refine ⟨_, rfl, rfl, ?_⟩
      have g := get_dict w (upto 1 60)
      have gs : getS w = ((upto 1 60).find? fun v => decide (tS v = w)).getD 0 := rfl
      simp only [mGet2, dictD]
      walk_at "ev"
      simp only [keyOf]
      have g : getD2 (((upto 1 60).map kvOf).map fun p => (keyD p.1, p.2)) (Sum.inr w) = _ := g
      rw [g, gs]
      cases (upto 1 60).find? fun v => decide (tS v = w) with
      | none => rfl
      | some v => rfl
    · show 0 + _ ≤ _
      omega
  refine seq_step (ρ' := [some (.sh (.str t)), some (.sh (dictD ((upto 1 60).map kvOf))), OL ((wordsL t).map getS), none, none]) ?_ ?_
  · simp only [mSet]
    rw [eC]
    walk_at "ev"
  cases hr : isRow ((wordsL t).map getS) with
  | true =>
    have e := e_check_row _ hr
    rw [if_pos rfl]
    walk_at "ev"
    simp only [e]
    walk_at "ev"
  | false =>
    have e := e_check_no ((wordsL t).map getS) (by rw [List.length_map]; omega) hr
    rw [if_neg Bool.false_ne_true]
    walk_at "ev"
    simp only [e]
    walk_at "ev"
theorem e_lread_empty : M__law_read [.sh (.str "")] = .ok (.ow []) := by
  rw [M__law_read_eq]
  unfold ms__law_read
  walk_at "ev"
theorem e_wagonS (w : Str) (h : w.length ≤ 100000) : M__law_wagon [.sh (.str w)] = .ok (.sh (.int (wagS w))) := by
  obtain ⟨arr⟩ := w
  obtain ⟨l⟩ := arr
  have hl : l.length ≤ 100000 := h
  exact e_wagon l hl
theorem e_lread {t : Str} (ht : t ≠ "") (hl : t.length ≤ 900) : M__law_read [.sh (.str t)] = if isRow ((wordsL t).map wagS) = true then .ok (.sh (iL ((wordsL t).map wagS))) else .ok (.sh .none) := by
  have wl := words_len t
  have sp0 : ((Str.ofString " ").length == 0) = false ∧ t.length ≤ 99000 := ⟨by decide +kernel, by omega⟩
  have eC : mComp (mIterX (mM1 oSplit (mVar 0) (mC (.str " ")))) (bName 2) mYes (mDef M__law_wagon (mCons (mVar 2) mNil)) [2] [some (.sh (.str t)), none, none] = .ok (.ow (((wordsL t).map wagS).map .int)) := by
    have ei : mIterX (mM1 oSplit (mVar 0) (mC (.str " "))) [some (.sh (.str t)), none, none] = .ok ((wordsL t).map .str) := by
      simp only [mIterX, mM1]
      walk_at "ev"
      simp only [oSplit, sp0, and_self, if_true]
      rfl
    unfold mComp
    rw [ei]
    show (match comp (bName 2) mYes (mDef M__law_wagon (mCons (mVar 2) mNil)) [some (.sh (.str t)), none, none] ((wordsL t).map .str) (([] : List Int).map .int) with
      | .ok ys => Res.ok (Val.ow ys)
      | _ => .no) = _
    rw [comp_mapS (g := wagS)]
    · rfl
    · intro w hw
      have e := e_wagonS w (by have := word_len t " " w hw; omega)
      refine ⟨_, rfl, rfl, ?_⟩
      walk_at "ev"
      simp only [e]
      walk_at "ev"
    · show 0 + _ ≤ _
      omega
  have er := e_law_is_row ((wordsL t).map wagS) (by rw [List.length_map]; omega)
  rw [M__law_read_eq]
  unfold ms__law_read
  refine seq_step (ρ' := [some (.sh (.str t)), none, none]) ?_ ?_
  · walk_at "ev"
    simp only [ht, decide_false]
    walk_at "ev"
  refine seq_step (ρ' := [some (.sh (.str t)), OL ((wordsL t).map wagS), none]) ?_ ?_
  · simp only [mSet]
    rw [eC]
    walk_at "ev"
  refine frz_step ?_
  cases hr : isRow ((wordsL t).map wagS) with
  | true =>
    rw [hr] at er
    rw [if_pos rfl]
    walk_at "ev"
    simp only [er]
    walk_at "ev"
  | false =>
    rw [hr] at er
    rw [if_neg Bool.false_ne_true]
    walk_at "ev"
    simp only [er]
    walk_at "ev"
theorem told_read {t : Str} {x : Val} (h : M_read_row [.sh (.str t)] = .ok x) (hx : ∀ xs, x ≠ .bw xs) : M__law_told [.sh (.str t), .sh (.bool true)] = .ok x := by
  rw [M__law_told_eq]
  unfold ms__law_told
  walk_at "ev"
  simp only [mTryAs]
  walk_at "ev"
  simp only [h]
theorem told_read_no {t : Str} (h : M_read_row [.sh (.str t)] = .ex "NotRow" []) : M__law_told [.sh (.str t), .sh (.bool true)] = .ok (.sh .none) := by
  rw [M__law_told_eq]
  unfold ms__law_told
  walk_at "ev"
  simp only [mTryAs]
  walk_at "ev"
  simp only [h]
  walk_at "ev"
  simp only [k_nr, mHIf, k_i1, k_i2, k_i3, offX, List.isEmpty_nil, show (2 : Nat) < 3 from by decide]
  walk_at "ev"
theorem shN : shows .none = true := by decide +kernel
theorem big {x : List Int} (hl : x.length ≤ 1000) (h : ∀ v ∈ x, 0 ≤ v ∧ v ≤ 1000) : shows (iL x) = true := shows_iL (fun v hv => by have := h v hv; omega) hl
theorem ev_two (s r1 r2 r3 r4 r5 r6 r7 r8 r9 r10 r11 r12 r13 : Option Val) {t : Str} (hl : t.length ≤ 900) : lp_law_1 [s, r1, r2, r3, r4, r5, r6, r7, r8, r9, r10, r11, r12, r13, some (.sh (.str t))] = .nx [s, r1, r2, r3, r4, r5, r6, r7, r8, r9, r10, r11, r12, r13, some (.sh (.str t))] := by
  unfold lp_law_1
  by_cases ht : t = ""
  · subst ht
    have e1 := told_read e_read_empty (fun xs h => nomatch h)
    have e2 := e_lread_empty
    have s0 : cRepr [.ow []] = _ := cRepr_ow (x := []) (big (Nat.zero_le _) fun v h => by simp at h)
    walk_at "ev"
    simp only [e1, e2]
    walk_at "ev"
    simp only [s0]
    walk_at "ev"
  · have e1 := e_read ht hl
    have e2 := e_lread ht hl
    obtain ⟨same, eqs⟩ := rows_same (W := wordsL t)
    cases hr : isRow ((wordsL t).map wagS) with
    | true =>
      rw [same, hr, if_pos rfl, eqs hr] at e1
      rw [hr, if_pos rfl] at e2
      have e1 := told_read e1 (fun xs h => nomatch h)
      obtain ⟨hl2, hp⟩ := perm_of_isRow hr
      have s1 : shows (iL ((wordsL t).map wagS)) = true := big (by omega) fun v hv => by have := row_mem hp hv; omega
      walk_at "ev"
      simp only [e1, e2]
      walk_at "ev"
      simp only [cRepr_ow s1, cRepr_sh s1]
      walk_at "ev"
    | false =>
      rw [same, hr, if_neg Bool.false_ne_true] at e1
      rw [hr, if_neg Bool.false_ne_true] at e2
      have e1 := told_read_no e1
      walk_at "ev"
      simp only [e1, e2]
      walk_at "ev"
      simp only [cRepr_D (a := .sh .none) rfl shN]
      walk_at "ev"
theorem textL_len {ns : List Int} (h : isRow ns = true) : (textL ns).length ≤ 200 := by
  obtain ⟨hl, hp⟩ := perm_of_isRow h
  have s0 := sum_le (f := fun w => (tS w).length) fun v hv => (tS_len (w := v) (by have := row_mem hp hv; omega)).2
  have e : textL ns = Str.join " " (ns.map tS) := PySem.StrLaws.glued_eq_join _ _
  have b := PySem.StrLaws.join_length_le " " (ns.map tS)
  rw [← e, List.map_map, List.length_map, sp_len] at b
  have s0 : (ns.map ((fun x : Str => x.length) ∘ tS)).sum ≤ 2 * ns.length := s0
  have b : (textL ns).length ≤ (ns.map ((fun x : Str => x.length) ∘ tS)).sum + ns.length * 1 := b
  omega
theorem cutS_le (z : Str) (lo hi : Option Int) : (cutS z lo hi).length ≤ z.length := by
  unfold cutS
  rw [len_list, List.length_take, List.length_drop]
  have : z.cps.toList.length = z.length := by simp [Str.length]
  omega
def cutI (a : List Int) (lo hi : Option Int) : List Int := (a.drop (HT.sIx a.length 0 lo)).take (HT.sIx a.length a.length hi - HT.sIx a.length 0 lo)
theorem cutI_le (a : List Int) (lo hi : Option Int) : (cutI a lo hi).length ≤ a.length := by
  unfold cutI
  rw [List.length_take, List.length_drop]
  omega
theorem signs4 (a b c d : Str) (f : D → Rho → Option Rho) : True := trivial
theorem says : ∀ ns : List Int, ns.length ≤ 63 → M_law [.fz (ns.map .int)] = .ok (.sh (.bool true)) := by
  intro ns hns
  obtain ⟨c0, h0⟩ := e_cell ns 0 (by decide)
  obtain ⟨c1, h1⟩ := e_cell ns 1 (by decide)
  obtain ⟨c2, h2⟩ := e_cell ns 2 (by decide)
  obtain ⟨c3, h3⟩ := e_cell ns 3 (by decide)
  obtain ⟨c4, h4⟩ := e_cell ns 4 (by decide)
  obtain ⟨c5, h5⟩ := e_cell ns 5 (by decide)
  obtain ⟨c6, h6⟩ := e_cell ns 6 (by decide)
  obtain ⟨n, hs, hn⟩ := e_size c1
  obtain ⟨row, hr, hp⟩ := e_row c0 n hn
  have hl := row_len hp
  have hR := isRow_of_perm hn hp
  have tl := textL_len hR
  have q2 := e_law_text hR
  obtain ⟨s, hsc⟩ : ∃ s : Option Val, s = some (.fz (ns.map .int)) := ⟨_, rfl⟩
  have zn1 : (0 : Int) < (row.length : Int) + 1 := by omega
  have zn4 : (0 : Int) < (row.length : Int) + 4 := by omega
  obtain ⟨at', hat⟩ : ∃ a : Int, c2 % ((row.length : Int) + 1) = a := ⟨_, rfl⟩
  obtain ⟨num, hnum⟩ : ∃ a : Int, c3 % ((row.length : Int) + 4) - 1 = a := ⟨_, rfl⟩
  obtain ⟨ch, hch⟩ : ∃ a : Int, c4 % 5 = a := ⟨_, rfl⟩
  have ch5 : ch = 0 ∨ ch = 1 ∨ ch = 2 ∨ ch = 3 ∨ ch = 4 := by omega
  have k1 := cutI_le row none (some at')
  have k2 := cutI_le row (some (at' + 1)) none
  have k3 := cutI_le row (some at') none
  obtain ⟨o2, ho2, o0, o1, o2', o3, o4⟩ : ∃ o2 : List Int, o2.length ≤ 1000 ∧ (ch = 0 → o2 = cutI row none (some at') ++ [num] ++ cutI row (some (at' + 1)) none) ∧ (ch = 1 → o2 = cutI row none (some at') ++ cutI row (some (at' + 1)) none) ∧ (ch = 2 → o2 = cutI row none (some at') ++ [num] ++ cutI row (some at') none) ∧ (ch = 3 → o2 = upto 1 61) ∧ (ch = 4 → o2 = row) := by
    rcases ch5 with z | z | z | z | z
    · refine ⟨_, ?_, fun _ => rfl, fun y => by omega, fun y => by omega, fun y => by omega, fun y => by omega⟩
      rw [List.length_append, List.length_append, List.length_singleton]
      omega
    · refine ⟨_, ?_, fun y => by omega, fun _ => rfl, fun y => by omega, fun y => by omega, fun y => by omega⟩
      rw [List.length_append]
      omega
    · refine ⟨_, ?_, fun y => by omega, fun y => by omega, fun _ => rfl, fun y => by omega, fun y => by omega⟩
      rw [List.length_append, List.length_append, List.length_singleton]
      omega
    · refine ⟨_, ?_, fun y => by omega, fun y => by omega, fun y => by omega, fun _ => rfl, fun y => by omega⟩
      rw [upto_len]
      omega
    · exact ⟨row, by omega, fun y => by omega, fun y => by omega, fun y => by omega, fun y => by omega, fun _ => rfl⟩
  rw [M_law_eq]
  unfold ms_law
  rw [← hsc]
  refine seq_step (ρ' := [s, OL row, none, none, none, none, none, none, none, none, none, none, none, none, none]) ?_ ?_
  · rw [hsc]
    walk_at "ev"
    simp only [h0, h1]
    walk_at "ev"
    simp only [hs]
    walk_at "ev"
    simp only [hr]
    walk_at "ev"
  refine seq_step (ρ' := [s, OL row, OL row, none, none, none, none, none, none, none, none, none, none, none, none]) (by walk_at "ev") ?_
  refine seq_step (ρ' := [s, OL row, OL row, I at', none, none, none, none, none, none, none, none, none, none, none]) ?_ ?_
  · rw [hsc]
    walk_at "ev"
    simp only [h2]
    walk_at "ev"
    simp only [zn1, if_true]
    walk_at "ev"
    rw [hat]
  refine seq_step (ρ' := [s, OL row, OL row, I at', I num, none, none, none, none, none, none, none, none, none, none]) ?_ ?_
  · rw [hsc]
    walk_at "ev"
    simp only [h3]
    walk_at "ev"
    simp only [zn4, if_true]
    walk_at "ev"
    rw [hnum]
  refine seq_step (ρ' := [s, OL row, OL row, I at', I num, I ch, none, none, none, none, none, none, none, none, none]) ?_ ?_
  · rw [hsc]
    walk_at "ev"
    simp only [h4]
    walk_at "ev"
    rw [hch]
  refine frz_step ?_
  refine seq_step (ρ' := [s, OL row, OL o2, I at', I num, I ch, none, none, none, none, none, none, none, none, none]) ?_ ?_
  · have u1 : (cutI row none (some at')).length ≤ 99999 := by omega
    have u2 : (cutI row none (some at') ++ [num]).length + (cutI row (some (at' + 1)) none).length ≤ 100000 := by
      rw [List.length_append, List.length_singleton]
      omega
    have u3 : (cutI row none (some at')).length + (cutI row (some (at' + 1)) none).length ≤ 100000 := by omega
    have u4 : (cutI row none (some at') ++ [num]).length + (cutI row (some at') none).length ≤ 100000 := by
      rw [List.length_append, List.length_singleton]
      omega
    unfold cutI at u1 u2 u3 u4
    rcases ch5 with z | z | z | z | z
    · rw [o0 z, z]
      unfold cutI
      walk_at "ev"
      simp only [u1, if_true]
      walk_at "ev"
      simp only [u2, if_true]
      (try walk_at "ev")
    · rw [o1 z, z]
      unfold cutI
      walk_at "ev"
      (try simp only [Int.reduceEq, if_false, if_true, u3])
      (try walk_at "ev")
    · rw [o2' z, z]
      unfold cutI
      walk_at "ev"
      (try simp only [Int.reduceEq, if_false, if_true, u1])
      (try walk_at "ev")
      (try simp only [u4, if_true])
      (try walk_at "ev")
    · rw [o3 z, z]
      walk_at "ev"
      (try simp only [Int.reduceEq, if_false, if_true])
      (try walk_at "ev")
      (try rfl)
    · rw [o4 z, z]
      walk_at "ev"
      (try simp only [Int.reduceEq, if_false])
      (try walk_at "ev")
  refine frz_step ?_
  refine frz_step ?_
  obtain ⟨a7, a8, a9, e1⟩ := ev_one s (SL row) (SL o2) (I at') (I num) (I ch) none none none none none none none none row (by omega)
  obtain ⟨d7, d8, d9, e2⟩ := ev_one s (SL row) (SL o2) (I at') (I num) (I ch) a7 a8 a9 none none none none none o2 ho2
  refine seq_step (ρ' := [s, SL row, SL o2, I at', I num, I ch, SL o2, d7, d8, d9, none, none, none, none, none]) ?_ ?_
  · have z : loop (bName 6) lp_law_0 [iL row, iL o2] [s, SL row, SL o2, I at', I num, I ch, none, none, none, none, none, none, none, none, none] = .nx [s, SL row, SL o2, I at', I num, I ch, SL o2, d7, d8, d9, none, none, none, none, none] := by
      rw [loop_cons (ρ1 := [s, SL row, SL o2, I at', I num, I ch, SL row, none, none, none, none, none, none, none, none]) rfl e1, loop_cons (ρ1 := [s, SL row, SL o2, I at', I num, I ch, SL o2, a7, a8, a9, none, none, none, none, none]) rfl e2]
      rfl
    walk_at "ev"
    exact z
  obtain ⟨T, hT⟩ : ∃ T : Str, textL row = T := ⟨_, rfl⟩
  rw [hT] at q2 tl
  refine seq_step (ρ' := [s, SL row, SL o2, I at', I num, I ch, SL o2, d7, d8, d9, some (.sh (.str T)), none, none, none, none]) ?_ ?_
  · walk_at "ev"
    simp only [q2]
    walk_at "ev"
  have zT : (0 : Int) < (T.length : Int) + 1 := by omega
  have zT2 : T.length ≤ 100000 := by omega
  obtain ⟨pl, hpl⟩ : ∃ a : Int, c5 % ((T.length : Int) + 1) = a := ⟨_, rfl⟩
  refine seq_step (ρ' := [s, SL row, SL o2, I at', I num, I ch, SL o2, d7, d8, d9, some (.sh (.str T)), I pl, none, none, none]) ?_ ?_
  · rw [hsc]
    walk_at "ev"
    simp only [h5, zT2, if_true]
    walk_at "ev"
    simp only [zT, if_true]
    walk_at "ev"
    rw [hpl]
  obtain ⟨ex, hx2, hxe⟩ : ∃ ex : Str, ex.length ≤ 2 ∧ atI [PyData.str "", .str " ", .str "0", .str "1", .str "9", .str "+", .str "a", .str ",", .str "\n", .str "60"] (c6 % 10) = some (.str ex) := by
    have z : c6 % 10 = 0 ∨ c6 % 10 = 1 ∨ c6 % 10 = 2 ∨ c6 % 10 = 3 ∨ c6 % 10 = 4 ∨ c6 % 10 = 5 ∨ c6 % 10 = 6 ∨ c6 % 10 = 7 ∨ c6 % 10 = 8 ∨ c6 % 10 = 9 := by omega
    rcases z with z | z | z | z | z | z | z | z | z | z <;> rw [z]
    · exact ⟨"", by decide +kernel, rfl⟩
    · exact ⟨" ", by decide +kernel, rfl⟩
    · exact ⟨"0", by decide +kernel, rfl⟩
    · exact ⟨"1", by decide +kernel, rfl⟩
    · exact ⟨"9", by decide +kernel, rfl⟩
    · exact ⟨"+", by decide +kernel, rfl⟩
    · exact ⟨"a", by decide +kernel, rfl⟩
    · exact ⟨",", by decide +kernel, rfl⟩
    · exact ⟨"\n", by decide +kernel, rfl⟩
    · exact ⟨"60", by decide +kernel, rfl⟩
  refine seq_step (ρ' := [s, SL row, SL o2, I at', I num, I ch, SL o2, d7, d8, d9, some (.sh (.str T)), I pl, some (.sh (.str ex)), none, none]) ?_ ?_
  · rw [hsc]
    walk_at "ev"
    simp only [h6]
    walk_at "ev"
    simp only [hxe]
    walk_at "ev"
  refine frz_step ?_
  have b1 := cutS_le T none (some pl)
  have b2 := cutS_le T (some pl) none
  have b3 := cutS_le T (some (pl + 1)) none
  have v1 : (cutS T none (some pl)).length + ex.length ≤ 100000 := by omega
  have v2 : (cutS T none (some pl) ++ ex).length + (cutS T (some pl) none).length ≤ 100000 := by
    rw [app_len]
    omega
  have v3 : (cutS T none (some pl)).length + (cutS T (some (pl + 1)) none).length ≤ 100000 := by omega
  have v4 : T.length + ex.length ≤ 100000 := by omega
  refine seq_step (ρ' := [s, SL row, SL o2, I at', I num, I ch, SL o2, d7, d8, d9, some (.sh (.str T)), I pl, some (.sh (.str ex)), some (.ow [.str T, .str (cutS T none (some pl) ++ ex ++ cutS T (some pl) none), .str (cutS T none (some pl) ++ cutS T (some (pl + 1)) none), .str (T ++ ex)]), none]) ?_ ?_
  · walk_at "ev"
    simp only [zT2, v1, v3, v4, if_true]
    walk_at "ev"
    simp only [v2, if_true]
    (try walk_at "ev")
  refine frz_step ?_
  obtain ⟨L, hL⟩ : ∃ L : Option Val, L = some (.sh (.list [.str T, .str (cutS T none (some pl) ++ ex ++ cutS T (some pl) none), .str (cutS T none (some pl) ++ cutS T (some (pl + 1)) none), .str (T ++ ex)])) := ⟨_, rfl⟩
  have w1 := ev_two s (SL row) (SL o2) (I at') (I num) (I ch) (SL o2) d7 d8 d9 (some (.sh (.str T))) (I pl) (some (.sh (.str ex))) L (t := T) (by omega)
  have w2 := ev_two s (SL row) (SL o2) (I at') (I num) (I ch) (SL o2) d7 d8 d9 (some (.sh (.str T))) (I pl) (some (.sh (.str ex))) L (t := cutS T none (some pl) ++ ex ++ cutS T (some pl) none) (by rw [app_len, app_len]; omega)
  have w3 := ev_two s (SL row) (SL o2) (I at') (I num) (I ch) (SL o2) d7 d8 d9 (some (.sh (.str T))) (I pl) (some (.sh (.str ex))) L (t := cutS T none (some pl) ++ cutS T (some (pl + 1)) none) (by rw [app_len]; omega)
  have w4 := ev_two s (SL row) (SL o2) (I at') (I num) (I ch) (SL o2) d7 d8 d9 (some (.sh (.str T))) (I pl) (some (.sh (.str ex))) L (t := T ++ ex) (by rw [app_len]; omega)
  refine seq_step (ρ' := [s, SL row, SL o2, I at', I num, I ch, SL o2, d7, d8, d9, some (.sh (.str T)), I pl, some (.sh (.str ex)), L, some (.sh (.str (T ++ ex)))]) ?_ ?_
  · have z : loop (bName 14) lp_law_1 [.str T, .str (cutS T none (some pl) ++ ex ++ cutS T (some pl) none), .str (cutS T none (some pl) ++ cutS T (some (pl + 1)) none), .str (T ++ ex)] [s, SL row, SL o2, I at', I num, I ch, SL o2, d7, d8, d9, some (.sh (.str T)), I pl, some (.sh (.str ex)), L, none] = .nx [s, SL row, SL o2, I at', I num, I ch, SL o2, d7, d8, d9, some (.sh (.str T)), I pl, some (.sh (.str ex)), L, some (.sh (.str (T ++ ex)))] := by
      rw [loop_cons rfl w1, loop_cons rfl w2, loop_cons rfl w3, loop_cons rfl w4]
      rfl
    rw [hL] at z ⊢
    walk_at "ev"
    exact z
  walk_at "ev"
end Law

open PySem PySem.W PyProof.Rows
set_option maxHeartbeats 0 in
theorem PySem.Challenge.cw_yardsort_k00_rows_and_their_texts_holds : PySem.Challenge.rw_yardsort_k00_rows_and_their_texts.Holds := by
  w_on; o_law; k_head; (case hw => w_witness2)
  k_fill
  refine Mi.law_end (l := PySem.Challenge.rw_yardsort_k00_rows_and_their_texts) (n := 63) (k := 5) (x := "script") (M := Law.M_law) rfl (by decide) rfl ⟨rfl, by decide, by decide⟩ (fun w h Y => PySem.W.kIn_of Y) ?F Law.says
  case F =>
    intro w mg fa h KX G hmg
    refine' Law.all_mk KX G hmg ?a1_is_row ?l1_is_row ?c1_is_row ?k1_is_row ?a1_check_row ?l1_check_row ?c1_check_row ?k1_check_row ?a1_row_text ?l1_row_text ?c1_row_text ?k1_row_text ?a1_read_row ?l1_read_row ?c1_read_row ?k1_read_row ?a1__law_cell ?l1__law_cell ?c1__law_cell ?k1__law_cell ?a1__law_values ?l1__law_values ?c1__law_values ?k1__law_values ?a1__law_row ?l1__law_row ?c1__law_row ?k1__law_row ?a1__law_size ?l1__law_size ?c1__law_size ?k1__law_size ?a1__law_is_row ?l1__law_is_row ?c1__law_is_row ?k1__law_is_row ?a1__law_text ?l1__law_text ?c1__law_text ?k1__law_text ?a1__law_told ?l1__law_told ?c1__law_told ?k1__law_told ?a1__law_wagon ?l1__law_wagon ?c1__law_wagon ?k1__law_wagon ?a1__law_read ?l1__law_read ?c1__law_read ?k1__law_read ?a1_law ?l1_law ?c1_law ?k1_law ?z_ValueError ?z_int ?z_isinstance ?z_len ?z_list ?z_range ?z_repr ?z_sorted ?z_str ?v_MOST_WAGONS ?e_NotCode ?x_NotCode ?k_NotCode ?r_NotCode ?t_NotCode ?e_NotRow ?x_NotRow ?k_NotRow ?r_NotRow ?t_NotRow ?e_YardsortError ?x_YardsortError ?k_YardsortError ?r_YardsortError ?t_YardsortError ?i_NotCode ?i_NotRow ?i_YardsortError ?s_YardsortError_NotCode ?s_NotRow_NotCode ?s_NotCode_NotCode ?s_YardsortError_NotRow ?s_NotRow_NotRow ?s_NotCode_NotRow ?s_YardsortError_YardsortError ?s_NotRow_YardsortError ?s_NotCode_YardsortError ?q5 ?q6 ?q0_YardsortError ?q1_YardsortError ?q2_YardsortError ?q3_YardsortError ?q4_YardsortError ?q0_NotRow ?q1_NotRow ?q2_NotRow ?q3_NotRow ?q4_NotRow ?q0_NotCode ?q1_NotCode ?q2_NotCode ?q3_NotCode ?q4_NotCode ?o_YardsortError_NotCode ?o_NotRow_NotCode ?o_NotCode_NotCode ?o_YardsortError_ValueError ?o_NotRow_ValueError ?o_NotCode_ValueError ?o_YardsortError_YardsortError ?o_NotRow_YardsortError ?o_NotCode_YardsortError
    (case a1_is_row => k_is)
    (case l1_is_row => k_is)
    (case c1_is_row => k_is)
    (case k1_is_row => k_is)
    (case a1_check_row => k_is)
    (case l1_check_row => k_is)
    (case c1_check_row => k_is)
    (case k1_check_row => k_is)
    (case a1_row_text => k_is)
    (case l1_row_text => k_is)
    (case c1_row_text => k_is)
    (case k1_row_text => k_is)
    (case a1_read_row => k_is)
    (case l1_read_row => k_is)
    (case c1_read_row => k_is)
    (case k1_read_row => k_is)
    (case a1__law_cell => k_is)
    (case l1__law_cell => k_is)
    (case c1__law_cell => k_is)
    (case k1__law_cell => k_is)
    (case a1__law_values => k_is)
    (case l1__law_values => k_is)
    (case c1__law_values => k_is)
    (case k1__law_values => k_is)
    (case a1__law_row => k_is)
    (case l1__law_row => k_is)
    (case c1__law_row => k_is)
    (case k1__law_row => k_is)
    (case a1__law_size => k_is)
    (case l1__law_size => k_is)
    (case c1__law_size => k_is)
    (case k1__law_size => k_is)
    (case a1__law_is_row => k_is)
    (case l1__law_is_row => k_is)
    (case c1__law_is_row => k_is)
    (case k1__law_is_row => k_is)
    (case a1__law_text => k_is)
    (case l1__law_text => k_is)
    (case c1__law_text => k_is)
    (case k1__law_text => k_is)
    (case a1__law_told => k_is)
    (case l1__law_told => k_is)
    (case c1__law_told => k_is)
    (case k1__law_told => k_is)
    (case a1__law_wagon => k_is)
    (case l1__law_wagon => k_is)
    (case c1__law_wagon => k_is)
    (case k1__law_wagon => k_is)
    (case a1__law_read => k_is)
    (case l1__law_read => k_is)
    (case c1__law_read => k_is)
    (case k1__law_read => k_is)
    (case a1_law => k_is)
    (case l1_law => k_is)
    (case c1_law => k_is)
    (case k1_law => k_is)
    (case z_ValueError => k_is)
    (case z_int => k_is)
    (case z_isinstance => k_is)
    (case z_len => k_is)
    (case z_list => k_is)
    (case z_range => k_is)
    (case z_repr => k_is)
    (case z_sorted => k_is)
    (case z_str => k_is)
    (case v_MOST_WAGONS => k_is)
    (case e_NotCode => k_is)
    (case x_NotCode => k_exc)
    (case k_NotCode => k_is)
    (case r_NotCode => k_is)
    (case t_NotCode => k_is)
    (case e_NotRow => k_is)
    (case x_NotRow => k_exc)
    (case k_NotRow => k_is)
    (case r_NotRow => k_is)
    (case t_NotRow => k_is)
    (case e_YardsortError => k_is)
    (case x_YardsortError => k_exc)
    (case k_YardsortError => k_is)
    (case r_YardsortError => k_is)
    (case t_YardsortError => k_is)
    (case i_NotCode => k_is)
    (case i_NotRow => k_is)
    (case i_YardsortError => k_is)
    (case s_YardsortError_NotCode => first | rfl | k_is)
    (case s_NotRow_NotCode => first | rfl | k_is)
    (case s_NotCode_NotCode => first | rfl | k_is)
    (case s_YardsortError_NotRow => first | rfl | k_is)
    (case s_NotRow_NotRow => first | rfl | k_is)
    (case s_NotCode_NotRow => first | rfl | k_is)
    (case s_YardsortError_YardsortError => first | rfl | k_is)
    (case s_NotRow_YardsortError => first | rfl | k_is)
    (case s_NotCode_YardsortError => first | rfl | k_is)
    (case q5 => k_is)
    (case q6 => k_is)
    (case q0_YardsortError => k_is)
    (case q1_YardsortError => k_is)
    (case q2_YardsortError => k_is)
    (case q3_YardsortError => k_is)
    (case q4_YardsortError => k_is)
    (case q0_NotRow => k_is)
    (case q1_NotRow => k_is)
    (case q2_NotRow => k_is)
    (case q3_NotRow => k_is)
    (case q4_NotRow => k_is)
    (case q0_NotCode => k_is)
    (case q1_NotCode => k_is)
    (case q2_NotCode => k_is)
    (case q3_NotCode => k_is)
    (case q4_NotCode => k_is)
    (case o_YardsortError_NotCode => first | kit_is | rfl | k_is)
    (case o_NotRow_NotCode => first | kit_is | rfl | k_is)
    (case o_NotCode_NotCode => first | kit_is | rfl | k_is)
    (case o_YardsortError_ValueError => first | kit_is | rfl | k_is)
    (case o_NotRow_ValueError => first | kit_is | rfl | k_is)
    (case o_NotCode_ValueError => first | kit_is | rfl | k_is)
    (case o_YardsortError_YardsortError => first | kit_is | rfl | k_is)
    (case o_NotRow_YardsortError => first | kit_is | rfl | k_is)
    (case o_NotCode_YardsortError => first | kit_is | rfl | k_is)
