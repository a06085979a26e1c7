import PyProof.Rows.All
import Wide.All
import OpenK.AllK
import Wide.FinOn
import PySem.Challenge.RW_yardsort_k67_numbers_of_words
import HandS.ForMost
import HandS.ForExc
import HandS.SortInts
import HandS.RaiseMore
import HandS.Conv
import HandS.Wide
import PyProof.ReprRoads
import HandS.Style
import PyProof.ReprLen
import HandS.More
import HandS.TryMany
import HandS.ExcIs
import HandS.IsInst
import HandS.Text
import HandS.DictComp
import HandS.TupAny
import KE.DataCmp
import HandS.Property
import KE.GoesEnumKw
import HandS.Deep
set_option Elab.async false
set_option linter.all false
set_option maxRecDepth 100000
/-! Mirrors: a def's body as a function of plain data, with lists of its own, and the proof that the program follows it. -/
namespace Mi
open PySem PySem.Spec PyProof.Rows L2

abbrev D := PyData
/-- a value: data that nothing changes any more; a list of the def's own; such a list looked at; a list that may only be read -/
inductive Val where
  | sh (d : D) | ow (xs : List D) | bw (xs : List D) | fz (xs : List D)
inductive Res (α : Type) where
  | ok (a : α) | ex (n : Str) (fs : List (Str × D)) | no
def Res.bind {α β : Type} : Res α → (α → Res β) → Res β
  | .ok a, f => f a
  | .ex n fs, _ => .ex n fs
  | .no, _ => .no
def lift {α : Type} : Option α → Res α
  | some a => .ok a
  | none => .no
abbrev Rho := List (Option Val)
inductive Out where
  | nx (ρ : Rho) | rt (r : Val) | bk (ρ : Rho) | ct (ρ : Rho) | ex (n : Str) (fs : List (Str × D)) (ρ : Rho) | no

/-! ### data in the heap -/
/-- a key as data -/
def keyD : Key → D
  | .inl k => .int k
  | .inr x => .str x
/-- data that is no object -/
inductive FlatV : V → D → Prop
  | non : FlatV .non .none
  | bl (b : Bool) : FlatV (.bl b) (.bool b)
  | int (i : Int) : FlatV (.int i) (.int i)
  | str (x : Str) : FlatV (.str x) (.str x)
inductive FlatKV : List (Key × V) → List (D × D) → Prop
  | nil : FlatKV [] []
  | cons {k : Key} {v : V} {d : D} {kvs : List (Key × V)} {ds : List (D × D)} : FlatV v d → FlatKV kvs ds → FlatKV ((k, v) :: kvs) ((keyD k, d) :: ds)
mutual
inductive Rp (K : PySem.W.Frag) (G : Hp) : V → D → Prop
  | non : Rp K G .non .none
  | bl (b : Bool) : Rp K G (.bl b) (.bool b)
  | int (i : Int) : Rp K G (.int i) (.int i)
  | str (x : Str) : Rp K G (.str x) (.str x)
  | lst {a : Addr} {vs : List V} {ds : List D} : G a = some (.lst vs) → RpA K G vs ds → Rp K G (.ref a) (.list ds)
  | tup {a : Addr} {vs : List V} {ds : List D} : SqT K G a vs → RpA K G vs ds → Rp K G (.ref a) (.tuple ds)
  | dct {a : Addr} {kvs : List (Key × V)} {ds : List (D × D)} : G a = some (.dK kvs) → FlatKV kvs ds → Rp K G (.ref a) (.dict ds)
inductive RpA (K : PySem.W.Frag) (G : Hp) : List V → List D → Prop
  | nil : RpA K G [] []
  | cons {v : V} {vs : List V} {d : D} {ds : List D} : Rp K G v d → RpA K G vs ds → RpA K G (v :: vs) (d :: ds)
end

theorem same_t {K : PySem.W.Frag} {H H' : Hp} {a : Addr} {xs : List V} (e : Same H H') (h : SqT K H a xs) : SqT K H' a xs := by
  rcases h with (h | ⟨o, h⟩) | h
  · exact .inl (.inl (e _ _ h))
  · exact .inl (.inr ⟨o, e _ _ h⟩)
  · exact .inr h

mutual
theorem Rp.mono {K : PySem.W.Frag} {G G' : Hp} (e : Same G G') : ∀ {d : D} {v : V}, Rp K G v d → Rp K G' v d
  | .none, _, .non => .non
  | .bool _, _, .bl b => .bl b
  | .int _, _, .int i => .int i
  | .str _, _, .str x => .str x
  | .list _, _, .lst h a => .lst (e _ _ h) (RpA.mono e a)
  | .tuple _, _, .tup h a => .tup (same_t e h) (RpA.mono e a)
  | .dict _, _, .dct h a => .dct (e _ _ h) a
theorem RpA.mono {K : PySem.W.Frag} {G G' : Hp} (e : Same G G') : ∀ {ds : List D} {vs : List V}, RpA K G vs ds → RpA K G' vs ds
  | [], _, .nil => .nil
  | _ :: _, _, .cons h a => .cons (Rp.mono e h) (RpA.mono e a)
end
mutual
theorem Rp.dp {K : PySem.W.Frag} {G : Hp} : ∀ {d : D} {v : V}, d.hasDict = false → Rp K G v d → Dp K G v d
  | .none, _, _, .non => .non
  | .bool _, _, _, .bl b => .bl b
  | .int _, _, _, .int i => .int i
  | .str _, _, _, .str x => .str x
  | .list _, _, nd, .lst h a => .lst (SqL.of h) (RpA.dp (by rw [PyData.hasDict] at nd; exact nd) a)
  | .tuple _, _, nd, .tup h a => .tup h (RpA.dp (by rw [PyData.hasDict] at nd; exact nd) a)
  | .dict _, _, nd, .dct _ _ => absurd nd (by rw [PyData.hasDict]; exact fun z => nomatch z)
theorem RpA.dp {K : PySem.W.Frag} {G : Hp} : ∀ {ds : List D} {vs : List V}, PyData.hasDictAll ds = false → RpA K G vs ds → DpAll K G vs ds
  | [], _, _, .nil => .nil
  | _ :: _, _, nd, .cons h a => .cons (Rp.dp (by rw [PyData.hasDictAll, Bool.or_eq_false_iff] at nd; exact nd.1) h) (RpA.dp (by rw [PyData.hasDictAll, Bool.or_eq_false_iff] at nd; exact nd.2) a)
end
theorem RpA.length {K : PySem.W.Frag} {G : Hp} : ∀ {ds : List D} {vs : List V}, RpA K G vs ds → vs.length = ds.length
  | [], _, .nil => rfl
  | _ :: _, _, .cons h a => by simp [RpA.length a]
theorem RpA.get {K : PySem.W.Frag} {G : Hp} : ∀ {ds : List D} {vs : List V} {j : Nat} {d : D}, RpA K G vs ds → ds[j]? = some d → ∃ v, vs[j]? = some v ∧ Rp K G v d
  | [], _, _, _, .nil, h => by simp at h
  | _ :: _, _, 0, _, .cons h a, e => by
    simp at e
    subst e
    exact ⟨_, rfl, h⟩
  | _ :: _, _, j + 1, _, .cons h a, e => by
    simp at e
    obtain ⟨v, e1, e2⟩ := RpA.get a e
    exact ⟨v, by simpa using e1, e2⟩
theorem RpA.getV {K : PySem.W.Frag} {G : Hp} : ∀ {ds : List D} {vs : List V} {j : Nat} {v : V}, RpA K G vs ds → vs[j]? = some v → ∃ d, ds[j]? = some d ∧ Rp K G v d
  | [], _, _, _, .nil, h => by simp at h
  | _ :: _, _, 0, _, .cons h a, e => by
    simp at e
    subst e
    exact ⟨_, rfl, h⟩
  | _ :: _, _, j + 1, _, .cons h a, e => by
    simp at e
    obtain ⟨d, e1, e2⟩ := RpA.getV a e
    exact ⟨d, by simpa using e1, e2⟩
theorem RpA.append {K : PySem.W.Frag} {G : Hp} : ∀ {ds es : List D} {vs us : List V}, RpA K G vs ds → RpA K G us es → RpA K G (vs ++ us) (ds ++ es)
  | [], _, _, _, .nil, b => b
  | _ :: _, _, _, _, .cons h a, b => .cons h (RpA.append a b)
theorem RpA.drop {K : PySem.W.Frag} {G : Hp} : ∀ (n : Nat) {ds : List D} {vs : List V}, RpA K G vs ds → RpA K G (vs.drop n) (ds.drop n)
  | 0, _, _, a => a
  | n + 1, [], _, .nil => .nil
  | n + 1, _ :: _, _, .cons h a => RpA.drop n a
theorem RpA.take {K : PySem.W.Frag} {G : Hp} : ∀ (n : Nat) {ds : List D} {vs : List V}, RpA K G vs ds → RpA K G (vs.take n) (ds.take n)
  | 0, _, _, a => by simpa using .nil
  | n + 1, [], _, .nil => .nil
  | n + 1, _ :: _, _, .cons h a => .cons h (RpA.take n a)
theorem RpA.set {K : PySem.W.Frag} {G : Hp} {d : D} {v : V} (hv : Rp K G v d) : ∀ {ds : List D} {vs : List V} (j : Nat), RpA K G vs ds → RpA K G (vs.set j v) (ds.set j d)
  | [], _, _, .nil => .nil
  | _ :: _, _, 0, .cons h a => .cons hv a
  | _ :: _, _, j + 1, .cons h a => .cons h (RpA.set hv j a)
theorem RpA.reverse {K : PySem.W.Frag} {G : Hp} : ∀ {ds : List D} {vs : List V}, RpA K G vs ds → RpA K G vs.reverse ds.reverse
  | [], _, .nil => .nil
  | _ :: _, _, .cons h a => by
    rw [List.reverse_cons, List.reverse_cons]
    exact (RpA.reverse a).append (.cons h .nil)

/-! ### what grows -/
structure Ext (G H G' H' : Hp) : Prop where
  h : Same H H'
  g : Same G G'
  s : Same G' H'
  n : ∀ p, H p ≠ none → G p = none → G' p = none
theorem Ext.refl {G H : Hp} (s : Same G H) : Ext G H G H := ⟨Same.refl _, Same.refl _, s, fun _ _ h => h⟩
theorem ne_none_of {H H' : Hp} {p : Addr} (e : Same H H') (h : H p ≠ none) : H' p ≠ none := by
  intro q
  exact h (e.free q)
theorem Ext.trans {G H G1 H1 G2 H2 : Hp} (a : Ext G H G1 H1) (b : Ext G1 H1 G2 H2) : Ext G H G2 H2 :=
  ⟨a.h.trans b.h, a.g.trans b.g, b.s, fun p h g => b.n p (ne_none_of a.h h) (a.n p h g)⟩
theorem same_new {H : Hp} {p : Addr} {o : HO} (h : H p = none) : Same H (upd H p o) := fun b x e => by
  rw [upd_ne (ne_of_none e h)]
  exact e
/-- a new object that stays as it is -/
theorem Ext.newS {G H : Hp} {p : Addr} {o : HO} (s : Same G H) (h : H p = none) : Ext G H (upd G p o) (upd H p o) := by
  have g : G p = none := s.free h
  refine ⟨same_new h, same_new g, fun b x e => ?_, fun q hq hg => ?_⟩
  · by_cases hb : b = p
    · subst hb
      rw [upd_same] at e ⊢
      exact e
    · rw [upd_ne hb] at e ⊢
      exact s _ _ e
  · have hb : q ≠ p := fun z => hq (z ▸ h)
    rw [upd_ne hb]
    exact hg
/-- a new object of one's own -/
theorem Ext.newO {G H : Hp} {p : Addr} {o : HO} (s : Same G H) (h : H p = none) : Ext G H G (upd H p o) := by
  have g : G p = none := s.free h
  refine ⟨same_new h, Same.refl _, fun b x e => ?_, fun q hq hg => hg⟩
  rw [upd_ne (ne_of_none e g)]
  exact s _ _ e

/-! ### values -/
def VR (K : PySem.W.Frag) (B G H : Hp) (v : V) : Val → Prop
  | .sh d => Rp K G v d
  | .ow xs => ∃ p vs, v = .ref p ∧ H p = some (.lst vs) ∧ G p = none ∧ B p = none ∧ RpA K G vs xs
  | .bw xs => ∃ p vs, v = .ref p ∧ H p = some (.lst vs) ∧ RpA K G vs xs
  | .fz xs => ∃ p vs, v = .ref p ∧ SqL K G p vs ∧ RpA K G vs xs
theorem VR.back {K : PySem.W.Frag} {B B' G H : Hp} {v : V} {r : Val} (e : Same B B') (h : VR K B' G H v r) : VR K B G H v r := by
  cases r with
  | sh d => exact h
  | ow xs =>
    obtain ⟨p, vs, a, b, c, d, k⟩ := h
    exact ⟨p, vs, a, b, c, e.free d, k⟩
  | bw xs => exact h
  | fz xs => exact h
theorem VR.ext {K : PySem.W.Frag} {B G H G' H' : Hp} {v : V} {r : Val} (e : Ext G H G' H') (h : VR K B G H v r) : VR K B G' H' v r := by
  cases r with
  | sh d => exact Rp.mono e.g h
  | ow xs =>
    obtain ⟨p, vs, a, b, c, d, k⟩ := h
    exact ⟨p, vs, a, e.h _ _ b, e.n p (by rw [b]; exact Option.some_ne_none _) c, d, k.mono e.g⟩
  | bw xs =>
    obtain ⟨p, vs, a, b, k⟩ := h
    exact ⟨p, vs, a, e.h _ _ b, k.mono e.g⟩
  | fz xs =>
    obtain ⟨p, vs, a, b, k⟩ := h
    exact ⟨p, vs, a, e.g.seq b, k.mono e.g⟩
inductive VRs (K : PySem.W.Frag) (B G H : Hp) : List V → List Val → Prop
  | nil : VRs K B G H [] []
  | cons {v : V} {vs : List V} {r : Val} {rs : List Val} : VR K B G H v r → VRs K B G H vs rs → VRs K B G H (v :: vs) (r :: rs)
theorem VRs.back {K : PySem.W.Frag} {B B' G H : Hp} (e : Same B B') : ∀ {vs : List V} {rs : List Val}, VRs K B' G H vs rs → VRs K B G H vs rs
  | _, _, .nil => .nil
  | _, _, .cons h a => .cons (h.back e) (VRs.back e a)
theorem VRs.ext {K : PySem.W.Frag} {B G H G' H' : Hp} (e : Ext G H G' H') : ∀ {vs : List V} {rs : List Val}, VRs K B G H vs rs → VRs K B G' H' vs rs
  | _, _, .nil => .nil
  | _, _, .cons h a => .cons (h.ext e) (VRs.ext e a)
/-- the items of a list value -/
def lit : Val → Option (List D)
  | .sh (.list xs) => some xs
  | .ow xs => some xs
  | .bw xs => some xs
  | .fz xs => some xs
  | _ => none
/-- .. of one that is tracked -/
def tlit : Val → Option (List D)
  | .sh (.list xs) => some xs
  | .ow xs => some xs
  | .bw xs => some xs
  | _ => none
/-- as data -/
def dat : Val → Option D
  | .sh d => some d
  | .ow xs => some (.list xs)
  | .bw xs => some (.list xs)
  | .fz xs => some (.list xs)
section
variable {K : PySem.W.Frag} {B G H : Hp} {v : V} {r : Val}
theorem VR.tlist {xs : List D} (s : Same G H) (h : VR K B G H v r) (e : tlit r = some xs) : ∃ p vs, v = .ref p ∧ H p = some (.lst vs) ∧ RpA K G vs xs := by
  cases r with
  | sh d =>
    cases d <;> simp [tlit] at e
    subst e
    cases h with
    | lst q a => exact ⟨_, _, rfl, s _ _ q, a⟩
  | ow ys =>
    simp [tlit] at e
    subst e
    obtain ⟨p, vs, a, b, _, _, k⟩ := h
    exact ⟨p, vs, a, b, k⟩
  | bw ys =>
    simp [tlit] at e
    subst e
    exact h
  | fz ys => simp [tlit] at e
theorem VR.list {xs : List D} (s : Same G H) (h : VR K B G H v r) (e : lit r = some xs) : ∃ p vs, v = .ref p ∧ SqL K H p vs ∧ RpA K G vs xs := by
  cases r with
  | sh d =>
    cases d <;> simp [lit] at e
    subst e
    cases h with
    | lst q a => exact ⟨_, _, rfl, SqL.of (s _ _ q), a⟩
  | ow ys =>
    simp [lit] at e
    subst e
    obtain ⟨p, vs, a, b, _, _, k⟩ := h
    exact ⟨p, vs, a, SqL.of b, k⟩
  | bw ys =>
    simp [lit] at e
    subst e
    obtain ⟨p, vs, a, b, k⟩ := h
    exact ⟨p, vs, a, SqL.of b, k⟩
  | fz ys =>
    simp [lit] at e
    subst e
    obtain ⟨p, vs, a, b, k⟩ := h
    exact ⟨p, vs, a, s.seq b, k⟩
theorem VR.dp {d : D} (s : Same G H) (h : VR K B G H v r) (e : dat r = some d) (nd : d.hasDict = false) : Dp K H v d := by
  cases r with
  | sh d' =>
    simp [dat] at e
    subst e
    exact (Rp.mono s h).dp nd
  | ow ys =>
    simp [dat] at e
    subst e
    obtain ⟨p, vs, rfl, b, _, _, k⟩ := h
    exact .lst (SqL.of b) ((k.mono s).dp (by rw [PyData.hasDict] at nd; exact nd))
  | bw ys =>
    simp [dat] at e
    subst e
    obtain ⟨p, vs, rfl, b, k⟩ := h
    exact .lst (SqL.of b) ((k.mono s).dp (by rw [PyData.hasDict] at nd; exact nd))
  | fz ys =>
    simp [dat] at e
    subst e
    obtain ⟨p, vs, rfl, b, k⟩ := h
    exact .lst (s.seq b) ((k.mono s).dp (by rw [PyData.hasDict] at nd; exact nd))
end

/-! ### the slots -/
def SlotR (K : PySem.W.Frag) (H0 G H : Hp) (v : V) : Val → Prop
  | .sh d => Rp K G v d
  | .ow xs => ∃ p vs, v = .ref p ∧ H p = some (.lst vs) ∧ G p = none ∧ H0 p = none ∧ RpA K G vs xs
  | .bw _ => False
  | .fz xs => ∃ p vs, v = .ref p ∧ SqL K G p vs ∧ RpA K G vs xs
structure EnvS (K : PySem.W.Frag) (G0 H0 : Hp) (σ : L2.St) (G H : Hp) (ρ : Rho) : Prop where
  ext : Ext G0 H0 G H
  len : σ.length = ρ.length
  slot : ∀ (i : Nat) (r : Val), ρ[i]? = some (some r) → ∃ v, σ[i]? = some (some v) ∧ SlotR K H0 G H v r
  apart : ∀ (i j : Nat) (p : Addr) (xs ys : List D), ρ[i]? = some (some (.ow xs)) → ρ[j]? = some (some (.ow ys)) → σ[i]? = some (some (.ref p)) → σ[j]? = some (some (.ref p)) → i = j
theorem SlotR.ext {K : PySem.W.Frag} {H0 G H G' H' : Hp} {v : V} {r : Val} (e : Ext G H G' H') (h : SlotR K H0 G H v r) : SlotR K H0 G' H' v r := by
  cases r with
  | sh d => exact Rp.mono e.g h
  | ow xs =>
    obtain ⟨p, vs, a, b, c, d, k⟩ := h
    exact ⟨p, vs, a, e.h _ _ b, e.n p (by rw [b]; exact Option.some_ne_none _) c, d, k.mono e.g⟩
  | bw xs => exact h
  | fz xs =>
    obtain ⟨p, vs, a, b, k⟩ := h
    exact ⟨p, vs, a, e.g.seq b, k.mono e.g⟩
theorem EnvS.ext' {K : PySem.W.Frag} {G0 H0 G H G' H' : Hp} {σ : L2.St} {ρ : Rho} (I : EnvS K G0 H0 σ G H ρ) (e : Ext G H G' H') : EnvS K G0 H0 σ G' H' ρ :=
  ⟨I.ext.trans e, I.len, fun i r q => let ⟨v, a, b⟩ := I.slot i r q; ⟨v, a, b.ext e⟩, I.apart⟩
theorem EnvS.s {K : PySem.W.Frag} {G0 H0 G H : Hp} {σ : L2.St} {ρ : Rho} (I : EnvS K G0 H0 σ G H ρ) : Same G H := I.ext.s

/-! ### readings that follow a mirror -/
def XR (fs : List (Str × D)) (K : PySem.W.Frag) (d : Option Addr) (G H : Hp) : Prop :=
  (fs = [] ∧ d = none) ∨ ∃ dd fv, d = some dd ∧ fs ≠ [] ∧ H dd = some (.xd fv) ∧ fv.map (·.1) = fs.map (·.1) ∧ RpA K G (fv.map (·.2)) (fs.map (·.2))
/-- what is wanted behind a mirror's result; G, H: at the start -/
def RR (K : PySem.W.Frag) (mg : Str → Option Value) (W : WX) {α β : Type} (R : Hp → Hp → Hp → β → α → Prop) (σ : L2.St) (G H : Hp) (Q : β → Hp → Prop) : Res α → Prop
  | .ok r => ∀ G' H' v, Ext G H G' H' → R H G' H' v r → Q v H'
  | .ex n fs => ∀ G' H' C d, Ext G H G' H' → mg n = some (.ref C) → XR fs K d G' H' → W (.ref C) d σ H'
  | .no => False
abbrev RV (K : PySem.W.Frag) : Hp → Hp → Hp → V → Val → Prop := fun B G H v r => VR K B G H v r
abbrev RB : Hp → Hp → Hp → Bool → Bool → Prop := fun _ _ _ b c => b = c
abbrev RA (K : PySem.W.Frag) : Hp → Hp → Hp → List V → List Val → Prop := fun B G H vs rs => VRs K B G H vs rs
abbrev RO : Hp → Hp → Hp → Option Int → Option Int → Prop := fun _ _ _ b c => b = c
theorem RR.bnd {K : PySem.W.Frag} {mg : Str → Option Value} {W : WX} {α β γ δ : Type} {R1 : Hp → Hp → Hp → β → α → Prop} {R2 : Hp → Hp → Hp → δ → γ → Prop} {σ : L2.St} {G H G1 H1 : Hp} {Q : δ → Hp → Prop} {Q1 : β → Hp → Prop} {m : Res α} {f : α → Res γ}
    (e : Ext G H G1 H1) (h : RR K mg W R2 σ G H Q (m.bind f)) (k : ∀ a G2 H2 v, m = .ok a → Ext G1 H1 G2 H2 → R1 H1 G2 H2 v a → RR K mg W R2 σ G H Q (f a) → Q1 v H2) : RR K mg W R1 σ G1 H1 Q1 m := by
  cases m with
  | ok a => exact fun G2 H2 v e2 q => k a G2 H2 v rfl e2 q h
  | ex n fs => exact fun G' H' C d e' a b => h G' H' C d (e.trans e') a b
  | no => exact h

def Snd (K : PySem.W.Frag) (mg : Str → Option Value) (W : WX) (te : TE) (me : Rho → Res Val) : Prop :=
  ∀ (G0 H0 : Hp) (σ : L2.St) (G H : Hp) (ρ : Rho) (Q : VK), EnvS K G0 H0 σ G H ρ → RR K mg W (RV K) σ G H Q (me ρ) → te σ H Q
def SndT (K : PySem.W.Frag) (mg : Str → Option Value) (W : WX) (tt : TT) (me : Rho → Res Bool) : Prop :=
  ∀ (G0 H0 : Hp) (σ : L2.St) (G H : Hp) (ρ : Rho) (Q : Bool → Hp → Prop), EnvS K G0 H0 σ G H ρ → RR K mg W RB σ G H Q (me ρ) → tt σ H Q
def SndA (K : PySem.W.Frag) (mg : Str → Option Value) (W : WX) (ta : TA) (me : Rho → Res (List Val)) : Prop :=
  ∀ (G0 H0 : Hp) (σ : L2.St) (G H : Hp) (ρ : Rho) (Q : List V → Hp → Prop), EnvS K G0 H0 σ G H ρ → RR K mg W (RA K) σ G H Q (me ρ) → ta σ H Q
def SndO (K : PySem.W.Frag) (mg : Str → Option Value) (W : WX) (to : TO) (me : Rho → Res (Option Int)) : Prop :=
  ∀ (G0 H0 : Hp) (σ : L2.St) (G H : Hp) (ρ : Rho) (Q : Option Int → Hp → Prop), EnvS K G0 H0 σ G H ρ → RR K mg W RO σ G H Q (me ρ) → to σ H Q
def OutR (K : PySem.W.Frag) (mg : Str → Option Value) (W : WX) (G0 H0 Gs : Hp) (D : Ends) : Out → Prop
  | .nx ρ => ∀ σ G H, EnvS K G0 H0 σ G H ρ → Same Gs G → D.nx σ H
  | .bk ρ => ∀ σ G H, EnvS K G0 H0 σ G H ρ → Same Gs G → D.bk σ H
  | .ct ρ => ∀ σ G H, EnvS K G0 H0 σ G H ρ → Same Gs G → D.ct σ H
  | .rt r => ∀ G H v, Ext G0 H0 G H → VR K H0 G H v r → D.rt v H
  | .ex n fs ρ => ∀ σ G H C d, EnvS K G0 H0 σ G H ρ → Same Gs G → mg n = some (.ref C) → XR fs K d G H → W (.ref C) d σ H
  | .no => False
theorem OutR.up {K : PySem.W.Frag} {mg : Str → Option Value} {W : WX} {G0 H0 G G' : Hp} {D : Ends} {o : Out} (e : Same G G') (h : OutR K mg W G0 H0 G D o) : OutR K mg W G0 H0 G' D o := by
  cases o with
  | nx ρ => exact fun σ G1 H I s => h σ G1 H I (e.trans s)
  | bk ρ => exact fun σ G1 H I s => h σ G1 H I (e.trans s)
  | ct ρ => exact fun σ G1 H I s => h σ G1 H I (e.trans s)
  | rt r => exact h
  | ex n fs ρ => exact fun σ G1 H C d I s => h σ G1 H C d I (e.trans s)
  | no => exact h
def SndS (K : PySem.W.Frag) (mg : Str → Option Value) (W : WX) (ts : TS) (ms : Rho → Out) : Prop :=
  ∀ (G0 H0 : Hp) (σ : L2.St) (G H : Hp) (ρ : Rho) (D : Ends), EnvS K G0 H0 σ G H ρ → OutR K mg W G0 H0 G D (ms ρ) → ts D σ H

structure PM (X : Cx) (W : WX) (e : Expr) (te : TE) (me : Rho → Res Val) : Prop where
  p : PE X e te
  s : Snd X.K X.mg W te me
structure PMT (X : Cx) (W : WX) (e : Expr) (tt : TT) (me : Rho → Res Bool) : Prop where
  p : PT X e tt
  s : SndT X.K X.mg W tt me
structure PMW (X : Cx) (W : WX) (e : Expr) (tt : TT) (me : Rho → Res Bool) : Prop where
  p : PW X e tt
  s : SndT X.K X.mg W tt me
structure PMA (X : Cx) (W : WX) (es : List Expr) (ta : TA) (me : Rho → Res (List Val)) : Prop where
  p : PA X es ta
  s : SndA X.K X.mg W ta me
structure PMO (X : Cx) (W : WX) (e : Option Expr) (to : TO) (me : Rho → Res (Option Int)) : Prop where
  p : PO X e to
  s : SndO X.K X.mg W to me
structure PMS (X : Cx) (W : WX) (st : Stmt) (ts : TS) (ms : Rho → Out) : Prop where
  p : PS X st ts
  s : SndS X.K X.mg W ts ms
structure PMSs (X : Cx) (W : WX) (st : List Stmt) (ts : TS) (ms : Rho → Out) : Prop where
  p : PSs X st ts
  s : SndS X.K X.mg W ts ms

/-! ### names, constants -/
def look : Val → Val
  | .ow xs => .bw xs
  | r => r
def mVar (i : Nat) : Rho → Res Val := fun ρ => match ρ[i]? with
  | some (some r) => .ok (look r)
  | _ => .no
def mC (d : D) : Rho → Res Val := fun _ => .ok (.sh d)
section
variable {K : PySem.W.Frag} {mg : Str → Option Value} {W : WX}
theorem snd_var (i : Nat) : Snd K mg W (tVar i) (mVar i) := by
  intro G0 H0 σ G H ρ Q I h
  unfold mVar at h
  cases e : ρ[i]? with
  | none =>
    rw [e] at h
    exact h.elim
  | some o =>
    cases o with
    | none =>
      rw [e] at h
      exact h.elim
    | some r =>
      rw [e] at h
      obtain ⟨v, hv, hs⟩ := I.slot i r e
      refine ⟨v, hv, h G H v (Ext.refl I.s) ?_⟩
      cases r with
      | sh d => exact hs
      | ow xs =>
        obtain ⟨p, vs, a, b, c, d, k⟩ := hs
        exact ⟨p, vs, a, b, k⟩
      | bw xs => exact hs.elim
      | fz xs => exact hs
theorem snd_c {v : V} {d : D} (h : ∀ G, Rp K G v d) : Snd K mg W (tC v) (mC d) := fun G0 H0 σ G H ρ Q I q => q G H v (Ext.refl I.s) (h G)
end

/-! ### operators -/
/-- an operator on values follows a function on values -/
def OpS (K : PySem.W.Frag) (r : R2) (mo : Val → Val → Option Val) : Prop :=
  ∀ (B G H : Hp) (x y : V) (a b c : Val) (Q : VK), Same G H → VR K B G H x a → VR K B G H y b → mo a b = some c → (∀ G' H' v, Ext G H G' H' → VR K H G' H' v c → Q v H') → r x y H Q
def mOp (mo : Val → Val → Option Val) (ma mb : Rho → Res Val) : Rho → Res Val := fun ρ => (ma ρ).bind fun a => (mb ρ).bind fun b => lift (mo a b)
theorem RR.lift {K : PySem.W.Frag} {mg : Str → Option Value} {W : WX} {α β : Type} {R : Hp → Hp → Hp → β → α → Prop} {σ : L2.St} {G H : Hp} {Q : β → Hp → Prop} {o : Option α} (h : RR K mg W R σ G H Q (lift o)) :
    ∃ a, o = some a ∧ ∀ G' H' v, Ext G H G' H' → R H G' H' v a → Q v H' := by
  cases o with
  | none => exact h.elim
  | some a => exact ⟨a, rfl, h⟩
section
variable {K : PySem.W.Frag} {mg : Str → Option Value} {W : WX} {ta tb : TE} {ma mb : Rho → Res Val}
theorem snd_op {r : R2} {mo : Val → Val → Option Val} (ho : OpS K r mo) (ha : Snd K mg W ta ma) (hb : Snd K mg W tb mb) : Snd K mg W (tOp r ta tb) (mOp mo ma mb) := by
  intro G0 H0 σ G H ρ Q I h
  refine ha G0 H0 σ G H ρ _ I (RR.bnd (Ext.refl I.s) h fun a G1 H1 x ea e1 r1 h1 => ?_)
  refine hb G0 H0 σ G1 H1 ρ _ (I.ext' e1) (RR.bnd e1 h1 fun b G2 H2 y eb e2 r2 h2 => ?_)
  obtain ⟨c, ec, q⟩ := h2.lift
  exact ho H G2 H2 x y a b c Q e2.s (r1.ext e2) (r2.back e1.h) ec fun G' H' v e z => q G' H' v ((e1.trans e2).trans e) (z.back (e1.h.trans e2.h))
end
section
variable {X : Cx} {W : WX} {a b : Expr} {ta tb : TE} {ma mb : Rho → Res Val} {pos : Pos}
theorem pm_var (i : Nat) {x : Str} (hN : X.N[i]? = some x := by rfl) (hv : Vis X.env.scope x := by first | exact Or.inl rfl | exact Or.inr (Or.inl rfl) | exact Or.inr (Or.inr rfl)) (hd : (x == ("__debug__" : Str)) = false := by decide)
    (hcd : (x == ("__classdict__" : Str)) = false := by decide) : PM X W (.Name x pos) (tVar i) (mVar i) := ⟨pe_var hN hv hd hcd, snd_var i⟩
theorem pm_int {i : Int} {j : Nat} : PM X W (.Constant (.int i) j pos) (tC (.int i)) (mC (.int i)) := ⟨pe_int, snd_c fun _ => .int i⟩
theorem pm_bl {b : Bool} {j : Nat} : PM X W (.Constant (.bool b) j pos) (tC (.bl b)) (mC (.bool b)) := ⟨pe_bl, snd_c fun _ => .bl b⟩
theorem pm_non {j : Nat} : PM X W (.Constant .none j pos) (tC .non) (mC .none) := ⟨pe_non, snd_c fun _ => .non⟩
theorem pm_str {x : Str} {j : Nat} : PM X W (.Constant (.str x) j pos) (tC (.str x)) (mC (.str x)) := ⟨pe_str, snd_c fun _ => .str x⟩
theorem pm_glob {x : Str} {v : V} {u : Value} {d : D} (hg : Gl X x) (hm : X.mg x = some u) (r : RelV v u) (hd' : ∀ G, Rp X.K G v d) (hd : (x == ("__debug__" : Str)) = false := by decide) : PM X W (.Name x pos) (tC v) (mC d) := ⟨pe_glob hg hm r hd, snd_c hd'⟩
theorem pm_globI {x : Str} {i : Int} (hm : ∃ t, X.mg x = some (.int i t)) (hg : Gl X x := by rfl) (hd : (x == ("__debug__" : Str)) = false := by decide) : PM X W (.Name x pos) (tC (.int i)) (mC (.int i)) := by
  obtain ⟨t, e⟩ := hm
  exact pm_glob (v := .int i) hg e ⟨t, rfl⟩ (fun _ => .int i) hd
theorem pm_op {op : Operator} {r : R2} {mo : Val → Val → Option Val} (ho : OpR X (binaryOp op) r) (hs : OpS X.K r mo) (ha : PM X W a ta ma) (hb : PM X W b tb mb) : PM X W (.BinOp a op b pos) (tOp r ta tb) (mOp mo ma mb) :=
  ⟨pe_op ho ha.p hb.p, snd_op hs ha.s hb.s⟩
theorem pm_cmp {op : CmpOp} {r : R2} {mo : Val → Val → Option Val} (ho : OpR X (compareOp op) r) (hs : OpS X.K r mo) (ha : PM X W a ta ma) (hb : PM X W b tb mb) (hm : behindInMarks op b = false := by first | exact nomark _ | rfl) : PM X W (.Compare a [op] [b] pos) (tOp r ta tb) (mOp mo ma mb) :=
  ⟨pe_cmpR ho ha.p hb.p hm, snd_op hs ha.s hb.s⟩
theorem pm_ix {r : R2} {mo : Val → Val → Option Val} (hr : IxR X r) (hs : OpS X.K r mo) (ha : PM X W a ta ma) (hb : PM X W b tb mb) (hx : PlainIx b := by exact fun _ _ => rfl) : PM X W (.Subscript a b pos) (tOp r ta tb) (mOp mo ma mb) :=
  ⟨pe_ix hr ha.p hb.p hx, snd_op hs ha.s hb.s⟩
end
end Mi

namespace Mi
open PySem PySem.Spec PyProof.Rows L2

theorem sz_le {n : Nat} (h : n ≤ 100000) : n ≤ sizeLine := Nat.le_trans h (by decide)
theorem sz_lt {n : Nat} (h : n < 100000) : n < sizeLine := Nat.lt_of_lt_of_le h (by decide)

/-! ### ints -/
def oII (g : Int → Int → D) : Val → Val → Option Val
  | .sh (.int i), .sh (.int j) => some (.sh (g i j))
  | _, _ => none
def oIC (C : Int → Int → Bool) (g : Int → Int → D) : Val → Val → Option Val
  | .sh (.int i), .sh (.int j) => if C i j = true then some (.sh (g i j)) else none
  | _, _ => none
section
variable {K : PySem.W.Frag}
theorem oII_inv {g : Int → Int → D} {a b c : Val} (e : oII g a b = some c) : ∃ i j, a = .sh (.int i) ∧ b = .sh (.int j) ∧ c = .sh (g i j) := by
  unfold oII at e
  split at e
  · exact ⟨_, _, rfl, rfl, (Option.some.inj e).symm⟩
  · cases e
theorem oIC_inv {C : Int → Int → Bool} {g : Int → Int → D} {a b c : Val} (e : oIC C g a b = some c) : ∃ i j, a = .sh (.int i) ∧ b = .sh (.int j) ∧ C i j = true ∧ c = .sh (g i j) := by
  unfold oIC at e
  split at e
  · split at e
    · exact ⟨_, _, rfl, rfl, by assumption, (Option.some.inj e).symm⟩
    · cases e
  · cases e
theorem VR.int_ {B G H : Hp} {v : V} {i : Int} (h : VR K B G H v (.sh (.int i))) : v = .int i := by
  cases (show Rp K G v (.int i) from h)
  rfl
theorem VR.str_ {B G H : Hp} {v : V} {x : Str} (h : VR K B G H v (.sh (.str x))) : v = .str x := by
  cases (show Rp K G v (.str x) from h)
  rfl
theorem VR.bool_ {B G H : Hp} {v : V} {b : Bool} (h : VR K B G H v (.sh (.bool b))) : v = .bl b := by
  cases (show Rp K G v (.bool b) from h)
  rfl
theorem VR.non_ {B G H : Hp} {v : V} (h : VR K B G H v (.sh .none)) : v = .non := by
  cases (show Rp K G v .none from h)
  rfl
theorem VR.tup {B G H : Hp} {v : V} {ds : List D} (s : Same G H) (h : VR K B G H v (.sh (.tuple ds))) : ∃ p vs, v = .ref p ∧ SqT K H p vs ∧ RpA K G vs ds := by
  cases (show Rp K G v (.tuple ds) from h) with
  | tup q a => exact ⟨_, _, rfl, same_t s q, a⟩
theorem ops_I0 {gv : Int → Int → V} {gd : Int → Int → D} (h : ∀ G i j, Rp K G (gv i j) (gd i j)) : OpS K (rI0 gv) (oII gd) := by
  intro B G H x y a b c Q s ha hb e q
  obtain ⟨i, j, rfl, rfl, rfl⟩ := oII_inv e
  exact ⟨i, j, ha.int_, hb.int_, q G H _ (Ext.refl s) (h G i j)⟩
theorem ops_I {C : Int → Int → Prop} {Cb : Int → Int → Bool} {gv : Int → Int → V} {gd : Int → Int → D} (hC : ∀ i j, Cb i j = true → C i j) (h : ∀ G i j, Rp K G (gv i j) (gd i j)) : OpS K (rI C gv) (oIC Cb gd) := by
  intro B G H x y a b c Q s ha hb e q
  obtain ⟨i, j, rfl, rfl, hc, rfl⟩ := oIC_inv e
  exact ⟨i, j, ha.int_, hb.int_, hC i j hc, q G H _ (Ext.refl s) (h G i j)⟩
def oAddI := oII fun i j => .int (i + j)
def oSub := oII fun i j => .int (i - j)
def oLt := oII fun i j => .bool (decide (i < j))
def oLe := oII fun i j => .bool (decide (i ≤ j))
def oGt := oII fun i j => .bool (decide (j < i))
def oGe := oII fun i j => .bool (decide (j ≤ i))
def oMulI := oIC (fun i j => decide ((-(2 ^ 64) < i ∧ i < 2 ^ 64) ∨ (-(2 ^ 64) < j ∧ j < 2 ^ 64))) fun i j => .int (i * j)
def oMod := oIC (fun _ j => decide (0 < j)) fun i j => .int (i % j)
def oDiv := oIC (fun _ j => decide (0 < j ∧ j < 1073741824)) fun i j => .int (i / j)
def oPow := oIC (fun i j => decide (0 ≤ j ∧ j ≤ 1000000 ∧ i.natAbs < 2 ^ 64)) fun i j => .int (i ^ j.toNat)
theorem os_addI : OpS K (rI0 fun i j => .int (i + j)) oAddI := ops_I0 fun _ _ _ => .int _
theorem os_sub : OpS K (rI0 fun i j => .int (i - j)) oSub := ops_I0 fun _ _ _ => .int _
theorem os_lt : OpS K (rI0 fun i j => .bl (decide (i < j))) oLt := ops_I0 fun _ _ _ => .bl _
theorem os_le : OpS K (rI0 fun i j => .bl (decide (i ≤ j))) oLe := ops_I0 fun _ _ _ => .bl _
theorem os_gt : OpS K (rI0 fun i j => .bl (decide (j < i))) oGt := ops_I0 fun _ _ _ => .bl _
theorem os_ge : OpS K (rI0 fun i j => .bl (decide (j ≤ i))) oGe := ops_I0 fun _ _ _ => .bl _
theorem os_mulI : OpS K (rI CMul fun i j => .int (i * j)) oMulI := ops_I (fun i j h => (of_decide_eq_true h : (-(2 ^ 64) < i ∧ i < 2 ^ 64) ∨ (-(2 ^ 64) < j ∧ j < 2 ^ 64))) fun _ _ _ => .int _
theorem os_mod : OpS K (rI (fun _ j => 0 < j) fun i j => .int (i % j)) oMod := ops_I (fun _ _ h => of_decide_eq_true h) fun _ _ _ => .int _
theorem os_div : OpS K (rI CDiv fun i j => .int (i / j)) oDiv := ops_I (fun _ j h => (of_decide_eq_true h : 0 < j ∧ j < 1073741824)) fun _ _ _ => .int _
theorem os_pow : OpS K (rI CPow fun i j => .int (i ^ j.toNat)) oPow := ops_I (fun i j h => (of_decide_eq_true h : 0 ≤ j ∧ j ≤ 1000000 ∧ i.natAbs < 2 ^ 64)) fun _ _ _ => .int _
end

/-! ### either of two -/
def r2or (r r' : R2) : R2 := fun x y H Q => r x y H Q ∨ r' x y H Q
theorem or_op {X : Cx} {f : Value → Value → Sem Value} {r r' : R2} (h : OpR X f r) (h' : OpR X f r') : OpR X f (r2or r r') := by
  intro pins s σ H x y v u Q I rx ry hq
  rcases hq with hq | hq
  · exact h pins s σ H x y v u Q I rx ry hq
  · exact h' pins s σ H x y v u Q I rx ry hq
def oOr (m m' : Val → Val → Option Val) : Val → Val → Option Val := fun a b => match m a b with
  | some c => some c
  | none => m' a b
theorem os_or {K : PySem.W.Frag} {r r' : R2} {m m' : Val → Val → Option Val} (h : OpS K r m) (h' : OpS K r' m') : OpS K (r2or r r') (oOr m m') := by
  intro B G H x y a b c Q s ha hb e q
  unfold oOr at e
  cases e1 : m a b with
  | some d =>
    rw [e1] at e
    cases e
    exact .inl (h B G H x y a b _ Q s ha hb e1 q)
  | none =>
    rw [e1] at e
    exact .inr (h' B G H x y a b _ Q s ha hb e q)

/-! ### lists and texts by operators -/
def oCat : Val → Val → Option Val := fun a b => match tlit a, tlit b with
  | some xs, some ys => if xs.length + ys.length ≤ 100000 then some (.ow (xs ++ ys)) else none
  | _, _ => none
theorem os_cat {K : PySem.W.Frag} : OpS K rCat oCat := by
  intro B G H x y a b c Q s ha hb e q
  unfold oCat at e
  split at e
  · split at e
    · rename_i xs ys e1 e2 hl
      obtain ⟨p, vs, rfl, hp, ka⟩ := ha.tlist s e1
      obtain ⟨p', us, rfl, hp', kb⟩ := hb.tlist s e2
      cases e
      refine ⟨p, p', vs, us, rfl, rfl, hp, hp', ?_, fun t ht => ?_⟩
      · rw [ka.length, kb.length]
        exact sz_le hl
      · exact q G _ _ (Ext.newO s ht) ⟨t, _, rfl, upd_same, s.free ht, ht, ka.append kb⟩
    · cases e
  · cases e
def oStrCat : Val → Val → Option Val
  | .sh (.str x), .sh (.str y) => if x.length + y.length ≤ 100000 then some (.sh (.str (x ++ y))) else none
  | _, _ => none
theorem os_strcat {K : PySem.W.Frag} : OpS K (fun x y H Q => ∃ i j, x = .str i ∧ y = .str j ∧ i.length + j.length ≤ sizeLine ∧ Q (.str (i ++ j)) H) oStrCat := by
  intro B G H x y a b c Q s ha hb e q
  unfold oStrCat at e
  split at e
  · split at e
    · rename_i hl
      cases e
      exact ⟨_, _, ha.str_, hb.str_, sz_le hl, q G H _ (Ext.refl s) (.str _)⟩
    · cases e
  · cases e
def oAdd := oOr oAddI (oOr oStrCat oCat)
def rep (xs : List D) : Nat → List D
  | 0 => []
  | n + 1 => xs ++ rep xs n
def oRep : Val → Val → Option Val := fun a b => match tlit a, b with
  | some [d], .sh (.int k) => if 0 ≤ k ∧ k ≤ 100000 then some (.ow (List.replicate k.toNat d)) else none
  | _, _ => none
def oMul := oOr oMulI oRep
def oEq : Val → Val → Option Val := fun a b => match dat a, dat b with
  | some d, some e => if (SeqAt.shaped d && SeqAt.shaped e) = true then some (.sh (.bool (PyData.eqv d e))) else none
  | _, _ => none
def oNe : Val → Val → Option Val := fun a b => match dat a, dat b with
  | some d, some e => if (SeqAt.shaped d && SeqAt.shaped e) = true then some (.sh (.bool (!PyData.eqv d e))) else none
  | _, _ => none
mutual
theorem noDict_lay : ∀ {d : D}, d.canLay0 = true → d.hasDict = false
  | .none, _ => by rw [PyData.hasDict]
  | .bool _, _ => by rw [PyData.hasDict]
  | .int _, _ => by rw [PyData.hasDict]
  | .str _, _ => by rw [PyData.hasDict]
  | .list xs, h => by
    rw [PyData.canLay0] at h
    rw [PyData.hasDict]
    exact noDict_lays h
  | .tuple xs, h => by
    rw [PyData.canLay0] at h
    rw [PyData.hasDict]
    exact noDict_lays h
  | .dict _, h => by
    rw [PyData.canLay0] at h
    cases h
theorem noDict_lays : ∀ {ds : List D}, PyData.canLayAll0 ds = true → PyData.hasDictAll ds = false
  | [], _ => by rw [PyData.hasDictAll]
  | d :: ds, h => by
    rw [PyData.canLayAll0, Bool.and_eq_true] at h
    rw [PyData.hasDictAll, noDict_lay h.1, noDict_lays h.2]
    rfl
end
theorem noDict_shaped {d : D} (h : SeqAt.shaped d = true) : d.hasDict = false := noDict_lay (SeqAt.canLay_of_shaped h)
theorem os_eq {K : PySem.W.Frag} : OpS K (rEqD K) oEq := by
  intro B G H x y a b c Q s ha hb e q
  unfold oEq at e
  split at e
  · split at e
    · rename_i d d' e1 e2 hl
      cases e
      rw [Bool.and_eq_true] at hl
      exact ⟨d, d', ha.dp s e1 (noDict_shaped hl.1), hb.dp s e2 (noDict_shaped hl.2), hl.1, hl.2, q G H _ (Ext.refl s) (.bl _)⟩
    · cases e
  · cases e
theorem os_ne {K : PySem.W.Frag} : OpS K (rNeD K) oNe := by
  intro B G H x y a b c Q s ha hb e q
  unfold oNe at e
  split at e
  · split at e
    · rename_i d d' e1 e2 hl
      cases e
      rw [Bool.and_eq_true] at hl
      exact ⟨d, d', ha.dp s e1 (noDict_shaped hl.1), hb.dp s e2 (noDict_shaped hl.2), hl.1, hl.2, q G H _ (Ext.refl s) (.bl _)⟩
    · cases e
  · cases e
/-- x is None -/
def isNone : Val → Bool
  | .sh .none => true
  | _ => false
def oIsN (neg : Bool) : Val → Val → Option Val
  | a, .sh .none => some (.sh (.bool (if neg then !isNone a else isNone a)))
  | _, _ => none
theorem isNone_of {K : PySem.W.Frag} {B G H : Hp} {v : V} {a : Val} (h : VR K B G H v a) : decide (v = .non) = isNone a := by
  cases a with
  | sh d =>
    have h : Rp K G v d := h
    cases h <;> rfl
  | ow xs =>
    obtain ⟨p, vs, rfl, _⟩ := h
    rfl
  | bw xs =>
    obtain ⟨p, vs, rfl, _⟩ := h
    rfl
  | fz xs =>
    obtain ⟨p, vs, rfl, _⟩ := h
    rfl
theorem os_isN {K : PySem.W.Frag} : OpS K (fun x y H Q => y = .non ∧ Q (.bl (decide (x = .non))) H) (oIsN false) := by
  intro B G H x y a b c Q s ha hb e q
  unfold oIsN at e
  split at e
  · cases e
    refine ⟨hb.non_, ?_⟩
    rw [isNone_of ha]
    exact q G H _ (Ext.refl s) (.bl _)
  · cases e
theorem os_notN {K : PySem.W.Frag} : OpS K (fun x y H Q => y = .non ∧ Q (.bl (!decide (x = .non))) H) (oIsN true) := by
  intro B G H x y a b c Q s ha hb e q
  unfold oIsN at e
  split at e
  · cases e
    refine ⟨hb.non_, ?_⟩
    rw [isNone_of ha]
    exact q G H _ (Ext.refl s) (.bl _)
  · cases e
/-- x in xs, flat -/
def flatD : D → Bool
  | .none => true
  | .bool _ => true
  | .int _ => true
  | .str _ => true
  | _ => false
def inD (d : D) (xs : List D) : Bool := xs.any fun z => PyData.eqv z d
theorem flat_of {K : PySem.W.Frag} {G : Hp} {v : V} {d : D} (h : Rp K G v d) : flatV v = flatD d := by
  cases h <;> rfl
theorem eqv_of {K : PySem.W.Frag} {G : Hp} {v u : V} {d e : D} (h : Rp K G v d) (k : Rp K G u e) (f : flatD d = true) (g : flatD e = true) : eqV v u = PyData.eqv d e := by
  cases h <;> cases k <;> first | rfl | (simp [eqV, PyData.eqv]; done) | (cases f; done) | (cases g; done) | (simp only [eqV, PyData.eqv])
theorem flats_of {K : PySem.W.Frag} {G : Hp} : ∀ {xs : List D} {vs : List V}, RpA K G vs xs → vs.all flatV = xs.all flatD
  | [], _, .nil => rfl
  | _ :: _, _, .cons h a => by rw [List.all_cons, List.all_cons, flat_of h, flats_of a]
theorem inV_of {K : PySem.W.Frag} {G : Hp} {v : V} {d : D} (h : Rp K G v d) (f : flatD d = true) : ∀ {xs : List D} {vs : List V}, RpA K G vs xs → xs.all flatD = true → inV v vs = inD d xs
  | [], _, .nil, _ => rfl
  | x :: xs, _, .cons k a, g => by
    rw [List.all_cons, Bool.and_eq_true] at g
    have ih := inV_of h f a g.2
    unfold inV inD at ih ⊢
    rw [List.any_cons, List.any_cons, ih, eqv_of k h g.1 f]
def seqOf : Val → Option (List D)
  | .sh (.tuple xs) => some xs
  | r => lit r
def oIn (neg : Bool) : Val → Val → Option Val := fun a b => match a, seqOf b with
  | .sh d, some xs => if (flatD d && xs.all flatD) = true then some (.sh (.bool (if neg then !inD d xs else inD d xs))) else none
  | _, _ => none
theorem VR.seq {K : PySem.W.Frag} {B G H : Hp} {v : V} {r : Val} {xs : List D} (s : Same G H) (h : VR K B G H v r) (e : seqOf r = some xs) : ∃ p vs, v = .ref p ∧ (SqL K H p vs ∨ SqT K H p vs) ∧ RpA K G vs xs := by
  unfold seqOf at e
  split at e
  · cases e
    obtain ⟨p, vs, a, b, c⟩ := h.tup s
    exact ⟨p, vs, a, .inr b, c⟩
  · obtain ⟨p, vs, a, b, c⟩ := h.list s e
    exact ⟨p, vs, a, .inl b, c⟩
theorem os_in {K : PySem.W.Frag} {neg : Bool} : OpS K (rIn K neg) (oIn neg) := by
  intro B G H x y a b c Q s ha hb e q
  unfold oIn at e
  split at e
  · split at e
    · rename_i d xs e2 hl
      cases e
      rw [Bool.and_eq_true] at hl
      obtain ⟨p, vs, rfl, hp, k⟩ := hb.seq s e2
      have hd : Rp K G x d := ha
      refine ⟨p, vs, rfl, hp, ?_, ?_, ?_⟩
      · rw [flat_of hd]
        exact hl.1
      · rw [flats_of k]
        exact hl.2
      · rw [inV_of hd hl.1 k hl.2]
        exact q G H _ (Ext.refl s) (.bl _)
    · cases e
  · cases e
/-- s in t, texts -/
def oInS (neg : Bool) : Val → Val → Option Val
  | .sh (.str i), .sh (.str j) => some (.sh (.bool (if neg then !(!(Builtin.Str.occurrences j i 0 j.length 1).isEmpty) else !(Builtin.Str.occurrences j i 0 j.length 1).isEmpty)))
  | _, _ => none
theorem os_inS {K : PySem.W.Frag} : OpS K (fun x y H Q => ∃ i j, x = .str i ∧ y = .str j ∧ Q (.bl (!(Builtin.Str.occurrences j i 0 j.length 1).isEmpty)) H) (oInS false) := by
  intro B G H x y a b c Q s ha hb e q
  unfold oInS at e
  split at e
  · cases e
    exact ⟨_, _, ha.str_, hb.str_, q G H _ (Ext.refl s) (.bl _)⟩
  · cases e
theorem os_notInS {K : PySem.W.Frag} : OpS K (fun x y H Q => ∃ i j, x = .str i ∧ y = .str j ∧ Q (.bl (!(!(Builtin.Str.occurrences j i 0 j.length 1).isEmpty))) H) (oInS true) := by
  intro B G H x y a b c Q s ha hb e q
  unfold oInS at e
  split at e
  · cases e
    exact ⟨_, _, ha.str_, hb.str_, q G H _ (Ext.refl s) (.bl _)⟩
  · cases e
/-- xs[i] -/
def oIx : Val → Val → Option Val := fun a b => match a, b with
  | .sh (.str z), .sh (.int i) => if z.length ≤ 100000 then (atI z.cps.toList i).map fun c => .sh (.str ⟨#[c]⟩) else none
  | a, .sh (.int i) => match seqOf a with
    | some xs => (atI xs i).map .sh
    | none => none
  | _, _ => none
theorem atI_of {K : PySem.W.Frag} {G : Hp} {xs : List D} {vs : List V} {i : Int} {d : D} (k : RpA K G vs xs) (e : atI xs i = some d) : ∃ v, atI vs i = some v ∧ Rp K G v d := by
  unfold atI at e ⊢
  rw [k.length]
  cases h : ixN xs.length i with
  | none =>
    rw [h] at e
    cases e
  | some j =>
    rw [h] at e
    exact k.get e
theorem os_ix {K : PySem.W.Frag} : OpS K (rIx K) oIx := by
  intro B G H x y a b c Q s ha hb e q
  unfold oIx at e
  split at e
  · split at e
    · rename_i z i hl
      cases h : atI z.cps.toList i with
      | none =>
        rw [h] at e
        cases e
      | some cc =>
        rw [h] at e
        cases e
        exact .inr (.inr ⟨z, i, cc, ha.str_, hb.int_, sz_le hl, h, q G H _ (Ext.refl s) (.str _)⟩)
    · cases e
  · rename_i i _
    split at e
    · rename_i xs e2
      cases h : atI xs i with
      | none =>
        rw [h] at e
        cases e
      | some d =>
        rw [h] at e
        cases e
        obtain ⟨p, vs, rfl, hp, k⟩ := ha.seq s e2
        obtain ⟨v, ev, rv⟩ := atI_of k h
        rcases hp with hp | hp
        · exact .inl ⟨p, vs, i, v, rfl, hb.int_, hp, ev, q G H _ (Ext.refl s) rv⟩
        · exact .inr (.inl ⟨p, vs, i, v, rfl, hb.int_, hp, ev, q G H _ (Ext.refl s) rv⟩)
    · cases e
  · cases e
theorem rpa_replicate {K : PySem.W.Frag} {G : Hp} {v : V} {d : D} (h : Rp K G v d) : ∀ n, RpA K G (List.replicate n v) (List.replicate n d)
  | 0 => .nil
  | n + 1 => .cons h (rpa_replicate h n)
theorem flat_rep {α : Type} (v : α) : ∀ n, (List.replicate n [v]).flatten = List.replicate n v
  | 0 => rfl
  | n + 1 => by
    rw [List.replicate_succ, List.flatten_cons, flat_rep v n]
    rfl
theorem rpa_one {K : PySem.W.Frag} {G : Hp} {d : D} {vs : List V} (h : RpA K G vs [d]) : ∃ v, vs = [v] ∧ Rp K G v d := by
  cases h with
  | cons a b =>
    cases b
    exact ⟨_, rfl, a⟩
theorem os_rep {K : PySem.W.Frag} : OpS K rRep oRep := by
  intro B G H x y a b c Q s ha hb e q
  unfold oRep at e
  split at e
  · split at e
    · rename_i d k e1 hl
      obtain ⟨p, vs, rfl, hp, ka⟩ := ha.tlist s e1
      obtain ⟨v, rfl, rv⟩ := rpa_one ka
      cases e
      refine ⟨p, k, [v], rfl, hb.int_, hp, by omega, by omega, ?_, fun t ht => ?_⟩
      · show 1 * k.toNat ≤ _
        exact sz_le (by omega)
      · rw [flat_rep]
        exact q G _ _ (Ext.newO s ht) ⟨t, _, rfl, upd_same, s.free ht, ht, rpa_replicate rv _⟩
    · cases e
  · cases e
end Mi

namespace Mi
open PySem PySem.Spec PyProof.Rows L2

/-! ### argument lists -/
def mNil : Rho → Res (List Val) := fun _ => .ok []
def mCons (ma : Rho → Res Val) (mr : Rho → Res (List Val)) : Rho → Res (List Val) := fun ρ => (ma ρ).bind fun a => (mr ρ).bind fun r => .ok (a :: r)
section
variable {K : PySem.W.Frag} {mg : Str → Option Value} {W : WX} {ta tb : TE} {ma mb : Rho → Res Val} {tr : TA} {mr : Rho → Res (List Val)}
theorem snd_nil : SndA K mg W tNil mNil := fun G0 H0 σ G H ρ Q I q => q G H [] (Ext.refl I.s) .nil
theorem snd_cons (ha : Snd K mg W ta ma) (hr : SndA K mg W tr mr) : SndA K mg W (tCons ta tr) (mCons ma mr) := by
  intro G0 H0 σ G H ρ Q I h
  refine ha G0 H0 σ G H ρ _ I (RR.bnd (Ext.refl I.s) h fun a G1 H1 x ea e1 r1 h1 => ?_)
  refine hr G0 H0 σ G1 H1 ρ _ (I.ext' e1) (RR.bnd e1 h1 fun r G2 H2 y eb e2 r2 h2 => ?_)
  exact h2 G2 H2 (x :: y) (e1.trans e2) (.cons (r1.ext e2) (r2.back e1.h))
end
section
variable {X : Cx} {W : WX} {a b c : Expr} {es : List Expr} {ta tb tc : TE} {tr : TA} {ma mb mc : Rho → Res Val} {mr : Rho → Res (List Val)} {pos : Pos}
theorem pma_nil : PMA X W [] tNil mNil := ⟨pa_nil, snd_nil⟩
theorem pma_cons (ha : PM X W a ta ma) (hr : PMA X W es tr mr) (hs : starEach (a :: es) X.env = (false, eval a X.env) :: starEach es X.env := by rfl) : PMA X W (a :: es) (tCons ta tr) (mCons ma mr) := ⟨pa_cons ha.p hr.p hs, snd_cons ha.s hr.s⟩
end

/-! ### what is handed on as data -/
def esc : Val → Option D
  | .sh d => some d
  | .ow xs => some (.list xs)
  | _ => none
def VW (K : PySem.W.Frag) (B G H : Hp) (v : V) : Val → Prop
  | .sh d => Rp K G v d
  | .ow xs => ∃ p vs, v = .ref p ∧ H p = some (.lst vs) ∧ B p = none ∧ RpA K G vs xs
  | _ => True
theorem VR.vw {K : PySem.W.Frag} {B G H : Hp} {v : V} {r : Val} (h : VR K B G H v r) : VW K B G H v r := by
  cases r with
  | sh d => exact h
  | ow xs =>
    obtain ⟨p, vs, a, b, _, c, k⟩ := h
    exact ⟨p, vs, a, b, c, k⟩
  | bw xs => trivial
  | fz xs => trivial
theorem VW.up {K : PySem.W.Frag} {B G G' H : Hp} {v : V} {r : Val} (e : Same G G') (h : VW K B G H v r) : VW K B G' H v r := by
  cases r with
  | sh d => exact Rp.mono e h
  | ow xs =>
    obtain ⟨p, vs, a, b, c, k⟩ := h
    exact ⟨p, vs, a, b, c, k.mono e⟩
  | bw xs => trivial
  | fz xs => trivial
/-- an own list made steady -/
theorem Ext.frz {Gs Hs G H : Hp} {p : Addr} {o : HO} (e : Ext Gs Hs G H) (hp : H p = some o) (hb : Hs p = none) (hg : G p = none) : Ext Gs Hs (upd G p o) H := by
  refine ⟨e.h, e.g.trans (same_new hg), fun b u q => ?_, fun q hq hg' => ?_⟩
  · by_cases hb' : b = p
    · subst hb'
      rw [upd_same] at q
      rw [← q]
      exact hp
    · rw [upd_ne hb'] at q
      exact e.s _ _ q
  · have z : q ≠ p := fun z => hq (z ▸ hb)
    rw [upd_ne z]
    exact e.n q hq hg'
theorem esc_one {K : PySem.W.Frag} {Gs Hs G H : Hp} {v : V} {r : Val} {d : D} (e : Ext Gs Hs G H) (h : VW K Hs G H v r) (he : esc r = some d) : ∃ G', Ext Gs Hs G' H ∧ Same G G' ∧ Rp K G' v d := by
  cases r with
  | sh d' =>
    cases he
    exact ⟨G, e, Same.refl _, h⟩
  | ow xs =>
    cases he
    obtain ⟨p, vs, rfl, b, c, k⟩ := h
    cases g : G p with
    | none =>
      have s : Same G (upd G p (.lst vs)) := same_new g
      exact ⟨_, e.frz b c g, s, .lst upd_same (k.mono s)⟩
    | some o =>
      have q := e.s _ _ g
      rw [b] at q
      cases q
      exact ⟨G, e, Same.refl _, .lst g k⟩
  | bw xs => cases he
  | fz xs => cases he
def escs : List Val → Option (List D)
  | [] => some []
  | r :: rs => match esc r, escs rs with
    | some d, some ds => some (d :: ds)
    | _, _ => none
theorem esc_all {K : PySem.W.Frag} {Gs Hs H : Hp} : ∀ {rs : List Val} {vs : List V} {G : Hp} {ds : List D}, Ext Gs Hs G H → VRs K Hs G H vs rs → escs rs = some ds → ∃ G', Ext Gs Hs G' H ∧ Same G G' ∧ RpA K G' vs ds := by
  have core : ∀ {rs : List Val} {vs : List V} {G : Hp} {ds : List D}, Ext Gs Hs G H → Paired (fun v r => VW K Hs G H v r) vs rs → escs rs = some ds → ∃ G', Ext Gs Hs G' H ∧ Same G G' ∧ RpA K G' vs ds := by
    intro rs
    induction rs with
    | nil =>
      intro vs G ds e h he
      cases h
      cases he
      exact ⟨G, e, Same.refl _, .nil⟩
    | cons r rs ih =>
      intro vs G ds e h he
      cases h with
      | cons h1 h2 =>
        unfold escs at he
        split at he
        · rename_i d ds' e1 e2
          cases he
          obtain ⟨G1, x1, s1, k1⟩ := esc_one e h1 e1
          have h2' : Paired (fun v r => VW K Hs G1 H v r) ‹List V› rs := by
            clear ih e2
            induction h2 with
            | nil => exact .nil
            | cons a b ih => exact .cons (a.up s1) ih
          obtain ⟨G2, x2, s2, k2⟩ := ih x1 h2' e2
          exact ⟨G2, x2, s1.trans s2, .cons (k1.mono s2) k2⟩
        · cases he
  intro rs vs G ds e h he
  refine core e ?_ he
  clear he
  induction h with
  | nil => exact .nil
  | cons a b ih => exact .cons a.vw ih

/-! ### displays -/
def mLst (ma : Rho → Res (List Val)) : Rho → Res Val := fun ρ => (ma ρ).bind fun as => lift (match escs as with
  | some ds => if ds.length ≤ 100000 then some (.ow ds) else none
  | none => none)
def mTup (ma : Rho → Res (List Val)) : Rho → Res Val := fun ρ => (ma ρ).bind fun as => lift (match escs as with
  | some ds => if ds.length ≤ 100000 then some (.sh (.tuple ds)) else none
  | none => none)
section
variable {K : PySem.W.Frag} {mg : Str → Option Value} {W : WX} {tr : TA} {mr : Rho → Res (List Val)}
theorem snd_lst (ha : SndA K mg W tr mr) : Snd K mg W (tLst tr) (mLst mr) := by
  intro G0 H0 σ G H ρ Q I h
  refine ha G0 H0 σ G H ρ _ I (RR.bnd (Ext.refl I.s) h fun a G1 H1 x ea e1 r1 h1 => ?_)
  obtain ⟨c, ec, q⟩ := h1.lift
  split at ec
  · split at ec
    · rename_i ds e2 hl
      cases ec
      obtain ⟨G2, x2, s2, k2⟩ := esc_all e1 r1 e2
      refine ⟨?_, fun p hp => ?_⟩
      · rw [k2.length]
        exact sz_le hl
      · have hp0 : H p = none := e1.h.free hp
        exact q G2 _ _ (x2.trans (Ext.newO x2.s hp)) ⟨p, x, rfl, upd_same, x2.s.free hp, hp0, k2⟩
    · cases ec
  · cases ec
theorem snd_tup (ha : SndA K mg W tr mr) : Snd K mg W (tTup tr) (mTup mr) := by
  intro G0 H0 σ G H ρ Q I h
  refine ha G0 H0 σ G H ρ _ I (RR.bnd (Ext.refl I.s) h fun a G1 H1 x ea e1 r1 h1 => ?_)
  obtain ⟨c, ec, q⟩ := h1.lift
  split at ec
  · split at ec
    · rename_i ds e2 hl
      cases ec
      obtain ⟨G2, x2, s2, k2⟩ := esc_all e1 r1 e2
      refine ⟨?_, fun p hp => ?_⟩
      · rw [k2.length]
        exact sz_le hl
      · exact q _ _ _ (x2.trans (Ext.newS x2.s hp)) (Rp.tup (.inl (.inl upd_same)) (k2.mono (same_new (x2.s.free hp))))
    · cases ec
  · cases ec
end
section
variable {X : Cx} {W : WX} {a b c e : Expr} {es : List Expr} {ta tb tc te : TE} {tr : TA} {tA tB : TT} {ma mb mc me : Rho → Res Val} {mA mB : Rho → Res Bool} {mr : Rho → Res (List Val)} {pos : Pos}
theorem pm_lst (h : PMA X W es tr mr) : PM X W (.List es pos) (tLst tr) (mLst mr) := ⟨pe_lst h.p, snd_lst h.s⟩
theorem pm_tup {x1} (h : PMA X W es tr mr) : PM X W (.Tuple es x1 pos) (tTup tr) (mTup mr) := ⟨pe_tup h.p, snd_tup h.s⟩
end

/-! ### calls of built-ins -/
def CallS (K : PySem.W.Frag) (r : List V → Hp → VK → Prop) (mo : List Val → Option Val) : Prop :=
  ∀ (B G H : Hp) (vs : List V) (as : List Val) (c : Val) (Q : VK), Same G H → VRs K B G H vs as → mo as = some c → (∀ G' H' v, Ext G H G' H' → VR K H G' H' v c → Q v H') → r vs H Q
def mCall (mo : List Val → Option Val) (ma : Rho → Res (List Val)) : Rho → Res Val := fun ρ => (ma ρ).bind fun as => lift (mo as)
section
variable {K : PySem.W.Frag} {mg : Str → Option Value} {W : WX} {ta : TA} {ma : Rho → Res (List Val)}
theorem snd_call {r : List V → Hp → VK → Prop} {mo : List Val → Option Val} (ho : CallS K r mo) (ha : SndA K mg W ta ma) : Snd K mg W (tCB r ta) (mCall mo ma) := by
  intro G0 H0 σ G H ρ Q I h
  refine ha G0 H0 σ G H ρ _ I (RR.bnd (Ext.refl I.s) h fun a G1 H1 x ea e1 r1 h1 => ?_)
  obtain ⟨c, ec, q⟩ := h1.lift
  exact ho H G1 H1 x a c Q e1.s r1 ec fun G' H' v e z => q G' H' v (e1.trans e) (z.back e1.h)
end
section
variable {X : Cx} {W : WX} {e : Expr} {es : List Expr} {ta : TA} {ma : Rho → Res (List Val)} {p pos : Pos} {id : String} {x : Str} {r : List V → Hp → VK → Prop} {mo : List Val → Option Val} {T : String}
theorem pm_callB (hc : CallR X (.builtin id) r) (hs : CallS X.K r mo) (hm : X.mg x = none) (hv : bootBuiltins x = some (.builtin id)) (ha : PMA X W (e :: es) ta ma) (hg : Gl X x := by rfl) (hn : x ≠ "__name__" := by decide) (hdb : (x == ("__debug__" : Str)) = false := by decide)
    (he : starEach (e :: es) X.env = (false, eval e X.env) :: starEach es X.env := by rfl) (hpl : (backTo pos (starEach es X.env)).any (·.1) = false := by rfl) : PM X W (.Call (.Name x p) (e :: es) [] pos) (tCB r ta) (mCall mo ma) :=
  ⟨pe_callB hc hg hm hv ha.p hn hdb he hpl, snd_call hs ha.s⟩
theorem pm_callTy (hc : CallR X (.type T) r) (hs : CallS X.K r mo) (hm : X.mg x = none) (hv : bootBuiltins x = some (.type T)) (ha : PMA X W (e :: es) ta ma) (hg : Gl X x := by rfl) (hn : x ≠ "__name__" := by decide) (hdb : (x == ("__debug__" : Str)) = false := by decide)
    (he : starEach (e :: es) X.env = (false, eval e X.env) :: starEach es X.env := by rfl) (hpl : (backTo pos (starEach es X.env)).any (·.1) = false := by rfl) : PM X W (.Call (.Name x p) (e :: es) [] pos) (tCB r ta) (mCall mo ma) :=
  ⟨pe_callTy hc hg hm hv ha.p hn hdb he hpl, snd_call hs ha.s⟩
end
theorem vrs1 {K : PySem.W.Frag} {B G H : Hp} {vs : List V} {a : Val} (h : VRs K B G H vs [a]) : ∃ v, vs = [v] ∧ VR K B G H v a := by
  cases h with
  | cons h1 h2 =>
    cases h2
    exact ⟨_, rfl, h1⟩
theorem vrs2 {K : PySem.W.Frag} {B G H : Hp} {vs : List V} {a b : Val} (h : VRs K B G H vs [a, b]) : ∃ v u, vs = [v, u] ∧ VR K B G H v a ∧ VR K B G H u b := by
  cases h with
  | cons h1 h2 =>
    obtain ⟨u, rfl, h3⟩ := vrs1 h2
    exact ⟨_, u, rfl, h1, h3⟩
/-- len -/
def cLen : List Val → Option Val
  | [.sh (.str z)] => if z.length ≤ 100000 then some (.sh (.int z.length)) else none
  | [a] => match seqOf a with
    | some xs => some (.sh (.int xs.length))
    | none => none
  | _ => none
theorem cs_len {K : PySem.W.Frag} : CallS K (fun xs H Q => ∃ x n, xs = [x] ∧ LenV K x H n ∧ Q (.int n) H) cLen := by
  intro B G H vs as c Q s h e q
  unfold cLen at e
  split at e
  · split at e
    · rename_i z hl
      cases e
      obtain ⟨v, rfl, h1⟩ := vrs1 h
      cases h1.str_
      exact ⟨_, z.length, rfl, ⟨sz_le hl, rfl⟩, q G H _ (Ext.refl s) (Rp.int _)⟩
    · cases e
  · split at e
    · rename_i xs e2
      cases e
      obtain ⟨v, rfl, h1⟩ := vrs1 h
      obtain ⟨p, us, rfl, hp, k⟩ := h1.seq s e2
      refine ⟨_, us.length, rfl, ?_, ?_⟩
      · rcases hp with hp | hp
        · exact .inl ⟨us, hp, rfl⟩
        · exact .inr ⟨us, hp, rfl⟩
      · rw [k.length]
        exact q G H _ (Ext.refl s) (Rp.int _)
    · cases e
  · cases e
/-- list(xs) -/
def cList : List Val → Option Val
  | [a] => match seqOf a with
    | some xs => some (.ow xs)
    | none => none
  | _ => none
theorem cs_list {K : PySem.W.Frag} : CallS K (fun xs H Q => ∃ p ys, xs = [.ref p] ∧ (SqL K H p ys ∨ SqT K H p ys) ∧ ∀ l, H l = none → Q (.ref l) (upd H l (.lst ys))) cList := by
  intro B G H vs as c Q s h e q
  unfold cList at e
  split at e
  · split at e
    · rename_i xs e2
      cases e
      obtain ⟨v, rfl, h1⟩ := vrs1 h
      obtain ⟨p, us, rfl, hp, k⟩ := h1.seq s e2
      exact ⟨p, us, rfl, hp, fun l hl => q G _ _ (Ext.newO s hl) ⟨l, us, rfl, upd_same, s.free hl, hl, k⟩⟩
    · cases e
  · cases e
/-- ints -/
def intOf : D → Option Int
  | .int i => some i
  | _ => none
def intsOf : List D → Option (List Int)
  | [] => some []
  | d :: ds => match intOf d, intsOf ds with
    | some i, some ns => some (i :: ns)
    | _, _ => none
theorem intOf_rp {K : PySem.W.Frag} {G : Hp} {d : D} {v : V} {i : Int} (h : Rp K G v d) (e : intOf d = some i) : v = .int i ∧ d = .int i := by
  cases h <;> cases e
  exact ⟨rfl, rfl⟩
theorem intsOf_rp {K : PySem.W.Frag} {G : Hp} : ∀ {ds : List D} {vs : List V} {ns : List Int}, RpA K G vs ds → intsOf ds = some ns → vs = ns.map V.int ∧ ds = ns.map PyData.int
  | [], _, ns, .nil, e => by
    cases e
    exact ⟨rfl, rfl⟩
  | d :: ds, _, ns, .cons h a, e => by
    unfold intsOf at e
    split at e
    · rename_i i ms e1 e2
      cases e
      obtain ⟨rfl, rfl⟩ := intOf_rp h e1
      obtain ⟨rfl, rfl⟩ := intsOf_rp a e2
      exact ⟨rfl, rfl⟩
    · cases e
theorem intsOf_map : ∀ ns : List Int, intsOf (ns.map PyData.int) = some ns
  | [] => rfl
  | n :: ns => by
    rw [List.map_cons]
    unfold intsOf
    rw [intsOf_map ns]
    rfl
theorem rpa_ints {K : PySem.W.Frag} {G : Hp} : ∀ ns : List Int, RpA K G (ns.map V.int) (ns.map PyData.int)
  | [] => .nil
  | n :: ns => .cons (.int n) (rpa_ints ns)
/-- in ascending order -/
def insI (n : Int) : List Int → List Int
  | [] => [n]
  | m :: ms => if n ≤ m then n :: m :: ms else m :: insI n ms
def isort : List Int → List Int
  | [] => []
  | n :: ns => insI n (isort ns)
theorem insI_perm (n : Int) : ∀ ms : List Int, (insI n ms).Perm (n :: ms)
  | [] => .refl _
  | m :: ms => by
    unfold insI
    split
    · exact .refl _
    · exact ((insI_perm n ms).cons m).trans (.swap n m ms)
theorem isort_perm : ∀ ns : List Int, (isort ns).Perm ns
  | [] => .refl _
  | n :: ns => (insI_perm n (isort ns)).trans ((isort_perm ns).cons n)
theorem insI_sorted (n : Int) : ∀ {ms : List Int}, ms.Pairwise (· ≤ ·) → (insI n ms).Pairwise (· ≤ ·)
  | [], _ => by simp [insI]
  | m :: ms, h => by
    unfold insI
    have hm := List.pairwise_cons.mp h
    split
    · rename_i c
      refine List.pairwise_cons.mpr ⟨fun x hx => ?_, h⟩
      rcases List.mem_cons.mp hx with rfl | hx
      · exact c
      · exact Int.le_trans c (hm.1 x hx)
    · rename_i c
      refine List.pairwise_cons.mpr ⟨fun x hx => ?_, insI_sorted n hm.2⟩
      rcases List.mem_cons.mp ((insI_perm n ms).mem_iff.mp hx) with rfl | hx
      · omega
      · exact hm.1 x hx
theorem isort_sorted : ∀ ns : List Int, (isort ns).Pairwise (· ≤ ·)
  | [] => .nil
  | n :: ns => insI_sorted n (isort_sorted ns)
theorem sorted_uniq : ∀ {xs ys : List Int}, xs.Perm ys → xs.Pairwise (· ≤ ·) → ys.Pairwise (· ≤ ·) → xs = ys
  | [], ys, p, _, _ => p.nil_eq
  | x :: xs, [], p, _, _ => by
    have := p.length_eq
    simp at this
  | x :: xs, y :: ys, p, hx, hy => by
    have h1 := List.pairwise_cons.mp hx
    have h2 := List.pairwise_cons.mp hy
    have e : x = y := by
      have a : x ∈ y :: ys := p.mem_iff.mp List.mem_cons_self
      have b : y ∈ x :: xs := p.mem_iff.mpr List.mem_cons_self
      have a' : y ≤ x := by
        rcases List.mem_cons.mp a with rfl | a
        · exact Int.le_refl _
        · exact h2.1 x a
      have b' : x ≤ y := by
        rcases List.mem_cons.mp b with rfl | b
        · exact Int.le_refl _
        · exact h1.1 y b
      omega
    subst e
    rw [sorted_uniq p.cons_inv h1.2 h2.2]
/-- sorted, ints -/
def cSorted : List Val → Option Val
  | [a] => match lit a with
    | some xs => match intsOf xs with
      | some ns => some (.ow ((isort ns).map .int))
      | none => none
    | none => none
  | _ => none
theorem cs_sorted {K : PySem.W.Frag} : CallS K (rSortedI K) cSorted := by
  intro B G H vs as c Q s h e q
  unfold cSorted at e
  split at e
  · split at e
    · split at e
      · rename_i xs e2 _ ns e3
        cases e
        obtain ⟨v, rfl, h1⟩ := vrs1 h
        obtain ⟨p, us, rfl, hp, k⟩ := h1.list s e2
        obtain ⟨rfl, rfl⟩ := intsOf_rp k e3
        refine ⟨p, ns, rfl, hp, fun ns' l hP hS hl => ?_⟩
        have en : ns' = isort ns := sorted_uniq (hP.trans (isort_perm ns).symm) hS (isort_sorted ns)
        subst en
        exact q G _ _ (Ext.newO s hl) ⟨l, _, rfl, upd_same, s.free hl, hl, rpa_ints _⟩
      · cases e
    · cases e
  · cases e
def cSum : List Val → Option Val
  | [a] => match lit a with
    | some xs => match intsOf xs with
      | some ns => some (.sh (.int ns.sum))
      | none => none
    | none => none
  | _ => none
theorem cs_sum {K : PySem.W.Frag} : CallS K (rSum K) cSum := by
  intro B G H vs as c Q s h e q
  unfold cSum at e
  split at e
  · split at e
    · split at e
      · rename_i xs e2 _ ns e3
        cases e
        obtain ⟨v, rfl, h1⟩ := vrs1 h
        obtain ⟨p, us, rfl, hp, k⟩ := h1.list s e2
        obtain ⟨rfl, rfl⟩ := intsOf_rp k e3
        exact ⟨p, ns, rfl, hp, q G H _ (Ext.refl s) (Rp.int _)⟩
      · cases e
    · cases e
  · cases e
def cInt2 (f : Int → Int → Int) : List Val → Option Val
  | [.sh (.int i), .sh (.int j)] => some (.sh (.int (f i j)))
  | _ => none
theorem cs_int2 {K : PySem.W.Frag} {f : Int → Int → Int} : CallS K (fun xs H Q => ∃ i j, xs = [.int i, .int j] ∧ Q (.int (f i j)) H) (cInt2 f) := by
  intro B G H vs as c Q s h e q
  unfold cInt2 at e
  split at e
  · cases e
    obtain ⟨v, u, rfl, h1, h2⟩ := vrs2 h
    cases h1.int_
    cases h2.int_
    exact ⟨_, _, rfl, q G H _ (Ext.refl s) (Rp.int _)⟩
  · cases e
def cInt1 : List Val → Option Val
  | [.sh (.int i)] => some (.sh (.int i))
  | _ => none
theorem cs_int1 {K : PySem.W.Frag} : CallS K (fun xs H Q => (∃ i, xs = [.int i] ∧ Q (.int i) H) ∨ ∃ k, xs = [.bl k] ∧ Q (.int (if k then 1 else 0)) H) cInt1 := by
  intro B G H vs as c Q s h e q
  unfold cInt1 at e
  split at e
  · cases e
    obtain ⟨v, rfl, h1⟩ := vrs1 h
    cases h1.int_
    exact .inl ⟨_, rfl, q G H _ (Ext.refl s) (Rp.int _)⟩
  · cases e
def cStrI : List Val → Option Val
  | [.sh (.int i)] => if i.natAbs < 1000000 then some (.sh (.str (toString i : String))) else none
  | _ => none
theorem log_small {n : Nat} (h : n < 1000000) : n.log2 < 1920 := by
  by_cases z : n = 0
  · subst z
    decide
  · have h2 : n.log2 < 20 := (Nat.log2_lt z).mpr (Nat.lt_of_lt_of_le h (by decide))
    omega
theorem cs_strI {K : PySem.W.Frag} : CallS K (fun xs H Q => ∃ i, xs = [.int i] ∧ i.natAbs.log2 < 1920 ∧ Q (.str (toString i)) H) cStrI := by
  intro B G H vs as c Q s h e q
  unfold cStrI at e
  split at e
  · split at e
    · rename_i hl
      cases e
      obtain ⟨v, rfl, h1⟩ := vrs1 h
      cases h1.int_
      exact ⟨_, rfl, log_small hl, q G H _ (Ext.refl s) (Rp.str _)⟩
    · cases e
  · cases e
end Mi

namespace Mi
open PySem PySem.Spec PyProof.Rows L2

/-! ### repr -/
def rRepr (K : PySem.W.Frag) : List V → Hp → VK → Prop := fun xs H Q => ∃ v d, xs = [v] ∧ Dp K H v d ∧ d.showable = true ∧ d.hasDict = false ∧ d.depth ≤ 60 ∧ d.shown.length ≤ sizeLine ∧ Q (.str d.shown) H
theorem call_reprD {X : Cx} (gd : X.A.guards = some []) (hu : X.A.units + 64 < cLine) : CallR X (.builtin "repr") (rRepr X.K) := by
  intro pins s σ H xs us Q I r h
  obtain ⟨v, d, rfl, hd, hs, hn, hq, hz, q⟩ := h
  obtain ⟨u, rfl, ru⟩ := vals1 r
  cases hd with
  | non =>
    cases ru
    exact PySem.P.repr_of_none ⟨.str _, H, I.tok _, ⟨_, rfl⟩, q⟩
  | bl b =>
    cases ru
    refine PySem.P.repr_of_bool ⟨.str _, H, I.tok _, ⟨_, rfl⟩, ?_⟩
    cases b <;> exact q
  | int i =>
    obtain ⟨t, rfl⟩ := ru
    exact PySem.P.repr_of_int (of_decide_eq_true hs) ⟨.str _, H, I.tok _, ⟨_, rfl⟩, q⟩
  | str x =>
    obtain ⟨t, rfl⟩ := ru
    exact PySem.P.repr_of_str ⟨.str _, H, I.tok _, ⟨_, rfl⟩, q⟩ hz
  | @lst a vs ds hl ha =>
    cases ru
    obtain ⟨as, hr⟩ := Dp.reads I (.list ds) (.ref a) (.ref a) (.lst hl ha) rfl
    exact repr_of_reads' hr hs (PyData.noDict_hsm hn) gd (by omega) (fun _ _ e => e) (fun h' u tk hk => ⟨.str _, H, I.kept hk, ⟨_, rfl⟩, q⟩) hz
  | @tup a vs ds hl ha =>
    cases ru
    obtain ⟨as, hr⟩ := Dp.reads I (.tuple ds) (.ref a) (.ref a) (.tup hl ha) rfl
    exact repr_of_reads' hr hs (PyData.noDict_hsm hn) gd (by omega) (fun _ _ e => e) (fun h' u tk hk => ⟨.str _, H, I.kept hk, ⟨_, rfl⟩, q⟩) hz
/-- data that repr shows -/
def shows (d : D) : Bool := d.showable && !d.hasDict && decide (d.depth ≤ 60) && decide (d.shown.length ≤ 100000)
def cRepr : List Val → Option Val
  | [a] => match dat a with
    | some d => if shows d = true then some (.sh (.str d.shown)) else none
    | none => none
  | _ => none
theorem cs_repr {K : PySem.W.Frag} : CallS K (rRepr K) cRepr := by
  intro B G H vs as c Q s h e q
  unfold cRepr at e
  split at e
  · split at e
    · split at e
      · rename_i d e1 hl
        cases e
        obtain ⟨v, rfl, h1⟩ := vrs1 h
        unfold shows at hl
        simp only [Bool.and_eq_true, Bool.not_eq_true', decide_eq_true_eq] at hl
        exact ⟨v, d, rfl, h1.dp s e1 hl.1.1.2, hl.1.1.1, hl.1.1.2, hl.1.2, sz_le hl.2, q G H _ (Ext.refl s) (Rp.str _)⟩
      · cases e
    · cases e
  · cases e

/-! ### tests -/
def truth : Val → Option Bool
  | .sh .none => some false
  | .sh (.bool b) => some b
  | .sh (.int i) => some (i != 0)
  | .sh (.str z) => if z.length ≤ 100000 then some ((z.length : Int) != 0) else none
  | a => match seqOf a with
    | some xs => some (!xs.isEmpty)
    | none => none
def boolOf : Val → Option Bool
  | .sh (.bool b) => some b
  | _ => none
def mTest (ma : Rho → Res Val) : Rho → Res Bool := fun ρ => (ma ρ).bind fun a => lift (boolOf a)
def mTru (ma : Rho → Res Val) : Rho → Res Bool := fun ρ => (ma ρ).bind fun a => lift (truth a)
def mAnd (ma mb : Rho → Res Bool) : Rho → Res Bool := fun ρ => (ma ρ).bind fun a => if a = true then mb ρ else .ok false
def mOr (ma mb : Rho → Res Bool) : Rho → Res Bool := fun ρ => (ma ρ).bind fun a => if a = true then .ok true else mb ρ
def mNot (ma : Rho → Res Bool) : Rho → Res Bool := fun ρ => (ma ρ).bind fun a => .ok (!a)
def mAndV (ma mb : Rho → Res Val) : Rho → Res Val := fun ρ => (ma ρ).bind fun a => (lift (boolOf a)).bind fun a => if a = true then mb ρ else .ok (.sh (.bool false))
def mOrV (ma mb : Rho → Res Val) : Rho → Res Val := fun ρ => (ma ρ).bind fun a => (lift (boolOf a)).bind fun a => if a = true then .ok (.sh (.bool true)) else mb ρ
def mNotV (ma : Rho → Res Val) : Rho → Res Val := fun ρ => (ma ρ).bind fun a => (lift (boolOf a)).bind fun a => .ok (.sh (.bool (!a)))
def mIfE (mc : Rho → Res Bool) (ma mb : Rho → Res Val) : Rho → Res Val := fun ρ => (mc ρ).bind fun a => if a = true then ma ρ else mb ρ
def mNeg (ma : Rho → Res Val) : Rho → Res Val := fun ρ => (ma ρ).bind fun a => lift (match a with
  | .sh (.int i) => some (.sh (.int (-i)))
  | _ => none)
/-- a < b < c -/
def mChain (m1 m2 : Val → Val → Option Val) (ma mb mc : Rho → Res Val) : Rho → Res Val := fun ρ => (ma ρ).bind fun a => (mb ρ).bind fun b => (lift ((m1 a b).bind boolOf)).bind fun k => if k = true then (mc ρ).bind fun c => lift (m2 b c) else .ok (.sh (.bool false))
section
variable {K : PySem.W.Frag} {mg : Str → Option Value} {W : WX} {ta tb tc : TE} {ma mb mc : Rho → Res Val} {tA tB : TT} {mA mB : Rho → Res Bool}
theorem boolOf_inv {K : PySem.W.Frag} {B G H : Hp} {v : V} {a : Val} {b : Bool} (h : VR K B G H v a) (e : boolOf a = some b) : v = .bl b := by
  unfold boolOf at e
  split at e
  · cases e
    exact h.bool_
  · cases e
theorem RR.start {α β : Type} {R : Hp → Hp → Hp → β → α → Prop} {σ : L2.St} {G H : Hp} {Q : β → Hp → Prop} {m : Res α} {G1 H1 : Hp} (e : Ext G H G1 H1) (bk : ∀ G' H' v r, R H1 G' H' v r → R H G' H' v r) (h : RR K mg W R σ G H Q m) : RR K mg W R σ G1 H1 Q m := by
  cases m with
  | ok a => exact fun G2 H2 v e2 q => h G2 H2 v (e.trans e2) (bk _ _ _ _ q)
  | ex n fs => exact fun G' H' C d e' a b => h G' H' C d (e.trans e') a b
  | no => exact h
theorem snd_test (ha : Snd K mg W ta ma) : SndT K mg W (tTest ta) (mTest ma) := by
  intro G0 H0 σ G H ρ Q I h
  refine ha G0 H0 σ G H ρ _ I (RR.bnd (Ext.refl I.s) h fun a G1 H1 x ea e1 r1 h1 => ?_)
  obtain ⟨c, ec, q⟩ := h1.lift
  exact ⟨c, boolOf_inv r1 ec, q G1 H1 c e1 rfl⟩
theorem snd_tru (ha : Snd K mg W ta ma) : SndT K mg W (fun σ H Q => ta σ H fun x H' => ∃ k, TruV K x H' k ∧ Q k H') (mTru ma) := by
  intro G0 H0 σ G H ρ Q I h
  refine ha G0 H0 σ G H ρ _ I (RR.bnd (Ext.refl I.s) h fun a G1 H1 x ea e1 r1 h1 => ?_)
  obtain ⟨c, ec, q⟩ := h1.lift
  refine ⟨c, ?_, q G1 H1 c e1 rfl⟩
  unfold truth at ec
  split at ec
  · cases ec
    cases r1.non_
    rfl
  · cases ec
    cases r1.bool_
    rfl
  · cases ec
    cases r1.int_
    rfl
  · split at ec
    · rename_i z hl
      cases ec
      cases r1.str_
      exact ⟨sz_le hl, rfl⟩
    · cases ec
  · split at ec
    · rename_i xs e2
      cases ec
      obtain ⟨p, vs, rfl, hp, k⟩ := r1.seq e1.s e2
      have en : vs.isEmpty = xs.isEmpty := by
        cases k <;> rfl
      rw [← en]
      rcases hp with hp | hp
      · exact .inl ⟨vs, hp, rfl⟩
      · exact .inr (.inl ⟨vs, hp, rfl⟩)
    · cases ec
theorem snd_and (ha : SndT K mg W tA mA) (hb : SndT K mg W tB mB) : SndT K mg W (tAnd tA tB) (mAnd mA mB) := by
  intro G0 H0 σ G H ρ Q I h
  refine ha G0 H0 σ G H ρ _ I (RR.bnd (Ext.refl I.s) h fun a G1 H1 x ea e1 r1 h1 => ?_)
  cases (show x = a from r1)
  cases a with
  | true => exact iteT (hb G0 H0 σ G1 H1 ρ _ (I.ext' e1) (RR.start e1 (fun _ _ _ _ z => z) h1))
  | false => exact iteF (h1 G1 H1 false e1 rfl)
theorem snd_or (ha : SndT K mg W tA mA) (hb : SndT K mg W tB mB) : SndT K mg W (tOr tA tB) (mOr mA mB) := by
  intro G0 H0 σ G H ρ Q I h
  refine ha G0 H0 σ G H ρ _ I (RR.bnd (Ext.refl I.s) h fun a G1 H1 x ea e1 r1 h1 => ?_)
  cases (show x = a from r1)
  cases a with
  | false => exact iteF (hb G0 H0 σ G1 H1 ρ _ (I.ext' e1) (RR.start e1 (fun _ _ _ _ z => z) h1))
  | true => exact iteT (h1 G1 H1 true e1 rfl)
theorem snd_not (ha : SndT K mg W tA mA) : SndT K mg W (tNot tA) (mNot mA) := by
  intro G0 H0 σ G H ρ Q I h
  refine ha G0 H0 σ G H ρ _ I (RR.bnd (Ext.refl I.s) h fun a G1 H1 x ea e1 r1 h1 => ?_)
  cases (show x = a from r1)
  exact h1 G1 H1 _ e1 rfl
theorem snd_andV (ha : Snd K mg W ta ma) (hb : Snd K mg W tb mb) : Snd K mg W (tAndV ta tb) (mAndV ma mb) := by
  intro G0 H0 σ G H ρ Q I h
  refine ha G0 H0 σ G H ρ _ I (RR.bnd (Ext.refl I.s) h fun a G1 H1 x ea e1 r1 h1 => ?_)
  cases eb : boolOf a with
  | none =>
    rw [eb] at h1
    exact h1.elim
  | some k =>
    rw [eb] at h1
    refine ⟨k, boolOf_inv r1 eb, ?_⟩
    cases k with
    | true => exact iteT (hb G0 H0 σ G1 H1 ρ _ (I.ext' e1) (RR.start e1 (fun _ _ _ _ z => z.back e1.h) h1))
    | false => exact iteF (h1 G1 H1 _ e1 (Rp.bl _))
theorem snd_orV (ha : Snd K mg W ta ma) (hb : Snd K mg W tb mb) : Snd K mg W (tOrV ta tb) (mOrV ma mb) := by
  intro G0 H0 σ G H ρ Q I h
  refine ha G0 H0 σ G H ρ _ I (RR.bnd (Ext.refl I.s) h fun a G1 H1 x ea e1 r1 h1 => ?_)
  cases eb : boolOf a with
  | none =>
    rw [eb] at h1
    exact h1.elim
  | some k =>
    rw [eb] at h1
    refine ⟨k, boolOf_inv r1 eb, ?_⟩
    cases k with
    | false => exact iteF (hb G0 H0 σ G1 H1 ρ _ (I.ext' e1) (RR.start e1 (fun _ _ _ _ z => z.back e1.h) h1))
    | true => exact iteT (h1 G1 H1 _ e1 (Rp.bl _))
theorem snd_notV (ha : Snd K mg W ta ma) : Snd K mg W (tNotV ta) (mNotV ma) := by
  intro G0 H0 σ G H ρ Q I h
  refine ha G0 H0 σ G H ρ _ I (RR.bnd (Ext.refl I.s) h fun a G1 H1 x ea e1 r1 h1 => ?_)
  cases eb : boolOf a with
  | none =>
    rw [eb] at h1
    exact h1.elim
  | some k =>
    rw [eb] at h1
    exact ⟨k, boolOf_inv r1 eb, h1 G1 H1 _ e1 (Rp.bl _)⟩
theorem snd_ifE (hc : SndT K mg W tA mA) (ha : Snd K mg W ta ma) (hb : Snd K mg W tb mb) : Snd K mg W (tIf tA ta tb) (mIfE mA ma mb) := by
  intro G0 H0 σ G H ρ Q I h
  refine hc G0 H0 σ G H ρ _ I (RR.bnd (Ext.refl I.s) h fun a G1 H1 x ea e1 r1 h1 => ?_)
  cases (show x = a from r1)
  cases a with
  | false => exact iteF (hb G0 H0 σ G1 H1 ρ _ (I.ext' e1) (RR.start e1 (fun _ _ _ _ z => z.back e1.h) h1))
  | true => exact iteT (ha G0 H0 σ G1 H1 ρ _ (I.ext' e1) (RR.start e1 (fun _ _ _ _ z => z.back e1.h) h1))
theorem snd_neg (ha : Snd K mg W ta ma) : Snd K mg W (tUn (rU fun i => .int (-i)) ta) (mNeg ma) := by
  intro G0 H0 σ G H ρ Q I h
  refine ha G0 H0 σ G H ρ _ I (RR.bnd (Ext.refl I.s) h fun a G1 H1 x ea e1 r1 h1 => ?_)
  obtain ⟨c, ec, q⟩ := h1.lift
  split at ec
  · cases ec
    exact ⟨_, r1.int_, q G1 H1 _ e1 (Rp.int _)⟩
  · cases ec
theorem snd_chain {r r' : R2} {m1 m2 : Val → Val → Option Val} (h1 : OpS K r m1) (h2 : OpS K r' m2) (ha : Snd K mg W ta ma) (hb : Snd K mg W tb mb) (hc : Snd K mg W tc mc) : Snd K mg W (tChain r r' ta tb tc) (mChain m1 m2 ma mb mc) := by
  intro G0 H0 σ G H ρ Q I h
  refine ha G0 H0 σ G H ρ _ I (RR.bnd (Ext.refl I.s) h fun a G1 H1 x ea e1 r1 q1 => ?_)
  refine hb G0 H0 σ G1 H1 ρ _ (I.ext' e1) (RR.bnd e1 q1 fun b G2 H2 y eb e2 r2 q2 => ?_)
  cases eo : m1 a b with
  | none =>
    rw [eo] at q2
    exact q2.elim
  | some z =>
    rw [eo] at q2
    refine h1 H G2 H2 x y a b z _ e2.s (r1.ext e2) (r2.back e1.h) eo fun G3 H3 v e3 r3 => ?_
    change RR K mg W (RV K) σ G H Q (Res.bind (lift (boolOf z)) _) at q2
    cases ez : boolOf z with
    | none =>
      rw [ez] at q2
      exact q2.elim
    | some k =>
      rw [ez] at q2
      refine ⟨k, boolOf_inv r3 ez, ?_⟩
      have e03 := (e1.trans e2).trans e3
      cases k with
      | false => exact iteF (q2 G3 H3 _ e03 (Rp.bl _))
      | true =>
        refine iteT (hc G0 H0 σ G3 H3 ρ _ (I.ext' e03) (RR.bnd e03 q2 fun c G4 H4 w ec e4 r4 q4 => ?_))
        obtain ⟨c', ec', q⟩ := q4.lift
        exact h2 H G4 H4 y w b c c' Q e4.s (r2.back e1.h |>.ext e3 |>.ext e4) (r4.back e03.h) ec' fun G' H' v e z => q G' H' v ((e03.trans e4).trans e) (z.back (e03.trans e4).h)
end
section
variable {X : Cx} {W : WX} {a b c : Expr} {rest : List Expr} {ta tb tc : TE} {ma mb mc : Rho → Res Val} {tA tB : TT} {mA mB : Rho → Res Bool} {pos : Pos}
theorem pmt_cmp {op : CmpOp} {r : R2} {mo : Val → Val → Option Val} (ho : OpR X (compareOp op) r) (hs : OpS X.K r mo) (ha : PM X W a ta ma) (hb : PM X W b tb mb) (hm : behindInMarks op b = false := by first | exact nomark _ | rfl) :
    PMT X W (.Compare a [op] [b] pos) (tTest (tOp r ta tb)) (mTest (mOp mo ma mb)) := ⟨pt_cmpR ho ha.p hb.p hm, snd_test (snd_op hs ha.s hb.s)⟩
theorem pmt_chain {op op' : CmpOp} {r r' : R2} {m1 m2 : Val → Val → Option Val} (ho : OpR X (compareOp op) r) (ho' : OpR X (compareOp op') r') (h1 : OpS X.K r m1) (h2 : OpS X.K r' m2) (ha : PM X W a ta ma) (hb : PM X W b tb mb) (hc : PM X W c tc mc)
    (hm : lastMarks [op, op'] [b, c] = false := by with_unfolding_all rfl) : PMT X W (.Compare a [op, op'] [b, c] pos) (tTest (tChain r r' ta tb tc)) (mTest (mChain m1 m2 ma mb mc)) := ⟨pt_chain ho ho' ha.p hb.p hc.p hm, snd_test (snd_chain h1 h2 ha.s hb.s hc.s)⟩
theorem pm_chain {op op' : CmpOp} {r r' : R2} {m1 m2 : Val → Val → Option Val} (ho : OpR X (compareOp op) r) (ho' : OpR X (compareOp op') r') (h1 : OpS X.K r m1) (h2 : OpS X.K r' m2) (ha : PM X W a ta ma) (hb : PM X W b tb mb) (hc : PM X W c tc mc)
    (hm : lastMarks [op, op'] [b, c] = false := by with_unfolding_all rfl) : PM X W (.Compare a [op, op'] [b, c] pos) (tChain r r' ta tb tc) (mChain m1 m2 ma mb mc) := ⟨pe_chain ho ho' ha.p hb.p hc.p hm, snd_chain h1 h2 ha.s hb.s hc.s⟩
theorem pmt_tru (ha : PM X W a ta ma) (he : ∀ whole, isTrue a X.env whole = (do let v ← whole; standAt a.pos; holding [v] (truthy v)) := by intro _; rfl) :
    PMT X W a (fun σ H Q => ta σ H fun x H' => ∃ k, TruV X.K x H' k ∧ Q k H') (mTru ma) := ⟨pt_truth ha.p he, snd_tru ha.s⟩
theorem pmt_not (ha : PMT X W a tA mA) : PMT X W (.UnaryOp .Not a pos) (tNot tA) (mNot mA) := ⟨pt_not ha.p, snd_not ha.s⟩
theorem pmw_and1 (ha : PMT X W a tA mA) : PMW X W (.BoolOp .And [a] pos) tA mA := ⟨pw_and1 ha.p, ha.s⟩
theorem pmw_or1 (ha : PMT X W a tA mA) : PMW X W (.BoolOp .Or [a] pos) tA mA := ⟨pw_or1 ha.p, ha.s⟩
theorem pmw_and (ha : PMT X W a tA mA) (hb : PMW X W (.BoolOp .And (b :: rest) pos) tB mB) : PMW X W (.BoolOp .And (a :: b :: rest) pos) (tAnd tA tB) (mAnd mA mB) := ⟨pw_and ha.p hb.p, snd_and ha.s hb.s⟩
theorem pmw_or (ha : PMT X W a tA mA) (hb : PMW X W (.BoolOp .Or (b :: rest) pos) tB mB) : PMW X W (.BoolOp .Or (a :: b :: rest) pos) (tOr tA tB) (mOr mA mB) := ⟨pw_or ha.p hb.p, snd_or ha.s hb.s⟩
theorem PMW.t (h : PMW X W a tA mA) : PMT X W a tA mA := ⟨h.p.pt, h.s⟩
theorem pm_one {op} (h : PM X W a ta ma) : PM X W (.BoolOp op [a] pos) ta ma := ⟨pe_one h.p, h.s⟩
theorem pm_and (ha : PM X W a ta ma) (hb : PM X W (.BoolOp .And (b :: rest) pos) tb mb) : PM X W (.BoolOp .And (a :: b :: rest) pos) (tAndV ta tb) (mAndV ma mb) := ⟨pe_and ha.p hb.p, snd_andV ha.s hb.s⟩
theorem pm_or (ha : PM X W a ta ma) (hb : PM X W (.BoolOp .Or (b :: rest) pos) tb mb) : PM X W (.BoolOp .Or (a :: b :: rest) pos) (tOrV ta tb) (mOrV ma mb) := ⟨pe_or ha.p hb.p, snd_orV ha.s hb.s⟩
theorem pm_not (ha : PM X W a ta ma) : PM X W (.UnaryOp .Not a pos) (tNotV ta) (mNotV ma) := ⟨pe_not ha.p, snd_notV ha.s⟩
theorem pm_ifE (hc : PMT X W c tA mA) (ha : PM X W a ta ma) (hb : PM X W b tb mb) : PM X W (.IfExp c a b pos) (tIf tA ta tb) (mIfE mA ma mb) := ⟨pe_ifExp hc.p ha.p hb.p, snd_ifE hc.s ha.s hb.s⟩
theorem pm_neg (ha : PM X W a ta ma) : PM X W (.UnaryOp .USub a pos) (tUn (rU fun i => .int (-i)) ta) (mNeg ma) := ⟨pe_un un_neg ha.p, snd_neg ha.s⟩
end
/-! ### slices of lists -/
def cutD (xs : List D) (lo hi : Option Int) : List D := (xs.drop (HT.sIx xs.length 0 lo)).take (HT.sIx xs.length xs.length hi - HT.sIx xs.length 0 lo)
def mNoPart : Rho → Res (Option Int) := fun _ => .ok none
def mPart (ma : Rho → Res Val) : Rho → Res (Option Int) := fun ρ => (ma ρ).bind fun a => lift (match a with
  | .sh (.int i) => some (some i)
  | _ => none)
def mSl (ma : Rho → Res Val) (ml mh : Rho → Res (Option Int)) : Rho → Res Val := fun ρ => (ma ρ).bind fun a => (ml ρ).bind fun l => (mh ρ).bind fun u => lift (match lit a with
  | some xs => some (.ow (cutD xs l u))
  | none => none)
section
variable {K : PySem.W.Frag} {mg : Str → Option Value} {W : WX} {ta : TE} {ma : Rho → Res Val} {tl th : TO} {ml mh : Rho → Res (Option Int)}
theorem snd_noPart : SndO K mg W tNoPart mNoPart := fun G0 H0 σ G H ρ Q I h => h G H none (Ext.refl I.s) rfl
theorem snd_part (ha : Snd K mg W ta ma) : SndO K mg W (tPart ta) (mPart ma) := by
  intro G0 H0 σ G H ρ Q I h
  refine ha G0 H0 σ G H ρ _ I (RR.bnd (Ext.refl I.s) h fun a G1 H1 x ea e1 r1 h1 => ?_)
  obtain ⟨c, ec, q⟩ := h1.lift
  split at ec
  · cases ec
    exact ⟨_, r1.int_, q G1 H1 _ e1 rfl⟩
  · cases ec
theorem snd_sl (ha : Snd K mg W ta ma) (hl : SndO K mg W tl ml) (hh : SndO K mg W th mh) : Snd K mg W (tSl (rSlL K) ta tl th) (mSl ma ml mh) := by
  intro G0 H0 σ G H ρ Q I h
  refine ha G0 H0 σ G H ρ _ I (RR.bnd (Ext.refl I.s) h fun a G1 H1 x ea e1 r1 h1 => ?_)
  refine hl G0 H0 σ G1 H1 ρ _ (I.ext' e1) (RR.bnd e1 h1 fun l G2 H2 y eb e2 r2 h2 => ?_)
  cases (show y = l from r2)
  have e02 := e1.trans e2
  refine hh G0 H0 σ G2 H2 ρ _ (I.ext' e02) (RR.bnd e02 h2 fun u G3 H3 z ez e3 r3 h3 => ?_)
  cases (show z = u from r3)
  obtain ⟨c, ec, q⟩ := h3.lift
  split at ec
  · rename_i xs e4
    cases ec
    obtain ⟨p, vs, rfl, hp, k⟩ := ((r1.ext e2).ext e3).list e3.s e4
    have e03 := e02.trans e3
    refine ⟨p, vs, rfl, hp, fun t ht => q G3 _ _ (e03.trans (Ext.newO e3.s ht)) ⟨t, _, rfl, upd_same, e3.s.free ht, e03.h.free ht, ?_⟩⟩
    unfold cutV cutD
    rw [k.length]
    exact (k.drop _).take _
  · cases ec
end
section
variable {X : Cx} {W : WX} {a : Expr} {ta : TE} {ma : Rho → Res Val} {lo hi : Option Expr} {tl th : TO} {ml mh : Rho → Res (Option Int)} {pos p2 : Pos}
theorem pmo_none : PMO X W none tNoPart mNoPart := ⟨po_none, snd_noPart⟩
theorem pmo_some (ha : PM X W a ta ma) : PMO X W (some a) (tPart ta) (mPart ma) := ⟨po_some ha.p, snd_part ha.s⟩
theorem pm_slice (ha : PM X W a ta ma) (hl : PMO X W lo tl ml) (hh : PMO X W hi th mh) : PM X W (.Subscript a (.Slice lo hi none p2) pos) (tSl (rSlL X.K) ta tl th) (mSl ma ml mh) := ⟨pe_slice sl_list ha.p hl.p hh.p, snd_sl ha.s hl.s hh.s⟩
end
end Mi

namespace Mi
open PySem PySem.Spec PyProof.Rows L2

/-! ### the slots change -/
/-- what a name may take -/
def store : Val → Option Val
  | .bw _ => none
  | r => some r
theorem VR.slot {K : PySem.W.Frag} {H0 H G' H' : Hp} {v : V} {r r' : Val} (e : Same H0 H) (h : VR K H G' H' v r) (es : store r = some r') : r' = r ∧ SlotR K H0 G' H' v r := by
  cases r with
  | sh d =>
    cases es
    exact ⟨rfl, h⟩
  | ow xs =>
    cases es
    obtain ⟨p, vs, a, b, c, d, k⟩ := h
    exact ⟨rfl, p, vs, a, b, c, e.free d, k⟩
  | bw xs => cases es
  | fz xs =>
    cases es
    exact ⟨rfl, h⟩
theorem set_get {α : Type} {l : List α} {i j : Nat} {a b : α} (h : (l.set i a)[j]? = some b) : (i = j ∧ b = a ∧ i < l.length) ∨ (i ≠ j ∧ l[j]? = some b) := by
  rw [List.getElem?_set] at h
  by_cases e : i = j
  · rw [if_pos e] at h
    split at h
    · exact .inl ⟨e, (Option.some.inj h).symm, by assumption⟩
    · cases h
  · rw [if_neg e] at h
    exact .inr ⟨e, h⟩
/-- a name takes a value that is new, or steady -/
theorem EnvS.put {K : PySem.W.Frag} {G0 H0 G H G' H' : Hp} {σ : L2.St} {ρ : Rho} {i : Nat} {v : V} {r r' : Val} (I : EnvS K G0 H0 σ G H ρ) (e : Ext G H G' H') (h : VR K H G' H' v r) (es : store r = some r') :
    EnvS K G0 H0 (σ.set i (some v)) G' H' (ρ.set i (some r')) := by
  have J := I.ext' e
  obtain ⟨rfl, hs⟩ := h.slot I.ext.h es
  refine ⟨J.ext, ?_, fun j s hj => ?_, fun j k p xs ys hj hk sj sk => ?_⟩
  · rw [List.length_set, List.length_set]
    exact J.len
  · rcases set_get hj with ⟨rfl, e2, hl⟩ | ⟨ne, e2⟩
    · cases e2
      refine ⟨v, ?_, hs⟩
      rw [List.getElem?_set, if_pos rfl, if_pos (by rw [J.len]; exact hl)]
    · obtain ⟨u, hu, k⟩ := J.slot j s e2
      refine ⟨u, ?_, k⟩
      rw [List.getElem?_set, if_neg ne]
      exact hu
  · have key : ∀ (j : Nat) (ys : List D), i ≠ j → ρ[j]? = some (some (.ow ys)) → σ[j]? = some (some (.ref p)) → H p ≠ none := fun j ys ne e2 s2 => by
      obtain ⟨u, hu, q, vs, eu, hq, _⟩ := I.slot j _ e2
      rw [s2] at hu
      cases hu
      cases eu
      rw [hq]
      exact Option.some_ne_none _
    have new : ∀ (xs : List D), (some (Val.ow xs) : Option Val) = some r' → v = .ref p → H p = none := fun xs e2 ev => by
      cases e2
      obtain ⟨q, vs, eq, _, _, hb, _⟩ := h
      rw [ev] at eq
      cases eq
      exact hb
    rcases set_get hj with ⟨e1, e2, hl⟩ | ⟨ne, e2⟩
    · rcases set_get hk with ⟨e3, e4, hl'⟩ | ⟨ne', e4⟩
      · rw [← e1, ← e3]
      · rcases set_get sj with ⟨_, s1, _⟩ | ⟨z, _⟩
        · rcases set_get sk with ⟨z, _⟩ | ⟨_, s2⟩
          · exact absurd z ne'
          · exact absurd (new xs e2 (Option.some.inj s1).symm) (key k ys ne' e4 s2)
        · exact absurd e1 z
    · rcases set_get sj with ⟨z, _⟩ | ⟨_, s1⟩
      · exact absurd z ne
      · rcases set_get hk with ⟨e3, e4, hl'⟩ | ⟨ne', e4⟩
        · rcases set_get sk with ⟨_, s2, _⟩ | ⟨z, _⟩
          · exact absurd (new ys e4 (Option.some.inj s2).symm) (key j xs ne e2 s1)
          · exact absurd e3 z
        · rcases set_get sk with ⟨z, _⟩ | ⟨_, s2⟩
          · exact absurd z ne'
          · exact J.apart j k p xs ys e2 e4 s1 s2
/-- an own list made steady (nothing happens) -/
def frz (i : Nat) (ρ : Rho) : Rho := match ρ[i]? with
  | some (some (.ow xs)) => ρ.set i (some (.sh (.list xs)))
  | _ => ρ
theorem EnvS.frz {K : PySem.W.Frag} {G0 H0 G H : Hp} {σ : L2.St} {ρ : Rho} (i : Nat) (I : EnvS K G0 H0 σ G H ρ) : ∃ G', EnvS K G0 H0 σ G' H (frz i ρ) ∧ Same G G' := by
  unfold Mi.frz
  split
  · rename_i xs e
    obtain ⟨v, hv, p, vs, rfl, hp, hg, h0, k⟩ := I.slot i _ e
    have s1 : Same G (upd G p (.lst vs)) := same_new hg
    refine ⟨upd G p (.lst vs), ⟨I.ext.frz hp h0 hg, ?_, fun j s hj => ?_, fun j k q xs ys hj hk sj sk => ?_⟩, s1⟩
    · rw [List.length_set]
      exact I.len
    · rcases set_get hj with ⟨rfl, e2, hl⟩ | ⟨ne, e2⟩
      · cases e2
        exact ⟨_, hv, .lst upd_same (k.mono s1)⟩
      · obtain ⟨u, hu, z⟩ := I.slot j s e2
        refine ⟨u, hu, ?_⟩
        cases s with
        | sh d => exact Rp.mono s1 z
        | ow ys =>
          obtain ⟨q, us, rfl, hq, gq, h0q, kq⟩ := z
          have nq : q ≠ p := fun z => ne (I.apart i j p xs ys e e2 hv (z ▸ hu))
          exact ⟨q, us, rfl, hq, by rw [upd_ne nq]; exact gq, h0q, kq.mono s1⟩
        | bw ys => exact z
        | fz ys =>
          obtain ⟨q, us, a, b, c⟩ := z
          exact ⟨q, us, a, s1.seq b, c.mono s1⟩
    · rcases set_get hj with ⟨_, e2, _⟩ | ⟨ne, e2⟩
      · cases e2
      · rcases set_get hk with ⟨_, e4, _⟩ | ⟨ne', e4⟩
        · cases e4
        · exact I.apart j k q xs ys e2 e4 sj sk
  · exact ⟨G, I, Same.refl _⟩
/-- an own list is changed -/
theorem EnvS.mut {K : PySem.W.Frag} {G0 H0 G H : Hp} {σ : L2.St} {ρ : Rho} {i : Nat} {p : Addr} {xs ys : List D} {us : List V} (I : EnvS K G0 H0 σ G H ρ) (e : ρ[i]? = some (some (.ow xs))) (hv : σ[i]? = some (some (.ref p))) (k : RpA K G us ys) :
    EnvS K G0 H0 σ G (upd H p (.lst us)) (ρ.set i (some (.ow ys))) := by
  obtain ⟨v, hv', q, vs, rfl, hp, hg, h0, kx⟩ := I.slot i _ e
  rw [hv] at hv'
  cases hv'
  refine ⟨⟨fun b o z => ?_, I.ext.g, fun b o z => ?_, I.ext.n⟩, ?_, fun j s hj => ?_, fun j l q xs' ys' hj hl sj sl => ?_⟩
  · rw [upd_ne (ne_of_none z h0)]
    exact I.ext.h _ _ z
  · rw [upd_ne (ne_of_none z hg)]
    exact I.ext.s _ _ z
  · rw [List.length_set]
    exact I.len
  · rcases set_get hj with ⟨rfl, e2, hl⟩ | ⟨ne, e2⟩
    · cases e2
      exact ⟨_, hv, p, us, rfl, upd_same, hg, h0, k⟩
    · obtain ⟨u, hu, z⟩ := I.slot j s e2
      refine ⟨u, hu, ?_⟩
      cases s with
      | sh d => exact z
      | ow zs =>
        obtain ⟨q, ws, rfl, hq, gq, h0q, kq⟩ := z
        have nq : q ≠ p := fun z => ne (I.apart i j p xs zs e e2 hv (z ▸ hu))
        exact ⟨q, ws, rfl, by rw [upd_ne nq]; exact hq, gq, h0q, kq⟩
      | bw zs => exact z
      | fz zs => exact z
  · have back : ∀ (j : Nat) (zs : List D), (ρ.set i (some (.ow ys)))[j]? = some (some (.ow zs)) → ∃ ws, ρ[j]? = some (some (.ow ws)) := fun j zs hj => by
      rcases set_get hj with ⟨rfl, _, _⟩ | ⟨_, e2⟩
      · exact ⟨xs, e⟩
      · exact ⟨zs, e2⟩
    obtain ⟨a, ha⟩ := back j xs' hj
    obtain ⟨b, hb⟩ := back l ys' hl
    exact I.apart j l q a b ha hb sj sl
/-- slots that are not looked at any more -/
theorem EnvS.drop {K : PySem.W.Frag} {G0 H0 G H : Hp} {σ : L2.St} {ρ : Rho} (i : Nat) (o : Option V) (I : EnvS K G0 H0 σ G H ρ) : EnvS K G0 H0 (σ.set i o) G H (ρ.set i none) := by
  refine ⟨I.ext, by rw [List.length_set, List.length_set]; exact I.len, fun j s hj => ?_, fun j l q xs ys hj hl sj sl => ?_⟩
  · rcases set_get hj with ⟨_, e2, _⟩ | ⟨ne, e2⟩
    · cases e2
    · rw [List.getElem?_set, if_neg ne]
      exact I.slot j s e2
  · rcases set_get hj with ⟨_, e2, _⟩ | ⟨ne, e2⟩
    · cases e2
    · rcases set_get hl with ⟨_, e4, _⟩ | ⟨ne', e4⟩
      · cases e4
      · rw [List.getElem?_set, if_neg ne] at sj
        rw [List.getElem?_set, if_neg ne'] at sl
        exact I.apart j l q xs ys e2 e4 sj sl

/-! ### statements -/
def sRes {α : Type} (m : Res α) (ρ : Rho) (f : α → Out) : Out := match m with
  | .ok a => f a
  | .ex n fs => .ex n fs ρ
  | .no => .no
theorem RR.out {K : PySem.W.Frag} {mg : Str → Option Value} {W : WX} {α β : Type} {R1 : Hp → Hp → Hp → β → α → Prop} {σ : L2.St} {G0 H0 G H : Hp} {ρ : Rho} {D : Ends} {Q1 : β → Hp → Prop} {m : Res α} {f : α → Out} (I : EnvS K G0 H0 σ G H ρ)
    (h : OutR K mg W G0 H0 G D (sRes m ρ f)) (k : ∀ a G1 H1 v, m = .ok a → Ext G H G1 H1 → R1 H G1 H1 v a → OutR K mg W G0 H0 G1 D (f a) → Q1 v H1) : RR K mg W R1 σ G H Q1 m := by
  cases m with
  | ok a => exact fun G1 H1 v e q => k a G1 H1 v rfl e q (OutR.up e.g h)
  | ex n fs => exact fun G' H' C d e a b => h σ G' H' C d (I.ext' e) e.g a b
  | no => exact h
def mSet (i : Nat) (me : Rho → Res Val) : Rho → Out := fun ρ => sRes (me ρ) ρ fun r => match store r with
  | some r' => .nx (ρ.set i (some r'))
  | none => .no
def mSeq (a b : Rho → Out) : Rho → Out := fun ρ => match a ρ with
  | .nx ρ' => b ρ'
  | o => o
def mSkip : Rho → Out := fun ρ => .nx ρ
def mRet (me : Rho → Res Val) : Rho → Out := fun ρ => sRes (me ρ) ρ fun r => match store r with
  | some r' => .rt r'
  | none => .no
def mRetV (i : Nat) : Rho → Out := fun ρ => match ρ[i]? with
  | some (some r) => .rt r
  | _ => .no
def mRetN : Rho → Out := fun _ => .rt (.sh .none)
def mIf (mc : Rho → Res Bool) (a b : Rho → Out) : Rho → Out := fun ρ => sRes (mc ρ) ρ fun k => if k = true then a ρ else b ρ
def mDrop (me : Rho → Res Val) : Rho → Out := fun ρ => sRes (me ρ) ρ fun _ => .nx ρ
def mBrk : Rho → Out := fun ρ => .bk ρ
def mCnt : Rho → Out := fun ρ => .ct ρ
def mFrz (i : Nat) (a : Rho → Out) : Rho → Out := fun ρ => a (frz i ρ)
def mRaise (n : Str) : Rho → Out := fun ρ => .ex n [] ρ
def mApp (i : Nat) (me : Rho → Res Val) : Rho → Out := fun ρ => match ρ[i]? with
  | some (some (.ow xs)) => sRes (me ρ) ρ fun r => match esc r with
    | some d => if xs.length < 100000 then .nx (ρ.set i (some (.ow (xs ++ [d])))) else .no
    | none => .no
  | _ => .no
def mPut (i : Nat) (mi me : Rho → Res Val) : Rho → Out := fun ρ => sRes (me ρ) ρ fun r => match esc r with
  | some d => match ρ[i]? with
    | some (some (.ow xs)) => sRes (mi ρ) ρ fun k => match k with
      | .sh (.int k) => match ixN xs.length k with
        | some j => .nx (ρ.set i (some (.ow (xs.set j d))))
        | none => .no
      | _ => .no
    | _ => .no
  | none => .no
def mAug (i : Nat) (mo : Val → Val → Option Val) (me : Rho → Res Val) : Rho → Out := fun ρ => match ρ[i]? with
  | some (some a) => sRes (me ρ) ρ fun b => match (mo (look a) b).bind store with
    | some c => .nx (ρ.set i (some c))
    | none => .no
  | _ => .no
section
variable {K : PySem.W.Frag} {mg : Str → Option Value} {W : WX} {te ti : TE} {me mi : Rho → Res Val} {tA : TT} {mA : Rho → Res Bool} {t u : TS} {a b : Rho → Out}
theorem snd_set {i : Nat} (h : Snd K mg W te me) : SndS K mg W (tAsg te (gName i)) (mSet i me) := by
  intro G0 H0 σ G H ρ D I q
  refine h G0 H0 σ G H ρ _ I (RR.out I q fun r G1 H1 v er e1 r1 q1 => ?_)
  split at q1
  · rename_i r' es
    exact q1 _ G1 H1 (I.put e1 r1 es) (Same.refl _)
  · exact q1.elim
theorem snd_seq (ha : SndS K mg W t a) (hb : SndS K mg W u b) : SndS K mg W (tSeq t u) (mSeq a b) := by
  intro G0 H0 σ G H ρ D I q
  refine ha G0 H0 σ G H ρ _ I ?_
  unfold mSeq at q
  cases ea : a ρ with
  | nx ρ' =>
    rw [ea] at q
    exact fun σ' G' H' I' s' => hb G0 H0 σ' G' H' ρ' D I' (OutR.up s' q)
  | rt r =>
    rw [ea] at q
    exact q
  | bk ρ' =>
    rw [ea] at q
    exact q
  | ct ρ' =>
    rw [ea] at q
    exact q
  | ex n fs ρ' =>
    rw [ea] at q
    exact q
  | no =>
    rw [ea] at q
    exact q.elim
theorem snd_skip : SndS K mg W tNext mSkip := fun G0 H0 σ G H ρ D I q => q σ G H I (Same.refl _)
theorem snd_ret (h : Snd K mg W te me) : SndS K mg W (tRet te) (mRet me) := by
  intro G0 H0 σ G H ρ D I q
  refine h G0 H0 σ G H ρ _ I (RR.out I q fun r G1 H1 v er e1 r1 q1 => ?_)
  split at q1
  · rename_i r' es
    obtain ⟨rfl, _⟩ := r1.slot I.ext.h es
    exact q1 G1 H1 v (I.ext.trans e1) (r1.back I.ext.h)
  · exact q1.elim
theorem snd_retV {i : Nat} : SndS K mg W (tRet (tVar i)) (mRetV i) := by
  intro G0 H0 σ G H ρ D I q
  unfold mRetV at q
  split at q
  · rename_i r e
    obtain ⟨v, hv, hs⟩ := I.slot i r e
    refine ⟨v, hv, q G H v I.ext ?_⟩
    cases r with
    | sh d => exact hs
    | ow xs => exact hs
    | bw xs => exact hs.elim
    | fz xs => exact hs
  · exact q.elim
theorem snd_retN : SndS K mg W tRetN mRetN := fun G0 H0 σ G H ρ D I q => q G H _ I.ext Rp.non
theorem snd_if (hc : SndT K mg W tA mA) (ha : SndS K mg W t a) (hb : SndS K mg W u b) : SndS K mg W (tIfS tA t u) (mIf mA a b) := by
  intro G0 H0 σ G H ρ D I q
  refine hc G0 H0 σ G H ρ _ I (RR.out I q fun k G1 H1 v er e1 r1 q1 => ?_)
  cases (show v = k from r1)
  cases k with
  | true => exact iteT (ha G0 H0 σ G1 H1 ρ D (I.ext' e1) q1)
  | false => exact iteF (hb G0 H0 σ G1 H1 ρ D (I.ext' e1) q1)
theorem snd_drop (h : Snd K mg W te me) : SndS K mg W (tDrop te) (mDrop me) := by
  intro G0 H0 σ G H ρ D I q
  exact h G0 H0 σ G H ρ _ I (RR.out I q fun r G1 H1 v er e1 r1 q1 => q1 σ G1 H1 (I.ext' e1) (Same.refl _))
theorem snd_brk : SndS K mg W tBreak mBrk := fun G0 H0 σ G H ρ D I q => q σ G H I (Same.refl _)
theorem snd_cnt : SndS K mg W tCont mCnt := fun G0 H0 σ G H ρ D I q => q σ G H I (Same.refl _)
theorem snd_frz {i : Nat} (ha : SndS K mg W t a) : SndS K mg W t (mFrz i a) := by
  intro G0 H0 σ G H ρ D I q
  obtain ⟨G', I', s'⟩ := I.frz i
  exact ha G0 H0 σ G' H _ D I' (OutR.up s' q)
theorem own_get {G0 H0 G H : Hp} {σ : L2.St} {ρ : Rho} {i : Nat} {xs : List D} (I : EnvS K G0 H0 σ G H ρ) (e : ρ[i]? = some (some (.ow xs))) : ∃ p vs, σ[i]? = some (some (.ref p)) ∧ H p = some (.lst vs) ∧ G p = none ∧ RpA K G vs xs := by
  obtain ⟨v, hv, p, vs, rfl, hp, hg, h0, k⟩ := I.slot i _ e
  exact ⟨p, vs, hv, hp, hg, k⟩
theorem snd_app {i : Nat} (h : Snd K mg W te me) : SndS K mg W (tDrop (tBM K "list" rAppend (tVar i) (tCons te tNil))) (mApp i me) := by
  intro G0 H0 σ G H ρ D I q
  unfold mApp at q
  split at q
  · rename_i xs e
    obtain ⟨p, vs, hv, hp, hg, k⟩ := own_get I e
    refine ⟨.ref p, hv, .inl ⟨rfl, vs, SqL.of hp⟩, ?_⟩
    refine h G0 H0 σ G H ρ _ I (RR.out I q fun r G1 H1 v er e1 r1 q1 => ?_)
    split at q1
    · rename_i d ed
      split at q1
      · rename_i hl
        obtain ⟨G2, x2, s2, kd⟩ := esc_one e1 r1.vw ed
        have I2 := I.ext' x2
        obtain ⟨p', vs', hv', hp', hg', k'⟩ := own_get I2 e
        rw [hv] at hv'
        cases hv'
        have ev : vs' = vs := by
          have z := x2.h _ _ hp
          rw [hp'] at z
          cases z
          rfl
        subst ev
        refine ⟨p, vs', v, rfl, rfl, hp', ?_, q1 σ G2 _ (I2.mut e hv (k'.append (.cons kd .nil))) s2⟩
        rw [k.length]
        exact sz_lt hl
      · exact q1.elim
    · exact q1.elim
  · exact q.elim
theorem snd_put {i : Nat} (hi : Snd K mg W ti mi) (h : Snd K mg W te me) : SndS K mg W (tAsg te (gSub (tVar i) ti rSetL)) (mPut i mi me) := by
  intro G0 H0 σ G H ρ D I q
  refine h G0 H0 σ G H ρ _ I (RR.out I q fun r G1 H1 v er e1 r1 q1 => ?_)
  split at q1
  · rename_i d ed
    obtain ⟨G2, x2, s2, kd⟩ := esc_one e1 r1.vw ed
    have I2 := I.ext' x2
    have q1 := OutR.up s2 q1
    split at q1
    · rename_i xs e
      obtain ⟨p, vs, hv, hp, hg, k⟩ := own_get I2 e
      refine ⟨.ref p, hv, ?_⟩
      refine hi G0 H0 σ G2 H1 ρ _ I2 (RR.out I2 q1 fun kk G3 H3 z ez e3 r3 q3 => ?_)
      split at q3
      · split at q3
        · rename_i kk j ej
          have I3 := I2.ext' e3
          obtain ⟨p', vs', hv', hp', hg', k'⟩ := own_get I3 e
          rw [hv] at hv'
          cases hv'
          refine ⟨p, vs', _, j, rfl, r3.int_, hp', ?_, q3 σ G3 _ (I3.mut e hv (RpA.set (Rp.mono e3.g kd) j k')) (Same.refl _)⟩
          rw [k'.length]
          exact ej
        · exact q3.elim
      · exact q3.elim
    · exact q1.elim
  · exact q1.elim
end
section
variable {X : Cx} {W : WX} {e i c : Expr} {te ti : TE} {me mi : Rho → Res Val} {tA : TT} {mA : Rho → Res Bool} {t u : TS} {a b : Rho → Out} {st : Stmt} {sts rest : List Stmt} {pos pos' : Pos}
theorem pms_set (i : Nat) {x : Str} (hN : X.N.Nodup) (h : PM X W e te me) (hi : X.N[i]? = some x := by rfl) (hx : Loc X.env.scope x := by first | exact Or.inl rfl | exact Or.inr rfl) (hs : swapsWith e (some (.Name x pos')) pos.line X.env = pure false := by rfl)
    (hf : X.fn x = true ∨ X.env.scope.names.lookup x = some .local := by first | exact .inl rfl | exact .inr rfl | assumption) : PMS X W (.Assign [.Name x pos'] e pos) (tAsg te (gName i)) (mSet i me) := ⟨ps_set hN hi hx h.p hs hf, snd_set h.s⟩
theorem pms_ret (h : PM X W e te me) : PMS X W (.Return (some e) pos) (tRet te) (mRet me) := ⟨ps_ret h.p, snd_ret h.s⟩
theorem pms_retV (i : Nat) {x : Str} (hN : X.N[i]? = some x := by rfl) (hv : Vis X.env.scope x := by first | exact Or.inl rfl | exact Or.inr (Or.inl rfl) | exact Or.inr (Or.inr rfl)) (hd : (x == ("__debug__" : Str)) = false := by decide)
    (hcd : (x == ("__classdict__" : Str)) = false := by decide) : PMS X W (.Return (some (.Name x pos')) pos) (tRet (tVar i)) (mRetV i) := ⟨ps_ret (pe_var hN hv hd hcd), snd_retV⟩
theorem pms_retN : PMS X W (.Return none pos) tRetN mRetN := ⟨ps_retN, snd_retN⟩
theorem pms_if (hc : PMT X W c tA mA) (ha : PMSs X W sts t a) (hb : PMSs X W rest u b) : PMS X W (.If c sts rest pos) (tIfS tA t u) (mIf mA a b) := ⟨ps_if hc.p ha.p hb.p, snd_if hc.s ha.s hb.s⟩
theorem pms_drop (h : PM X W e te me) (hs : swapsWith e none pos.line X.env = pure false := by rfl) : PMS X W (.Expr e pos) (tDrop te) (mDrop me) := ⟨ps_expr h.p hs, snd_drop h.s⟩
theorem pms_brk : PMS X W (.Break pos) tBreak mBrk := ⟨ps_break, snd_brk⟩
theorem pms_cnt : PMS X W (.Continue pos) tCont mCnt := ⟨ps_continue, snd_cnt⟩
theorem pms_pass : PMS X W (.Pass pos) tNext mSkip := ⟨ps_pass, snd_skip⟩
theorem pms_doc {x j} : PMS X W (.Expr (.Constant (.str x) j pos) pos') tNext mSkip := ⟨ps_doc, snd_skip⟩
theorem pmss_nil : PMSs X W [] tNext mSkip := ⟨pss_nil, snd_skip⟩
theorem pmss_cons (h : PMS X W st t a) (r : PMSs X W rest u b) : PMSs X W (st :: rest) (tSeq t u) (mSeq a b) := ⟨pss_cons h.p r.p, snd_seq h.s r.s⟩
theorem pmss_one (h : PMS X W st t a) : PMSs X W [st] t a := ⟨pss_one h.p, h.s⟩
theorem pmss_frz (i : Nat) (h : PMSs X W sts t a) : PMSs X W sts t (mFrz i a) := ⟨h.p, snd_frz h.s⟩
theorem pms_frz (i : Nat) (h : PMS X W st t a) : PMS X W st t (mFrz i a) := ⟨h.p, snd_frz h.s⟩
theorem pms_app (i : Nat) {x : Str} {p apos cpos : Pos} (h : PM X W e te me) (hN : X.N[i]? = some x := by rfl) (hv : Vis X.env.scope x := by first | exact Or.inl rfl | exact Or.inr (Or.inl rfl) | exact Or.inr (Or.inr rfl)) (hd : (x == ("__debug__" : Str)) = false := by decide)
    (hcd : (x == ("__classdict__" : Str)) = false := by decide)
    (hst : starEach [e] X.env = (false, eval e X.env) :: starEach [] X.env := by rfl)
    (hbase : attributeBase (.Name x p) "append" X.env (eval (.Name x p) X.env) = eval (.Name x p) X.env := by rfl)
    (hfew : ((backTo cpos (starEach [e] X.env)).all (fun x => !x.1) && (backToKw cpos (keywordEach [] X.env)).all (fun x => x.1.isSome) && decide ([e].length + ([] : List Keyword).length + (if ([] : List Keyword).isEmpty then 0 else 1) < 30)) = true := by rfl)
    (hline : (apos.endLine == cpos.line) = true := by rfl) (hplain : (backTo cpos (starEach [] X.env)).any (·.1) = false := by rfl)
    (hs : swapsWith (.Call (.Attribute (.Name x p) "append" apos) [e] [] cpos) none pos.line X.env = pure false := by rfl) :
    PMS X W (.Expr (.Call (.Attribute (.Name x p) "append" apos) [e] [] cpos) pos) (tDrop (tBM X.K "list" rAppend (tVar i) (tCons te tNil))) (mApp i me) :=
  ⟨ps_expr (pe_bm PySem.F.plainAttrs_list PySem.F.slot_list_append PySem.F.type_list_append mt_append (pe_var hN hv hd hcd) (pa_cons h.p pa_nil hst) hbase hfew hline hst hplain) hs, snd_app h.s⟩
theorem pms_put (n : Nat) {x : Str} {p sp : Pos} (hi : PM X W i ti mi) (h : PM X W e te me) (hN : X.N[n]? = some x := by rfl) (hv : Vis X.env.scope x := by first | exact Or.inl rfl | exact Or.inr (Or.inl rfl) | exact Or.inr (Or.inr rfl)) (hd : (x == ("__debug__" : Str)) = false := by decide)
    (hcd : (x == ("__classdict__" : Str)) = false := by decide) (ha : ∀ v, assign (.Subscript (.Name x p) i sp) X.env v = (do
      let ov ← holding [v] (eval (.Name x p) X.env); let iv ← holding [v, ov] (eval i X.env); standAt sp; holding [v, ov, iv] (setItem ov iv v); release [v, ov, iv] []) := by intro _; rfl)
    (hs : swapsWithSole [.Subscript (.Name x p) i sp] e pos.line X.env = pure false := by rfl) (hw : swappedStores [.Subscript (.Name x p) i sp] e X.env = pure none := by rfl)
    (h1 : (assignEach [.Subscript (.Name x p) i sp] X.env).map (·.2) = [assign (.Subscript (.Name x p) i sp) X.env] := by rfl) : PMS X W (.Assign [.Subscript (.Name x p) i sp] e pos) (tAsg te (gSub (tVar n) ti rSetL)) (mPut n mi me) :=
  ⟨ps_asg h.p (pg_sub (pe_var hN hv hd hcd) hi.p set_list ha) hs hw h1, snd_put hi.s h.s⟩
end
end Mi

namespace Mi
open PySem PySem.Spec PyProof.Rows L2

/-! ### targets -/
abbrev BP := D → Rho → Option Rho
/-- only the slots ts differ -/
def OnlyAt (ts : List Nat) (σ σ' : L2.St) : Prop := ∀ us : List Nat, (∀ t ∈ ts, t ∈ us) → wipe σ' us = wipe σ us
theorem OnlyAt.refl {ts : List Nat} {σ : L2.St} : OnlyAt ts σ σ := fun _ _ => rfl
theorem OnlyAt.both {ts us : List Nat} {σ σ1 σ2 : L2.St} (a : OnlyAt ts σ σ1) (b : OnlyAt us σ1 σ2) : OnlyAt (ts ++ us) σ σ2 := fun vs h => (b vs fun t q => h t (List.mem_append_right _ q)).trans (a vs fun t q => h t (List.mem_append_left _ q))
theorem set_same {α : Type} (l : List α) (i : Nat) (a b : α) : (l.set i a).set i b = l.set i b := by
  rw [List.set_set]
theorem wipe_set (i : Nat) (o : Option V) : ∀ (us : List Nat) (σ : L2.St), (i ∈ us → wipe (σ.set i o) us = wipe σ us) ∧ (i ∉ us → wipe (σ.set i o) us = (wipe σ us).set i o)
  | [], σ => ⟨fun h => absurd h (List.not_mem_nil), fun _ => rfl⟩
  | u :: us, σ => by
    have ih := wipe_set i o us σ
    refine ⟨fun h => ?_, fun h => ?_⟩
    · show (wipe (σ.set i o) us).set u none = (wipe σ us).set u none
      by_cases hu : i ∈ us
      · rw [ih.1 hu]
      · have e : i = u := by
          rcases List.mem_cons.mp h with e | e
          · exact e
          · exact absurd e hu
        rw [ih.2 hu, e, set_same]
    · have h1 : i ≠ u := fun e => h (e ▸ List.mem_cons_self)
      have h2 : i ∉ us := fun e => h (List.mem_cons_of_mem _ e)
      show (wipe (σ.set i o) us).set u none = ((wipe σ us).set u none).set i o
      rw [ih.2 h2, List.set_comm _ _ h1]
theorem onlyAt_set {i : Nat} {σ : L2.St} {o : Option V} : OnlyAt [i] σ (σ.set i o) := fun us h => (wipe_set i o us σ).1 (h i List.mem_cons_self)
theorem onlyAt_wipe : ∀ (vs : List Nat) (σ : L2.St), OnlyAt vs σ (wipe σ vs)
  | [], σ => OnlyAt.refl
  | v :: vs, σ => fun us h => by
    show wipe ((wipe σ vs).set v none) us = wipe σ us
    rw [(wipe_set v none us _).1 (h v List.mem_cons_self)]
    exact onlyAt_wipe vs σ us fun t q => h t (List.mem_cons_of_mem _ q)
def SndG (K : PySem.W.Frag) (g : TG) (bp : BP) (ts : List Nat) : Prop := ∀ (G0 H0 : Hp) (σ : L2.St) (G H : Hp) (ρ : Rho) (v : V) (d : D) (ρ' : Rho) (Q : L2.St → Hp → Prop), EnvS K G0 H0 σ G H ρ → Rp K G v d → bp d ρ = some ρ' → (∀ σ', EnvS K G0 H0 σ' G H ρ' → OnlyAt ts σ σ' → Q σ' H) → g v σ H Q
def bName (i : Nat) : BP := fun d ρ => some (ρ.set i (some (.sh d)))
def bNil : List D → Rho → Option Rho := fun ds ρ => match ds with
  | [] => some ρ
  | _ => none
def bCons (b : BP) (r : List D → Rho → Option Rho) : List D → Rho → Option Rho := fun ds ρ => match ds with
  | d :: ds => (b d ρ).bind (r ds)
  | [] => none
def bTup (r : List D → Rho → Option Rho) : BP := fun d ρ => match d with
  | .tuple ds => r ds ρ
  | _ => none
structure SndGs (K : PySem.W.Frag) (g : TGs) (bp : List D → Rho → Option Rho) (n : Nat) (ts : List Nat) : Prop where
  len : ∀ ds ρ ρ', bp ds ρ = some ρ' → ds.length = n
  run : ∀ (G0 H0 : Hp) (σ : L2.St) (G H : Hp) (ρ : Rho) (vs : List V) (ds : List D) (ρ' : Rho) (Q : L2.St → Hp → Prop), EnvS K G0 H0 σ G H ρ → RpA K G vs ds → bp ds ρ = some ρ' → (∀ σ', EnvS K G0 H0 σ' G H ρ' → OnlyAt ts σ σ' → Q σ' H) → g vs σ H Q
structure PMG (X : Cx) (tg : Expr) (g : TG) (bp : BP) (ts : List Nat) : Prop where
  p : PG X tg g
  s : SndG X.K g bp ts
structure PMGs (X : Cx) (tgs : List Expr) (g : TGs) (bp : List D → Rho → Option Rho) (n : Nat) (ts : List Nat) : Prop where
  p : PGs X tgs g
  s : SndGs X.K g bp n ts
theorem sndg_name {K : PySem.W.Frag} {i : Nat} : SndG K (gName i) (bName i) [i] := by
  intro G0 H0 σ G H ρ v d ρ' Q I h e q
  cases e
  exact q _ (I.put (r := .sh d) (Ext.refl I.s) h rfl) onlyAt_set
theorem sndg_nil {K : PySem.W.Frag} : SndGs K gNil bNil 0 [] := by
  refine ⟨fun ds ρ ρ' e => ?_, fun G0 H0 σ G H ρ vs ds ρ' Q I h e q => ?_⟩
  · cases ds with
    | nil => rfl
    | cons d ds => cases e
  · cases h with
    | nil =>
      cases e
      exact ⟨rfl, q _ I OnlyAt.refl⟩
    | cons a b => cases e
theorem sndg_cons {K : PySem.W.Frag} {g : TG} {bp : BP} {gs : TGs} {bs : List D → Rho → Option Rho} {n : Nat} {ts us : List Nat} (h1 : SndG K g bp ts) (h2 : SndGs K gs bs n us) : SndGs K (gCons g gs) (bCons bp bs) (n + 1) (ts ++ us) := by
  refine ⟨fun ds ρ ρ' e => ?_, fun G0 H0 σ G H ρ vs ds ρ' Q I h e q => ?_⟩
  · cases ds with
    | nil => cases e
    | cons d ds =>
      have e : (bp d ρ).bind (bs ds) = some ρ' := e
      cases e1 : bp d ρ with
      | none =>
        rw [e1] at e
        cases e
      | some ρ1 =>
        rw [e1] at e
        exact congrArg (· + 1) (h2.len ds ρ1 ρ' e)
  · cases h with
    | nil => cases e
    | @cons v vs d ds a b =>
      have e : (bp d ρ).bind (bs ds) = some ρ' := e
      cases e1 : bp d ρ with
      | none =>
        rw [e1] at e
        cases e
      | some ρ1 =>
        rw [e1] at e
        exact ⟨v, vs, rfl, h1 G0 H0 σ G H ρ v d ρ1 _ I a e1 fun σ1 I1 o1 => h2.run G0 H0 σ1 G H ρ1 vs ds ρ' Q I1 b e fun σ2 I2 o2 => q σ2 I2 (o1.both o2)⟩
theorem sndg_tup {K : PySem.W.Frag} {gs : TGs} {bs : List D → Rho → Option Rho} {n : Nat} {ts : List Nat} (h : SndGs K gs bs n ts) : SndG K (gTup K n gs) (bTup bs) ts := by
  intro G0 H0 σ G H ρ v d ρ' Q I hd e q
  unfold bTup at e
  split at e
  · cases hd with
    | tup ht ha => exact ⟨_, _, rfl, same_t I.s ht, by rw [ha.length]; exact h.len _ _ _ e, h.run G0 H0 σ G H ρ _ _ ρ' Q I ha e q⟩
  · cases e
section
variable {X : Cx} {g : TG} {bp : BP} {gs : TGs} {bs : List D → Rho → Option Rho} {n : Nat} {ts us : List Nat} {e : Expr} {es : List Expr} {pos : Pos} {k : Nat}
theorem pmg_name (i : Nat) {x : Str} (hN : X.N.Nodup) (hi : X.N[i]? = some x := by rfl) (hx : Loc X.env.scope x := by first | exact Or.inl rfl | exact Or.inr rfl) (hf : X.fn x = true ∨ X.env.scope.names.lookup x = some .local := by first | exact .inl rfl | exact .inr rfl | assumption) :
    PMG X (.Name x pos) (gName i) (bName i) [i] := ⟨pg_name hN hi hx hf, sndg_name⟩
theorem pmg_nil : PMGs X [] gNil bNil 0 [] := ⟨pgs_nil, sndg_nil⟩
theorem pmg_cons (h1 : PMG X e g bp ts) (h2 : PMGs X es gs bs n us) (hs : (assignEach (e :: es) X.env).map (·.2) = assign e X.env :: (assignEach es X.env).map (·.2) := by rfl) : PMGs X (e :: es) (gCons g gs) (bCons bp bs) (n + 1) (ts ++ us) := ⟨pgs_cons h1.p h2.p hs, sndg_cons h1.s h2.s⟩
theorem pmg_tup (hc : X.calm = true) (h : PMGs X es gs bs n ts) (hn : (assignEach es X.env).length = n := by rfl) (hst : (assignEach es X.env).findIdx? (·.1) = none := by rfl) : PMG X (.Tuple es k pos) (gTup X.K n gs) (bTup bs) ts := ⟨pg_tup hc h.p hn hst, sndg_tup h.s⟩
end

/-! ### what is walked -/
structure ItS (K : PySem.W.Frag) (Ga Ha : Hp) (J : It) (xs : List D) : Prop where
  go : ∀ i G H, Same Ga G → Same G H → i < xs.length → J.go i H
  stop : ∀ i G H, Same Ga G → Same G H → xs.length ≤ i → J.stop i H
  yld : ∀ i G H x H', Same Ga G → Same G H → i < xs.length → J.yld i H x H' → ∃ d G', xs[i]? = some d ∧ Ext G H G' H' ∧ Rp K G' x d
abbrev RI (K : PySem.W.Frag) : Hp → Hp → Hp → It → List D → Prop := fun _ G' H' J xs => ItS K G' H' J xs
def SndI (K : PySem.W.Frag) (mg : Str → Option Value) (W : WX) (wi : TI) (mi : Rho → Res (List D)) : Prop :=
  ∀ (G0 H0 : Hp) (σ : L2.St) (G H : Hp) (ρ : Rho) (R : It → Hp → Prop), EnvS K G0 H0 σ G H ρ → RR K mg W (RI K) σ G H R (mi ρ) → wi σ H R
structure PMI (X : Cx) (W : WX) (tg iter : Expr) (wi : TI) (mi : Rho → Res (List D)) : Prop where
  p : PI X tg iter wi
  s : SndI X.K X.mg W wi mi
/-- a list that stays as it is while it is walked -/
def fix : Val → Option (List D)
  | .sh (.list xs) => some xs
  | .ow xs => some xs
  | .fz xs => some xs
  | _ => none
def mIterL (ma : Rho → Res Val) : Rho → Res (List D) := fun ρ => (ma ρ).bind fun a => lift (fix a)
def mIterT (ma : Rho → Res Val) : Rho → Res (List D) := fun ρ => (ma ρ).bind fun a => lift (match a with
  | .sh (.tuple xs) => some xs
  | _ => none)
def rangeD (lo : Int) (n : Nat) : List D := (List.range n).map fun i => .int (lo + (i : Nat))
def mIter1 (ma : Rho → Res (List Val)) : Rho → Res (List D) := fun ρ => (ma ρ).bind fun as => lift (match as with
  | [.sh (.int j)] => if j.natAbs ≤ 1000000 then some (rangeD 0 j.toNat) else none
  | _ => none)
def mIter2 (ma : Rho → Res (List Val)) : Rho → Res (List D) := fun ρ => (ma ρ).bind fun as => lift (match as with
  | [.sh (.int i), .sh (.int j)] => if i.natAbs ≤ 1000000 ∧ j.natAbs ≤ 1000000 then some (rangeD i (j - i).toNat) else none
  | _ => none)
def numbered (k : Nat) : List D → List D
  | [] => []
  | d :: ds => .tuple [.int (k : Nat), d] :: numbered (k + 1) ds
def mIterE (ma : Rho → Res (List Val)) : Rho → Res (List D) := fun ρ => (ma ρ).bind fun as => lift (match as with
  | [a] => (fix a).map (numbered 0)
  | _ => none)
theorem fix_ok {K : PySem.W.Frag} {Gs Hs G H : Hp} {v : V} {r : Val} {xs : List D} (e : Ext Gs Hs G H) (h : VR K Hs G H v r) (ef : fix r = some xs) : ∃ a vs G', v = .ref a ∧ Ext Gs Hs G' H ∧ SqL K G' a vs ∧ RpA K G' vs xs := by
  unfold fix at ef
  split at ef
  · cases ef
    cases (show Rp K G v _ from h) with
    | lst q k => exact ⟨_, _, G, rfl, e, SqL.of q, k⟩
  · cases ef
    obtain ⟨p, vs, rfl, a, b, c, k⟩ := h
    exact ⟨p, vs, _, rfl, e.frz a c b, SqL.of upd_same, k.mono (same_new b)⟩
  · cases ef
    obtain ⟨p, vs, rfl, a, k⟩ := h
    exact ⟨p, vs, G, rfl, e, a, k⟩
  · cases ef
theorem its_list {K : PySem.W.Frag} {Ga Ha : Hp} {a : Addr} {vs : List V} {xs : List D} (h : SqL K Ga a vs) (k : RpA K Ga vs xs) : ItS K Ga Ha (Itl K a) xs := by
  have hv : ∀ {G H : Hp}, Same Ga G → Same G H → SqL K H a vs := fun e1 e2 => e2.seq (e1.seq h)
  refine ⟨fun i G H e1 e2 hi => ?_, fun i G H e1 e2 hi => ⟨vs, hv e1 e2, by rw [k.length]; exact hi⟩, fun i G H x H' e1 e2 hi y => ?_⟩
  · have hi' : i < vs.length := by rw [k.length]; exact hi
    exact ⟨vs, vs[i], hv e1 e2, List.getElem?_eq_getElem hi'⟩
  · obtain ⟨rfl, f⟩ := y
    obtain ⟨d, ed, rd⟩ := k.getV (f vs (hv e1 e2))
    exact ⟨d, G, ed, Ext.refl e2, Rp.mono e1 rd⟩
theorem its_tup {K : PySem.W.Frag} {Ga Ha : Hp} {a : Addr} {vs : List V} {xs : List D} (h : SqT K Ga a vs) (k : RpA K Ga vs xs) : ItS K Ga Ha (Itt K a) xs := by
  have hv : ∀ {G H : Hp}, Same Ga G → Same G H → SqT K H a vs := fun e1 e2 => same_t e2 (same_t e1 h)
  refine ⟨fun i G H e1 e2 hi => ?_, fun i G H e1 e2 hi => ⟨vs, hv e1 e2, by rw [k.length]; exact hi⟩, fun i G H x H' e1 e2 hi y => ?_⟩
  · have hi' : i < vs.length := by rw [k.length]; exact hi
    exact ⟨vs, vs[i], hv e1 e2, List.getElem?_eq_getElem hi'⟩
  · obtain ⟨rfl, f⟩ := y
    obtain ⟨d, ed, rd⟩ := k.getV (f vs (hv e1 e2))
    exact ⟨d, G, ed, Ext.refl e2, Rp.mono e1 rd⟩
theorem rangeD_len (lo : Int) (n : Nat) : (rangeD lo n).length = n := by
  unfold rangeD
  rw [List.length_map, List.length_range]
theorem rangeD_get {lo : Int} {n i : Nat} (h : i < n) : (rangeD lo n)[i]? = some (.int (lo + (i : Nat))) := by
  unfold rangeD
  rw [List.getElem?_map, List.getElem?_range h]
  rfl
theorem its_rng {K : PySem.W.Frag} {Ga Ha : Hp} {lo : Int} {n : Nat} : ItS K Ga Ha (Itr lo n) (rangeD lo n) := by
  refine ⟨fun i G H e1 e2 hi => ?_, fun i G H e1 e2 hi => ?_, fun i G H x H' e1 e2 hi y => ?_⟩
  · rw [rangeD_len] at hi
    exact hi
  · rw [rangeD_len] at hi
    exact hi
  · rw [rangeD_len] at hi
    obtain ⟨rfl, rfl⟩ := y
    exact ⟨_, G, rangeD_get hi, Ext.refl e2, .int _⟩
theorem numbered_len : ∀ (k : Nat) (ds : List D), (numbered k ds).length = ds.length
  | _, [] => rfl
  | k, d :: ds => congrArg (· + 1) (numbered_len (k + 1) ds)
theorem numbered_get : ∀ (k : Nat) (ds : List D) (i : Nat) (d : D), ds[i]? = some d → (numbered k ds)[i]? = some (.tuple [.int ((k + i : Nat) : Int), d])
  | _, [], i, d, h => by simp at h
  | k, x :: ds, 0, d, h => by
    simp at h
    subst h
    rfl
  | k, x :: ds, i + 1, d, h => by
    have h : ds[i]? = some d := by simpa using h
    have e : k + 1 + i = k + (i + 1) := by omega
    have q := numbered_get (k + 1) ds i d h
    rw [e] at q
    exact q
theorem its_enum {K : PySem.W.Frag} {Ga Ha : Hp} {a : Addr} {vs : List V} {xs : List D} (h : SqL K Ga a vs) (k : RpA K Ga vs xs) : ItS K Ga Ha (Ite K a) (numbered 0 xs) := by
  have hv : ∀ {G H : Hp}, Same Ga G → Same G H → SqL K H a vs := fun e1 e2 => e2.seq (e1.seq h)
  refine ⟨fun i G H e1 e2 hi => ?_, fun i G H e1 e2 hi => ⟨vs, hv e1 e2, by rw [k.length, ← numbered_len 0 xs]; exact hi⟩, fun i G H x H' e1 e2 hi y => ?_⟩
  · have hi' : i < vs.length := by rw [k.length, ← numbered_len 0 xs]; exact hi
    exact ⟨vs, vs[i], hv e1 e2, List.getElem?_eq_getElem hi'⟩
  · obtain ⟨T, z, rfl, nT, rfl, f⟩ := y
    obtain ⟨d, ed, rd⟩ := k.getV (f vs (hv e1 e2))
    refine ⟨_, _, numbered_get 0 xs i d ed, Ext.newS e2 nT, ?_⟩
    rw [Nat.zero_add]
    exact Rp.tup (.inl (.inl upd_same)) (.cons (.int _) (.cons (Rp.mono (e1.trans (same_new (e2.free nT))) rd) .nil))
section
variable {K : PySem.W.Frag} {mg : Str → Option Value} {W : WX} {te : TE} {me : Rho → Res Val} {ta : TA} {ma : Rho → Res (List Val)}
theorem sndi_list (h : Snd K mg W te me) : SndI K mg W (iList K te) (mIterL me) := by
  intro G0 H0 σ G H ρ R I q
  refine h G0 H0 σ G H ρ _ I (RR.bnd (Ext.refl I.s) q fun a G1 H1 x ea e1 r1 h1 => ?_)
  obtain ⟨xs, ex, q1⟩ := h1.lift
  obtain ⟨p, vs, G2, rfl, e2, hs, k⟩ := fix_ok e1 r1 ex
  exact ⟨p, rfl, ⟨vs, e2.s.seq hs⟩, q1 G2 H1 _ e2 (its_list hs k)⟩
theorem sndi_tup (h : Snd K mg W te me) : SndI K mg W (iTup K te) (mIterT me) := by
  intro G0 H0 σ G H ρ R I q
  refine h G0 H0 σ G H ρ _ I (RR.bnd (Ext.refl I.s) q fun a G1 H1 x ea e1 r1 h1 => ?_)
  obtain ⟨xs, ex, q1⟩ := h1.lift
  split at ex
  · cases ex
    cases (show Rp K G1 x _ from r1) with
    | tup ht k => exact ⟨_, rfl, ⟨_, same_t e1.s ht⟩, q1 G1 H1 _ e1 (its_tup ht k)⟩
  · cases ex
theorem sndi_1 (h : SndA K mg W ta ma) : SndI K mg W (iRng1 ta) (mIter1 ma) := by
  intro G0 H0 σ G H ρ R I q
  refine h G0 H0 σ G H ρ _ I (RR.bnd (Ext.refl I.s) q fun a G1 H1 x ea e1 r1 h1 => ?_)
  obtain ⟨xs, ex, q1⟩ := h1.lift
  split at ex
  · split at ex
    · cases ex
      obtain ⟨v, rfl, z⟩ := vrs1 r1
      cases z.int_
      exact ⟨_, rfl, by omega, by omega, q1 G1 H1 _ e1 its_rng⟩
    · cases ex
  · cases ex
theorem sndi_2 (h : SndA K mg W ta ma) : SndI K mg W (iRng2 ta) (mIter2 ma) := by
  intro G0 H0 σ G H ρ R I q
  refine h G0 H0 σ G H ρ _ I (RR.bnd (Ext.refl I.s) q fun a G1 H1 x ea e1 r1 h1 => ?_)
  obtain ⟨xs, ex, q1⟩ := h1.lift
  split at ex
  · split at ex
    · cases ex
      obtain ⟨v, u, rfl, z1, z2⟩ := vrs2 r1
      cases z1.int_
      cases z2.int_
      exact ⟨_, _, rfl, ⟨by omega, by omega, by omega, by omega⟩, q1 G1 H1 _ e1 its_rng⟩
    · cases ex
  · cases ex
theorem sndi_e (h : SndA K mg W ta ma) : SndI K mg W (iEnum K ta) (mIterE ma) := by
  intro G0 H0 σ G H ρ R I q
  refine h G0 H0 σ G H ρ _ I (RR.bnd (Ext.refl I.s) q fun a G1 H1 x ea e1 r1 h1 => ?_)
  obtain ⟨xs, ex, q1⟩ := h1.lift
  split at ex
  · rename_i r
    obtain ⟨v, rfl, z⟩ := vrs1 r1
    cases ef : fix r with
    | none =>
      rw [ef] at ex
      cases ex
    | some ys =>
      rw [ef] at ex
      cases ex
      obtain ⟨p, vs, G2, rfl, e2, hs, k⟩ := fix_ok e1 z ef
      exact ⟨p, vs, rfl, e2.s.seq hs, q1 G2 H1 _ e2 (its_enum hs k)⟩
  · cases ex
end
section
variable {X : Cx} {W : WX} {tg e a b : Expr} {te : TE} {me : Rho → Res Val} {ta : TA} {ma : Rho → Res (List Val)} {p pos tpos : Pos} {elts : List Expr} {kk : Nat}
theorem pmi_list (h : PM X W e te me) : PMI X W tg e (iList X.K te) (mIterL me) := ⟨pi_list h.p, sndi_list h.s⟩
theorem pmi_tup (h : PM X W e te me) : PMI X W tg e (iTup X.K te) (mIterT me) := ⟨pi_tup h.p, sndi_tup h.s⟩
theorem pmi_1 (hm : X.mg "range" = none) (h : PMA X W [a] ta ma) (hg : Gl X "range" := by rfl) (hs : starEach [a] X.env = [(false, eval a X.env)] := by rfl) : PMI X W tg (.Call (.Name "range" p) [a] [] pos) (iRng1 ta) (mIter1 ma) := ⟨pi_range1 hg hm h.p hs, sndi_1 h.s⟩
theorem pmi_2 (hm : X.mg "range" = none) (h : PMA X W [a, b] ta ma) (hg : Gl X "range" := by rfl) (hs : starEach [a, b] X.env = [(false, eval a X.env), (false, eval b X.env)] := by rfl) (hs2 : starEach [b] X.env = [(false, eval b X.env)] := by rfl) :
    PMI X W tg (.Call (.Name "range" p) [a, b] [] pos) (iRng2 ta) (mIter2 ma) := ⟨pi_range2 hg hm h.p hs hs2, sndi_2 h.s⟩
theorem pmi_e (hm : X.mg "enumerate" = none) (h : PMA X W [a] ta ma) (hg : Gl X "enumerate" := by rfl) (hs : starEach [a] X.env = [(false, eval a X.env)] := by rfl) : PMI X W (.Tuple elts kk tpos) (.Call (.Name "enumerate" p) [a] [] pos) (iEnum X.K ta) (mIterE ma) := ⟨pi_enum hg hm h.p hs, sndi_e h.s⟩
end

/-! ### loops -/
def loop (bp : BP) (body : Rho → Out) : List D → Rho → Out
  | [], ρ => .nx ρ
  | d :: ds, ρ => match bp d ρ with
    | none => .no
    | some ρ1 => match body ρ1 with
      | .nx ρ' => loop bp body ds ρ'
      | .ct ρ' => loop bp body ds ρ'
      | .bk ρ' => .nx ρ'
      | o => o
def mFor (mi : Rho → Res (List D)) (bp : BP) (body : Rho → Out) : Rho → Out := fun ρ => sRes (mi ρ) ρ fun xs => loop bp body xs ρ
theorem snd_for {K : PySem.W.Frag} {mg : Str → Option Value} {W : WX} {wi : TI} {mi : Rho → Res (List D)} {g : TG} {bp : BP} {tb : TS} {mb : Rho → Out} {ts : List Nat} (hi : SndI K mg W wi mi) (hg : SndG K g bp ts) (hb : SndS K mg W tb mb) : SndS K mg W (tFor wi g tb) (mFor mi bp mb) := by
  intro G0 H0 σ G H ρ D I q
  refine hi G0 H0 σ G H ρ _ I (RR.out I q fun xs G1 H1 J ex e1 hJ q1 => ?_)
  have hJ : ItS K G1 H1 J xs := hJ
  refine ⟨fun i m σ H => ∃ G ρ, EnvS K G0 H0 σ G H ρ ∧ Same G1 G ∧ i ≤ xs.length ∧ m = xs.length - i ∧ OutR K mg W G0 H0 G D (loop bp mb (xs.drop i) ρ), ⟨xs.length, G1, ρ, I.ext' e1, Same.refl _, Nat.zero_le _, rfl, q1⟩, ?_⟩
  rintro i m σ H ⟨G2, ρ2, I2, s2, hi2, rfl, q2⟩
  by_cases hlt : i < xs.length
  · refine .inr ⟨hJ.go i G2 H s2 I2.s hlt, fun σ' H' => ∃ G ρ, EnvS K G0 H0 σ' G H' ρ ∧ Same G1 G ∧ OutR K mg W G0 H0 G D (loop bp mb (xs.drop (i + 1)) ρ), fun σ' H' ⟨G3, ρ3, I3, s3, q3⟩ => ⟨xs.length - (i + 1), by omega, G3, ρ3, I3, s3, hlt, rfl, q3⟩, fun x H' y => ?_⟩
    obtain ⟨d, G3, ed, e3, rd⟩ := hJ.yld i G2 H x H' s2 I2.s hlt y
    have I3 := I2.ext' e3
    have hd : xs.drop i = d :: xs.drop (i + 1) := by
      rw [List.drop_eq_getElem_cons hlt]
      congr 1
      rw [List.getElem?_eq_getElem hlt] at ed
      exact Option.some.inj ed
    rw [hd] at q2
    unfold loop at q2
    split at q2
    · exact q2.elim
    · rename_i ρ4 eb
      refine hg G0 H0 σ G3 H' ρ2 x d ρ4 _ I3 rd eb fun σ4 I4 _ => ?_
      refine hb G0 H0 σ4 G3 H' ρ4 _ I4 ?_
      have q2 := OutR.up e3.g q2
      have s3 : Same G1 G3 := s2.trans e3.g
      cases eo : mb ρ4 with
      | nx ρ' =>
        rw [eo] at q2
        exact fun σ5 G5 H5 I5 s5 => ⟨G5, ρ', I5, s3.trans s5, OutR.up s5 q2⟩
      | ct ρ' =>
        rw [eo] at q2
        exact fun σ5 G5 H5 I5 s5 => ⟨G5, ρ', I5, s3.trans s5, OutR.up s5 q2⟩
      | bk ρ' =>
        rw [eo] at q2
        exact q2
      | rt r =>
        rw [eo] at q2
        exact q2
      | ex n fs ρ' =>
        rw [eo] at q2
        exact q2
      | no =>
        rw [eo] at q2
        exact q2.elim
  · have e : i = xs.length := by omega
    subst e
    rw [List.drop_length] at q2
    exact .inl ⟨hJ.stop _ G2 H s2 I2.s (Nat.le_refl _), q2 σ G2 H I2 (Same.refl _)⟩
/-- while, so many turns at most -/
def whil (mc : Rho → Res Bool) (body : Rho → Out) : Nat → Rho → Out
  | 0, _ => .no
  | n + 1, ρ => sRes (mc ρ) ρ fun k => if k = true then match body ρ with
      | .nx ρ' => whil mc body n ρ'
      | .ct ρ' => whil mc body n ρ'
      | .bk ρ' => .nx ρ'
      | o => o
    else .nx ρ
theorem snd_while {K : PySem.W.Frag} {mg : Str → Option Value} {W : WX} {tc : TT} {mc : Rho → Res Bool} {tb : TS} {mb : Rho → Out} (n : Nat) (hc : SndT K mg W tc mc) (hb : SndS K mg W tb mb) : SndS K mg W (tWhile tc tb) (whil mc mb n) := by
  intro G0 H0 σ G H ρ D I q
  refine ⟨fun m σ H => ∃ G ρ, EnvS K G0 H0 σ G H ρ ∧ OutR K mg W G0 H0 G D (whil mc mb m ρ), ⟨n, G, ρ, I, q⟩, ?_⟩
  rintro m σ H ⟨G2, ρ2, I2, q2⟩
  cases m with
  | zero => exact q2.elim
  | succ m =>
    refine hc G0 H0 σ G2 H ρ2 _ I2 (RR.out I2 q2 fun k G3 H3 v er e1 r1 q3 => ?_)
    cases (show v = k from r1)
    cases k with
    | false => exact iteF (q3 σ G3 H3 (I2.ext' e1) (Same.refl _))
    | true =>
      refine iteT ⟨fun σ' H' => ∃ G ρ, EnvS K G0 H0 σ' G H' ρ ∧ OutR K mg W G0 H0 G D (whil mc mb m ρ), fun σ' H' h => ⟨m, Nat.lt_succ_self m, h⟩, ?_⟩
      refine hb G0 H0 σ G3 H3 ρ2 _ (I2.ext' e1) ?_
      have q3 : OutR K mg W G0 H0 G3 D (match mb ρ2 with
        | .nx ρ' => whil mc mb m ρ'
        | .ct ρ' => whil mc mb m ρ'
        | .bk ρ' => .nx ρ'
        | o => o) := q3
      cases eo : mb ρ2 with
      | nx ρ' =>
        rw [eo] at q3
        exact fun σ5 G5 H5 I5 s5 => ⟨G5, ρ', I5, OutR.up s5 q3⟩
      | ct ρ' =>
        rw [eo] at q3
        exact fun σ5 G5 H5 I5 s5 => ⟨G5, ρ', I5, OutR.up s5 q3⟩
      | bk ρ' =>
        rw [eo] at q3
        exact q3
      | rt r =>
        rw [eo] at q3
        exact q3
      | ex n fs ρ' =>
        rw [eo] at q3
        exact q3
      | no =>
        rw [eo] at q3
        exact q3.elim
section
variable {X : Cx} {W : WX} {tg iter c : Expr} {wi : TI} {mi : Rho → Res (List D)} {g : TG} {bp : BP} {tb : TS} {mb : Rho → Out} {body : List Stmt} {pos : Pos} {tc : TT} {mc : Rho → Res Bool} {ts : List Nat}
theorem pms_for (hp : PassesOwn (model X.prog X.w) X.A X.env X.xe) (hc : X.calm = true) (hi : PMI X W tg iter wi mi) (hg : PMG X tg g bp ts) (hb : PMSs X W body tb mb) (hs : ∀ x, foldedSetIterable iter X.env x = pure x := by intro _; rfl) :
    PMS X W (.For tg iter body [] pos) (tFor wi g tb) (mFor mi bp mb) := ⟨ps_for hp hc hi.p hg.p hb.p hs, snd_for hi.s hg.s hb.s⟩
theorem pms_while (n : Nat) (hp : PassesOwn (model X.prog X.w) X.A X.env X.xe) (hc : PMT X W c tc mc) (hb : PMSs X W body tb mb) : PMS X W (.While c body [] pos) (tWhile tc tb) (whil mc mb n) := ⟨ps_while hp hc.p hb.p, snd_while n hc.s hb.s⟩
end
end Mi

namespace Mi
open PySem PySem.Spec PyProof.Rows L2

/-! ### comprehensions -/
def wipeR (ρ : Rho) : List Nat → Rho
  | [] => ρ
  | v :: vs => (wipeR ρ vs).set v none
theorem EnvS.wipe {K : PySem.W.Frag} {G0 H0 G H : Hp} {σ : L2.St} {ρ : Rho} (I : EnvS K G0 H0 σ G H ρ) : ∀ vs : List Nat, EnvS K G0 H0 (L2.wipe σ vs) G H (wipeR ρ vs)
  | [] => I
  | v :: vs => (I.wipe vs).drop v none
def comp (bp : BP) (mt : Rho → Res Bool) (me : Rho → Res Val) (ρ : Rho) : List D → List D → Res (List D)
  | [], acc => .ok acc
  | d :: ds, acc => match bp d ρ with
    | none => .no
    | some ρ1 => match mt ρ1 with
      | .ok b => if b = true then match me ρ1 with
          | .ok r => match esc r with
            | some x => if acc.length < 100000 then comp bp mt me ρ ds (acc ++ [x]) else .no
            | none => .no
          | _ => .no
        else comp bp mt me ρ ds acc
      | _ => .no
def mComp (mi : Rho → Res (List D)) (bp : BP) (mt : Rho → Res Bool) (me : Rho → Res Val) (vs : List Nat) : Rho → Res Val := fun ρ => (mi ρ).bind fun xs => match comp bp mt me (wipeR ρ vs) xs [] with
  | .ok ys => .ok (.ow ys)
  | _ => .no
def W0 : WX := fun _ _ _ _ => False
theorem Ext.mutN {G1 H1 G H : Hp} {p : Addr} {o : HO} (e : Ext G1 H1 G H) (h : H1 p = none) (g : G p = none) : Ext G1 H1 G (upd H p o) := by
  refine ⟨fun b u q => ?_, e.g, fun b u q => ?_, e.n⟩
  · rw [upd_ne (ne_of_none q h)]
    exact e.h _ _ q
  · rw [upd_ne (ne_of_none q g)]
    exact e.s _ _ q
theorem snd_comp {K : PySem.W.Frag} {mg : Str → Option Value} {W : WX} {wi : TI} {mi : Rho → Res (List D)} {g : TG} {bp : BP} {ts : List Nat} {tt : TT} {mt : Rho → Res Bool} {te : TE} {me : Rho → Res Val} {vs : List Nat} (hi : SndI K mg W wi mi) (hg : SndG K g bp ts) (hts : ∀ t ∈ ts, t ∈ vs)
    (ht : SndT K mg W0 tt mt) (he : Snd K mg W0 te me) : Snd K mg W (tLc wi g tt te vs) (mComp mi bp mt me vs) := by
  intro G0 H0 σ G H ρ Q I q
  refine hi G0 H0 σ G H ρ _ I (RR.bnd (Ext.refl I.s) q fun xs G1 H1 J ex e1 hJ q1 => ?_)
  have hJ : ItS K G1 H1 J xs := hJ
  intro Dl nD
  have hD : H Dl = none := e1.h.free nD
  have gD : G1 Dl = none := e1.s.free nD
  have I1 := (I.ext' e1).wipe vs
  split at q1
  · rename_i ys ey
    refine ⟨fun i m H2 => ∃ G2 acc av, Ext G1 H1 G2 H2 ∧ G2 Dl = none ∧ H2 Dl = some (.lst av) ∧ RpA K G2 av acc ∧ i ≤ xs.length ∧ m = xs.length - i ∧ comp bp mt me (wipeR ρ vs) (xs.drop i) acc = .ok ys,
      ⟨xs.length, G1, [], [], Ext.newO e1.s nD, gD, upd_same, .nil, Nat.zero_le _, rfl, ey⟩, ?_⟩
    rintro i m H2 ⟨G2, acc, av, e2, g2, h2, ka, hi2, rfl, ec⟩
    by_cases hlt : i < xs.length
    · refine .inr ⟨hJ.go i G2 H2 e2.g e2.s hlt, fun H' => ∃ G2 acc av, Ext G1 H1 G2 H' ∧ G2 Dl = none ∧ H' Dl = some (.lst av) ∧ RpA K G2 av acc ∧ comp bp mt me (wipeR ρ vs) (xs.drop (i + 1)) acc = .ok ys,
        fun H' ⟨G3, acc3, av3, z1, z2, z3, z4, z5⟩ => ⟨xs.length - (i + 1), by omega, G3, acc3, av3, z1, z2, z3, z4, hlt, rfl, z5⟩, fun x H' y => ?_⟩
      obtain ⟨d, G3, ed, e3, rd⟩ := hJ.yld i G2 H2 x H' e2.g e2.s hlt y
      have hd : xs.drop i = d :: xs.drop (i + 1) := by
        rw [List.drop_eq_getElem_cons hlt]
        congr 1
        rw [List.getElem?_eq_getElem hlt] at ed
        exact Option.some.inj ed
      rw [hd] at ec
      unfold comp at ec
      split at ec
      · cases ec
      · rename_i ρ4 eb
        have e13 := e2.trans e3
        refine hg G0 H0 _ G3 H' (wipeR ρ vs) x d ρ4 _ (I1.ext' e13) rd eb fun σ4 I4 oa => ⟨?_, ?_⟩
        · exact (oa vs hts).trans (onlyAt_wipe vs σ vs fun t q => q)
        · split at ec
          · rename_i b et
            refine ht G0 H0 σ4 G3 H' ρ4 _ I4 ?_
            rw [et]
            intro G4 H4 b' e4 eb'
            cases (show b' = b from eb')
            cases b with
            | false =>
              have ne34 := e3.trans e4
              refine iteF ⟨G4, acc, av, e13.trans e4, ?_, ne34.h _ _ h2, ka.mono ne34.g, ec⟩
              exact ne34.n Dl (by rw [h2]; exact Option.some_ne_none _) g2
            | true =>
              refine iteT (he G0 H0 σ4 G4 H4 ρ4 _ (I4.ext' e4) ?_)
              have ec : (match me ρ4 with
                | .ok r => match esc r with
                  | some x => if acc.length < 100000 then comp bp mt me (wipeR ρ vs) (xs.drop (i + 1)) (acc ++ [x]) else .no
                  | none => .no
                | _ => .no) = .ok ys := ec
              split at ec
              · rename_i r er
                rw [er]
                intro G5 H5 v e5 r5
                split at ec
                · rename_i x' ex'
                  split at ec
                  · rename_i hl
                    obtain ⟨G6, e6, s6, k6⟩ := esc_one e5 r5.vw ex'
                    have e26 := (e3.trans e4).trans e6
                    have g6 : G6 Dl = none := e26.n Dl (by rw [h2]; exact Option.some_ne_none _) g2
                    refine ⟨av, e26.h _ _ h2, ?_, G6, acc ++ [x'], av ++ [v], ((e2.trans e26).mutN nD g6), g6, upd_same, (ka.mono e26.g).append (.cons k6 .nil), ec⟩
                    rw [ka.length]
                    exact sz_lt hl
                  · cases ec
                · cases ec
              · cases ec
          · cases ec
    · have e : i = xs.length := by omega
      subst e
      rw [List.drop_length] at ec
      have ec : Res.ok acc = Res.ok ys := ec
      cases ec
      exact .inl ⟨hJ.stop _ G2 H2 e2.g e2.s (Nat.le_refl _), q1 G2 H2 _ (e1.trans e2) ⟨Dl, av, rfl, h2, g2, hD, ka⟩⟩
  · exact q1.elim
def mYes : Rho → Res Bool := fun _ => .ok true
theorem snd_yes {K : PySem.W.Frag} {mg : Str → Option Value} {W : WX} : SndT K mg W tYes mYes := fun G0 H0 σ G H ρ Q I q => q G H true (Ext.refl I.s) rfl
structure PMTs (X : Cx) (W : WX) (ifs : List Expr) (tt : TT) (mt : Rho → Res Bool) : Prop where
  p : PTs X ifs tt
  s : SndT X.K X.mg W tt mt
theorem pmts_nil {X : Cx} {W : WX} : PMTs X W [] tYes mYes := ⟨pts_nil, snd_yes⟩
theorem pmts_one {X : Cx} {W : WX} {c : Expr} {tt : TT} {mt : Rho → Res Bool} (h : PMT X W c tt mt) : PMTs X W [c] tt mt := ⟨pts_one h.p, h.s⟩
section
variable {X : Cx} {W : WX} {elt tg iter : Expr} {ifs : List Expr} {scope : Scope} {own : List (Str × Nat)} {pos : Pos} {wi : TI} {mi : Rho → Res (List D)} {g : TG} {bp : BP} {ts : List Nat} {tt : TT} {mt : Rho → Res Bool} {te : TE} {me : Rho → Res Val}
theorem pm_lc (own : List (Str × Nat)) (hc : X.calm = true) (hN : X.N.Nodup) (hi : PMI X W tg iter wi mi) (ok : BlkOk X.N X.env.scope scope own) (hts : ∀ t ∈ ts, t ∈ own.map (·.2))
    (hg : ∀ (s : Shared) (H : Hp) (C : Addr) (cl : List (Str × Addr)) (fp : List Addr), PMG (X.blk s H scope (compEnvC scope cl C X.env) fp) tg g bp ts)
    (ht : ∀ (s : Shared) (H : Hp) (C : Addr) (cl : List (Str × Addr)) (fp : List Addr), PMTs (X.blk s H scope (compEnvC scope cl C X.env) fp) W0 ifs tt mt)
    (he : ∀ (s : Shared) (H : Hp) (C : Addr) (cl : List (Str × Addr)) (fp : List Addr), PM (X.blk s H scope (compEnvC scope cl C X.env) fp) W0 elt te me) (hs : ∀ x, foldedSetIterable iter X.env x = pure x := by intro _; rfl) :
    PM X W (.ListComp elt [⟨tg, iter, ifs, 0⟩] scope pos) (tLc wi g tt te (own.map (·.2))) (mComp mi bp mt me (own.map (·.2))) := by
  have h1 := hg X.s_0 X.H_0 0 [] []
  have h2 := ht X.s_0 X.H_0 0 [] []
  have h3 := he X.s_0 X.H_0 0 [] []
  exact ⟨pe_lc hc hN hi.p ok (fun s H C cl fp => (hg s H C cl fp).p) (fun s H C cl fp => (ht s H C cl fp).p) (fun s H C cl fp => (he s H C cl fp).p) hs, snd_comp hi.s h1.s hts h2.s h3.s⟩
theorem pms_setLc (i : Nat) (own : List (Str × Nat)) {y : Str} {py spos : Pos} (hc : X.calm = true) (hN : X.N.Nodup) (hy : X.N[i]? = some y) (hyl : X.env.scope.names.lookup y = some .local)
    (hsw : swapsWith (.ListComp elt [⟨tg, iter, ifs, 0⟩] scope pos) (some (.Name y py)) spos.line X.env = pure true) (hi : PMI X W tg iter wi mi) (ok : BlkOk X.N X.env.scope scope own) (hts : ∀ t ∈ ts, t ∈ own.map (·.2))
    (hg : ∀ (s : Shared) (H : Hp) (C : Addr) (cl : List (Str × Addr)) (fp : List Addr), PMG (X.blk s H scope (compEnvC scope cl C X.env) fp) tg g bp ts)
    (ht : ∀ (s : Shared) (H : Hp) (C : Addr) (cl : List (Str × Addr)) (fp : List Addr), PMTs (X.blk s H scope (compEnvC scope cl C X.env) fp) W0 ifs tt mt)
    (he : ∀ (s : Shared) (H : Hp) (C : Addr) (cl : List (Str × Addr)) (fp : List Addr), PM (X.blk s H scope (compEnvC scope cl C X.env) fp) W0 elt te me) (hs : ∀ x, foldedSetIterable iter X.env x = pure x := by intro _; rfl) :
    PMS X W (.Assign [.Name y py] (.ListComp elt [⟨tg, iter, ifs, 0⟩] scope pos) spos) (tAsg (tLc wi g tt te (own.map (·.2))) (gName i)) (mSet i (mComp mi bp mt me (own.map (·.2)))) := by
  have h1 := hg X.s_0 X.H_0 0 [] []
  have h2 := ht X.s_0 X.H_0 0 [] []
  have h3 := he X.s_0 X.H_0 0 [] []
  exact ⟨ps_setLc hc hN hy hyl hsw hi.p ok (fun s H C cl fp => (hg s H C cl fp).p) (fun s H C cl fp => (ht s H C cl fp).p) (fun s H C cl fp => (he s H C cl fp).p) hs, snd_set (snd_comp hi.s h1.s hts h2.s h3.s)⟩
end
/-! ### list(range(a, b)) -/
def mListR1 (ma : Rho → Res Val) : Rho → Res Val := fun ρ => (ma ρ).bind fun a => lift (match a with
  | .sh (.int j) => if j.natAbs ≤ 1000000 then some (.ow (rangeD 0 j.toNat)) else none
  | _ => none)
def mListR2 (ma mb : Rho → Res Val) : Rho → Res Val := fun ρ => (ma ρ).bind fun a => (mb ρ).bind fun b => lift (match a, b with
  | .sh (.int i), .sh (.int j) => if i.natAbs ≤ 1000000 ∧ j.natAbs ≤ 1000000 then some (.ow (rangeD i (j - i).toNat)) else none
  | _, _ => none)
theorem rpa_range {K : PySem.W.Frag} {G : Hp} {a b : Int} : RpA K G (rgV a b) (rangeD a (b - a).toNat) := by
  unfold rgV rangeD
  generalize (List.range (b - a).toNat) = l
  induction l with
  | nil => exact .nil
  | cons n l ih => exact .cons (.int _) ih
section
variable {K : PySem.W.Frag} {mg : Str → Option Value} {W : WX} {ta tb : TE} {ma mb : Rho → Res Val}
theorem snd_listR1 (ha : Snd K mg W ta ma) : Snd K mg W (tLstRg (tRg1 ta)) (mListR1 ma) := by
  intro G0 H0 σ G H ρ Q I h
  refine ha G0 H0 σ G H ρ _ I (RR.bnd (Ext.refl I.s) h fun a G1 H1 x ea e1 r1 h1 => ?_)
  obtain ⟨c, ec, q⟩ := h1.lift
  split at ec
  · split at ec
    · rename_i j hj
      cases ec
      refine ⟨j, r1.int_, ⟨by omega, by omega, by omega, by omega, by omega⟩, fun p hp => ?_⟩
      have z := q G1 _ (.ref p) (e1.trans (Ext.newO e1.s hp)) ⟨p, rgV 0 j, rfl, upd_same, e1.s.free hp, e1.h.free hp, by simpa using rpa_range (a := 0) (b := j)⟩
      exact z
    · cases ec
  · cases ec
theorem snd_listR2 (ha : Snd K mg W ta ma) (hb : Snd K mg W tb mb) : Snd K mg W (tLstRg (tRg2 ta tb)) (mListR2 ma mb) := by
  intro G0 H0 σ G H ρ Q I h
  refine ha G0 H0 σ G H ρ _ I (RR.bnd (Ext.refl I.s) h fun a G1 H1 x ea e1 r1 h1 => ?_)
  refine hb G0 H0 σ G1 H1 ρ _ (I.ext' e1) (RR.bnd e1 h1 fun b G2 H2 y eb e2 r2 h2 => ?_)
  obtain ⟨c, ec, q⟩ := h2.lift
  split at ec
  · split at ec
    · rename_i i j hj
      cases ec
      have e02 := e1.trans e2
      refine ⟨i, j, r1.int_, r2.int_, ⟨by omega, by omega, by omega, by omega, by omega⟩, fun p hp => ?_⟩
      exact q G2 _ (.ref p) (e02.trans (Ext.newO e2.s hp)) ⟨p, rgV i j, rfl, upd_same, e2.s.free hp, e02.h.free hp, rpa_range⟩
    · cases ec
  · cases ec
end
section
variable {X : Cx} {W : WX} {a b : Expr} {ta tb : TE} {ma mb : Rho → Res Val} {p pos p' pos' : Pos}
theorem pm_listR1 (hc : X.calm = true) (ml : X.mg "list" = none) (mr : X.mg "range" = none) (ha : PM X W a ta ma) (gl : Gl X "list" := by rfl) (gr : Gl X "range" := by rfl) (na : starEach [a] X.env = (false, eval a X.env) :: starEach [] X.env := by rfl)
    (nb : starEach [Expr.Call (.Name "range" p') [a] [] pos'] X.env = (false, eval (Expr.Call (.Name "range" p') [a] [] pos') X.env) :: starEach [] X.env := by rfl) :
    PM X W (.Call (.Name "list" p) [.Call (.Name "range" p') [a] [] pos'] [] pos) (tLstRg (tRg1 ta)) (mListR1 ma) := ⟨pe_listRg hc gl ml (prg_1 gr mr ha.p na) nb, snd_listR1 ha.s⟩
theorem pm_listR2 (hc : X.calm = true) (ml : X.mg "list" = none) (mr : X.mg "range" = none) (ha : PM X W a ta ma) (hb : PM X W b tb mb) (gl : Gl X "list" := by rfl) (gr : Gl X "range" := by rfl) (na : starEach [a, b] X.env = (false, eval a X.env) :: starEach [b] X.env := by rfl)
    (nb : starEach [b] X.env = (false, eval b X.env) :: starEach [] X.env := by rfl) (hp : (backTo pos' (starEach [b] X.env)).any (·.1) = false := by rfl)
    (nc : starEach [Expr.Call (.Name "range" p') [a, b] [] pos'] X.env = (false, eval (Expr.Call (.Name "range" p') [a, b] [] pos') X.env) :: starEach [] X.env := by rfl) :
    PM X W (.Call (.Name "list" p) [.Call (.Name "range" p') [a, b] [] pos'] [] pos) (tLstRg (tRg2 ta tb)) (mListR2 ma mb) := ⟨pe_listRg hc gl ml (prg_2 gr mr ha.p hb.p na nb hp) nc, snd_listR2 ha.s hb.s⟩
end
end Mi

namespace Mi
open PySem PySem.Spec PyProof.Rows L2

/-! ### a def's promise: it follows its mirror -/
def isArg : Val → Bool
  | .sh _ => true
  | .fz _ => true
  | _ => false
def wOf (E : XK) : WX := fun cls d _ H => E cls d H
def spM (K : PySem.W.Frag) (mg : Str → Option Value) (n : Nat) (M : List Val → Res Val) : Sp := fun vs H Q E => ∃ G as, Same G H ∧ VRs K H G H vs as ∧ as.all isArg = true ∧ vs.length = n ∧ RR K mg (wOf E) (RV K) [] G H Q (M as)
/-- as the layer's FnOk, where no repr is under way -/
structure FnG (P : Program) (w : World) (K : PySem.W.Frag) (mg : Str → Option Value) (base : Heap) (k : Nat) (f : Addr) (fd : FuncData) (ps : List Str) (sp : Sp) : Prop where
  len : ∀ vs H Q E, sp vs H Q E → vs.length = ps.length
  go : ∀ (A : Around) (outer : List Env) (s : Shared) (H : Hp) (args : Args) (us : List Value) (vs : List V) (Q : VK) (E : XK), A.guards = some [] → Room k A → Env0 P w K mg base A outer s H → BindsTo s fd args (ps.zip us) → Vals vs us → sp vs H Q E →
    codeAny (model P w) A (.call (.ref f) args) (CR (L2.CX P w) outer P w H s Q E) s
theorem FnG.mono {P : Program} {w : World} {K : PySem.W.Frag} {mg : Str → Option Value} {base : Heap} {j k : Nat} {f : Addr} {fd : FuncData} {ps : List Str} {sp : Sp} (F : FnG P w K mg base j f fd ps sp) (h : j ≤ k) : FnG P w K mg base k f fd ps sp :=
  ⟨F.len, fun A outer s H args us vs Q E gd hr => F.go A outer s H args us vs Q E gd (hr.mono h)⟩

/-! ### calls of defs -/
def pas : Val → Val
  | .sh d => .sh d
  | .ow xs => .sh (.list xs)
  | .bw xs => .sh (.list xs)
  | .fz xs => .fz xs
def isBw : Val → Bool
  | .bw _ => true
  | _ => false
def flatR : Val → Bool
  | .sh d => flatD d
  | .ow xs => xs.all flatD
  | _ => false
def mDef (M : List Val → Res Val) (ma : Rho → Res (List Val)) : Rho → Res Val := fun ρ => (ma ρ).bind fun as => match M (as.map pas) with
  | .ok r => if (!as.any isBw || flatR r) = true then .ok r else .no
  | .ex n fs => if fs.all (fun p => flatD p.2) = true then .ex n fs else .no
  | .no => .no
theorem pas_arg (as : List Val) : (as.map pas).all isArg = true := by
  rw [List.all_map, List.all_eq_true]
  intro r _
  cases r <;> rfl
/-- cells taken into a region -/
def VC (K : PySem.W.Frag) (G H : Hp) (v : V) : Val → Prop
  | .sh d => Rp K G v d
  | .ow xs => ∃ p vs, v = .ref p ∧ H p = some (.lst vs) ∧ RpA K G vs xs
  | .bw xs => ∃ p vs, v = .ref p ∧ H p = some (.lst vs) ∧ RpA K G vs xs
  | .fz xs => ∃ p vs, v = .ref p ∧ SqL K G p vs ∧ RpA K G vs xs
theorem VR.vc {K : PySem.W.Frag} {B G H : Hp} {v : V} {r : Val} (h : VR K B G H v r) : VC K G H v r := by
  cases r with
  | sh d => exact h
  | ow xs =>
    obtain ⟨p, vs, a, b, _, _, k⟩ := h
    exact ⟨p, vs, a, b, k⟩
  | bw xs => exact h
  | fz xs => exact h
theorem VC.up {K : PySem.W.Frag} {G G' H : Hp} {v : V} {r : Val} (e : Same G G') (h : VC K G H v r) : VC K G' H v r := by
  cases r with
  | sh d => exact Rp.mono e h
  | ow xs =>
    obtain ⟨p, vs, a, b, k⟩ := h
    exact ⟨p, vs, a, b, k.mono e⟩
  | bw xs =>
    obtain ⟨p, vs, a, b, k⟩ := h
    exact ⟨p, vs, a, b, k.mono e⟩
  | fz xs =>
    obtain ⟨p, vs, a, b, k⟩ := h
    exact ⟨p, vs, a, e.seq b, k.mono e⟩
theorem cell_in {K : PySem.W.Frag} {G H : Hp} {p : Addr} {vs : List V} {xs : List D} (s : Same G H) (hp : H p = some (.lst vs)) (k : RpA K G vs xs) : ∃ G', Same G G' ∧ Same G' H ∧ Rp K G' (.ref p) (.list xs) ∧ ∀ q, q ≠ p → G' q = G q := by
  cases g : G p with
  | none =>
    refine ⟨upd G p (.lst vs), same_new g, fun b o z => ?_, .lst upd_same (k.mono (same_new g)), fun q ne => upd_ne ne⟩
    by_cases hb : b = p
    · subst hb
      rw [upd_same] at z
      rw [← z]
      exact hp
    · rw [upd_ne hb] at z
      exact s _ _ z
  | some o =>
    have z := s _ _ g
    rw [hp] at z
    cases z
    exact ⟨G, Same.refl _, s, .lst g k, fun _ _ => rfl⟩
theorem pas_one {K : PySem.W.Frag} {G H : Hp} {v : V} {r : Val} (s : Same G H) (h : VC K G H v r) : ∃ G', Same G G' ∧ Same G' H ∧ VR K H G' H v (pas r) := by
  cases r with
  | sh d => exact ⟨G, Same.refl _, s, h⟩
  | ow xs =>
    obtain ⟨p, vs, rfl, b, k⟩ := h
    obtain ⟨G', a1, a2, a3, _⟩ := cell_in s b k
    exact ⟨G', a1, a2, a3⟩
  | bw xs =>
    obtain ⟨p, vs, rfl, b, k⟩ := h
    obtain ⟨G', a1, a2, a3, _⟩ := cell_in s b k
    exact ⟨G', a1, a2, a3⟩
  | fz xs => exact ⟨G, Same.refl _, s, h⟩
theorem VR.upA {K : PySem.W.Frag} {G G' H : Hp} {v : V} {r : Val} (e : Same G G') (ha : isArg r = true) (h : VR K H G H v r) : VR K H G' H v r := by
  cases r with
  | sh d => exact Rp.mono e h
  | ow xs => cases ha
  | bw xs => cases ha
  | fz xs =>
    obtain ⟨p, vs, a, b, k⟩ := h
    exact ⟨p, vs, a, e.seq b, k.mono e⟩
theorem isArg_pas (r : Val) : isArg (pas r) = true := by cases r <;> rfl
theorem pas_all {K : PySem.W.Frag} {H : Hp} : ∀ {as : List Val} {vs : List V} {G : Hp}, Same G H → Paired (fun v r => VC K G H v r) vs as → ∃ G', Same G G' ∧ Same G' H ∧ VRs K H G' H vs (as.map pas)
  | [], _, G, s, .nil => ⟨G, Same.refl _, s, .nil⟩
  | a :: as, _, G, s, .cons h t => by
    obtain ⟨G1, s1, t1, k1⟩ := pas_one s h
    have t' : Paired (fun v r => VC K G1 H v r) ‹List V› as := by
      clear h k1
      induction t with
      | nil => exact .nil
      | cons a b ih => exact .cons (a.up s1) ih
    obtain ⟨G2, s2, t2, k2⟩ := pas_all t1 t'
    exact ⟨G2, s1.trans s2, t2, .cons (k1.upA s2 (isArg_pas a)) k2⟩
/-- without a borrowed one the region holds new cells alone -/
theorem pas_new {K : PySem.W.Frag} {Gs Hs H : Hp} : ∀ {as : List Val} {vs : List V} {G : Hp}, Ext Gs Hs G H → as.any isBw = false → Paired (fun v r => VW K Hs G H v r ∧ VC K G H v r) vs as → ∃ G', Ext Gs Hs G' H ∧ Same G G' ∧ VRs K H G' H vs (as.map pas)
  | [], _, G, e, _, .nil => ⟨G, e, Same.refl _, .nil⟩
  | a :: as, _, G, e, hb, .cons h t => by
    rw [List.any_cons, Bool.or_eq_false_iff] at hb
    obtain ⟨G1, e1, s1, k1⟩ : ∃ G1, Ext Gs Hs G1 H ∧ Same G G1 ∧ VR K H G1 H ‹V› (pas a) := by
      cases a with
      | sh d => exact ⟨G, e, Same.refl _, h.1⟩
      | ow xs => exact esc_one e h.1 rfl
      | bw xs => cases hb.1
      | fz xs => exact ⟨G, e, Same.refl _, h.2⟩
    have t' : Paired (fun v r => VW K Hs G1 H v r ∧ VC K G1 H v r) ‹List V› as := by
      clear h k1 hb
      induction t with
      | nil => exact .nil
      | cons a b ih => exact .cons ⟨a.1.up s1, a.2.up s1⟩ ih
    obtain ⟨G2, e2, s2, k2⟩ := pas_new e1 hb.2 t'
    exact ⟨G2, e2, s1.trans s2, .cons (k1.upA s2 (isArg_pas a)) k2⟩
theorem flat_rp {K : PySem.W.Frag} {G G' : Hp} {v : V} {d : D} (f : flatD d = true) (h : Rp K G v d) : Rp K G' v d := by
  cases h with
  | non => exact .non
  | bl b => exact .bl b
  | int i => exact .int i
  | str x => exact .str x
  | lst _ _ => cases f
  | tup _ _ => cases f
  | dct _ _ => cases f
theorem flat_rpa {K : PySem.W.Frag} {G G' : Hp} : ∀ {ds : List D} {vs : List V}, ds.all flatD = true → RpA K G vs ds → RpA K G' vs ds
  | [], _, _, .nil => .nil
  | _ :: _, _, f, .cons h a => by
    rw [List.all_cons, Bool.and_eq_true] at f
    exact .cons (flat_rp f.1 h) (flat_rpa f.2 a)
theorem VRs.len {K : PySem.W.Frag} {B G H : Hp} {vs : List V} {as : List Val} (h : VRs K B G H vs as) : vs.length = as.length := by
  induction h with
  | nil => rfl
  | cons a b ih => exact congrArg (· + 1) ih
theorem VRs.wc {K : PySem.W.Frag} {B G H : Hp} {vs : List V} {as : List Val} (h : VRs K B G H vs as) : Paired (fun v r => VW K B G H v r ∧ VC K G H v r) vs as := by
  induction h with
  | nil => exact .nil
  | cons a b ih => exact .cons ⟨a.vw, a.vc⟩ ih
theorem VRs.cc {K : PySem.W.Frag} {B G H : Hp} {vs : List V} {as : List Val} (h : VRs K B G H vs as) : Paired (fun v r => VC K G H v r) vs as := by
  induction h with
  | nil => exact .nil
  | cons a b ih => exact .cons a.vc ih
theorem snd_def {K : PySem.W.Frag} {mg : Str → Option Value} {W : WX} {n : Nat} {M : List Val → Res Val} {ta : TA} {ma : Rho → Res (List Val)} (hn : ∀ ρ as, ma ρ = .ok as → as.length = n) (ha : SndA K mg W ta ma) : Snd K mg W (tCallS (spM K mg n M) (WE W) ta) (mDef M ma) := by
  intro G0 H0 σ G H ρ Q I h
  refine ha G0 H0 σ G H ρ _ I (RR.bnd (Ext.refl I.s) h fun as G1 H1 vs ea e1 r1 h1 => ?_)
  have r1 : VRs K H G1 H1 vs as := r1
  have hlen : vs.length = as.length := r1.len
  have hn' : vs.length = n := hlen.trans (hn ρ as ea)
  by_cases hb : as.any isBw = false
  · have pr := r1.wc
    obtain ⟨G2, e2, s2, k2⟩ := pas_new e1 hb pr
    refine ⟨G2, as.map pas, e2.s, k2, pas_arg as, hn', ?_⟩
    cases em : M (as.map pas) with
    | no =>
      rw [em] at h1
      exact h1.elim
    | ok r =>
      rw [em] at h1
      have c : (!as.any isBw || flatR r) = true := by rw [hb]; rfl
      have h1 : RR K mg W (RV K) σ G H Q (if (!as.any isBw || flatR r) = true then .ok r else .no) := h1
      rw [if_pos c] at h1
      exact fun G' H' v e z => h1 G' H' v (e2.trans e) (z.back e2.h)
    | ex x fs =>
      rw [em] at h1
      have h1 : RR K mg W (RV K) σ G H Q (if fs.all (fun p => flatD p.2) = true then .ex x fs else .no) := h1
      split at h1
      · exact fun G' H' C d e a b => h1 G' H' C d (e2.trans e) a b
      · exact h1.elim
  · have hb : as.any isBw = true := by
      cases q : as.any isBw
      · exact absurd q hb
      · rfl
    have pr := r1.cc
    obtain ⟨G2, s2, t2, k2⟩ := pas_all e1.s pr
    refine ⟨G2, as.map pas, t2, k2, pas_arg as, hn', ?_⟩
    have eH : ∀ {H' : Hp}, Same H1 H' → Ext G H G1 H' := fun {H'} s => e1.trans ⟨s, Same.refl _, e1.s.trans s, fun _ _ q => q⟩
    cases em : M (as.map pas) with
    | no =>
      rw [em] at h1
      exact h1.elim
    | ok r =>
      rw [em] at h1
      have h1 : RR K mg W (RV K) σ G H Q (if (!as.any isBw || flatR r) = true then .ok r else .no) := h1
      rw [hb] at h1
      have h1 : RR K mg W (RV K) σ G H Q (if (flatR r) = true then .ok r else .no) := h1
      split at h1
      · rename_i fl
        intro G' H' v e z
        refine h1 G1 H' v (eH e.h) ?_
        cases r with
        | sh d => exact flat_rp fl z
        | ow xs =>
          obtain ⟨p, us, rfl, b, c, d, k⟩ := z
          exact ⟨p, us, rfl, b, e1.s.free d, e1.h.free d, flat_rpa fl k⟩
        | bw xs => cases fl
        | fz xs => cases fl
      · exact h1.elim
    | ex x fs =>
      rw [em] at h1
      have h1 : RR K mg W (RV K) σ G H Q (if fs.all (fun p => flatD p.2) = true then .ex x fs else .no) := h1
      split at h1
      · rename_i fl
        intro G' H' C d e a b
        refine h1 G1 H' C d (eH e.h) a ?_
        rcases b with b | ⟨dd, fv, b1, b2, b3, b4, b5⟩
        · exact .inl b
        · refine .inr ⟨dd, fv, b1, b2, b3, b4, flat_rpa ?_ b5⟩
          rw [List.all_map]
          exact fl
      · exact h1.elim
theorem mNil_len : ∀ (ρ : Rho) (as : List Val), mNil ρ = .ok as → as.length = 0 := fun ρ as e => by
  cases e
  rfl
theorem mCons_len {n : Nat} {ma : Rho → Res Val} {mr : Rho → Res (List Val)} (h : ∀ ρ as, mr ρ = .ok as → as.length = n) : ∀ (ρ : Rho) (as : List Val), mCons ma mr ρ = .ok as → as.length = n + 1 := fun ρ as e => by
  unfold mCons at e
  cases h1 : ma ρ with
  | ok a =>
    rw [h1] at e
    cases h2 : mr ρ with
    | ok r =>
      rw [h2] at e
      cases e
      exact congrArg (· + 1) (h ρ r h2)
    | ex n fs =>
      rw [h2] at e
      cases e
    | no =>
      rw [h2] at e
      cases e
  | ex n fs =>
    rw [h1] at e
    cases e
  | no =>
    rw [h1] at e
    cases e
section
variable {X : Cx} {W : WX} {k n : Nat} {f : Addr} {fd : FuncData} {ps : List Str} {M : List Val → Res Val} {x : Str} {p pos : Pos} {e : Expr} {es : List Expr} {ta : TA} {ma : Rho → Res (List Val)}
theorem pm_def (F : FnG X.prog X.w X.K X.mg X.base k f fd ps (spM X.K X.mg n M)) (gd : X.A.guards = some []) (hr : Room k X.A) (gm : X.mg x = some (.ref f)) (kp : PySem.W.keepIn X.K (.ref f) = true) (hb : Binds X.K fd ps []) (hx : ∀ σ, PassesAt (L2.CX X.prog X.w) X σ (WE W σ))
    (ha : PMA X W (e :: es) ta ma) (hn : ∀ ρ as, ma ρ = .ok as → as.length = n) (gl : Gl X x := by rfl) (db : (x == ("__debug__" : Str)) = false := by decide) (st : starEach (e :: es) X.env = (false, eval e X.env) :: starEach es X.env := by rfl) (pl : (backTo pos (starEach es X.env)).any (·.1) = false := by rfl) :
    PM X W (.Call (.Name x p) (e :: es) [] pos) (tCallS (spM X.K X.mg n M) (WE W) ta) (mDef M ma) := by
  refine ⟨⟨fun pins s σ H Q J h => wpAny_Call_Name_kw (ld_glob J gl gm (PySem.W.callWith_K (h₀ := X.base) J.ok.mod.kin kp (thn (ha.p.run pos pins s σ H _ J h) fun us s1 ⟨vs, H1, J1, r, q⟩ => ⟨J1.kIn, ?_⟩) st pl) db)⟩, snd_def hn ha.s⟩
  have hl : us.length = ps.length := r.length.symm.trans (F.len _ _ _ _ q)
  have bb := hb s1 us J1.kIn ((congrArg List.length (List.append_nil us)).trans hl)
  rw [List.append_nil] at bb
  refine wpAny_call (codeAny_mono (F.go X.A X.stack s1 H1 ⟨us, []⟩ us vs Q (WE W σ) gd hr J1.env0 bb r q) fun o s2 hq => ?_)
  match o, hq with
  | .error err, hq => exact hx σ pins H1 s1 err s2 J1 hq
  | .ok (.ret u), hq => exact J1.after hq
  | .ok .next, hq => exact hq.elim
  | .ok .brk, hq => exact hq.elim
  | .ok .cont, hq => exact hq.elim
end
/-! ### raise, of a class without its own __init__ -/
theorem pms_raise {X : Cx} {W : WX} {bmB : List Value} {B newId initId : String} {C : Addr} {x m : Str} {j : Nat} {p p2 pos pos2 : Pos} (hc : X.calm = true) (tk : Takes X W) (F : ExcBaseFacts B newId initId bmB) (q : PySem.W.excIn X.K C bmB newId = true) (gC : X.mg x = some (.ref C)) (kC : PySem.W.keepIn X.K (.ref C) = true) (r : Raises X (.ref C))
    (hg : Gl X x := by rfl) (hdb : (x == ("__debug__" : Str)) = false := by decide) : PMS X W (.Raise (some (.Call (.Name x p) [.Constant (.str m) j p2] [] pos)) none pos2) (fun _ σ H => W (.ref C) none σ H) (mRaise x) :=
  ⟨ps_raise (t := fun _ H Q => Q (.ref C) none H) hc tk (pmk_own F q gC kC r hg hdb), fun G0 H0 σ G H ρ D I h => h σ G H C none I (Same.refl _) gC (.inl ⟨rfl, rfl⟩)⟩

/-! ### a def of the text -/
def fin : Out → Res Val
  | .rt r => .ok r
  | .nx _ => .ok (.sh .none)
  | .ex n fs _ => .ex n fs
  | _ => .no
def mFn (N : Nat) (ms : Rho → Out) : List Val → Res Val := fun as => fin (ms (as.map some ++ List.replicate (N - as.length) none))
theorem env_start {K : PySem.W.Frag} {G H : Hp} {vs : List V} {as : List Val} (s : Same G H) (h : VRs K H G H vs as) (ha : as.all isArg = true) (m : Nat) : EnvS K G H (vs.map some ++ List.replicate m none) G H (as.map some ++ List.replicate m none) := by
  have hl : vs.length = as.length := by
    clear ha
    induction h with
    | nil => rfl
    | cons a b ih => exact congrArg (· + 1) ih
  have key : ∀ (i : Nat) (r : Val), (as.map some ++ List.replicate m none)[i]? = some (some r) → as[i]? = some r ∧ i < as.length := fun i r q => by
    by_cases hi : i < as.length
    · rw [List.getElem?_append_left (by rw [List.length_map]; exact hi), List.getElem?_map, List.getElem?_eq_getElem hi] at q
      exact ⟨by rw [List.getElem?_eq_getElem hi]; exact Option.some.inj q, hi⟩
    · rw [List.getElem?_append_right (by rw [List.length_map]; omega), List.getElem?_replicate] at q
      split at q <;> cases q
  have get : ∀ {as : List Val} {vs : List V} (i : Nat) (r : Val), VRs K H G H vs as → as.all isArg = true → as[i]? = some r → ∃ v, vs[i]? = some v ∧ VR K H G H v r ∧ isArg r = true := by
    intro as vs i r h
    induction h generalizing i with
    | nil => intro _ q; simp at q
    | cons a b ih =>
      intro ha q
      rw [List.all_cons, Bool.and_eq_true] at ha
      cases i with
      | zero =>
        simp at q
        subst q
        exact ⟨_, rfl, a, ha.1⟩
      | succ i =>
        obtain ⟨v, e, z⟩ := ih i ha.2 (by simpa using q)
        exact ⟨v, by simpa using e, z⟩
  refine ⟨Ext.refl s, by simp [hl], fun i r q => ?_, fun i j p xs ys q => ?_⟩
  · obtain ⟨e, hi⟩ := key i r q
    obtain ⟨v, ev, rv, ra⟩ := get i r h ha e
    refine ⟨v, ?_, ?_⟩
    · rw [List.getElem?_append_left (by rw [List.length_map]; omega), List.getElem?_map, ev]
      rfl
    · cases r with
      | sh d => exact rv
      | ow xs => cases ra
      | bw xs => cases ra
      | fz xs => exact rv
  · obtain ⟨e, hi⟩ := key i _ q
    obtain ⟨v, ev, rv, ra⟩ := get i _ h ha e
    cases ra
section
variable {P : Program} {w : World} {K : PySem.W.Frag} {mg : Str → Option Value} {base : Heap}
theorem def_ok {x qual : Str} {st : Stmt} {f : Addr} {fd : FuncData} {N ps : List Str} {k : Nat} {ms : Rho → Out} (F : Fun K x qual st f fd) (S : FnScope N ps (defScope st))
    (hbody : ∀ (cdv : Value) (A : Around) (outer : List Env) (s : Shared) (H : Hp) (E : XK), A.guards = some [] → Room k (A.deeper (envOfC qual (defScope st) s.heap.objs.size f cdv)) →
      ∃ ts, PMSs (cxOf (L2.CX P w) P w K mg base N qual (defScope st) f cdv A outer s H E) (wOf E) (defBody st) ts ms) : FnG P w K mg base (k + 1) f fd ps (spM K mg ps.length (mFn N.length ms)) := by
  obtain ⟨oc, od, kV, doc, pm, an, cdv, ct, osl, rfl, lk, hcd⟩ := F.ex
  refine ⟨fun vs H Q E ⟨G, as, _, _, _, h, _⟩ => h, fun A outer s H args us vs Q E gd hr e0 hb r hsp => ?_⟩
  have hl : vs.length = ps.length := by
    obtain ⟨G, as, _, _, _, h, _⟩ := hsp
    exact h
  have KX : K.In s.heap := e0.mod.kin.keeps fun b o z => (e0.bs b o z).1
  have lim : s.heap.NoLimit := e0.mod.nolimit.keeps fun b o z => (e0.bs b o z).1
  have names : ∀ y ∈ ps.zip us, (defScope st).names.lookup y.1 = some .local ∨ ((defScope st).names.lookup y.1 = some .cell ∧ ((cellsFrom (s.heap.objs.size + 1) (defScope st).names []).lookup y.1).isSome = true) := fun y hy =>
    (S.par y.1 (List.of_mem_zip (a := y.1) (b := y.2) hy).1).imp id fun z => ⟨z, PySem.W.cellsFrom_some _ _ _ (.inl z)⟩
  obtain ⟨ts, B⟩ := hbody cdv A outer s H E gd (hr.deeper _)
  have want : ts { nx := fun _ H' => Q .non H', rt := Q } (start N vs) H := by
    obtain ⟨G, as, hs, hv, ha, _, h⟩ := hsp
    have hl' : vs.length = as.length := hv.len
    have I := env_start hs hv ha (N.length - vs.length)
    refine B.s G H (start N vs) G H _ _ I ?_
    rw [hl'] at I ⊢
    unfold mFn fin at h
    cases eo : ms (as.map some ++ List.replicate (N.length - as.length) none) with
    | nx ρ =>
      rw [eo] at h
      exact fun σ' G' H'' I' _ => h G' H'' .non I'.ext Rp.non
    | rt r =>
      rw [eo] at h
      exact h
    | bk ρ =>
      rw [eo] at h
      exact h.elim
    | ct ρ =>
      rw [eo] at h
      exact h.elim
    | ex n fs ρ =>
      rw [eo] at h
      exact fun σ' G' H'' C d I' _ a b => h G' H'' C d I'.ext a b
    | no =>
      rw [eo] at h
      exact h.elim
  refine codeAny_call_function hr.depth (KX _ _ lk) rfl S.co S.gen rfl (PySem.W.codeRec_of KX hcd) (hb _ _ _ _ (wpAny_newFunctionEnv_cells S.kind names fun env he s1 ic => ?_))
  subst he
  refine ⟨lim.keeps ic.toInCall.keep, codeAny_func (wpAny_mono (B.p.run [] s1 (start N vs) H _ (inv_start (CX := L2.CX P w) (E := E) S hr.hd e0 hl r ic) want) (fun fl s' z => ?_) fun _ _ z => z)⟩
  match fl, z with
  | .ret u, ⟨v, σ', H', J, rv, q⟩ => exact ⟨v, H', J.os, J.bare, J.base, J.hok, rv, q⟩
  | .next, ⟨σ', H', J, q⟩ => exact ⟨V.non, H', J.os, J.bare, J.base, J.hok, rfl, q⟩
  | .brk, ⟨_, _, _, q⟩ => exact q.elim
  | .cont, ⟨_, _, _, q⟩ => exact q.elim
end
end Mi

namespace Mi
open PySem PySem.Spec PyProof.Rows L2

/-! ### try: .. except X: .. -/
def noEx : Out → Out
  | .ex _ _ _ => .no
  | o => o
def mTry (body : Rho → Out) (dec : Str → Option Bool) (h : Rho → Out) : Rho → Out := fun ρ => match body ρ with
  | .ex m fs ρ' => match dec m with
    | some true => noEx (h ρ')
    | some false => .ex m fs ρ'
    | none => .no
  | o => o
def Decs (K : PySem.W.Frag) (mg : Str → Option Value) (c : Value) (dec : Str → Option Bool) : Prop := ∀ (m : Str) (b : Bool) (C : Addr), dec m = some b → mg m = some (.ref C) → PySem.W.exmOne K (.ref C) c = some b
theorem snd_try {K : PySem.W.Frag} {mg : Str → Option Value} {Wout : WX} {c : Value} {dec : Str → Option Bool} {tb : WX → TS} {mb : Rho → Out} {ts : Addr → Value → Option Addr → TS} {mh : Rho → Out} (hd : Decs K mg c dec)
    (hb : ∀ W, SndS K mg W (tb W) mb) (hh : ∀ a cls d, SndS K mg W0 (ts a cls d) mh) : SndS K mg Wout (fun D σ H => tb (wOnly K c ts Wout D) D σ H) (mTry mb dec mh) := by
  intro G0 H0 σ G H ρ D I q
  refine hb _ G0 H0 σ G H ρ D I ?_
  unfold mTry at q
  cases eo : mb ρ with
  | nx ρ' =>
    rw [eo] at q
    exact q
  | rt r =>
    rw [eo] at q
    exact q
  | bk ρ' =>
    rw [eo] at q
    exact q
  | ct ρ' =>
    rw [eo] at q
    exact q
  | no =>
    rw [eo] at q
    exact q
  | ex m fs ρ' =>
    rw [eo] at q
    have q : OutR K mg Wout G0 H0 G D (match dec m with
      | some true => noEx (mh ρ')
      | some false => .ex m fs ρ'
      | none => .no) := q
    intro σ' G' H' C d I' s' hC hx
    cases ed : dec m with
    | none =>
      rw [ed] at q
      exact q.elim
    | some b =>
      refine ⟨b, hd m b C ed hC, fun eb a ha => ?_, fun eb => ?_⟩
      · subst eb
        rw [ed] at q
        have q : OutR K mg Wout G0 H0 G D (noEx (mh ρ')) := q
        refine hh a (.ref C) d G0 H0 σ' G' H' ρ' D I' ?_
        have q := OutR.up s' q
        cases eh : mh ρ' with
        | nx ρ2 =>
          rw [eh] at q
          exact q
        | rt r =>
          rw [eh] at q
          exact q
        | bk ρ2 =>
          rw [eh] at q
          exact q
        | ct ρ2 =>
          rw [eh] at q
          exact q
        | no =>
          rw [eh] at q
          exact q
        | ex m2 fs2 ρ2 =>
          rw [eh] at q
          exact q.elim
      · subst eb
        rw [ed] at q
        exact q σ' G' H' C d I' s' hC hx
section
variable {X : Cx} {Wout : WX} {x : Str} {c : Value} {body suite : List Stmt} {b₀ : Stmt} {np pos pos' : Pos} {tb : WX → TS} {mb : Rho → Out} {ts : Addr → Value → Option Addr → TS} {mh : Rho → Out} {dec : Str → Option Bool}
theorem pms_try (hs : X.stack = X.env :: X.outer) (hf : X.env.frame = some X.env.locals) (gc : X.mg x = some c) (tk : Takes X Wout) (hd : Decs X.K X.mg c dec)
    (hb : ∀ (W : WX) (pn : List (Addr × Obj)) (xe : Value → Shared → Prop), Takes (X.tr pn xe) W → PMSs (X.tr pn xe) W body (tb W) mb)
    (hh : ∀ (a : Addr) (oe : Obj) (cls : Value) (d : Option Addr) (pn : List (Addr × Obj)), PMSs (X.suite a ((a, oe) :: pn)) W0 (b₀ :: suite) (ts a cls d) mh) (gl : Gl X x := by rfl) (db : (x == ("__debug__" : Str)) = false := by decide) :
    PMS X Wout (.Try body [.ExceptHandler (some (.Name x np)) none (b₀ :: suite) pos'] [] [] pos) (fun D σ H => tb (wOnly X.K c ts Wout D) D σ H) (mTry mb dec mh) := by
  refine ⟨ps_try_only hs hf ⟨gl, db, .inl gc⟩ tk (fun W pn xe t _ => (hb W pn xe t).p) (fun a oe cls d pn _ _ => (hh a oe cls d pn).p), snd_try hd (fun W => ?_) fun a cls d => (hh a { cls := cls, dict := d, data := .fields #[] } cls d []).s⟩
  exact (hb W [] (fun u s' => XE (X.tr [] fun _ _ => False) W u s') fun u s' ⟨a, B, sI, pins, σ, H, cls, d, e, J, rest⟩ => ⟨a, B, sI, pins, σ, H, cls, d, e, J.wish (fun _ _ => False), rest⟩).s
end

/-! ### the law's end -/
/-- the law follows its mirror, which says True of the script -/
theorem law_run {P : Program} {w : World} {K : PySem.W.Frag} {mg mb : Str → Option Value} {k : Nat} {fa a : Addr} {fd : FuncData} {x : Str} {M : List Val → Res Val} {s₁ : Shared} {vs : List Value} {ns : List Int}
    (kin : K.In s₁.heap) (nsg : s₁.heap.Ns mainGlobals mg) (nsb : s₁.heap.Ns builtinsNs mb) (blt : ∀ x : Str, x ≠ "__name__" → mb x = bootBuiltins x) (lim : s₁.heap.NoLimit) (gens : s₁.gens = #[]) (ha : s₁.heap.get? a = some { cls := .type "list", data := .seq vs.toArray })
    (iv : IntsAre vs ns) (small : ns.length ≤ sizeLine) (room : Room k callerA) (F : ∀ base : Heap, K.In base → base.Ns mainGlobals mg → FnG P w K mg base k fa fd [x] (spM K mg 1 M)) (bind : ∀ (s : Shared) (u : Value), BindsTo s fd ⟨[u], []⟩ [(x, u)])
    (says : M [.fz (ns.map .int)] = .ok (.sh (.bool true))) : codeAny (model P w) callerA (.call (.ref fa) ⟨[.ref a], []⟩) (fun r s' => r = .ok (.ret (.bool true)) ∧ OldK s₁.heap s'.heap ∧ s'.os = s₁.os ∧ AllBare s'.gens) s₁ := by
  have vals := vals_ints iv
  -- the script is tracked as it lies, if it is no object of the module
  have main : ∀ (H : Hp), (∀ b u, H b = some u → b = a ∧ K.lookup a = none ∧ ∃ o : Obj, u = .frz o (.lst (ns.map V.int)) ∧ ObjOk P w H s₁.heap b u ∧ s₁.heap.get? a = some o) → SqL K H a (ns.map V.int) →
      codeAny (model P w) callerA (.call (.ref fa) ⟨[.ref a], []⟩) (fun r s' => r = .ok (.ret (.bool true)) ∧ OldK s₁.heap s'.heap ∧ s'.os = s₁.os ∧ AllBare s'.gens) s₁ := by
    intro H only sq
    have free : ∀ {b : Addr} {o : Obj}, s₁.heap.get? b = some o → b ≠ a → H b = none := fun {b o} _ ne => by
      cases q : H b with
      | none => rfl
      | some u => exact absurd (only b u q).1 ne
    have spaces : ∀ {b : Addr} {m : Str → Option Value}, s₁.heap.Ns b m → (hidT s₁.heap H).Ns b m := fun {b m} ⟨o, es, ep, e, d, r⟩ => by
      have ne : b ≠ a := fun z => by
        rw [z, ha] at e
        cases e
        cases d
      exact ⟨o, es, ep, hidT_get e (free e ne), d, r⟩
    have kb : K.In (hidT s₁.heap H) := fun b o e => by
      refine hidT_get (kin b o e) ?_
      cases q : H b with
      | none => rfl
      | some u =>
        obtain ⟨rfl, n, _⟩ := only b u q
        rw [n] at e
        cases e
    have env : Env0 P w K mg (hidT s₁.heap H) callerA [] s₁ H := ⟨rfl, ⟨kb, spaces nsg, ⟨mb, spaces nsb, blt⟩, let ⟨mc, h1, h2⟩ := lim; ⟨mc, spaces h1, h2⟩⟩, fun b o e => of_hidT e, Nat.le_of_eq (hidT_size _ _), trivial, (fun b z => nomatch z),
      (fun b u q => (only b u q).2.2.elim fun _ z => z.2.1), .of_eq gens⟩
    have promise : spM K mg 1 M [.ref a] H (fun v _ => v = .bl true) fun _ _ _ => False := by
      refine ⟨H, [.fz (ns.map .int)], Same.refl _, .cons ⟨a, ns.map V.int, rfl, sq, rpa_ints ns⟩ .nil, rfl, rfl, ?_⟩
      rw [says]
      intro G' H' v _ z
      cases (show Rp K G' v (.bool true) from z)
      rfl
    refine codeAny_mono ((F _ kb (spaces nsg)).go callerA [] s₁ H ⟨[.ref a], []⟩ [.ref a] [.ref a] _ _ rfl room env (bind s₁ (.ref a)) (.cons rfl .nil) promise) fun r s' z => ?_
    match r, z with
    | .error e, ⟨_, _, _, _, _, _, _, _, _, _, _, _, no⟩ => exact no.elim
    | .ok .next, no => exact no.elim
    | .ok .brk, no => exact no.elim
    | .ok .cont, no => exact no.elim
    | .ok (.ret u), ⟨v, H', os, bare, un, ok', rv, q⟩ =>
      cases (show v = .bl true from q)
      cases (show u = Value.bool true from rv)
      refine ⟨rfl, OldK.of_keep fun b o e => ?_, os, bare⟩
      cases q : H b with
      | none => exact un.keep b o e q (fun z => nomatch z) (fun z => nomatch z)
      | some u =>
        obtain ⟨rfl, _, ob, rfl, _, e2⟩ := only b u q
        rw [ha] at e e2
        cases e
        cases e2
        exact (ok' b _ (un.frzs b _ _ q)).1
  cases own : K.lookup a with
  | some o =>
    have z := kin a o own
    rw [ha] at z
    cases z
    exact main (fun _ => none) (fun b u q => nomatch q) (.inr ⟨_, vs.toArray, _, own, rfl, rfl, rfl, (by rw [List.size_toArray, iv.length]; exact small), (by simpa using vals)⟩)
  | none =>
    refine main (fun b => if b = a then some (.frz { cls := .type "list", data := .seq vs.toArray } (.lst (ns.map V.int))) else none) (fun b u q => ?_) (.inl (.inr ⟨_, if_pos rfl⟩))
    by_cases hb : b = a
    · subst hb
      rw [if_pos rfl] at q
      cases q
      exact ⟨rfl, own, _, rfl, ⟨ha, by rw [List.length_map]; exact small, vs, _, vals, ha⟩, ha⟩
    · rw [if_neg hb] at q
      cases q
theorem law_end {l : PySem.W.OpenLaw} {n k : Nat} {q : Program} {loose : List Str} {XP : (Str → Option Value) → Heap → Prop} {YP : World → Heap → Prop} {d : DefRec} {K : Params → PySem.W.Frag} {M : List Val → Res Val} {x : Str} (hn : l.most = some n) (hn2 : n ≤ sizeLine) (hdf : d.params.defaults = []) (room : Room k callerA)
    (hY : ∀ (w : World) (h : Heap), YP w h → (K w.params).In h) (F : ∀ (w : World) (mg : Str → Option Value) (fa : Addr) (h : Heap), (K w.params).In h → h.Ns mainGlobals mg → mg d.name = some (.ref fa) →
      ∃ fd : FuncData, (∀ (s : Shared) (u : Value), BindsTo s fd ⟨[u], []⟩ [(x, u)]) ∧ ∀ base : Heap, (K w.params).In base → base.Ns mainGlobals mg → FnG l.prog w (K w.params) mg base k fa fd [x] (spM (K w.params) mg 1 M))
    (says : ∀ ns : List Int, ns.length ≤ n → M [.fz (ns.map .int)] = .ok (.sh (.bool true))) : PySem.W.WalkO q loose XP YP l.row.toRowW d [] (fun f vs => PySem.call f vs) := by
  refine Att.attach_call hn hdf fun w s₀ s₁ mg mb fa o pm cd doc a vs ns G Y _ _ _ hmg hobj hints hlen gens => ?_
  obtain ⟨fd, bind, go⟩ := F w mg fa _ (hY w _ Y) G.T.g hmg
  exact law_run (hY w _ Y) G.T.g G.T.b G.T.builtins G.T.nolimit gens hobj hints (Nat.le_trans hlen hn2) room go bind (says ns hlen)
end Mi

namespace Mi
open PySem PySem.Spec PyProof.Rows L2
/-! ### xs[::-1] -/
def mRev (ma : Rho → Res Val) : Rho → Res Val := fun ρ => (ma ρ).bind fun a => lift (match lit a with
  | some xs => some (.ow xs.reverse)
  | none => none)
theorem snd_rev {K : PySem.W.Frag} {mg : Str → Option Value} {W : WX} {ta : TE} {ma : Rho → Res Val} (ha : Snd K mg W ta ma) : Snd K mg W (tRevL K ta) (mRev ma) := by
  intro G0 H0 σ G H ρ Q I h
  refine ha G0 H0 σ G H ρ _ I (RR.bnd (Ext.refl I.s) h fun a G1 H1 x ea e1 r1 h1 => ?_)
  obtain ⟨c, ec, q⟩ := h1.lift
  split at ec
  · rename_i xs e2
    cases ec
    obtain ⟨p, vs, rfl, hp, k⟩ := r1.list e1.s e2
    exact ⟨p, vs, rfl, hp, fun t ht => q G1 _ _ (e1.trans (Ext.newO e1.s ht)) ⟨t, _, rfl, upd_same, e1.s.free ht, e1.h.free ht, k.reverse⟩⟩
  · cases ec
theorem pm_rev {X : Cx} {W : WX} {e : Expr} {te : TE} {me : Rho → Res Val} {k : Nat} {p1 p2 p3 pos : Pos} (h : PM X W e te me) : PM X W (.Subscript e (.Slice none none (some (.UnaryOp .USub (.Constant (.int 1) k p1) p2)) p3) pos) (tRevL X.K te) (mRev me) := ⟨pe_revL h.p, snd_rev h.s⟩
/-! ### nothing is let out of a comprehension's block -/
theorem passB {X : Cx} {σ : L2.St} : PassesAt (L2.CX X.prog X.w) X σ (WE W0 σ) := fun _ _ _ _ _ _ h => by
  obtain ⟨_, _, _, _, _, _, _, _, _, _, _, _, z⟩ := h
  exact z.elim
/-- an error of an own class against an except clause of an own class -/
theorem exm_own {K : PySem.W.Frag} {S T : Addr} {b : Bool} (h1 : PySem.W.subIn K (.ref T) (.type "BaseException") = some true) (h2 : PySem.W.isClsIn K T = true) (h3 : PySem.W.typeIn K (.ref T) = some (.type "type")) (h4 : PySem.W.subIn K (.ref S) (.ref T) = some b) : PySem.W.exmOne K (.ref S) (.ref T) = some b := by
  have e1 : (PySem.W.subIn K (.ref T) (.type "BaseException") == some true) = true := by rw [h1]; rfl
  have e2 : ((PySem.W.clsIn K T).isSome && PySem.W.typeIn K (.ref T) == some (.type "type")) = true := by
    have z : (PySem.W.clsIn K T).isSome = true := h2
    rw [z, h3]; rfl
  unfold PySem.W.exmOne PySem.W.kitCls
  rw [if_pos e1]
  exact (if_pos e2).trans h4
/-! ### the rules with the written part by its name (within a comprehension's block it must not hang on the block) -/
section
variable {X : Cx} {K : PySem.W.Frag}
theorem ix_seqK (h : X.K = K := by rfl) : IxR X (rIx K) := h ▸ ix_seq
theorem call_lenK (h : X.K = K := by rfl) : CallR X (.builtin "len") (fun xs H Q => ∃ x n, xs = [x] ∧ LenV K x H n ∧ Q (.int n) H) := h ▸ call_len
theorem call_list_ofK (h : X.K = K := by rfl) : CallR X (.type "list") (fun xs H Q => ∃ p ys, xs = [.ref p] ∧ (SqL K H p ys ∨ SqT K H p ys) ∧ ∀ l, H l = none → Q (.ref l) (upd H l (.lst ys))) := h ▸ call_list_of
theorem cr_sortedIK (h : X.K = K := by rfl) : CallR X (.builtin "sorted") (rSortedI K) := h ▸ cr_sortedI
theorem cr_sumK (hc : X.calm = true := by rfl) (h : X.K = K := by rfl) : CallR X (.builtin "sum") (rSum K) := h ▸ cr_sum hc
theorem op_eqDK (hu : X.A.units + 64 < cLine) (h : X.K = K := by rfl) : OpR X (compareOp .Eq) (rEqD K) := h ▸ op_eqD hu
theorem op_neDK (hu : X.A.units + 64 < cLine) (h : X.K = K := by rfl) : OpR X (compareOp .NotEq) (rNeD K) := h ▸ op_neD hu
theorem op_in_seqK (h : X.K = K := by rfl) : OpR X (compareOp .In) (rIn K false) := h ▸ op_in_seq
theorem op_notIn_seqK (h : X.K = K := by rfl) : OpR X (compareOp .NotIn) (rIn K true) := h ▸ op_notIn_seq
theorem call_reprDK (gd : X.A.guards = some []) (hu : X.A.units + 64 < cLine) (h : X.K = K := by rfl) : CallR X (.builtin "repr") (rRepr K) := h ▸ call_reprD gd hu
end
section
variable {X : Cx} {K : PySem.W.Frag} {W : WX} {a e : Expr} {ta te : TE} {ma me : Rho → Res Val} {lo hi : Option Expr} {tl th : TO} {ml mh : Rho → Res (Option Int)} {pos p1 p2 p3 p : Pos} {k n : Nat}
theorem pm_sliceK (ha : PM X W a ta ma) (hl : PMO X W lo tl ml) (hh : PMO X W hi th mh) (h : X.K = K := by rfl) : PM X W (.Subscript a (.Slice lo hi none p2) pos) (tSl (rSlL K) ta tl th) (mSl ma ml mh) := h ▸ pm_slice ha hl hh
theorem pmt_truK (ha : PM X W a ta ma) (he : ∀ whole, isTrue a X.env whole = (do let v ← whole; standAt a.pos; holding [v] (truthy v)) := by intro _; rfl) (h : X.K = K := by rfl) :
    PMT X W a (fun σ H Q => ta σ H fun x H' => ∃ k, TruV K x H' k ∧ Q k H') (mTru ma) := h ▸ pmt_tru ha he
theorem pm_revK (ha : PM X W e te me) (h : X.K = K := by rfl) : PM X W (.Subscript e (.Slice none none (some (.UnaryOp .USub (.Constant (.int 1) k p1) p2)) p3) pos) (tRevL K te) (mRev me) := h ▸ pm_rev ha
theorem pm_defK {P : Program} {w : World} {mg : Str → Option Value} {base : Heap} {f : Addr} {fd : FuncData} {ps : List Str} {M : List Val → Res Val} {x : Str} {es : List Expr} {tr : TA} {mr : Rho → Res (List Val)} (F : FnG P w K mg base k f fd ps (spM K mg n M)) (gd : X.A.guards = some []) (hr : Room k X.A) (gm : mg x = some (.ref f)) (kp : PySem.W.keepIn K (.ref f) = true) (hb : Binds K fd ps [])
    (hx : ∀ σ, PassesAt (L2.CX X.prog X.w) X σ (WE W σ)) (ha : PMA X W (e :: es) tr mr) (hn : ∀ ρ as, mr ρ = .ok as → as.length = n) (gl : Gl X x := by rfl) (h1 : X.prog = P := by rfl) (h2 : X.w = w := by rfl) (h3 : X.K = K := by rfl) (h4 : X.mg = mg := by rfl) (h5 : X.base = base := by rfl)
    (db : (x == ("__debug__" : Str)) = false := by decide) (st : starEach (e :: es) X.env = (false, eval e X.env) :: starEach es X.env := by rfl) (pl : (backTo pos (starEach es X.env)).any (·.1) = false := by rfl) :
    PM X W (.Call (.Name x p) (e :: es) [] pos) (tCallS (spM K mg n M) (WE W) tr) (mDef M mr) := by
  subst h1 h2 h3 h4 h5
  exact pm_def F gd hr gm kp hb hx ha hn gl db st pl
end
end Mi

namespace Mi
open PySem PySem.Spec PyProof.Rows L2
/-! ### texts compared -/
def oEqS : Val → Val → Option Val
  | .sh (.str a), .sh (.str b) => some (.sh (.bool (decide (a = b))))
  | _, _ => none
def oNeS : Val → Val → Option Val
  | .sh (.str a), .sh (.str b) => some (.sh (.bool (!decide (a = b))))
  | _, _ => none
theorem dec_str (a b : Str) : decide (V.str a = V.str b) = decide (a = b) := by
  by_cases h : a = b
  · rw [h, decide_eq_true rfl, decide_eq_true rfl]
  · rw [decide_eq_false h, decide_eq_false fun z => h (V.str.inj z)]
theorem os_eqS {K : PySem.W.Frag} : OpS K rEq oEqS := by
  intro B G H x y a b c Q s ha hb e q
  unfold oEqS at e
  split at e
  · cases e
    cases ha.str_
    cases hb.str_
    refine ⟨rfl, ?_⟩
    rw [dec_str]
    exact q G H _ (Ext.refl s) (Rp.bl _)
  · cases e
theorem os_neS {K : PySem.W.Frag} : OpS K rNe oNeS := by
  intro B G H x y a b c Q s ha hb e q
  unfold oNeS at e
  split at e
  · cases e
    cases ha.str_
    cases hb.str_
    refine ⟨rfl, ?_⟩
    rw [dec_str]
    exact q G H _ (Ext.refl s) (Rp.bl _)
  · cases e
end Mi

namespace Mi
open PySem PySem.Spec PyProof.Rows L2
/-! ### methods of built-in values, asked -/
def tyOf (T : String) : Val → Bool
  | .sh (.str _) => T == "str"
  | r => (lit r).isSome && T == "list"
theorem tyV_of {K : PySem.W.Frag} {B G H : Hp} {v : V} {r : Val} {T : String} (s : Same G H) (h : VR K B G H v r) (t : tyOf T r = true) : tyV K T v H := by
  unfold tyOf at t
  split at t
  · cases h.str_
    exact beq_iff_eq.mp t
  · rw [Bool.and_eq_true] at t
    obtain ⟨xs, e⟩ := Option.isSome_iff_exists.mp t.1
    obtain ⟨p, vs, rfl, hp, _⟩ := h.list s e
    exact .inl ⟨beq_iff_eq.mp t.2, vs, hp⟩
def MethS (K : PySem.W.Frag) (r : V → List V → Hp → VK → Prop) (mo : Val → List Val → Option Val) : Prop :=
  ∀ (B G H : Hp) (x : V) (o : Val) (vs : List V) (as : List Val) (c : Val) (Q : VK), Same G H → VR K B G H x o → VRs K B G H vs as → mo o as = some c → (∀ G' H' v, Ext G H G' H' → VR K H G' H' v c → Q v H') → r x vs H Q
def mMeth (T : String) (mm : Val → List Val → Option Val) (mo : Rho → Res Val) (ma : Rho → Res (List Val)) : Rho → Res Val := fun ρ => (mo ρ).bind fun o => if tyOf T o = true then (ma ρ).bind fun as => lift (mm o as) else .no
theorem snd_meth {K : PySem.W.Frag} {mg : Str → Option Value} {W : WX} {T : String} {r : V → List V → Hp → VK → Prop} {mm : Val → List Val → Option Val} {to : TE} {mo : Rho → Res Val} {ta : TA} {ma : Rho → Res (List Val)} (hs : MethS K r mm) (ho : Snd K mg W to mo) (ha : SndA K mg W ta ma) : Snd K mg W (tBM K T r to ta) (mMeth T mm mo ma) := by
  intro G0 H0 σ G H ρ Q I h
  refine ho G0 H0 σ G H ρ _ I (RR.bnd (Ext.refl I.s) h fun o G1 H1 x eo e1 r1 h1 => ?_)
  split at h1
  · rename_i ht
    refine ⟨tyV_of e1.s r1 ht, ?_⟩
    refine ha G0 H0 σ G1 H1 ρ _ (I.ext' e1) (RR.bnd e1 h1 fun as G2 H2 vs ea e2 r2 h2 => ?_)
    obtain ⟨c, ec, q⟩ := h2.lift
    exact hs H G2 H2 x o vs as c Q e2.s (r1.ext e2) (r2.back e1.h) ec fun G' H' v e z => q G' H' v ((e1.trans e2).trans e) (z.back (e1.trans e2).h)
  · exact h1.elim
theorem pm_meth {X : Cx} {K : PySem.W.Frag} {W : WX} {o e : Expr} {es : List Expr} {name : Str} {T id : String} {apos cpos : Pos} {r : V → List V → Hp → VK → Prop} {mm : Val → List Val → Option Val} {to : TE} {mo : Rho → Res Val} {ta : TA} {ma : Rho → Res (List Val)} (pa : PlainAttrs T) (slot : Slot T name id) (hty : typeOf (.builtin id) = pure (.type "method_descriptor"))
    (hm : MtR X id r) (hs : MethS K r mm) (ho : PM X W o to mo) (ha : PMA X W (e :: es) ta ma) (hK : X.K = K := by rfl)
    (hbase : attributeBase o name X.env (eval o X.env) = eval o X.env := by rfl)
    (hfew : ((backTo cpos (starEach (e :: es) X.env)).all (fun x => !x.1) && (backToKw cpos (keywordEach [] X.env)).all (fun x => x.1.isSome) && decide ((e :: es).length + ([] : List Keyword).length + (if ([] : List Keyword).isEmpty then 0 else 1) < 30)) = true := by rfl)
    (hline : (apos.endLine == cpos.line) = true := by rfl) (st : starEach (e :: es) X.env = (false, eval e X.env) :: starEach es X.env := by rfl) (hplain : (backTo cpos (starEach es X.env)).any (·.1) = false := by rfl) :
    PM X W (.Call (.Attribute o name apos) (e :: es) [] cpos) (tBM K T r to ta) (mMeth T mm mo ma) := by
  subst hK
  exact ⟨pe_bm pa slot hty hm ho.p ha.p hbase hfew hline st hplain, snd_meth hs ho.s ha.s⟩
/-- the place of the first item that equals d -/
def firstAt (d : D) : List D → Option Nat
  | [] => none
  | z :: zs => if PyData.eqv z d = true then some 0 else (firstAt d zs).map (· + 1)
theorem firstAt_ok {d : D} : ∀ {xs : List D} {j : Nat}, firstAt d xs = some j → (∃ z, xs[j]? = some z ∧ PyData.eqv z d = true) ∧ ∀ (m : Nat) (z' : D), m < j → xs[m]? = some z' → PyData.eqv z' d = false
  | [], _, h => by cases h
  | z :: zs, j, h => by
    unfold firstAt at h
    by_cases e : PyData.eqv z d = true
    · rw [if_pos e] at h
      cases h
      exact ⟨⟨z, rfl, e⟩, fun m _ hm => absurd hm (Nat.not_lt_zero m)⟩
    · rw [if_neg e] at h
      cases q : firstAt d zs with
      | none =>
        rw [q] at h
        cases h
      | some i =>
        rw [q] at h
        cases h
        obtain ⟨⟨y, h1, h2⟩, h3⟩ := firstAt_ok q
        refine ⟨⟨y, by simpa using h1, h2⟩, fun m z' hm hz => ?_⟩
        cases m with
        | zero =>
          have : z = z' := by simpa using hz
          subst this
          cases b : PyData.eqv z d
          · rfl
          · exact absurd b e
        | succ m =>
          have hm : m + 1 < i + 1 := hm
          exact h3 m z' (by omega) (by simpa using hz)
def kIndex : Val → List Val → Option Val := fun o as => match lit o, as with
  | some xs, [.sh d] => if (flatD d && xs.all flatD) = true then (firstAt d xs).map fun j => .sh (.int (j : Nat)) else none
  | _, _ => none
theorem ks_index {K : PySem.W.Frag} : MethS K (rIndex K) kIndex := by
  intro B G H x o vs as c Q s ho ha e q
  unfold kIndex at e
  split at e
  · split at e
    · rename_i xs d e1 hf
      rw [Bool.and_eq_true] at hf
      cases ej : firstAt d xs with
      | none =>
        rw [ej] at e
        cases e
      | some j =>
        rw [ej] at e
        cases e
        obtain ⟨p, us, rfl, hp, k⟩ := ho.list s e1
        obtain ⟨y, rfl, hy⟩ := vrs1 ha
        have hy : Rp K G y d := hy
        obtain ⟨⟨z, h1, h2⟩, h3⟩ := firstAt_ok ej
        obtain ⟨u, hu, ru⟩ := k.get h1
        have fz : flatD z = true := List.all_eq_true.mp hf.2 z (List.mem_of_getElem? h1)
        refine ⟨p, us, y, j, u, rfl, rfl, hp, ?_, ?_, hu, ?_, fun m u' hm hu' => ?_, q G H _ (Ext.refl s) (Rp.int _)⟩
        · rw [flat_of hy]
          exact hf.1
        · rw [flats_of k]
          exact hf.2
        · rw [eqv_of ru hy fz hf.1]
          exact h2
        · obtain ⟨z', hz', rz'⟩ := k.getV hu'
          rw [eqv_of rz' hy (List.all_eq_true.mp hf.2 z' (List.mem_of_getElem? hz')) hf.1]
          exact h3 m z' hm hz'
    · cases e
  · cases e
/-- the rule with the written part by its name -/
theorem mt_indexK {X : Cx} {K : PySem.W.Frag} (h : X.K = K := by rfl) : MtR X "list.index" (rIndex K) := h ▸ mt_index

/-! ### row.insert(i, x) -/
def rIns : V → List V → Hp → VK → Prop := fun x vs H Q => ∃ (l : Addr) (xs : List V) (i : Int) (y : V), x = .ref l ∧ vs = [.int i, y] ∧ H l = some (.lst xs) ∧ xs.length < sizeLine ∧ 0 ≤ i ∧ i < 2 ^ 63 ∧ Q .non (upd H l (.lst (xs.take i.toNat ++ [y] ++ xs.drop i.toNat)))
def mIns (i : Nat) (m1 m2 : Rho → Res Val) : Rho → Out := fun ρ => match ρ[i]? with
  | some (some (.ow xs)) => sRes (m1 ρ) ρ fun k => sRes (m2 ρ) ρ fun r => match k, esc r with
    | .sh (.int k), some d => if xs.length < 100000 ∧ 0 ≤ k ∧ k ≤ 1000000 then .nx (ρ.set i (some (.ow (xs.take k.toNat ++ [d] ++ xs.drop k.toNat)))) else .no
    | _, _ => .no
  | _ => .no
theorem snd_ins {K : PySem.W.Frag} {mg : Str → Option Value} {W : WX} {i : Nat} {t1 t2 : TE} {m1 m2 : Rho → Res Val} (h1 : Snd K mg W t1 m1) (h2 : Snd K mg W t2 m2) : SndS K mg W (tDrop (tBM K "list" rIns (tVar i) (tCons t1 (tCons t2 tNil)))) (mIns i m1 m2) := by
  intro G0 H0 σ G H ρ D I q
  unfold mIns at q
  split at q
  · rename_i xs e
    obtain ⟨p, vs, hv, hp, hg, k⟩ := own_get I e
    refine ⟨.ref p, hv, .inl ⟨rfl, vs, SqL.of hp⟩, ?_⟩
    refine h1 G0 H0 σ G H ρ _ I (RR.out I q fun a G1 H1 x ea e1 r1 q1 => ?_)
    have I1 := I.ext' e1
    refine h2 G0 H0 σ G1 H1 ρ _ I1 (RR.out I1 q1 fun b G2 H2 y eb e2 r2 q2 => ?_)
    split at q2
    · split at q2
      · rename_i kk d ed hl
        obtain ⟨G3, x3, s3, kd⟩ := esc_one e2 r2.vw ed
        have I3 := I1.ext' x3
        obtain ⟨p', vs', hv', hp', hg', k'⟩ := own_get I3 e
        rw [hv] at hv'
        cases hv'
        cases r1.int_
        refine ⟨p, vs', _, y, rfl, rfl, hp', ?_, hl.2.1, by omega, OutR.up s3 q2 σ G3 _ (I3.mut e hv (((k'.take _).append (.cons kd .nil)).append (k'.drop _))) (Same.refl _)⟩
        rw [k'.length]
        exact sz_lt hl.1
      · exact q2.elim
    · exact q2.elim
  · exact q.elim
theorem pms_ins {X : Cx} {W : WX} (i : Nat) {x : Str} {p apos cpos pos : Pos} {e f : Expr} {t1 t2 : TE} {m1 m2 : Rho → Res Val} (h1 : PM X W e t1 m1) (h2 : PM X W f t2 m2) (hN : X.N[i]? = some x := by rfl) (hv : Vis X.env.scope x := by first | exact Or.inl rfl | exact Or.inr (Or.inl rfl) | exact Or.inr (Or.inr rfl)) (hd : (x == ("__debug__" : Str)) = false := by decide)
    (hcd : (x == ("__classdict__" : Str)) = false := by decide) (st : starEach [e, f] X.env = (false, eval e X.env) :: starEach [f] X.env := by rfl) (st2 : starEach [f] X.env = (false, eval f X.env) :: starEach [] X.env := by rfl)
    (hbase : attributeBase (.Name x p) "insert" X.env (eval (.Name x p) X.env) = eval (.Name x p) X.env := by rfl)
    (hfew : ((backTo cpos (starEach [e, f] X.env)).all (fun x => !x.1) && (backToKw cpos (keywordEach [] X.env)).all (fun x => x.1.isSome) && decide ([e, f].length + ([] : List Keyword).length + (if ([] : List Keyword).isEmpty then 0 else 1) < 30)) = true := by rfl)
    (hline : (apos.endLine == cpos.line) = true := by rfl) (hplain : (backTo cpos (starEach [f] X.env)).any (·.1) = false := by rfl)
    (hs : swapsWith (.Call (.Attribute (.Name x p) "insert" apos) [e, f] [] cpos) none pos.line X.env = pure false := by rfl) :
    PMS X W (.Expr (.Call (.Attribute (.Name x p) "insert" apos) [e, f] [] cpos) pos) (tDrop (tBM X.K "list" rIns (tVar i) (tCons t1 (tCons t2 tNil)))) (mIns i m1 m2) :=
  ⟨ps_expr (pe_bm PySem.F.plainAttrs_list PySem.F.slot_list_insert PySem.F.type_list_insert mt_insert (pe_var hN hv hd hcd) (pa_cons h1.p (pa_cons h2.p pa_nil st2) st) hbase hfew hline st hplain) hs, snd_ins h1.s h2.s⟩

/-! ### all, any of truth values -/
def boolsOf : List D → Option (List Bool)
  | [] => some []
  | d :: ds => match d, boolsOf ds with
    | .bool b, some bs => some (b :: bs)
    | _, _ => none
theorem boolsOf_rp {K : PySem.W.Frag} {G : Hp} : ∀ {ds : List D} {vs : List V} {bs : List Bool}, RpA K G vs ds → boolsOf ds = some bs → vs = bs.map V.bl
  | [], _, _, .nil, e => by
    cases e
    rfl
  | d :: ds, _, _, .cons h a, e => by
    unfold boolsOf at e
    split at e
    · rename_i b cs e2
      cases e
      cases h
      rw [boolsOf_rp a e2]
      rfl
    · cases e
def cAll (f : List Bool → Bool) : List Val → Option Val
  | [a] => match lit a with
    | some xs => match boolsOf xs with
      | some bs => some (.sh (.bool (f bs)))
      | none => none
    | none => none
  | _ => none
theorem cs_all {K : PySem.W.Frag} : CallS K (rAll K) (cAll fun bs => bs.all id) := by
  intro B G H vs as c Q s h e q
  unfold cAll at e
  split at e
  · split at e
    · split at e
      · rename_i xs e2 _ bs e3
        cases e
        obtain ⟨v, rfl, h1⟩ := vrs1 h
        obtain ⟨p, us, rfl, hp, k⟩ := h1.list s e2
        cases boolsOf_rp k e3
        exact ⟨p, bs, rfl, hp, q G H _ (Ext.refl s) (Rp.bl _)⟩
      · cases e
    · cases e
  · cases e
theorem cs_any {K : PySem.W.Frag} : CallS K (rAny K) (cAll fun bs => bs.any id) := by
  intro B G H vs as c Q s h e q
  unfold cAll at e
  split at e
  · split at e
    · split at e
      · rename_i xs e2 _ bs e3
        cases e
        obtain ⟨v, rfl, h1⟩ := vrs1 h
        obtain ⟨p, us, rfl, hp, k⟩ := h1.list s e2
        cases boolsOf_rp k e3
        exact ⟨p, bs, rfl, hp, q G H _ (Ext.refl s) (Rp.bl _)⟩
      · cases e
    · cases e
  · cases e
theorem cr_allK {X : Cx} {K : PySem.W.Frag} (hc : X.calm = true := by rfl) (h : X.K = K := by rfl) : CallR X (.builtin "all") (rAll K) := h ▸ cr_all hc
theorem cr_anyK {X : Cx} {K : PySem.W.Frag} (hc : X.calm = true := by rfl) (h : X.K = K := by rfl) : CallR X (.builtin "any") (rAny K) := h ▸ cr_any hc

/-! ### for i in range(a, b, -1) -/
def downD (hi : Int) (n : Nat) : List D := (List.range n).map fun i => .int (hi - (i : Nat))
def mIter3 (ma : Rho → Res (List Val)) : Rho → Res (List D) := fun ρ => (ma ρ).bind fun as => lift (match as with
  | [.sh (.int i), .sh (.int j), .sh (.int c)] => if i.natAbs ≤ 1000000 ∧ j.natAbs ≤ 1000000 ∧ c = -1 then some (downD i (i - j).toNat) else none
  | _ => none)
theorem downD_len (hi : Int) (n : Nat) : (downD hi n).length = n := by
  unfold downD
  rw [List.length_map, List.length_range]
theorem its_down {K : PySem.W.Frag} {Ga Ha : Hp} {hi : Int} {n : Nat} : ItS K Ga Ha (Itc hi (-1) n) (downD hi n) := by
  refine ⟨fun i G H e1 e2 hj => ?_, fun i G H e1 e2 hj => ?_, fun i G H x H' e1 e2 hj y => ?_⟩
  · rw [downD_len] at hj
    exact hj
  · rw [downD_len] at hj
    exact hj
  · rw [downD_len] at hj
    obtain ⟨rfl, rfl⟩ := y
    refine ⟨.int (hi - (i : Nat)), G, ?_, Ext.refl e2, ?_⟩
    · unfold downD
      rw [List.getElem?_map, List.getElem?_range hj]
      rfl
    · have z : hi + (i : Nat) * (-1) = hi - (i : Nat) := by omega
      rw [z]
      exact .int _
theorem vrs3 {K : PySem.W.Frag} {B G H : Hp} {vs : List V} {a b c : Val} (h : VRs K B G H vs [a, b, c]) : ∃ v u w, vs = [v, u, w] ∧ VR K B G H v a ∧ VR K B G H u b ∧ VR K B G H w c := by
  cases h with
  | cons h1 h2 =>
    obtain ⟨u, w, rfl, h3, h4⟩ := vrs2 h2
    exact ⟨_, u, w, rfl, h1, h3, h4⟩
theorem sndi_3 {K : PySem.W.Frag} {mg : Str → Option Value} {W : WX} {ta : TA} {ma : Rho → Res (List Val)} (h : SndA K mg W ta ma) : SndI K mg W (iRng3 ta) (mIter3 ma) := by
  intro G0 H0 σ G H ρ R I q
  refine h G0 H0 σ G H ρ _ I (RR.bnd (Ext.refl I.s) q fun a G1 H1 x ea e1 r1 h1 => ?_)
  obtain ⟨xs, ex, q1⟩ := h1.lift
  split at ex
  · split at ex
    · rename_i i j c hc
      cases ex
      obtain ⟨v, u, w, rfl, z1, z2, z3⟩ := vrs3 r1
      cases z1.int_
      cases z2.int_
      cases z3.int_
      obtain ⟨_, _, rfl⟩ := hc
      exact ⟨i, j, -1, (i - j).toNat, rfl, RgC.neg (by omega) (by omega) (by omega) (by omega), q1 G1 H1 _ e1 its_down⟩
    · cases ex
  · cases ex
theorem pmi_3 {X : Cx} {W : WX} {tg a b c : Expr} {ta : TA} {ma : Rho → Res (List Val)} {p pos : Pos} (hm : X.mg "range" = none) (h : PMA X W [a, b, c] ta ma) (hg : Gl X "range" := by rfl) (st : starEach [a, b, c] X.env = (false, eval a X.env) :: starEach [b, c] X.env := by rfl) (hpl : (backTo pos (starEach [b, c] X.env)).any (·.1) = false := by rfl) :
    PMI X W tg (.Call (.Name "range" p) [a, b, c] [] pos) (iRng3 ta) (mIter3 ma) := ⟨pi_range3 hg hm h.p st hpl, sndi_3 h.s⟩

/-! ### several except clauses -/
/-- a clause: which classes it takes, its suite -/
abbrev Clause := (Str → Option Bool) × (Rho → Out)
def clauses (m : Str) (fs : List (Str × D)) (ρ : Rho) : List Clause → Out
  | [] => .ex m fs ρ
  | (dec, h) :: r => match dec m with
    | some true => noEx (h ρ)
    | some false => clauses m fs ρ r
    | none => .no
def mTryM (body : Rho → Out) (l : List Clause) : Rho → Out := fun ρ => match body ρ with
  | .ex m fs ρ' => clauses m fs ρ' l
  | o => o
inductive ClsS (K : PySem.W.Frag) (mg : Str → Option Value) : List (Value × (Addr → Value → Option Addr → TS)) → List Clause → Prop
  | nil : ClsS K mg [] []
  | cons {c : Value} {ts : Addr → Value → Option Addr → TS} {dec : Str → Option Bool} {mh : Rho → Out} {l : List (Value × (Addr → Value → Option Addr → TS))} {r : List Clause} : Decs K mg c dec → (∀ a cls d, SndS K mg W0 (ts a cls d) mh) → ClsS K mg l r → ClsS K mg ((c, ts) :: l) ((dec, mh) :: r)
theorem noEx_ok {K : PySem.W.Frag} {mg : Str → Option Value} {W : WX} {G0 H0 G : Hp} {D : Ends} {o : Out} (h : OutR K mg W G0 H0 G D (noEx o)) : OutR K mg W0 G0 H0 G D o := by
  cases o <;> first | exact h | exact h.elim
theorem snd_tryM {K : PySem.W.Frag} {mg : Str → Option Value} {Wout : WX} {l : List (Value × (Addr → Value → Option Addr → TS))} {cl : List Clause} {tb : WX → TS} {mb : Rho → Out} (hb : ∀ W, SndS K mg W (tb W) mb) (hl : ClsS K mg l cl) :
    SndS K mg Wout (fun D σ H => tb (wMany K Wout D l) D σ H) (mTryM mb cl) := by
  intro G0 H0 σ G H ρ D I q
  refine hb _ G0 H0 σ G H ρ D I ?_
  unfold mTryM at q
  cases eo : mb ρ with
  | nx ρ' =>
    rw [eo] at q
    exact q
  | rt r =>
    rw [eo] at q
    exact q
  | bk ρ' =>
    rw [eo] at q
    exact q
  | ct ρ' =>
    rw [eo] at q
    exact q
  | no =>
    rw [eo] at q
    exact q
  | ex m fs ρ' =>
    rw [eo] at q
    have q : OutR K mg Wout G0 H0 G D (clauses m fs ρ' cl) := q
    intro σ' G' H' C d I' s' hC hx
    clear hb eo
    induction hl with
    | nil => exact q σ' G' H' C d I' s' hC hx
    | @cons c ts dec mh l r hd hh hr ih =>
      unfold clauses at q
      cases ed : dec m with
      | none =>
        rw [ed] at q
        exact q.elim
      | some b =>
        refine ⟨b, hd m b C ed hC, fun eb a ha => ?_, fun eb => ?_⟩
        · subst eb
          rw [ed] at q
          exact hh a (.ref C) d G0 H0 σ' G' H' ρ' D I' (noEx_ok (OutR.up s' q))
        · subst eb
          rw [ed] at q
          exact ih q q
inductive PMH (X : Cx) : List ExceptHandler → List (Value × (Addr → Value → Option Addr → TS)) → List Clause → Prop
  | nil : PMH X [] [] []
  | cons {x : Str} {c : Value} {ts : Addr → Value → Option Addr → TS} {b₀ : Stmt} {suite : List Stmt} {np pos' : Pos} {hds : List ExceptHandler} {l : List (Value × (Addr → Value → Option Addr → TS))} {dec : Str → Option Bool} {mh : Rho → Out} {r : List Clause} (gc : X.mg x = some c) (gl : Gl X x) (db : (x == ("__debug__" : Str)) = false) (hd : Decs X.K X.mg c dec)
      (hh : ∀ (a : Addr) (oe : Obj) (cls : Value) (d : Option Addr) (pn : List (Addr × Obj)), PMSs (X.suite a ((a, oe) :: pn)) W0 (b₀ :: suite) (ts a cls d) mh) (t : PMH X hds l r) : PMH X (.ExceptHandler (some (.Name x np)) none (b₀ :: suite) pos' :: hds) ((c, ts) :: l) ((dec, mh) :: r)
theorem PMH.hds {X : Cx} {h : List ExceptHandler} {l : List (Value × (Addr → Value → Option Addr → TS))} {r : List Clause} (p : PMH X h l r) : HdsOk X h l ∧ ClsS X.K X.mg l r := by
  induction p with
  | nil => exact ⟨.nil, .nil⟩
  | cons gc gl db hd hh t ih => exact ⟨.cons ⟨gl, db, .inl gc⟩ (fun a oe cls d pn _ _ => (hh a oe cls d pn).p) ih.1, .cons hd (fun a cls d => (hh a { cls := cls, dict := d, data := .fields #[] } cls d []).s) ih.2⟩
theorem pms_tryM {X : Cx} {Wout : WX} {body : List Stmt} {h₀ : ExceptHandler} {hds : List ExceptHandler} {l : List (Value × (Addr → Value → Option Addr → TS))} {cl : List Clause} {pos : Pos} {tb : WX → TS} {mb : Rho → Out} (hs : X.stack = X.env :: X.outer) (hf : X.env.frame = some X.env.locals) (tk : Takes X Wout)
    (hb : ∀ (W : WX) (pn : List (Addr × Obj)) (xe : Value → Shared → Prop), Takes (X.tr pn xe) W → PMSs (X.tr pn xe) W body (tb W) mb) (hh : PMH X (h₀ :: hds) l cl) : PMS X Wout (.Try body (h₀ :: hds) [] [] pos) (fun D σ H => tb (wMany X.K Wout D l) D σ H) (mTryM mb cl) := by
  refine ⟨ps_try_many hs hf tk (fun W pn xe t _ => (hb W pn xe t).p) hh.hds.1, snd_tryM (fun W => ?_) hh.hds.2⟩
  exact (hb W [] (fun u s' => XE (X.tr [] fun _ _ => False) W u s') fun u s' ⟨a, B, sI, pins, σ, H, cls, d, e, J, rest⟩ => ⟨a, B, sI, pins, σ, H, cls, d, e, J.wish (fun _ _ => False), rest⟩).s
end Mi

namespace Mi
open PySem PySem.Spec PyProof.Rows L2

/-! ### except X as e: .. isinstance(e, C) .. -/
def rIsX (K : PySem.W.Frag) (a : Addr) (cls : Value) (d : Option Addr) : List V → Hp → VK → Prop := fun xs H Q => ∃ D, cls = .ref D ∧ d = none ∧ ExcC K D ∧ rIsE K D a xs H Q
theorem call_isX {X : Cx} {a : Addr} {oe : Obj} {pn : List (Addr × Obj)} {cls : Value} {d : Option Addr} (hz : Zc cls d oe) (hf : ∃ vs, oe.data = .fields vs) : CallR (X.suite a ((a, oe) :: pn)) (.builtin "isinstance") (rIsX X.K a cls d) := by
  intro pins s σ H xs us Q I r h
  obtain ⟨D, rfl, rfl, C, h⟩ := h
  exact call_isE C hz hf pins s σ H xs us Q I r h
def Exs (i : Nat) (a : Addr) (te : TE) (b : Bool) : Prop := ∀ (σ : L2.St) (H : Hp) (Q : VK), σ[i]? = some (some (.ref a)) → Q (.bl b) H → te σ H Q
def Tst (i : Nat) (a : Addr) (tt : TT) (b : Bool) : Prop := ∀ (σ : L2.St) (H : Hp) (Q : Bool → Hp → Prop), σ[i]? = some (some (.ref a)) → Q b H → tt σ H Q
/-- what the class D answers about the class c -/
def IsD (K : PySem.W.Frag) (mg : Str → Option Value) (c : Value) (mt : Str → Option Bool) : Prop := ∀ (m : Str) (b : Bool) (C : Addr), mt m = some b → mg m = some (.ref C) → ExcC K C ∧ PySem.W.kitOne K (.ref C) c = some b
section
variable {X : Cx} {i : Nat} {a : Addr} {cls : Value} {d : Option Addr} {e e1 e2 : Expr} {te : TE} {tt tA tB : TT} {mt m1 m2 : Str → Option Bool} {pos : Pos} {rest : List Expr} {b : Expr}
structure PHE (X : Cx) (i : Nat) (a : Addr) (cls : Value) (d : Option Addr) (e : Expr) (te : TE) (mt : Str → Option Bool) : Prop where
  p : PE X e te
  s : ∀ m C b, cls = .ref C → d = none → X.mg m = some (.ref C) → mt m = some b → Exs i a te b
structure PHT (X : Cx) (i : Nat) (a : Addr) (cls : Value) (d : Option Addr) (e : Expr) (tt : TT) (mt : Str → Option Bool) : Prop where
  p : PT X e tt
  s : ∀ m C b, cls = .ref C → d = none → X.mg m = some (.ref C) → mt m = some b → Tst i a tt b
structure PHW (X : Cx) (i : Nat) (a : Addr) (cls : Value) (d : Option Addr) (e : Expr) (tt : TT) (mt : Str → Option Bool) : Prop where
  p : PW X e tt
  s : ∀ m C b, cls = .ref C → d = none → X.mg m = some (.ref C) → mt m = some b → Tst i a tt b
theorem phe_is {K : PySem.W.Frag} {x y : Str} {p p1 p2 : Pos} {v : V} {u : Value} (hk : X.K = K) (hc : CallR X (.builtin "isinstance") (rIsX K a cls d)) (hy : X.mg y = some u) (rv : RelV v u) (hu : ∀ w, RelV v w → w = u) (hd' : IsD K X.mg u mt) (hm : X.mg "isinstance" = none) (hN : X.N[i]? = some x := by rfl)
    (hv : Vis X.env.scope x := by first | exact Or.inl rfl | exact Or.inr (Or.inl rfl) | exact Or.inr (Or.inr rfl)) (hd : (x == ("__debug__" : Str)) = false := by decide) (hcd : (x == ("__classdict__" : Str)) = false := by decide)
    (gy : Gl X y := by rfl) (dy : (y == ("__debug__" : Str)) = false := by decide) (hg : Gl X "isinstance" := by rfl)
    (he : starEach (.Name x p1 :: [.Name y p2]) X.env = (false, eval (.Name x p1) X.env) :: starEach [.Name y p2] X.env := by rfl) (hs2 : starEach (.Name y p2 :: []) X.env = (false, eval (.Name y p2) X.env) :: starEach [] X.env := by rfl) (hpl : (backTo pos (starEach [.Name y p2] X.env)).any (·.1) = false := by rfl) :
    PHE X i a cls d (.Call (.Name "isinstance" p) [.Name x p1, .Name y p2] [] pos) (tCB (rIsX K a cls d) (tCons (tVar i) (tCons (tC v) tNil))) mt := by
  subst hk
  exact ⟨pe_callB hc hg hm rfl (pa_cons (pe_var hN hv hd hcd) (pa_cons (pe_glob gy hy rv dy) pa_nil hs2) he) (by decide) (by decide) he hpl, fun m C b hC hn hmC hb σ H Q hσ q => by
    obtain ⟨EC, ek⟩ := hd' m b C hb hmC
    exact ⟨_, hσ, C, hC, hn, EC, v, u, b, rfl, hu, ek, q⟩⟩
theorem pht_tru {K : PySem.W.Frag} (hk : X.K = K) (h : PHE X i a cls d e te mt) (he : ∀ whole, isTrue e X.env whole = (do let v ← whole; standAt e.pos; holding [v] (truthy v)) := by intro _; rfl) : PHT X i a cls d e (fun σ H Q => te σ H fun x H' => ∃ k, TruV K x H' k ∧ Q k H') mt := by
  subst hk
  exact ⟨pt_truth h.p he, fun m C b h1 h2 h3 h4 σ H Q hσ q => h.s m C b h1 h2 h3 h4 σ H _ hσ ⟨b, rfl, q⟩⟩
theorem pht_not (h : PHT X i a cls d e tA mt) : PHT X i a cls d (.UnaryOp .Not e pos) (tNot tA) (fun m => (mt m).map (!·)) :=
  ⟨pt_not h.p, fun m C b h1 h2 h3 h4 σ H Q hσ q => by
    cases e0 : mt m with
    | none =>
      rw [e0] at h4
      cases h4
    | some k =>
      rw [e0] at h4
      cases h4
      exact h.s m C k h1 h2 h3 e0 σ H _ hσ q⟩
theorem phw_or1 (h : PHT X i a cls d e tA mt) : PHW X i a cls d (.BoolOp .Or [e] pos) tA mt := ⟨pw_or1 h.p, h.s⟩
theorem phw_or (h : PHT X i a cls d e tA m1) (h2 : PHW X i a cls d (.BoolOp .Or (b :: rest) pos) tB m2) : PHW X i a cls d (.BoolOp .Or (e :: b :: rest) pos) (tOr tA tB) (fun m => (m1 m).bind fun k => if k = true then some true else m2 m) :=
  ⟨pw_or h.p h2.p, fun m C k h1 hn h3 h4 σ H Q hσ q => by
    cases e0 : m1 m with
    | none =>
      rw [e0] at h4
      cases h4
    | some k0 =>
      rw [e0] at h4
      have h4 : (if k0 = true then some true else m2 m) = some k := h4
      refine h.s m C k0 h1 hn h3 e0 σ H _ hσ ?_
      cases k0 with
      | true =>
        cases h4
        exact iteT q
      | false => exact iteF (h2.s m C k h1 hn h3 h4 σ H _ hσ q)⟩
theorem PHW.t (h : PHW X i a cls d e tA mt) : PHT X i a cls d e tA mt := ⟨h.p.pt, h.s⟩
end
/-- a suite of a handler -/
def SndH (K : PySem.W.Frag) (mg : Str → Option Value) (i : Nat) (a : Addr) (ts : TS) (mh : Rho → Out) : Prop :=
  ∀ (G0 H0 : Hp) (σ : L2.St) (G H : Hp) (ρ : Rho) (D : Ends), EnvS K G0 H0 σ G H ρ → σ[i]? = some (some (.ref a)) → OutR K mg W0 G0 H0 G D (mh ρ) → ts D σ H
structure PHS (X : Cx) (i : Nat) (a : Addr) (cls : Value) (d : Option Addr) (st : List Stmt) (ts : TS) (mh : Str → Rho → Out) : Prop where
  p : PSs X st ts
  s : ∀ m C, cls = .ref C → d = none → X.mg m = some (.ref C) → SndH X.K X.mg i a ts (mh m)
def mHIf (mt : Str → Option Bool) (a b : Rho → Out) : Str → Rho → Out := fun m ρ => match mt m with
  | some true => a ρ
  | some false => b ρ
  | none => .no
def mHRet (mt : Str → Option Bool) : Str → Rho → Out := fun m _ => match mt m with
  | some b => .rt (.sh (.bool b))
  | none => .no
section
variable {X : Cx} {i : Nat} {a : Addr} {cls : Value} {d : Option Addr} {e : Expr} {te : TE} {tt : TT} {mt : Str → Option Bool} {pos : Pos} {sts rest : List Stmt} {t u : TS} {ma mb : Rho → Out}
theorem phs_if (h : PHT X i a cls d e tt mt) (ha : PMSs X W0 sts t ma) (hb : PMSs X W0 rest u mb) : PHS X i a cls d [.If e sts rest pos] (tIfS tt t u) (mHIf mt ma mb) :=
  ⟨pss_one (ps_if h.p ha.p hb.p), fun m C h1 h2 h3 G0 H0 σ G H ρ D I hσ q => by
    unfold mHIf at q
    cases e0 : mt m with
    | none =>
      rw [e0] at q
      exact q.elim
    | some k =>
      rw [e0] at q
      refine h.s m C k h1 h2 h3 e0 σ H _ hσ ?_
      cases k with
      | true => exact iteT (ha.s G0 H0 σ G H ρ D I q)
      | false => exact iteF (hb.s G0 H0 σ G H ρ D I q)⟩
theorem phs_ret (h : PHE X i a cls d e te mt) : PHS X i a cls d [.Return (some e) pos] (tRet te) (mHRet mt) :=
  ⟨pss_one (ps_ret h.p), fun m C h1 h2 h3 G0 H0 σ G H ρ D I hσ q => by
    unfold mHRet at q
    cases e0 : mt m with
    | none =>
      rw [e0] at q
      exact q.elim
    | some k =>
      rw [e0] at q
      exact h.s m C k h1 h2 h3 e0 σ H _ hσ (q G H (.bl k) I.ext (Rp.bl k))⟩
end
/-- behind the suite the name is gone -/
def offX (i : Nat) : Out → Out
  | .nx ρ => .nx (ρ.set i none)
  | .bk ρ => .bk (ρ.set i none)
  | .ct ρ => .ct (ρ.set i none)
  | .rt r => .rt r
  | _ => .no
def mTryAs (body : Rho → Out) (dec : Str → Option Bool) (i : Nat) (h : Str → Rho → Out) : Rho → Out := fun ρ => match body ρ with
  | .ex m fs ρ' => match dec m with
    | some true => if fs.isEmpty = true ∧ i < ρ'.length then offX i (h m (ρ'.set i none)) else .no
    | some false => .ex m fs ρ'
    | none => .no
  | o => o
theorem snd_tryAs {K : PySem.W.Frag} {mg : Str → Option Value} {Wout : WX} {c : Value} {dec : Str → Option Bool} {i : Nat} {tb : WX → TS} {mb : Rho → Out} {ts : Addr → Value → Option Addr → TS} {mh : Str → Rho → Out} (hd : Decs K mg c dec)
    (hb : ∀ W, SndS K mg W (tb W) mb) (hh : ∀ a cls d m C, cls = .ref C → d = none → mg m = some (.ref C) → SndH K mg i a (ts a cls d) (mh m)) : SndS K mg Wout (fun D σ H => tb (wAs K c i ts Wout D) D σ H) (mTryAs mb dec i mh) := by
  intro G0 H0 σ G H ρ D I q
  refine hb _ G0 H0 σ G H ρ D I ?_
  unfold mTryAs at q
  cases eo : mb ρ with
  | nx ρ' =>
    rw [eo] at q
    exact q
  | rt r =>
    rw [eo] at q
    exact q
  | bk ρ' =>
    rw [eo] at q
    exact q
  | ct ρ' =>
    rw [eo] at q
    exact q
  | no =>
    rw [eo] at q
    exact q
  | ex m fs ρ' =>
    rw [eo] at q
    have q : OutR K mg Wout G0 H0 G D (match dec m with
      | some true => if fs.isEmpty = true ∧ i < ρ'.length then offX i (mh m (ρ'.set i none)) else .no
      | some false => .ex m fs ρ'
      | none => .no) := q
    intro σ' G' H' C d I' s' hC hx
    cases ed : dec m with
    | none =>
      rw [ed] at q
      exact q.elim
    | some b =>
      refine ⟨b, hd m b C ed hC, fun eb a ha => ?_, fun eb => ?_⟩
      · subst eb
        rw [ed] at q
        have q : OutR K mg Wout G0 H0 G D (if fs.isEmpty = true ∧ i < ρ'.length then offX i (mh m (ρ'.set i none)) else .no) := q
        split at q
        · rename_i hc
          have hdn : d = none := by
            rcases hx with ⟨_, h⟩ | ⟨dd, fv, _, hne, _⟩
            · exact h
            · exact (hne (List.isEmpty_iff.mp hc.1)).elim
          refine hh a (.ref C) d m C rfl hdn hC G0 H0 _ G' H' (ρ'.set i none) _ (I'.drop i (some (.ref a))) (by rw [List.getElem?_set_self (by rw [I'.len]; exact hc.2)]) ?_
          have q := OutR.up s' q
          cases eh : mh m (ρ'.set i none) with
          | nx ρ2 =>
            rw [eh] at q
            exact fun σ2 G2 H2 I2 s2 => q (σ2.set i none) G2 H2 (I2.drop i none) s2
          | rt r =>
            rw [eh] at q
            exact q
          | bk ρ2 =>
            rw [eh] at q
            exact fun σ2 G2 H2 I2 s2 => q (σ2.set i none) G2 H2 (I2.drop i none) s2
          | ct ρ2 =>
            rw [eh] at q
            exact fun σ2 G2 H2 I2 s2 => q (σ2.set i none) G2 H2 (I2.drop i none) s2
          | no =>
            rw [eh] at q
            exact q
          | ex m2 fs2 ρ2 =>
            rw [eh] at q
            exact q.elim
        · exact q.elim
      · subst eb
        rw [ed] at q
        exact q σ' G' H' C d I' s' hC hx
section
variable {X : Cx} {Wout : WX} {x n : Str} {c : Value} {i : Nat} {body suite : List Stmt} {b₀ : Stmt} {np pos pos' : Pos} {tb : WX → TS} {mb : Rho → Out} {ts : Addr → Value → Option Addr → TS} {mh : Str → Rho → Out} {dec : Str → Option Bool}
theorem pms_tryAs (hs : X.stack = X.env :: X.outer) (hf : X.env.frame = some X.env.locals) (hN : X.N.Nodup) (hi : X.N[i]? = some n) (hln : X.env.kindOf n = some .local) (gc : X.mg x = some c) (tk : Takes X Wout) (hd : Decs X.K X.mg c dec)
    (hb : ∀ (W : WX) (pn : List (Addr × Obj)) (xe : Value → Shared → Prop), Takes (X.tr pn xe) W → PMSs (X.tr pn xe) W body (tb W) mb)
    (hh : ∀ (a : Addr) (oe : Obj) (cls : Value) (d : Option Addr) (pn : List (Addr × Obj)), CallR (X.suite a ((a, oe) :: pn)) (.builtin "isinstance") (rIsX X.K a cls d) → PHS (X.suite a ((a, oe) :: pn)) i a cls d (b₀ :: suite) (ts a cls d) mh) (gl : Gl X x := by rfl) (db : (x == ("__debug__" : Str)) = false := by decide) :
    PMS X Wout (.Try body [.ExceptHandler (some (.Name x np)) (some n) (b₀ :: suite) pos'] [] [] pos) (fun D σ H => tb (wAs X.K c i ts Wout D) D σ H) (mTryAs mb dec i mh) := by
  refine ⟨ps_try_as hs hf hN hi hln ⟨gl, db, .inl gc⟩ tk (fun W pn xe t _ => (hb W pn xe t).p) (fun a oe cls d pn hz hf => (hh a oe cls d pn (call_isX hz hf)).p), snd_tryAs hd (fun W => ?_) fun a cls d m C h1 h2 h3 => ?_⟩
  · exact (hb W [] (fun u s' => XE (X.tr [] fun _ _ => False) W u s') fun u s' ⟨a, B, sI, pins, σ, H, cls, d, e, J, rest⟩ => ⟨a, B, sI, pins, σ, H, cls, d, e, J.wish (fun _ _ => False), rest⟩).s
  · exact (hh a { cls := cls, dict := d, data := .fields #[] } cls d [] (call_isX ⟨rfl, rfl⟩ ⟨_, rfl⟩)).s m C h1 h2 h3
end
theorem pmg_tupK {X : Cx} {K : PySem.W.Frag} {es : List Expr} {gs : TGs} {bs : List D → Rho → Option Rho} {n : Nat} {ts : List Nat} {k : Nat} {pos : Pos} (hk : X.K = K) (hc : X.calm = true) (h : PMGs X es gs bs n ts) (hn : (assignEach es X.env).length = n := by rfl) (hst : (assignEach es X.env).findIdx? (·.1) = none := by rfl) : PMG X (.Tuple es k pos) (gTup K n gs) (bTup bs) ts := by
  subst hk
  exact pmg_tup hc h hn hst
/-! ### isinstance(x, T), T a built-in type -/
def tyB (T : String) : Val → Option Bool
  | .ow _ => kitB "list" T
  | .bw _ => kitB "list" T
  | .sh .none => kitB "NoneType" T
  | .sh (.bool _) => kitB "bool" T
  | .sh (.int _) => kitB "int" T
  | .sh (.str _) => kitB "str" T
  | _ => none
def mIsT (T : String) (me : Rho → Res Val) : Rho → Res Val := fun ρ => (me ρ).bind fun a => lift ((tyB T a).map fun b => .sh (.bool b))
theorem tyB_ok {K : PySem.W.Frag} {B G H : Hp} {v : V} {a : Val} {T : String} {b : Bool} (h : VR K B G H v a) (e : tyB T a = some b) : ∃ t, TyX K H v t ∧ PySem.W.kitOne K t (.type T) = some b := by
  unfold tyB at e
  split at e
  · obtain ⟨p, vs, rfl, hp, _⟩ := h
    exact ⟨_, .base (.lst hp), kit_ty e⟩
  · obtain ⟨p, vs, rfl, hp, _⟩ := h
    exact ⟨_, .base (.lst hp), kit_ty e⟩
  · cases h.non_
    exact ⟨_, .base .non, kit_ty e⟩
  · cases h.bool_
    exact ⟨_, .base (.bl _), kit_ty e⟩
  · cases h.int_
    exact ⟨_, .base (.int _), kit_ty e⟩
  · cases h.str_
    exact ⟨_, .base (.str _), kit_ty e⟩
  · cases e
theorem snd_isT {K : PySem.W.Frag} {mg : Str → Option Value} {W : WX} {te : TE} {me : Rho → Res Val} {T : String} (hs : Snd K mg W te me) : Snd K mg W (tCB (rIsi K) (tCons te (tCons (tC (.ty T)) tNil))) (mIsT T me) := by
  intro G0 H0 σ G H ρ Q I h
  refine hs G0 H0 σ G H ρ _ I (RR.bnd (Ext.refl I.s) h fun a G1 H1 x ea e1 r1 h1 => ?_)
  obtain ⟨c, ec, q⟩ := h1.lift
  cases eb : tyB T a with
  | none =>
    rw [eb] at ec
    cases ec
  | some b =>
    rw [eb] at ec
    cases ec
    obtain ⟨t, ty, ek⟩ := tyB_ok r1 eb
    exact ⟨x, .ty T, t, .type T, b, rfl, .ty T, ty, ek, q G1 H1 _ e1 (Rp.bl b)⟩
theorem pm_isT {X : Cx} {W : WX} {e : Expr} {te : TE} {me : Rho → Res Val} {x : Str} {T : String} {p p2 pos : Pos} (hm : X.mg "isinstance" = none) (hT : X.mg x = none) (hv : bootBuiltins x = some (.type T)) (h : PM X W e te me) (gx : Gl X x := by rfl) (hn : x ≠ "__name__" := by decide) (dx : (x == ("__debug__" : Str)) = false := by decide) (hg : Gl X "isinstance" := by rfl)
    (he : starEach (e :: [.Name x p2]) X.env = (false, eval e X.env) :: starEach [.Name x p2] X.env := by rfl) (hs2 : starEach (.Name x p2 :: []) X.env = (false, eval (.Name x p2) X.env) :: starEach [] X.env := by rfl) (hpl : (backTo pos (starEach [.Name x p2] X.env)).any (·.1) = false := by rfl) :
    PM X W (.Call (.Name "isinstance" p) [e, .Name x p2] [] pos) (tCB (rIsi X.K) (tCons te (tCons (tC (.ty T)) tNil))) (mIsT T me) :=
  ⟨pe_callB call_isi hg hm rfl (pa_cons h.p (pa_cons (pe_bltn gx hT hv rfl hn dx) pa_nil hs2) he) (by decide) (by decide) he hpl, snd_isT h.s⟩
end Mi

namespace Mi
open PySem PySem.Spec PyProof.Rows L2

/-! ### texts: signs one by one, slices -/
def signs (z : Str) : List D := z.cps.toList.map fun c => .str ⟨#[c]⟩
theorem its_str {K : PySem.W.Frag} {Ga Ha : Hp} {x : Str} : ItS K Ga Ha (Its x) (signs x) := by
  refine ⟨fun i G H e1 e2 hi => ?_, fun i G H e1 e2 hi => ?_, fun i G H v H' e1 e2 hi y => ?_⟩
  · unfold signs at hi
    have hi : i < x.cps.size := by simpa using hi
    exact hi
  · unfold signs at hi
    have hi : x.cps.size ≤ i := by simpa using hi
    exact hi
  · obtain ⟨rfl, c, hc, rfl⟩ := y
    refine ⟨.str ⟨#[c]⟩, G, ?_, Ext.refl e2, .str _⟩
    unfold signs
    rw [List.getElem?_map, Array.getElem?_toList, hc]
    rfl
def mIterX (me : Rho → Res Val) : Rho → Res (List D) := fun ρ => (me ρ).bind fun a => lift (match a with
  | .sh (.str z) => some (signs z)
  | a => fix a)
def iOr (a b : TI) : TI := fun σ H R => a σ H R ∨ b σ H R
theorem pi_or {X : Cx} {tg e : Expr} {a b : TI} (h : PI X tg e a) (h' : PI X tg e b) : PI X tg e (iOr a b) := ⟨fun pins s σ H R I q => q.elim (h.run pins s σ H R I) (h'.run pins s σ H R I)⟩
theorem sndi_x {K : PySem.W.Frag} {mg : Str → Option Value} {W : WX} {te : TE} {me : Rho → Res Val} (h : Snd K mg W te me) : SndI K mg W (iOr (iList K te) (iStr te)) (mIterX me) := by
  intro G0 H0 σ G H ρ R I q
  by_cases z : ∃ x, me ρ = .ok (.sh (.str x))
  · obtain ⟨x, ex⟩ := z
    refine .inr (h G0 H0 σ G H ρ _ I (RR.bnd (Ext.refl I.s) q fun a G1 H1 v ea e1 r1 h1 => ?_))
    rw [ex] at ea
    cases ea
    obtain ⟨xs, exs, q1⟩ := h1.lift
    cases exs
    exact ⟨x, r1.str_, q1 G1 H1 _ e1 its_str⟩
  · refine .inl (sndi_list h G0 H0 σ G H ρ R I ?_)
    have e : mIterX me ρ = mIterL me ρ := by
      unfold mIterX mIterL
      cases em : me ρ with
      | ok a =>
        show lift _ = lift _
        congr 1
        split
        · rename_i x
          exact (z ⟨x, em⟩).elim
        · rfl
      | ex n fs => rfl
      | no => rfl
    rw [← e]
    exact q
theorem pmi_x {X : Cx} {W : WX} {tg e : Expr} {te : TE} {me : Rho → Res Val} (h : PM X W e te me) : PMI X W tg e (iOr (iList X.K te) (iStr te)) (mIterX me) := ⟨pi_or (pi_list h.p) (pi_str h.p), sndi_x h.s⟩
def rSlX (K : PySem.W.Frag) : V → Option Int → Option Int → Hp → VK → Prop := fun x lo hi H Q => rSlL K x lo hi H Q ∨ rSlS x lo hi H Q
def mSlX (ma : Rho → Res Val) (ml mh : Rho → Res (Option Int)) : Rho → Res Val := fun ρ => (ma ρ).bind fun a => (ml ρ).bind fun l => (mh ρ).bind fun u => lift (match a with
  | .sh (.str z) => if z.length ≤ 100000 then some (.sh (.str (cutS z l u))) else none
  | a => match lit a with
    | some xs => some (.ow (cutD xs l u))
    | none => none)
theorem snd_slX {K : PySem.W.Frag} {mg : Str → Option Value} {W : WX} {ta : TE} {ma : Rho → Res Val} {tl th : TO} {ml mh : Rho → Res (Option Int)} (ha : Snd K mg W ta ma) (hl : SndO K mg W tl ml) (hh : SndO K mg W th mh) : Snd K mg W (tSl (rSlX K) ta tl th) (mSlX ma ml mh) := by
  intro G0 H0 σ G H ρ Q I h
  refine ha G0 H0 σ G H ρ _ I (RR.bnd (Ext.refl I.s) h fun a G1 H1 x ea e1 r1 h1 => ?_)
  refine hl G0 H0 σ G1 H1 ρ _ (I.ext' e1) (RR.bnd e1 h1 fun l G2 H2 y eb e2 r2 h2 => ?_)
  cases (show y = l from r2)
  have e02 := e1.trans e2
  refine hh G0 H0 σ G2 H2 ρ _ (I.ext' e02) (RR.bnd e02 h2 fun u G3 H3 z ez e3 r3 h3 => ?_)
  cases (show z = u from r3)
  obtain ⟨c, ec, q⟩ := h3.lift
  split at ec
  · split at ec
    · rename_i zz hz
      cases ec
      exact .inr ⟨zz, r1.str_, sz_le hz, q G3 H3 _ (e02.trans e3) (.str _)⟩
    · cases ec
  · split at ec
    · rename_i xs e4
      cases ec
      obtain ⟨p, vs, rfl, hp, k⟩ := ((r1.ext e2).ext e3).list e3.s e4
      have e03 := e02.trans e3
      refine .inl ⟨p, vs, rfl, hp, fun t ht => q G3 _ _ (e03.trans (Ext.newO e3.s ht)) ⟨t, _, rfl, upd_same, e3.s.free ht, e03.h.free ht, ?_⟩⟩
      unfold cutV cutD
      rw [k.length]
      exact (k.drop _).take _
    · cases ec
theorem pm_sliceXK {X : Cx} {K : PySem.W.Frag} {W : WX} {a : Expr} {ta : TE} {ma : Rho → Res Val} {lo hi : Option Expr} {tl th : TO} {ml mh : Rho → Res (Option Int)} {pos p2 : Pos} (ha : PM X W a ta ma) (hl : PMO X W lo tl ml) (hh : PMO X W hi th mh) (h : X.K = K := by rfl) : PM X W (.Subscript a (.Slice lo hi none p2) pos) (tSl (rSlX K) ta tl th) (mSlX ma ml mh) := by
  subst h
  exact ⟨pe_slice (sl_list.or sl_str) ha.p hl.p hh.p, snd_slX ha.s hl.s hh.s⟩

/-! ### split, join, int of a text -/
def strsOf : List D → Option (List Str)
  | [] => some []
  | d :: ds => match d, strsOf ds with
    | .str b, some bs => some (b :: bs)
    | _, _ => none
theorem strsOf_rp {K : PySem.W.Frag} {G : Hp} : ∀ {ds : List D} {vs : List V} {bs : List Str}, RpA K G vs ds → strsOf ds = some bs → vs = bs.map V.str
  | [], _, _, .nil, e => by
    cases e
    rfl
  | d :: ds, _, bs, .cons h a, e => by
    unfold strsOf at e
    split at e
    · rename_i b bs' eb
      cases e
      cases h
      rw [strsOf_rp a eb]
      rfl
    · cases e
theorem rp_strs {K : PySem.W.Frag} {G : Hp} : ∀ ys : List Str, RpA K G (ys.map V.str) (ys.map PyData.str)
  | [] => .nil
  | _ :: ys => .cons (.str _) (rp_strs ys)
def mM1 (mm : Val → Val → Option Val) (mo me : Rho → Res Val) : Rho → Res Val := fun ρ => (mo ρ).bind fun o => match o with
  | .sh (.str _) => (me ρ).bind fun a => lift (mm o a)
  | _ => .no
/-- a method of a text with one argument -/
def M1S (K : PySem.W.Frag) (r : V → List V → Hp → VK → Prop) (mm : Val → Val → Option Val) : Prop :=
  ∀ (B G H : Hp) (x y : V) (o a : Val) (c : Val) (Q : VK), Same G H → VR K B G H x o → VR K B G H y a → mm o a = some c → (∀ G' H' v, Ext G H G' H' → VR K H G' H' v c → Q v H') → r x [y] H Q
theorem snd_m1 {K : PySem.W.Frag} {mg : Str → Option Value} {W : WX} {to te : TE} {mo me : Rho → Res Val} {r : V → List V → Hp → VK → Prop} {mm : Val → Val → Option Val} (hs : M1S K r mm) (ho : Snd K mg W to mo) (he : Snd K mg W te me) : Snd K mg W (tM1 r to te) (mM1 mm mo me) := by
  intro G0 H0 σ G H ρ Q I h
  refine ho G0 H0 σ G H ρ _ I (RR.bnd (Ext.refl I.s) h fun o G1 H1 x eo e1 r1 h1 => ?_)
  split at h1
  · rename_i z
    refine ⟨⟨z, r1.str_⟩, ?_⟩
    refine he G0 H0 σ G1 H1 ρ _ (I.ext' e1) (RR.bnd e1 h1 fun a G2 H2 y ea e2 r2 h2 => ?_)
    obtain ⟨c, ec, q⟩ := h2.lift
    exact hs H1 G2 H2 x y (.sh (.str z)) a c Q e2.s (show Rp K G2 x (.str z) from r1.ext e2) r2 ec fun G' H' v e zz => q G' H' v ((e1.trans e2).trans e) (zz.back (e1.trans e2).h)
  · exact h1.elim
def oSplit : Val → Val → Option Val
  | .sh (.str a), .sh (.str b) => if (b.length == 0) = false ∧ a.length ≤ 99000 then some (.ow ((Txt.split a b).map .str)) else none
  | _, _ => none
def oJoin : Val → Val → Option Val
  | .sh (.str a), r => match lit r with
    | some xs => match strsOf xs with
      | some ys => if (ys.map (·.length)).sum + ys.length * a.length ≤ 100000 then some (.sh (.str (Txt.join a ys))) else none
      | none => none
    | none => none
  | _, _ => none
theorem m1_split {K : PySem.W.Frag} : M1S K (fun x xs H Q => ∃ a b, x = .str a ∧ xs = [.str b] ∧ (b.length == 0) = false ∧ a.length + 2 ≤ sizeLine ∧ rNewStrs (Txt.split a b) H Q) oSplit := by
  intro B G H x y o a c Q s ho ha e q
  unfold oSplit at e
  split at e
  · split at e
    · rename_i a b hc
      cases e
      refine ⟨a, b, ho.str_, by rw [ha.str_], hc.1, Nat.le_trans (by omega : a.length + 2 ≤ 100000) (by decide), fun p hp => q G _ _ (Ext.newO s hp) ⟨p, _, rfl, upd_same, s.free hp, hp, rp_strs _⟩⟩
    · cases e
  · cases e
theorem m1_join {K : PySem.W.Frag} : M1S K (fun x xs H Q => ∃ a p, ∃ ys : List Str, x = .str a ∧ xs = [.ref p] ∧ (SqL K H p (ys.map V.str) ∨ SqT K H p (ys.map V.str)) ∧ (ys.map (·.length)).sum + ys.length * a.length ≤ 16777216 ∧ Q (.str (Txt.join a ys)) H) oJoin := by
  intro B G H x y o r c Q s ho ha e q
  unfold oJoin at e
  split at e
  · rename_i a
    split at e
    · rename_i xs e1
      split at e
      · rename_i ys e2
        split at e
        · rename_i hz
          cases e
          obtain ⟨p, vs, rfl, hp, k⟩ := ha.list s e1
          have ev := strsOf_rp k e2
          subst ev
          exact ⟨a, p, ys, ho.str_, rfl, .inl hp, by omega, q G H _ (Ext.refl s) (Rp.str _)⟩
        · cases e
      · cases e
    · cases e
  · cases e
section
variable {X : Cx} {W : WX} {o e : Expr} {to te : TE} {mo me : Rho → Res Val} {apos pos : Pos}
theorem pm_splitK (ho : PM X W o to mo) (he : PM X W e te me) (hs : starEach [e] X.env = [(false, eval e X.env)] := by rfl) (hbase : attributeBase o "split" X.env (eval o X.env) = eval o X.env := by rfl) (hline : (apos.endLine == pos.line) = true := by rfl) :
    PM X W (.Call (.Attribute o "split" apos) [e] [] pos) (tM1 (fun x xs H Q => ∃ a b, x = .str a ∧ xs = [.str b] ∧ (b.length == 0) = false ∧ a.length + 2 ≤ sizeLine ∧ rNewStrs (Txt.split a b) H Q) to te) (mM1 oSplit mo me) :=
  ⟨pe_split ho.p he.p hs hbase hline, snd_m1 m1_split ho.s he.s⟩
theorem pm_joinK {K : PySem.W.Frag} (ho : PM X W o to mo) (he : PM X W e te me) (hk : X.K = K := by rfl) (hs : starEach [e] X.env = [(false, eval e X.env)] := by rfl) (hbase : attributeBase o "join" X.env (eval o X.env) = eval o X.env := by rfl) (hline : (apos.endLine == pos.line) = true := by rfl) :
    PM X W (.Call (.Attribute o "join" apos) [e] [] pos) (tM1 (fun x xs H Q => ∃ a p, ∃ ys : List Str, x = .str a ∧ xs = [.ref p] ∧ (SqL K H p (ys.map V.str) ∨ SqT K H p (ys.map V.str)) ∧ (ys.map (·.length)).sum + ys.length * a.length ≤ 16777216 ∧ Q (.str (Txt.join a ys)) H) to te) (mM1 oJoin mo me) := by
  subst hk
  exact ⟨pe_join ho.p he.p hs hbase hline, snd_m1 m1_join ho.s he.s⟩
end
def cIntS : List Val → Option Val
  | [.sh (.str a)] => if a.length ≤ 640 then (PySem.intText? a).map fun n => .sh (.int n) else none
  | _ => none
theorem cs_intS {K : PySem.W.Frag} : CallS K (fun xs H Q => ∃ a n, xs = [.str a] ∧ PySem.intText? a = some n ∧ a.length ≤ 640 ∧ Q (.int n) H) cIntS := by
  intro B G H vs as c Q s h e q
  unfold cIntS at e
  split at e
  · split at e
    · rename_i a hl
      obtain ⟨v, rfl, h1⟩ := vrs1 h
      cases en : PySem.intText? a with
      | none =>
        rw [en] at e
        cases e
      | some n =>
        rw [en] at e
        cases e
        exact ⟨a, n, by rw [h1.str_], en, hl, q G H _ (Ext.refl s) (Rp.int _)⟩
    · cases e
  · cases e
def rOr (r r' : List V → Hp → VK → Prop) : List V → Hp → VK → Prop := fun xs H Q => r xs H Q ∨ r' xs H Q
theorem cr_or {X : Cx} {f : Value} {r r' : List V → Hp → VK → Prop} (h : CallR X f r) (h' : CallR X f r') : CallR X f (rOr r r') := by
  intro pins s σ H xs us Q I k q
  rcases q with q | q
  · exact h pins s σ H xs us Q I k q
  · exact h' pins s σ H xs us Q I k q
def cOr (m m' : List Val → Option Val) : List Val → Option Val := fun a => match m a with
  | some c => some c
  | none => m' a
theorem cs_or {K : PySem.W.Frag} {r r' : List V → Hp → VK → Prop} {m m' : List Val → Option Val} (h : CallS K r m) (h' : CallS K r' m') : CallS K (rOr r r') (cOr m m') := by
  intro B G H vs as c Q s ha e q
  unfold cOr at e
  cases e1 : m as with
  | some c1 =>
    rw [e1] at e
    cases e
    exact .inl (h B G H vs as c Q s ha e1 q)
  | none =>
    rw [e1] at e
    exact .inr (h' B G H vs as c Q s ha e q)
end Mi

namespace Mi
open PySem PySem.Spec PyProof.Rows L2

/-! ### dicts: a comprehension with keys that differ, get with a default -/
inductive FlatA : List (Key × V) → List (Key × D) → Prop
  | nil : FlatA [] []
  | cons {k : Key} {v : V} {d : D} {kvs : List (Key × V)} {ds : List (Key × D)} : FlatV v d → FlatA kvs ds → FlatA ((k, v) :: kvs) ((k, d) :: ds)
def dictD (acc : List (Key × D)) : D := .dict (acc.map fun p => (keyD p.1, p.2))
theorem FlatA.kv {kvs : List (Key × V)} {ds : List (Key × D)} (h : FlatA kvs ds) : FlatKV kvs (ds.map fun p => (keyD p.1, p.2)) := by
  induction h with
  | nil => exact .nil
  | cons f _ ih => exact .cons f ih
theorem FlatA.len {kvs : List (Key × V)} {ds : List (Key × D)} (h : FlatA kvs ds) : kvs.length = ds.length := by
  induction h with
  | nil => rfl
  | cons _ _ ih => exact congrArg (· + 1) ih
theorem FlatA.has {kvs : List (Key × V)} {ds : List (Key × D)} (k : Key) (h : FlatA kvs ds) : (kvs.any fun p => decide (p.1 = k)) = ds.any fun p => decide (p.1 = k) := by
  induction h with
  | nil => rfl
  | cons _ _ ih => rw [List.any_cons, List.any_cons, ih]
theorem FlatA.push {kvs : List (Key × V)} {ds : List (Key × D)} {k : Key} {v : V} {d : D} (h : FlatA kvs ds) (f : FlatV v d) : FlatA (kvs ++ [(k, v)]) (ds ++ [(k, d)]) := by
  induction h with
  | nil => exact .cons f .nil
  | cons g _ ih => exact .cons g ih
def keyOf : Val → Option Key
  | .sh (.int i) => some (.inl i)
  | .sh (.str x) => some (.inr x)
  | _ => none
def flatOf : Val → Option D
  | .sh d => if flatD d = true then some d else none
  | _ => none
theorem keyOf_ok {K : PySem.W.Frag} {B G H : Hp} {v : V} {a : Val} {k : Key} (h : VR K B G H v a) (e : keyOf a = some k) : v = kV k := by
  unfold keyOf at e
  split at e
  · cases e
    exact h.int_
  · cases e
    exact h.str_
  · cases e
theorem flatOf_ok {K : PySem.W.Frag} {B G H : Hp} {v : V} {a : Val} {d : D} (h : VR K B G H v a) (e : flatOf a = some d) : FlatV v d := by
  unfold flatOf at e
  split at e
  · split at e
    · rename_i f
      cases e
      cases (show Rp K G v _ from h) with
      | non => exact .non
      | bl b => exact .bl b
      | int i => exact .int i
      | str x => exact .str x
      | lst _ _ => cases f
      | tup _ _ => cases f
      | dct _ _ => cases f
    · cases e
  · cases e
def dcomp (bp : BP) (mt : Rho → Res Bool) (mk mv : Rho → Res Val) (ρ : Rho) : List D → List (Key × D) → Res (List (Key × D))
  | [], acc => .ok acc
  | d :: ds, acc => match bp d ρ with
    | none => .no
    | some ρ1 => match mt ρ1 with
      | .ok b => if b = true then match mk ρ1 with
          | .ok rk => match keyOf rk with
            | some k => match mv ρ1 with
              | .ok rv => match flatOf rv with
                | some x => if acc.length < 100000 ∧ (acc.any fun p => decide (p.1 = k)) = false then dcomp bp mt mk mv ρ ds (acc ++ [(k, x)]) else .no
                | none => .no
              | _ => .no
            | none => .no
          | _ => .no
        else dcomp bp mt mk mv ρ ds acc
      | _ => .no
def mDc (mi : Rho → Res (List D)) (bp : BP) (mt : Rho → Res Bool) (mk mv : Rho → Res Val) (vs : List Nat) : Rho → Res Val := fun ρ => (mi ρ).bind fun xs => match dcomp bp mt mk mv (wipeR ρ vs) xs [] with
  | .ok ys => .ok (.sh (dictD ys))
  | _ => .no
theorem snd_dc {K : PySem.W.Frag} {mg : Str → Option Value} {W : WX} {wi : TI} {mi : Rho → Res (List D)} {g : TG} {bp : BP} {ts : List Nat} {tt : TT} {mt : Rho → Res Bool} {tk tv : TE} {mk mv : Rho → Res Val} {vs : List Nat} (hi : SndI K mg W wi mi) (hg : SndG K g bp ts) (hts : ∀ t ∈ ts, t ∈ vs)
    (ht : SndT K mg W0 tt mt) (hk : Snd K mg W0 tk mk) (hv : Snd K mg W0 tv mv) : Snd K mg W (tDc wi g tt tk tv vs) (mDc mi bp mt mk mv vs) := by
  intro G0 H0 σ G H ρ Q I q
  refine hi G0 H0 σ G H ρ _ I (RR.bnd (Ext.refl I.s) q fun xs G1 H1 J ex e1 hJ q1 => ?_)
  have hJ : ItS K G1 H1 J xs := hJ
  intro Dl nD
  have hD : H Dl = none := e1.h.free nD
  have gD : G1 Dl = none := e1.s.free nD
  have I1 := (I.ext' e1).wipe vs
  split at q1
  · rename_i ys ey
    refine ⟨fun i m H2 => ∃ G2 acc av, Ext G1 H1 G2 H2 ∧ G2 Dl = none ∧ H2 Dl = some (.dK av) ∧ FlatA av acc ∧ i ≤ xs.length ∧ m = xs.length - i ∧ dcomp bp mt mk mv (wipeR ρ vs) (xs.drop i) acc = .ok ys,
      ⟨xs.length, G1, [], [], Ext.newO e1.s nD, gD, upd_same, .nil, Nat.zero_le _, rfl, ey⟩, ?_⟩
    rintro i m H2 ⟨G2, acc, av, e2, g2, h2, ka, hi2, rfl, ec⟩
    by_cases hlt : i < xs.length
    · refine .inr ⟨hJ.go i G2 H2 e2.g e2.s hlt, fun H' => ∃ G2 acc av, Ext G1 H1 G2 H' ∧ G2 Dl = none ∧ H' Dl = some (.dK av) ∧ FlatA av acc ∧ dcomp bp mt mk mv (wipeR ρ vs) (xs.drop (i + 1)) acc = .ok ys,
        fun H' ⟨G3, acc3, av3, z1, z2, z3, z4, z5⟩ => ⟨xs.length - (i + 1), by omega, G3, acc3, av3, z1, z2, z3, z4, hlt, rfl, z5⟩, fun x H' y => ?_⟩
      obtain ⟨d, G3, ed, e3, rd⟩ := hJ.yld i G2 H2 x H' e2.g e2.s hlt y
      have hd : xs.drop i = d :: xs.drop (i + 1) := by
        rw [List.drop_eq_getElem_cons hlt]
        congr 1
        rw [List.getElem?_eq_getElem hlt] at ed
        exact Option.some.inj ed
      rw [hd] at ec
      unfold dcomp at ec
      split at ec
      · cases ec
      · rename_i ρ4 eb
        have e13 := e2.trans e3
        refine hg G0 H0 _ G3 H' (wipeR ρ vs) x d ρ4 _ (I1.ext' e13) rd eb fun σ4 I4 oa => ⟨?_, ?_⟩
        · exact (oa vs hts).trans (onlyAt_wipe vs σ vs fun t q => q)
        · split at ec
          · rename_i b et
            refine ht G0 H0 σ4 G3 H' ρ4 _ I4 ?_
            rw [et]
            intro G4 H4 b' e4 eb'
            cases (show b' = b from eb')
            cases b with
            | false =>
              have ne34 := e3.trans e4
              refine iteF ⟨G4, acc, av, e13.trans e4, ?_, ne34.h _ _ h2, ka, ec⟩
              exact ne34.n Dl (by rw [h2]; exact Option.some_ne_none _) g2
            | true =>
              refine iteT (hk G0 H0 σ4 G4 H4 ρ4 _ (I4.ext' e4) ?_)
              have ec : (match mk ρ4 with
                | .ok rk => match keyOf rk with
                  | some k => match mv ρ4 with
                    | .ok rv => match flatOf rv with
                      | some x => if acc.length < 100000 ∧ (acc.any fun p => decide (p.1 = k)) = false then dcomp bp mt mk mv (wipeR ρ vs) (xs.drop (i + 1)) (acc ++ [(k, x)]) else .no
                      | none => .no
                    | _ => .no
                  | none => .no
                | _ => .no) = .ok ys := ec
              split at ec
              · rename_i rk erk
                rw [erk]
                split at ec
                · rename_i k ek
                  split at ec
                  · rename_i rv erv
                    split at ec
                    · rename_i x' ex'
                      split at ec
                      · rename_i hl
                        intro G5 H5 y5 e5 r5
                        refine hv G0 H0 σ4 G5 H5 ρ4 _ ((I4.ext' e4).ext' e5) ?_
                        rw [erv]
                        intro G6 H6 v6 e6 r6
                        have e26 := ((e3.trans e4).trans e5).trans e6
                        have g6 : G6 Dl = none := e26.n Dl (by rw [h2]; exact Option.some_ne_none _) g2
                        have hp : putK av k v6 = av ++ [(k, v6)] := by
                          unfold putK
                          rw [if_neg]
                          rw [ka.has k, hl.2]
                          exact Bool.false_ne_true
                        refine ⟨av, k, keyOf_ok r5 ek, e26.h _ _ h2, by rw [ka.len]; exact sz_lt hl.1, G6, acc ++ [(k, x')], av ++ [(k, v6)], ((e2.trans e26).mutN nD g6), g6, by rw [hp]; exact upd_same, ka.push (flatOf_ok r6 ex'), ec⟩
                      · cases ec
                    · cases ec
                  · cases ec
                · cases ec
              · cases ec
          · cases ec
    · have e : i = xs.length := by omega
      subst e
      rw [List.drop_length] at ec
      have ec : Res.ok acc = Res.ok ys := ec
      cases ec
      exact .inl ⟨hJ.stop _ G2 H2 e2.g e2.s (Nat.le_refl _), q1 _ H2 _ ((e1.trans e2).frz h2 hD g2) (show Rp K _ (.ref Dl) (dictD _) from .dct upd_same ka.kv)⟩
  · exact q1.elim
theorem pm_dc {X : Cx} {W : WX} {kx vx tg iter : Expr} {ifs : List Expr} {scope : Scope} {own : List (Str × Nat)} {pos : Pos} {wi : TI} {mi : Rho → Res (List D)} {g : TG} {bp : BP} {ts : List Nat} {tt : TT} {mt : Rho → Res Bool} {tk tv : TE} {mk mv : Rho → Res Val} (hc : X.calm = true) (hN : X.N.Nodup) (hi : PMI X W tg iter wi mi) (ok : BlkOk X.N X.env.scope scope own) (hts : ∀ t ∈ ts, t ∈ own.map (·.2))
    (hg : ∀ (s : Shared) (H : Hp) (C : Addr) (cl : List (Str × Addr)) (fp : List Addr), PMG (X.blk s H scope (compEnvC scope cl C X.env) fp) tg g bp ts)
    (ht : ∀ (s : Shared) (H : Hp) (C : Addr) (cl : List (Str × Addr)) (fp : List Addr), PMTs (X.blk s H scope (compEnvC scope cl C X.env) fp) W0 ifs tt mt)
    (hk : ∀ (s : Shared) (H : Hp) (C : Addr) (cl : List (Str × Addr)) (fp : List Addr), PM (X.blk s H scope (compEnvC scope cl C X.env) fp) W0 kx tk mk)
    (hv : ∀ (s : Shared) (H : Hp) (C : Addr) (cl : List (Str × Addr)) (fp : List Addr), PM (X.blk s H scope (compEnvC scope cl C X.env) fp) W0 vx tv mv) (hs : ∀ x, foldedSetIterable iter X.env x = pure x := by intro _; rfl) :
    PM X W (.DictComp kx vx [⟨tg, iter, ifs, 0⟩] scope pos) (tDc wi g tt tk tv (own.map (·.2))) (mDc mi bp mt mk mv (own.map (·.2))) := by
  have h1 := hg X.s_0 X.H_0 0 [] []
  have h2 := ht X.s_0 X.H_0 0 [] []
  have h3 := hk X.s_0 X.H_0 0 [] []
  have h4 := hv X.s_0 X.H_0 0 [] []
  exact ⟨pe_dc hc hN hi.p ok (fun s H C cl fp => (hg s H C cl fp).p) (fun s H C cl fp => (ht s H C cl fp).p) (fun s H C cl fp => (hk s H C cl fp).p) (fun s H C cl fp => (hv s H C cl fp).p) hs, snd_dc hi.s h1.s hts h2.s h3.s h4.s⟩
def keyB : Key → D → Bool
  | .inl i, .int j => decide (j = i)
  | .inr x, .str y => decide (y = x)
  | _, _ => false
theorem keyB_is (k k' : Key) : keyB k (keyD k') = decide (k' = k) := by
  cases k <;> cases k' <;> simp [keyB, keyD]
def getD2 (ds : List (D × D)) (k : Key) : Option D := (ds.find? fun p => keyB k p.1).map (·.2)
theorem get_ok {kvs : List (Key × V)} {ds : List (D × D)} (k : Key) (h : FlatKV kvs ds) : (getD2 ds k = none ∧ valV kvs k = none) ∨ ∃ d v, getD2 ds k = some d ∧ valV kvs k = some v ∧ FlatV v d := by
  induction h with
  | nil => exact .inl ⟨rfl, rfl⟩
  | @cons k' v d kvs ds f _ ih =>
    unfold getD2 valV at ih ⊢
    rw [List.find?_cons, List.find?_cons, keyB_is]
    cases e : decide (k' = k) with
    | true => exact .inr ⟨d, v, rfl, rfl, f⟩
    | false => exact ih
def mGet2 (mo mk md : Rho → Res Val) : Rho → Res Val := fun ρ => (mo ρ).bind fun o => match o with
  | .sh (.dict ds) => (mk ρ).bind fun rk => (md ρ).bind fun rd => lift (match keyOf rk with
    | some k => match getD2 ds k with
      | some d => some (.sh d)
      | none => match rd with
        | .sh x => some (.sh x)
        | _ => none
    | none => none)
  | _ => .no
theorem FlatV.rp {K : PySem.W.Frag} {G : Hp} {v : V} {d : D} (h : FlatV v d) : Rp K G v d := by
  cases h with
  | non => exact .non
  | bl b => exact .bl b
  | int i => exact .int i
  | str x => exact .str x
theorem snd_get2 {K : PySem.W.Frag} {mg : Str → Option Value} {W : WX} {to tk td : TE} {mo mk md : Rho → Res Val} (ho : Snd K mg W to mo) (hk : Snd K mg W tk mk) (hd : Snd K mg W td md) : Snd K mg W (tDGet2 to tk td) (mGet2 mo mk md) := by
  intro G0 H0 σ G H ρ Q I h
  refine ho G0 H0 σ G H ρ _ I (RR.bnd (Ext.refl I.s) h fun o G1 H1 x eo e1 r1 h1 => ?_)
  split at h1
  · rename_i ds
    cases (show Rp K G1 x (.dict ds) from r1) with
    | @dct a kvs _ ha kf =>
      refine ⟨a, rfl, .inl ⟨kvs, .inl (e1.s _ _ ha)⟩, ?_⟩
      refine hk G0 H0 σ G1 H1 ρ _ (I.ext' e1) (RR.bnd e1 h1 fun rk G2 H2 y ek e2 r2 h2 => ?_)
      refine hd G0 H0 σ G2 H2 ρ _ (I.ext' (e1.trans e2)) (RR.bnd (e1.trans e2) h2 fun rd G3 H3 z ez e3 r3 h3 => ?_)
      obtain ⟨c, ec, q⟩ := h3.lift
      have e13 := (e1.trans e2).trans e3
      split at ec
      · rename_i k ek2
        have hk3 : H3 a = some (.dK kvs) := e3.s _ _ (e3.g _ _ (e2.g _ _ ha))
        refine ⟨_, by rw [keyOf_ok r2 ek2]; exact DGet.k hk3, ?_⟩
        rcases get_ok k kf with ⟨n1, n2⟩ | ⟨d, v, s1, s2, f⟩
        · rw [n1] at ec
          rw [n2]
          cases rd with
          | sh x =>
            cases ec
            exact q G3 H3 _ e13 (show Rp K G3 z x from r3)
          | ow _ => cases ec
          | bw _ => cases ec
          | fz _ => cases ec
        · rw [s1] at ec
          rw [s2]
          cases ec
          exact q G3 H3 _ e13 (show Rp K G3 v d from f.rp)
      · cases ec
  · exact h1.elim
theorem pm_get2 {X : Cx} {W : WX} {o e f : Expr} {to tk td : TE} {mo mk md : Rho → Res Val} {apos cpos : Pos} (hu : X.A.units + 64 < cLine) (ho : PM X W o to mo) (hk : PM X W e tk mk) (hd : PM X W f td md) (m : M2 X o "get" apos e f cpos := by exact ⟨rfl, rfl, rfl, rfl⟩) : PM X W (.Call (.Attribute o "get" apos) [e, f] [] cpos) (tDGet2 to tk td) (mGet2 mo mk md) :=
  ⟨pe_dget2 (by omega) ho.p hk.p hd.p m, snd_get2 ho.s hk.s hd.s⟩
theorem phe_isB {X : Cx} {i : Nat} {a : Addr} {cls : Value} {d : Option Addr} {mt : Str → Option Bool} {pos : Pos} {K : PySem.W.Frag} {x y : Str} {p p1 p2 : Pos} {T : String} (hk : X.K = K) (hc : CallR X (.builtin "isinstance") (rIsX K a cls d)) (hy : X.mg y = none) (hb : bootBuiltins y = some (.type T)) (hd' : IsD K X.mg (.type T) mt) (hm : X.mg "isinstance" = none) (hN : X.N[i]? = some x := by rfl)
    (hv : Vis X.env.scope x := by first | exact Or.inl rfl | exact Or.inr (Or.inl rfl) | exact Or.inr (Or.inr rfl)) (hd : (x == ("__debug__" : Str)) = false := by decide) (hcd : (x == ("__classdict__" : Str)) = false := by decide)
    (gy : Gl X y := by rfl) (ny : y ≠ "__name__" := by decide) (dy : (y == ("__debug__" : Str)) = false := by decide) (hg : Gl X "isinstance" := by rfl)
    (he : starEach (.Name x p1 :: [.Name y p2]) X.env = (false, eval (.Name x p1) X.env) :: starEach [.Name y p2] X.env := by rfl) (hs2 : starEach (.Name y p2 :: []) X.env = (false, eval (.Name y p2) X.env) :: starEach [] X.env := by rfl) (hpl : (backTo pos (starEach [.Name y p2] X.env)).any (·.1) = false := by rfl) :
    PHE X i a cls d (.Call (.Name "isinstance" p) [.Name x p1, .Name y p2] [] pos) (tCB (rIsX K a cls d) (tCons (tVar i) (tCons (tC (.ty T)) tNil))) mt := by
  subst hk
  exact ⟨pe_callB hc hg hm rfl (pa_cons (pe_var hN hv hd hcd) (pa_cons (pe_bltn gy hy hb rfl ny dy) pa_nil hs2) he) (by decide) (by decide) he hpl, fun m C b hC hn hmC hb' σ H Q hσ q => by
    obtain ⟨EC, ek⟩ := hd' m b C hb' hmC
    exact ⟨_, hσ, C, hC, hn, EC, .ty T, .type T, b, rfl, fun _ z => z, ek, q⟩⟩
end Mi

namespace Mi
open PySem PySem.Spec PyProof.Rows L2

/-! ### the order of data -/
def rCmpD (K : PySem.W.Frag) (f : D → D → Bool) : R2 := fun x y H Q => ∃ d e, Dp K H x d ∧ Dp K H y e ∧ PySem.W.alike d e = true ∧ d ≠ .none ∧ d.depth ≤ 60 ∧ Q (.bl (f d e)) H
section
variable {X : Cx}
theorem room_min {u a b : Nat} (hu : u + 64 < cLine) (h : a ≤ 60) : u + min a b < cLine := by
  have : min a b ≤ a := Nat.min_le_left a b
  omega
theorem op_ltD (hu : X.A.units + 64 < cLine) : OpR X (compareOp .Lt) (rCmpD X.K fun d e => PySem.W.dataLt d e) := by
  intro pins s σ H x y v u Q I rx ry h
  obtain ⟨d, e, hd, he, al, nn, dp, q⟩ := h
  obtain ⟨as, r1⟩ := Dp.reads I d x v hd rx
  obtain ⟨bs, r2⟩ := Dp.reads I e y u he ry
  exact PySem.W.lt_data r1 r2 al nn (room_min hu dp) ⟨.bl _, H, I, rfl, q⟩
theorem op_gtD (hu : X.A.units + 64 < cLine) : OpR X (compareOp .Gt) (rCmpD X.K fun d e => PySem.W.dataLt e d) := by
  intro pins s σ H x y v u Q I rx ry h
  obtain ⟨d, e, hd, he, al, nn, dp, q⟩ := h
  obtain ⟨as, r1⟩ := Dp.reads I d x v hd rx
  obtain ⟨bs, r2⟩ := Dp.reads I e y u he ry
  exact PySem.W.gt_data r1 r2 al nn (room_min hu dp) ⟨.bl _, H, I, rfl, q⟩
theorem op_leD (hu : X.A.units + 64 < cLine) : OpR X (compareOp .LtE) (rCmpD X.K fun d e => !PySem.W.dataLt e d) := by
  intro pins s σ H x y v u Q I rx ry h
  obtain ⟨d, e, hd, he, al, nn, dp, q⟩ := h
  obtain ⟨as, r1⟩ := Dp.reads I d x v hd rx
  obtain ⟨bs, r2⟩ := Dp.reads I e y u he ry
  exact PySem.W.le_data r1 r2 al nn (room_min hu dp) ⟨.bl _, H, I, rfl, q⟩
theorem op_geD (hu : X.A.units + 64 < cLine) : OpR X (compareOp .GtE) (rCmpD X.K fun d e => !PySem.W.dataLt d e) := by
  intro pins s σ H x y v u Q I rx ry h
  obtain ⟨d, e, hd, he, al, nn, dp, q⟩ := h
  obtain ⟨as, r1⟩ := Dp.reads I d x v hd rx
  obtain ⟨bs, r2⟩ := Dp.reads I e y u he ry
  exact PySem.W.ge_data r1 r2 al nn (room_min hu dp) ⟨.bl _, H, I, rfl, q⟩
theorem op_ltDK {K : PySem.W.Frag} (hu : X.A.units + 64 < cLine) (h : X.K = K := by rfl) : OpR X (compareOp .Lt) (rCmpD K fun d e => PySem.W.dataLt d e) := h ▸ op_ltD hu
theorem op_gtDK {K : PySem.W.Frag} (hu : X.A.units + 64 < cLine) (h : X.K = K := by rfl) : OpR X (compareOp .Gt) (rCmpD K fun d e => PySem.W.dataLt e d) := h ▸ op_gtD hu
theorem op_leDK {K : PySem.W.Frag} (hu : X.A.units + 64 < cLine) (h : X.K = K := by rfl) : OpR X (compareOp .LtE) (rCmpD K fun d e => !PySem.W.dataLt e d) := h ▸ op_leD hu
theorem op_geDK {K : PySem.W.Frag} (hu : X.A.units + 64 < cLine) (h : X.K = K := by rfl) : OpR X (compareOp .GtE) (rCmpD K fun d e => !PySem.W.dataLt d e) := h ▸ op_geD hu
end
def oCmpD (f : D → D → Bool) : Val → Val → Option Val := fun a b => match dat a, dat b with
  | some d, some e => if (PySem.W.alike d e && !d.hasDict && !e.hasDict && decide (d.depth ≤ 60) && !isNone (.sh d)) = true then some (.sh (.bool (f d e))) else none
  | _, _ => none
theorem os_cmpD {K : PySem.W.Frag} {f : D → D → Bool} : OpS K (rCmpD K f) (oCmpD f) := by
  intro B G H x y a b c Q s ha hb e q
  unfold oCmpD at e
  split at e
  · split at e
    · rename_i d d' e1 e2 hl
      cases e
      simp only [Bool.and_eq_true, Bool.not_eq_true', decide_eq_true_eq] at hl
      refine ⟨d, d', ha.dp s e1 hl.1.1.1.2, hb.dp s e2 hl.1.1.2, hl.1.1.1.1, ?_, hl.1.2, q G H _ (Ext.refl s) (.bl _)⟩
      rintro rfl
      cases hl.2
    · cases e
  · cases e
def oLtD := oOr oLt (oCmpD fun d e => PySem.W.dataLt d e)
def oGtD := oOr oGt (oCmpD fun d e => PySem.W.dataLt e d)
def oLeD := oOr oLe (oCmpD fun d e => !PySem.W.dataLt e d)
def oGeD := oOr oGe (oCmpD fun d e => !PySem.W.dataLt d e)

/-! ### products and quotients: the bounds so written that the kernel stops at once at an open number -/
def oMulN : Val → Val → Option Val
  | .sh (.int i), .sh (.int j) => if (Nat.blt i.natAbs 18446744073709551616 || Nat.blt j.natAbs 18446744073709551616) = true then some (.sh (.int (i * j))) else none
  | _, _ => none
def oDivN : Val → Val → Option Val
  | .sh (.int i), .sh (.int j) => if (Nat.blt 0 j.toNat && Nat.blt j.toNat 1073741824) = true then some (.sh (.int (i / j))) else none
  | _, _ => none
theorem blt_lt {a b : Nat} (h : Nat.blt a b = true) : a < b := by
  unfold Nat.blt at h
  exact Nat.le_of_ble_eq_true h
theorem big64 {i : Int} (h : Nat.blt i.natAbs 18446744073709551616 = true) : -(2 ^ 64) < i ∧ i < 2 ^ 64 := by
  have h := blt_lt h
  have e : (2 : Int) ^ 64 = 18446744073709551616 := by decide
  rw [e]
  omega
theorem os_mulN {K : PySem.W.Frag} : OpS K (rI CMul fun i j => .int (i * j)) oMulN := by
  intro B G H x y a b c Q s ha hb e q
  unfold oMulN at e
  split at e
  · split at e
    · rename_i i j h
      cases e
      rw [Bool.or_eq_true] at h
      exact ⟨i, j, ha.int_, hb.int_, h.elim (fun h => .inl (big64 h)) (fun h => .inr (big64 h)), q G H _ (Ext.refl s) (.int _)⟩
    · cases e
  · cases e
theorem os_divN {K : PySem.W.Frag} : OpS K (rI CDiv fun i j => .int (i / j)) oDivN := by
  intro B G H x y a b c Q s ha hb e q
  unfold oDivN at e
  split at e
  · split at e
    · rename_i i j h
      cases e
      rw [Bool.and_eq_true] at h
      have h1 := blt_lt h.1
      have h2 := blt_lt h.2
      exact ⟨i, j, ha.int_, hb.int_, (show 0 < j ∧ j < 1073741824 from ⟨by omega, by omega⟩), q G H _ (Ext.refl s) (.int _)⟩
    · cases e
  · cases e
def oMul2 := oOr oMulN oRep
/-! ### tuples: t + u, t[i:j], tuple(xs) -/
def tupOf : Val → Option (List D)
  | .sh (.tuple xs) => some xs
  | _ => none
theorem tupOf_inv {a : Val} {xs : List D} (e : tupOf a = some xs) : a = .sh (.tuple xs) := by
  unfold tupOf at e
  split at e
  · cases e; rfl
  · cases e
def oCatT : Val → Val → Option Val := fun a b => match tupOf a, tupOf b with
  | some xs, some ys => if xs.length + ys.length ≤ 100000 then some (.sh (.tuple (xs ++ ys))) else none
  | _, _ => none
theorem rpa_nil_iff {K : PySem.W.Frag} {G : Hp} {vs : List V} {xs : List D} (k : RpA K G vs xs) : vs = [] ↔ xs = [] := by
  cases k with
  | nil => exact ⟨fun _ => rfl, fun _ => rfl⟩
  | cons a b => exact ⟨fun h => (nomatch h), fun h => (nomatch h)⟩
theorem os_catT {K : PySem.W.Frag} : OpS K (rCatA K) oCatT := by
  intro B G H x y a b c Q s ha hb e q
  unfold oCatT at e
  split at e
  · split at e
    · rename_i xs ys e1 e2 hl
      rw [tupOf_inv e1] at ha
      rw [tupOf_inv e2] at hb
      obtain ⟨p, vs, rfl, hp, ka⟩ := ha.tup s
      obtain ⟨p', us, rfl, hp', kb⟩ := hb.tup s
      cases e
      refine ⟨p, p', vs, us, rfl, rfl, hp, hp', ?_, fun h0 => ?_, fun h1 h0 => ?_, fun h1 h2 t ht => ?_⟩
      · rw [ka.length, kb.length]
        exact sz_le hl
      · have z : xs = [] := (rpa_nil_iff ka).mp h0
        subst z
        exact q G H _ (Ext.refl s) hb
      · have z : ys = [] := (rpa_nil_iff kb).mp h0
        subst z
        rw [List.append_nil] at q
        exact q G H _ (Ext.refl s) ha
      · exact q _ _ _ (Ext.newS s ht) (Rp.tup (.inl (.inl upd_same)) ((ka.append kb).mono (same_new (s.free ht))))
    · cases e
  · cases e
theorem op_catAK {X : Cx} {K : PySem.W.Frag} (h : X.K = K := by rfl) : OpR X (binaryOp .Add) (rCatA K) := h ▸ op_catA
def oAddT := oOr oAddI (oOr oCatT (oOr oStrCat oCat))
def cTuple : List Val → Option Val
  | [.sh (.tuple xs)] => some (.sh (.tuple xs))
  | [a] => match lit a with
    | some xs => some (.sh (.tuple xs))
    | none => none
  | _ => none
theorem cs_tuple {K : PySem.W.Frag} : CallS K (fun xs H Q => ∃ p ys, xs = [.ref p] ∧ ((SqL K H p ys ∧ ∀ l, H l = none → Q (.ref l) (upd H l (.tup ys))) ∨ (SqT K H p ys ∧ Q (.ref p) H))) cTuple := by
  intro B G H vs as c Q s h e q
  unfold cTuple at e
  split at e
  · cases e
    obtain ⟨v, rfl, h1⟩ := vrs1 h
    obtain ⟨p, us, rfl, hp, k⟩ := h1.tup s
    exact ⟨p, us, rfl, .inr ⟨hp, q G H _ (Ext.refl s) h1⟩⟩
  · split at e
    · rename_i xs e2
      cases e
      obtain ⟨v, rfl, h1⟩ := vrs1 h
      obtain ⟨p, us, rfl, hp, k⟩ := h1.list s e2
      exact ⟨p, us, rfl, .inl ⟨hp, fun l hl => q _ _ _ (Ext.newS s hl) (Rp.tup (.inl (.inl upd_same)) (k.mono (same_new (s.free hl))))⟩⟩
    · cases e
  · cases e
theorem call_tupleK {X : Cx} {K : PySem.W.Frag} (h : X.K = K := by rfl) : CallR X (.type "tuple") (fun xs H Q => ∃ p ys, xs = [.ref p] ∧ ((SqL K H p ys ∧ ∀ l, H l = none → Q (.ref l) (upd H l (.tup ys))) ∨ (SqT K H p ys ∧ Q (.ref p) H))) := h ▸ call_tuple_of
def cIntB : List Val → Option Val
  | [.sh (.int i)] => some (.sh (.int i))
  | [.sh (.bool b)] => some (.sh (.int (if b then 1 else 0)))
  | _ => none
theorem cs_intB {K : PySem.W.Frag} : CallS K (fun xs H Q => (∃ i, xs = [.int i] ∧ Q (.int i) H) ∨ ∃ k, xs = [.bl k] ∧ Q (.int (if k then 1 else 0)) H) cIntB := by
  intro B G H vs as c Q s h e q
  unfold cIntB at e
  split at e
  · cases e
    obtain ⟨v, rfl, h1⟩ := vrs1 h
    cases h1.int_
    exact .inl ⟨_, rfl, q G H _ (Ext.refl s) (Rp.int _)⟩
  · cases e
    obtain ⟨v, rfl, h1⟩ := vrs1 h
    cases h1.bool_
    exact .inr ⟨_, rfl, q G H _ (Ext.refl s) (Rp.int _)⟩
  · cases e
/-! slices of lists, tuples, texts -/
def rSlU (K : PySem.W.Frag) : V → Option Int → Option Int → Hp → VK → Prop := fun x lo hi H Q => (rSlL K x lo hi H Q ∨ rSlS x lo hi H Q) ∨ rSlA K x lo hi H Q
def mSlU (ma : Rho → Res Val) (ml mh : Rho → Res (Option Int)) : Rho → Res Val := fun ρ => (ma ρ).bind fun a => (ml ρ).bind fun l => (mh ρ).bind fun u => lift (match a with
  | .sh (.str z) => if z.length ≤ 100000 then some (.sh (.str (cutS z l u))) else none
  | .sh (.tuple xs) => some (.sh (.tuple (cutD xs l u)))
  | a => match lit a with
    | some xs => some (.ow (cutD xs l u))
    | none => none)
theorem cut_whole {α : Type} {xs : List α} {i j : Nat} (h0 : i = 0) (h1 : j = xs.length) : (xs.drop i).take (j - i) = xs := by
  subst h0
  subst h1
  rw [List.drop_zero, Nat.sub_zero, List.take_length]
theorem snd_slU {K : PySem.W.Frag} {mg : Str → Option Value} {W : WX} {ta : TE} {ma : Rho → Res Val} {tl th : TO} {ml mh : Rho → Res (Option Int)} (ha : Snd K mg W ta ma) (hl : SndO K mg W tl ml) (hh : SndO K mg W th mh) : Snd K mg W (tSl (rSlU K) ta tl th) (mSlU ma ml mh) := by
  intro G0 H0 σ G H ρ Q I h
  refine ha G0 H0 σ G H ρ _ I (RR.bnd (Ext.refl I.s) h fun a G1 H1 x ea e1 r1 h1 => ?_)
  refine hl G0 H0 σ G1 H1 ρ _ (I.ext' e1) (RR.bnd e1 h1 fun l G2 H2 y eb e2 r2 h2 => ?_)
  cases (show y = l from r2)
  have e02 := e1.trans e2
  refine hh G0 H0 σ G2 H2 ρ _ (I.ext' e02) (RR.bnd e02 h2 fun u G3 H3 z ez e3 r3 h3 => ?_)
  cases (show z = u from r3)
  obtain ⟨c, ec, q⟩ := h3.lift
  have e03 := e02.trans e3
  split at ec
  · split at ec
    · rename_i zz hz
      cases ec
      exact .inl (.inr ⟨zz, r1.str_, sz_le hz, q G3 H3 _ e03 (.str _)⟩)
    · cases ec
  · rename_i xs
    cases ec
    have r1' := (r1.ext e2).ext e3
    obtain ⟨p, vs, rfl, hp, k⟩ := r1'.tup e3.s
    refine .inr ⟨p, vs, rfl, hp, fun hw => ?_, fun hw t ht => ?_⟩
    · have e : cutD xs l u = xs := by
        unfold cutD
        rw [k.length] at hw
        exact cut_whole hw.1 hw.2
      rw [e] at q
      exact q G3 H3 _ e03 r1'
    · refine q _ _ _ (e03.trans (Ext.newS e3.s ht)) (Rp.tup (.inl (.inl upd_same)) ?_)
      refine RpA.mono (same_new (e3.s.free ht)) ?_
      unfold cutV cutD
      rw [k.length]
      exact (k.drop _).take _
  · split at ec
    · rename_i xs e4
      cases ec
      obtain ⟨p, vs, rfl, hp, k⟩ := ((r1.ext e2).ext e3).list e3.s e4
      refine .inl (.inl ⟨p, vs, rfl, hp, fun t ht => q G3 _ _ (e03.trans (Ext.newO e3.s ht)) ⟨t, _, rfl, upd_same, e3.s.free ht, e03.h.free ht, ?_⟩⟩)
      unfold cutV cutD
      rw [k.length]
      exact (k.drop _).take _
    · cases ec
theorem pm_sliceUK {X : Cx} {K : PySem.W.Frag} {W : WX} {a : Expr} {ta : TE} {ma : Rho → Res Val} {lo hi : Option Expr} {tl th : TO} {ml mh : Rho → Res (Option Int)} {pos p2 : Pos} (ha : PM X W a ta ma) (hl : PMO X W lo tl ml) (hh : PMO X W hi th mh) (h : X.K = K := by rfl) : PM X W (.Subscript a (.Slice lo hi none p2) pos) (tSl (rSlU K) ta tl th) (mSlU ma ml mh) := by
  subst h
  exact ⟨pe_slice ((sl_list.or sl_str).or sl_tupA) ha.p hl.p hh.p, snd_slU ha.s hl.s hh.s⟩

/-! ### what is walked: a list, a tuple, a text -/
def walkD : Val → Option (List D)
  | .sh (.str z) => some (signs z)
  | .sh (.tuple xs) => some xs
  | a => fix a
def mIterS (me : Rho → Res Val) : Rho → Res (List D) := fun ρ => (me ρ).bind fun a => lift (walkD a)
def iSeq (K : PySem.W.Frag) (te : TE) : TI := iOr (iOr (iList K te) (iStr te)) (iTup K te)
theorem sndi_s {K : PySem.W.Frag} {mg : Str → Option Value} {W : WX} {te : TE} {me : Rho → Res Val} (h : Snd K mg W te me) : SndI K mg W (iSeq K te) (mIterS me) := by
  intro G0 H0 σ G H ρ R I q
  by_cases z : ∃ xs, me ρ = .ok (.sh (.tuple xs))
  · obtain ⟨xs, ex⟩ := z
    refine .inr (sndi_tup h G0 H0 σ G H ρ R I ?_)
    have e : mIterT me ρ = mIterS me ρ := by
      unfold mIterT mIterS
      rw [ex]
      rfl
    rw [e]
    exact q
  · refine .inl (sndi_x h G0 H0 σ G H ρ R I ?_)
    have e : mIterX me ρ = mIterS me ρ := by
      unfold mIterX mIterS
      cases em : me ρ with
      | ok a =>
        show lift _ = lift _
        congr 1
        unfold walkD
        split
        · rfl
        · rename_i b nb
          split
          · rename_i z'
            exact (nb z' rfl).elim
          · rename_i xs
            exact (z ⟨xs, em⟩).elim
          · rfl
      | ex n fs => rfl
      | no => rfl
    rw [e]
    exact q
theorem pmi_s {X : Cx} {K : PySem.W.Frag} {W : WX} {tg e : Expr} {te : TE} {me : Rho → Res Val} (h : PM X W e te me) (hk : X.K = K := by rfl) : PMI X W tg e (iSeq K te) (mIterS me) := by
  subst hk
  exact ⟨pi_or (pi_or (pi_list h.p) (pi_str h.p)) (pi_tup h.p), sndi_s h.s⟩

/-! ### targets that are tuples; two names at once; x += e -/
def mAsg (bp : BP) (me : Rho → Res Val) : Rho → Out := fun ρ => sRes (me ρ) ρ fun r => match r with
  | .sh d => match bp d ρ with
    | some ρ' => .nx ρ'
    | none => .no
  | _ => .no
theorem snd_asg {K : PySem.W.Frag} {mg : Str → Option Value} {W : WX} {te : TE} {me : Rho → Res Val} {g : TG} {bp : BP} {ts : List Nat} (h : Snd K mg W te me) (hg : SndG K g bp ts) : SndS K mg W (tAsg te g) (mAsg bp me) := by
  intro G0 H0 σ G H ρ D I q
  refine h G0 H0 σ G H ρ _ I (RR.out I q fun r G1 H1 v er e1 r1 q1 => ?_)
  split at q1
  · rename_i d
    split at q1
    · rename_i ρ' eb
      exact hg G0 H0 σ G1 H1 ρ v d ρ' _ (I.ext' e1) r1 eb fun σ' I' _ => q1 σ' G1 H1 I' (Same.refl _)
    · exact q1.elim
  · exact q1.elim
theorem pms_asg {X : Cx} {W : WX} {tg e : Expr} {te : TE} {me : Rho → Res Val} {g : TG} {bp : BP} {ts : List Nat} {pos : Pos} (h : PM X W e te me) (hg : PMG X tg g bp ts) (hs : swapsWithSole [tg] e pos.line X.env = pure false := by rfl) (hw : swappedStores [tg] e X.env = pure none := by rfl)
    (h1 : (assignEach [tg] X.env).map (·.2) = [assign tg X.env] := by rfl) : PMS X W (.Assign [tg] e pos) (tAsg te g) (mAsg bp me) := ⟨ps_asg h.p hg.p hs hw h1, snd_asg h.s hg.s⟩
theorem SlotR.toVR {K : PySem.W.Frag} {H0 G H : Hp} {v : V} {r : Val} (h : SlotR K H0 G H v r) : VR K H0 G H v r := by
  cases r with
  | sh d => exact h
  | ow xs => exact h
  | bw xs => exact h.elim
  | fz xs => exact h
def mPar (i j : Nat) (ma mb : Rho → Res Val) : Rho → Out := fun ρ => sRes (ma ρ) ρ fun a => sRes (mb ρ) ρ fun b => match esc a, esc b with
  | some d, some e => .nx ((ρ.set i (some (.sh d))).set j (some (.sh e)))
  | _, _ => .no
theorem snd_par {K : PySem.W.Frag} {mg : Str → Option Value} {W : WX} {ta tb : TE} {ma mb : Rho → Res Val} {i j : Nat} (ha : Snd K mg W ta ma) (hb : Snd K mg W tb mb) : SndS K mg W (tPar i j (tCons ta (tCons tb tNil))) (mPar i j ma mb) := by
  intro G0 H0 σ G H ρ D I q
  refine ha G0 H0 σ G H ρ _ I (RR.out I q fun a G1 H1 x ea e1 r1 q1 => ?_)
  have I1 := I.ext' e1
  refine hb G0 H0 σ G1 H1 ρ _ I1 (RR.out I1 q1 fun b G2 H2 y eb e2 r2 q2 => ?_)
  split at q2
  · rename_i d e ed ee
    obtain ⟨G3, x3, s3, k3⟩ := esc_one (e1.trans e2) (r1.ext e2).vw ed
    have e23 : Ext G1 H1 G2 H2 := e2
    obtain ⟨G4, x4, s4, k4⟩ := esc_one x3 ((r2.back e1.h).vw.up s3) ee
    have I4 := I.ext' x4
    refine ⟨x, y, rfl, ?_⟩
    have J := (I4.put (i := i) (r := .sh d) (Ext.refl I4.s) (Rp.mono s4 k3) rfl).put (i := j) (r := .sh e) (Ext.refl I4.s) k4 rfl
    exact q2 _ G4 H2 J (s3.trans s4)
  · exact q2.elim
theorem pms_par {X : Cx} {W : WX} (i j : Nat) {x y : Str} {a b : Expr} {ta tb : TE} {ma mb : Rho → Res Val} {px py pt pos : Pos} {kt k2 : Nat} {pt2 : Pos} (hc : X.calm = true) (hN : X.N.Nodup) (hij : i ≠ j) (ha : PM X W a ta ma) (hb : PM X W b tb mb) (hi : X.N[i]? = some x := by rfl) (hj : X.N[j]? = some y := by rfl)
    (hx : X.env.scope.names.lookup x = some .local := by rfl) (hy : X.env.scope.names.lookup y = some .local := by rfl)
    (hw : swappedStores [.Tuple [.Name x px, .Name y py] kt pt] (.Tuple [a, b] k2 pt2) X.env = pure (some [x, y]) := by rfl)
    (hs : swapsWithSole [.Tuple [.Name x px, .Name y py] kt pt] (.Tuple [a, b] k2 pt2) pos.line X.env = pure false := by rfl)
    (h1 : starEach [a, b] X.env = (false, eval a X.env) :: starEach [b] X.env := by rfl) (h2 : starEach [b] X.env = (false, eval b X.env) :: starEach [] X.env := by rfl) :
    PMS X W (.Assign [.Tuple [.Name x px, .Name y py] kt pt] (.Tuple [a, b] k2 pt2) pos) (tPar i j (tCons ta (tCons tb tNil))) (mPar i j ma mb) :=
  ⟨ps_par hc hN hi hj hij hx hy (pa_cons ha.p (pa_cons hb.p pa_nil h2) h1) hw hs, snd_par ha.s hb.s⟩
theorem snd_aug {K : PySem.W.Frag} {mg : Str → Option Value} {W : WX} {te : TE} {me : Rho → Res Val} {i : Nat} {r : R2} {mo : Val → Val → Option Val} (ho : OpS K r mo) (h : Snd K mg W te me) : SndS K mg W (tAug i te r) (mAug i mo me) := by
  intro G0 H0 σ G H ρ D I q
  unfold mAug at q
  split at q
  · rename_i a ea
    obtain ⟨v, hv, hs⟩ := I.slot i a ea
    refine ⟨v, hv, ?_⟩
    refine h G0 H0 σ G H ρ _ I (RR.out I q fun b G1 H1 y eb e1 r1 q1 => ?_)
    split at q1
    · rename_i c ec
      cases em : mo (look a) b with
      | none =>
        rw [em] at ec
        cases ec
      | some c' =>
        rw [em] at ec
        have ec : store c' = some c := ec
        have va : VR K H G1 H1 v (look a) := by
          have z := (hs.ext e1)
          cases a with
          | sh d => exact z
          | ow xs =>
            obtain ⟨p, vs, a, b, c, d, k⟩ := z
            exact ⟨p, vs, a, b, k⟩
          | bw xs => exact z.elim
          | fz xs => exact z
        refine ho H G1 H1 v y (look a) b c' _ e1.s va r1 em fun G2 H2 z e2 r2 => ?_
        have rz : VR K H G2 H2 z c' := r2.back e1.h
        exact OutR.up e2.g q1 _ G2 H2 (I.put (e1.trans e2) rz ec) (Same.refl _)
    · exact q1.elim
  · exact q.elim
theorem pms_aug {X : Cx} {W : WX} (i : Nat) {x : Str} {e : Expr} {te : TE} {me : Rho → Res Val} {op : Operator} {r : R2} {mo : Val → Val → Option Val} {pos pos' : Pos} (hN : X.N.Nodup) (ho : PIp X op r) (hs : OpS X.K r mo) (h : PM X W e te me) (hi : X.N[i]? = some x := by rfl) (hx : Loc X.env.scope x := by first | exact Or.inl rfl | exact Or.inr rfl)
    (hf : X.fn x = true ∨ X.env.scope.names.lookup x = some .local := by first | exact .inl rfl | exact .inr rfl | assumption) : PMS X W (.AugAssign (.Name x pos') op e pos) (tAug i te r) (mAug i mo me) := ⟨ps_aug hN hi hx h.p ho hf, snd_aug hs h.s⟩
theorem os_ipAdd {K : PySem.W.Frag} : OpS K (ipI fun i j => i + j) oAddI := ops_I0 (gv := fun i j => .int (i + j)) fun _ _ _ => .int _
theorem os_ipSub {K : PySem.W.Frag} : OpS K (ipI fun i j => i - j) oSub := ops_I0 (gv := fun i j => .int (i - j)) fun _ _ _ => .int _
end Mi

/-! Objects, by hand: methods, instances, properties where no repr is under way (FnG). -/
namespace Mi
open PySem PySem.Spec PyProof.Rows L2
section
variable {X : Cx} {W : WX} {k : Nat} {f C p g : Addr} {fd : FuncData} {ps : List Str} {sp : Sp} {x m : Str} {pp pos apos : Pos} {e o : Expr} {es : List Expr} {ta : TE} {t : TA}
/-- o.m(..): its promise at the object -/
def tMethS (C : Addr) (m : Str) (sp : Sp) (E : L2.St → XK) (ta : TE) (t : TA) : TE := fun σ H Q => ta σ H fun x H1 => ∃ a dx fs, x = .ref a ∧ H1 a = some (.ins C dx fs) ∧ fs.lookup m = none ∧ t σ H1 fun vs H2 => sp (x :: vs) H2 Q (E σ)
def tMakeS (C : Addr) (sp : Sp) (E : L2.St → XK) (t : TA) : TE := fun σ H Q => t σ H fun vs H1 => ∀ x dx, H1 x = none → H1 dx = none → dx ≠ x → sp (.ref x :: vs) (upd (upd H1 dx (.own x)) x (.ins C dx [])) (fun v H2 => v = .non ∧ Q (.ref x) H2) (E σ)
def tPropS (C : Addr) (sp : Sp) (E : L2.St → XK) (ta : TE) : TE := fun σ H Q => ta σ H fun x H1 => ∃ a dx fs, x = .ref a ∧ H1 a = some (.ins C dx fs) ∧ sp [.ref a] H1 Q (E σ)
theorem run_fnG {pins : List (Addr × Obj)} {σ : L2.St} {H : Hp} {s : Shared} {Q : VK} {us : List Value} {vs : List V} (F : FnG X.prog X.w X.K X.mg X.base k f fd ps sp) (gd : X.A.guards = some []) (hr : Room k X.A) (hb : Binds X.K fd ps []) (hx : ∀ σ, PassesAt (L2.CX X.prog X.w) X σ (WE W σ))
    (I : Inv X pins σ H s) (r : Vals vs us) (h : sp vs H Q (WE W σ)) : wpAny (model X.prog X.w) X.A (call (.ref f) us) (EP X pins σ Q) X.xe s := by
  have hl : us.length = ps.length := r.length.symm.trans (F.len _ _ _ _ h)
  have bb := hb s us I.kIn ((congrArg List.length (List.append_nil us)).trans hl)
  rw [List.append_nil] at bb
  refine wpAny_call (codeAny_mono (F.go X.A X.stack s H ⟨us, []⟩ us vs Q (WE W σ) gd hr I.env0 bb r h) fun o s2 hq => ?_)
  match o, hq with
  | .error err, hq => exact hx σ pins H s err s2 I hq
  | .ok (.ret u), hq => exact I.after hq
  | .ok .next, hq => exact hq.elim
  | .ok .brk, hq => exact hq.elim
  | .ok .cont, hq => exact hq.elim
theorem pe_methG {pl : Sem Bool} (he : PE X o ta) (c : Cls X.K C) (hm : Meth X.K C m f) (F : FnG X.prog X.w X.K X.mg X.base k f fd ps sp) (gd : X.A.guards = some []) (hr : Room k X.A) (hb : Binds X.K fd ps []) (hx : ∀ σ, PassesAt (L2.CX X.prog X.w) X σ (WE W σ)) (ha : PA X (e :: es) t)
    (hst : starEach (e :: es) X.env = (false, eval e X.env) :: starEach es X.env := by rfl) (hpl : (backTo pos (starEach es X.env)).any (·.1) = false := by rfl)
    (ht : eval (.Call (.Attribute o m apos) (e :: es) [] pos) X.env = (do
      let ov ← eval o X.env
      standAt apos.atName
      let (f, first) ← holding [ov] (getMethod ov m pl)
      callWith pos f first (backTo pos (starEach (e :: es) X.env)) (backToKw pos (keywordEach [] X.env))) := by rfl) :
    PE X (.Call (.Attribute o m apos) (e :: es) [] pos) (tMethS C m sp (WE W) ta t) := by
  refine ⟨fun pins s σ H Q I h => ?_⟩
  refine PySem.W.methodCall_KW (pl := pl) (thn (he.run pins s σ H _ I h) fun u s1 ⟨x, H1, I1, rx, a, dx, fs, ex, ea, l, q⟩ => ?_) ht
  subst ex
  obtain rfl : u = Value.ref a := rx
  refine getmeth_ok I1 ea c hm l ?_
  refine PySem.W.callWith_K (first := [.ref a]) (h₀ := X.base) I.ok.mod.kin hm.kp (thn (ha.run pos pins s1 σ H1 _ I1 q) fun us s2 ⟨vs, H2, I2, r, q2⟩ => ⟨I2.kIn, ?_⟩) hst hpl
  exact run_fnG (us := .ref a :: us) (vs := .ref a :: vs) F gd hr hb hx I2 (.cons rfl r) q2
theorem pe_meth0G {pl : Sem Bool} (he : PE X o ta) (c : Cls X.K C) (hm : Meth X.K C m f) (F : FnG X.prog X.w X.K X.mg X.base k f fd ps sp) (gd : X.A.guards = some []) (hr : Room k X.A) (hb : Binds X.K fd ps []) (hx : ∀ σ, PassesAt (L2.CX X.prog X.w) X σ (WE W σ))
    (ht : eval (.Call (.Attribute o m apos) [] [] pos) X.env = (do
      let ov ← eval o X.env
      standAt apos.atName
      let (f, first) ← holding [ov] (getMethod ov m pl)
      callWith pos f first (backTo pos (starEach [] X.env)) (backToKw pos (keywordEach [] X.env))) := by rfl) :
    PE X (.Call (.Attribute o m apos) [] [] pos) (tMethS C m sp (WE W) ta tNil) := by
  refine ⟨fun pins s σ H Q I h => ?_⟩
  refine PySem.W.methodCall_KW (pl := pl) (thn (he.run pins s σ H _ I h) fun u s1 ⟨x, H1, I1, rx, a, dx, fs, ex, ea, l, q⟩ => ?_) ht
  subst ex
  obtain rfl : u = Value.ref a := rx
  refine getmeth_ok I1 ea c hm l ?_
  exact PySem.W.callWith_K0 (first := [.ref a]) I1.kIn hm.kp (run_fnG (us := [.ref a]) (vs := [.ref a]) F gd hr hb hx I1 (.cons rfl .nil) q)
theorem guards_make {A : Around} {C : Addr} {us : List Value} {kw : List (Str × Value)} (gd : A.guards = some []) : (A.under (.builtin "type.__call__" ⟨.ref C :: us, kw⟩)).guards = some [] := gd
theorem guards_in1 {A : Around} (gd : A.guards = some []) : A.in1.guards = some [] := gd
theorem run_makeG {pins : List (Addr × Obj)} {σ : L2.St} {H : Hp} {s : Shared} {Q : VK} {us : List Value} {vs : List V} (M : Mk X.K C f) (F : FnG X.prog X.w X.K X.mg X.base k f fd ps sp) (gd : X.A.guards = some []) (hr : Room (k + 1) X.A) (hb : Binds X.K fd ps [])
    (hx : ∀ σ, PassesAt (L2.CX X.prog X.w) X σ (WE W σ)) (I : Inv X pins σ H s) (r : Vals vs us)
    (h : ∀ x dx, H x = none → H dx = none → dx ≠ x → sp (.ref x :: vs) (upd (upd H dx (.own x)) x (.ins C dx [])) (fun v H2 => v = .non ∧ Q (.ref x) H2) (WE W σ)) :
    wpAny (model X.prog X.w) X.A (call (.ref C) us) (EP X pins σ Q) X.xe s := by
  have hq := h (s.heap.objs.size + 1) s.heap.objs.size (I.hok.fresh (Nat.le_succ _)) (I.hok.fresh (Nat.le_refl _)) (Nat.ne_of_lt (Nat.lt_succ_self _))
  have I2 := Inv.made (C := C) I
  have r2 : Vals (V.ref (s.heap.objs.size + 1) :: vs) (Value.ref (s.heap.objs.size + 1) :: us) := .cons rfl r
  have hl : (Value.ref (s.heap.objs.size + 1) :: us).length = ps.length := by
    have e := r2.length
    rw [F.len _ _ _ _ hq] at e
    exact e.symm
  have bb := hb _ (Value.ref (s.heap.objs.size + 1) :: us) I2.kIn ((congrArg List.length (List.append_nil _)).trans hl)
  rw [List.append_nil] at bb
  refine wpAny_call (make_map (f := f) I.kIn M.makes M.init (beq_iff_eq.mp M.fn) (codeAny_mono (F.go _ X.stack _ _ ⟨Value.ref (s.heap.objs.size + 1) :: us, []⟩ (Value.ref (s.heap.objs.size + 1) :: us) _ _ (WE W σ) (guards_make gd) (hr.make C us [])
    (I2.env0.make C us []) bb r2 hq) fun r s' hq' => ?_))
  cases r with
  | error e => exact hx σ pins _ _ e s' I2 hq'
  | ok fl =>
    cases fl with
    | ret u =>
      obtain ⟨v, H', I3, rv, ev, q3⟩ := I2.after hq'
      subst ev
      exact ⟨rv, ⟨V.ref (s.heap.objs.size + 1), H', I3, rfl, q3⟩⟩
    | next => exact False.elim hq'
    | brk => exact False.elim hq'
    | cont => exact False.elim hq'
theorem pe_makeG (M : Mk X.K C f) (F : FnG X.prog X.w X.K X.mg X.base k f fd ps sp) (gd : X.A.guards = some []) (hr : Room (k + 1) X.A) (hm : X.mg x = some (.ref C)) (hb : Binds X.K fd ps []) (hx : ∀ σ, PassesAt (L2.CX X.prog X.w) X σ (WE W σ)) (ha : PA X (e :: es) t)
    (hg : Gl X x := by rfl) (hdb : (x == ("__debug__" : Str)) = false := by decide) (he : starEach (e :: es) X.env = (false, eval e X.env) :: starEach es X.env := by rfl) (hpl : (backTo pos (starEach es X.env)).any (·.1) = false := by rfl) :
    PE X (.Call (.Name x pp) (e :: es) [] pos) (tMakeS C sp (WE W) t) := by
  refine ⟨fun pins s σ H Q I h => ?_⟩
  refine wpAny_Call_Name_kw (ld_glob I hg hm ?_ hdb)
  refine PySem.W.callWith_K (h₀ := X.base) I.ok.mod.kin M.kp (thn (ha.run pos pins s σ H _ I h) fun us s1 ⟨vs, H1, I1, r, q⟩ => ⟨I1.kIn, ?_⟩) he hpl
  exact run_makeG M F gd hr hb hx I1 r q
theorem pe_propG (he : PE X e ta) (c : Cls X.K C) (hp : PropOf X.K C m p g) (F : FnG X.prog X.w X.K X.mg X.base k g fd ps sp) (gd : X.A.guards = some []) (hr : Room (k + 1) X.A) (hb : Binds X.K fd ps [])
    (hab : attributeBase e m X.env (eval e X.env) = eval e X.env := by rfl) : PE X (.Attribute e m pos) (tPropS C sp (fun _ _ _ _ => False) ta) := by
  refine ⟨fun pins s σ H Q I h => ?_⟩
  refine attr_of hab (thn (he.run pins s σ H _ I h) fun u s1 ⟨x, H1, I1, rx, a, dx, fs, ex, ea, q⟩ => ?_)
  subst ex
  obtain rfl : u = Value.ref a := rx
  obtain ⟨mA, O, _, _, _, _⟩ := ins_get I1.hok ea
  obtain ⟨od, J, _⟩ := O.look
  obtain ⟨rest, hrec⟩ := hp.rec_
  have I2 := I1.tok (s1.toks + 1)
  have hl : ([Value.ref a] : List Value).length = ps.length := by
    rw [← F.len _ _ _ _ q]
    rfl
  have hc : (PySem.W.clsIn X.K C).isSome = true := by
    obtain ⟨cd, hc, _⟩ := PySem.W.any_some c.hd
    rw [hc]
    rfl
  have bb := hb { s1 with toks := s1.toks + 1 } [.ref a] I2.kIn ((congrArg List.length (List.append_nil _)).trans hl)
  rw [List.append_nil] at bb
  refine PySem.W.get_bind I1.kIn J (PySem.W.plainGet_of (c.get m)).1 (PySem.W.findObj_data hc hp.at_ hp.get hp.tak) (PySem.W.plainGet_of (c.get m)).2 (wpAny_call (PySem.W.prop_get (s := { s1 with toks := s1.toks + 1 }) I1.kIn hrec ?_))
  refine codeAny_mono (F.go X.A.in1 X.stack { s1 with toks := s1.toks + 1 } H1 ⟨[.ref a], []⟩ [.ref a] [.ref a] Q (fun _ _ _ => False) (guards_in1 gd) hr.in1 I2.env0.in1 bb (.cons rfl .nil) q) fun r s' hq => ?_
  cases r with
  | error er =>
    obtain ⟨_, _, _, _, _, _, _, _, _, _, _, _, z⟩ := hq
    exact z.elim
  | ok fl =>
    cases fl with
    | ret u =>
      obtain ⟨v, H', I3, rv, q3⟩ := I2.after hq
      show wpAny _ _ (handedOut u) _ _ _
      rw [PySem.W.handedOut_of (handed_of rv)]
      exact wpAny_pure ⟨v, H', I3, rv, q3⟩
    | next => exact False.elim hq
    | brk => exact False.elim hq
    | cont => exact False.elim hq
end
/-- a def by its body and a promise of any form -/
theorem def_okS {P : Program} {w : World} {K : PySem.W.Frag} {mg : Str → Option Value} {base : Heap} {x qual : Str} {st : Stmt} {f : Addr} {fd : FuncData} {N ps : List Str} {k : Nat} {sp : Sp} (F : Fun K x qual st f fd) (S : FnScope N ps (defScope st)) (hsl : ∀ vs H Q E, sp vs H Q E → vs.length = ps.length)
    (hbody : ∀ (cdv : Value) (A : Around) (outer : List Env) (s : Shared) (H : Hp) (vs : List V) (Q : VK) (E : XK), A.guards = some [] → Room k (A.deeper (envOfC qual (defScope st) s.heap.objs.size f cdv)) → sp vs H Q E →
      ∃ ts, PSs (cxOf (L2.CX P w) P w K mg base N qual (defScope st) f cdv A outer s H E) (defBody st) ts ∧ ts { nx := fun _ H' => Q .non H', rt := Q } (start N vs) H) : FnG P w K mg base (k + 1) f fd ps sp := by
  obtain ⟨oc, od, kV, doc, pm, an, cdv, ct, osl, rfl, lk, hcd⟩ := F.ex
  refine ⟨hsl, fun A outer s H args us vs Q E gd hr e0 hb r hsp => ?_⟩
  have hl : vs.length = ps.length := hsl _ _ _ _ hsp
  have KX : K.In s.heap := e0.mod.kin.keeps fun b o z => (e0.bs b o z).1
  have lim : s.heap.NoLimit := e0.mod.nolimit.keeps fun b o z => (e0.bs b o z).1
  have names : ∀ y ∈ ps.zip us, (defScope st).names.lookup y.1 = some .local ∨ ((defScope st).names.lookup y.1 = some .cell ∧ ((cellsFrom (s.heap.objs.size + 1) (defScope st).names []).lookup y.1).isSome = true) := fun y hy =>
    (S.par y.1 (List.of_mem_zip (a := y.1) (b := y.2) hy).1).imp id fun z => ⟨z, PySem.W.cellsFrom_some _ _ _ (.inl z)⟩
  obtain ⟨ts, B, want⟩ := hbody cdv A outer s H vs Q E gd (hr.deeper _) hsp
  refine codeAny_call_function hr.depth (KX _ _ lk) rfl S.co S.gen rfl (PySem.W.codeRec_of KX hcd) (hb _ _ _ _ (wpAny_newFunctionEnv_cells S.kind names fun env he s1 ic => ?_))
  subst he
  refine ⟨lim.keeps ic.toInCall.keep, codeAny_func (wpAny_mono (B.run [] s1 (start N vs) H _ (inv_start (CX := L2.CX P w) (E := E) S hr.hd e0 hl r ic) want) (fun fl s' z => ?_) fun _ _ z => z)⟩
  match fl, z with
  | .ret u, ⟨v, σ', H', J, rv, q⟩ => exact ⟨v, H', J.os, J.bare, J.base, J.hok, rv, q⟩
  | .next, ⟨σ', H', J, q⟩ => exact ⟨V.non, H', J.os, J.bare, J.base, J.hok, rfl, q⟩
  | .brk, ⟨_, _, _, q⟩ => exact q.elim
  | .cont, ⟨_, _, _, q⟩ => exact q.elim
end Mi

/-! Mj2: enumerate(t, start=k) over a tuple. -/
namespace L2
open PySem PySem.Spec PyProof.Rows

section
variable {M : Model} {A : Around} {E : Value → Shared → Prop} {s : Shared}
theorem callWith_type_kwB {pos : Pos} {T : String} {first : List Value} {args : List (Bool × Sem Value)} {keywords : List (Option Str × Sem Value)} {Q : Value → Shared → Prop}
    (hplain : args.any (·.1) = false) (hkw : keywords.any (·.1.isNone) = false)
    (h : wpAny M A (evalArgs (.type T) true args keywords) (fun a s₁ => wpAny M A (call (.type T) (first ++ a.pos) a.kw) Q E s₁) E s) :
    wpAny M A (callWith pos (.type T) first args keywords) Q E s := by
  unfold callWith
  refine wpAny_bind (wpAny_holding (wpAny_mono h (fun a s₁ h₁ => wpAny_bind (wpAny_standAt ?_)) fun _ _ x => x))
  simp only [hplain, hkw, Bool.or_false]
  refine wpAny_bind (wpAny_pure ?_)
  exact wpAny_bind (wpAny_mono h₁ (fun r s₂ hr => wpAny_bind (wpAny_holding (wpAny_point (wpAny_pure hr)))) fun _ _ x => x)
theorem callWith_type1kw {env : Env} {pos : Pos} {T : String} {e : Expr} {k : Str} {ke : Expr} {kp : Pos} {Q : Value → Shared → Prop}
    (h : wpAny M A (spliced (backTo pos (starEach [e] env))) (fun vs s₁ => wpAny M A (eval ke env) (fun kv s₂ => wpAny M A (call (.type T) vs [(k, kv)]) Q E s₂) E s₁) E s)
    (he : backTo pos (starEach [e] env) = [(false, eval e env)]) :
    wpAny M A (callWith pos (.type T) [] (backTo pos (starEach [e] env)) (backToKw pos (keywordEach [⟨some k, ke, kp⟩] env))) Q E s := by
  refine callWith_type_kwB (by rw [he]; rfl) rfl ?_
  rw [he] at h ⊢
  refine evalArgs_kwB rfl (wpAny_mono h (fun vs s₁ h₁ => ?_) fun _ _ x => x)
  exact kws_cons (wpAny_mono h₁ (fun v s₂ h₂ => kws_nil h₂) fun _ _ x => x)
end

/-- the tuple at a, numbered from c -/
def Itek (K : PySem.W.Frag) (c : Int) (a : Addr) : It :=
  ⟨fun i H => ∃ (xs : List V) (x : V), SqT K H a xs ∧ xs[i]? = some x, fun i H v H' => ∃ T x, v = .ref T ∧ H T = none ∧ H' = upd H T (.tup [.int (c + (i : Nat)), x]) ∧ ∀ xs, SqT K H a xs → xs[i]? = some x, fun i H => ∃ xs : List V, SqT K H a xs ∧ xs.length ≤ i⟩
theorem turn_enumk {P : Program} {w : World} {K : PySem.W.Frag} {elts : List Expr} {kk : Nat} {tpos : Pos} (c : Int) (a e it : Addr) :
    Turn P w K (.Tuple elts kk tpos) (Itek K c a) [e, it] e (fun i h => (∃ old, IsEnum h e it (c + ((i : Nat) : Int)) old) ∧ h.IsTupleIter it a i ∧ e ≠ it ∧ a ≠ it ∧ e ≠ a) where
  mem := by simp
  obj := fun i h st b hb => by
    obtain ⟨⟨old, he⟩, ⟨o, ho, hc, hd⟩, _⟩ := st
    have e' : b = e ∨ b = it := by simpa using hb
    rcases e' with z | z
    · rw [z]; exact ⟨_, he, fun v q => nomatch q⟩
    · rw [z]; exact ⟨o, ho, fun v q => by rw [hd] at q; cases q⟩
  keep := fun i h h' st k => let ⟨⟨old, he⟩, hi, hne⟩ := st; ⟨⟨old, k e (by simp) _ he⟩, hi.at fun o q => k it (by simp) o q, hne⟩
  item := by
    intro X hP hw hK hc i pins s σ H E I hf st hg
    subst hP hw hK
    obtain ⟨⟨old, he⟩, hit, hne, hai, hea⟩ := st
    obtain ⟨xs, x, hq, hx⟩ := hg
    obtain ⟨its, rv, p, hz⟩ := I.tuple hq
    obtain ⟨u, hu, ru⟩ := rv.get hx
    have hel : e < s.heap.objs.size := Heap.lt_size he
    have hil : it < s.heap.objs.size := by obtain ⟨_, q, _⟩ := hit; exact Heap.lt_size q
    have hil2 : i < its.toArray.size := by
      have q := List.getElem?_eq_some_iff.mp hu
      obtain ⟨q, _⟩ := q
      simpa using q
    refine wpAny_pyNext_enum_itemC (Draws.tuple (A := X.A.in1) (I.ok.hd hc) it a hai its.toArray) he (St := _) ⟨hit, p⟩ hil2 hne (by simp [hne, hea]) fun y h' tk hy ho hit' hT hsz hk => ?_
    have eyu : y = u := by
      have q : its[i]? = some y := by simpa using hy
      rw [hu] at q
      cases q
      rfl
    subst eyu
    refine ⟨_, rfl, wpAny_letOwnedTupleGo_enum (s := { s with heap := h', toks := tk + 1 }) ho fun h'' he' sb => ?_⟩
    have hT2 : h''.get? s.heap.objs.size = some { cls := .type "tuple", data := .seq #[.int (c + ((i : Nat) : Int)) tk, y] } := (sb.2 _ (Nat.ne_of_gt hel)).trans hT
    have new : ObjOk X.prog X.w (upd H s.heap.objs.size (.tup [.int (c + ((i : Nat) : Int)), x])) h'' s.heap.objs.size (.tup [.int (c + ((i : Nat) : Int)), x]) :=
      ⟨by show 2 ≤ sizeLine; decide, [.int (c + ((i : Nat) : Int)) tk, y], .cons ⟨_, rfl⟩ (.cons ru .nil), ⟨_, hT2, rfl, _, rfl⟩⟩
    have I1 : Inv X pins σ (upd H s.heap.objs.size (.tup [.int (c + ((i : Nat) : Int)), x])) { s with heap := h'', toks := tk + 1 } :=
      I.turnedNew (ch := [e, it]) (fun b ob hb q => (sb.2 b (fun z => hb (by simp [z]))).trans (hk b ob (fun z => hb (by simp [z])) (fun z => hb (by simp [z])) q)) hf (Nat.le_refl _) new
    refine ⟨.ref s.heap.objs.size, _, I1, rfl, ⟨_, x, rfl, I.hok.fresh (Nat.le_refl _), rfl, fun ys hy => by rw [I.tuple_inj hy hq]; exact hx⟩, ⟨⟨y, ?_⟩, hit'.1.at fun o q => (sb.2 it (Ne.symm hne)).trans q, hne, hai, hea⟩, fun b hb => ?_⟩
    · have e1 : c + ((i + 1 : Nat) : Int) = c + (i : Int) + 1 := by omega
      rw [e1]; exact he'
    · have hb' : b < s.heap.objs.size := by
        have e' : b = e ∨ b = it := by simpa using hb
        rcases e' with z | z
        · rw [z]; exact hel
        · rw [z]; exact hil
      rw [upd_ne (Nat.ne_of_lt hb')]
      exact (hf b hb).1
  done := by
    intro X hP hw hK hc i pins s σ H E I hf st hg
    subst hP hw hK
    obtain ⟨⟨old, he⟩, hit, hne, hai, hea⟩ := st
    obtain ⟨xs, hq, hx⟩ := hg
    obtain ⟨its, rv, p, hz⟩ := I.tuple hq
    obtain ⟨f0, f1, f2, f3, f4, f5⟩ := hf it (by simp)
    have hl := rv.length
    have hn : its.toArray[i]? = none := by simp; omega
    have D : Draws X.prog X.w X.A.in1 it [it, a] i (fun _ _ => False) (fun j h => j = i ∧ h.IsTupleIter it a i ∧ h.IsTuple a its.toArray) :=
      { live := fun _ _ st => let ⟨o, ho, _⟩ := st.2.1; ⟨o, ho⟩
        frame := fun _ _ _ st hk => ⟨st.1, st.2.1.at fun o e => hk it (by simp) o e, st.2.2.at fun o e => hk a (by simp) o e⟩
        item := fun j s Q E hj st _ => by
          have q := st.1
          omega
        done := fun s Q E st hE => wpAny_nextOf_tuple_end (I.ok.hd hc) st.2.1 st.2.2 hn hE }
    exact wpAny_pyNext_enum_endD D he ⟨rfl, hit, p⟩ fun h' eb => ⟨rfl, I.turned (t' := s.toks) (fun b o hb q => eb b o hb q) f0 f1 f3 f4 f5⟩
  self := fun A i s Q E st h => let ⟨⟨_, he⟩, _⟩ := st; wpAny_pyIter_enum he h
def iEnumk (K : PySem.W.Frag) (ta : TA) (tk : TE) : TI := fun σ H R => ta σ H fun vs H1 => tk σ H1 fun x H2 => ∃ a xs c, vs = [.ref a] ∧ x = .int c ∧ -(2 ^ 63) ≤ c ∧ c < 2 ^ 63 ∧ SqT K H2 a xs ∧ R (Itek K c a) H2
theorem pi_enumk {X : Cx} {e ke : Expr} {ta : TA} {tk : TE} {p pos tpos kp : Pos} {elts : List Expr} {kk : Nat} (hg : Gl X "enumerate") (hm : X.mg "enumerate" = none) (ha : PA X [e] ta) (hk : PE X ke tk) (hs : backTo pos (starEach [e] X.env) = [(false, eval e X.env)] := by rfl) :
    PI X (.Tuple elts kk tpos) (.Call (.Name "enumerate" p) [e] [⟨some "start", ke, kp⟩] pos) (iEnumk X.K ta tk) := by
  refine ⟨fun pins s σ H R I h => ?_⟩
  refine wpAny_Call_Name_kw (ld_blt I hg hm boot_enumerate (callWith_type1kw (thn (ha.run pos pins s σ H _ I h) fun us s1 ⟨vs, H1, I1, r1, q1⟩ => ?_) hs))
  have sv := I1
  refine thn (hk.run pins s1 σ H1 _ I1 q1) fun kv s2 ⟨x, H2, I2, rx, q2⟩ => ?_
  obtain ⟨a, xs, c, ex, rfl, c0, c1, hq, q⟩ := q2
  subst ex
  cases r1 with
  | cons r rr =>
    cases rr
    cases r
    obtain ⟨t, rfl⟩ := rx
    obtain ⟨its, rv, p', hz⟩ := I2.tuple hq
    refine enum_begins_start (begins_tuple a its.toArray) p' c0 c1 fun h' he hit hsz hk => wpAny_pyIter_enum he ?_
    have I3 : Inv X pins σ H2 { s2 with heap := h' } := I2.kept (t' := s2.toks) hk
    have hal : a < s2.heap.objs.size := by obtain ⟨_, q, _⟩ := p'; exact Heap.lt_size q
    refine ⟨s2.heap.objs.size + 1, [s2.heap.objs.size + 1, s2.heap.objs.size], _, _, H2, rfl, I3, turn_enumk c a (s2.heap.objs.size + 1) s2.heap.objs.size, ⟨⟨.none, by simpa using he⟩, ⟨_, hit, rfl, rfl⟩, Nat.succ_ne_self _, Nat.ne_of_lt hal, fun z => ?_⟩, fun b hb => ?_, q⟩
    · have z : (s2.heap.objs.size + 1 : Nat) = a := z
      exact absurd (z ▸ hal : s2.heap.objs.size + 1 < s2.heap.objs.size) (Nat.not_lt.mpr (Nat.le_succ _))
    · have e' : b = s2.heap.objs.size + 1 ∨ b = s2.heap.objs.size := by simpa using hb
      have hle : s2.heap.objs.size ≤ b := by
        rcases e' with z | z
        · rw [z]; exact Nat.le_add_right _ _
        · rw [z]; exact Nat.le_refl _
      exact I2.fpOk hle (I2.hok.fresh hle)
end L2
namespace Mi
open PySem PySem.Spec PyProof.Rows L2
def numberedI (c : Int) : List D → List D
  | [] => []
  | d :: ds => .tuple [.int c, d] :: numberedI (c + 1) ds
theorem numberedI_len : ∀ (c : Int) (ds : List D), (numberedI c ds).length = ds.length
  | _, [] => rfl
  | c, d :: ds => congrArg (· + 1) (numberedI_len (c + 1) ds)
theorem numberedI_get : ∀ (c : Int) (ds : List D) (i : Nat) (d : D), ds[i]? = some d → (numberedI c ds)[i]? = some (.tuple [.int (c + (i : Nat)), d])
  | _, [], i, d, h => by simp at h
  | c, x :: ds, 0, d, h => by
    simp at h
    subst h
    simp [numberedI]
  | c, x :: ds, i + 1, d, h => by
    have h : ds[i]? = some d := by simpa using h
    have e : c + 1 + (i : Int) = c + ((i + 1 : Nat) : Int) := by omega
    have q := numberedI_get (c + 1) ds i d h
    rw [e] at q
    exact q
def mIterEk (ma : Rho → Res (List Val)) (mk : Rho → Res Val) : Rho → Res (List D) := fun ρ => (ma ρ).bind fun as => (mk ρ).bind fun k => lift (match as, k with
  | [.sh (.tuple xs)], .sh (.int c) => if Nat.ble c.natAbs 1000000 then some (numberedI c xs) else none
  | _, _ => none)
theorem its_enumk {K : PySem.W.Frag} {Ga Ha : Hp} {a : Addr} {vs : List V} {xs : List D} {c : Int} (h : SqT K Ga a vs) (k : RpA K Ga vs xs) : ItS K Ga Ha (Itek K c a) (numberedI c xs) := by
  have hv : ∀ {G H : Hp}, Same Ga G → Same G H → SqT K H a vs := fun e1 e2 => same_t e2 (same_t e1 h)
  refine ⟨fun i G H e1 e2 hi => ?_, fun i G H e1 e2 hi => ⟨vs, hv e1 e2, by rw [k.length, ← numberedI_len c xs]; exact hi⟩, fun i G H x H' e1 e2 hi y => ?_⟩
  · have hi' : i < vs.length := by rw [k.length, ← numberedI_len c xs]; exact hi
    exact ⟨vs, vs[i], hv e1 e2, List.getElem?_eq_getElem hi'⟩
  · obtain ⟨T, z, rfl, nT, rfl, f⟩ := y
    obtain ⟨d, ed, rd⟩ := k.getV (f vs (hv e1 e2))
    refine ⟨_, _, numberedI_get c xs i d ed, Ext.newS e2 nT, ?_⟩
    exact Rp.tup (.inl (.inl upd_same)) (.cons (.int _) (.cons (Rp.mono (e1.trans (same_new (e2.free nT))) rd) .nil))
theorem sndi_ek {K : PySem.W.Frag} {mg : Str → Option Value} {W : WX} {ta : TA} {ma : Rho → Res (List Val)} {te : TE} {me : Rho → Res Val} (h : SndA K mg W ta ma) (h2 : Snd K mg W te me) : SndI K mg W (iEnumk K ta te) (mIterEk ma me) := by
  intro G0 H0 σ G H ρ R I q
  refine h G0 H0 σ G H ρ _ I (RR.bnd (Ext.refl I.s) q fun as G1 H1 vs ea e1 r1 h1 => ?_)
  refine h2 G0 H0 σ G1 H1 ρ _ (I.ext' e1) (RR.bnd e1 h1 fun kv G2 H2 y eb e2 r2 q2 => ?_)
  obtain ⟨xs, ex, q3⟩ := q2.lift
  split at ex
  · split at ex
    · rename_i hc
      cases ex
      obtain ⟨v, rfl, z⟩ := vrs1 r1
      have hb := Nat.le_of_ble_eq_true hc
      cases (show Rp K G1 v _ from z) with
      | tup ht k =>
        cases (show Rp K G2 y _ from r2) with
        | int =>
          have ht2 : SqT K G2 _ _ := same_t e2.g ht
          exact ⟨_, _, _, rfl, rfl, by omega, by omega, same_t e2.s ht2, q3 G2 H2 _ (e1.trans e2) (its_enumk ht2 (k.mono e2.g))⟩
    · cases ex
  · cases ex
theorem pmi_ek {X : Cx} {W : WX} {a ke : Expr} {ta : TA} {ma : Rho → Res (List Val)} {te : TE} {me : Rho → Res Val} {p pos tpos kp : Pos} {elts : List Expr} {kk : Nat} (hm : X.mg "enumerate" = none) (h : PMA X W [a] ta ma) (h2 : PM X W ke te me) (hg : Gl X "enumerate" := by rfl) (hs : backTo pos (starEach [a] X.env) = [(false, eval a X.env)] := by rfl) : PMI X W (.Tuple elts kk tpos) (.Call (.Name "enumerate" p) [a] [⟨some "start", ke, kp⟩] pos) (iEnumk X.K ta te) (mIterEk ma me) := ⟨pi_enumk hg hm h.p h2.p hs, sndi_ek h.s h2.s⟩
end Mi

/-! Mj3: x in l, l.index(x) where the items are lists. -/
namespace Mi
open PySem PySem.Spec PyProof.Rows L2
def litD : Val → Option (List D)
  | .sh (.list xs) => some xs
  | .ow xs => some xs
  | .bw xs => some xs
  | .fz xs => some xs
  | _ => none
theorem litD_dat {a : Val} {xs : List D} (h : litD a = some xs) : dat a = some (.list xs) := by
  unfold litD at h
  split at h <;> first | (cases h; rfl) | cases h
def oInD : Val → Val → Option Val := fun a b => match dat a, litD b with
  | some d, some xs => if (SeqAt.shaped d && SeqAt.shaped (.list xs)) = true then some (.sh (.bool (xs.any fun z => PyData.eqv z d))) else none
  | _, _ => none
theorem os_inD {K : PySem.W.Frag} : OpS K (rInD K) oInD := by
  intro B G H x y a b c Q s ha hb e q
  unfold oInD at e
  split at e
  · split at e
    · rename_i d xs e1 e2 hl
      cases e
      rw [Bool.and_eq_true] at hl
      exact ⟨d, xs, ha.dp s e1 (noDict_shaped hl.1), hb.dp s (litD_dat e2) (noDict_shaped hl.2), hl.1, hl.2, q G H _ (Ext.refl s) (.bl _)⟩
    · cases e
  · cases e
def kIndexD : Val → List Val → Option Val := fun o as => match litD o, as with
  | some xs, [a] => match dat a with
    | some d => if (SeqAt.shaped d && SeqAt.shaped (.list xs)) = true then (firstAt d xs).map fun j => .sh (.int (j : Nat)) else none
    | none => none
  | _, _ => none
theorem ks_indexD {K : PySem.W.Frag} : MethS K (rIndexD K) kIndexD := by
  intro B G H x o vs as c Q s ho ha e q
  unfold kIndexD at e
  split at e
  · rename_i xs a e1
    split at e
    · rename_i d e2
      split at e
      · rename_i hl
        rw [Bool.and_eq_true] at hl
        cases ej : firstAt d xs with
        | none =>
          rw [ej] at e
          cases e
        | some j =>
          rw [ej] at e
          cases e
          obtain ⟨y, rfl, hy⟩ := vrs1 ha
          obtain ⟨⟨z, h1, h2⟩, h3⟩ := firstAt_ok ej
          have hx := ho.dp s (litD_dat e1) (noDict_shaped hl.2)
          have hx' := hx
          cases hx with
          | lst hs ha' =>
            exact ⟨_, y, d, xs, j, z, rfl, rfl, hx', hy.dp s e2 (noDict_shaped hl.1), hl.2, hl.1, h1, h2, h3, q G H _ (Ext.refl s) (Rp.int _)⟩
      · cases e
    · cases e
  · cases e
theorem units65 {k : Nat} {A : Around} (r : Room k A) : A.units + 65 < cLine := by have := r.un; omega
theorem op_inDK {X : Cx} {K : PySem.W.Frag} (hu : X.A.units + 65 < cLine) (h : X.K = K := by rfl) : OpR X (compareOp .In) (rInD K) := h ▸ op_inD hu
theorem mt_indexDK {X : Cx} {K : PySem.W.Frag} (hu : X.A.units + 65 < cLine) (h : X.K = K := by rfl) : MtR X "list.index" (rIndexD K) := h ▸ mt_indexD hu
end Mi

/-! Mirrors evaluated: lists of ints. -/
namespace Mi
open PySem PySem.Spec PyProof.Rows L2
abbrev iL (ns : List Int) : D := .list (ns.map .int)
abbrev I (i : Int) : Option Val := some (.sh (.int i))
abbrev SL (ns : List Int) : Option Val := some (.sh (iL ns))
abbrev OL (ns : List Int) : Option Val := some (.ow (ns.map .int))
theorem eqv_int (a b : Int) : PyData.eqv (.int a) (.int b) = decide (a = b) := by
  rw [PyData.eqv]
  rfl
theorem eqv_str (a b : Str) : PyData.eqv (.str a) (.str b) = (a == b) := by
  rw [PyData.eqv]
theorem eqvAll_iL : ∀ a b : List Int, PyData.eqvAll (a.map .int) (b.map .int) = decide (a = b)
  | [], [] => rfl
  | [], _ :: _ => rfl
  | _ :: _, [] => rfl
  | x :: a, y :: b => by
    rw [List.map_cons, List.map_cons, PyData.eqvAll, eqvAll_iL a b, eqv_int]
    by_cases h1 : x = y <;> by_cases h2 : a = b <;> simp [h1, h2]
theorem eqv_iL (a b : List Int) : PyData.eqv (iL a) (iL b) = decide (a = b) := by
  rw [PyData.eqv]
  exact eqvAll_iL a b
theorem canLay_iL : ∀ a : List Int, PyData.canLayAll0 (a.map .int) = true
  | [] => by simp [PyData.canLayAll0]
  | x :: a => by
    rw [List.map_cons, PyData.canLayAll0, canLay_iL a]
    rfl
theorem depth_iL : ∀ a : List Int, PyData.depthAll (a.map .int) = 0
  | [] => by simp [PyData.depthAll]
  | x :: a => by
    rw [List.map_cons, PyData.depthAll, depth_iL a]
    rfl
theorem shaped_iL (a : List Int) : SeqAt.shaped (iL a) = true := by
  unfold SeqAt.shaped
  have h1 : PyData.canLay0 (iL a) = true := by
    rw [PyData.canLay0]
    exact canLay_iL a
  have h2 : PyData.depth (iL a) = 1 := by
    rw [PyData.depth, depth_iL a]
  rw [h1, h2]
  rfl
theorem shaped_int (a : Int) : SeqAt.shaped (.int a) = true := rfl
/-- lo, lo + 1, .. -/
def upto (lo : Int) (n : Nat) : List Int := (List.range n).map fun (i : Nat) => lo + (i : Int)
theorem rangeD_upto (lo : Int) (n : Nat) : rangeD lo n = (upto lo n).map .int := by
  unfold rangeD upto
  rw [List.map_map]
  rfl
theorem upto_len (lo : Int) (n : Nat) : (upto lo n).length = n := by
  unfold upto
  rw [List.length_map, List.length_range]
theorem upto_mem {lo : Int} {n : Nat} {v : Int} : v ∈ upto lo n ↔ lo ≤ v ∧ v < lo + n := by
  unfold upto
  rw [List.mem_map]
  constructor
  · rintro ⟨i, hi, rfl⟩
    have := List.mem_range.mp hi
    omega
  · rintro ⟨h1, h2⟩
    exact ⟨(v - lo).toNat, List.mem_range.mpr (by omega), by omega⟩
theorem upto_get {lo : Int} {n i : Nat} (h : i < n) : (upto lo n)[i]? = some (lo + i) := by
  unfold upto
  rw [List.getElem?_map, List.getElem?_range h]
  rfl
theorem upto_succ (lo : Int) (n : Nat) : upto lo (n + 1) = lo :: upto (lo + 1) n := by
  unfold upto
  rw [List.range_succ_eq_map, List.map_cons, List.map_map]
  congr 1
  · simp
  · apply List.map_congr_left
    intro i _
    simp
    omega
theorem upto_sorted : ∀ (n : Nat) (lo : Int), (upto lo n).Pairwise (· ≤ ·)
  | 0, lo => .nil
  | n + 1, lo => by
    rw [upto_succ]
    refine List.pairwise_cons.mpr ⟨fun v hv => ?_, upto_sorted n (lo + 1)⟩
    have := upto_mem.mp hv
    omega
theorem upto_nodup : ∀ (n : Nat) (lo : Int), (upto lo n).Nodup
  | 0, lo => .nil
  | n + 1, lo => by
    rw [upto_succ]
    refine List.nodup_cons.mpr ⟨fun hv => ?_, upto_nodup n (lo + 1)⟩
    have := upto_mem.mp hv
    omega
theorem isort_of_perm {ns ms : List Int} (h : ns.Perm ms) (s : ms.Pairwise (· ≤ ·)) : isort ns = ms := sorted_uniq ((isort_perm ns).trans h) (isort_sorted ns) s
theorem mpush (acc : List Int) (v : Int) : acc.map PyData.int ++ [.int v] = (acc ++ [v]).map .int := by
  rw [List.map_append]
  rfl
theorem mcat (a b : List Int) : a.map PyData.int ++ b.map .int = (a ++ b).map .int := (List.map_append).symm
theorem mrev (a : List Int) : (a.map PyData.int).reverse = a.reverse.map .int := (List.map_reverse).symm
theorem mset (a : List Int) (j : Nat) (v : Int) : (a.map PyData.int).set j (.int v) = (a.set j v).map .int := by rw [List.map_set]
theorem mrep (n : Nat) (v : Int) : List.replicate n (PyData.int v) = (List.replicate n v).map .int := by rw [List.map_replicate]
theorem mcut (a : List Int) (lo hi : Option Int) : cutD (a.map .int) lo hi = ((a.drop (HT.sIx a.length 0 lo)).take (HT.sIx a.length a.length hi - HT.sIx a.length 0 lo)).map .int := by
  unfold cutD
  rw [List.length_map, List.map_take, List.map_drop]
theorem mat (a : List Int) (i : Int) : atI (a.map PyData.int) i = (atI a i).map .int := by
  unfold atI
  rw [List.length_map]
  cases ixN a.length i with
  | none => rfl
  | some j => exact List.getElem?_map
theorem ixN_in {n : Nat} {i : Int} (h0 : 0 ≤ i) (h1 : i < n) : ixN n i = some i.toNat := by
  unfold ixN
  rw [if_pos h0, if_pos h1]
theorem atI_in {a : List Int} {i : Int} (h0 : 0 ≤ i) (h1 : i < a.length) : ∃ v, a[i.toNat]? = some v ∧ atI a i = some v := by
  have h : i.toNat < a.length := by omega
  refine ⟨a[i.toNat], List.getElem?_eq_getElem h, ?_⟩
  unfold atI
  rw [ixN_in h0 h1]
  exact List.getElem?_eq_getElem h
theorem cutL {a : List Int} {i : Int} (h0 : 0 ≤ i) (h1 : i ≤ a.length) : (a.drop (HT.sIx a.length 0 none)).take (HT.sIx a.length a.length (some i) - HT.sIx a.length 0 none) = a.take i.toNat := by
  have e : HT.sIx a.length a.length (some i) = i.toNat := by
    obtain ⟨k, rfl⟩ := Int.eq_ofNat_of_zero_le h0
    rw [HT.sIx_nat]
    have : k ≤ a.length := by omega
    rw [Nat.min_eq_left this]
    rfl
  rw [e, HT.sIx_none, List.drop_zero, Nat.sub_zero]
theorem cutR {a : List Int} {i : Int} (h0 : 0 ≤ i) (h1 : i ≤ a.length) : (a.drop (HT.sIx a.length 0 (some i))).take (HT.sIx a.length a.length none - HT.sIx a.length 0 (some i)) = a.drop i.toNat := by
  have e : HT.sIx a.length 0 (some i) = i.toNat := by
    obtain ⟨k, rfl⟩ := Int.eq_ofNat_of_zero_le h0
    rw [HT.sIx_nat]
    have : k ≤ a.length := by omega
    rw [Nat.min_eq_left this]
    rfl
  rw [e, HT.sIx_none]
  exact List.take_of_length_le (by rw [List.length_drop]; omega)
theorem loop_nil {bp : BP} {body : Rho → Out} {ρ : Rho} : loop bp body [] ρ = .nx ρ := rfl
theorem loop_cons {bp : BP} {body : Rho → Out} {d : D} {ds : List D} {ρ ρ1 ρ2 : Rho} (h1 : bp d ρ = some ρ1) (h2 : body ρ1 = .nx ρ2) : loop bp body (d :: ds) ρ = loop bp body ds ρ2 := by
  simp only [loop, h1, h2]
theorem shownAll_len : ∀ {x : List Int}, (∀ v ∈ x, v.natAbs < 10 ^ 7) → ((PyData.shownAll (x.map .int)).map (·.length)).sum ≤ 8 * x.length ∧ (PyData.shownAll (x.map .int)).length = x.length
  | [], _ => by
    rw [List.map_nil, PyData.shownAll]
    exact ⟨Nat.le_refl _, rfl⟩
  | v :: x, h => by
    have ih := shownAll_len (x := x) fun u hu => h u (List.mem_cons_of_mem _ hu)
    rw [List.map_cons, PyData.shownAll, List.map_cons, List.sum_cons, List.length_cons, List.length_cons, PyData.shown]
    have z : (PySem.Str.ofString (toString v)).length ≤ 8 := by
      rw [PySem.ofString_length]
      exact int_text_length_le10 (k := 7) (by decide) (h v List.mem_cons_self)
    exact ⟨by show (PySem.Str.ofString (toString v)).length + _ ≤ _; omega, by omega⟩
theorem showable_iL : ∀ {x : List Int}, (∀ v ∈ x, v.natAbs < 10 ^ 7) → PyData.showableAll (x.map .int) = true ∧ PyData.hasDictAll (x.map .int) = false
  | [], _ => by
    rw [List.map_nil, PyData.showableAll, PyData.hasDictAll]
    exact ⟨rfl, rfl⟩
  | v :: x, h => by
    have ih := showable_iL (x := x) fun u hu => h u (List.mem_cons_of_mem _ hu)
    have hv := h v List.mem_cons_self
    have z : v.natAbs.log2 < 1920 := by
      by_cases z : v.natAbs = 0
      · rw [z]
        decide
      · have h2 : v.natAbs.log2 < 24 := (Nat.log2_lt z).mpr (Nat.lt_of_lt_of_le hv (by decide))
        omega
    rw [List.map_cons, PyData.showableAll, PyData.hasDictAll, ih.1, ih.2, PyData.showable, PyData.hasDict, decide_eq_true z]
    exact ⟨rfl, rfl⟩
theorem shows_iL {x : List Int} (h : ∀ v ∈ x, v.natAbs < 10 ^ 7) (hl : x.length ≤ 1000) : shows (iL x) = true := by
  obtain ⟨h1, h2⟩ := showable_iL h
  obtain ⟨h3, h4⟩ := shownAll_len h
  have e1 : PyData.showable (iL x) = true := by rw [PyData.showable]; exact h1
  have e2 : PyData.hasDict (iL x) = false := by rw [PyData.hasDict]; exact h2
  have e3 : PyData.depth (iL x) ≤ 60 := by rw [PyData.depth, depth_iL]; decide
  have e4 : (PyData.shown (iL x)).length ≤ 100000 := by
    rw [PyData.shown]
    have z := listText_len_le (PyData.shownAll (x.map .int))
    omega
  unfold shows
  rw [e1, e2, decide_eq_true e3, decide_eq_true e4]
  rfl
theorem oEqS_str (a b : Str) : oEqS (.sh (.str a)) (.sh (.str b)) = some (.sh (.bool (decide (a = b)))) := rfl
theorem cRepr_D {a : Val} {d : D} (h : dat a = some d) (hs : shows d = true) : cRepr [a] = some (.sh (.str d.shown)) := by
  simp only [cRepr, h, hs, if_true]
theorem cRepr_sh {x : List Int} (hs : shows (iL x) = true) : cRepr [.sh (iL x)] = some (.sh (.str (iL x).shown)) := cRepr_D rfl hs
theorem cRepr_ow {x : List Int} (hs : shows (iL x) = true) : cRepr [.ow (x.map .int)] = some (.sh (.str (iL x).shown)) := cRepr_D rfl hs
theorem cRepr_bw {x : List Int} (hs : shows (iL x) = true) : cRepr [.bw (x.map .int)] = some (.sh (.str (iL x).shown)) := cRepr_D rfl hs
theorem comp_map {bp : BP} {mt : Rho → Res Bool} {me : Rho → Res Val} {ρ : Rho} {g : Int → Int} : ∀ {ns acc : List Int}, (∀ v ∈ ns, ∃ ρ1, bp (.int v) ρ = some ρ1 ∧ mt ρ1 = .ok true ∧ me ρ1 = .ok (.sh (.int (g v)))) → acc.length + ns.length ≤ 100000 →
    comp bp mt me ρ (ns.map .int) (acc.map .int) = .ok ((acc ++ ns.map g).map .int)
  | [], acc, _, _ => by
    rw [List.map_nil, List.map_nil, List.append_nil]
    rfl
  | v :: ns, acc, h, hl => by
    rw [List.length_cons] at hl
    obtain ⟨ρ1, h1, h2, h3⟩ := h v List.mem_cons_self
    have ih := comp_map (ns := ns) (acc := acc ++ [g v]) (fun u hu => h u (List.mem_cons_of_mem _ hu)) (by rw [List.length_append, List.length_singleton]; omega)
    have ha : acc.length < 100000 := by omega
    rw [List.map_cons]
    simp only [comp, h1, h2, h3, esc, if_true, List.length_map, ha]
    rw [mpush, ih, List.append_assoc]
    rfl
theorem comp_map0 {bp : BP} {mt : Rho → Res Bool} {me : Rho → Res Val} {ρ : Rho} {g : Int → Int} {ns : List Int} (h : ∀ v ∈ ns, ∃ ρ1, bp (.int v) ρ = some ρ1 ∧ mt ρ1 = .ok true ∧ me ρ1 = .ok (.sh (.int (g v)))) (hl : ns.length ≤ 100000) : comp bp mt me ρ (ns.map .int) [] = .ok ((ns.map g).map .int) :=
  comp_map (acc := []) h (by simpa using hl)
theorem seq_step {a b : Rho → Out} {ρ ρ' : Rho} {x : Res Val} (h : a ρ = .nx ρ') (k : fin (b ρ') = x) : fin (mSeq a b ρ) = x := by
  unfold mSeq
  rw [h]
  exact k
theorem frz_step {i : Nat} {a : Rho → Out} {ρ : Rho} {x : Res Val} (k : fin (a (frz i ρ)) = x) : fin (mFrz i a ρ) = x := k
theorem seq_ret {a b : Rho → Out} {ρ : Rho} {r : Val} (h : a ρ = .rt r) : fin (mSeq a b ρ) = .ok r := by
  unfold mSeq
  rw [h]
  rfl
theorem comp_filt {bp : BP} {mt : Rho → Res Bool} {me : Rho → Res Val} {ρ : Rho} {t : Int → Bool} {g : Int → Int} : ∀ {ns acc : List Int}, (∀ v ∈ ns, ∃ ρ1, bp (.int v) ρ = some ρ1 ∧ mt ρ1 = .ok (t v) ∧ (t v = true → me ρ1 = .ok (.sh (.int (g v))))) → acc.length + ns.length ≤ 100000 →
    comp bp mt me ρ (ns.map .int) (acc.map .int) = .ok ((acc ++ (ns.filter t).map g).map .int)
  | [], acc, _, _ => by
    rw [List.map_nil, List.filter_nil, List.map_nil, List.append_nil]
    rfl
  | v :: ns, acc, h, hl => by
    rw [List.length_cons] at hl
    obtain ⟨ρ1, h1, h2, h3⟩ := h v List.mem_cons_self
    have hr : ∀ u ∈ ns, ∃ ρ1, bp (.int u) ρ = some ρ1 ∧ mt ρ1 = .ok (t u) ∧ (t u = true → me ρ1 = .ok (.sh (.int (g u)))) := fun u hu => h u (List.mem_cons_of_mem _ hu)
    have ha : acc.length < 100000 := by omega
    rw [List.map_cons]
    cases c : t v with
    | true =>
      have ih := comp_filt (ns := ns) (acc := acc ++ [g v]) hr (by rw [List.length_append, List.length_singleton]; omega)
      rw [c] at h2
      simp only [comp, h1, h2, h3 c, esc, if_true, List.length_map, ha]
      rw [mpush, ih, List.append_assoc, List.filter_cons_of_pos c]
      rfl
    | false =>
      have ih := comp_filt (ns := ns) (acc := acc) hr (by omega)
      rw [c] at h2
      simp only [comp, h1, h2]
      rw [List.filter_cons_of_neg (by rw [c]; exact Bool.false_ne_true)]
      exact ih
theorem comp_filt0 {bp : BP} {mt : Rho → Res Bool} {me : Rho → Res Val} {ρ : Rho} {t : Int → Bool} {g : Int → Int} {ns : List Int} (h : ∀ v ∈ ns, ∃ ρ1, bp (.int v) ρ = some ρ1 ∧ mt ρ1 = .ok (t v) ∧ (t v = true → me ρ1 = .ok (.sh (.int (g v))))) (hl : ns.length ≤ 100000) :
    comp bp mt me ρ (ns.map .int) [] = .ok (((ns.filter t).map g).map .int) := comp_filt (acc := []) h (by simpa using hl)
theorem all_flat (x : List Int) : (x.map PyData.int).all flatD = true := by
  rw [List.all_map, List.all_eq_true]
  intro v _
  rfl
theorem firstAt_int : ∀ {row : List Int} {p : Nat} {v : Int}, row.Nodup → row[p]? = some v → firstAt (.int v) (row.map .int) = some p
  | [], _, _, _, h => by simp at h
  | u :: row, 0, v, _, h => by
    have e : u = v := by simpa using h
    subst e
    rw [List.map_cons]
    unfold firstAt
    rw [eqv_int, decide_eq_true rfl]
    rfl
  | u :: row, p + 1, v, nd, h => by
    have nd' := List.nodup_cons.mp nd
    have h : row[p]? = some v := by simpa using h
    have ne : ¬ u = v := fun e => nd'.1 (e ▸ List.mem_of_getElem? h)
    rw [List.map_cons]
    unfold firstAt
    rw [eqv_int, decide_eq_false ne, firstAt_int nd'.2 h]
    rfl
theorem kIndex_L {o : Val} {row : List Int} {p : Nat} {v : Int} (e : lit o = some (row.map .int)) (nd : row.Nodup) (h : row[p]? = some v) : kIndex o [.sh (.int v)] = some (.sh (.int (p : Nat))) := by
  unfold kIndex
  rw [e]
  show (if (flatD (.int v) && (row.map PyData.int).all flatD) = true then (firstAt (.int v) (row.map .int)).map fun j => Val.sh (.int (j : Nat)) else none) = _
  rw [all_flat, firstAt_int nd h]
  rfl
theorem inD_iL (v : Int) (ns : List Int) : inD (.int v) (ns.map .int) = decide (v ∈ ns) := by
  unfold inD
  rw [List.any_map]
  induction ns with
  | nil => rfl
  | cons u ns ih =>
    rw [List.any_cons, ih]
    show (PyData.eqv (.int u) (.int v) || _) = _
    rw [eqv_int]
    by_cases h : u = v
    · have z : v ∈ u :: ns := by rw [h]; exact List.mem_cons_self
      rw [decide_eq_true h, decide_eq_true z]
      rfl
    · rw [decide_eq_false h]
      have : (v ∈ u :: ns) ↔ v ∈ ns := by
        constructor
        · intro z
          rcases List.mem_cons.mp z with z | z
          · exact absurd z.symm h
          · exact z
        · exact List.mem_cons_of_mem _
      simp only [this, Bool.false_or]
end Mi

/-! Mirrors evaluated: data of any kind. -/
namespace Mi
open PySem PySem.Spec PyProof.Rows L2
/-! ### operators applied -/
section
variable (i j : Int) (x y : List D) (s t : Str)
theorem oLe_ii : oLe (.sh (.int i)) (.sh (.int j)) = some (.sh (.bool (decide (i ≤ j)))) := rfl
theorem oLt_ii : oLt (.sh (.int i)) (.sh (.int j)) = some (.sh (.bool (decide (i < j)))) := rfl
theorem oGe_ii : oGe (.sh (.int i)) (.sh (.int j)) = some (.sh (.bool (decide (j ≤ i)))) := rfl
theorem oGt_ii : oGt (.sh (.int i)) (.sh (.int j)) = some (.sh (.bool (decide (j < i)))) := rfl
theorem oSub_ii : oSub (.sh (.int i)) (.sh (.int j)) = some (.sh (.int (i - j))) := rfl
theorem oAddI_ii : oAddI (.sh (.int i)) (.sh (.int j)) = some (.sh (.int (i + j))) := rfl
theorem oAddT_ii : oAddT (.sh (.int i)) (.sh (.int j)) = some (.sh (.int (i + j))) := rfl
theorem oAddT_ss : oAddT (.sh (.str s)) (.sh (.str t)) = if s.length + t.length ≤ 100000 then some (.sh (.str (s ++ t))) else none := by
  show (match (if s.length + t.length ≤ 100000 then some (Val.sh (.str (s ++ t))) else none) with | some c => some c | none => (none : Option Val)) = _
  split <;> simp_all
theorem oAddT_tt : oAddT (.sh (.tuple x)) (.sh (.tuple y)) = if x.length + y.length ≤ 100000 then some (.sh (.tuple (x ++ y))) else none := by
  show (match (if x.length + y.length ≤ 100000 then some (Val.sh (.tuple (x ++ y))) else none) with | some c => some c | none => (none : Option Val)) = _
  split <;> simp_all
theorem oAddT_lolo : oAddT (.ow x) (.ow y) = if x.length + y.length ≤ 100000 then some (.ow (x ++ y)) else none := rfl
theorem oAddT_lobw : oAddT (.ow x) (.bw y) = if x.length + y.length ≤ 100000 then some (.ow (x ++ y)) else none := rfl
theorem oAddT_losh : oAddT (.ow x) (.sh (.list y)) = if x.length + y.length ≤ 100000 then some (.ow (x ++ y)) else none := rfl
theorem oAddT_bwlo : oAddT (.bw x) (.ow y) = if x.length + y.length ≤ 100000 then some (.ow (x ++ y)) else none := rfl
theorem oAddT_bwbw : oAddT (.bw x) (.bw y) = if x.length + y.length ≤ 100000 then some (.ow (x ++ y)) else none := rfl
theorem oAddT_bwsh : oAddT (.bw x) (.sh (.list y)) = if x.length + y.length ≤ 100000 then some (.ow (x ++ y)) else none := rfl
theorem oAddT_shlo : oAddT (.sh (.list x)) (.ow y) = if x.length + y.length ≤ 100000 then some (.ow (x ++ y)) else none := rfl
theorem oAddT_shbw : oAddT (.sh (.list x)) (.bw y) = if x.length + y.length ≤ 100000 then some (.ow (x ++ y)) else none := rfl
theorem oAddT_shsh : oAddT (.sh (.list x)) (.sh (.list y)) = if x.length + y.length ≤ 100000 then some (.ow (x ++ y)) else none := rfl
theorem oMulI_ii : oMulI (.sh (.int i)) (.sh (.int j)) = if (-(2 ^ 64) < i ∧ i < 2 ^ 64) ∨ (-(2 ^ 64) < j ∧ j < 2 ^ 64) then some (.sh (.int (i * j))) else none := by
  show (if decide _ = true then _ else _) = _
  simp only [decide_eq_true_eq]
theorem oMul_ii : oMul (.sh (.int i)) (.sh (.int j)) = if (-(2 ^ 64) < i ∧ i < 2 ^ 64) ∨ (-(2 ^ 64) < j ∧ j < 2 ^ 64) then some (.sh (.int (i * j))) else none := by
  show (match oMulI (.sh (.int i)) (.sh (.int j)) with | some c => some c | none => (none : Option Val)) = _
  rw [oMulI_ii]
  split <;> simp_all
theorem oMod_ii : oMod (.sh (.int i)) (.sh (.int j)) = if 0 < j then some (.sh (.int (i % j))) else none := by
  show (if decide _ = true then _ else _) = _
  simp only [decide_eq_true_eq]
theorem oDiv_ii : oDiv (.sh (.int i)) (.sh (.int j)) = if 0 < j ∧ j < 1073741824 then some (.sh (.int (i / j))) else none := by
  show (if decide _ = true then _ else _) = _
  simp only [decide_eq_true_eq]
theorem oPow_ii : oPow (.sh (.int i)) (.sh (.int j)) = if 0 ≤ j ∧ j ≤ 1000000 ∧ i.natAbs < 2 ^ 64 then some (.sh (.int (i ^ j.toNat))) else none := by
  show (if decide _ = true then _ else _) = _
  simp only [decide_eq_true_eq]
theorem oMul_rep (d : D) : oMul (.ow [d]) (.sh (.int j)) = if 0 ≤ j ∧ j ≤ 100000 then some (.ow (List.replicate j.toNat d)) else none := rfl
theorem oIx_t : oIx (.sh (.tuple x)) (.sh (.int i)) = (atI x i).map .sh := rfl
theorem oIx_l : oIx (.sh (.list x)) (.sh (.int i)) = (atI x i).map .sh := rfl
theorem oIx_b : oIx (.bw x) (.sh (.int i)) = (atI x i).map .sh := rfl
theorem oIx_o : oIx (.ow x) (.sh (.int i)) = (atI x i).map .sh := rfl
theorem oIx_f : oIx (.fz x) (.sh (.int i)) = (atI x i).map .sh := rfl
theorem atI_cons0 (d : D) (ds : List D) (n : Nat) (i : Int) (hi : i = (n : Int)) (h : n < (d :: ds).length) : atI (d :: ds) i = (d :: ds)[n]? := by
  subst hi
  unfold atI ixN
  rw [if_pos (by omega), if_pos (by omega)]
  rfl
theorem atI_0 (d : D) (ds : List D) : atI (d :: ds) 0 = some d := atI_cons0 d ds 0 0 rfl (by simp)
theorem atI_1 (d e : D) (ds : List D) : atI (d :: e :: ds) 1 = some e := atI_cons0 d _ 1 1 rfl (by simp)
theorem atI_2 (d e f : D) (ds : List D) : atI (d :: e :: f :: ds) 2 = some f := atI_cons0 d _ 2 2 rfl (by simp)
theorem atI_3 (d e f g : D) (ds : List D) : atI (d :: e :: f :: g :: ds) 3 = some g := atI_cons0 d _ 3 3 rfl (by simp)
end
theorem seqx {a b : Rho → Out} {ρ ρ' : Rho} (h : a ρ = .nx ρ') : mSeq a b ρ = b ρ' := by
  unfold mSeq
  rw [h]
theorem seqr {a b : Rho → Out} {ρ : Rho} {r : Val} (h : a ρ = .rt r) : mSeq a b ρ = .rt r := by
  unfold mSeq
  rw [h]
theorem seqe {a b : Rho → Out} {ρ ρ' : Rho} {n : Str} {fs : List (Str × D)} (h : a ρ = .ex n fs ρ') : mSeq a b ρ = .ex n fs ρ' := by
  unfold mSeq
  rw [h]
theorem comp_go {α : Type} {bp : BP} {mt : Rho → Res Bool} {me : Rho → Res Val} {ρ : Rho} (f g : α → D) (p : α → Bool) : ∀ {xs : List α} {acc : List D},
    (∀ a ∈ xs, ∃ ρ1, bp (f a) ρ = some ρ1 ∧ mt ρ1 = .ok (p a) ∧ (p a = true → ∃ r, me ρ1 = .ok r ∧ esc r = some (g a))) → acc.length + xs.length ≤ 100000 →
    comp bp mt me ρ (xs.map f) acc = .ok (acc ++ (xs.filter p).map g)
  | [], acc, _, _ => by
    rw [List.map_nil, List.filter_nil, List.map_nil, List.append_nil]
    rfl
  | a :: xs, acc, h, hl => by
    rw [List.length_cons] at hl
    obtain ⟨ρ1, h1, h2, h3⟩ := h a List.mem_cons_self
    have hr := fun u hu => h u (List.mem_cons_of_mem a hu)
    have ha : acc.length < 100000 := by omega
    rw [List.map_cons]
    cases c : p a with
    | true =>
      obtain ⟨r, h4, h5⟩ := h3 c
      have ih := comp_go f g p (xs := xs) (acc := acc ++ [g a]) hr (by rw [List.length_append, List.length_singleton]; omega)
      rw [c] at h2
      simp only [comp, h1, h2, h4, h5, if_true, ha]
      rw [ih, List.append_assoc, List.filter_cons_of_pos c]
      rfl
    | false =>
      have ih := comp_go f g p (xs := xs) (acc := acc) hr (by omega)
      rw [c] at h2
      simp only [comp, h1, h2]
      rw [List.filter_cons_of_neg (by rw [c]; exact Bool.false_ne_true)]
      exact ih
theorem comp_gen {α : Type} {bp : BP} {mt : Rho → Res Bool} {me : Rho → Res Val} {ρ : Rho} (f g : α → D) (p : α → Bool) {xs : List α} (h : ∀ a ∈ xs, ∃ ρ1, bp (f a) ρ = some ρ1 ∧ mt ρ1 = .ok (p a) ∧ (p a = true → ∃ r, me ρ1 = .ok r ∧ esc r = some (g a))) (hl : xs.length ≤ 100000) :
    comp bp mt me ρ (xs.map f) [] = .ok ((xs.filter p).map g) := comp_go (acc := []) f g p h (by simpa using hl)
/-- without a condition -/
theorem comp_all {α : Type} {bp : BP} {me : Rho → Res Val} {ρ : Rho} (f g : α → D) {xs : List α} (h : ∀ a ∈ xs, ∃ ρ1, bp (f a) ρ = some ρ1 ∧ ∃ r, me ρ1 = .ok r ∧ esc r = some (g a)) (hl : xs.length ≤ 100000) :
    comp bp mYes me ρ (xs.map f) [] = .ok (xs.map g) := by
  have z := comp_gen (bp := bp) (mt := mYes) (me := me) (ρ := ρ) f g (fun _ => true) (xs := xs) (fun a ha => by
    obtain ⟨ρ1, h1, h2⟩ := h a ha
    exact ⟨ρ1, h1, rfl, fun _ => h2⟩) hl
  rw [z, List.filter_eq_self.mpr fun _ _ => rfl]
theorem loop_fold {α β : Type} {bp : BP} {body : Rho → Out} (f : α → D) (st : β → Rho) (step : β → α → β) (P : β → Prop) : ∀ {xs : List α} {b : β}, P b →
    (∀ b a, a ∈ xs → P b → ∃ ρ1, bp (f a) (st b) = some ρ1 ∧ body ρ1 = .nx (st (step b a)) ∧ P (step b a)) → loop bp body (xs.map f) (st b) = .nx (st (xs.foldl step b)) ∧ P (xs.foldl step b)
  | [], b, hb, _ => ⟨rfl, hb⟩
  | a :: xs, b, hb, h => by
    obtain ⟨ρ1, h1, h2, h3⟩ := h b a List.mem_cons_self hb
    have ih := loop_fold f st step P (xs := xs) (b := step b a) h3 fun b' a' ha' => h b' a' (List.mem_cons_of_mem _ ha')
    rw [List.map_cons, loop_cons h1 h2]
    exact ih
/-- as loop_fold, the number of turns so far known -/
theorem loop_foldN {α β : Type} {bp : BP} {body : Rho → Out} (f : α → D) (st : β → Rho) (step : β → α → β) (P : Nat → β → Prop) : ∀ {xs : List α} {b : β} {n : Nat}, P n b →
    (∀ k b a, xs[k]? = some a → P (n + k) b → ∃ ρ1, bp (f a) (st b) = some ρ1 ∧ body ρ1 = .nx (st (step b a)) ∧ P (n + k + 1) (step b a)) → loop bp body (xs.map f) (st b) = .nx (st (xs.foldl step b)) ∧ P (n + xs.length) (xs.foldl step b)
  | [], b, n, hb, _ => ⟨rfl, hb⟩
  | a :: xs, b, n, hb, h => by
    obtain ⟨ρ1, h1, h2, h3⟩ := h 0 b a rfl hb
    have ih := loop_foldN f st step P (xs := xs) (b := step b a) (n := n + 1) h3 fun k b' a' ha' hp => by
      have e1 : n + 1 + k = n + (k + 1) := by omega
      rw [e1] at hp ⊢
      exact h (k + 1) b' a' (by simpa using ha') hp
    rw [List.map_cons, loop_cons h1 h2, List.length_cons]
    have e2 : n + (xs.length + 1) = n + 1 + xs.length := by omega
    rw [e2]
    exact ih
theorem boolsOf_map : ∀ bs : List Bool, boolsOf (bs.map .bool) = some bs
  | [] => rfl
  | b :: bs => by
    rw [List.map_cons]
    unfold boolsOf
    rw [boolsOf_map bs]
theorem cAll_map {α : Type} {f : List Bool → Bool} {g : α → Bool} {xs : List α} : cAll f [.ow (xs.map fun a => .bool (g a))] = some (.sh (.bool (f (xs.map g)))) := by
  have e : (xs.map fun a => PyData.bool (g a)) = (xs.map g).map .bool := by rw [List.map_map]; rfl
  unfold cAll
  rw [e]
  simp only [lit, boolsOf_map]
theorem intsOf_mapg {α : Type} {g : α → Int} {xs : List α} : intsOf (xs.map fun a => .int (g a)) = some (xs.map g) := by
  have e : (xs.map fun a => PyData.int (g a)) = (xs.map g).map .int := by rw [List.map_map]; rfl
  rw [e, intsOf_map]
theorem atI_map {α β : Type} (f : α → β) (xs : List α) (i : Int) : atI (xs.map f) i = (atI xs i).map f := by
  unfold atI
  rw [List.length_map]
  cases ixN xs.length i with
  | none => rfl
  | some j => exact List.getElem?_map
theorem mulok {i : Int} (j : Int) (h0 : -1000000000000 ≤ i) (h1 : i ≤ 1000000000000) : (Nat.blt i.natAbs 18446744073709551616 || Nat.blt j.natAbs 18446744073709551616) = true := by
  have h : i.natAbs ≤ 1000000000000 := by omega
  have z : Nat.blt i.natAbs 18446744073709551616 = true := Nat.ble_eq_true_of_le (Nat.le_trans (Nat.succ_le_succ h) (by decide))
  rw [z]
  rfl
theorem mulokR (i : Int) {j : Int} (h0 : -1000000000000 ≤ j) (h1 : j ≤ 1000000000000) : (Nat.blt i.natAbs 18446744073709551616 || Nat.blt j.natAbs 18446744073709551616) = true := by
  rw [Bool.or_comm]
  exact mulok i h0 h1
theorem divok {j : Int} (h0 : 0 < j) (h1 : j ≤ 1000000000) : (Nat.blt 0 j.toNat && Nat.blt j.toNat 1073741824) = true := by
  have z1 : Nat.blt 0 j.toNat = true := Nat.ble_eq_true_of_le (by omega)
  have z2 : Nat.blt j.toNat 1073741824 = true := Nat.ble_eq_true_of_le (Nat.le_trans (show j.toNat + 1 ≤ 1000000001 by omega) (by decide))
  rw [z1, z2]
  rfl
theorem oMulN_ii (i j : Int) : oMulN (.sh (.int i)) (.sh (.int j)) = if (Nat.blt i.natAbs 18446744073709551616 || Nat.blt j.natAbs 18446744073709551616) = true then some (.sh (.int (i * j))) else none := rfl
theorem oMul2_ii (i j : Int) : oMul2 (.sh (.int i)) (.sh (.int j)) = if (Nat.blt i.natAbs 18446744073709551616 || Nat.blt j.natAbs 18446744073709551616) = true then some (.sh (.int (i * j))) else none := by
  show (match oMulN (.sh (.int i)) (.sh (.int j)) with | some c => some c | none => (none : Option Val)) = _
  rw [oMulN_ii]
  split <;> simp_all
theorem oMul2_rep (j : Int) (d : D) : oMul2 (.ow [d]) (.sh (.int j)) = if 0 ≤ j ∧ j ≤ 100000 then some (.ow (List.replicate j.toNat d)) else none := rfl
theorem oDivN_ii (i j : Int) : oDivN (.sh (.int i)) (.sh (.int j)) = if (Nat.blt 0 j.toNat && Nat.blt j.toNat 1073741824) = true then some (.sh (.int (i / j))) else none := rfl
theorem cutQ {a : List Int} {i j : Nat} (h1 : i ≤ j) (h2 : j ≤ a.length) : (a.drop (HT.sIx a.length 0 (some (i : Int)))).take (HT.sIx a.length a.length (some (j : Int)) - HT.sIx a.length 0 (some (i : Int))) = (a.drop i).take (j - i) := by
  rw [HT.sIx_nat, HT.sIx_nat, Nat.min_eq_left h2, Nat.min_eq_left (Nat.le_trans h1 h2)]
theorem atI_some {α : Type} {xs : List α} {i : Int} (h0 : 0 ≤ i) (h1 : i < xs.length) : ∃ h : i.toNat < xs.length, atI xs i = some xs[i.toNat] := by
  have h : i.toNat < xs.length := by omega
  refine ⟨h, ?_⟩
  unfold atI
  rw [ixN_in h0 h1]
  exact List.getElem?_eq_getElem h
end Mi

namespace Law
open PySem PySem.Spec PyProof.Rows L2 Mi
def dec_NotWord (m : Str) : Option Bool := if m = "YardsortError" then some false else if m = "BadNumber" then some false else if m = "NotMachine" then some false else if m = "NotWord" then some true else if m = "NoWord" then some false else none
def dec_NotMachine (m : Str) : Option Bool := if m = "YardsortError" then some false else if m = "BadNumber" then some false else if m = "NotMachine" then some true else if m = "NotWord" then some false else if m = "NoWord" then some false else none
def dec_NoWord (m : Str) : Option Bool := if m = "YardsortError" then some false else if m = "BadNumber" then some false else if m = "NotMachine" then some false else if m = "NotWord" then some false else if m = "NoWord" then some true else none
def dec_BadNumber (m : Str) : Option Bool := if m = "YardsortError" then some false else if m = "BadNumber" then some true else if m = "NotMachine" then some false else if m = "NotWord" then some false else if m = "NoWord" then some false else none
def lp_is_machine_0 : Rho → Out := (mFrz 5 (mIf (mOr (mTest (mOp (oOr oNeS oNe) (mCall cLen (mCons (mVar 5) mNil)) (mVar 1))) (mNot (mTru (mCall (cAll fun bs => bs.all id) (mCons (mComp (mIterS (mVar 5)) (bName 6) mYes (mChain oLe oLt (mC (.int (-1))) (mVar 6) (mVar 4)) [6]) mNil)))))
  (mRet (mC (.bool false)))
  mSkip))
def ms_is_machine : Rho → Out := (mSeq (mAsg (bTup (bCons (bName 1) (bCons (bName 2) (bCons (bName 3) bNil)))) (mVar 0))
  (mSeq (mSet 4 (mCall cLen (mCons (mVar 2) mNil)))
  (mSeq (mIf (mOr (mNot (mTest (mChain oLe oLe (mC (.int 1)) (mVar 1) (mC (.int (6)))))) (mOr (mTest (mOp oGt (mVar 4) (mC (.int (2000))))) (mTest (mOp (oOr oNeS oNe) (mCall cLen (mCons (mVar 3) mNil)) (mVar 4)))))
  (mRet (mC (.bool false)))
  mSkip)
  (mFrz 5 (mFrz 3 (mSeq (mFor (mIterS (mVar 3)) (bName 5)
  lp_is_machine_0)
  (mRet (mC (.bool true)))))))))
def M_is_machine : List Val → Res Val := mFn 7 ms_is_machine
theorem M_is_machine_eq (v0 : Val) : M_is_machine [v0] = fin (ms_is_machine [some v0, none, none, none, none, none, none]) := rfl
def ms_check_machine : Rho → Out := (mIf (mNot (mTru (mDef M_is_machine (mCons (mVar 0) mNil))))
  (mRaise "NotMachine")
  mSkip)
def M_check_machine : List Val → Res Val := mFn 1 ms_check_machine
theorem M_check_machine_eq (v0 : Val) : M_check_machine [v0] = fin (ms_check_machine [some v0]) := rfl
def stepD (L : Int) (T : List D) (s l : Int) : Option Int :=
  if s = -1 then some (-1) else if l ≤ L then (match atI T s with
    | some (.tuple r) => (atI r (l - 1)).bind intOf
    | _ => none) else some (-1)
def runD (L : Int) (T : List D) : Int → List Int → Option Int
  | s, [] => some s
  | s, l :: ls => if 1 ≤ l then (stepD L T s l).bind fun s' => runD L T s' ls else none
def accD (A : List D) (s : Int) : Option D := if s = -1 then some (.bool false) else atI A s
def startD (A : List D) : Int := if (0 : Int) < A.length then 0 else -1
def M_accepts : List Val → Res Val
  | [.sh (.tuple [.int L, .tuple A, .tuple T]), .sh (.list w)] => match M_check_machine [.sh (.tuple [.int L, .tuple A, .tuple T])], intsOf w with
    | .ok (.sh .none), some ns => match runD L T (startD A) ns with
      | some s => match accD A s with
        | some d => if flatD d = true then .ok (.sh d) else .no
        | none => .no
      | none => .no
    | _, _ => .no
  | _ => .no

def ms_leads : Rho → Out := (mRet (mComp (mIterEk (mCons (mVar 0) mNil) (mC (.int 1))) (bTup (bCons (bName 1) (bCons (bName 2) bNil))) (mTest (mOp (oOr oNeS oNe) (mVar 2) (mC (.int (-1))))) (mTup (mCons (mVar 1) (mCons (mVar 2) mNil))) [1, 2]))
def M_leads : List Val → Res Val := mFn 3 ms_leads
theorem M_leads_eq (v0 : Val) : M_leads [v0] = fin (ms_leads [some v0, none, none]) := rfl
def ms_check_length : Rho → Out := (mIf (mNot (mTest (mChain oLe oLe (mC (.int 0)) (mVar 0) (mC (.int (60))))))
  (mRaise "BadNumber")
  mSkip)
def M_check_length : List Val → Res Val := mFn 1 ms_check_length
theorem M_check_length_eq (v0 : Val) : M_check_length [v0] = fin (ms_check_length [some v0]) := rfl
def lp_tails_0 : Rho → Out := (mFrz 5 (mSeq (mSet 6 (mComp (mIterS (mVar 5)) (bName 8) mYes (mCall cSum (mCons (mComp (mIterS (mVar 8)) (bName 9) mYes (mOp oIx (mVar 6) (mVar 9)) [9]) mNil)) [8]))
  (mFrz 6 (mApp 7 (mVar 6)))))
def ms_tails : Rho → Out := (mSeq (mAsg (bTup (bCons (bName 2) (bCons (bName 3) (bCons (bName 4) bNil)))) (mVar 0))
  (mFrz 4 (mSeq (mSet 5 (mComp (mIterS (mVar 4)) (bName 8) mYes (mComp (mIterS (mVar 8)) (bName 9) (mTest (mOp (oOr oNeS oNe) (mVar 9) (mC (.int (-1))))) (mVar 9) [9]) [8]))
  (mFrz 3 (mSeq (mSet 6 (mComp (mIterS (mVar 3)) (bName 10) mYes (mIfE (mTru (mVar 10)) (mC (.int 1)) (mC (.int 0))) [10]))
  (mFrz 6 (mSeq (mSet 7 (mLst (mCons (mVar 6) mNil)))
  (mFrz 6 (mFrz 5 (mSeq (mFor (mIter1 (mCons (mVar 1) mNil)) (bName 2)
  lp_tails_0)
  (mRetV 7)))))))))))
def M_tails : List Val → Res Val := mFn 11 ms_tails
theorem M_tails_eq (v0 v1 : Val) : M_tails [v0, v1] = fin (ms_tails [some v0, some v1, none, none, none, none, none, none, none, none, none]) := rfl
def ms_many_words : Rho → Out := (mRet (mIfE (mTest (mOp oGt (mCall cLen (mCons (mOp oIx (mVar 0) (mC (.int 1))) mNil)) (mC (.int 0)))) (mOp oIx (mOp oIx (mVar 1) (mVar 2)) (mC (.int (0)))) (mC (.int 0))))
def M_many_words : List Val → Res Val := mFn 3 ms_many_words
theorem M_many_words_eq (v0 v1 v2 : Val) : M_many_words [v0, v1, v2] = fin (ms_many_words [some v0, some v1, some v2]) := rfl
def ms_count_words : Rho → Out := (mSeq (mDrop (mDef M_check_machine (mCons (mVar 0) mNil)))
  (mSeq (mDrop (mDef M_check_length (mCons (mVar 1) mNil)))
  (mRet (mDef M_many_words (mCons (mVar 0) (mCons (mDef M_tails (mCons (mVar 0) (mCons (mVar 1) mNil))) (mCons (mVar 1) mNil)))))))
def M_count_words : List Val → Res Val := mFn 2 ms_count_words
theorem M_count_words_eq (v0 v1 : Val) : M_count_words [v0, v1] = fin (ms_count_words [some v0, some v1]) := rfl
def ms__check_size : Rho → Out := (mIf (mTest (mOp oGt (mCall cLen (mCons (mVar 0) mNil)) (mC (.int (60)))))
  (mRaise "NotWord")
  mSkip)
def M__check_size : List Val → Res Val := mFn 1 ms__check_size
theorem M__check_size_eq (v0 : Val) : M__check_size [v0] = fin (ms__check_size [some v0]) := rfl
def lp_number_of_word_0 : Rho → Out := (mSeq (mSet 10 (mOp oIx (mVar 5) (mOp oSub (mOp oSub (mCall cLen (mCons (mVar 1) mNil)) (mVar 8)) (mC (.int 1)))))
  (mSeq (mSet 11 (mOp oIx (mVar 4) (mVar 7)))
  (mSeq (mAug 6 oAddI (mCall cSum (mCons (mComp (mIterS (mDef M_leads (mCons (mSlU (mVar 11) mNoPart (mPart (mOp oSub (mVar 9) (mC (.int 1))))) mNil))) (bTup (bCons (bName 3) (bCons (bName 12) bNil))) mYes (mOp oIx (mVar 10) (mVar 12)) [3, 12]) mNil)))
  (mSet 7 (mOp oIx (mVar 11) (mOp oSub (mVar 9) (mC (.int 1))))))))
def ms_number_of_word : Rho → Out := (mSeq (mDrop (mDef M_check_machine (mCons (mVar 0) mNil)))
  (mSeq (mDrop (mDef M__check_size (mCons (mVar 1) mNil)))
  (mSeq (mAsg (bTup (bCons (bName 2) (bCons (bName 3) (bCons (bName 4) bNil)))) (mVar 0))
  (mSeq (mIf (mNot (mTru (mCall (cAll fun bs => bs.all id) (mCons (mComp (mIterS (mVar 1)) (bName 9) mYes (mChain oLe oLe (mC (.int 1)) (mVar 9) (mVar 2)) [9]) mNil))))
  (mRaise "NotWord")
  mSkip)
  (mSeq (mIf (mNot (mTru (mDef M_accepts (mCons (mVar 0) (mCons (mVar 1) mNil)))))
  (mRaise "NoWord")
  mSkip)
  (mSeq (mSet 5 (mDef M_tails (mCons (mVar 0) (mCons (mCall cLen (mCons (mVar 1) mNil)) mNil))))
  (mSeq (mSet 6 (mC (.int 0)))
  (mSeq (mSet 7 (mC (.int (0))))
  (mSeq (mFor (mIterE (mCons (mVar 1) mNil)) (bTup (bCons (bName 8) (bCons (bName 9) bNil)))
  lp_number_of_word_0)
  (mRetV 6))))))))))
def M_number_of_word : List Val → Res Val := mFn 13 ms_number_of_word
theorem M_number_of_word_eq (v0 v1 : Val) : M_number_of_word [v0, v1] = fin (ms_number_of_word [some v0, some v1, none, none, none, none, none, none, none, none, none, none, none]) := rfl
def lp__tail_with_number_0 : Rho → Out := (mFrz 10 (mFrz 9 (mSeq (mIf (mTest (mOp oLt (mVar 4) (mOp oIx (mVar 7) (mVar 10))))
  (mFrz 9 (mSeq (mApp 5 (mVar 9))
  (mFrz 10 (mSeq (mSet 2 (mVar 10))
  mBrk))))
  mSkip)
  (mAug 4 oSub (mOp oIx (mVar 7) (mVar 10))))))
def lp__tail_with_number_1 : Rho → Out := (mSeq (mSet 7 (mOp oIx (mVar 1) (mVar 6)))
  (mSeq (mSet 8 (mDef M_leads (mCons (mOp oIx (mVar 0) (mVar 2)) mNil)))
  (mFrz 10 (mFrz 9 (mFrz 8 (mFor (mIterS (mVar 8)) (bTup (bCons (bName 9) (bCons (bName 10) bNil)))
  lp__tail_with_number_0))))))
def ms__tail_with_number : Rho → Out := (mSeq (mSet 5 (mLst mNil))
  (mFrz 10 (mFrz 9 (mFrz 8 (mSeq (mFor (mIter3 (mCons (mOp oSub (mVar 3) (mC (.int 1))) (mCons (mNeg (mC (.int 1))) (mCons (mNeg (mC (.int 1))) mNil)))) (bName 6)
  lp__tail_with_number_1)
  (mRetV 5))))))
def M__tail_with_number : List Val → Res Val := mFn 11 ms__tail_with_number
theorem M__tail_with_number_eq (v0 v1 v2 v3 v4 : Val) : M__tail_with_number [v0, v1, v2, v3, v4] = fin (ms__tail_with_number [some v0, some v1, some v2, some v3, some v4, none, none, none, none, none, none]) := rfl
def ms_word_with_number : Rho → Out := (mSeq (mDrop (mDef M_check_machine (mCons (mVar 0) mNil)))
  (mSeq (mDrop (mDef M_check_length (mCons (mVar 1) mNil)))
  (mSeq (mIf (mTest (mOp oLt (mVar 2) (mC (.int 0))))
  (mRaise "BadNumber")
  mSkip)
  (mSeq (mSet 3 (mDef M_tails (mCons (mVar 0) (mCons (mVar 1) mNil))))
  (mSeq (mIf (mTest (mOp oGe (mVar 2) (mDef M_many_words (mCons (mVar 0) (mCons (mVar 3) (mCons (mVar 1) mNil))))))
  (mRaise "NoWord")
  mSkip)
  (mRet (mDef M__tail_with_number (mCons (mOp oIx (mVar 0) (mC (.int 2))) (mCons (mVar 3) (mCons (mC (.int (0))) (mCons (mVar 1) (mCons (mVar 2) mNil))))))))))))
def M_word_with_number : List Val → Res Val := mFn 4 ms_word_with_number
theorem M_word_with_number_eq (v0 v1 v2 : Val) : M_word_with_number [v0, v1, v2] = fin (ms_word_with_number [some v0, some v1, some v2, none]) := rfl
def ms__law_cell : Rho → Out := (mSeq (mIf (mTest (mOp oLt (mVar 1) (mCall cLen (mCons (mVar 0) mNil))))
  (mRet (mOp oIx (mVar 0) (mVar 1)))
  mSkip)
  (mRet (mC (.int 0))))
def M__law_cell : List Val → Res Val := mFn 2 ms__law_cell
theorem M__law_cell_eq (v0 v1 : Val) : M__law_cell [v0, v1] = fin (ms__law_cell [some v0, some v1]) := rfl
def lp__law_values_0 : Rho → Out := (mIf (mTest (mOp oGe (mVar 4) (mOp oPow (mC (.int 10)) (mC (.int 12)))))
  (mSeq (mApp 3 (mOp oMod (mCall cIntB (mCons (mVar 4) mNil)) (mVar 2)))
  (mSet 4 (mOp oDivN (mVar 4) (mVar 2))))
  (mSeq (mSet 6 (mOp oMod (mOp oAddT (mOp oAddT (mOp oMul2 (mOp oMod (mCall cIntB (mCons (mVar 0) mNil)) (mC (.int 2147483647))) (mC (.int 48271))) (mOp oMul2 (mVar 5) (mC (.int 69621)))) (mC (.int 7))) (mC (.int 2147483647))))
  (mApp 3 (mOp oMod (mOp oMod (mOp oMul2 (mVar 6) (mC (.int 16807))) (mC (.int 2147483647))) (mVar 2)))))
def ms__law_values : Rho → Out := (mSeq (mSet 3 (mLst mNil))
  (mSeq (mSet 4 (mVar 0))
  (mSeq (mFor (mIter1 (mCons (mVar 1) mNil)) (bName 5)
  lp__law_values_0)
  (mRetV 3))))
def M__law_values : List Val → Res Val := mFn 7 ms__law_values
theorem M__law_values_eq (v0 v1 v2 : Val) : M__law_values [v0, v1, v2] = fin (ms__law_values [some v0, some v1, some v2, none, none, none, none]) := rfl
def lp__law_machine_0 : Rho → Out := (mSeq (mSet 8 (mSlU (mVar 4) (mPart (mOp oAddT (mVar 3) (mOp oMul2 (mVar 7) (mVar 2)))) (mPart (mOp oAddT (mVar 3) (mOp oMul2 (mOp oAddT (mVar 7) (mC (.int 1))) (mVar 2))))))
  (mFrz 8 (mApp 6 (mCall cTuple (mCons (mComp (mIterS (mVar 8)) (bName 10) mYes (mOp oSub (mOp oMod (mVar 10) (mOp oAddT (mVar 3) (mC (.int 1)))) (mC (.int 1))) [10]) mNil)))))
def ms__law_machine : Rho → Out := (mSeq (mSet 3 (mOp oMod (mVar 1) (mC (.int 5))))
  (mSeq (mSet 4 (mDef M__law_values (mCons (mVar 0) (mCons (mOp oMul2 (mVar 3) (mOp oAddT (mVar 2) (mC (.int 1)))) (mCons (mC (.int 97)) mNil)))))
  (mSeq (mSet 5 (mCall cTuple (mCons (mComp (mIter1 (mCons (mVar 3) mNil)) (bName 9) mYes (mOp (oOr oEqS oEq) (mOp oMod (mOp oIx (mVar 4) (mVar 9)) (mC (.int 2))) (mC (.int 1))) [9]) mNil)))
  (mSeq (mSet 6 (mLst mNil))
  (mFrz 8 (mSeq (mFor (mIter1 (mCons (mVar 3) mNil)) (bName 7)
  lp__law_machine_0)
  (mFrz 5 (mRet (mTup (mCons (mVar 2) (mCons (mVar 5) (mCons (mCall cTuple (mCons (mVar 6) mNil)) mNil))))))))))))
def M__law_machine : List Val → Res Val := mFn 11 ms__law_machine
theorem M__law_machine_eq (v0 v1 v2 : Val) : M__law_machine [v0, v1, v2] = fin (ms__law_machine [some v0, some v1, some v2, none, none, none, none, none, none, none, none]) := rfl
def lp__law_accepts_0 : Rho → Out := (mIf (mTest (mOp oGe (mVar 2) (mC (.int 0))))
  (mSet 2 (mIfE (mTest (mChain oLe oLe (mC (.int 1)) (mVar 3) (mOp oIx (mVar 0) (mC (.int 0))))) (mOp oIx (mOp oIx (mOp oIx (mVar 0) (mC (.int 2))) (mVar 2)) (mOp oSub (mVar 3) (mC (.int 1)))) (mNeg (mC (.int 1)))))
  mSkip)
def ms__law_accepts : Rho → Out := (mSeq (mSet 2 (mIfE (mTest (mOp oGt (mCall cLen (mCons (mOp oIx (mVar 0) (mC (.int 1))) mNil)) (mC (.int 0)))) (mC (.int 0)) (mNeg (mC (.int 1)))))
  (mSeq (mFor (mIterS (mVar 1)) (bName 3)
  lp__law_accepts_0)
  (mRet (mAndV (mOp oGe (mVar 2) (mC (.int 0))) (mOp oIx (mOp oIx (mVar 0) (mC (.int 1))) (mVar 2))))))
def M__law_accepts : List Val → Res Val := mFn 4 ms__law_accepts
theorem M__law_accepts_eq (v0 v1 : Val) : M__law_accepts [v0, v1] = fin (ms__law_accepts [some v0, some v1, none, none]) := rfl
def lp__law_words_0 : Rho → Out := (mSet 4 (mOp oAddT (mVar 4) (mComp (mIter2 (mCons (mC (.int 1)) (mCons (mOp oAddT (mOp oIx (mVar 0) (mC (.int 0))) (mC (.int 1))) mNil))) (bName 6) mYes (mOp oAddT (mVar 5) (mLst (mCons (mVar 6) mNil))) [6])))
def lp__law_words_1 : Rho → Out := (mSeq (mSet 4 (mLst mNil))
  (mFrz 2 (mSeq (mFor (mIterS (mVar 2)) (bName 5)
  lp__law_words_0)
  (mSet 2 (mCall cList (mCons (mVar 4) mNil))))))
def ms__law_words : Rho → Out := (mSeq (mSet 2 (mLst (mCons (mLst mNil) mNil)))
  (mFrz 2 (mSeq (mFor (mIter1 (mCons (mVar 1) mNil)) (bName 3)
  lp__law_words_1)
  (mFrz 2 (mRet (mComp (mIterS (mVar 2)) (bName 5) (mTru (mDef M__law_accepts (mCons (mVar 0) (mCons (mVar 5) mNil)))) (mVar 5) [5]))))))
def M__law_words : List Val → Res Val := mFn 7 ms__law_words
theorem M__law_words_eq (v0 v1 : Val) : M__law_words [v0, v1] = fin (ms__law_words [some v0, some v1, none, none, none, none, none]) := rfl
def ms__law_told : Rho → Out := (mTryM (mSeq (mIf (mTest (mOp (oIsN false) (mVar 2) (mC .none)))
  (mRet (mDef M_number_of_word (mCons (mVar 0) (mCons (mVar 1) mNil))))
  mSkip)
  (mRet (mDef M_word_with_number (mCons (mVar 0) (mCons (mVar 1) (mCons (mVar 2) mNil)))))) [(dec_NotMachine, (mRet (mC (.str "machine")))), (dec_BadNumber, (mRet (mC (.str "number")))), (dec_NotWord, (mRet (mC (.str "letters")))), (dec_NoWord, (mRet (mC (.str "none"))))])
def M__law_told : List Val → Res Val := mFn 3 ms__law_told
theorem M__law_told_eq (v0 v1 v2 : Val) : M__law_told [v0, v1, v2] = fin (ms__law_told [some v0, some v1, some v2]) := rfl
def lp_law_0 : Rho → Out := (mIf (mOr (mTest (mOp (oOr oNeS oNe) (mCall cRepr (mCons (mDef M__law_told (mCons (mVar 1) (mCons (mVar 2) (mCons (mVar 4) mNil)))) mNil)) (mCall cRepr (mCons (mOp oIx (mVar 3) (mVar 4)) mNil)))) (mTest (mOp (oOr oNeS oNe) (mCall cRepr (mCons (mDef M__law_told (mCons (mVar 1) (mCons (mOp oIx (mVar 3) (mVar 4)) (mCons (mC .none) mNil)))) mNil)) (mCall cRepr (mCons (mVar 4) mNil)))))
  (mRet (mC (.bool false)))
  mSkip)
def lp_law_1 : Rho → Out := (mIf (mTest (mOp (oOr oNeS oNe) (mDef M__law_told (mCons (mVar 1) (mCons (mVar 7) (mCons (mC .none) mNil)))) (mC (.str "letters"))))
  (mRet (mC (.bool false)))
  mSkip)
def ms_law : Rho → Out := (mSeq (mSet 1 (mDef M__law_machine (mCons (mDef M__law_cell (mCons (mVar 0) (mCons (mC (.int 0)) mNil))) (mCons (mDef M__law_cell (mCons (mVar 0) (mCons (mC (.int 1)) mNil))) (mCons (mOp oAddT (mC (.int 1)) (mOp oMod (mOp oDivN (mDef M__law_cell (mCons (mVar 0) (mCons (mC (.int 1)) mNil))) (mC (.int 5))) (mC (.int 3)))) mNil)))))
  (mSeq (mSet 2 (mOp oMod (mDef M__law_cell (mCons (mVar 0) (mCons (mC (.int 2)) mNil))) (mC (.int 5))))
  (mSeq (mSet 3 (mDef M__law_words (mCons (mVar 1) (mCons (mVar 2) mNil))))
  (mSeq (mFor (mIter1 (mCons (mCall (cInt2 fun i j => if j < i then j else i) (mCons (mCall cLen (mCons (mVar 3) mNil)) (mCons (mC (.int 20)) mNil))) mNil)) (bName 4)
  lp_law_0)
  (mSeq (mIf (mTest (mOp (oOr oNeS oNe) (mDef M__law_told (mCons (mVar 1) (mCons (mVar 2) (mCons (mOp oAddT (mCall cLen (mCons (mVar 3) mNil)) (mOp oMod (mDef M__law_cell (mCons (mVar 0) (mCons (mC (.int 3)) mNil))) (mC (.int 9)))) mNil)))) (mC (.str "none"))))
  (mRet (mC (.bool false)))
  mSkip)
  (mSeq (mSet 5 (mComp (mIterS (mDef M__law_values (mCons (mDef M__law_cell (mCons (mVar 0) (mCons (mC (.int 4)) mNil))) (mCons (mVar 2) (mCons (mC (.int 97)) mNil))))) (bName 12) mYes (mOp oAddT (mC (.int 1)) (mOp oMod (mVar 12) (mOp oIx (mVar 1) (mC (.int 0))))) [12]))
  (mSeq (mSet 6 (mIfE (mTest (mOp oInD (mVar 5) (mVar 3))) (mMeth "list" kIndexD (mVar 3) (mCons (mVar 5) mNil)) (mC (.str "none"))))
  (mSeq (mIf (mTest (mOp (oOr oNeS oNe) (mCall cRepr (mCons (mDef M__law_told (mCons (mVar 1) (mCons (mCall cList (mCons (mVar 5) mNil)) (mCons (mC .none) mNil)))) mNil)) (mCall cRepr (mCons (mVar 6) mNil))))
  (mRet (mC (.bool false)))
  mSkip)
  (mSeq (mFor (mIterS (mLst (mCons (mOp oAddT (mVar 5) (mLst (mCons (mC (.int 0)) mNil))) (mCons (mOp oAddT (mVar 5) (mLst (mCons (mOp oAddT (mOp oIx (mVar 1) (mC (.int 0))) (mC (.int 1))) mNil))) (mCons (mOp oMul2 (mLst (mCons (mC (.int 1)) mNil)) (mC (.int 61))) (mCons (mOp oAddT (mLst (mCons (mNeg (mC (.int 1))) mNil)) (mVar 5)) mNil)))))) (bName 7)
  lp_law_1)
  (mSeq (mIf (mOr (mTest (mOp (oOr oNeS oNe) (mDef M__law_told (mCons (mVar 1) (mCons (mVar 2) (mCons (mNeg (mC (.int 1))) mNil)))) (mC (.str "number")))) (mTest (mOp (oOr oNeS oNe) (mDef M__law_told (mCons (mVar 1) (mCons (mNeg (mC (.int 1))) (mCons (mC (.int 0)) mNil)))) (mC (.str "number")))))
  (mRet (mC (.bool false)))
  mSkip)
  (mSeq (mIf (mOr (mTest (mOp (oOr oNeS oNe) (mDef M__law_told (mCons (mVar 1) (mCons (mC (.int 61)) (mCons (mC (.int 0)) mNil)))) (mC (.str "number")))) (mTest (mOp (oOr oNeS oNe) (mDef M__law_told (mCons (mTup (mCons (mC (.int 7)) (mCons (mTup mNil) (mCons (mTup mNil) mNil)))) (mCons (mNeg (mC (.int 1))) (mCons (mNeg (mC (.int 1))) mNil)))) (mC (.str "machine")))))
  (mRet (mC (.bool false)))
  mSkip)
  (mSeq (mSet 8 (mOp oMod (mDef M__law_cell (mCons (mVar 0) (mCons (mC (.int 5)) mNil))) (mC (.int 61))))
  (mSeq (mSet 9 (mDef M_count_words (mCons (mVar 1) (mCons (mVar 8) mNil))))
  (mSeq (mIf (mTest (mOp (oOr oEqS oEq) (mVar 9) (mC (.int 0))))
  (mRet (mOp (oOr oEqS oEq) (mDef M__law_told (mCons (mVar 1) (mCons (mVar 8) (mCons (mC (.int 0)) mNil)))) (mC (.str "none"))))
  mSkip)
  (mSeq (mSet 10 (mOp oMod (mDef M__law_cell (mCons (mVar 0) (mCons (mC (.int 6)) mNil))) (mVar 9)))
  (mSeq (mSet 11 (mDef M__law_told (mCons (mVar 1) (mCons (mVar 8) (mCons (mVar 10) mNil)))))
  (mSeq (mIf (mOr (mNot (mTru (mIsT "list" (mVar 11)))) (mOr (mTest (mOp (oOr oNeS oNe) (mCall cLen (mCons (mVar 11) mNil)) (mVar 8))) (mNot (mTru (mDef M__law_accepts (mCons (mVar 1) (mCons (mVar 11) mNil)))))))
  (mRet (mC (.bool false)))
  mSkip)
  (mRet (mOp (oOr oEqS oEq) (mCall cRepr (mCons (mDef M__law_told (mCons (mVar 1) (mCons (mCall cList (mCons (mVar 11) mNil)) (mCons (mC .none) mNil)))) mNil)) (mCall cRepr (mCons (mVar 10) mNil)))))))))))))))))))))
def M_law : List Val → Res Val := mFn 13 ms_law
theorem M_law_eq (v0 : Val) : M_law [v0] = fin (ms_law [some v0, none, none, none, none, none, none, none, none, none, none, none, none]) := rfl
end Law

namespace Law
open PySem PySem.Spec PyProof.Rows L2 Mi
set_option maxHeartbeats 4000000
def topS (i : Nat) : Stmt := PySem.Challenge.pw_yardsort_k67_numbers_of_words.main.body.getD i (.Pass ⟨0, 0, 0, 0⟩)
abbrev s_is_machine : Stmt := topS 11
abbrev N_is_machine : List Str := ["machine", "letters", "accepting", "table", "states", "row", "target"]
abbrev P_is_machine : List Str := ["machine"]
theorem sc_is_machine : FnScope N_is_machine P_is_machine (defScope s_is_machine) := ⟨rfl, rfl, rfl, by decide +kernel, rfl, by decide +kernel, by decide +kernel⟩
abbrev s_check_machine : Stmt := topS 12
abbrev N_check_machine : List Str := ["machine"]
abbrev P_check_machine : List Str := ["machine"]
theorem sc_check_machine : FnScope N_check_machine P_check_machine (defScope s_check_machine) := ⟨rfl, rfl, rfl, by decide +kernel, rfl, by decide +kernel, by decide +kernel⟩
abbrev s_accepts : Stmt := topS 14
abbrev N_accepts : List Str := ["machine", "word", "walker", "letter"]
abbrev P_accepts : List Str := ["machine", "word"]
theorem sc_accepts : FnScope N_accepts P_accepts (defScope s_accepts) := ⟨rfl, rfl, rfl, by decide +kernel, rfl, by decide +kernel, by decide +kernel⟩
abbrev s_leads : Stmt := topS 17
abbrev N_leads : List Str := ["targets", "letter", "target"]
abbrev P_leads : List Str := ["targets"]
theorem sc_leads : FnScope N_leads P_leads (defScope s_leads) := ⟨rfl, rfl, rfl, by decide +kernel, rfl, by decide +kernel, by decide +kernel⟩
abbrev s_check_length : Stmt := topS 18
abbrev N_check_length : List Str := ["length"]
abbrev P_check_length : List Str := ["length"]
theorem sc_check_length : FnScope N_check_length P_check_length (defScope s_check_length) := ⟨rfl, rfl, rfl, by decide +kernel, rfl, by decide +kernel, by decide +kernel⟩
abbrev s_tails : Stmt := topS 19
abbrev N_tails : List Str := ["machine", "length", "_", "accepting", "table", "onward", "many", "found", "targets", "target", "flag"]
abbrev P_tails : List Str := ["machine", "length"]
theorem sc_tails : FnScope N_tails P_tails (defScope s_tails) := ⟨rfl, rfl, rfl, by decide +kernel, rfl, by decide +kernel, by decide +kernel⟩
abbrev s_many_words : Stmt := topS 20
abbrev N_many_words : List Str := ["machine", "ways", "length"]
abbrev P_many_words : List Str := ["machine", "ways", "length"]
theorem sc_many_words : FnScope N_many_words P_many_words (defScope s_many_words) := ⟨rfl, rfl, rfl, by decide +kernel, rfl, by decide +kernel, by decide +kernel⟩
abbrev s_count_words : Stmt := topS 22
abbrev N_count_words : List Str := ["machine", "length"]
abbrev P_count_words : List Str := ["machine", "length"]
theorem sc_count_words : FnScope N_count_words P_count_words (defScope s_count_words) := ⟨rfl, rfl, rfl, by decide +kernel, rfl, by decide +kernel, by decide +kernel⟩
abbrev s__check_size : Stmt := topS 23
abbrev N__check_size : List Str := ["word"]
abbrev P__check_size : List Str := ["word"]
theorem sc__check_size : FnScope N__check_size P__check_size (defScope s__check_size) := ⟨rfl, rfl, rfl, by decide +kernel, rfl, by decide +kernel, by decide +kernel⟩
abbrev s_number_of_word : Stmt := topS 24
abbrev N_number_of_word : List Str := ["machine", "word", "letters", "_", "table", "ways", "number", "state", "at", "letter", "many", "targets", "target"]
abbrev P_number_of_word : List Str := ["machine", "word"]
theorem sc_number_of_word : FnScope N_number_of_word P_number_of_word (defScope s_number_of_word) := ⟨rfl, rfl, rfl, by decide +kernel, rfl, by decide +kernel, by decide +kernel⟩
abbrev s__tail_with_number : Stmt := topS 25
abbrev N__tail_with_number : List Str := ["table", "ways", "state", "length", "number", "tail", "left", "many", "onward", "letter", "target"]
abbrev P__tail_with_number : List Str := ["table", "ways", "state", "length", "number"]
theorem sc__tail_with_number : FnScope N__tail_with_number P__tail_with_number (defScope s__tail_with_number) := ⟨rfl, rfl, rfl, by decide +kernel, rfl, by decide +kernel, by decide +kernel⟩
abbrev s_word_with_number : Stmt := topS 26
abbrev N_word_with_number : List Str := ["machine", "length", "number", "ways"]
abbrev P_word_with_number : List Str := ["machine", "length", "number"]
theorem sc_word_with_number : FnScope N_word_with_number P_word_with_number (defScope s_word_with_number) := ⟨rfl, rfl, rfl, by decide +kernel, rfl, by decide +kernel, by decide +kernel⟩
abbrev s__law_cell : Stmt := topS 28
abbrev N__law_cell : List Str := ["script", "k"]
abbrev P__law_cell : List Str := ["script", "k"]
theorem sc__law_cell : FnScope N__law_cell P__law_cell (defScope s__law_cell) := ⟨rfl, rfl, rfl, by decide +kernel, rfl, by decide +kernel, by decide +kernel⟩
abbrev s__law_values : Stmt := topS 29
abbrev N__law_values : List Str := ["cell", "count", "size", "values", "rest", "k", "mixed"]
abbrev P__law_values : List Str := ["cell", "count", "size"]
theorem sc__law_values : FnScope N__law_values P__law_values (defScope s__law_values) := ⟨rfl, rfl, rfl, by decide +kernel, rfl, by decide +kernel, by decide +kernel⟩
abbrev s__law_machine : Stmt := topS 30
abbrev N__law_machine : List Str := ["cell", "second", "letters", "count", "values", "accepting", "table", "state", "row", "k", "value"]
abbrev P__law_machine : List Str := ["cell", "second", "letters"]
theorem sc__law_machine : FnScope N__law_machine P__law_machine (defScope s__law_machine) := ⟨rfl, rfl, rfl, by decide +kernel, rfl, by decide +kernel, by decide +kernel⟩
abbrev s__law_accepts : Stmt := topS 31
abbrev N__law_accepts : List Str := ["machine", "word", "state", "letter"]
abbrev P__law_accepts : List Str := ["machine", "word"]
theorem sc__law_accepts : FnScope N__law_accepts P__law_accepts (defScope s__law_accepts) := ⟨rfl, rfl, rfl, by decide +kernel, rfl, by decide +kernel, by decide +kernel⟩
abbrev s__law_words : Stmt := topS 32
abbrev N__law_words : List Str := ["machine", "length", "words", "k", "longer", "word", "letter"]
abbrev P__law_words : List Str := ["machine", "length"]
theorem sc__law_words : FnScope N__law_words P__law_words (defScope s__law_words) := ⟨rfl, rfl, rfl, by decide +kernel, rfl, by decide +kernel, by decide +kernel⟩
abbrev s__law_told : Stmt := topS 33
abbrev N__law_told : List Str := ["machine", "what", "number"]
abbrev P__law_told : List Str := ["machine", "what", "number"]
theorem sc__law_told : FnScope N__law_told P__law_told (defScope s__law_told) := ⟨rfl, rfl, rfl, by decide +kernel, rfl, by decide +kernel, by decide +kernel⟩
abbrev s_law : Stmt := topS 34
abbrev N_law : List Str := ["script", "machine", "small", "words", "k", "other", "due", "bad", "length", "count", "number", "word", "value"]
abbrev P_law : List Str := ["script"]
theorem sc_law : FnScope N_law P_law (defScope s_law) := ⟨rfl, rfl, rfl, by decide +kernel, rfl, by decide +kernel, by decide +kernel⟩
abbrev s_Walker : Stmt := topS 13
structure Fx (K : PySem.W.Frag) (mg : Str → Option Value) (a_is_machine a_check_machine a_accepts a_leads a_check_length a_tails a_many_words a_count_words a__check_size a_number_of_word a__tail_with_number a_word_with_number a__law_cell a__law_values a__law_machine a__law_accepts a__law_words a__law_told a_law a_Winit a_Wread a_Wacc p_Wacc C_Walker : Addr) (d_is_machine d_check_machine d_accepts d_leads d_check_length d_tails d_many_words d_count_words d__check_size d_number_of_word d__tail_with_number d_word_with_number d__law_cell d__law_values d__law_machine d__law_accepts d__law_words d__law_told d_law d_Winit d_Wread d_Wacc : FuncData) (C_BadNumber C_NoWord C_NotMachine C_NotWord C_YardsortError : Addr) : Prop where
  g_is_machine : mg "is_machine" = some (.ref a_is_machine)
  f_is_machine : Fun K "is_machine" "is_machine" s_is_machine a_is_machine d_is_machine
  b_is_machine : Binds K d_is_machine P_is_machine []
  g_check_machine : mg "check_machine" = some (.ref a_check_machine)
  f_check_machine : Fun K "check_machine" "check_machine" s_check_machine a_check_machine d_check_machine
  b_check_machine : Binds K d_check_machine P_check_machine []
  g_accepts : mg "accepts" = some (.ref a_accepts)
  f_accepts : Fun K "accepts" "accepts" s_accepts a_accepts d_accepts
  b_accepts : Binds K d_accepts P_accepts []
  g_leads : mg "leads" = some (.ref a_leads)
  f_leads : Fun K "leads" "leads" s_leads a_leads d_leads
  b_leads : Binds K d_leads P_leads []
  g_check_length : mg "check_length" = some (.ref a_check_length)
  f_check_length : Fun K "check_length" "check_length" s_check_length a_check_length d_check_length
  b_check_length : Binds K d_check_length P_check_length []
  g_tails : mg "tails" = some (.ref a_tails)
  f_tails : Fun K "tails" "tails" s_tails a_tails d_tails
  b_tails : Binds K d_tails P_tails []
  g_many_words : mg "many_words" = some (.ref a_many_words)
  f_many_words : Fun K "many_words" "many_words" s_many_words a_many_words d_many_words
  b_many_words : Binds K d_many_words P_many_words []
  g_count_words : mg "count_words" = some (.ref a_count_words)
  f_count_words : Fun K "count_words" "count_words" s_count_words a_count_words d_count_words
  b_count_words : Binds K d_count_words P_count_words []
  g__check_size : mg "_check_size" = some (.ref a__check_size)
  f__check_size : Fun K "_check_size" "_check_size" s__check_size a__check_size d__check_size
  b__check_size : Binds K d__check_size P__check_size []
  g_number_of_word : mg "number_of_word" = some (.ref a_number_of_word)
  f_number_of_word : Fun K "number_of_word" "number_of_word" s_number_of_word a_number_of_word d_number_of_word
  b_number_of_word : Binds K d_number_of_word P_number_of_word []
  g__tail_with_number : mg "_tail_with_number" = some (.ref a__tail_with_number)
  f__tail_with_number : Fun K "_tail_with_number" "_tail_with_number" s__tail_with_number a__tail_with_number d__tail_with_number
  b__tail_with_number : Binds K d__tail_with_number P__tail_with_number []
  g_word_with_number : mg "word_with_number" = some (.ref a_word_with_number)
  f_word_with_number : Fun K "word_with_number" "word_with_number" s_word_with_number a_word_with_number d_word_with_number
  b_word_with_number : Binds K d_word_with_number P_word_with_number []
  g__law_cell : mg "_law_cell" = some (.ref a__law_cell)
  f__law_cell : Fun K "_law_cell" "_law_cell" s__law_cell a__law_cell d__law_cell
  b__law_cell : Binds K d__law_cell P__law_cell []
  g__law_values : mg "_law_values" = some (.ref a__law_values)
  f__law_values : Fun K "_law_values" "_law_values" s__law_values a__law_values d__law_values
  b__law_values : Binds K d__law_values P__law_values []
  g__law_machine : mg "_law_machine" = some (.ref a__law_machine)
  f__law_machine : Fun K "_law_machine" "_law_machine" s__law_machine a__law_machine d__law_machine
  b__law_machine : Binds K d__law_machine P__law_machine []
  g__law_accepts : mg "_law_accepts" = some (.ref a__law_accepts)
  f__law_accepts : Fun K "_law_accepts" "_law_accepts" s__law_accepts a__law_accepts d__law_accepts
  b__law_accepts : Binds K d__law_accepts P__law_accepts []
  g__law_words : mg "_law_words" = some (.ref a__law_words)
  f__law_words : Fun K "_law_words" "_law_words" s__law_words a__law_words d__law_words
  b__law_words : Binds K d__law_words P__law_words []
  g__law_told : mg "_law_told" = some (.ref a__law_told)
  f__law_told : Fun K "_law_told" "_law_told" s__law_told a__law_told d__law_told
  b__law_told : Binds K d__law_told P__law_told []
  g_law : mg "law" = some (.ref a_law)
  f_law : Fun K "law" "law" s_law a_law d_law
  b_law : Binds K d_law P_law []
  w_C : mg "Walker" = some (.ref C_Walker)
  w_mk : Mk K C_Walker a_Winit
  w_cl : Cls K C_Walker
  w_n1 : NoAttr K C_Walker "_machine"
  w_n2 : NoAttr K C_Walker "state"
  w_rd : Meth K C_Walker "read" a_Wread
  w_pr : PropOf K C_Walker "is_accepted" p_Wacc a_Wacc
  w_fI : Fun K "__init__" "Walker.__init__" (inClass s_Walker 0) a_Winit d_Winit
  w_bI : Binds K d_Winit ["self", "machine"] []
  w_fR : Fun K "read" "Walker.read" (inClass s_Walker 1) a_Wread d_Wread
  w_bR : Binds K d_Wread ["self", "letter"] []
  w_fA : Fun K "is_accepted" "Walker.is_accepted" (inClass s_Walker 2) a_Wacc d_Wacc
  w_bA : Binds K d_Wacc ["self"] []
  n_all : mg "all" = none
  n_enumerate : mg "enumerate" = none
  n_int : mg "int" = none
  n_isinstance : mg "isinstance" = none
  n_len : mg "len" = none
  n_list : mg "list" = none
  n_min : mg "min" = none
  n_range : mg "range" = none
  n_repr : mg "repr" = none
  n_sum : mg "sum" = none
  n_tuple : mg "tuple" = none
  c_DEAD : ∃ t, mg "DEAD" = some (.int (-1) t)
  c_MOST_LENGTH : ∃ t, mg "MOST_LENGTH" = some (.int (60) t)
  c_MOST_LETTERS : ∃ t, mg "MOST_LETTERS" = some (.int (6) t)
  c_MOST_STATES : ∃ t, mg "MOST_STATES" = some (.int (2000) t)
  c_START : ∃ t, mg "START" = some (.int (0) t)
  e_BadNumber : mg "BadNumber" = some (.ref C_BadNumber)
  x_BadNumber : PySem.W.excIn K C_BadNumber [.type "ValueError", .type "Exception", .type "BaseException", .type "object"] "ValueError.__new__" = true
  k_BadNumber : PySem.W.keepIn K (.ref C_BadNumber) = true
  r_BadNumber : PySem.W.subIn K (.ref C_BadNumber) (.type "BaseException") = some true
  t_BadNumber : PySem.W.typeIn K (.ref C_BadNumber) = some (.type "type")
  e_NoWord : mg "NoWord" = some (.ref C_NoWord)
  x_NoWord : PySem.W.excIn K C_NoWord [.type "ValueError", .type "Exception", .type "BaseException", .type "object"] "ValueError.__new__" = true
  k_NoWord : PySem.W.keepIn K (.ref C_NoWord) = true
  r_NoWord : PySem.W.subIn K (.ref C_NoWord) (.type "BaseException") = some true
  t_NoWord : PySem.W.typeIn K (.ref C_NoWord) = some (.type "type")
  e_NotMachine : mg "NotMachine" = some (.ref C_NotMachine)
  x_NotMachine : PySem.W.excIn K C_NotMachine [.type "ValueError", .type "Exception", .type "BaseException", .type "object"] "ValueError.__new__" = true
  k_NotMachine : PySem.W.keepIn K (.ref C_NotMachine) = true
  r_NotMachine : PySem.W.subIn K (.ref C_NotMachine) (.type "BaseException") = some true
  t_NotMachine : PySem.W.typeIn K (.ref C_NotMachine) = some (.type "type")
  e_NotWord : mg "NotWord" = some (.ref C_NotWord)
  x_NotWord : PySem.W.excIn K C_NotWord [.type "ValueError", .type "Exception", .type "BaseException", .type "object"] "ValueError.__new__" = true
  k_NotWord : PySem.W.keepIn K (.ref C_NotWord) = true
  r_NotWord : PySem.W.subIn K (.ref C_NotWord) (.type "BaseException") = some true
  t_NotWord : PySem.W.typeIn K (.ref C_NotWord) = some (.type "type")
  e_YardsortError : mg "YardsortError" = some (.ref C_YardsortError)
  x_YardsortError : PySem.W.excIn K C_YardsortError [.type "ValueError", .type "Exception", .type "BaseException", .type "object"] "ValueError.__new__" = true
  k_YardsortError : PySem.W.keepIn K (.ref C_YardsortError) = true
  r_YardsortError : PySem.W.subIn K (.ref C_YardsortError) (.type "BaseException") = some true
  t_YardsortError : PySem.W.typeIn K (.ref C_YardsortError) = some (.type "type")
  d_BadNumber : Decs K mg (.ref C_BadNumber) dec_BadNumber
  d_NoWord : Decs K mg (.ref C_NoWord) dec_NoWord
  d_NotMachine : Decs K mg (.ref C_NotMachine) dec_NotMachine
  d_NotWord : Decs K mg (.ref C_NotWord) dec_NotWord
section
variable {P : Program} {w : World} {K : PySem.W.Frag} {mg : Str → Option Value} {base : Heap} {a_is_machine a_check_machine a_accepts a_leads a_check_length a_tails a_many_words a_count_words a__check_size a_number_of_word a__tail_with_number a_word_with_number a__law_cell a__law_values a__law_machine a__law_accepts a__law_words a__law_told a_law a_Winit a_Wread a_Wacc p_Wacc C_Walker : Addr} {d_is_machine d_check_machine d_accepts d_leads d_check_length d_tails d_many_words d_count_words d__check_size d_number_of_word d__tail_with_number d_word_with_number d__law_cell d__law_values d__law_machine d__law_accepts d__law_words d__law_told d_law d_Winit d_Wread d_Wacc : FuncData} {C_BadNumber C_NoWord C_NotMachine C_NotWord C_YardsortError : Addr}
theorem ok_is_machine (T : Fx K mg a_is_machine a_check_machine a_accepts a_leads a_check_length a_tails a_many_words a_count_words a__check_size a_number_of_word a__tail_with_number a_word_with_number a__law_cell a__law_values a__law_machine a__law_accepts a__law_words a__law_told a_law a_Winit a_Wread a_Wacc p_Wacc C_Walker d_is_machine d_check_machine d_accepts d_leads d_check_length d_tails d_many_words d_count_words d__check_size d_number_of_word d__tail_with_number d_word_with_number d__law_cell d__law_values d__law_machine d__law_accepts d__law_words d__law_told d_law d_Winit d_Wread d_Wacc C_BadNumber C_NoWord C_NotMachine C_NotWord C_YardsortError) : FnG P w K mg base 1 a_is_machine d_is_machine P_is_machine (spM K mg 1 M_is_machine) := by
  refine def_ok (N := N_is_machine) (ps := P_is_machine) (k := 0) (ms := ms_is_machine) T.f_is_machine sc_is_machine fun cdv A outer s H E gd hr => ?_
  have tk : Takes (cxOf (L2.CX P w) P w K mg base N_is_machine "is_machine" (defScope s_is_machine) a_is_machine cdv A outer s H E) (wOf E) := takes_of rfl rfl rfl rfl
  exact ⟨_, (pmss_cons (pms_asg (pm_var 0) (pmg_tup rfl (pmg_cons (pmg_name 1 sc_is_machine.nd) (pmg_cons (pmg_name 2 sc_is_machine.nd) (pmg_cons (pmg_name 3 sc_is_machine.nd) pmg_nil)))))
    (pmss_cons (pms_set 4 sc_is_machine.nd (pm_callB (call_lenK (K := K)) (cs_len (K := K)) T.n_len (by decide +kernel) (pma_cons (pm_var 2) pma_nil)))
    (pmss_cons (pms_if (PMW.t (pmw_or (pmt_not (pmt_chain op_le op_le (os_le (K := K)) (os_le (K := K)) pm_int (pm_var 1) (pm_globI T.c_MOST_LETTERS))) (pmw_or (pmt_cmp op_gt (os_gt (K := K)) (pm_var 4) (pm_globI T.c_MOST_STATES)) (pmw_or1 (pmt_cmp (or_op op_ne (op_neDK (K := K) hr.units)) (os_or (os_neS (K := K)) (os_ne (K := K))) (pm_callB (call_lenK (K := K)) (cs_len (K := K)) T.n_len (by decide +kernel) (pma_cons (pm_var 3) pma_nil)) (pm_var 4))))))
    (pmss_one (pms_ret pm_bl))
    pmss_nil)
    (pmss_frz 5 (pmss_frz 3 (pmss_cons (pms_for (passes_of rfl) rfl (pmi_s (K := K) (pm_var 3)) (pmg_name 5 sc_is_machine.nd)
    (pmss_frz 5 (pmss_one (pms_if (PMW.t (pmw_or (pmt_cmp (or_op op_ne (op_neDK (K := K) hr.units)) (os_or (os_neS (K := K)) (os_ne (K := K))) (pm_callB (call_lenK (K := K)) (cs_len (K := K)) T.n_len (by decide +kernel) (pma_cons (pm_var 5) pma_nil)) (pm_var 1)) (pmw_or1 (pmt_not (pmt_truK (K := K) (pm_callB (cr_allK (K := K)) (cs_all (K := K)) T.n_all (by decide +kernel) (pma_cons (pm_lc [("target", 6)] rfl sc_is_machine.nd (pmi_s (K := K) (pm_var 5)) (blkOk_by (own := [("target", 6)]) (N := N_is_machine) (sc := defScope s_is_machine) (by decide +kernel)) (by decide) (fun _ _ _ _ _ => (pmg_name 6 sc_is_machine.nd)) (fun _ _ _ _ _ => pmts_nil) (fun _ _ _ _ _ => (pm_chain op_le op_lt (os_le (K := K)) (os_lt (K := K)) (pm_globI T.c_DEAD) (pm_var 6) (pm_var 4)))) pma_nil)))))))
    (pmss_one (pms_ret pm_bl))
    pmss_nil))))
    (pmss_one (pms_ret pm_bl))))))))⟩
theorem ok_check_machine (T : Fx K mg a_is_machine a_check_machine a_accepts a_leads a_check_length a_tails a_many_words a_count_words a__check_size a_number_of_word a__tail_with_number a_word_with_number a__law_cell a__law_values a__law_machine a__law_accepts a__law_words a__law_told a_law a_Winit a_Wread a_Wacc p_Wacc C_Walker d_is_machine d_check_machine d_accepts d_leads d_check_length d_tails d_many_words d_count_words d__check_size d_number_of_word d__tail_with_number d_word_with_number d__law_cell d__law_values d__law_machine d__law_accepts d__law_words d__law_told d_law d_Winit d_Wread d_Wacc C_BadNumber C_NoWord C_NotMachine C_NotWord C_YardsortError) : FnG P w K mg base 2 a_check_machine d_check_machine P_check_machine (spM K mg 1 M_check_machine) := by
  have F_is_machine : FnG P w K mg base 1 a_is_machine d_is_machine P_is_machine (spM K mg 1 M_is_machine) := ok_is_machine T
  refine def_ok (N := N_check_machine) (ps := P_check_machine) (k := 1) (ms := ms_check_machine) T.f_check_machine sc_check_machine fun cdv A outer s H E gd hr => ?_
  have tk : Takes (cxOf (L2.CX P w) P w K mg base N_check_machine "check_machine" (defScope s_check_machine) a_check_machine cdv A outer s H E) (wOf E) := takes_of rfl rfl rfl rfl
  exact ⟨_, (pmss_one (pms_if (pmt_not (pmt_truK (K := K) (pm_defK F_is_machine gd (hr.mono (by decide)) T.g_is_machine T.f_is_machine.kp T.b_is_machine (fun σ => passAt tk σ) (pma_cons (pm_var 0) pma_nil) (mCons_len mNil_len))))
    (pmss_one (pms_raise rfl tk PySem.F.excBase_ValueError T.x_NotMachine T.e_NotMachine T.k_NotMachine (raises_own T.r_NotMachine T.t_NotMachine)))
    pmss_nil))⟩
abbrev s_Winit : Stmt := inClass s_Walker 0
abbrev s_Wread : Stmt := inClass s_Walker 1
abbrev s_Wacc : Stmt := inClass s_Walker 2
theorem sc_Winit : FnScope ["self", "machine"] ["self", "machine"] (defScope s_Winit) := ⟨rfl, rfl, rfl, by decide +kernel, rfl, by decide +kernel, by decide +kernel⟩
theorem sc_Wread : FnScope ["self", "letter", "letters", "_", "table"] ["self", "letter"] (defScope s_Wread) := ⟨rfl, rfl, rfl, by decide +kernel, rfl, by decide +kernel, by decide +kernel⟩
theorem sc_Wacc : FnScope ["self"] ["self"] (defScope s_Wacc) := ⟨rfl, rfl, rfl, by decide +kernel, rfl, by decide +kernel, by decide +kernel⟩
theorem ifF {b : Bool} {A B : Prop} (e : b = false) (h : B) : if b = true then A else B := by
  rw [e]
  exact iteF h
theorem ifT {b : Bool} {A B : Prop} (e : b = true) (h : A) : if b = true then A else B := by
  rw [e]
  exact iteT h
abbrev wFs (mv : V) (s : Int) : List (Str × V) := [("_machine", mv), ("state", .int s)]
theorem wne : ¬ (("_machine" : Str) = "state") := by decide +kernel
theorem wF1 (mv : V) : putF "_machine" mv [] = [(("_machine" : Str), mv)] := rfl
theorem wF2 (mv : V) (s : Int) : putF "state" (.int s) [("_machine", mv)] = wFs mv s := by
  show (if ("_machine" : Str) = "state" then _ else _) = _
  rw [if_neg wne]
  rfl
theorem wF3 (mv : V) (s s' : Int) : putF "state" (.int s') (wFs mv s) = wFs mv s' := by
  show (if ("_machine" : Str) = "state" then _ else (("_machine" : Str), mv) :: (if ("state" : Str) = "state" then _ else _)) = _
  rw [if_neg wne, if_pos rfl]
theorem wL1 (mv : V) (s : Int) : (wFs mv s).lookup ("_machine" : Str) = some mv := by
  rw [← wF2, lookup_putF, if_neg (fun z => wne z.symm.symm)]
  rfl
theorem wL2 (mv : V) (s : Int) : (wFs mv s).lookup ("state" : Str) = some (.int s) := by
  rw [← wF2, lookup_putF, if_pos rfl]
theorem wL3 (mv : V) (s : Int) {m : Str} (h1 : ¬ m = "_machine") (h2 : ¬ m = "state") : (wFs mv s).lookup m = none := by
  rw [← wF2, lookup_putF, if_neg (fun z => h2 z), ← wF1, lookup_putF, if_neg (fun z => h1 z)]
  rfl
def WAt (C : Addr) (H : Hp) (p : Addr) (mv : V) (s : Int) : Prop := ∃ dx, H p = some (.ins C dx (wFs mv s))
def spWinit (K : PySem.W.Frag) (C : Addr) : Sp := fun vs H Q _ => ∃ (p dx : Addr) (mv : V) (G : Hp) (L : Int) (A T : List D), vs = [.ref p, mv] ∧ Same G H ∧ G p = none ∧ Rp K G mv (.tuple [.int L, .tuple A, .tuple T]) ∧ M_check_machine [.sh (.tuple [.int L, .tuple A, .tuple T])] = .ok (.sh .none) ∧
  H p = some (.ins C dx []) ∧ ∀ G' H', Same G G' → Same G' H' → WAt C H' p mv (startD A) → (∀ b o, H b = some o → b ≠ p → H' b = some o) → (∀ b, H b ≠ none → G b = none → G' b = none) → Q .non H'
def spWread (K : PySem.W.Frag) (C : Addr) : Sp := fun vs H Q _ => ∃ (p : Addr) (mv : V) (G : Hp) (L : Int) (A T : List D) (s s' l : Int), vs = [.ref p, .int l] ∧ Same G H ∧ G p = none ∧ Rp K G mv (.tuple [.int L, .tuple A, .tuple T]) ∧ WAt C H p mv s ∧ 1 ≤ l ∧ stepD L T s l = some s' ∧
  ∀ H', WAt C H' p mv s' → (∀ b o, H b = some o → b ≠ p → H' b = some o) → Q .non H'
def spWacc (K : PySem.W.Frag) (C : Addr) : Sp := fun vs H Q _ => ∃ (p : Addr) (mv : V) (G : Hp) (L : Int) (A T : List D) (s : Int) (d : D), vs = [.ref p] ∧ Same G H ∧ Rp K G mv (.tuple [.int L, .tuple A, .tuple T]) ∧ WAt C H p mv s ∧ accD A s = some d ∧ flatD d = true ∧ ∀ v, Rp K H v d → Q v H
theorem rp3 {K : PySem.W.Frag} {G : Hp} {mv : V} {L : Int} {A T : List D} (h : Rp K G mv (.tuple [.int L, .tuple A, .tuple T])) : ∃ a aA aT vA vT, mv = .ref a ∧ SqT K G a [.int L, .ref aA, .ref aT] ∧ SqT K G aA vA ∧ SqT K G aT vT ∧ RpA K G vA A ∧ RpA K G vT T := by
  cases h with
  | tup ht ha =>
    cases ha with
    | cons h1 r1 =>
      cases h1
      cases r1 with
      | cons h2 r2 =>
        cases h2 with
        | tup hA kA =>
          cases r2 with
          | cons h3 r3 =>
            cases h3 with
            | tup hT kT =>
              cases r3
              exact ⟨_, _, _, _, _, rfl, ht, hA, hT, kA, kT⟩
theorem env2 {K : PySem.W.Frag} {G H : Hp} {x : Option V} {mv : V} {d : D} (s : Same G H) (h : Rp K G mv d) : EnvS K G H [x, some mv] G H [none, some (.sh d)] := by
  refine ⟨Ext.refl s, rfl, fun i r q => ?_, fun i j p xs ys q => ?_⟩
  · match i, q with
    | 1, q =>
      cases q
      exact ⟨mv, rfl, h⟩
  · match i, q with
    | 1, q => cases q
theorem same_upd {G H : Hp} {p : Addr} {o : HO} (s : Same G H) (g : G p = none) : Same G (upd H p o) := fun b x e => by
  rw [upd_ne (ne_of_none e g)]
  exact s _ _ e
theorem ev_start {K : PySem.W.Frag} {mg : Str → Option Value} {W : WX} {L : Int} {A T : List D} (x : Option Val) : mIfE (mTest (mOp oGt (mCall cLen (mCons (mOp oIx (mVar 1) (mC (.int 1))) mNil)) (mC (.int 0)))) (mC (.int 0)) (mC (.int (-1))) [x, some (.sh (.tuple [.int L, .tuple A, .tuple T]))] = .ok (.sh (.int (startD A))) := by
  change (if decide ((0 : Int) < (A.length : Int)) = true then (Res.ok (Val.sh (PyData.int 0)) : Res Val) else .ok (.sh (.int (-1)))) = _
  unfold startD
  by_cases h : (0 : Int) < (A.length : Int)
  · rw [if_pos (decide_eq_true h), if_pos h]
  · rw [if_neg (by rw [decide_eq_false h]; exact Bool.false_ne_true), if_neg h]
theorem ok_Winit (T : Fx K mg a_is_machine a_check_machine a_accepts a_leads a_check_length a_tails a_many_words a_count_words a__check_size a_number_of_word a__tail_with_number a_word_with_number a__law_cell a__law_values a__law_machine a__law_accepts a__law_words a__law_told a_law a_Winit a_Wread a_Wacc p_Wacc C_Walker d_is_machine d_check_machine d_accepts d_leads d_check_length d_tails d_many_words d_count_words d__check_size d_number_of_word d__tail_with_number d_word_with_number d__law_cell d__law_values d__law_machine d__law_accepts d__law_words d__law_told d_law d_Winit d_Wread d_Wacc C_BadNumber C_NoWord C_NotMachine C_NotWord C_YardsortError) : FnG P w K mg base 3 a_Winit d_Winit ["self", "machine"] (spWinit K C_Walker) := by
  have F_check_machine : FnG P w K mg base 2 a_check_machine d_check_machine P_check_machine (spM K mg 1 M_check_machine) := ok_check_machine T
  refine def_okS (N := ["self", "machine"]) (ps := ["self", "machine"]) (k := 2) T.w_fI sc_Winit (fun vs H Q E h => by obtain ⟨p, dx, mv, G, L, A, T', rfl, _⟩ := h; rfl) fun cdv A outer s H vs Q E gd hr h => ?_
  have tk : Takes (cxOf (L2.CX P w) P w K mg base ["self", "machine"] "Walker.__init__" (defScope s_Winit) a_Winit cdv A outer s H E) (wOf E) := takes_of rfl rfl rfl rfl
  obtain ⟨p, dx, mv, G, L, dA, dT, rfl, sG, gp, rm, em, hp, k⟩ := h
  refine ⟨_, pss_cons (ps_expr (pm_defK (W := wOf E) (K := K) F_check_machine gd (hr.mono (by decide)) T.g_check_machine T.f_check_machine.kp T.b_check_machine (fun σ => passAt tk σ) (pma_cons (pm_var 1) pma_nil) (mCons_len mNil_len)).p)
    (pss_cons (ps_fld (pv 0) (pv 1) rfl)
    (pss_one (ps_fld (pv 0) (pm_ifE (W := wOf E) (pmt_cmp op_gt (os_gt (K := K)) (pm_callB (call_lenK (K := K)) (cs_len (K := K)) T.n_len (by decide +kernel) (pma_cons (pm_ix (ix_seqK (K := K)) (os_ix (K := K)) (pm_var 1) pm_int) pma_nil)) pm_int) pm_int (pm_globI T.c_DEAD)).p rfl))), ?_⟩
  refine snd_def (K := K) (mg := mg) (W := wOf E) (mCons_len mNil_len) (snd_cons (snd_var 1) snd_nil) G H _ G H [none, some (.sh (.tuple [.int L, .tuple dA, .tuple dT]))] _ (env2 sG rm) ?_
  have ev : mDef M_check_machine (mCons (mVar 1) mNil) [none, some (.sh (.tuple [.int L, .tuple dA, .tuple dT]))] = .ok (.sh .none) := by
    unfold mDef mCons mNil mVar
    show (match M_check_machine [.sh (.tuple [.int L, .tuple dA, .tuple dT])] with
      | .ok r => if (!([Val.sh (.tuple [.int L, .tuple dA, .tuple dT])] : List Val).any isBw || flatR r) = true then Res.ok r else Res.no
      | .ex n fs => if fs.all (fun p => flatD p.2) = true then Res.ex n fs else Res.no
      | .no => Res.no) = _
    rw [em]
    rfl
  rw [ev]
  intro G1 H1 v e1 _
  have hp1 := e1.h _ _ hp
  have gp1 : G1 p = none := e1.n p (by rw [hp]; exact Option.some_ne_none _) gp
  refine ⟨mv, rfl, .ref p, rfl, p, C_Walker, dx, [], rfl, hp1, T.w_cl, T.w_n1, (by show 0 < 1000; decide), ?_⟩
  have s1 : Same G1 (upd H1 p (.ins C_Walker dx (putF "_machine" mv []))) := same_upd e1.s gp1
  refine snd_ifE (K := K) (mg := mg) (W := wOf E) (snd_test (snd_op os_gt (snd_call cs_len (snd_cons (snd_op os_ix (snd_var 1) (snd_c fun _ => .int 1)) snd_nil)) (snd_c fun _ => .int 0))) (snd_c fun _ => .int 0) (snd_c fun _ => .int (-1)) G1 _ _ G1 _ [none, some (.sh (.tuple [.int L, .tuple dA, .tuple dT]))] _ (env2 s1 (Rp.mono e1.g rm)) ?_
  rw [ev_start (K := K) (mg := mg) (W := wOf E)]
  intro G2 H2 v2 e2 r2
  cases (show Rp K G2 v2 (.int (startD dA)) from r2)
  have hp2 := e2.h p _ upd_same
  refine ⟨.ref p, rfl, p, C_Walker, dx, _, rfl, hp2, T.w_cl, T.w_n2, (by rw [wF1]; show 1 < 1000; decide), ?_⟩
  have gp2 : G2 p = none := e2.n p (by rw [upd_same]; exact Option.some_ne_none _) gp1
  refine k G2 _ (e1.g.trans e2.g) (same_upd e2.s gp2) ⟨dx, ?_⟩ (fun b o hb hne => ?_) fun b hb hg => ?_
  · rw [upd_same, wF1, wF2]
  · rw [upd_ne hne]
    refine e2.h _ _ ?_
    rw [upd_ne hne]
    exact e1.h _ _ hb
  · refine e2.n b ?_ (e1.n b hb hg)
    by_cases hbp : b = p
    · rw [hbp, upd_same]
      exact Option.some_ne_none _
    · rw [upd_ne hbp]
      exact ne_none_of e1.h hb
theorem ok_Wread (T : Fx K mg a_is_machine a_check_machine a_accepts a_leads a_check_length a_tails a_many_words a_count_words a__check_size a_number_of_word a__tail_with_number a_word_with_number a__law_cell a__law_values a__law_machine a__law_accepts a__law_words a__law_told a_law a_Winit a_Wread a_Wacc p_Wacc C_Walker d_is_machine d_check_machine d_accepts d_leads d_check_length d_tails d_many_words d_count_words d__check_size d_number_of_word d__tail_with_number d_word_with_number d__law_cell d__law_values d__law_machine d__law_accepts d__law_words d__law_told d_law d_Winit d_Wread d_Wacc C_BadNumber C_NoWord C_NotMachine C_NotWord C_YardsortError) : FnG P w K mg base 1 a_Wread d_Wread ["self", "letter"] (spWread K C_Walker) := by
  refine def_okS (N := ["self", "letter", "letters", "_", "table"]) (ps := ["self", "letter"]) (k := 0) T.w_fR sc_Wread (fun vs H Q E h => by obtain ⟨p, mv, G, L, A, T', s, s', l, rfl, _⟩ := h; rfl) fun cdv A outer s H vs Q E gd hr h => ?_
  have tk : Takes (cxOf (L2.CX P w) P w K mg base ["self", "letter", "letters", "_", "table"] "Walker.read" (defScope s_Wread) a_Wread cdv A outer s H E) (wOf E) := takes_of rfl rfl rfl rfl
  obtain ⟨p, mv, G, L, dA, dT, st, st', l, rfl, sG, gp, rm, ⟨dx, hp⟩, h1, es, k⟩ := h
  obtain ⟨a, aA, aT, vA, vT, rfl, hm, hA, hT, kA, kT⟩ := rp3 rm
  obtain ⟨tD, eD⟩ := T.c_DEAD
  refine ⟨_, pss_cons (ps_if (pmt_cmp (W := wOf E) op_lt (os_lt (K := K)) (pm_var 1) pm_int).p (pss_one (pms_raise rfl tk PySem.F.excBase_ValueError T.x_NotWord T.e_NotWord T.k_NotWord (raises_own T.r_NotWord T.t_NotWord)).p) pss_nil)
    (pss_cons (ps_asg (pe_fld (pv 0) rfl) (pg_tup rfl (pgs_cons (pg_name (i := 2) sc_Wread.nd rfl (Or.inl rfl)) (pgs_cons (pg_name (i := 3) sc_Wread.nd rfl (Or.inl rfl)) (pgs_cons (pg_name (i := 4) sc_Wread.nd rfl (Or.inl rfl)) pgs_nil)))))
    (pss_one (ps_if (pt_cmpR op_ne (pe_fld (pv 0) rfl) (pe_glob (v := .int (-1)) rfl eD ⟨tD, rfl⟩) (nomark _))
      (pss_one (ps_fld (pv 0) (pe_ifExp (pt_cmpR op_le (pv 1) (pv 2) (nomark _)) (pe_ix ix_tup (pe_ix ix_tup (pv 4) (pe_fld (pv 0) rfl) (fun _ _ => rfl)) (pe_op op_sub (pv 1) pe_int) (fun _ _ => rfl)) (pe_glob (v := .int (-1)) rfl eD ⟨tD, rfl⟩)) rfl)) pss_nil))), ?_⟩
  -- letter < 1
  refine ⟨.int l, rfl, l, 1, rfl, rfl, decide (l < 1), rfl, ?_⟩
  refine ifF (decide_eq_false (by omega)) ?_
  -- letters, _, table = self._machine
  refine ⟨_, rfl, p, C_Walker, dx, _, _, rfl, hp, T.w_cl, T.w_n1, wL1 _ _, a, _, rfl, same_t sG hm, rfl, _, _, rfl, _, _, rfl, _, _, rfl, rfl, ?_⟩
  refine ⟨_, rfl, p, C_Walker, dx, _, _, rfl, hp, T.w_cl, T.w_n2, wL2 _ _, rfl, _, rfl, ?_⟩
  unfold stepD at es
  by_cases c1 : st = -1
  · rw [if_pos c1] at es
    cases es
    refine ifF (by rw [c1]; rfl) ?_
    exact k H ⟨dx, by rw [hp, c1]⟩ fun b o z _ => z
  · rw [if_neg c1] at es
    have nd : (!decide (V.int st = V.int (-1))) = true := by
      have z : ¬ V.int st = V.int (-1) := fun z => c1 (V.int.inj z)
      rw [decide_eq_false z]
      rfl
    refine ifT nd ?_
    by_cases c2 : l ≤ L
    · rw [if_pos c2] at es
      cases ea : atI dT st with
      | none =>
        rw [ea] at es
        cases es
      | some row =>
        rw [ea] at es
        obtain ⟨rv, ev, rr⟩ := atI_of kT ea
        cases row with
        | tuple r =>
          have es : (atI r (l - 1)).bind intOf = some st' := es
          cases er : atI r (l - 1) with
          | none =>
            rw [er] at es
            cases es
          | some x =>
            rw [er] at es
            have es : intOf x = some st' := es
            cases rr with
            | tup hr2 kr =>
              obtain ⟨xv, ex, rx⟩ := atI_of kr er
              obtain ⟨rfl, rfl⟩ := intOf_rp rx es
              refine ⟨_, rfl, _, rfl, _, _, rfl, rfl, decide (l ≤ L), rfl, ?_⟩
              refine ifT (decide_eq_true c2) ?_
              refine ⟨_, rfl, _, rfl, p, C_Walker, dx, _, _, rfl, hp, T.w_cl, T.w_n2, wL2 _ _, _, _, _, _, rfl, rfl, same_t sG hT, ev, ?_⟩
              refine ⟨_, rfl, _, _, rfl, rfl, _, _, _, _, rfl, rfl, same_t sG hr2, ex, ?_⟩
              refine ⟨_, rfl, p, C_Walker, dx, _, rfl, hp, T.w_cl, T.w_n2, (by show 2 < 1000; decide), ?_⟩
              refine k _ ⟨dx, ?_⟩ fun b o z hb => ?_
              · rw [upd_same, wF3]
              · rw [upd_ne hb]
                exact z
        | none => cases es
        | bool _ => cases es
        | int _ => cases es
        | str _ => cases es
        | list _ => cases es
        | dict _ => cases es
    · rw [if_neg c2] at es
      cases es
      refine ⟨_, rfl, _, rfl, _, _, rfl, rfl, decide (l ≤ L), rfl, ?_⟩
      refine ifF (decide_eq_false c2) ?_
      refine ⟨_, rfl, p, C_Walker, dx, _, rfl, hp, T.w_cl, T.w_n2, (by show 2 < 1000; decide), ?_⟩
      refine k _ ⟨dx, ?_⟩ fun b o z hb => ?_
      · rw [upd_same, wF3]
      · rw [upd_ne hb]
        exact z
theorem ok_Wacc (T : Fx K mg a_is_machine a_check_machine a_accepts a_leads a_check_length a_tails a_many_words a_count_words a__check_size a_number_of_word a__tail_with_number a_word_with_number a__law_cell a__law_values a__law_machine a__law_accepts a__law_words a__law_told a_law a_Winit a_Wread a_Wacc p_Wacc C_Walker d_is_machine d_check_machine d_accepts d_leads d_check_length d_tails d_many_words d_count_words d__check_size d_number_of_word d__tail_with_number d_word_with_number d__law_cell d__law_values d__law_machine d__law_accepts d__law_words d__law_told d_law d_Winit d_Wread d_Wacc C_BadNumber C_NoWord C_NotMachine C_NotWord C_YardsortError) : FnG P w K mg base 1 a_Wacc d_Wacc ["self"] (spWacc K C_Walker) := by
  refine def_okS (N := ["self"]) (ps := ["self"]) (k := 0) T.w_fA sc_Wacc (fun vs H Q E h => by obtain ⟨p, mv, G, L, A, T', s, d, rfl, _⟩ := h; rfl) fun cdv A outer s H vs Q E gd hr h => ?_
  obtain ⟨p, mv, G, L, dA, dT, st, d, rfl, sG, rm, ⟨dx, hp⟩, ea, fd, k⟩ := h
  obtain ⟨a, aA, aT, vA, vT, rfl, hm, hA, hT, kA, kT⟩ := rp3 rm
  obtain ⟨tD, eD⟩ := T.c_DEAD
  refine ⟨_, pss_one (ps_ret (pe_and (pe_cmpR op_ne (pe_fld (pv 0) rfl) (pe_glob (v := .int (-1)) rfl eD ⟨tD, rfl⟩) (nomark _))
    (pe_one (pe_ix ix_tup (pe_ix ix_tup (pe_fld (pv 0) rfl) pe_int (fun _ _ => rfl)) (pe_fld (pv 0) rfl) (fun _ _ => rfl))))), ?_⟩
  refine ⟨_, rfl, p, C_Walker, dx, _, _, rfl, hp, T.w_cl, T.w_n2, wL2 _ _, rfl, _, rfl, ?_⟩
  unfold accD at ea
  by_cases c1 : st = -1
  · rw [if_pos c1] at ea
    cases ea
    refine ifF (by rw [c1]; rfl) ?_
    exact k _ (.bl false)
  · rw [if_neg c1] at ea
    have nd : (!decide (V.int st = V.int (-1))) = true := by
      have z : ¬ V.int st = V.int (-1) := fun z => c1 (V.int.inj z)
      rw [decide_eq_false z]
      rfl
    refine ifT nd ?_
    obtain ⟨xv, ex, rx⟩ := atI_of kA ea
    refine ⟨_, rfl, p, C_Walker, dx, _, _, rfl, hp, T.w_cl, T.w_n1, wL1 _ _, _, _, _, _, rfl, rfl, same_t sG hm, rfl, ?_⟩
    refine ⟨_, rfl, p, C_Walker, dx, _, _, rfl, hp, T.w_cl, T.w_n2, wL2 _ _, _, _, _, _, rfl, rfl, same_t sG hA, ex, ?_⟩
    exact k _ (flat_rp fd rx)
theorem ok_accepts (T : Fx K mg a_is_machine a_check_machine a_accepts a_leads a_check_length a_tails a_many_words a_count_words a__check_size a_number_of_word a__tail_with_number a_word_with_number a__law_cell a__law_values a__law_machine a__law_accepts a__law_words a__law_told a_law a_Winit a_Wread a_Wacc p_Wacc C_Walker d_is_machine d_check_machine d_accepts d_leads d_check_length d_tails d_many_words d_count_words d__check_size d_number_of_word d__tail_with_number d_word_with_number d__law_cell d__law_values d__law_machine d__law_accepts d__law_words d__law_told d_law d_Winit d_Wread d_Wacc C_BadNumber C_NoWord C_NotMachine C_NotWord C_YardsortError) : FnG P w K mg base 5 a_accepts d_accepts P_accepts (spM K mg 2 M_accepts) := by
  have GI := ok_Winit (P := P) (w := w) (base := base) T
  have GR := ok_Wread (P := P) (w := w) (base := base) T
  have GA := ok_Wacc (P := P) (w := w) (base := base) T
  refine def_okS (N := ["machine", "word", "walker", "letter"]) (ps := ["machine", "word"]) (k := 4) T.f_accepts sc_accepts (fun vs H Q E ⟨G, as, _, _, _, h, _⟩ => h) fun cdv A outer s H vs Q E gd hr h => ?_
  have tk : Takes (cxOf (L2.CX P w) P w K mg base ["machine", "word", "walker", "letter"] "accepts" (defScope s_accepts) a_accepts cdv A outer s H E) (wOf E) := takes_of rfl rfl rfl rfl
  obtain ⟨G, as, sG, hv, ha, hn, hq⟩ := h
  unfold M_accepts at hq
  split at hq
  · rename_i L dA dT wd
    obtain ⟨mv, wv, rfl, rm, rw_⟩ := vrs2 hv
    split at hq
    · rename_i ns em ei
      split at hq
      · rename_i st es
        split at hq
        · rename_i d ed
          split at hq
          · rename_i fd
            have rm : Rp K G mv (.tuple [.int L, .tuple dA, .tuple dT]) := rm
            cases (show Rp K G wv (.list wd) from rw_) with
            | lst hl kl =>
              rename_i wa wvs
              obtain ⟨ew, _⟩ := intsOf_rp kl ei
              subst ew
              refine ⟨_, pss_cons (ps_set (i := 2) sc_accepts.nd rfl (Or.inl rfl) (pe_makeG (W := wOf E) T.w_mk GI gd (hr.mono (by decide)) T.w_C T.w_bI (fun σ => passAt tk σ) (pa_cons (pv 0) pa_nil)))
                (pss_cons (ps_for (passes_of rfl) rfl (pi_list (pv 1)) (pg_name (i := 3) sc_accepts.nd rfl (Or.inl rfl)) (pss_one (ps_expr (pe_methG (W := wOf E) (pv 2) T.w_cl T.w_rd GR gd (hr.mono (by decide)) T.w_bR (fun σ => passAt tk σ) (pa_cons (pv 3) pa_nil)))))
                (pss_one (ps_ret (pe_propG (pv 2) T.w_cl T.w_pr GA gd (hr.mono (by decide)) T.w_bA)))), ?_⟩
              refine ⟨mv, rfl, fun x dx nx ndx nex => ?_⟩
              have gx : G x = none := sG.free nx
              have s0 : Same H (upd (upd H dx (.own x)) x (.ins C_Walker dx [])) := fun b o e => by
                rw [upd_ne (ne_of_none e nx), upd_ne (ne_of_none e ndx)]
                exact e
              refine ⟨x, dx, mv, G, L, dA, dT, rfl, sG.trans s0, gx, rm, em, upd_same, fun G1 H1 sg1 sh1 W1 kp hn1 => ⟨rfl, ?_⟩⟩
              have s1 : Same H H1 := fun b o e => kp b o (s0 b o e) (ne_of_none e nx)
              have gx1 : G1 x = none := hn1 x (by rw [upd_same]; exact Option.some_ne_none _) gx
              have rm1 := Rp.mono sg1 rm
              refine ⟨_, rfl, wa, rfl, ⟨_, SqL.of (s1 _ _ (sG _ _ hl))⟩, for_list (K := K) (a := wa) (xs := ns.map V.int) (fun i σ H2 => ∃ (s' : Int) (v : Option V), σ = [some mv, some (.ref wa), some (.ref x), v] ∧ Same H H2 ∧ Same G1 H2 ∧ WAt C_Walker H2 x mv s' ∧ runD L dT s' (ns.drop i) = some st)
                ⟨startD dA, none, rfl, s1, sh1, W1, es⟩ (fun i σ H2 _ ⟨_, _, _, s2, _⟩ => SqL.of (s2 _ _ (sG _ _ hl))) ?_ ?_⟩
              · rintro i y σ H2 hi ⟨s', v, rfl, s2, sg2, W2, hrun⟩
                rw [List.getElem?_map] at hi
                cases ey : ns[i]? with
                | none =>
                  rw [ey] at hi
                  cases hi
                | some l =>
                  rw [ey] at hi
                  cases hi
                  obtain ⟨hlt, hget⟩ := List.getElem?_eq_some_iff.mp ey
                  have hd : ns.drop i = l :: ns.drop (i + 1) := by rw [List.drop_eq_getElem_cons hlt, hget]
                  rw [hd] at hrun
                  unfold runD at hrun
                  split at hrun
                  · rename_i hl1
                    cases est : stepD L dT s' l with
                    | none =>
                      rw [est] at hrun
                      cases hrun
                    | some s'' =>
                      rw [est] at hrun
                      obtain ⟨dz, hz⟩ := id W2
                      refine ⟨_, rfl, x, dz, _, rfl, hz, wL3 _ _ (by decide +kernel) (by decide +kernel), _, rfl, x, mv, G1, L, dA, dT, s', s'', l, rfl, sg2, gx1, rm1, W2, hl1, est, fun H3 W3 kp3 => ?_⟩
                      exact ⟨s'', _, rfl, fun b o e => kp3 b o (s2 b o e) (ne_of_none e nx), fun b o e => kp3 b o (sg2 b o e) (ne_of_none e gx1), W3, hrun⟩
                  · cases hrun
              · rintro σ H2 ⟨s', v, rfl, s2, sg2, W2, hrun⟩
                rw [List.length_map, List.drop_length] at hrun
                unfold runD at hrun
                cases hrun
                obtain ⟨dz, hz⟩ := id W2
                refine ⟨_, rfl, x, dz, _, rfl, hz, x, mv, G1, L, dA, dT, st, d, rfl, sg2, rm1, W2, ed, fd, fun u hu => ?_⟩
                have eG : Ext G H G H2 := ⟨s2, Same.refl _, sG.trans s2, fun _ _ z => z⟩
                exact hq G H2 u eG (flat_rp fd hu)
          · exact hq.elim
        · exact hq.elim
      · exact hq.elim
    · exact hq.elim
  · exact hq.elim

theorem ok_leads (T : Fx K mg a_is_machine a_check_machine a_accepts a_leads a_check_length a_tails a_many_words a_count_words a__check_size a_number_of_word a__tail_with_number a_word_with_number a__law_cell a__law_values a__law_machine a__law_accepts a__law_words a__law_told a_law a_Winit a_Wread a_Wacc p_Wacc C_Walker d_is_machine d_check_machine d_accepts d_leads d_check_length d_tails d_many_words d_count_words d__check_size d_number_of_word d__tail_with_number d_word_with_number d__law_cell d__law_values d__law_machine d__law_accepts d__law_words d__law_told d_law d_Winit d_Wread d_Wacc C_BadNumber C_NoWord C_NotMachine C_NotWord C_YardsortError) : FnG P w K mg base 1 a_leads d_leads P_leads (spM K mg 1 M_leads) := by
  refine def_ok (N := N_leads) (ps := P_leads) (k := 0) (ms := ms_leads) T.f_leads sc_leads fun cdv A outer s H E gd hr => ?_
  have tk : Takes (cxOf (L2.CX P w) P w K mg base N_leads "leads" (defScope s_leads) a_leads cdv A outer s H E) (wOf E) := takes_of rfl rfl rfl rfl
  exact ⟨_, (pmss_one (pms_ret (pm_lc [("letter", 1), ("target", 2)] rfl sc_leads.nd (pmi_ek T.n_enumerate (pma_cons (pm_var 0) pma_nil) pm_int) (blkOk_by (own := [("letter", 1), ("target", 2)]) (N := N_leads) (sc := defScope s_leads) (by decide +kernel)) (by decide) (fun _ _ _ _ _ => (pmg_tupK (K := K) rfl rfl (pmg_cons (pmg_name 1 sc_leads.nd) (pmg_cons (pmg_name 2 sc_leads.nd) pmg_nil)))) (fun _ _ _ _ _ => (pmts_one (pmt_cmp (or_op op_ne (op_neDK (K := K) hr.units)) (os_or (os_neS (K := K)) (os_ne (K := K))) (pm_var 2) (pm_globI T.c_DEAD)))) (fun _ _ _ _ _ => (pm_tup (pma_cons (pm_var 1) (pma_cons (pm_var 2) pma_nil)))))))⟩
theorem ok_check_length (T : Fx K mg a_is_machine a_check_machine a_accepts a_leads a_check_length a_tails a_many_words a_count_words a__check_size a_number_of_word a__tail_with_number a_word_with_number a__law_cell a__law_values a__law_machine a__law_accepts a__law_words a__law_told a_law a_Winit a_Wread a_Wacc p_Wacc C_Walker d_is_machine d_check_machine d_accepts d_leads d_check_length d_tails d_many_words d_count_words d__check_size d_number_of_word d__tail_with_number d_word_with_number d__law_cell d__law_values d__law_machine d__law_accepts d__law_words d__law_told d_law d_Winit d_Wread d_Wacc C_BadNumber C_NoWord C_NotMachine C_NotWord C_YardsortError) : FnG P w K mg base 1 a_check_length d_check_length P_check_length (spM K mg 1 M_check_length) := by
  refine def_ok (N := N_check_length) (ps := P_check_length) (k := 0) (ms := ms_check_length) T.f_check_length sc_check_length fun cdv A outer s H E gd hr => ?_
  have tk : Takes (cxOf (L2.CX P w) P w K mg base N_check_length "check_length" (defScope s_check_length) a_check_length cdv A outer s H E) (wOf E) := takes_of rfl rfl rfl rfl
  exact ⟨_, (pmss_one (pms_if (pmt_not (pmt_chain op_le op_le (os_le (K := K)) (os_le (K := K)) pm_int (pm_var 0) (pm_globI T.c_MOST_LENGTH)))
    (pmss_one (pms_raise rfl tk PySem.F.excBase_ValueError T.x_BadNumber T.e_BadNumber T.k_BadNumber (raises_own T.r_BadNumber T.t_BadNumber)))
    pmss_nil))⟩
theorem ok_tails (T : Fx K mg a_is_machine a_check_machine a_accepts a_leads a_check_length a_tails a_many_words a_count_words a__check_size a_number_of_word a__tail_with_number a_word_with_number a__law_cell a__law_values a__law_machine a__law_accepts a__law_words a__law_told a_law a_Winit a_Wread a_Wacc p_Wacc C_Walker d_is_machine d_check_machine d_accepts d_leads d_check_length d_tails d_many_words d_count_words d__check_size d_number_of_word d__tail_with_number d_word_with_number d__law_cell d__law_values d__law_machine d__law_accepts d__law_words d__law_told d_law d_Winit d_Wread d_Wacc C_BadNumber C_NoWord C_NotMachine C_NotWord C_YardsortError) : FnG P w K mg base 1 a_tails d_tails P_tails (spM K mg 2 M_tails) := by
  refine def_ok (N := N_tails) (ps := P_tails) (k := 0) (ms := ms_tails) T.f_tails sc_tails fun cdv A outer s H E gd hr => ?_
  have tk : Takes (cxOf (L2.CX P w) P w K mg base N_tails "tails" (defScope s_tails) a_tails cdv A outer s H E) (wOf E) := takes_of rfl rfl rfl rfl
  exact ⟨_, (pmss_cons (pms_asg (pm_var 0) (pmg_tup rfl (pmg_cons (pmg_name 2 sc_tails.nd) (pmg_cons (pmg_name 3 sc_tails.nd) (pmg_cons (pmg_name 4 sc_tails.nd) pmg_nil)))))
    (pmss_frz 4 (pmss_cons (pms_setLc 5 [("targets", 8)] rfl sc_tails.nd rfl rfl (sw_true rfl rfl rfl (by decide +kernel)) (pmi_s (K := K) (pm_var 4)) (blkOk_by (own := [("targets", 8)]) (N := N_tails) (sc := defScope s_tails) (by decide +kernel)) (by decide) (fun _ _ _ _ _ => (pmg_name 8 sc_tails.nd)) (fun _ _ _ _ _ => pmts_nil) (fun _ _ _ _ _ => (pm_lc [("target", 9)] rfl sc_tails.nd (pmi_s (K := K) (pm_var 8)) (blkOk_by (by show blkC N_tails (relS _ (defScope s_tails)) _ [("target", 9)] = true; decide +kernel)) (by decide) (fun _ _ _ _ _ => (pmg_name 9 sc_tails.nd)) (fun _ _ _ _ _ => (pmts_one (pmt_cmp (or_op op_ne (op_neDK (K := K) hr.units)) (os_or (os_neS (K := K)) (os_ne (K := K))) (pm_var 9) (pm_globI T.c_DEAD)))) (fun _ _ _ _ _ => (pm_var 9)))))
    (pmss_frz 3 (pmss_cons (pms_set 6 sc_tails.nd (pm_lc [("flag", 10)] rfl sc_tails.nd (pmi_s (K := K) (pm_var 3)) (blkOk_by (own := [("flag", 10)]) (N := N_tails) (sc := defScope s_tails) (by decide +kernel)) (by decide) (fun _ _ _ _ _ => (pmg_name 10 sc_tails.nd)) (fun _ _ _ _ _ => pmts_nil) (fun _ _ _ _ _ => (pm_ifE (pmt_truK (K := K) (pm_var 10)) pm_int pm_int))))
    (pmss_frz 6 (pmss_cons (pms_set 7 sc_tails.nd (pm_lst (pma_cons (pm_var 6) pma_nil)))
    (pmss_frz 6 (pmss_frz 5 (pmss_cons (pms_for (passes_of rfl) rfl (pmi_1 T.n_range (pma_cons (pm_var 1) pma_nil)) (pmg_name 2 sc_tails.nd)
    (pmss_frz 5 (pmss_cons (pms_set 6 sc_tails.nd (pm_lc [("targets", 8)] rfl sc_tails.nd (pmi_s (K := K) (pm_var 5)) (blkOk_by (own := [("targets", 8)]) (N := N_tails) (sc := defScope s_tails) (by decide +kernel)) (by decide) (fun _ _ _ _ _ => (pmg_name 8 sc_tails.nd)) (fun _ _ _ _ _ => pmts_nil) (fun _ _ _ _ _ => (pm_callB (cr_sumK (K := K)) (cs_sum (K := K)) T.n_sum (by decide +kernel) (pma_cons (pm_lc [("target", 9)] rfl sc_tails.nd (pmi_s (K := K) (pm_var 8)) (blkOk_by (by show blkC N_tails (relS _ (defScope s_tails)) _ [("target", 9)] = true; decide +kernel)) (by decide) (fun _ _ _ _ _ => (pmg_name 9 sc_tails.nd)) (fun _ _ _ _ _ => pmts_nil) (fun _ _ _ _ _ => (pm_ix (ix_seqK (K := K)) (os_ix (K := K)) (pm_var 6) (pm_var 9)))) pma_nil)))))
    (pmss_frz 6 (pmss_one (pms_app 7 (pm_var 6)))))))
    (pmss_one (pms_retV 7))))))))))))⟩
theorem ok_many_words (T : Fx K mg a_is_machine a_check_machine a_accepts a_leads a_check_length a_tails a_many_words a_count_words a__check_size a_number_of_word a__tail_with_number a_word_with_number a__law_cell a__law_values a__law_machine a__law_accepts a__law_words a__law_told a_law a_Winit a_Wread a_Wacc p_Wacc C_Walker d_is_machine d_check_machine d_accepts d_leads d_check_length d_tails d_many_words d_count_words d__check_size d_number_of_word d__tail_with_number d_word_with_number d__law_cell d__law_values d__law_machine d__law_accepts d__law_words d__law_told d_law d_Winit d_Wread d_Wacc C_BadNumber C_NoWord C_NotMachine C_NotWord C_YardsortError) : FnG P w K mg base 1 a_many_words d_many_words P_many_words (spM K mg 3 M_many_words) := by
  refine def_ok (N := N_many_words) (ps := P_many_words) (k := 0) (ms := ms_many_words) T.f_many_words sc_many_words fun cdv A outer s H E gd hr => ?_
  have tk : Takes (cxOf (L2.CX P w) P w K mg base N_many_words "many_words" (defScope s_many_words) a_many_words cdv A outer s H E) (wOf E) := takes_of rfl rfl rfl rfl
  exact ⟨_, (pmss_one (pms_ret (pm_ifE (pmt_cmp op_gt (os_gt (K := K)) (pm_callB (call_lenK (K := K)) (cs_len (K := K)) T.n_len (by decide +kernel) (pma_cons (pm_ix (ix_seqK (K := K)) (os_ix (K := K)) (pm_var 0) pm_int) pma_nil)) pm_int) (pm_ix (ix_seqK (K := K)) (os_ix (K := K)) (pm_ix (ix_seqK (K := K)) (os_ix (K := K)) (pm_var 1) (pm_var 2)) (pm_globI T.c_START)) pm_int)))⟩
theorem ok_count_words (T : Fx K mg a_is_machine a_check_machine a_accepts a_leads a_check_length a_tails a_many_words a_count_words a__check_size a_number_of_word a__tail_with_number a_word_with_number a__law_cell a__law_values a__law_machine a__law_accepts a__law_words a__law_told a_law a_Winit a_Wread a_Wacc p_Wacc C_Walker d_is_machine d_check_machine d_accepts d_leads d_check_length d_tails d_many_words d_count_words d__check_size d_number_of_word d__tail_with_number d_word_with_number d__law_cell d__law_values d__law_machine d__law_accepts d__law_words d__law_told d_law d_Winit d_Wread d_Wacc C_BadNumber C_NoWord C_NotMachine C_NotWord C_YardsortError) : FnG P w K mg base 3 a_count_words d_count_words P_count_words (spM K mg 2 M_count_words) := by
  have F_check_length : FnG P w K mg base 1 a_check_length d_check_length P_check_length (spM K mg 1 M_check_length) := ok_check_length T
  have F_check_machine : FnG P w K mg base 2 a_check_machine d_check_machine P_check_machine (spM K mg 1 M_check_machine) := ok_check_machine T
  have F_many_words : FnG P w K mg base 1 a_many_words d_many_words P_many_words (spM K mg 3 M_many_words) := ok_many_words T
  have F_tails : FnG P w K mg base 1 a_tails d_tails P_tails (spM K mg 2 M_tails) := ok_tails T
  refine def_ok (N := N_count_words) (ps := P_count_words) (k := 2) (ms := ms_count_words) T.f_count_words sc_count_words fun cdv A outer s H E gd hr => ?_
  have tk : Takes (cxOf (L2.CX P w) P w K mg base N_count_words "count_words" (defScope s_count_words) a_count_words cdv A outer s H E) (wOf E) := takes_of rfl rfl rfl rfl
  exact ⟨_, (pmss_cons (pms_drop (pm_defK F_check_machine gd (hr.mono (by decide)) T.g_check_machine T.f_check_machine.kp T.b_check_machine (fun σ => passAt tk σ) (pma_cons (pm_var 0) pma_nil) (mCons_len mNil_len)))
    (pmss_cons (pms_drop (pm_defK F_check_length gd (hr.mono (by decide)) T.g_check_length T.f_check_length.kp T.b_check_length (fun σ => passAt tk σ) (pma_cons (pm_var 1) pma_nil) (mCons_len mNil_len)))
    (pmss_one (pms_ret (pm_defK F_many_words gd (hr.mono (by decide)) T.g_many_words T.f_many_words.kp T.b_many_words (fun σ => passAt tk σ) (pma_cons (pm_var 0) (pma_cons (pm_defK F_tails gd (hr.mono (by decide)) T.g_tails T.f_tails.kp T.b_tails (fun σ => passAt tk σ) (pma_cons (pm_var 0) (pma_cons (pm_var 1) pma_nil)) (mCons_len (mCons_len mNil_len))) (pma_cons (pm_var 1) pma_nil))) (mCons_len (mCons_len (mCons_len mNil_len))))))))⟩
theorem ok__check_size (T : Fx K mg a_is_machine a_check_machine a_accepts a_leads a_check_length a_tails a_many_words a_count_words a__check_size a_number_of_word a__tail_with_number a_word_with_number a__law_cell a__law_values a__law_machine a__law_accepts a__law_words a__law_told a_law a_Winit a_Wread a_Wacc p_Wacc C_Walker d_is_machine d_check_machine d_accepts d_leads d_check_length d_tails d_many_words d_count_words d__check_size d_number_of_word d__tail_with_number d_word_with_number d__law_cell d__law_values d__law_machine d__law_accepts d__law_words d__law_told d_law d_Winit d_Wread d_Wacc C_BadNumber C_NoWord C_NotMachine C_NotWord C_YardsortError) : FnG P w K mg base 1 a__check_size d__check_size P__check_size (spM K mg 1 M__check_size) := by
  refine def_ok (N := N__check_size) (ps := P__check_size) (k := 0) (ms := ms__check_size) T.f__check_size sc__check_size fun cdv A outer s H E gd hr => ?_
  have tk : Takes (cxOf (L2.CX P w) P w K mg base N__check_size "_check_size" (defScope s__check_size) a__check_size cdv A outer s H E) (wOf E) := takes_of rfl rfl rfl rfl
  exact ⟨_, (pmss_one (pms_if (pmt_cmp op_gt (os_gt (K := K)) (pm_callB (call_lenK (K := K)) (cs_len (K := K)) T.n_len (by decide +kernel) (pma_cons (pm_var 0) pma_nil)) (pm_globI T.c_MOST_LENGTH))
    (pmss_one (pms_raise rfl tk PySem.F.excBase_ValueError T.x_NotWord T.e_NotWord T.k_NotWord (raises_own T.r_NotWord T.t_NotWord)))
    pmss_nil))⟩
theorem ok_number_of_word (T : Fx K mg a_is_machine a_check_machine a_accepts a_leads a_check_length a_tails a_many_words a_count_words a__check_size a_number_of_word a__tail_with_number a_word_with_number a__law_cell a__law_values a__law_machine a__law_accepts a__law_words a__law_told a_law a_Winit a_Wread a_Wacc p_Wacc C_Walker d_is_machine d_check_machine d_accepts d_leads d_check_length d_tails d_many_words d_count_words d__check_size d_number_of_word d__tail_with_number d_word_with_number d__law_cell d__law_values d__law_machine d__law_accepts d__law_words d__law_told d_law d_Winit d_Wread d_Wacc C_BadNumber C_NoWord C_NotMachine C_NotWord C_YardsortError) : FnG P w K mg base 6 a_number_of_word d_number_of_word P_number_of_word (spM K mg 2 M_number_of_word) := by
  have F__check_size : FnG P w K mg base 1 a__check_size d__check_size P__check_size (spM K mg 1 M__check_size) := ok__check_size T
  have F_accepts : FnG P w K mg base 5 a_accepts d_accepts P_accepts (spM K mg 2 M_accepts) := ok_accepts T
  have F_check_machine : FnG P w K mg base 2 a_check_machine d_check_machine P_check_machine (spM K mg 1 M_check_machine) := ok_check_machine T
  have F_leads : FnG P w K mg base 1 a_leads d_leads P_leads (spM K mg 1 M_leads) := ok_leads T
  have F_tails : FnG P w K mg base 1 a_tails d_tails P_tails (spM K mg 2 M_tails) := ok_tails T
  refine def_ok (N := N_number_of_word) (ps := P_number_of_word) (k := 5) (ms := ms_number_of_word) T.f_number_of_word sc_number_of_word fun cdv A outer s H E gd hr => ?_
  have tk : Takes (cxOf (L2.CX P w) P w K mg base N_number_of_word "number_of_word" (defScope s_number_of_word) a_number_of_word cdv A outer s H E) (wOf E) := takes_of rfl rfl rfl rfl
  exact ⟨_, (pmss_cons (pms_drop (pm_defK F_check_machine gd (hr.mono (by decide)) T.g_check_machine T.f_check_machine.kp T.b_check_machine (fun σ => passAt tk σ) (pma_cons (pm_var 0) pma_nil) (mCons_len mNil_len)))
    (pmss_cons (pms_drop (pm_defK F__check_size gd (hr.mono (by decide)) T.g__check_size T.f__check_size.kp T.b__check_size (fun σ => passAt tk σ) (pma_cons (pm_var 1) pma_nil) (mCons_len mNil_len)))
    (pmss_cons (pms_asg (pm_var 0) (pmg_tup rfl (pmg_cons (pmg_name 2 sc_number_of_word.nd) (pmg_cons (pmg_name 3 sc_number_of_word.nd) (pmg_cons (pmg_name 4 sc_number_of_word.nd) pmg_nil)))))
    (pmss_cons (pms_if (pmt_not (pmt_truK (K := K) (pm_callB (cr_allK (K := K)) (cs_all (K := K)) T.n_all (by decide +kernel) (pma_cons (pm_lc [("letter", 9)] rfl sc_number_of_word.nd (pmi_s (K := K) (pm_var 1)) (blkOk_by (own := [("letter", 9)]) (N := N_number_of_word) (sc := defScope s_number_of_word) (by decide +kernel)) (by decide) (fun _ _ _ _ _ => (pmg_name 9 sc_number_of_word.nd)) (fun _ _ _ _ _ => pmts_nil) (fun _ _ _ _ _ => (pm_chain op_le op_le (os_le (K := K)) (os_le (K := K)) pm_int (pm_var 9) (pm_var 2)))) pma_nil))))
    (pmss_one (pms_raise rfl tk PySem.F.excBase_ValueError T.x_NotWord T.e_NotWord T.k_NotWord (raises_own T.r_NotWord T.t_NotWord)))
    pmss_nil)
    (pmss_cons (pms_if (pmt_not (pmt_truK (K := K) (pm_defK F_accepts gd (hr.mono (by decide)) T.g_accepts T.f_accepts.kp T.b_accepts (fun σ => passAt tk σ) (pma_cons (pm_var 0) (pma_cons (pm_var 1) pma_nil)) (mCons_len (mCons_len mNil_len)))))
    (pmss_one (pms_raise rfl tk PySem.F.excBase_ValueError T.x_NoWord T.e_NoWord T.k_NoWord (raises_own T.r_NoWord T.t_NoWord)))
    pmss_nil)
    (pmss_cons (pms_set 5 sc_number_of_word.nd (pm_defK F_tails gd (hr.mono (by decide)) T.g_tails T.f_tails.kp T.b_tails (fun σ => passAt tk σ) (pma_cons (pm_var 0) (pma_cons (pm_callB (call_lenK (K := K)) (cs_len (K := K)) T.n_len (by decide +kernel) (pma_cons (pm_var 1) pma_nil)) pma_nil)) (mCons_len (mCons_len mNil_len))))
    (pmss_cons (pms_set 6 sc_number_of_word.nd pm_int)
    (pmss_cons (pms_set 7 sc_number_of_word.nd (pm_globI T.c_START))
    (pmss_cons (pms_for (passes_of rfl) rfl (pmi_e T.n_enumerate (pma_cons (pm_var 1) pma_nil)) (pmg_tup rfl (pmg_cons (pmg_name 8 sc_number_of_word.nd) (pmg_cons (pmg_name 9 sc_number_of_word.nd) pmg_nil)))
    (pmss_cons (pms_set 10 sc_number_of_word.nd (pm_ix (ix_seqK (K := K)) (os_ix (K := K)) (pm_var 5) (pm_op op_sub (os_sub (K := K)) (pm_op op_sub (os_sub (K := K)) (pm_callB (call_lenK (K := K)) (cs_len (K := K)) T.n_len (by decide +kernel) (pma_cons (pm_var 1) pma_nil)) (pm_var 8)) pm_int)))
    (pmss_cons (pms_set 11 sc_number_of_word.nd (pm_ix (ix_seqK (K := K)) (os_ix (K := K)) (pm_var 4) (pm_var 7)))
    (pmss_cons (pms_aug 6 sc_number_of_word.nd ip_add os_ipAdd (pm_callB (cr_sumK (K := K)) (cs_sum (K := K)) T.n_sum (by decide +kernel) (pma_cons (pm_lc [("_", 3), ("target", 12)] rfl sc_number_of_word.nd (pmi_s (K := K) (pm_defK F_leads gd (hr.mono (by decide)) T.g_leads T.f_leads.kp T.b_leads (fun σ => passAt tk σ) (pma_cons (pm_sliceUK (K := K) (pm_var 11) pmo_none (pmo_some (pm_op op_sub (os_sub (K := K)) (pm_var 9) pm_int))) pma_nil) (mCons_len mNil_len))) (blkOk_by (own := [("_", 3), ("target", 12)]) (N := N_number_of_word) (sc := defScope s_number_of_word) (by decide +kernel)) (by decide) (fun _ _ _ _ _ => (pmg_tupK (K := K) rfl rfl (pmg_cons (pmg_name 3 sc_number_of_word.nd) (pmg_cons (pmg_name 12 sc_number_of_word.nd) pmg_nil)))) (fun _ _ _ _ _ => pmts_nil) (fun _ _ _ _ _ => (pm_ix (ix_seqK (K := K)) (os_ix (K := K)) (pm_var 10) (pm_var 12)))) pma_nil)))
    (pmss_one (pms_set 7 sc_number_of_word.nd (pm_ix (ix_seqK (K := K)) (os_ix (K := K)) (pm_var 11) (pm_op op_sub (os_sub (K := K)) (pm_var 9) pm_int))))))))
    (pmss_one (pms_retV 6)))))))))))⟩
theorem ok__tail_with_number (T : Fx K mg a_is_machine a_check_machine a_accepts a_leads a_check_length a_tails a_many_words a_count_words a__check_size a_number_of_word a__tail_with_number a_word_with_number a__law_cell a__law_values a__law_machine a__law_accepts a__law_words a__law_told a_law a_Winit a_Wread a_Wacc p_Wacc C_Walker d_is_machine d_check_machine d_accepts d_leads d_check_length d_tails d_many_words d_count_words d__check_size d_number_of_word d__tail_with_number d_word_with_number d__law_cell d__law_values d__law_machine d__law_accepts d__law_words d__law_told d_law d_Winit d_Wread d_Wacc C_BadNumber C_NoWord C_NotMachine C_NotWord C_YardsortError) : FnG P w K mg base 2 a__tail_with_number d__tail_with_number P__tail_with_number (spM K mg 5 M__tail_with_number) := by
  have F_leads : FnG P w K mg base 1 a_leads d_leads P_leads (spM K mg 1 M_leads) := ok_leads T
  refine def_ok (N := N__tail_with_number) (ps := P__tail_with_number) (k := 1) (ms := ms__tail_with_number) T.f__tail_with_number sc__tail_with_number fun cdv A outer s H E gd hr => ?_
  have tk : Takes (cxOf (L2.CX P w) P w K mg base N__tail_with_number "_tail_with_number" (defScope s__tail_with_number) a__tail_with_number cdv A outer s H E) (wOf E) := takes_of rfl rfl rfl rfl
  exact ⟨_, (pmss_cons (pms_set 5 sc__tail_with_number.nd (pm_lst pma_nil))
    (pmss_frz 10 (pmss_frz 9 (pmss_frz 8 (pmss_cons (pms_for (passes_of rfl) rfl (pmi_3 T.n_range (pma_cons (pm_op op_sub (os_sub (K := K)) (pm_var 3) pm_int) (pma_cons (pm_neg pm_int) (pma_cons (pm_neg pm_int) pma_nil)))) (pmg_name 6 sc__tail_with_number.nd)
    (pmss_cons (pms_set 7 sc__tail_with_number.nd (pm_ix (ix_seqK (K := K)) (os_ix (K := K)) (pm_var 1) (pm_var 6)))
    (pmss_cons (pms_set 8 sc__tail_with_number.nd (pm_defK F_leads gd (hr.mono (by decide)) T.g_leads T.f_leads.kp T.b_leads (fun σ => passAt tk σ) (pma_cons (pm_ix (ix_seqK (K := K)) (os_ix (K := K)) (pm_var 0) (pm_var 2)) pma_nil) (mCons_len mNil_len)))
    (pmss_frz 10 (pmss_frz 9 (pmss_frz 8 (pmss_one (pms_for (passes_of rfl) rfl (pmi_s (K := K) (pm_var 8)) (pmg_tup rfl (pmg_cons (pmg_name 9 sc__tail_with_number.nd) (pmg_cons (pmg_name 10 sc__tail_with_number.nd) pmg_nil)))
    (pmss_frz 10 (pmss_frz 9 (pmss_cons (pms_if (pmt_cmp op_lt (os_lt (K := K)) (pm_var 4) (pm_ix (ix_seqK (K := K)) (os_ix (K := K)) (pm_var 7) (pm_var 10)))
    (pmss_frz 9 (pmss_cons (pms_app 5 (pm_var 9))
    (pmss_frz 10 (pmss_cons (pms_set 2 sc__tail_with_number.nd (pm_var 10))
    (pmss_one pms_brk)))))
    pmss_nil)
    (pmss_one (pms_aug 4 sc__tail_with_number.nd ip_sub os_ipSub (pm_ix (ix_seqK (K := K)) (os_ix (K := K)) (pm_var 7) (pm_var 10)))))))))))))))
    (pmss_one (pms_retV 5)))))))⟩
theorem ok_word_with_number (T : Fx K mg a_is_machine a_check_machine a_accepts a_leads a_check_length a_tails a_many_words a_count_words a__check_size a_number_of_word a__tail_with_number a_word_with_number a__law_cell a__law_values a__law_machine a__law_accepts a__law_words a__law_told a_law a_Winit a_Wread a_Wacc p_Wacc C_Walker d_is_machine d_check_machine d_accepts d_leads d_check_length d_tails d_many_words d_count_words d__check_size d_number_of_word d__tail_with_number d_word_with_number d__law_cell d__law_values d__law_machine d__law_accepts d__law_words d__law_told d_law d_Winit d_Wread d_Wacc C_BadNumber C_NoWord C_NotMachine C_NotWord C_YardsortError) : FnG P w K mg base 3 a_word_with_number d_word_with_number P_word_with_number (spM K mg 3 M_word_with_number) := by
  have F__tail_with_number : FnG P w K mg base 2 a__tail_with_number d__tail_with_number P__tail_with_number (spM K mg 5 M__tail_with_number) := ok__tail_with_number T
  have F_check_length : FnG P w K mg base 1 a_check_length d_check_length P_check_length (spM K mg 1 M_check_length) := ok_check_length T
  have F_check_machine : FnG P w K mg base 2 a_check_machine d_check_machine P_check_machine (spM K mg 1 M_check_machine) := ok_check_machine T
  have F_many_words : FnG P w K mg base 1 a_many_words d_many_words P_many_words (spM K mg 3 M_many_words) := ok_many_words T
  have F_tails : FnG P w K mg base 1 a_tails d_tails P_tails (spM K mg 2 M_tails) := ok_tails T
  refine def_ok (N := N_word_with_number) (ps := P_word_with_number) (k := 2) (ms := ms_word_with_number) T.f_word_with_number sc_word_with_number fun cdv A outer s H E gd hr => ?_
  have tk : Takes (cxOf (L2.CX P w) P w K mg base N_word_with_number "word_with_number" (defScope s_word_with_number) a_word_with_number cdv A outer s H E) (wOf E) := takes_of rfl rfl rfl rfl
  exact ⟨_, (pmss_cons (pms_drop (pm_defK F_check_machine gd (hr.mono (by decide)) T.g_check_machine T.f_check_machine.kp T.b_check_machine (fun σ => passAt tk σ) (pma_cons (pm_var 0) pma_nil) (mCons_len mNil_len)))
    (pmss_cons (pms_drop (pm_defK F_check_length gd (hr.mono (by decide)) T.g_check_length T.f_check_length.kp T.b_check_length (fun σ => passAt tk σ) (pma_cons (pm_var 1) pma_nil) (mCons_len mNil_len)))
    (pmss_cons (pms_if (pmt_cmp op_lt (os_lt (K := K)) (pm_var 2) pm_int)
    (pmss_one (pms_raise rfl tk PySem.F.excBase_ValueError T.x_BadNumber T.e_BadNumber T.k_BadNumber (raises_own T.r_BadNumber T.t_BadNumber)))
    pmss_nil)
    (pmss_cons (pms_set 3 sc_word_with_number.nd (pm_defK F_tails gd (hr.mono (by decide)) T.g_tails T.f_tails.kp T.b_tails (fun σ => passAt tk σ) (pma_cons (pm_var 0) (pma_cons (pm_var 1) pma_nil)) (mCons_len (mCons_len mNil_len))))
    (pmss_cons (pms_if (pmt_cmp op_ge (os_ge (K := K)) (pm_var 2) (pm_defK F_many_words gd (hr.mono (by decide)) T.g_many_words T.f_many_words.kp T.b_many_words (fun σ => passAt tk σ) (pma_cons (pm_var 0) (pma_cons (pm_var 3) (pma_cons (pm_var 1) pma_nil))) (mCons_len (mCons_len (mCons_len mNil_len)))))
    (pmss_one (pms_raise rfl tk PySem.F.excBase_ValueError T.x_NoWord T.e_NoWord T.k_NoWord (raises_own T.r_NoWord T.t_NoWord)))
    pmss_nil)
    (pmss_one (pms_ret (pm_defK F__tail_with_number gd (hr.mono (by decide)) T.g__tail_with_number T.f__tail_with_number.kp T.b__tail_with_number (fun σ => passAt tk σ) (pma_cons (pm_ix (ix_seqK (K := K)) (os_ix (K := K)) (pm_var 0) pm_int) (pma_cons (pm_var 3) (pma_cons (pm_globI T.c_START) (pma_cons (pm_var 1) (pma_cons (pm_var 2) pma_nil))))) (mCons_len (mCons_len (mCons_len (mCons_len (mCons_len mNil_len)))))))))))))⟩
theorem ok__law_cell (T : Fx K mg a_is_machine a_check_machine a_accepts a_leads a_check_length a_tails a_many_words a_count_words a__check_size a_number_of_word a__tail_with_number a_word_with_number a__law_cell a__law_values a__law_machine a__law_accepts a__law_words a__law_told a_law a_Winit a_Wread a_Wacc p_Wacc C_Walker d_is_machine d_check_machine d_accepts d_leads d_check_length d_tails d_many_words d_count_words d__check_size d_number_of_word d__tail_with_number d_word_with_number d__law_cell d__law_values d__law_machine d__law_accepts d__law_words d__law_told d_law d_Winit d_Wread d_Wacc C_BadNumber C_NoWord C_NotMachine C_NotWord C_YardsortError) : FnG P w K mg base 1 a__law_cell d__law_cell P__law_cell (spM K mg 2 M__law_cell) := by
  refine def_ok (N := N__law_cell) (ps := P__law_cell) (k := 0) (ms := ms__law_cell) T.f__law_cell sc__law_cell fun cdv A outer s H E gd hr => ?_
  have tk : Takes (cxOf (L2.CX P w) P w K mg base N__law_cell "_law_cell" (defScope s__law_cell) a__law_cell cdv A outer s H E) (wOf E) := takes_of rfl rfl rfl rfl
  exact ⟨_, (pmss_cons (pms_if (pmt_cmp op_lt (os_lt (K := K)) (pm_var 1) (pm_callB (call_lenK (K := K)) (cs_len (K := K)) T.n_len (by decide +kernel) (pma_cons (pm_var 0) pma_nil)))
    (pmss_one (pms_ret (pm_ix (ix_seqK (K := K)) (os_ix (K := K)) (pm_var 0) (pm_var 1))))
    pmss_nil)
    (pmss_one (pms_ret pm_int)))⟩
theorem ok__law_values (T : Fx K mg a_is_machine a_check_machine a_accepts a_leads a_check_length a_tails a_many_words a_count_words a__check_size a_number_of_word a__tail_with_number a_word_with_number a__law_cell a__law_values a__law_machine a__law_accepts a__law_words a__law_told a_law a_Winit a_Wread a_Wacc p_Wacc C_Walker d_is_machine d_check_machine d_accepts d_leads d_check_length d_tails d_many_words d_count_words d__check_size d_number_of_word d__tail_with_number d_word_with_number d__law_cell d__law_values d__law_machine d__law_accepts d__law_words d__law_told d_law d_Winit d_Wread d_Wacc C_BadNumber C_NoWord C_NotMachine C_NotWord C_YardsortError) : FnG P w K mg base 1 a__law_values d__law_values P__law_values (spM K mg 3 M__law_values) := by
  refine def_ok (N := N__law_values) (ps := P__law_values) (k := 0) (ms := ms__law_values) T.f__law_values sc__law_values fun cdv A outer s H E gd hr => ?_
  have tk : Takes (cxOf (L2.CX P w) P w K mg base N__law_values "_law_values" (defScope s__law_values) a__law_values cdv A outer s H E) (wOf E) := takes_of rfl rfl rfl rfl
  exact ⟨_, (pmss_cons (pms_set 3 sc__law_values.nd (pm_lst pma_nil))
    (pmss_cons (pms_set 4 sc__law_values.nd (pm_var 0))
    (pmss_cons (pms_for (passes_of rfl) rfl (pmi_1 T.n_range (pma_cons (pm_var 1) pma_nil)) (pmg_name 5 sc__law_values.nd)
    (pmss_one (pms_if (pmt_cmp op_ge (os_ge (K := K)) (pm_var 4) (pm_op op_pow (os_pow (K := K)) pm_int pm_int))
    (pmss_cons (pms_app 3 (pm_op op_mod (os_mod (K := K)) (pm_callTy call_int1 (cs_intB (K := K)) T.n_int (by decide +kernel) (pma_cons (pm_var 4) pma_nil)) (pm_var 2)))
    (pmss_one (pms_set 4 sc__law_values.nd (pm_op op_fdiv (os_divN (K := K)) (pm_var 4) (pm_var 2)))))
    (pmss_cons (pms_set 6 sc__law_values.nd (pm_op op_mod (os_mod (K := K)) (pm_op (or_op op_add (or_op (op_catAK (K := K)) (or_op op_add_str op_cat))) (os_or (os_addI (K := K)) (os_or (os_catT (K := K)) (os_or (os_strcat (K := K)) (os_cat (K := K))))) (pm_op (or_op op_add (or_op (op_catAK (K := K)) (or_op op_add_str op_cat))) (os_or (os_addI (K := K)) (os_or (os_catT (K := K)) (os_or (os_strcat (K := K)) (os_cat (K := K))))) (pm_op (or_op op_mul op_rep) (os_or (os_mulN (K := K)) (os_rep (K := K))) (pm_op op_mod (os_mod (K := K)) (pm_callTy call_int1 (cs_intB (K := K)) T.n_int (by decide +kernel) (pma_cons (pm_var 0) pma_nil)) pm_int) pm_int) (pm_op (or_op op_mul op_rep) (os_or (os_mulN (K := K)) (os_rep (K := K))) (pm_var 5) pm_int)) pm_int) pm_int))
    (pmss_one (pms_app 3 (pm_op op_mod (os_mod (K := K)) (pm_op op_mod (os_mod (K := K)) (pm_op (or_op op_mul op_rep) (os_or (os_mulN (K := K)) (os_rep (K := K))) (pm_var 6) pm_int) pm_int) (pm_var 2))))))))
    (pmss_one (pms_retV 3)))))⟩
theorem ok__law_machine (T : Fx K mg a_is_machine a_check_machine a_accepts a_leads a_check_length a_tails a_many_words a_count_words a__check_size a_number_of_word a__tail_with_number a_word_with_number a__law_cell a__law_values a__law_machine a__law_accepts a__law_words a__law_told a_law a_Winit a_Wread a_Wacc p_Wacc C_Walker d_is_machine d_check_machine d_accepts d_leads d_check_length d_tails d_many_words d_count_words d__check_size d_number_of_word d__tail_with_number d_word_with_number d__law_cell d__law_values d__law_machine d__law_accepts d__law_words d__law_told d_law d_Winit d_Wread d_Wacc C_BadNumber C_NoWord C_NotMachine C_NotWord C_YardsortError) : FnG P w K mg base 2 a__law_machine d__law_machine P__law_machine (spM K mg 3 M__law_machine) := by
  have F__law_values : FnG P w K mg base 1 a__law_values d__law_values P__law_values (spM K mg 3 M__law_values) := ok__law_values T
  refine def_ok (N := N__law_machine) (ps := P__law_machine) (k := 1) (ms := ms__law_machine) T.f__law_machine sc__law_machine fun cdv A outer s H E gd hr => ?_
  have tk : Takes (cxOf (L2.CX P w) P w K mg base N__law_machine "_law_machine" (defScope s__law_machine) a__law_machine cdv A outer s H E) (wOf E) := takes_of rfl rfl rfl rfl
  exact ⟨_, (pmss_cons (pms_set 3 sc__law_machine.nd (pm_op op_mod (os_mod (K := K)) (pm_var 1) pm_int))
    (pmss_cons (pms_set 4 sc__law_machine.nd (pm_defK F__law_values gd (hr.mono (by decide)) T.g__law_values T.f__law_values.kp T.b__law_values (fun σ => passAt tk σ) (pma_cons (pm_var 0) (pma_cons (pm_op (or_op op_mul op_rep) (os_or (os_mulN (K := K)) (os_rep (K := K))) (pm_var 3) (pm_op (or_op op_add (or_op (op_catAK (K := K)) (or_op op_add_str op_cat))) (os_or (os_addI (K := K)) (os_or (os_catT (K := K)) (os_or (os_strcat (K := K)) (os_cat (K := K))))) (pm_var 2) pm_int)) (pma_cons pm_int pma_nil))) (mCons_len (mCons_len (mCons_len mNil_len)))))
    (pmss_cons (pms_set 5 sc__law_machine.nd (pm_callTy (call_tupleK (K := K)) (cs_tuple (K := K)) T.n_tuple (by decide +kernel) (pma_cons (pm_lc [("k", 9)] rfl sc__law_machine.nd (pmi_1 T.n_range (pma_cons (pm_var 3) pma_nil)) (blkOk_by (own := [("k", 9)]) (N := N__law_machine) (sc := defScope s__law_machine) (by decide +kernel)) (by decide) (fun _ _ _ _ _ => (pmg_name 9 sc__law_machine.nd)) (fun _ _ _ _ _ => pmts_nil) (fun _ _ _ _ _ => (pm_cmp (or_op op_eq (op_eqDK (K := K) hr.units)) (os_or (os_eqS (K := K)) (os_eq (K := K))) (pm_op op_mod (os_mod (K := K)) (pm_ix (ix_seqK (K := K)) (os_ix (K := K)) (pm_var 4) (pm_var 9)) pm_int) pm_int))) pma_nil)))
    (pmss_cons (pms_set 6 sc__law_machine.nd (pm_lst pma_nil))
    (pmss_frz 8 (pmss_cons (pms_for (passes_of rfl) rfl (pmi_1 T.n_range (pma_cons (pm_var 3) pma_nil)) (pmg_name 7 sc__law_machine.nd)
    (pmss_cons (pms_set 8 sc__law_machine.nd (pm_sliceUK (K := K) (pm_var 4) (pmo_some (pm_op (or_op op_add (or_op (op_catAK (K := K)) (or_op op_add_str op_cat))) (os_or (os_addI (K := K)) (os_or (os_catT (K := K)) (os_or (os_strcat (K := K)) (os_cat (K := K))))) (pm_var 3) (pm_op (or_op op_mul op_rep) (os_or (os_mulN (K := K)) (os_rep (K := K))) (pm_var 7) (pm_var 2)))) (pmo_some (pm_op (or_op op_add (or_op (op_catAK (K := K)) (or_op op_add_str op_cat))) (os_or (os_addI (K := K)) (os_or (os_catT (K := K)) (os_or (os_strcat (K := K)) (os_cat (K := K))))) (pm_var 3) (pm_op (or_op op_mul op_rep) (os_or (os_mulN (K := K)) (os_rep (K := K))) (pm_op (or_op op_add (or_op (op_catAK (K := K)) (or_op op_add_str op_cat))) (os_or (os_addI (K := K)) (os_or (os_catT (K := K)) (os_or (os_strcat (K := K)) (os_cat (K := K))))) (pm_var 7) pm_int) (pm_var 2))))))
    (pmss_frz 8 (pmss_one (pms_app 6 (pm_callTy (call_tupleK (K := K)) (cs_tuple (K := K)) T.n_tuple (by decide +kernel) (pma_cons (pm_lc [("value", 10)] rfl sc__law_machine.nd (pmi_s (K := K) (pm_var 8)) (blkOk_by (own := [("value", 10)]) (N := N__law_machine) (sc := defScope s__law_machine) (by decide +kernel)) (by decide) (fun _ _ _ _ _ => (pmg_name 10 sc__law_machine.nd)) (fun _ _ _ _ _ => pmts_nil) (fun _ _ _ _ _ => (pm_op op_sub (os_sub (K := K)) (pm_op op_mod (os_mod (K := K)) (pm_var 10) (pm_op (or_op op_add (or_op (op_catAK (K := K)) (or_op op_add_str op_cat))) (os_or (os_addI (K := K)) (os_or (os_catT (K := K)) (os_or (os_strcat (K := K)) (os_cat (K := K))))) (pm_var 3) pm_int)) pm_int))) pma_nil)))))))
    (pmss_frz 5 (pmss_one (pms_ret (pm_tup (pma_cons (pm_var 2) (pma_cons (pm_var 5) (pma_cons (pm_callTy (call_tupleK (K := K)) (cs_tuple (K := K)) T.n_tuple (by decide +kernel) (pma_cons (pm_var 6) pma_nil)) pma_nil)))))))))))))⟩
theorem ok__law_accepts (T : Fx K mg a_is_machine a_check_machine a_accepts a_leads a_check_length a_tails a_many_words a_count_words a__check_size a_number_of_word a__tail_with_number a_word_with_number a__law_cell a__law_values a__law_machine a__law_accepts a__law_words a__law_told a_law a_Winit a_Wread a_Wacc p_Wacc C_Walker d_is_machine d_check_machine d_accepts d_leads d_check_length d_tails d_many_words d_count_words d__check_size d_number_of_word d__tail_with_number d_word_with_number d__law_cell d__law_values d__law_machine d__law_accepts d__law_words d__law_told d_law d_Winit d_Wread d_Wacc C_BadNumber C_NoWord C_NotMachine C_NotWord C_YardsortError) : FnG P w K mg base 1 a__law_accepts d__law_accepts P__law_accepts (spM K mg 2 M__law_accepts) := by
  refine def_ok (N := N__law_accepts) (ps := P__law_accepts) (k := 0) (ms := ms__law_accepts) T.f__law_accepts sc__law_accepts fun cdv A outer s H E gd hr => ?_
  have tk : Takes (cxOf (L2.CX P w) P w K mg base N__law_accepts "_law_accepts" (defScope s__law_accepts) a__law_accepts cdv A outer s H E) (wOf E) := takes_of rfl rfl rfl rfl
  exact ⟨_, (pmss_cons (pms_set 2 sc__law_accepts.nd (pm_ifE (pmt_cmp op_gt (os_gt (K := K)) (pm_callB (call_lenK (K := K)) (cs_len (K := K)) T.n_len (by decide +kernel) (pma_cons (pm_ix (ix_seqK (K := K)) (os_ix (K := K)) (pm_var 0) pm_int) pma_nil)) pm_int) pm_int (pm_neg pm_int)))
    (pmss_cons (pms_for (passes_of rfl) rfl (pmi_s (K := K) (pm_var 1)) (pmg_name 3 sc__law_accepts.nd)
    (pmss_one (pms_if (pmt_cmp op_ge (os_ge (K := K)) (pm_var 2) pm_int)
    (pmss_one (pms_set 2 sc__law_accepts.nd (pm_ifE (pmt_chain op_le op_le (os_le (K := K)) (os_le (K := K)) pm_int (pm_var 3) (pm_ix (ix_seqK (K := K)) (os_ix (K := K)) (pm_var 0) pm_int)) (pm_ix (ix_seqK (K := K)) (os_ix (K := K)) (pm_ix (ix_seqK (K := K)) (os_ix (K := K)) (pm_ix (ix_seqK (K := K)) (os_ix (K := K)) (pm_var 0) pm_int) (pm_var 2)) (pm_op op_sub (os_sub (K := K)) (pm_var 3) pm_int)) (pm_neg pm_int))))
    pmss_nil)))
    (pmss_one (pms_ret (pm_and (pm_cmp op_ge (os_ge (K := K)) (pm_var 2) pm_int) (pm_one (pm_ix (ix_seqK (K := K)) (os_ix (K := K)) (pm_ix (ix_seqK (K := K)) (os_ix (K := K)) (pm_var 0) pm_int) (pm_var 2))))))))⟩
theorem ok__law_words (T : Fx K mg a_is_machine a_check_machine a_accepts a_leads a_check_length a_tails a_many_words a_count_words a__check_size a_number_of_word a__tail_with_number a_word_with_number a__law_cell a__law_values a__law_machine a__law_accepts a__law_words a__law_told a_law a_Winit a_Wread a_Wacc p_Wacc C_Walker d_is_machine d_check_machine d_accepts d_leads d_check_length d_tails d_many_words d_count_words d__check_size d_number_of_word d__tail_with_number d_word_with_number d__law_cell d__law_values d__law_machine d__law_accepts d__law_words d__law_told d_law d_Winit d_Wread d_Wacc C_BadNumber C_NoWord C_NotMachine C_NotWord C_YardsortError) : FnG P w K mg base 2 a__law_words d__law_words P__law_words (spM K mg 2 M__law_words) := by
  have F__law_accepts : FnG P w K mg base 1 a__law_accepts d__law_accepts P__law_accepts (spM K mg 2 M__law_accepts) := ok__law_accepts T
  refine def_ok (N := N__law_words) (ps := P__law_words) (k := 1) (ms := ms__law_words) T.f__law_words sc__law_words fun cdv A outer s H E gd hr => ?_
  have tk : Takes (cxOf (L2.CX P w) P w K mg base N__law_words "_law_words" (defScope s__law_words) a__law_words cdv A outer s H E) (wOf E) := takes_of rfl rfl rfl rfl
  exact ⟨_, (pmss_cons (pms_set 2 sc__law_words.nd (pm_lst (pma_cons (pm_lst pma_nil) pma_nil)))
    (pmss_frz 2 (pmss_cons (pms_for (passes_of rfl) rfl (pmi_1 T.n_range (pma_cons (pm_var 1) pma_nil)) (pmg_name 3 sc__law_words.nd)
    (pmss_cons (pms_set 4 sc__law_words.nd (pm_lst pma_nil))
    (pmss_frz 2 (pmss_cons (pms_for (passes_of rfl) rfl (pmi_s (K := K) (pm_var 2)) (pmg_name 5 sc__law_words.nd)
    (pmss_one (pms_set 4 sc__law_words.nd (pm_op (or_op op_add (or_op (op_catAK (K := K)) (or_op op_add_str op_cat))) (os_or (os_addI (K := K)) (os_or (os_catT (K := K)) (os_or (os_strcat (K := K)) (os_cat (K := K))))) (pm_var 4) (pm_lc [("letter", 6)] rfl sc__law_words.nd (pmi_2 T.n_range (pma_cons pm_int (pma_cons (pm_op (or_op op_add (or_op (op_catAK (K := K)) (or_op op_add_str op_cat))) (os_or (os_addI (K := K)) (os_or (os_catT (K := K)) (os_or (os_strcat (K := K)) (os_cat (K := K))))) (pm_ix (ix_seqK (K := K)) (os_ix (K := K)) (pm_var 0) pm_int) pm_int) pma_nil))) (blkOk_by (own := [("letter", 6)]) (N := N__law_words) (sc := defScope s__law_words) (by decide +kernel)) (by decide) (fun _ _ _ _ _ => (pmg_name 6 sc__law_words.nd)) (fun _ _ _ _ _ => pmts_nil) (fun _ _ _ _ _ => (pm_op (or_op op_add (or_op (op_catAK (K := K)) (or_op op_add_str op_cat))) (os_or (os_addI (K := K)) (os_or (os_catT (K := K)) (os_or (os_strcat (K := K)) (os_cat (K := K))))) (pm_var 5) (pm_lst (pma_cons (pm_var 6) pma_nil)))))))))
    (pmss_one (pms_set 2 sc__law_words.nd (pm_callTy (call_list_ofK (K := K)) (cs_list (K := K)) T.n_list (by decide +kernel) (pma_cons (pm_var 4) pma_nil))))))))
    (pmss_frz 2 (pmss_one (pms_ret (pm_lc [("word", 5)] rfl sc__law_words.nd (pmi_s (K := K) (pm_var 2)) (blkOk_by (own := [("word", 5)]) (N := N__law_words) (sc := defScope s__law_words) (by decide +kernel)) (by decide) (fun _ _ _ _ _ => (pmg_name 5 sc__law_words.nd)) (fun _ _ _ _ _ => (pmts_one (pmt_truK (K := K) (pm_defK F__law_accepts gd (hr.mono (by decide)) T.g__law_accepts T.f__law_accepts.kp T.b__law_accepts (fun σ => passB) (pma_cons (pm_var 0) (pma_cons (pm_var 5) pma_nil)) (mCons_len (mCons_len mNil_len)))))) (fun _ _ _ _ _ => (pm_var 5)))))))))⟩
theorem ok__law_told (T : Fx K mg a_is_machine a_check_machine a_accepts a_leads a_check_length a_tails a_many_words a_count_words a__check_size a_number_of_word a__tail_with_number a_word_with_number a__law_cell a__law_values a__law_machine a__law_accepts a__law_words a__law_told a_law a_Winit a_Wread a_Wacc p_Wacc C_Walker d_is_machine d_check_machine d_accepts d_leads d_check_length d_tails d_many_words d_count_words d__check_size d_number_of_word d__tail_with_number d_word_with_number d__law_cell d__law_values d__law_machine d__law_accepts d__law_words d__law_told d_law d_Winit d_Wread d_Wacc C_BadNumber C_NoWord C_NotMachine C_NotWord C_YardsortError) : FnG P w K mg base 7 a__law_told d__law_told P__law_told (spM K mg 3 M__law_told) := by
  have F_number_of_word : FnG P w K mg base 6 a_number_of_word d_number_of_word P_number_of_word (spM K mg 2 M_number_of_word) := ok_number_of_word T
  have F_word_with_number : FnG P w K mg base 3 a_word_with_number d_word_with_number P_word_with_number (spM K mg 3 M_word_with_number) := ok_word_with_number T
  refine def_ok (N := N__law_told) (ps := P__law_told) (k := 6) (ms := ms__law_told) T.f__law_told sc__law_told fun cdv A outer s H E gd hr => ?_
  have tk : Takes (cxOf (L2.CX P w) P w K mg base N__law_told "_law_told" (defScope s__law_told) a__law_told cdv A outer s H E) (wOf E) := takes_of rfl rfl rfl rfl
  exact ⟨_, (pmss_one (pms_tryM rfl rfl tk (fun W pn xe tk => (pmss_cons (pms_if (pmt_cmp op_isN (os_isN (K := K)) (pm_var 2) pm_non)
    (pmss_one (pms_ret (pm_defK F_number_of_word gd (hr.mono (by decide)) T.g_number_of_word T.f_number_of_word.kp T.b_number_of_word (fun σ => passAt tk σ) (pma_cons (pm_var 0) (pma_cons (pm_var 1) pma_nil)) (mCons_len (mCons_len mNil_len)))))
    pmss_nil)
    (pmss_one (pms_ret (pm_defK F_word_with_number gd (hr.mono (by decide)) T.g_word_with_number T.f_word_with_number.kp T.b_word_with_number (fun σ => passAt tk σ) (pma_cons (pm_var 0) (pma_cons (pm_var 1) (pma_cons (pm_var 2) pma_nil))) (mCons_len (mCons_len (mCons_len mNil_len)))))))) (.cons T.e_NotMachine (by rfl) (by decide) T.d_NotMachine (fun _ _ _ _ _ => (pmss_one (pms_ret pm_str))) (.cons T.e_BadNumber (by rfl) (by decide) T.d_BadNumber (fun _ _ _ _ _ => (pmss_one (pms_ret pm_str))) (.cons T.e_NotWord (by rfl) (by decide) T.d_NotWord (fun _ _ _ _ _ => (pmss_one (pms_ret pm_str))) (.cons T.e_NoWord (by rfl) (by decide) T.d_NoWord (fun _ _ _ _ _ => (pmss_one (pms_ret pm_str))) .nil))))))⟩
theorem ok_law (T : Fx K mg a_is_machine a_check_machine a_accepts a_leads a_check_length a_tails a_many_words a_count_words a__check_size a_number_of_word a__tail_with_number a_word_with_number a__law_cell a__law_values a__law_machine a__law_accepts a__law_words a__law_told a_law a_Winit a_Wread a_Wacc p_Wacc C_Walker d_is_machine d_check_machine d_accepts d_leads d_check_length d_tails d_many_words d_count_words d__check_size d_number_of_word d__tail_with_number d_word_with_number d__law_cell d__law_values d__law_machine d__law_accepts d__law_words d__law_told d_law d_Winit d_Wread d_Wacc C_BadNumber C_NoWord C_NotMachine C_NotWord C_YardsortError) : FnG P w K mg base 8 a_law d_law P_law (spM K mg 1 M_law) := by
  have F__law_accepts : FnG P w K mg base 1 a__law_accepts d__law_accepts P__law_accepts (spM K mg 2 M__law_accepts) := ok__law_accepts T
  have F__law_cell : FnG P w K mg base 1 a__law_cell d__law_cell P__law_cell (spM K mg 2 M__law_cell) := ok__law_cell T
  have F__law_machine : FnG P w K mg base 2 a__law_machine d__law_machine P__law_machine (spM K mg 3 M__law_machine) := ok__law_machine T
  have F__law_told : FnG P w K mg base 7 a__law_told d__law_told P__law_told (spM K mg 3 M__law_told) := ok__law_told T
  have F__law_values : FnG P w K mg base 1 a__law_values d__law_values P__law_values (spM K mg 3 M__law_values) := ok__law_values T
  have F__law_words : FnG P w K mg base 2 a__law_words d__law_words P__law_words (spM K mg 2 M__law_words) := ok__law_words T
  have F_count_words : FnG P w K mg base 3 a_count_words d_count_words P_count_words (spM K mg 2 M_count_words) := ok_count_words T
  refine def_ok (N := N_law) (ps := P_law) (k := 7) (ms := ms_law) T.f_law sc_law fun cdv A outer s H E gd hr => ?_
  have tk : Takes (cxOf (L2.CX P w) P w K mg base N_law "law" (defScope s_law) a_law cdv A outer s H E) (wOf E) := takes_of rfl rfl rfl rfl
  exact ⟨_, (pmss_cons (pms_set 1 sc_law.nd (pm_defK F__law_machine gd (hr.mono (by decide)) T.g__law_machine T.f__law_machine.kp T.b__law_machine (fun σ => passAt tk σ) (pma_cons (pm_defK F__law_cell gd (hr.mono (by decide)) T.g__law_cell T.f__law_cell.kp T.b__law_cell (fun σ => passAt tk σ) (pma_cons (pm_var 0) (pma_cons pm_int pma_nil)) (mCons_len (mCons_len mNil_len))) (pma_cons (pm_defK F__law_cell gd (hr.mono (by decide)) T.g__law_cell T.f__law_cell.kp T.b__law_cell (fun σ => passAt tk σ) (pma_cons (pm_var 0) (pma_cons pm_int pma_nil)) (mCons_len (mCons_len mNil_len))) (pma_cons (pm_op (or_op op_add (or_op (op_catAK (K := K)) (or_op op_add_str op_cat))) (os_or (os_addI (K := K)) (os_or (os_catT (K := K)) (os_or (os_strcat (K := K)) (os_cat (K := K))))) pm_int (pm_op op_mod (os_mod (K := K)) (pm_op op_fdiv (os_divN (K := K)) (pm_defK F__law_cell gd (hr.mono (by decide)) T.g__law_cell T.f__law_cell.kp T.b__law_cell (fun σ => passAt tk σ) (pma_cons (pm_var 0) (pma_cons pm_int pma_nil)) (mCons_len (mCons_len mNil_len))) pm_int) pm_int)) pma_nil))) (mCons_len (mCons_len (mCons_len mNil_len)))))
    (pmss_cons (pms_set 2 sc_law.nd (pm_op op_mod (os_mod (K := K)) (pm_defK F__law_cell gd (hr.mono (by decide)) T.g__law_cell T.f__law_cell.kp T.b__law_cell (fun σ => passAt tk σ) (pma_cons (pm_var 0) (pma_cons pm_int pma_nil)) (mCons_len (mCons_len mNil_len))) pm_int))
    (pmss_cons (pms_set 3 sc_law.nd (pm_defK F__law_words gd (hr.mono (by decide)) T.g__law_words T.f__law_words.kp T.b__law_words (fun σ => passAt tk σ) (pma_cons (pm_var 1) (pma_cons (pm_var 2) pma_nil)) (mCons_len (mCons_len mNil_len))))
    (pmss_cons (pms_for (passes_of rfl) rfl (pmi_1 T.n_range (pma_cons (pm_callB (call_min2 rfl) (cs_int2 (K := K)) T.n_min (by decide +kernel) (pma_cons (pm_callB (call_lenK (K := K)) (cs_len (K := K)) T.n_len (by decide +kernel) (pma_cons (pm_var 3) pma_nil)) (pma_cons pm_int pma_nil))) pma_nil)) (pmg_name 4 sc_law.nd)
    (pmss_one (pms_if (PMW.t (pmw_or (pmt_cmp (or_op op_ne (op_neDK (K := K) hr.units)) (os_or (os_neS (K := K)) (os_ne (K := K))) (pm_callB (call_reprDK (K := K) gd hr.units) (cs_repr (K := K)) T.n_repr (by decide +kernel) (pma_cons (pm_defK F__law_told gd (hr.mono (by decide)) T.g__law_told T.f__law_told.kp T.b__law_told (fun σ => passAt tk σ) (pma_cons (pm_var 1) (pma_cons (pm_var 2) (pma_cons (pm_var 4) pma_nil))) (mCons_len (mCons_len (mCons_len mNil_len)))) pma_nil)) (pm_callB (call_reprDK (K := K) gd hr.units) (cs_repr (K := K)) T.n_repr (by decide +kernel) (pma_cons (pm_ix (ix_seqK (K := K)) (os_ix (K := K)) (pm_var 3) (pm_var 4)) pma_nil))) (pmw_or1 (pmt_cmp (or_op op_ne (op_neDK (K := K) hr.units)) (os_or (os_neS (K := K)) (os_ne (K := K))) (pm_callB (call_reprDK (K := K) gd hr.units) (cs_repr (K := K)) T.n_repr (by decide +kernel) (pma_cons (pm_defK F__law_told gd (hr.mono (by decide)) T.g__law_told T.f__law_told.kp T.b__law_told (fun σ => passAt tk σ) (pma_cons (pm_var 1) (pma_cons (pm_ix (ix_seqK (K := K)) (os_ix (K := K)) (pm_var 3) (pm_var 4)) (pma_cons pm_non pma_nil))) (mCons_len (mCons_len (mCons_len mNil_len)))) pma_nil)) (pm_callB (call_reprDK (K := K) gd hr.units) (cs_repr (K := K)) T.n_repr (by decide +kernel) (pma_cons (pm_var 4) pma_nil))))))
    (pmss_one (pms_ret pm_bl))
    pmss_nil)))
    (pmss_cons (pms_if (pmt_cmp (or_op op_ne (op_neDK (K := K) hr.units)) (os_or (os_neS (K := K)) (os_ne (K := K))) (pm_defK F__law_told gd (hr.mono (by decide)) T.g__law_told T.f__law_told.kp T.b__law_told (fun σ => passAt tk σ) (pma_cons (pm_var 1) (pma_cons (pm_var 2) (pma_cons (pm_op (or_op op_add (or_op (op_catAK (K := K)) (or_op op_add_str op_cat))) (os_or (os_addI (K := K)) (os_or (os_catT (K := K)) (os_or (os_strcat (K := K)) (os_cat (K := K))))) (pm_callB (call_lenK (K := K)) (cs_len (K := K)) T.n_len (by decide +kernel) (pma_cons (pm_var 3) pma_nil)) (pm_op op_mod (os_mod (K := K)) (pm_defK F__law_cell gd (hr.mono (by decide)) T.g__law_cell T.f__law_cell.kp T.b__law_cell (fun σ => passAt tk σ) (pma_cons (pm_var 0) (pma_cons pm_int pma_nil)) (mCons_len (mCons_len mNil_len))) pm_int)) pma_nil))) (mCons_len (mCons_len (mCons_len mNil_len)))) pm_str)
    (pmss_one (pms_ret pm_bl))
    pmss_nil)
    (pmss_cons (pms_setLc 5 [("value", 12)] rfl sc_law.nd rfl rfl (sw_true rfl rfl rfl (by decide +kernel)) (pmi_s (K := K) (pm_defK F__law_values gd (hr.mono (by decide)) T.g__law_values T.f__law_values.kp T.b__law_values (fun σ => passAt tk σ) (pma_cons (pm_defK F__law_cell gd (hr.mono (by decide)) T.g__law_cell T.f__law_cell.kp T.b__law_cell (fun σ => passAt tk σ) (pma_cons (pm_var 0) (pma_cons pm_int pma_nil)) (mCons_len (mCons_len mNil_len))) (pma_cons (pm_var 2) (pma_cons pm_int pma_nil))) (mCons_len (mCons_len (mCons_len mNil_len))))) (blkOk_by (own := [("value", 12)]) (N := N_law) (sc := defScope s_law) (by decide +kernel)) (by decide) (fun _ _ _ _ _ => (pmg_name 12 sc_law.nd)) (fun _ _ _ _ _ => pmts_nil) (fun _ _ _ _ _ => (pm_op (or_op op_add (or_op (op_catAK (K := K)) (or_op op_add_str op_cat))) (os_or (os_addI (K := K)) (os_or (os_catT (K := K)) (os_or (os_strcat (K := K)) (os_cat (K := K))))) pm_int (pm_op op_mod (os_mod (K := K)) (pm_var 12) (pm_ix (ix_seqK (K := K)) (os_ix (K := K)) (pm_var 1) pm_int)))))
    (pmss_cons (pms_set 6 sc_law.nd (pm_ifE (pmt_cmp (op_inDK (K := K) (units65 hr)) (os_inD (K := K)) (pm_var 5) (pm_var 3) (by rfl)) (pm_meth (K := K) PySem.F.plainAttrs_list PySem.F.slot_list_index PySem.F.type_list_index (mt_indexDK (K := K) (units65 hr)) (ks_indexD (K := K)) (pm_var 3) (pma_cons (pm_var 5) pma_nil)) pm_str))
    (pmss_cons (pms_if (pmt_cmp (or_op op_ne (op_neDK (K := K) hr.units)) (os_or (os_neS (K := K)) (os_ne (K := K))) (pm_callB (call_reprDK (K := K) gd hr.units) (cs_repr (K := K)) T.n_repr (by decide +kernel) (pma_cons (pm_defK F__law_told gd (hr.mono (by decide)) T.g__law_told T.f__law_told.kp T.b__law_told (fun σ => passAt tk σ) (pma_cons (pm_var 1) (pma_cons (pm_callTy (call_list_ofK (K := K)) (cs_list (K := K)) T.n_list (by decide +kernel) (pma_cons (pm_var 5) pma_nil)) (pma_cons pm_non pma_nil))) (mCons_len (mCons_len (mCons_len mNil_len)))) pma_nil)) (pm_callB (call_reprDK (K := K) gd hr.units) (cs_repr (K := K)) T.n_repr (by decide +kernel) (pma_cons (pm_var 6) pma_nil)))
    (pmss_one (pms_ret pm_bl))
    pmss_nil)
    (pmss_cons (pms_for (passes_of rfl) rfl (pmi_s (K := K) (pm_lst (pma_cons (pm_op (or_op op_add (or_op (op_catAK (K := K)) (or_op op_add_str op_cat))) (os_or (os_addI (K := K)) (os_or (os_catT (K := K)) (os_or (os_strcat (K := K)) (os_cat (K := K))))) (pm_var 5) (pm_lst (pma_cons pm_int pma_nil))) (pma_cons (pm_op (or_op op_add (or_op (op_catAK (K := K)) (or_op op_add_str op_cat))) (os_or (os_addI (K := K)) (os_or (os_catT (K := K)) (os_or (os_strcat (K := K)) (os_cat (K := K))))) (pm_var 5) (pm_lst (pma_cons (pm_op (or_op op_add (or_op (op_catAK (K := K)) (or_op op_add_str op_cat))) (os_or (os_addI (K := K)) (os_or (os_catT (K := K)) (os_or (os_strcat (K := K)) (os_cat (K := K))))) (pm_ix (ix_seqK (K := K)) (os_ix (K := K)) (pm_var 1) pm_int) pm_int) pma_nil))) (pma_cons (pm_op (or_op op_mul op_rep) (os_or (os_mulN (K := K)) (os_rep (K := K))) (pm_lst (pma_cons pm_int pma_nil)) pm_int) (pma_cons (pm_op (or_op op_add (or_op (op_catAK (K := K)) (or_op op_add_str op_cat))) (os_or (os_addI (K := K)) (os_or (os_catT (K := K)) (os_or (os_strcat (K := K)) (os_cat (K := K))))) (pm_lst (pma_cons (pm_neg pm_int) pma_nil)) (pm_var 5)) pma_nil)))))) (pmg_name 7 sc_law.nd)
    (pmss_one (pms_if (pmt_cmp (or_op op_ne (op_neDK (K := K) hr.units)) (os_or (os_neS (K := K)) (os_ne (K := K))) (pm_defK F__law_told gd (hr.mono (by decide)) T.g__law_told T.f__law_told.kp T.b__law_told (fun σ => passAt tk σ) (pma_cons (pm_var 1) (pma_cons (pm_var 7) (pma_cons pm_non pma_nil))) (mCons_len (mCons_len (mCons_len mNil_len)))) pm_str)
    (pmss_one (pms_ret pm_bl))
    pmss_nil)))
    (pmss_cons (pms_if (PMW.t (pmw_or (pmt_cmp (or_op op_ne (op_neDK (K := K) hr.units)) (os_or (os_neS (K := K)) (os_ne (K := K))) (pm_defK F__law_told gd (hr.mono (by decide)) T.g__law_told T.f__law_told.kp T.b__law_told (fun σ => passAt tk σ) (pma_cons (pm_var 1) (pma_cons (pm_var 2) (pma_cons (pm_neg pm_int) pma_nil))) (mCons_len (mCons_len (mCons_len mNil_len)))) pm_str) (pmw_or1 (pmt_cmp (or_op op_ne (op_neDK (K := K) hr.units)) (os_or (os_neS (K := K)) (os_ne (K := K))) (pm_defK F__law_told gd (hr.mono (by decide)) T.g__law_told T.f__law_told.kp T.b__law_told (fun σ => passAt tk σ) (pma_cons (pm_var 1) (pma_cons (pm_neg pm_int) (pma_cons pm_int pma_nil))) (mCons_len (mCons_len (mCons_len mNil_len)))) pm_str))))
    (pmss_one (pms_ret pm_bl))
    pmss_nil)
    (pmss_cons (pms_if (PMW.t (pmw_or (pmt_cmp (or_op op_ne (op_neDK (K := K) hr.units)) (os_or (os_neS (K := K)) (os_ne (K := K))) (pm_defK F__law_told gd (hr.mono (by decide)) T.g__law_told T.f__law_told.kp T.b__law_told (fun σ => passAt tk σ) (pma_cons (pm_var 1) (pma_cons pm_int (pma_cons pm_int pma_nil))) (mCons_len (mCons_len (mCons_len mNil_len)))) pm_str) (pmw_or1 (pmt_cmp (or_op op_ne (op_neDK (K := K) hr.units)) (os_or (os_neS (K := K)) (os_ne (K := K))) (pm_defK F__law_told gd (hr.mono (by decide)) T.g__law_told T.f__law_told.kp T.b__law_told (fun σ => passAt tk σ) (pma_cons (pm_tup (pma_cons pm_int (pma_cons (pm_tup pma_nil) (pma_cons (pm_tup pma_nil) pma_nil)))) (pma_cons (pm_neg pm_int) (pma_cons (pm_neg pm_int) pma_nil))) (mCons_len (mCons_len (mCons_len mNil_len)))) pm_str))))
    (pmss_one (pms_ret pm_bl))
    pmss_nil)
    (pmss_cons (pms_set 8 sc_law.nd (pm_op op_mod (os_mod (K := K)) (pm_defK F__law_cell gd (hr.mono (by decide)) T.g__law_cell T.f__law_cell.kp T.b__law_cell (fun σ => passAt tk σ) (pma_cons (pm_var 0) (pma_cons pm_int pma_nil)) (mCons_len (mCons_len mNil_len))) pm_int))
    (pmss_cons (pms_set 9 sc_law.nd (pm_defK F_count_words gd (hr.mono (by decide)) T.g_count_words T.f_count_words.kp T.b_count_words (fun σ => passAt tk σ) (pma_cons (pm_var 1) (pma_cons (pm_var 8) pma_nil)) (mCons_len (mCons_len mNil_len))))
    (pmss_cons (pms_if (pmt_cmp (or_op op_eq (op_eqDK (K := K) hr.units)) (os_or (os_eqS (K := K)) (os_eq (K := K))) (pm_var 9) pm_int)
    (pmss_one (pms_ret (pm_cmp (or_op op_eq (op_eqDK (K := K) hr.units)) (os_or (os_eqS (K := K)) (os_eq (K := K))) (pm_defK F__law_told gd (hr.mono (by decide)) T.g__law_told T.f__law_told.kp T.b__law_told (fun σ => passAt tk σ) (pma_cons (pm_var 1) (pma_cons (pm_var 8) (pma_cons pm_int pma_nil))) (mCons_len (mCons_len (mCons_len mNil_len)))) pm_str)))
    pmss_nil)
    (pmss_cons (pms_set 10 sc_law.nd (pm_op op_mod (os_mod (K := K)) (pm_defK F__law_cell gd (hr.mono (by decide)) T.g__law_cell T.f__law_cell.kp T.b__law_cell (fun σ => passAt tk σ) (pma_cons (pm_var 0) (pma_cons pm_int pma_nil)) (mCons_len (mCons_len mNil_len))) (pm_var 9)))
    (pmss_cons (pms_set 11 sc_law.nd (pm_defK F__law_told gd (hr.mono (by decide)) T.g__law_told T.f__law_told.kp T.b__law_told (fun σ => passAt tk σ) (pma_cons (pm_var 1) (pma_cons (pm_var 8) (pma_cons (pm_var 10) pma_nil))) (mCons_len (mCons_len (mCons_len mNil_len)))))
    (pmss_cons (pms_if (PMW.t (pmw_or (pmt_not (pmt_truK (K := K) (pm_isT T.n_isinstance T.n_list (by decide +kernel) (pm_var 11)))) (pmw_or (pmt_cmp (or_op op_ne (op_neDK (K := K) hr.units)) (os_or (os_neS (K := K)) (os_ne (K := K))) (pm_callB (call_lenK (K := K)) (cs_len (K := K)) T.n_len (by decide +kernel) (pma_cons (pm_var 11) pma_nil)) (pm_var 8)) (pmw_or1 (pmt_not (pmt_truK (K := K) (pm_defK F__law_accepts gd (hr.mono (by decide)) T.g__law_accepts T.f__law_accepts.kp T.b__law_accepts (fun σ => passAt tk σ) (pma_cons (pm_var 1) (pma_cons (pm_var 11) pma_nil)) (mCons_len (mCons_len mNil_len)))))))))
    (pmss_one (pms_ret pm_bl))
    pmss_nil)
    (pmss_one (pms_ret (pm_cmp (or_op op_eq (op_eqDK (K := K) hr.units)) (os_or (os_eqS (K := K)) (os_eq (K := K))) (pm_callB (call_reprDK (K := K) gd hr.units) (cs_repr (K := K)) T.n_repr (by decide +kernel) (pma_cons (pm_defK F__law_told gd (hr.mono (by decide)) T.g__law_told T.f__law_told.kp T.b__law_told (fun σ => passAt tk σ) (pma_cons (pm_var 1) (pma_cons (pm_callTy (call_list_ofK (K := K)) (cs_list (K := K)) T.n_list (by decide +kernel) (pma_cons (pm_var 11) pma_nil)) (pma_cons pm_non pma_nil))) (mCons_len (mCons_len (mCons_len mNil_len)))) pma_nil)) (pm_callB (call_reprDK (K := K) gd hr.units) (cs_repr (K := K)) T.n_repr (by decide +kernel) (pma_cons (pm_var 10) pma_nil))))))))))))))))))))))⟩
end
theorem all_mk {l : PySem.W.OpenLaw} {w : World} {K : PySem.W.Frag} {h : Heap} {mg : Str → Option Value} {fa : Addr} (X : K.In h) (G : h.Ns mainGlobals mg) (hfa : mg "law" = some (.ref fa))
    {a_is_machine a_check_machine a_accepts a_leads a_check_length a_tails a_many_words a_count_words a__check_size a_number_of_word a__tail_with_number a_word_with_number a__law_cell a__law_values a__law_machine a__law_accepts a__law_words a__law_told a_law a_Winit a_Wread a_Wacc p_Wacc C_Walker : Addr} {C_BadNumber C_NoWord C_NotMachine C_NotWord C_YardsortError : Addr}
    {od_is_machine an_is_machine : Option Addr} {sl_is_machine : Array (Option Value)} {oc_is_machine kV_is_machine dc_is_machine pm_is_machine cd_is_machine ct_is_machine : Value}
    {od_check_machine an_check_machine : Option Addr} {sl_check_machine : Array (Option Value)} {oc_check_machine kV_check_machine dc_check_machine pm_check_machine cd_check_machine ct_check_machine : Value}
    {od_accepts an_accepts : Option Addr} {sl_accepts : Array (Option Value)} {oc_accepts kV_accepts dc_accepts pm_accepts cd_accepts ct_accepts : Value}
    {od_leads an_leads : Option Addr} {sl_leads : Array (Option Value)} {oc_leads kV_leads dc_leads pm_leads cd_leads ct_leads : Value}
    {od_check_length an_check_length : Option Addr} {sl_check_length : Array (Option Value)} {oc_check_length kV_check_length dc_check_length pm_check_length cd_check_length ct_check_length : Value}
    {od_tails an_tails : Option Addr} {sl_tails : Array (Option Value)} {oc_tails kV_tails dc_tails pm_tails cd_tails ct_tails : Value}
    {od_many_words an_many_words : Option Addr} {sl_many_words : Array (Option Value)} {oc_many_words kV_many_words dc_many_words pm_many_words cd_many_words ct_many_words : Value}
    {od_count_words an_count_words : Option Addr} {sl_count_words : Array (Option Value)} {oc_count_words kV_count_words dc_count_words pm_count_words cd_count_words ct_count_words : Value}
    {od__check_size an__check_size : Option Addr} {sl__check_size : Array (Option Value)} {oc__check_size kV__check_size dc__check_size pm__check_size cd__check_size ct__check_size : Value}
    {od_number_of_word an_number_of_word : Option Addr} {sl_number_of_word : Array (Option Value)} {oc_number_of_word kV_number_of_word dc_number_of_word pm_number_of_word cd_number_of_word ct_number_of_word : Value}
    {od__tail_with_number an__tail_with_number : Option Addr} {sl__tail_with_number : Array (Option Value)} {oc__tail_with_number kV__tail_with_number dc__tail_with_number pm__tail_with_number cd__tail_with_number ct__tail_with_number : Value}
    {od_word_with_number an_word_with_number : Option Addr} {sl_word_with_number : Array (Option Value)} {oc_word_with_number kV_word_with_number dc_word_with_number pm_word_with_number cd_word_with_number ct_word_with_number : Value}
    {od__law_cell an__law_cell : Option Addr} {sl__law_cell : Array (Option Value)} {oc__law_cell kV__law_cell dc__law_cell pm__law_cell cd__law_cell ct__law_cell : Value}
    {od__law_values an__law_values : Option Addr} {sl__law_values : Array (Option Value)} {oc__law_values kV__law_values dc__law_values pm__law_values cd__law_values ct__law_values : Value}
    {od__law_machine an__law_machine : Option Addr} {sl__law_machine : Array (Option Value)} {oc__law_machine kV__law_machine dc__law_machine pm__law_machine cd__law_machine ct__law_machine : Value}
    {od__law_accepts an__law_accepts : Option Addr} {sl__law_accepts : Array (Option Value)} {oc__law_accepts kV__law_accepts dc__law_accepts pm__law_accepts cd__law_accepts ct__law_accepts : Value}
    {od__law_words an__law_words : Option Addr} {sl__law_words : Array (Option Value)} {oc__law_words kV__law_words dc__law_words pm__law_words cd__law_words ct__law_words : Value}
    {od__law_told an__law_told : Option Addr} {sl__law_told : Array (Option Value)} {oc__law_told kV__law_told dc__law_told pm__law_told cd__law_told ct__law_told : Value}
    {od_law an_law : Option Addr} {sl_law : Array (Option Value)} {oc_law kV_law dc_law pm_law cd_law ct_law : Value}
    {tk_DEAD : Tok}
    {tk_MOST_LENGTH : Tok}
    {tk_MOST_LETTERS : Tok}
    {tk_MOST_STATES : Tok}
    {tk_START : Tok}
    (a1_is_machine : PySem.W.nsIn K mainGlobals "is_machine" = some (some (.ref a_is_machine))) (l1_is_machine : K.lookup a_is_machine = some ⟨oc_is_machine, od_is_machine, .func (PySem.W.fnOf "is_machine" "is_machine" (defArgs s_is_machine) (defBody s_is_machine) (defScope s_is_machine) .none kV_is_machine dc_is_machine pm_is_machine an_is_machine cd_is_machine ct_is_machine), sl_is_machine⟩) (c1_is_machine : PySem.W.codeIn K cd_is_machine "is_machine" = true) (k1_is_machine : PySem.W.keepIn K (.ref a_is_machine) = true)
    (a1_check_machine : PySem.W.nsIn K mainGlobals "check_machine" = some (some (.ref a_check_machine))) (l1_check_machine : K.lookup a_check_machine = some ⟨oc_check_machine, od_check_machine, .func (PySem.W.fnOf "check_machine" "check_machine" (defArgs s_check_machine) (defBody s_check_machine) (defScope s_check_machine) .none kV_check_machine dc_check_machine pm_check_machine an_check_machine cd_check_machine ct_check_machine), sl_check_machine⟩) (c1_check_machine : PySem.W.codeIn K cd_check_machine "check_machine" = true) (k1_check_machine : PySem.W.keepIn K (.ref a_check_machine) = true)
    (a1_accepts : PySem.W.nsIn K mainGlobals "accepts" = some (some (.ref a_accepts))) (l1_accepts : K.lookup a_accepts = some ⟨oc_accepts, od_accepts, .func (PySem.W.fnOf "accepts" "accepts" (defArgs s_accepts) (defBody s_accepts) (defScope s_accepts) .none kV_accepts dc_accepts pm_accepts an_accepts cd_accepts ct_accepts), sl_accepts⟩) (c1_accepts : PySem.W.codeIn K cd_accepts "accepts" = true) (k1_accepts : PySem.W.keepIn K (.ref a_accepts) = true)
    (a1_leads : PySem.W.nsIn K mainGlobals "leads" = some (some (.ref a_leads))) (l1_leads : K.lookup a_leads = some ⟨oc_leads, od_leads, .func (PySem.W.fnOf "leads" "leads" (defArgs s_leads) (defBody s_leads) (defScope s_leads) .none kV_leads dc_leads pm_leads an_leads cd_leads ct_leads), sl_leads⟩) (c1_leads : PySem.W.codeIn K cd_leads "leads" = true) (k1_leads : PySem.W.keepIn K (.ref a_leads) = true)
    (a1_check_length : PySem.W.nsIn K mainGlobals "check_length" = some (some (.ref a_check_length))) (l1_check_length : K.lookup a_check_length = some ⟨oc_check_length, od_check_length, .func (PySem.W.fnOf "check_length" "check_length" (defArgs s_check_length) (defBody s_check_length) (defScope s_check_length) .none kV_check_length dc_check_length pm_check_length an_check_length cd_check_length ct_check_length), sl_check_length⟩) (c1_check_length : PySem.W.codeIn K cd_check_length "check_length" = true) (k1_check_length : PySem.W.keepIn K (.ref a_check_length) = true)
    (a1_tails : PySem.W.nsIn K mainGlobals "tails" = some (some (.ref a_tails))) (l1_tails : K.lookup a_tails = some ⟨oc_tails, od_tails, .func (PySem.W.fnOf "tails" "tails" (defArgs s_tails) (defBody s_tails) (defScope s_tails) .none kV_tails dc_tails pm_tails an_tails cd_tails ct_tails), sl_tails⟩) (c1_tails : PySem.W.codeIn K cd_tails "tails" = true) (k1_tails : PySem.W.keepIn K (.ref a_tails) = true)
    (a1_many_words : PySem.W.nsIn K mainGlobals "many_words" = some (some (.ref a_many_words))) (l1_many_words : K.lookup a_many_words = some ⟨oc_many_words, od_many_words, .func (PySem.W.fnOf "many_words" "many_words" (defArgs s_many_words) (defBody s_many_words) (defScope s_many_words) .none kV_many_words dc_many_words pm_many_words an_many_words cd_many_words ct_many_words), sl_many_words⟩) (c1_many_words : PySem.W.codeIn K cd_many_words "many_words" = true) (k1_many_words : PySem.W.keepIn K (.ref a_many_words) = true)
    (a1_count_words : PySem.W.nsIn K mainGlobals "count_words" = some (some (.ref a_count_words))) (l1_count_words : K.lookup a_count_words = some ⟨oc_count_words, od_count_words, .func (PySem.W.fnOf "count_words" "count_words" (defArgs s_count_words) (defBody s_count_words) (defScope s_count_words) .none kV_count_words dc_count_words pm_count_words an_count_words cd_count_words ct_count_words), sl_count_words⟩) (c1_count_words : PySem.W.codeIn K cd_count_words "count_words" = true) (k1_count_words : PySem.W.keepIn K (.ref a_count_words) = true)
    (a1__check_size : PySem.W.nsIn K mainGlobals "_check_size" = some (some (.ref a__check_size))) (l1__check_size : K.lookup a__check_size = some ⟨oc__check_size, od__check_size, .func (PySem.W.fnOf "_check_size" "_check_size" (defArgs s__check_size) (defBody s__check_size) (defScope s__check_size) .none kV__check_size dc__check_size pm__check_size an__check_size cd__check_size ct__check_size), sl__check_size⟩) (c1__check_size : PySem.W.codeIn K cd__check_size "_check_size" = true) (k1__check_size : PySem.W.keepIn K (.ref a__check_size) = true)
    (a1_number_of_word : PySem.W.nsIn K mainGlobals "number_of_word" = some (some (.ref a_number_of_word))) (l1_number_of_word : K.lookup a_number_of_word = some ⟨oc_number_of_word, od_number_of_word, .func (PySem.W.fnOf "number_of_word" "number_of_word" (defArgs s_number_of_word) (defBody s_number_of_word) (defScope s_number_of_word) .none kV_number_of_word dc_number_of_word pm_number_of_word an_number_of_word cd_number_of_word ct_number_of_word), sl_number_of_word⟩) (c1_number_of_word : PySem.W.codeIn K cd_number_of_word "number_of_word" = true) (k1_number_of_word : PySem.W.keepIn K (.ref a_number_of_word) = true)
    (a1__tail_with_number : PySem.W.nsIn K mainGlobals "_tail_with_number" = some (some (.ref a__tail_with_number))) (l1__tail_with_number : K.lookup a__tail_with_number = some ⟨oc__tail_with_number, od__tail_with_number, .func (PySem.W.fnOf "_tail_with_number" "_tail_with_number" (defArgs s__tail_with_number) (defBody s__tail_with_number) (defScope s__tail_with_number) .none kV__tail_with_number dc__tail_with_number pm__tail_with_number an__tail_with_number cd__tail_with_number ct__tail_with_number), sl__tail_with_number⟩) (c1__tail_with_number : PySem.W.codeIn K cd__tail_with_number "_tail_with_number" = true) (k1__tail_with_number : PySem.W.keepIn K (.ref a__tail_with_number) = true)
    (a1_word_with_number : PySem.W.nsIn K mainGlobals "word_with_number" = some (some (.ref a_word_with_number))) (l1_word_with_number : K.lookup a_word_with_number = some ⟨oc_word_with_number, od_word_with_number, .func (PySem.W.fnOf "word_with_number" "word_with_number" (defArgs s_word_with_number) (defBody s_word_with_number) (defScope s_word_with_number) .none kV_word_with_number dc_word_with_number pm_word_with_number an_word_with_number cd_word_with_number ct_word_with_number), sl_word_with_number⟩) (c1_word_with_number : PySem.W.codeIn K cd_word_with_number "word_with_number" = true) (k1_word_with_number : PySem.W.keepIn K (.ref a_word_with_number) = true)
    (a1__law_cell : PySem.W.nsIn K mainGlobals "_law_cell" = some (some (.ref a__law_cell))) (l1__law_cell : K.lookup a__law_cell = some ⟨oc__law_cell, od__law_cell, .func (PySem.W.fnOf "_law_cell" "_law_cell" (defArgs s__law_cell) (defBody s__law_cell) (defScope s__law_cell) .none kV__law_cell dc__law_cell pm__law_cell an__law_cell cd__law_cell ct__law_cell), sl__law_cell⟩) (c1__law_cell : PySem.W.codeIn K cd__law_cell "_law_cell" = true) (k1__law_cell : PySem.W.keepIn K (.ref a__law_cell) = true)
    (a1__law_values : PySem.W.nsIn K mainGlobals "_law_values" = some (some (.ref a__law_values))) (l1__law_values : K.lookup a__law_values = some ⟨oc__law_values, od__law_values, .func (PySem.W.fnOf "_law_values" "_law_values" (defArgs s__law_values) (defBody s__law_values) (defScope s__law_values) .none kV__law_values dc__law_values pm__law_values an__law_values cd__law_values ct__law_values), sl__law_values⟩) (c1__law_values : PySem.W.codeIn K cd__law_values "_law_values" = true) (k1__law_values : PySem.W.keepIn K (.ref a__law_values) = true)
    (a1__law_machine : PySem.W.nsIn K mainGlobals "_law_machine" = some (some (.ref a__law_machine))) (l1__law_machine : K.lookup a__law_machine = some ⟨oc__law_machine, od__law_machine, .func (PySem.W.fnOf "_law_machine" "_law_machine" (defArgs s__law_machine) (defBody s__law_machine) (defScope s__law_machine) .none kV__law_machine dc__law_machine pm__law_machine an__law_machine cd__law_machine ct__law_machine), sl__law_machine⟩) (c1__law_machine : PySem.W.codeIn K cd__law_machine "_law_machine" = true) (k1__law_machine : PySem.W.keepIn K (.ref a__law_machine) = true)
    (a1__law_accepts : PySem.W.nsIn K mainGlobals "_law_accepts" = some (some (.ref a__law_accepts))) (l1__law_accepts : K.lookup a__law_accepts = some ⟨oc__law_accepts, od__law_accepts, .func (PySem.W.fnOf "_law_accepts" "_law_accepts" (defArgs s__law_accepts) (defBody s__law_accepts) (defScope s__law_accepts) .none kV__law_accepts dc__law_accepts pm__law_accepts an__law_accepts cd__law_accepts ct__law_accepts), sl__law_accepts⟩) (c1__law_accepts : PySem.W.codeIn K cd__law_accepts "_law_accepts" = true) (k1__law_accepts : PySem.W.keepIn K (.ref a__law_accepts) = true)
    (a1__law_words : PySem.W.nsIn K mainGlobals "_law_words" = some (some (.ref a__law_words))) (l1__law_words : K.lookup a__law_words = some ⟨oc__law_words, od__law_words, .func (PySem.W.fnOf "_law_words" "_law_words" (defArgs s__law_words) (defBody s__law_words) (defScope s__law_words) .none kV__law_words dc__law_words pm__law_words an__law_words cd__law_words ct__law_words), sl__law_words⟩) (c1__law_words : PySem.W.codeIn K cd__law_words "_law_words" = true) (k1__law_words : PySem.W.keepIn K (.ref a__law_words) = true)
    (a1__law_told : PySem.W.nsIn K mainGlobals "_law_told" = some (some (.ref a__law_told))) (l1__law_told : K.lookup a__law_told = some ⟨oc__law_told, od__law_told, .func (PySem.W.fnOf "_law_told" "_law_told" (defArgs s__law_told) (defBody s__law_told) (defScope s__law_told) .none kV__law_told dc__law_told pm__law_told an__law_told cd__law_told ct__law_told), sl__law_told⟩) (c1__law_told : PySem.W.codeIn K cd__law_told "_law_told" = true) (k1__law_told : PySem.W.keepIn K (.ref a__law_told) = true)
    (a1_law : PySem.W.nsIn K mainGlobals "law" = some (some (.ref a_law))) (l1_law : K.lookup a_law = some ⟨oc_law, od_law, .func (PySem.W.fnOf "law" "law" (defArgs s_law) (defBody s_law) (defScope s_law) .none kV_law dc_law pm_law an_law cd_law ct_law), sl_law⟩) (c1_law : PySem.W.codeIn K cd_law "law" = true) (k1_law : PySem.W.keepIn K (.ref a_law) = true)
    (z_all : PySem.W.nsIn K mainGlobals "all" = some none)
    (z_enumerate : PySem.W.nsIn K mainGlobals "enumerate" = some none)
    (z_int : PySem.W.nsIn K mainGlobals "int" = some none)
    (z_isinstance : PySem.W.nsIn K mainGlobals "isinstance" = some none)
    (z_len : PySem.W.nsIn K mainGlobals "len" = some none)
    (z_list : PySem.W.nsIn K mainGlobals "list" = some none)
    (z_min : PySem.W.nsIn K mainGlobals "min" = some none)
    (z_range : PySem.W.nsIn K mainGlobals "range" = some none)
    (z_repr : PySem.W.nsIn K mainGlobals "repr" = some none)
    (z_sum : PySem.W.nsIn K mainGlobals "sum" = some none)
    (z_tuple : PySem.W.nsIn K mainGlobals "tuple" = some none)
    (v_DEAD : PySem.W.nsIn K mainGlobals "DEAD" = some (some (.int (-1) tk_DEAD)))
    (v_MOST_LENGTH : PySem.W.nsIn K mainGlobals "MOST_LENGTH" = some (some (.int (60) tk_MOST_LENGTH)))
    (v_MOST_LETTERS : PySem.W.nsIn K mainGlobals "MOST_LETTERS" = some (some (.int (6) tk_MOST_LETTERS)))
    (v_MOST_STATES : PySem.W.nsIn K mainGlobals "MOST_STATES" = some (some (.int (2000) tk_MOST_STATES)))
    (v_START : PySem.W.nsIn K mainGlobals "START" = some (some (.int (0) tk_START)))
    (e_BadNumber : PySem.W.nsIn K mainGlobals "BadNumber" = some (some (.ref C_BadNumber))) (x_BadNumber : PySem.W.excIn K C_BadNumber [.type "ValueError", .type "Exception", .type "BaseException", .type "object"] "ValueError.__new__" = true) (k_BadNumber : PySem.W.keepIn K (.ref C_BadNumber) = true) (r_BadNumber : PySem.W.subIn K (.ref C_BadNumber) (.type "BaseException") = some true) (t_BadNumber : PySem.W.typeIn K (.ref C_BadNumber) = some (.type "type"))
    (e_NoWord : PySem.W.nsIn K mainGlobals "NoWord" = some (some (.ref C_NoWord))) (x_NoWord : PySem.W.excIn K C_NoWord [.type "ValueError", .type "Exception", .type "BaseException", .type "object"] "ValueError.__new__" = true) (k_NoWord : PySem.W.keepIn K (.ref C_NoWord) = true) (r_NoWord : PySem.W.subIn K (.ref C_NoWord) (.type "BaseException") = some true) (t_NoWord : PySem.W.typeIn K (.ref C_NoWord) = some (.type "type"))
    (e_NotMachine : PySem.W.nsIn K mainGlobals "NotMachine" = some (some (.ref C_NotMachine))) (x_NotMachine : PySem.W.excIn K C_NotMachine [.type "ValueError", .type "Exception", .type "BaseException", .type "object"] "ValueError.__new__" = true) (k_NotMachine : PySem.W.keepIn K (.ref C_NotMachine) = true) (r_NotMachine : PySem.W.subIn K (.ref C_NotMachine) (.type "BaseException") = some true) (t_NotMachine : PySem.W.typeIn K (.ref C_NotMachine) = some (.type "type"))
    (e_NotWord : PySem.W.nsIn K mainGlobals "NotWord" = some (some (.ref C_NotWord))) (x_NotWord : PySem.W.excIn K C_NotWord [.type "ValueError", .type "Exception", .type "BaseException", .type "object"] "ValueError.__new__" = true) (k_NotWord : PySem.W.keepIn K (.ref C_NotWord) = true) (r_NotWord : PySem.W.subIn K (.ref C_NotWord) (.type "BaseException") = some true) (t_NotWord : PySem.W.typeIn K (.ref C_NotWord) = some (.type "type"))
    (e_YardsortError : PySem.W.nsIn K mainGlobals "YardsortError" = some (some (.ref C_YardsortError))) (x_YardsortError : PySem.W.excIn K C_YardsortError [.type "ValueError", .type "Exception", .type "BaseException", .type "object"] "ValueError.__new__" = true) (k_YardsortError : PySem.W.keepIn K (.ref C_YardsortError) = true) (r_YardsortError : PySem.W.subIn K (.ref C_YardsortError) (.type "BaseException") = some true) (t_YardsortError : PySem.W.typeIn K (.ref C_YardsortError) = some (.type "type"))
    (i_BadNumber : PySem.W.isClsIn K C_BadNumber = true)
    (i_NoWord : PySem.W.isClsIn K C_NoWord = true)
    (i_NotMachine : PySem.W.isClsIn K C_NotMachine = true)
    (i_NotWord : PySem.W.isClsIn K C_NotWord = true)
    (i_YardsortError : PySem.W.isClsIn K C_YardsortError = true)
    (s_YardsortError_BadNumber : PySem.W.subIn K (.ref C_YardsortError) (.ref C_BadNumber) = some false)
    (s_BadNumber_BadNumber : PySem.W.subIn K (.ref C_BadNumber) (.ref C_BadNumber) = some true)
    (s_NotMachine_BadNumber : PySem.W.subIn K (.ref C_NotMachine) (.ref C_BadNumber) = some false)
    (s_NotWord_BadNumber : PySem.W.subIn K (.ref C_NotWord) (.ref C_BadNumber) = some false)
    (s_NoWord_BadNumber : PySem.W.subIn K (.ref C_NoWord) (.ref C_BadNumber) = some false)
    (s_YardsortError_NoWord : PySem.W.subIn K (.ref C_YardsortError) (.ref C_NoWord) = some false)
    (s_BadNumber_NoWord : PySem.W.subIn K (.ref C_BadNumber) (.ref C_NoWord) = some false)
    (s_NotMachine_NoWord : PySem.W.subIn K (.ref C_NotMachine) (.ref C_NoWord) = some false)
    (s_NotWord_NoWord : PySem.W.subIn K (.ref C_NotWord) (.ref C_NoWord) = some false)
    (s_NoWord_NoWord : PySem.W.subIn K (.ref C_NoWord) (.ref C_NoWord) = some true)
    (s_YardsortError_NotMachine : PySem.W.subIn K (.ref C_YardsortError) (.ref C_NotMachine) = some false)
    (s_BadNumber_NotMachine : PySem.W.subIn K (.ref C_BadNumber) (.ref C_NotMachine) = some false)
    (s_NotMachine_NotMachine : PySem.W.subIn K (.ref C_NotMachine) (.ref C_NotMachine) = some true)
    (s_NotWord_NotMachine : PySem.W.subIn K (.ref C_NotWord) (.ref C_NotMachine) = some false)
    (s_NoWord_NotMachine : PySem.W.subIn K (.ref C_NoWord) (.ref C_NotMachine) = some false)
    (s_YardsortError_NotWord : PySem.W.subIn K (.ref C_YardsortError) (.ref C_NotWord) = some false)
    (s_BadNumber_NotWord : PySem.W.subIn K (.ref C_BadNumber) (.ref C_NotWord) = some false)
    (s_NotMachine_NotWord : PySem.W.subIn K (.ref C_NotMachine) (.ref C_NotWord) = some false)
    (s_NotWord_NotWord : PySem.W.subIn K (.ref C_NotWord) (.ref C_NotWord) = some true)
    (s_NoWord_NotWord : PySem.W.subIn K (.ref C_NoWord) (.ref C_NotWord) = some false)
    {od_WI od_WR od_WA an_WI an_WR an_WA : Option Addr} {sl_WI sl_WR sl_WA : Array (Option Value)} {oc_WI kV_WI dc_WI pm_WI cd_WI ct_WI oc_WR kV_WR dc_WR pm_WR cd_WR ct_WR oc_WA kV_WA dc_WA pm_WA cd_WA ct_WA : Value} {wrest : List Value}
    (wC : PySem.W.nsIn K mainGlobals "Walker" = some (some (.ref C_Walker))) (wpg : PySem.W.plainGet K C_Walker Str.empty = true) (whd : PySem.W.hasDictIn K C_Walker = true) (wpo : PySem.W.plainOver K C_Walker = true) (wsa : PySem.W.findIn K (.ref C_Walker) "__setattr__" = some (some (.builtin "object.__setattr__"))) (wmk : PySem.W.makesIn K C_Walker = true) (wkc : PySem.W.keepIn K (.ref C_Walker) = true) (wn1 : PySem.W.findIn K (.ref C_Walker) "_machine" = some none) (wn2 : PySem.W.findIn K (.ref C_Walker) "state" = some none)
    (waI : PySem.W.findIn K (.ref C_Walker) "__init__" = some (some (.ref a_Winit)))
    (wiI : PySem.W.isFn K (.ref a_Winit) = true) (wlI : K.lookup a_Winit = some ⟨oc_WI, od_WI, .func (PySem.W.fnOf "__init__" "Walker.__init__" (defArgs (inClass s_Walker 0)) (defBody (inClass s_Walker 0)) (defScope (inClass s_Walker 0)) .none kV_WI dc_WI pm_WI an_WI cd_WI ct_WI), sl_WI⟩) (wcI : PySem.W.codeIn K cd_WI "Walker.__init__" = true) (wkI : PySem.W.keepIn K (.ref a_Winit) = true)
    (waR : PySem.W.findIn K (.ref C_Walker) "read" = some (some (.ref a_Wread)))
    (wiR : PySem.W.isFn K (.ref a_Wread) = true) (wlR : K.lookup a_Wread = some ⟨oc_WR, od_WR, .func (PySem.W.fnOf "read" "Walker.read" (defArgs (inClass s_Walker 1)) (defBody (inClass s_Walker 1)) (defScope (inClass s_Walker 1)) .none kV_WR dc_WR pm_WR an_WR cd_WR ct_WR), sl_WR⟩) (wcR : PySem.W.codeIn K cd_WR "Walker.read" = true) (wkR : PySem.W.keepIn K (.ref a_Wread) = true)
    (waA : PySem.W.findIn K (.ref C_Walker) "is_accepted" = some (some (.ref p_Wacc))) (wg1 : PySem.W.specialIn K (.ref p_Wacc) "__get__" = some (some (.builtin "property.__get__"))) (wg2 : PySem.W.takesIn K (.ref p_Wacc) = some true) (wg3 : PySem.W.recIn K p_Wacc "property" = some (.ref a_Wacc :: wrest))
    (wiA : PySem.W.isFn K (.ref a_Wacc) = true) (wlA : K.lookup a_Wacc = some ⟨oc_WA, od_WA, .func (PySem.W.fnOf "is_accepted" "Walker.is_accepted" (defArgs (inClass s_Walker 2)) (defBody (inClass s_Walker 2)) (defScope (inClass s_Walker 2)) .none kV_WA dc_WA pm_WA an_WA cd_WA ct_WA), sl_WA⟩) (wcA : PySem.W.codeIn K cd_WA "Walker.is_accepted" = true) (wkA : PySem.W.keepIn K (.ref a_Wacc) = true)
    : ∃ fd : FuncData, (∀ (s : Shared) (v : Value), BindsTo s fd ⟨[v], []⟩ [("script", v)]) ∧ ∀ base : Heap, K.In base → base.Ns mainGlobals mg → FnG l.prog w K mg base 8 fa fd ["script"] (spM K mg 1 M_law) := by
  have e := hfa.symm.trans (PySem.W.mg_of X G a1_law)
  cases e
  have F_is_machine := fun_mk (st := s_is_machine) l1_is_machine c1_is_machine k1_is_machine
  have B_is_machine := F_is_machine.binds (ps := P_is_machine) fun _ _ _ _ _ _ us hl => match us, hl with | [_], _ => rfl
  have F_check_machine := fun_mk (st := s_check_machine) l1_check_machine c1_check_machine k1_check_machine
  have B_check_machine := F_check_machine.binds (ps := P_check_machine) fun _ _ _ _ _ _ us hl => match us, hl with | [_], _ => rfl
  have F_accepts := fun_mk (st := s_accepts) l1_accepts c1_accepts k1_accepts
  have B_accepts := F_accepts.binds (ps := P_accepts) fun _ _ _ _ _ _ us hl => match us, hl with | [_, _], _ => rfl
  have F_leads := fun_mk (st := s_leads) l1_leads c1_leads k1_leads
  have B_leads := F_leads.binds (ps := P_leads) fun _ _ _ _ _ _ us hl => match us, hl with | [_], _ => rfl
  have F_check_length := fun_mk (st := s_check_length) l1_check_length c1_check_length k1_check_length
  have B_check_length := F_check_length.binds (ps := P_check_length) fun _ _ _ _ _ _ us hl => match us, hl with | [_], _ => rfl
  have F_tails := fun_mk (st := s_tails) l1_tails c1_tails k1_tails
  have B_tails := F_tails.binds (ps := P_tails) fun _ _ _ _ _ _ us hl => match us, hl with | [_, _], _ => rfl
  have F_many_words := fun_mk (st := s_many_words) l1_many_words c1_many_words k1_many_words
  have B_many_words := F_many_words.binds (ps := P_many_words) fun _ _ _ _ _ _ us hl => match us, hl with | [_, _, _], _ => rfl
  have F_count_words := fun_mk (st := s_count_words) l1_count_words c1_count_words k1_count_words
  have B_count_words := F_count_words.binds (ps := P_count_words) fun _ _ _ _ _ _ us hl => match us, hl with | [_, _], _ => rfl
  have F__check_size := fun_mk (st := s__check_size) l1__check_size c1__check_size k1__check_size
  have B__check_size := F__check_size.binds (ps := P__check_size) fun _ _ _ _ _ _ us hl => match us, hl with | [_], _ => rfl
  have F_number_of_word := fun_mk (st := s_number_of_word) l1_number_of_word c1_number_of_word k1_number_of_word
  have B_number_of_word := F_number_of_word.binds (ps := P_number_of_word) fun _ _ _ _ _ _ us hl => match us, hl with | [_, _], _ => rfl
  have F__tail_with_number := fun_mk (st := s__tail_with_number) l1__tail_with_number c1__tail_with_number k1__tail_with_number
  have B__tail_with_number := F__tail_with_number.binds (ps := P__tail_with_number) fun _ _ _ _ _ _ us hl => match us, hl with | [_, _, _, _, _], _ => rfl
  have F_word_with_number := fun_mk (st := s_word_with_number) l1_word_with_number c1_word_with_number k1_word_with_number
  have B_word_with_number := F_word_with_number.binds (ps := P_word_with_number) fun _ _ _ _ _ _ us hl => match us, hl with | [_, _, _], _ => rfl
  have F__law_cell := fun_mk (st := s__law_cell) l1__law_cell c1__law_cell k1__law_cell
  have B__law_cell := F__law_cell.binds (ps := P__law_cell) fun _ _ _ _ _ _ us hl => match us, hl with | [_, _], _ => rfl
  have F__law_values := fun_mk (st := s__law_values) l1__law_values c1__law_values k1__law_values
  have B__law_values := F__law_values.binds (ps := P__law_values) fun _ _ _ _ _ _ us hl => match us, hl with | [_, _, _], _ => rfl
  have F__law_machine := fun_mk (st := s__law_machine) l1__law_machine c1__law_machine k1__law_machine
  have B__law_machine := F__law_machine.binds (ps := P__law_machine) fun _ _ _ _ _ _ us hl => match us, hl with | [_, _, _], _ => rfl
  have F__law_accepts := fun_mk (st := s__law_accepts) l1__law_accepts c1__law_accepts k1__law_accepts
  have B__law_accepts := F__law_accepts.binds (ps := P__law_accepts) fun _ _ _ _ _ _ us hl => match us, hl with | [_, _], _ => rfl
  have F__law_words := fun_mk (st := s__law_words) l1__law_words c1__law_words k1__law_words
  have B__law_words := F__law_words.binds (ps := P__law_words) fun _ _ _ _ _ _ us hl => match us, hl with | [_, _], _ => rfl
  have F__law_told := fun_mk (st := s__law_told) l1__law_told c1__law_told k1__law_told
  have B__law_told := F__law_told.binds (ps := P__law_told) fun _ _ _ _ _ _ us hl => match us, hl with | [_, _, _], _ => rfl
  have F_law := fun_mk (st := s_law) l1_law c1_law k1_law
  have B_law := F_law.binds (ps := P_law) fun _ _ _ _ _ _ us hl => match us, hl with | [_], _ => rfl
  have FW_I := fun_mk (st := inClass s_Walker 0) wlI wcI wkI
  have BW_I := FW_I.binds (ps := ["self", "machine"]) fun _ _ _ _ _ _ us hl => match us, hl with | [_, _], _ => rfl
  have FW_R := fun_mk (st := inClass s_Walker 1) wlR wcR wkR
  have BW_R := FW_R.binds (ps := ["self", "letter"]) fun _ _ _ _ _ _ us hl => match us, hl with | [_, _], _ => rfl
  have FW_A := fun_mk (st := inClass s_Walker 2) wlA wcA wkA
  have BW_A := FW_A.binds (ps := ["self"]) fun _ _ _ _ _ _ us hl => match us, hl with | [_], _ => rfl
  have D_BadNumber : Decs K mg (.ref C_BadNumber) dec_BadNumber := by
    intro m b C hm hC
    unfold dec_BadNumber at hm
    split at hm
    · rename_i z
      subst z
      cases hm
      cases (PySem.W.mg_of X G e_YardsortError).symm.trans hC
      exact exm_own r_BadNumber i_BadNumber t_BadNumber s_YardsortError_BadNumber
    split at hm
    · rename_i z
      subst z
      cases hm
      cases (PySem.W.mg_of X G e_BadNumber).symm.trans hC
      exact exm_own r_BadNumber i_BadNumber t_BadNumber s_BadNumber_BadNumber
    split at hm
    · rename_i z
      subst z
      cases hm
      cases (PySem.W.mg_of X G e_NotMachine).symm.trans hC
      exact exm_own r_BadNumber i_BadNumber t_BadNumber s_NotMachine_BadNumber
    split at hm
    · rename_i z
      subst z
      cases hm
      cases (PySem.W.mg_of X G e_NotWord).symm.trans hC
      exact exm_own r_BadNumber i_BadNumber t_BadNumber s_NotWord_BadNumber
    split at hm
    · rename_i z
      subst z
      cases hm
      cases (PySem.W.mg_of X G e_NoWord).symm.trans hC
      exact exm_own r_BadNumber i_BadNumber t_BadNumber s_NoWord_BadNumber
    cases hm
  have D_NoWord : Decs K mg (.ref C_NoWord) dec_NoWord := by
    intro m b C hm hC
    unfold dec_NoWord at hm
    split at hm
    · rename_i z
      subst z
      cases hm
      cases (PySem.W.mg_of X G e_YardsortError).symm.trans hC
      exact exm_own r_NoWord i_NoWord t_NoWord s_YardsortError_NoWord
    split at hm
    · rename_i z
      subst z
      cases hm
      cases (PySem.W.mg_of X G e_BadNumber).symm.trans hC
      exact exm_own r_NoWord i_NoWord t_NoWord s_BadNumber_NoWord
    split at hm
    · rename_i z
      subst z
      cases hm
      cases (PySem.W.mg_of X G e_NotMachine).symm.trans hC
      exact exm_own r_NoWord i_NoWord t_NoWord s_NotMachine_NoWord
    split at hm
    · rename_i z
      subst z
      cases hm
      cases (PySem.W.mg_of X G e_NotWord).symm.trans hC
      exact exm_own r_NoWord i_NoWord t_NoWord s_NotWord_NoWord
    split at hm
    · rename_i z
      subst z
      cases hm
      cases (PySem.W.mg_of X G e_NoWord).symm.trans hC
      exact exm_own r_NoWord i_NoWord t_NoWord s_NoWord_NoWord
    cases hm
  have D_NotMachine : Decs K mg (.ref C_NotMachine) dec_NotMachine := by
    intro m b C hm hC
    unfold dec_NotMachine at hm
    split at hm
    · rename_i z
      subst z
      cases hm
      cases (PySem.W.mg_of X G e_YardsortError).symm.trans hC
      exact exm_own r_NotMachine i_NotMachine t_NotMachine s_YardsortError_NotMachine
    split at hm
    · rename_i z
      subst z
      cases hm
      cases (PySem.W.mg_of X G e_BadNumber).symm.trans hC
      exact exm_own r_NotMachine i_NotMachine t_NotMachine s_BadNumber_NotMachine
    split at hm
    · rename_i z
      subst z
      cases hm
      cases (PySem.W.mg_of X G e_NotMachine).symm.trans hC
      exact exm_own r_NotMachine i_NotMachine t_NotMachine s_NotMachine_NotMachine
    split at hm
    · rename_i z
      subst z
      cases hm
      cases (PySem.W.mg_of X G e_NotWord).symm.trans hC
      exact exm_own r_NotMachine i_NotMachine t_NotMachine s_NotWord_NotMachine
    split at hm
    · rename_i z
      subst z
      cases hm
      cases (PySem.W.mg_of X G e_NoWord).symm.trans hC
      exact exm_own r_NotMachine i_NotMachine t_NotMachine s_NoWord_NotMachine
    cases hm
  have D_NotWord : Decs K mg (.ref C_NotWord) dec_NotWord := by
    intro m b C hm hC
    unfold dec_NotWord at hm
    split at hm
    · rename_i z
      subst z
      cases hm
      cases (PySem.W.mg_of X G e_YardsortError).symm.trans hC
      exact exm_own r_NotWord i_NotWord t_NotWord s_YardsortError_NotWord
    split at hm
    · rename_i z
      subst z
      cases hm
      cases (PySem.W.mg_of X G e_BadNumber).symm.trans hC
      exact exm_own r_NotWord i_NotWord t_NotWord s_BadNumber_NotWord
    split at hm
    · rename_i z
      subst z
      cases hm
      cases (PySem.W.mg_of X G e_NotMachine).symm.trans hC
      exact exm_own r_NotWord i_NotWord t_NotWord s_NotMachine_NotWord
    split at hm
    · rename_i z
      subst z
      cases hm
      cases (PySem.W.mg_of X G e_NotWord).symm.trans hC
      exact exm_own r_NotWord i_NotWord t_NotWord s_NotWord_NotWord
    split at hm
    · rename_i z
      subst z
      cases hm
      cases (PySem.W.mg_of X G e_NoWord).symm.trans hC
      exact exm_own r_NotWord i_NotWord t_NotWord s_NoWord_NotWord
    cases hm
  have T : Fx K mg a_is_machine a_check_machine a_accepts a_leads a_check_length a_tails a_many_words a_count_words a__check_size a_number_of_word a__tail_with_number a_word_with_number a__law_cell a__law_values a__law_machine a__law_accepts a__law_words a__law_told fa a_Winit a_Wread a_Wacc p_Wacc C_Walker _ _ _ _ _ _ _ _ _ _ _ _ _ _ _ _ _ _ _ _ _ _ C_BadNumber C_NoWord C_NotMachine C_NotWord C_YardsortError :=
    ⟨PySem.W.mg_of X G a1_is_machine, F_is_machine, B_is_machine, PySem.W.mg_of X G a1_check_machine, F_check_machine, B_check_machine, PySem.W.mg_of X G a1_accepts, F_accepts, B_accepts, PySem.W.mg_of X G a1_leads, F_leads, B_leads, PySem.W.mg_of X G a1_check_length, F_check_length, B_check_length, PySem.W.mg_of X G a1_tails, F_tails, B_tails, PySem.W.mg_of X G a1_many_words, F_many_words, B_many_words, PySem.W.mg_of X G a1_count_words, F_count_words, B_count_words, PySem.W.mg_of X G a1__check_size, F__check_size, B__check_size, PySem.W.mg_of X G a1_number_of_word, F_number_of_word, B_number_of_word, PySem.W.mg_of X G a1__tail_with_number, F__tail_with_number, B__tail_with_number, PySem.W.mg_of X G a1_word_with_number, F_word_with_number, B_word_with_number, PySem.W.mg_of X G a1__law_cell, F__law_cell, B__law_cell, PySem.W.mg_of X G a1__law_values, F__law_values, B__law_values, PySem.W.mg_of X G a1__law_machine, F__law_machine, B__law_machine, PySem.W.mg_of X G a1__law_accepts, F__law_accepts, B__law_accepts, PySem.W.mg_of X G a1__law_words, F__law_words, B__law_words, PySem.W.mg_of X G a1__law_told, F__law_told, B__law_told, PySem.W.mg_of X G a1_law, F_law, B_law, PySem.W.mg_of X G wC, ⟨wmk, waI, wiI, wkc⟩, ⟨wpg, whd, wpo, wsa⟩, wn1, wn2, ⟨waR, wiR, wkR⟩, ⟨waA, wg1, wg2, ⟨_, wg3⟩⟩, FW_I, BW_I, FW_R, BW_R, FW_A, BW_A, PySem.W.mg_none_of X G z_all, PySem.W.mg_none_of X G z_enumerate, PySem.W.mg_none_of X G z_int, PySem.W.mg_none_of X G z_isinstance, PySem.W.mg_none_of X G z_len, PySem.W.mg_none_of X G z_list, PySem.W.mg_none_of X G z_min, PySem.W.mg_none_of X G z_range, PySem.W.mg_none_of X G z_repr, PySem.W.mg_none_of X G z_sum, PySem.W.mg_none_of X G z_tuple, ⟨_, PySem.W.mg_of X G v_DEAD⟩, ⟨_, PySem.W.mg_of X G v_MOST_LENGTH⟩, ⟨_, PySem.W.mg_of X G v_MOST_LETTERS⟩, ⟨_, PySem.W.mg_of X G v_MOST_STATES⟩, ⟨_, PySem.W.mg_of X G v_START⟩, PySem.W.mg_of X G e_BadNumber, x_BadNumber, k_BadNumber, r_BadNumber, t_BadNumber, PySem.W.mg_of X G e_NoWord, x_NoWord, k_NoWord, r_NoWord, t_NoWord, PySem.W.mg_of X G e_NotMachine, x_NotMachine, k_NotMachine, r_NotMachine, t_NotMachine, PySem.W.mg_of X G e_NotWord, x_NotWord, k_NotWord, r_NotWord, t_NotWord, PySem.W.mg_of X G e_YardsortError, x_YardsortError, k_YardsortError, r_YardsortError, t_YardsortError, D_BadNumber, D_NoWord, D_NotMachine, D_NotWord⟩
  exact ⟨PySem.W.fnOf "law" "law" (defArgs s_law) (defBody s_law) (defScope s_law) .none kV_law dc_law pm_law an_law cd_law ct_law, fun s v => .of_eq rfl, fun base _ _ => ok_law T⟩
end Law

namespace Law
open PySem PySem.Spec PyProof.Rows L2 Mi
local macro_rules | `(tactic| walk_at "ev") => `(tactic| try simp only [mSeq, cTuple, cIntB, mIterS, walkD, mAsg, mSlU, mPar, mTryM, clauses, mAug, mSet, mCall, mCons, mNil, mVar, look, Res.bind, sRes, lift, cLen, cList, seqOf, lit, store, mRet, mRetV, mAndV, mOrV, mNotV, mOp, mC, oLe_ii, oLt_ii, oGe_ii, oGt_ii, oSub_ii, oAddI_ii, oAddT_ii, oAddT_ss, oAddT_tt, oAddT_lolo, oAddT_lobw, oAddT_losh, oAddT_bwlo, oAddT_bwbw, oAddT_bwsh, oAddT_shlo, oAddT_shbw, oAddT_shsh, oMulN_ii, oMul2_ii, oMul2_rep, oDivN_ii, oMulI_ii, oMul_ii, oMod_ii, oDiv_ii, oPow_ii, oMul_rep, oIx_t, oIx_l, oIx_b, oIx_o, oIx_f, atI_0, atI_1, atI_2, atI_3, boolOf, oEq, oNe, oEqS, oNeS, cSorted, cSum, mListR1, mListR2, oOr, dat, fin, mIf, mIfE, mNot, mTru, mTest, truth, mRaise, mSkip, mDrop, mDef, mApp, mPut, mRev, esc, cInt1, cInt2, mFor, mIter1, mIter2, mIterL, mIterE, fix, bName, bTup, bCons, bNil, mSl, mPart, mNoPart, mLst, mTup, escs, mComp, mYes, wipeR, mFrz, frz, mAnd, mOr, mNeg, mChain, isNone, oIsN, mTry, noEx, mMeth,
  List.getElem?_cons_succ, List.getElem?_cons_zero, List.set_cons_succ, List.set_cons_zero, intsOf_map, rangeD_upto, shaped_iL, eqv_iL, eqv_int, shaped_int, Bool.and_self, if_true, List.length_map, Option.map, Option.bind, tlit, pas, isBw, flatR, flatD, List.map_cons, List.map_nil, List.any_cons, List.any_nil, List.all_nil, List.length_cons, List.length_nil, Bool.or_false, Bool.not_false, Bool.true_or, mpush, mcat, mat, mcut, mrev, mset, mrep, decide_eq_true_eq, Int.reduceLT, Int.reduceLE, Int.reduceNeg, Int.reduceAdd, Int.reduceSub, Nat.reduceLeDiff, and_self, true_and, and_true, ↓reduceIte, ite_self, decide_true, decide_false, Bool.true_and, Bool.false_and, Bool.and_true, Bool.and_false, Bool.not_true, Bool.false_eq_true, Bool.or_true, Bool.or_self, Bool.and_eq_true, Int.toNat_natCast, Int.natAbs_one, Int.natAbs_zero, Int.natAbs_natCast, Int.add_sub_cancel, Nat.reduceAdd, List.cons_append, List.nil_append, List.length_singleton, Nat.reduceMul])
local macro_rules | `(tactic| walk_at "eva") => `(tactic| try simp only [*, mSeq, cTuple, cIntB, mIterS, walkD, mAsg, mSlU, mPar, mTryM, clauses, mAug, mSet, mCall, mCons, mNil, mVar, look, Res.bind, sRes, lift, cLen, cList, seqOf, lit, store, mRet, mRetV, mAndV, mOrV, mNotV, mOp, mC, oLe_ii, oLt_ii, oGe_ii, oGt_ii, oSub_ii, oAddI_ii, oAddT_ii, oAddT_ss, oAddT_tt, oAddT_lolo, oAddT_lobw, oAddT_losh, oAddT_bwlo, oAddT_bwbw, oAddT_bwsh, oAddT_shlo, oAddT_shbw, oAddT_shsh, oMulN_ii, oMul2_ii, oMul2_rep, oDivN_ii, oMulI_ii, oMul_ii, oMod_ii, oDiv_ii, oPow_ii, oMul_rep, oIx_t, oIx_l, oIx_b, oIx_o, oIx_f, atI_0, atI_1, atI_2, atI_3, boolOf, oEq, oNe, oEqS, oNeS, cSorted, cSum, mListR1, mListR2, oOr, dat, fin, mIf, mIfE, mNot, mTru, mTest, truth, mRaise, mSkip, mDrop, mDef, mApp, mPut, mRev, esc, cInt1, cInt2, mFor, mIter1, mIter2, mIterL, mIterE, fix, bName, bTup, bCons, bNil, mSl, mPart, mNoPart, mLst, mTup, escs, mComp, mYes, wipeR, mFrz, frz, mAnd, mOr, mNeg, mChain, isNone, oIsN, mTry, noEx, mMeth,
  List.getElem?_cons_succ, List.getElem?_cons_zero, List.set_cons_succ, List.set_cons_zero, intsOf_map, rangeD_upto, shaped_iL, eqv_iL, eqv_int, shaped_int, Bool.and_self, if_true, List.length_map, Option.map, Option.bind, tlit, pas, isBw, flatR, flatD, List.map_cons, List.map_nil, List.any_cons, List.any_nil, List.all_nil, List.length_cons, List.length_nil, Bool.or_false, Bool.not_false, Bool.true_or, mpush, mcat, mat, mcut, mrev, mset, mrep, decide_eq_true_eq, Int.reduceLT, Int.reduceLE, Int.reduceNeg, Int.reduceAdd, Int.reduceSub, Nat.reduceLeDiff, and_self, true_and, and_true, ↓reduceIte, ite_self, decide_true, decide_false, Bool.true_and, Bool.false_and, Bool.and_true, Bool.and_false, Bool.not_true, Bool.false_eq_true, Bool.or_true, Bool.or_self, Bool.and_eq_true, Int.toNat_natCast, Int.natAbs_one, Int.natAbs_zero, Int.natAbs_natCast, Int.add_sub_cancel, Nat.reduceAdd, List.cons_append, List.nil_append, List.length_singleton, Nat.reduceMul])
/-! machines -/
abbrev tI (r : List Int) : D := .tuple (r.map .int)
abbrev aD (A : List Bool) : D := .tuple (A.map .bool)
abbrev tD (T : List (List Int)) : D := .tuple (T.map tI)
abbrev mD (L : Int) (A : List Bool) (T : List (List Int)) : D := .tuple [.int L, aD A, tD T]
structure Good (L : Int) (A : List Bool) (T : List (List Int)) : Prop where
  l1 : 1 ≤ L
  l6 : L ≤ 6
  a : A.length ≤ 2000
  t : T.length = A.length
  r : ∀ r ∈ T, (r.length : Int) = L
  e : ∀ r ∈ T, ∀ x ∈ r, -1 ≤ x ∧ x < (A.length : Int)
theorem all_true {α : Type} {g : α → Bool} {xs : List α} (h : ∀ a ∈ xs, g a = true) : (xs.map g).all id = true := by
  rw [List.all_map, List.all_eq_true]
  exact h
theorem e_is_machine {L : Int} {A : List Bool} {T : List (List Int)} (h : Good L A T) : M_is_machine [.sh (mD L A T)] = .ok (.sh (.bool true)) := by
  have h1 := h.l1
  have h2 := h.l6
  have h3 : ¬ (2000 : Int) < (A.length : Int) := by have := h.a; omega
  have h4 : ((T.length : Nat) : Int) = (A.length : Int) := by rw [h.t]
  have step : ∀ (b : Option Val) (r : List Int), r ∈ T → True → ∃ ρ1, bName 5 (tI r) [some (.sh (mD L A T)), I L, some (.sh (aD A)), some (.sh (tD T)), I A.length, b, none] = some ρ1 ∧ lp_is_machine_0 ρ1 = .nx [some (.sh (mD L A T)), I L, some (.sh (aD A)), some (.sh (tD T)), I A.length, some (.sh (tI r)), none] ∧ True := by
    intro b r hr _
    have c1 := h.r r hr
    refine ⟨_, rfl, ?_, trivial⟩
    unfold lp_is_machine_0
    have ec : ∀ σ2 : Rho, σ2 = [some (.sh (mD L A T)), I L, some (.sh (aD A)), some (.sh (tD T)), I A.length, some (.sh (tI r)), none] →
        comp (bName 6) mYes (mChain oLe oLt (mC (.int (-1))) (mVar 6) (mVar 4)) σ2 (r.map .int) [] = .ok (r.map fun x => .bool (decide (x < (A.length : Int)))) := by
      rintro σ2 rfl
      refine comp_all (fun x => PyData.int x) _ (fun x hx => ⟨_, rfl, ?_⟩) (by omega)
      have b := h.e r hr x hx
      walk_at "ev"
      simp only [b.1, decide_true]
      walk_at "ev"
      exact ⟨_, rfl, rfl⟩
    have eall : (r.map fun x => decide (x < (A.length : Int))).all id = true := all_true fun x hx => decide_eq_true (h.e r hr x hx).2
    walk_at "ev"
    rw [ec _ rfl]
    simp only [c1, cAll_map, eall]
    walk_at "ev"
  have el := (loop_fold tI (fun b => [some (.sh (mD L A T)), I L, some (.sh (aD A)), some (.sh (tD T)), I A.length, b, none]) (fun _ r => some (.sh (tI r))) (fun _ => True) (xs := T) (b := none) trivial step).1
  rw [M_is_machine_eq]
  unfold ms_is_machine
  walk_at "ev"
  simp only [h1, h2, h3, h4, decide_true]
  walk_at "ev"
  rw [el]
theorem e_check_machine {L : Int} {A : List Bool} {T : List (List Int)} (h : Good L A T) : M_check_machine [.sh (mD L A T)] = .ok (.sh .none) := by
  rw [M_check_machine_eq]
  unfold ms_check_machine
  walk_at "ev"
  simp only [e_is_machine h]
  walk_at "ev"
theorem e_not_machine_ne {L : Int} {A : List Bool} {T : List (List Int)} (h : 1 ≤ L) (h6 : L ≤ 6) (hA : A.length ≤ 2000) (ht : T.length ≠ A.length) : M_check_machine [.sh (mD L A T)] = .ex "NotMachine" [] := by
  have h4 : ¬ ((T.length : Nat) : Int) = (A.length : Int) := by omega
  have h3 : ¬ (2000 : Int) < (A.length : Int) := by omega
  have e : M_is_machine [.sh (mD L A T)] = .ok (.sh (.bool false)) := by
    rw [M_is_machine_eq]
    unfold ms_is_machine
    walk_at "ev"
    simp only [h, h6, h3, h4, decide_true]
    walk_at "ev"
  rw [M_check_machine_eq]
  unfold ms_check_machine
  walk_at "ev"
  simp only [e]
  walk_at "ev"
theorem e_check_length {n : Int} (h0 : 0 ≤ n) (h1 : n ≤ 60) : M_check_length [.sh (.int n)] = .ok (.sh .none) := by
  rw [M_check_length_eq]
  unfold ms_check_length
  walk_at "ev"
  simp only [h0, h1, decide_true]
  walk_at "ev"
theorem e_check_length_no {n : Int} (h : n < 0 ∨ 60 < n) : M_check_length [.sh (.int n)] = .ex "BadNumber" [] := by
  rw [M_check_length_eq]
  unfold ms_check_length
  walk_at "ev"
  by_cases h0 : 0 ≤ n
  · have h1 : ¬ n ≤ 60 := by omega
    simp only [h0, h1, decide_true, decide_false]
    walk_at "ev"
    (try simp only [h1, decide_false])
    walk_at "ev"
  · simp only [h0, decide_false]
    walk_at "ev"
/-! the numbers of accepted words, state by state -/
abbrev up (x : Int) : Bool := !decide (x = -1)
def at0 (m : List Int) (x : Int) : Int := if 0 ≤ x then (m[x.toNat]?).getD 0 else 0
def sumAt (m r : List Int) : Int := ((r.filter up).map (at0 m)).sum
def stepW (T : List (List Int)) (m : List Int) : List Int := T.map (sumAt m)
def b2n (b : Bool) : Int := if b = true then 1 else 0
def waysN (A : List Bool) (T : List (List Int)) : Nat → List Int
  | 0 => A.map b2n
  | k + 1 => stepW T (waysN A T k)
theorem waysN_len {L : Int} {A : List Bool} {T : List (List Int)} (h : Good L A T) : ∀ k, (waysN A T k).length = A.length
  | 0 => by unfold waysN; rw [List.length_map]
  | k + 1 => by unfold waysN stepW; rw [List.length_map, h.t]
theorem at0_at {m : List Int} {x : Int} (h0 : 0 ≤ x) (h1 : x < m.length) : atI m x = some (at0 m x) := by
  obtain ⟨h, e⟩ := atI_some (xs := m) h0 h1
  rw [e, at0, if_pos h0, List.getElem?_eq_getElem h]
  rfl
/-- [many[target] for target in targets], summed up -/
theorem ev_sum {m r : List Int} (hr : ∀ x ∈ r, 0 ≤ x ∧ x < (m.length : Int)) (hl : r.length ≤ 100000) (ρ : Rho) {i j : Nat} {o : Val} (ho : ∀ x : Int, (mOp oIx (mVar i) (mVar j)) (ρ.set j (some (.sh (.int x)))) = lift ((atI m x).map fun y => .sh (.int y))) :
    comp (bName j) mYes (mOp oIx (mVar i) (mVar j)) ρ (r.map .int) [] = .ok ((r.map (at0 m)).map .int) := by
  rw [List.map_map]
  refine comp_all (fun x => PyData.int x) _ (fun x hx => ⟨_, rfl, .sh (.int (at0 m x)), ?_, rfl⟩) hl
  rw [ho, at0_at (hr x hx).1 (hr x hx).2]
  rfl
abbrev onw (T : List (List Int)) : List D := T.map fun r => iL (r.filter up)
abbrev LL (X : List (List Int)) : List D := X.map iL
theorem e_tails {L : Int} {A : List Bool} {T : List (List Int)} (h : Good L A T) (n : Nat) (hn : n ≤ 60) : M_tails [.sh (mD L A T), .sh (.int n)] = .ok (.ow (LL ((List.range (n + 1)).map (waysN A T)))) := by
  have hA := h.a
  have hT := h.t
  have m0 : some (Val.sh (mD L A T)) = some (Val.sh (mD L A T)) := rfl
  -- onward
  have e1 : ∀ ρ : Rho, comp (bName 8) mYes (mComp (mIterS (mVar 8)) (bName 9) (mTest (mOp (oOr oNeS oNe) (mVar 9) (mC (.int (-1))))) (mVar 9) [9]) [some (.sh (mD L A T)), I n, I L, some (.sh (aD A)), some (.sh (tD T)), none, none, none, none, none, none] (T.map tI) [] = .ok (onw T) := by
    intro _
    refine comp_all tI _ (fun r hr => ⟨_, rfl, .ow ((r.filter up).map .int), ?_, rfl⟩) (by omega)
    have hrl : r.length ≤ 100000 := by have := h.r r hr; have := h.l6; omega
    have e := comp_gen (bp := bName 9) (mt := mTest (mOp (oOr oNeS oNe) (mVar 9) (mC (.int (-1))))) (me := mVar 9) (ρ := [some (.sh (mD L A T)), I n, I L, some (.sh (aD A)), some (.sh (tD T)), none, none, none, some (.sh (tI r)), none, none]) (fun x => PyData.int x) (fun x => PyData.int x) up (xs := r)
      (fun x hx => ⟨_, rfl, by walk_at "ev", fun _ => ⟨_, rfl, rfl⟩⟩) hrl
    walk_at "ev"
    simp only [e]
  have e2 : comp (bName 10) mYes (mIfE (mTru (mVar 10)) (mC (.int 1)) (mC (.int 0))) [some (.sh (mD L A T)), I n, I L, some (.sh (aD A)), some (.sh (tD T)), some (.ow (onw T)), none, none, none, none, none] (A.map .bool) [] = .ok ((A.map b2n).map .int) := by
    rw [List.map_map]
    refine comp_all (fun b => PyData.bool b) _ (fun b hb => ⟨_, rfl, .sh (.int (b2n b)), ?_, rfl⟩) (by omega)
    cases b <;> rfl
  let st : Option Val × Nat → Rho := fun p => [some (.sh (mD L A T)), I n, p.1, some (.sh (aD A)), some (.sh (tD T)), some (.sh (.list (onw T))), some (.sh (iL (waysN A T p.2))), some (.ow (LL ((List.range (p.2 + 1)).map (waysN A T)))), none, none, none]
  have el := loop_foldN (bp := bName 2) (body := lp_tails_0) (fun x => PyData.int x) st (fun p x => (I x, p.2 + 1)) (fun k p => p.2 = k) (xs := upto 0 n) (b := (I L, 0)) (n := 0) rfl (by
    rintro k ⟨b, j⟩ a ha hj
    have hj : j = k := by have z : j = 0 + k := hj; omega
    have hk : k < n := by
      have z := (List.getElem?_eq_some_iff.mp ha).1
      rw [upto_len] at z
      exact z
    subst hj
    have wl := waysN_len h j
    refine ⟨_, rfl, ?_, by show j + 1 = 0 + j + 1; omega⟩
    have e3 : comp (bName 8) mYes (mCall cSum (mCons (mComp (mIterS (mVar 8)) (bName 9) mYes (mOp oIx (mVar 6) (mVar 9)) [9]) mNil))
        [some (.sh (mD L A T)), I n, I a, some (.sh (aD A)), some (.sh (tD T)), some (.sh (.list (onw T))), some (.sh (iL (waysN A T j))), some (.ow (LL ((List.range (j + 1)).map (waysN A T)))), none, none, none] (onw T) [] = .ok ((waysN A T (j + 1)).map .int) := by
      have q2 : (waysN A T (j + 1)).map PyData.int = T.map (fun r => .int (sumAt (waysN A T j) r)) := by show (stepW T (waysN A T j)).map _ = _; unfold stepW; rw [List.map_map]; rfl
      rw [q2]
      refine comp_all (xs := T) (fun r => iL (r.filter up)) (fun r => .int (sumAt (waysN A T j) r)) ?_ (by omega)
      intro r hr
      refine ⟨_, rfl, .sh (.int (sumAt (waysN A T j) r)), ?_, rfl⟩
      have hrl : r.length ≤ 100000 := by have := h.r r hr; have := h.l6; omega
      have e := ev_sum (m := waysN A T j) (r := r.filter up) (i := 6) (j := 9) (o := .bw []) (fun x hx => by
        obtain ⟨x1, x2⟩ := List.mem_filter.mp hx
        have z := h.e r hr x x1
        have z2 : ¬ x = -1 := by simpa [up] using x2
        rw [wl]
        omega) (Nat.le_trans (List.length_filter_le _ _) hrl) [some (.sh (mD L A T)), I n, I a, some (.sh (aD A)), some (.sh (tD T)), some (.sh (.list (onw T))), some (.sh (iL (waysN A T j))), some (.ow (LL ((List.range (j + 1)).map (waysN A T)))), some (.sh (iL (r.filter up))), none, none] (fun x => by
          walk_at "ev"
          cases atI (waysN A T j) x <;> rfl)
      walk_at "ev"
      simp only [e]
      walk_at "ev"
      rfl
    show lp_tails_0 [some (.sh (mD L A T)), I n, I a, some (.sh (aD A)), some (.sh (tD T)), some (.sh (.list (onw T))), some (.sh (iL (waysN A T j))), some (.ow (LL ((List.range (j + 1)).map (waysN A T)))), none, none, none] = _
    unfold lp_tails_0
    walk_at "ev"
    simp only [e3]
    walk_at "ev"
    have hlen : j + 1 < 100000 := by omega
    simp only [List.length_range, hlen, if_true]
    show _ = Out.nx (st (I a, j + 1))
    simp only [st, LL, List.range_succ (n := j + 1), List.map_append, List.map_cons, List.map_nil])
  obtain ⟨el, ep⟩ := el
  generalize hfin : (upto 0 n).foldl (fun (p : Option Val × Nat) (x : Int) => (I x, p.2 + 1)) (I L, 0) = fin at el ep
  obtain ⟨b, j⟩ := fin
  have hj : j = n := by
    have z : j = 0 + (upto 0 n).length := ep
    rw [upto_len] at z
    omega
  subst hj
  rw [M_tails_eq]
  unfold ms_tails
  walk_at "ev"
  simp only [e1 []]
  walk_at "ev"
  simp only [e2]
  walk_at "ev"
  have h1 : j ≤ 1000000 := by omega
  simp only [h1, if_true]
  have el' : loop (bName 2) lp_tails_0 ((upto 0 j).map .int) [some (.sh (mD L A T)), I j, I L, some (.sh (aD A)), some (.sh (tD T)), some (.sh (.list (onw T))), some (.sh (iL (A.map b2n))), some (.ow [.list ((A.map b2n).map .int)]), none, none, none] = .nx (st (b, j)) := el
  walk_at "ev"
  simp only [el']
  rfl
def wayAt (A : List Bool) (T : List (List Int)) (n : Nat) : Int := if 0 < A.length then ((waysN A T n)[0]?).getD 0 else 0
theorem e_many_words {L : Int} {A : List Bool} {T : List (List Int)} (h : Good L A T) (n : Nat) (hn : n ≤ 60) : M_many_words [.sh (mD L A T), .sh (.list (LL ((List.range (n + 1)).map (waysN A T)))), .sh (.int n)] = .ok (.sh (.int (wayAt A T n))) := by
  rw [M_many_words_eq]
  unfold ms_many_words
  walk_at "ev"
  by_cases hA : 0 < A.length
  · have h1 : (0 : Int) < (A.length : Int) := by omega
    have e1 : atI (LL ((List.range (n + 1)).map (waysN A T))) (n : Int) = some (iL (waysN A T n)) := by
      unfold LL
      rw [atI_map, atI_map]
      obtain ⟨q, e⟩ := atI_some (xs := List.range (n + 1)) (i := (n : Int)) (by omega) (by rw [List.length_range]; omega)
      rw [e]
      simp
    have e2 : atI (waysN A T n) 0 = some (wayAt A T n) := by
      obtain ⟨q, e⟩ := atI_some (xs := waysN A T n) (i := 0) (by omega) (by rw [waysN_len h]; omega)
      rw [e, wayAt, if_pos hA, List.getElem?_eq_getElem (by simpa using q)]
      rfl
    simp only [h1, decide_true]
    walk_at "ev"
    simp only [e1]
    walk_at "ev"
    simp only [e2]
    walk_at "ev"
  · have h1 : ¬ (0 : Int) < (A.length : Int) := by omega
    simp only [h1, decide_false]
    walk_at "ev"
    rw [wayAt, if_neg hA]
theorem e_count_words {L : Int} {A : List Bool} {T : List (List Int)} (h : Good L A T) (n : Nat) (hn : n ≤ 60) : M_count_words [.sh (mD L A T), .sh (.int n)] = .ok (.sh (.int (wayAt A T n))) := by
  rw [M_count_words_eq]
  unfold ms_count_words
  walk_at "ev"
  simp only [e_check_machine h]
  walk_at "ev"
  simp only [e_check_length (n := (n : Int)) (by omega) (by omega)]
  walk_at "ev"
  simp only [e_tails h n hn]
  walk_at "ev"
  simp only [e_many_words h n hn]
  walk_at "ev"
theorem e_count_words_len {L : Int} {A : List Bool} {T : List (List Int)} (h : Good L A T) {n : Int} (hn : n < 0 ∨ 60 < n) : M_count_words [.sh (mD L A T), .sh (.int n)] = .ex "BadNumber" [] := by
  rw [M_count_words_eq]
  unfold ms_count_words
  walk_at "ev"
  simp only [e_check_machine h]
  walk_at "ev"
  simp only [e_check_length_no hn]
  walk_at "ev"
theorem e_count_words_mach {L : Int} {A : List Bool} {T : List (List Int)} (h : 1 ≤ L) (h6 : L ≤ 6) (hA : A.length ≤ 2000) (ht : T.length ≠ A.length) (n : Int) : M_count_words [.sh (mD L A T), .sh (.int n)] = .ex "NotMachine" [] := by
  rw [M_count_words_eq]
  unfold ms_count_words
  walk_at "ev"
  simp only [e_not_machine_ne h h6 hA ht]
  walk_at "ev"
theorem e_cell (ns : List Int) (k : Int) (h0 : 0 ≤ k) : ∃ c, M__law_cell [.fz (ns.map .int), .sh (.int k)] = .ok (.sh (.int c)) := by
  rw [M__law_cell_eq]
  unfold ms__law_cell
  walk_at "ev"
  by_cases c : k < ns.length
  · obtain ⟨v, _, hv⟩ := atI_in h0 c
    simp only [c, if_true, hv]
    exact ⟨v, rfl⟩
  · simp only [c, if_false]
    exact ⟨0, rfl⟩
theorem ev_values (c n size : Int) (hs : 0 < size) (hs2 : size < 1000000) : ∀ (ks acc : List Int) (rest : Int) (a5 a6 : Option Val), (∀ k ∈ ks, 0 ≤ k ∧ k ≤ 1000) → acc.length + ks.length ≤ 1000 → ∃ (vs : List Int) (rest' : Int) (b5 b6 : Option Val),
    loop (bName 5) lp__law_values_0 (ks.map .int) [I c, I n, I size, OL acc, I rest, a5, a6] = .nx [I c, I n, I size, OL (acc ++ vs), I rest', b5, b6] ∧ vs.length = ks.length ∧ ∀ v ∈ vs, 0 ≤ v ∧ v < size
  | [], acc, rest, a5, a6, _, _ => ⟨[], rest, a5, a6, by rw [List.append_nil]; rfl, rfl, fun _ h => nomatch h⟩
  | k :: ks, acc, rest, a5, a6, hk, hl => by
    rw [List.length_cons] at hl
    have hk0 := hk k List.mem_cons_self
    have m1 : ∀ x : Int, 0 ≤ x % size ∧ x % size < size := fun x => ⟨Int.emod_nonneg x (by omega), Int.emod_lt_of_pos x hs⟩
    have step : ∃ (v rest1 : Int) (b6 : Option Val), lp__law_values_0 [I c, I n, I size, OL acc, I rest, I k, a6] = .nx [I c, I n, I size, OL (acc ++ [v]), I rest1, I k, b6] ∧ 0 ≤ v ∧ v < size := by
      unfold lp__law_values_0
      walk_at "ev"
      have ha : acc.length < 100000 := by omega
      have e10 : (10 : Int) ^ (12 : Int).toNat = 1000000000000 := by decide
      have p10 : (0 : Int) ≤ 12 ∧ (12 : Int) ≤ 1000000 ∧ (10 : Int).natAbs < 2 ^ 64 := by decide
      have p11 : (10 : Int).natAbs < 2 ^ 64 := by decide
      rw [if_pos p11, e10]
      walk_at "ev"
      by_cases hr : 1000000000000 ≤ rest
      · have d2 := divok hs (show size ≤ 1000000000 by omega)
        walk_at "eva"
        exact ⟨_, _, _, rfl, m1 _⟩
      · simp only [hr, if_false]
        have q1 := mulokR (c % 2147483647) (j := 48271) (by decide) (by decide)
        have q2 := mulokR k (j := 69621) (by decide) (by decide)
        simp only [q1, q2, if_true]
        walk_at "ev"
        generalize (c % 2147483647 * 48271 + k * 69621 + 7) % 2147483647 = mixed
        have q3 := mulokR mixed (j := 16807) (by decide) (by decide)
        simp only [q3, if_true]
        walk_at "ev"
        simp only [hs, ha, if_true]
        walk_at "ev"
        exact ⟨_, _, _, rfl, m1 _⟩
    obtain ⟨v, rest1, b6, e1, hv⟩ := step
    obtain ⟨vs, rest', c5, c6, e2, hl2, hv2⟩ := ev_values c n size hs hs2 ks (acc ++ [v]) rest1 (I k) b6 (fun x hx => hk x (List.mem_cons_of_mem _ hx)) (by rw [List.length_append, List.length_singleton]; omega)
    refine ⟨v :: vs, rest', c5, c6, ?_, congrArg (· + 1) hl2, fun x hx => ?_⟩
    · rw [List.map_cons, loop_cons (ρ1 := [I c, I n, I size, OL acc, I rest, I k, a6]) rfl e1, e2, List.append_assoc]
      rfl
    · rcases List.mem_cons.mp hx with rfl | hx
      · exact hv
      · exact hv2 x hx
theorem e_values (c size : Int) (n : Nat) (hn : n ≤ 1000) (hs : 0 < size) (hs2 : size < 1000000) : ∃ vs : List Int, M__law_values [.sh (.int c), .sh (.int n), .sh (.int size)] = .ok (.ow (vs.map .int)) ∧ vs.length = n ∧ ∀ v ∈ vs, 0 ≤ v ∧ v < size := by
  obtain ⟨vs, rest, b5, b6, e, hl, hv⟩ := ev_values c n size hs hs2 (upto 0 n) [] c none none (fun k hk => by have := upto_mem.mp hk; omega) (by rw [upto_len]; simpa using hn)
  rw [upto_len] at hl
  refine ⟨vs, ?_, hl, hv⟩
  rw [M__law_values_eq]
  unfold ms__law_values
  walk_at "ev"
  have h1 : n ≤ 1000000 := by omega
  simp only [h1, if_true]
  rw [show [some (Val.sh (PyData.int c)), some (Val.sh (PyData.int n)), some (Val.sh (PyData.int size)), some (Val.ow []), some (Val.sh (PyData.int c)), none, none] = [I c, I n, I size, OL [], I c, none, none] from rfl, e]
  rfl
/-! the law's own machine -/
theorem mod_b (c : Int) {m : Int} (h : 0 < m) : 0 ≤ c % m ∧ c % m < m := ⟨Int.emod_nonneg c (by omega), Int.emod_lt_of_pos c h⟩
def lmA (n : Nat) (vs : List Int) : List Bool := (List.range n).map fun k => decide ((vs[k]?).getD 0 % 2 = 1)
def lmRow (n l : Nat) (vs : List Int) (k : Nat) : List Int := ((vs.drop (n + k * l)).take l).map fun v => v % ((n : Int) + 1) - 1
def lmT (n l : Nat) (vs : List Int) : List (List Int) := (List.range n).map (lmRow n l vs)
theorem lmA_len (n : Nat) (vs : List Int) : (lmA n vs).length = n := by
  unfold lmA
  rw [List.length_map, List.length_range]
theorem lm_cut {n l : Nat} {vs : List Int} (hl : vs.length = n * (l + 1)) {k : Nat} (hk : k < n) : n + k * l + l ≤ vs.length := by
  have z : (k + 1) * l ≤ n * l := Nat.mul_le_mul_right l hk
  rw [hl, Nat.mul_add, Nat.mul_one]
  rw [Nat.add_mul, Nat.one_mul] at z
  omega
theorem lm_good {n l : Nat} {vs : List Int} (hl : vs.length = n * (l + 1)) (h1 : 1 ≤ l) (h3 : l ≤ 3) (hn : n ≤ 4) : Good (l : Int) (lmA n vs) (lmT n l vs) := by
  have hA := lmA_len n vs
  refine ⟨by omega, by omega, by omega, ?_, fun r hr => ?_, fun r hr x hx => ?_⟩
  · unfold lmT
    rw [List.length_map, List.length_range, hA]
  · obtain ⟨k, hk, rfl⟩ := List.mem_map.mp hr
    have z := lm_cut hl (List.mem_range.mp hk)
    unfold lmRow
    rw [List.length_map, List.length_take, List.length_drop]
    omega
  · obtain ⟨k, hk, rfl⟩ := List.mem_map.mp hr
    obtain ⟨v, hv', rfl⟩ := List.mem_map.mp hx
    have z := mod_b v (show (0 : Int) < (n : Int) + 1 by omega)
    rw [hA]
    omega
theorem upto_nat (n : Nat) : (upto 0 n).map PyData.int = (List.range n).map fun (k : Nat) => .int (k : Int) := by
  unfold upto
  rw [List.map_map]
  apply List.map_congr_left
  intro k _
  show PyData.int (0 + (k : Int)) = _
  rw [Int.zero_add]
theorem lm_eA {n l : Nat} {vs : List Int} (hn : n ≤ 4) (hl : vs.length = n * (l + 1)) (r0 r1 r2 r3 r5 r6 r7 r8 r9 r10 : Option Val) :
    comp (bName 9) mYes (mOp (oOr oEqS oEq) (mOp oMod (mOp oIx (mVar 4) (mVar 9)) (mC (.int 2))) (mC (.int 1))) [r0, r1, r2, r3, OL vs, r5, r6, r7, r8, r9, r10] ((upto 0 n).map .int) [] = .ok ((lmA n vs).map .bool) := by
  have q : (lmA n vs).map PyData.bool = (List.range n).map fun (k : Nat) => PyData.bool (decide ((vs[k]?).getD 0 % 2 = 1)) := by
    unfold lmA
    rw [List.map_map]
    rfl
  rw [upto_nat, q]
  refine comp_all (xs := List.range n) (fun (k : Nat) => PyData.int (k : Int)) (fun (k : Nat) => PyData.bool (decide ((vs[k]?).getD 0 % 2 = 1))) ?_ (by rw [List.length_range]; omega)
  intro k hk
  have hk := List.mem_range.mp hk
  have z : k < vs.length := by
    rw [hl, Nat.mul_add]
    omega
  obtain ⟨_, e⟩ := atI_some (xs := vs) (i := (k : Int)) (by omega) (by omega)
  rw [show vs[(k : Int).toNat] = (vs[k]?).getD 0 from by rw [List.getElem?_eq_getElem z]; rfl] at e
  refine ⟨_, rfl, .sh (.bool (decide ((vs[k]?).getD 0 % 2 = 1))), ?_, rfl⟩
  walk_at "ev"
  simp only [e]
  walk_at "ev"
theorem lm_er {n l : Nat} {vs : List Int} (hl : l ≤ 3) (j : Nat) (r0 r1 r2 r4 r5 r6 r7 r8 r9 r10 : Option Val) :
    comp (bName 10) mYes (mOp oSub (mOp oMod (mVar 10) (mOp oAddT (mVar 3) (mC (.int 1)))) (mC (.int 1))) [r0, r1, r2, I n, r4, r5, r6, r7, r8, r9, r10] (((vs.drop (n + j * l)).take l).map .int) [] = .ok ((lmRow n l vs j).map .int) := by
  have q3 : (lmRow n l vs j).map PyData.int = ((vs.drop (n + j * l)).take l).map fun v => .int (v % ((n : Int) + 1) - 1) := by
    unfold lmRow
    rw [List.map_map]
    rfl
  rw [q3]
  refine comp_all (xs := (vs.drop (n + j * l)).take l) (fun x => PyData.int x) (fun v => .int (v % ((n : Int) + 1) - 1)) ?_ (by rw [List.length_take]; omega)
  intro v _
  refine ⟨_, rfl, .sh (.int (v % ((n : Int) + 1) - 1)), ?_, rfl⟩
  walk_at "ev"
  simp only [show (0 : Int) < (n : Int) + 1 from by omega, if_true]
  walk_at "ev"
theorem lm_step {n l j : Nat} {vs : List Int} (hn : n ≤ 4) (h3 : l ≤ 3) (hl : vs.length = n * (l + 1)) (hj : j < n) (r0 r1 r5 b : Option Val) :
    lp__law_machine_0 [r0, r1, I l, I n, OL vs, r5, some (.ow (((List.range j).map (lmRow n l vs)).map tI)), I j, b, none, none] =
      .nx [r0, r1, I l, I n, OL vs, r5, some (.ow (((List.range (j + 1)).map (lmRow n l vs)).map tI)), I j, SL ((vs.drop (n + j * l)).take l), none, none] := by
  have cl := lm_cut hl hj
  have q1 := mulok (i := (j : Int)) (l : Int) (by omega) (by omega)
  simp only [Int.natAbs_natCast] at q1
  have q2 := mulok (i := (j : Int) + 1) (l : Int) (by omega) (by omega)
  simp only [Int.natAbs_natCast] at q2
  have z1 : (n : Int) + (j : Int) * (l : Int) = ((n + j * l : Nat) : Int) := by rw [Int.natCast_add, Int.natCast_mul]
  have z2 : (n : Int) + ((j : Int) + 1) * (l : Int) = ((n + j * l + l : Nat) : Int) := by rw [Int.natCast_add, Int.natCast_add, Int.natCast_mul, Int.add_mul, Int.one_mul]; omega
  have ec := cutQ (a := vs) (i := n + j * l) (j := n + j * l + l) (by omega) cl
  rw [show n + j * l + l - (n + j * l) = l from by omega] at ec
  unfold lp__law_machine_0
  rw [seqx (ρ' := [r0, r1, I l, I n, OL vs, r5, some (.ow (((List.range j).map (lmRow n l vs)).map tI)), I j, OL ((vs.drop (n + j * l)).take l), none, none])]
  · walk_at "ev"
    simp only [lm_er h3]
    walk_at "ev"
    simp only [List.length_range, show j < 100000 from by omega, if_true]
    simp only [List.range_succ (n := j), List.map_append, List.map_cons, List.map_nil]
  · walk_at "ev"
    simp only [q1, q2, if_true]
    walk_at "ev"
    simp only [z1, z2, ec]
theorem lm_loop {n l : Nat} {vs : List Int} (hn : n ≤ 4) (h3 : l ≤ 3) (hl : vs.length = n * (l + 1)) (r0 r1 r5 : Option Val) : ∀ (m j : Nat) (a b : Option Val), j + m = n →
    ∃ a' b', loop (bName 7) lp__law_machine_0 ((upto (j : Int) m).map .int) [r0, r1, I l, I n, OL vs, r5, some (.ow (((List.range j).map (lmRow n l vs)).map tI)), a, b, none, none] =
      .nx [r0, r1, I l, I n, OL vs, r5, some (.ow ((lmT n l vs).map tI)), a', b', none, none]
  | 0, j, a, b, e => by
    have e : j = n := by omega
    subst e
    exact ⟨a, b, rfl⟩
  | m + 1, j, a, b, e => by
    obtain ⟨a', b', ih⟩ := lm_loop hn h3 hl r0 r1 r5 m (j + 1) (I j) (SL ((vs.drop (n + j * l)).take l)) (by omega)
    refine ⟨a', b', ?_⟩
    rw [upto_succ, List.map_cons, loop_cons (ρ1 := [r0, r1, I l, I n, OL vs, r5, some (.ow (((List.range j).map (lmRow n l vs)).map tI)), I j, b, none, none]) rfl (lm_step hn h3 hl (by omega) r0 r1 r5 b)]
    exact ih
theorem e_law_machine (c second L : Int) (hL : 1 ≤ L) (hL3 : L ≤ 3) : ∃ (A : List Bool) (T : List (List Int)), M__law_machine [.sh (.int c), .sh (.int second), .sh (.int L)] = .ok (.sh (mD L A T)) ∧ Good L A T ∧ A.length ≤ 4 := by
  obtain ⟨l, rfl⟩ := Int.eq_ofNat_of_zero_le (show 0 ≤ L by omega)
  obtain ⟨n, hn⟩ := Int.eq_ofNat_of_zero_le (mod_b second (show (0 : Int) < 5 by decide)).1
  have hn4 : n ≤ 4 := by have := (mod_b second (show (0 : Int) < 5 by decide)).2; omega
  have hcount : n * (l + 1) ≤ 16 := Nat.mul_le_mul (show n ≤ 4 from hn4) (show l + 1 ≤ 4 by omega)
  obtain ⟨vs, ev, hl, hv⟩ := e_values c 97 (n * (l + 1)) (by omega) (by decide) (by decide)
  refine ⟨lmA n vs, lmT n l vs, ?_, lm_good hl (by omega) (by omega) hn4, by rw [lmA_len]; exact hn4⟩
  obtain ⟨a', b', el⟩ := lm_loop hn4 (show l ≤ 3 by omega) hl (some (.sh (.int c))) (some (.sh (.int second))) (some (.sh (aD (lmA n vs)))) n 0 none none (by omega)
  have hm : (n : Int) * ((l : Int) + 1) = ((n * (l + 1) : Nat) : Int) := by rw [Int.natCast_mul, Int.natCast_add]; rfl
  have qm := mulok (i := (n : Int)) ((l : Int) + 1) (by omega) (by omega)
  simp only [Int.natAbs_natCast] at qm
  have h1 : n ≤ 1000000 := by omega
  rw [M__law_machine_eq]
  unfold ms__law_machine
  refine seq_step (ρ' := [some (.sh (.int c)), some (.sh (.int second)), I l, I n, none, none, none, none, none, none, none]) ?_ ?_
  · walk_at "ev"
    simp only [show (0 : Int) < 5 from by decide, if_true, hn]
    walk_at "ev"
  refine seq_step (ρ' := [some (.sh (.int c)), some (.sh (.int second)), I l, I n, OL vs, none, none, none, none, none, none]) ?_ ?_
  · walk_at "ev"
    simp only [qm, if_true, hm]
    walk_at "ev"
    simp only [ev, all_flat]
    walk_at "ev"
  refine seq_step (ρ' := [some (.sh (.int c)), some (.sh (.int second)), I l, I n, OL vs, some (.sh (aD (lmA n vs))), none, none, none, none, none]) ?_ ?_
  · walk_at "ev"
    simp only [h1, if_true]
    walk_at "ev"
    simp only [lm_eA hn4 hl]
    walk_at "ev"
  refine seq_step (ρ' := [some (.sh (.int c)), some (.sh (.int second)), I l, I n, OL vs, some (.sh (aD (lmA n vs))), some (.ow []), none, none, none, none]) (by walk_at "ev") ?_
  refine frz_step ?_
  refine seq_step (ρ' := [some (.sh (.int c)), some (.sh (.int second)), I l, I n, OL vs, some (.sh (aD (lmA n vs))), some (.ow ((lmT n l vs).map tI)), a', b', none, none]) ?_ ?_
  · walk_at "ev"
    simp only [h1, if_true]
    exact el
  walk_at "ev"
/-! words that are read -/
def stepS (L : Int) (T : List (List Int)) (s l : Int) : Int :=
  if 0 ≤ s then (if 1 ≤ l ∧ l ≤ L then ((T[s.toNat]?).getD [])[(l - 1).toNat]?.getD 0 else -1) else s
def runS (L : Int) (T : List (List Int)) (s : Int) (w : List Int) : Int := w.foldl (stepS L T) s
def start0 (A : List Bool) : Int := if 0 < A.length then 0 else -1
def accS (A : List Bool) (s : Int) : Bool := if 0 ≤ s then (A[s.toNat]?).getD false else false
def okS (A : List Bool) (s : Int) : Prop := s = -1 ∨ (0 ≤ s ∧ s < (A.length : Int))
theorem tD_at {T : List (List Int)} {s : Int} (h0 : 0 ≤ s) (h1 : s < T.length) : atI (T.map tI) s = some (tI ((T[s.toNat]?).getD [])) := by
  obtain ⟨h, e⟩ := atI_some (xs := T) h0 h1
  rw [atI_map, e, List.getElem?_eq_getElem h]
  rfl
theorem iL_at {r : List Int} {x : Int} (h0 : 0 ≤ x) (h1 : x < r.length) : atI r x = some ((r[x.toNat]?).getD 0) := by
  obtain ⟨h, e⟩ := atI_some (xs := r) h0 h1
  rw [e, List.getElem?_eq_getElem h]
  rfl
theorem row_of_T {T : List (List Int)} {k : Nat} (h : k < T.length) : (T[k]?).getD [] ∈ T := by
  rw [List.getElem?_eq_getElem h]
  exact List.getElem_mem h
theorem stepS_ok {L : Int} {A : List Bool} {T : List (List Int)} (h : Good L A T) {s l : Int} (hs : okS A s) : okS A (stepS L T s l) := by
  rcases hs with rfl | ⟨h0, h1⟩
  · left; rfl
  · unfold stepS
    rw [if_pos h0]
    have hT : s.toNat < T.length := by have := h.t; omega
    have hm := row_of_T hT
    by_cases hl : 1 ≤ l ∧ l ≤ L
    · rw [if_pos hl]
      have hr := h.r _ hm
      have z : (l - 1).toNat < ((T[s.toNat]?).getD []).length := by omega
      have e := h.e _ hm _ (List.getElem_mem z)
      rw [List.getElem?_eq_getElem z]
      show okS A (((T[s.toNat]?).getD [])[(l - 1).toNat])
      unfold okS
      omega
    · rw [if_neg hl]
      left; rfl
theorem start0_ok (A : List Bool) : okS A (start0 A) := by
  unfold start0 okS
  split <;> omega
theorem runS_ok {L : Int} {A : List Bool} {T : List (List Int)} (h : Good L A T) : ∀ {w : List Int} {s : Int}, okS A s → okS A (runS L T s w)
  | [], s, hs => hs
  | l :: w, s, hs => runS_ok h (w := w) (stepS_ok h hs)
theorem acc_step {L : Int} {A : List Bool} {T : List (List Int)} (h : Good L A T) (r1 : Option Val) {s l : Int} (hs : okS A s) : lp__law_accepts_0 [some (.sh (mD L A T)), r1, I s, I l] = .nx [some (.sh (mD L A T)), r1, I (stepS L T s l), I l] := by
  unfold lp__law_accepts_0
  rcases hs with rfl | ⟨h0, h1⟩
  · walk_at "ev"
    rfl
  · have hT : s < (T.length : Int) := by have := h.t; omega
    have hm := row_of_T (T := T) (k := s.toNat) (by omega)
    walk_at "ev"
    simp only [h0, decide_true]
    walk_at "ev"
    by_cases l1 : 1 ≤ l
    · by_cases l2 : l ≤ L
      · have hr := h.r _ hm
        simp only [l1, l2, decide_true]
        walk_at "ev"
        (try simp only [l1, l2, decide_true])
        walk_at "ev"
        simp only [tD_at h0 hT]
        walk_at "ev"
        simp only [iL_at (r := (T[s.toNat]?).getD []) (x := l - 1) (by omega) (by omega)]
        walk_at "ev"
        unfold stepS
        rw [if_pos h0, if_pos ⟨l1, l2⟩]
      · simp only [l1, l2, decide_true, decide_false]
        walk_at "ev"
        (try simp only [l1, l2, decide_true, decide_false])
        walk_at "ev"
        unfold stepS
        rw [if_pos h0, if_neg (fun z => l2 z.2)]
    · simp only [l1, decide_false]
      walk_at "ev"
      unfold stepS
      rw [if_pos h0, if_neg (fun z => l1 z.1)]
theorem e_law_accepts {L : Int} {A : List Bool} {T : List (List Int)} (h : Good L A T) (w : List Int) : M__law_accepts [.sh (mD L A T), .sh (iL w)] = .ok (.sh (.bool (accS A (runS L T (start0 A) w)))) := by
  have el := (loop_fold (bp := bName 3) (body := lp__law_accepts_0) (fun x => PyData.int x) (fun p : Int × Option Val => [some (.sh (mD L A T)), SL w, I p.1, p.2]) (fun p l => (stepS L T p.1 l, I l)) (fun p => okS A p.1) (xs := w) (b := (start0 A, none)) (start0_ok A)
    (fun p l _ hp => ⟨_, rfl, acc_step h (SL w) hp, stepS_ok h hp⟩)).1
  have ef : ∀ (w : List Int) (p : Int × Option Val), (w.foldl (fun (p : Int × Option Val) l => (stepS L T p.1 l, I l)) p).1 = runS L T p.1 w := by
    intro w
    induction w with
    | nil => intro p; rfl
    | cons l w ih => intro p; exact ih _
  have e1 := ef w (start0 A, none)
  have hk := runS_ok h (w := w) (start0_ok A)
  generalize (w.foldl (fun (p : Int × Option Val) l => (stepS L T p.1 l, I l)) (start0 A, none)) = fin at el e1
  obtain ⟨s, b⟩ := fin
  have e1 : s = runS L T (start0 A) w := e1
  rw [← e1] at hk ⊢
  rw [M__law_accepts_eq]
  unfold ms__law_accepts
  have s0 : (mSet 2 (mIfE (mTest (mOp oGt (mCall cLen (mCons (mOp oIx (mVar 0) (mC (.int 1))) mNil)) (mC (.int 0)))) (mC (.int 0)) (mNeg (mC (.int 1))))) [some (.sh (mD L A T)), SL w, none, none] = .nx [some (.sh (mD L A T)), SL w, I (start0 A), none] := by
    walk_at "ev"
    by_cases z : 0 < A.length
    · have z1 : (0 : Int) < (A.length : Int) := by omega
      simp only [z1, decide_true]
      walk_at "ev"
      rw [start0, if_pos z]
    · have z1 : ¬ (0 : Int) < (A.length : Int) := by omega
      simp only [z1, decide_false]
      walk_at "ev"
      rw [start0, if_neg z]
  refine seq_step s0 ?_
  refine seq_step (ρ' := [some (.sh (mD L A T)), SL w, I s, b]) ?_ ?_
  · walk_at "ev"
    exact el
  walk_at "ev"
  rcases hk with rfl | ⟨h0, h1⟩
  · walk_at "ev"
    rfl
  · simp only [h0, decide_true]
    walk_at "ev"
    have e3 : atI (A.map PyData.bool) s = some (.bool (accS A s)) := by
      obtain ⟨q, e⟩ := atI_some (xs := A) h0 h1
      rw [atI_map, e, accS, if_pos h0, List.getElem?_eq_getElem q]
      rfl
    simp only [e3]
    walk_at "ev"
/-! all words of a length -/
def wordsN (L : Nat) : Nat → List (List Int)
  | 0 => [[]]
  | k + 1 => (wordsN L k).flatMap fun w => (upto 1 L).map fun l => w ++ [l]
theorem flat_len {α β : Type} {c : Nat} {f : α → List β} : ∀ {xs : List α}, (∀ a ∈ xs, (f a).length = c) → (xs.flatMap f).length = xs.length * c
  | [], _ => by simp
  | a :: xs, h => by
    rw [List.flatMap_cons, List.length_append, h a List.mem_cons_self, flat_len fun b hb => h b (List.mem_cons_of_mem _ hb), List.length_cons, Nat.add_mul, Nat.one_mul]
    omega
theorem wordsN_len (L k : Nat) : (wordsN L k).length = L ^ k := by
  induction k with
  | zero => rfl
  | succ k ih =>
    unfold wordsN
    rw [flat_len (c := L) fun w _ => by rw [List.length_map, upto_len], ih, Nat.pow_succ]
theorem wordsN_small {L k : Nat} (hL : L ≤ 3) (hk : k ≤ 5) : (wordsN L k).length ≤ 243 := by
  rw [wordsN_len]
  exact Nat.le_trans (Nat.pow_le_pow_left hL k) (Nat.le_trans (Nat.pow_le_pow_right (by decide) hk) (by decide))
theorem wd_len : ∀ (k : Nat) {L : Nat} {w : List Int}, w ∈ wordsN L k → w.length = k
  | 0, L, w, h => by
    have : w = [] := by simpa [wordsN] using h
    rw [this]; rfl
  | k + 1, L, w, h => by
    unfold wordsN at h
    obtain ⟨u, hu, hw⟩ := List.mem_flatMap.mp h
    obtain ⟨l, _, rfl⟩ := List.mem_map.mp hw
    rw [List.length_append, wd_len k hu]
    rfl
/-- longer = longer + [word + [letter] for letter in range(1, letters + 1)] -/
theorem words_in {l : Nat} (hl : l ≤ 3) (A : List Bool) (T : List (List Int)) (r1 r2 r3 r6 b5 : Option Val) (X : List (List Int)) (w : List Int) (hX : X.length ≤ 1000) (hw : w.length ≤ 1000) :
    lp__law_words_0 [some (.sh (mD l A T)), r1, r2, r3, some (.ow (LL X)), some (.sh (iL w)), r6] = .nx [some (.sh (mD l A T)), r1, r2, r3, some (.ow (LL (X ++ (upto 1 l).map fun c => w ++ [c]))), some (.sh (iL w)), r6] := by
  have ec : comp (bName 6) mYes (mOp oAddT (mVar 5) (mLst (mCons (mVar 6) mNil))) [some (.sh (mD l A T)), r1, r2, r3, some (.ow (LL X)), some (.sh (iL w)), none] ((upto 1 l).map .int) [] = .ok (LL ((upto 1 l).map fun c => w ++ [c])) := by
    have q : LL ((upto 1 l).map fun c => w ++ [c]) = (upto 1 l).map fun c => iL (w ++ [c]) := by unfold LL; rw [List.map_map]; rfl
    rw [q]
    refine comp_all (xs := upto 1 l) (fun x => PyData.int x) (fun c => iL (w ++ [c])) ?_ (by rw [upto_len]; omega)
    intro c _
    refine ⟨_, rfl, .ow ((w ++ [c]).map .int), ?_, rfl⟩
    walk_at "ev"
    (try simp only [show (1 : Nat) ≤ 100000 from by decide, if_true])
    walk_at "ev"
    (try simp only [show w.length ≤ 99999 from by omega, if_true])
    walk_at "ev"
  have z1 : ((l : Int) + 1).natAbs ≤ 1000000 := by omega
  have z2 : ((l : Int) + 1 - 1).toNat = l := by omega
  unfold lp__law_words_0
  walk_at "ev"
  simp only [z1, z2, if_true]
  walk_at "ev"
  simp only [ec]
  walk_at "ev"
  have hz : X.length + l ≤ 100000 := by omega
  simp only [upto_len, hz, if_true]
  walk_at "ev"
  simp only [LL, List.map_append]
theorem words_loop {l : Nat} (hl : l ≤ 3) (A : List Bool) (T : List (List Int)) (r1 r2 r3 r6 : Option Val) : ∀ (ws X : List (List Int)) (b5 : Option Val), X.length + ws.length * l ≤ 1000 → (∀ w ∈ ws, w.length ≤ 1000) →
    ∃ c5, loop (bName 5) lp__law_words_0 (LL ws) [some (.sh (mD l A T)), r1, r2, r3, some (.ow (LL X)), b5, r6] = .nx [some (.sh (mD l A T)), r1, r2, r3, some (.ow (LL (X ++ ws.flatMap fun w => (upto 1 l).map fun c => w ++ [c]))), c5, r6]
  | [], X, b5, _, _ => ⟨b5, by rw [List.flatMap_nil, List.append_nil]; rfl⟩
  | w :: ws, X, b5, h, hw => by
    rw [List.length_cons, Nat.add_mul, Nat.one_mul] at h
    obtain ⟨c5, ih⟩ := words_loop hl A T r1 r2 r3 r6 ws (X ++ (upto 1 l).map fun c => w ++ [c]) (some (.sh (iL w))) (by rw [List.length_append, List.length_map, upto_len]; omega) fun u hu => hw u (List.mem_cons_of_mem _ hu)
    refine ⟨c5, ?_⟩
    show loop (bName 5) lp__law_words_0 (iL w :: LL ws) _ = _
    rw [loop_cons (ρ1 := [some (.sh (mD l A T)), r1, r2, r3, some (.ow (LL X)), some (.sh (iL w)), r6]) rfl (words_in hl A T r1 r2 r3 r6 b5 X w (by omega) (hw w List.mem_cons_self)), ih, List.flatMap_cons, List.append_assoc]
def slotW (X : List (List Int)) (b : Option Val) : Prop := b = some (.ow (LL X)) ∨ b = some (.sh (.list (LL X)))
theorem words_turn {l : Nat} (hl : l ≤ 3) (A : List Bool) (T : List (List Int)) (r1 : Option Val) (k : Nat) (b2 b4 b5 : Option Val) (hb : slotW (wordsN l k) b2) (hk : k ≤ 5) :
    ∃ d5, lp__law_words_1 [some (.sh (mD l A T)), r1, b2, I k, b4, b5, none] = .nx [some (.sh (mD l A T)), r1, some (.ow (LL (wordsN l (k + 1)))), I k, some (.ow (LL (wordsN l (k + 1)))), d5, none] := by
  have hs := wordsN_small hl hk
  obtain ⟨d5, el⟩ := words_loop hl A T r1 (some (.sh (.list (LL (wordsN l k))))) (I k) none (wordsN l k) [] b5 (by
    have := Nat.mul_le_mul hs hl
    rw [List.length_nil]
    omega) fun w hw => by rw [wd_len k hw]; omega
  have el : loop (bName 5) lp__law_words_0 (LL (wordsN l k)) [some (.sh (mD l A T)), r1, some (.sh (.list (LL (wordsN l k)))), I k, some (.ow []), b5, none] = .nx [some (.sh (mD l A T)), r1, some (.sh (.list (LL (wordsN l k)))), I k, some (.ow (LL (wordsN l (k + 1)))), d5, none] := el
  refine ⟨d5, ?_⟩
  unfold lp__law_words_1
  rcases hb with rfl | rfl
  · walk_at "ev"
    simp only [el]
    walk_at "ev"
  · walk_at "ev"
    simp only [el]
    walk_at "ev"
theorem words_all {l : Nat} (hl : l ≤ 3) (A : List Bool) (T : List (List Int)) (r1 : Option Val) : ∀ (m k : Nat) (b2 b3 b4 b5 : Option Val), slotW (wordsN l k) b2 → k + m ≤ 5 → ∃ c2 c3 c4 c5, slotW (wordsN l (k + m)) c2 ∧ loop (bName 3) lp__law_words_1 ((upto (k : Int) m).map .int) [some (.sh (mD l A T)), r1, b2, b3, b4, b5, none] =
      .nx [some (.sh (mD l A T)), r1, c2, c3, c4, c5, none]
  | 0, k, b2, b3, b4, b5, hb, _ => ⟨b2, b3, b4, b5, hb, rfl⟩
  | m + 1, k, b2, b3, b4, b5, hb, h => by
    obtain ⟨d5, et⟩ := words_turn hl A T r1 k b2 b4 b5 hb (by omega)
    obtain ⟨c2, c3, c4, c5, hc, ih⟩ := words_all hl A T r1 m (k + 1) (some (.ow (LL (wordsN l (k + 1))))) (I k) (some (.ow (LL (wordsN l (k + 1))))) d5 (.inl rfl) (by omega)
    have e : k + (m + 1) = k + 1 + m := by omega
    refine ⟨c2, c3, c4, c5, by rw [e]; exact hc, ?_⟩
    rw [upto_succ, List.map_cons, loop_cons (ρ1 := [some (.sh (mD l A T)), r1, b2, I k, b4, b5, none]) rfl et]
    exact ih
theorem e_law_words {l : Nat} {A : List Bool} {T : List (List Int)} (h : Good l A T) (hl : l ≤ 3) {k : Nat} (hk : k ≤ 5) : M__law_words [.sh (mD l A T), .sh (.int k)] = .ok (.ow (LL ((wordsN l k).filter fun w => accS A (runS l T (start0 A) w)))) := by
  obtain ⟨c2, c3, c4, c5, hc, el⟩ := words_all hl A T (I k) k 0 (some (.sh (.list [iL []]))) none none none (.inr rfl) (by omega)
  rw [Nat.zero_add] at hc
  have hs := wordsN_small hl hk
  have ec : comp (bName 5) (mTru (mDef M__law_accepts (mCons (mVar 0) (mCons (mVar 5) mNil)))) (mVar 5) [some (.sh (mD l A T)), I k, some (.sh (.list (LL (wordsN l k)))), c3, c4, none, none] (LL (wordsN l k)) [] = .ok (LL ((wordsN l k).filter fun w => accS A (runS l T (start0 A) w))) := by
    refine comp_gen (xs := wordsN l k) iL iL (fun w => accS A (runS l T (start0 A) w)) ?_ (by omega)
    intro w _
    refine ⟨_, rfl, ?_, fun _ => ⟨_, rfl, rfl⟩⟩
    walk_at "ev"
    simp only [e_law_accepts h]
    walk_at "ev"
  have h1 : k ≤ 1000000 := by omega
  rw [M__law_words_eq]
  unfold ms__law_words
  refine seq_step (ρ' := [some (.sh (mD l A T)), I k, some (.ow [iL []]), none, none, none, none]) ?_ ?_
  · walk_at "ev"
    (try simp only [show (0 : Nat) ≤ 100000 from by decide, show (1 : Nat) ≤ 100000 from by decide, if_true])
    walk_at "ev"
    rfl
  refine frz_step ?_
  refine seq_step (ρ' := [some (.sh (mD l A T)), I k, c2, c3, c4, c5, none]) ?_ ?_
  · walk_at "ev"
    simp only [h1, if_true]
    exact el
  refine frz_step ?_
  have ef : frz 2 [some (.sh (mD l A T)), I k, c2, c3, c4, c5, none] = [some (.sh (mD l A T)), I k, some (.sh (.list (LL (wordsN l k)))), c3, c4, c5, none] := by
    rcases hc with rfl | rfl <;> rfl
  rw [ef]
  walk_at "ev"
  simp only [ec]
  walk_at "ev"
/-! as many words as the numbers say -/
def valS (m : List Int) (s : Int) : Int := at0 m s
theorem sum_add {α : Type} (f g : α → Int) : ∀ xs : List α, (xs.map fun a => f a + g a).sum = (xs.map f).sum + (xs.map g).sum
  | [] => rfl
  | a :: xs => by
    rw [List.map_cons, List.map_cons, List.map_cons, List.sum_cons, List.sum_cons, List.sum_cons, sum_add f g xs]
    omega
theorem sum_flat {α β : Type} (f : β → Int) (g : α → List β) : ∀ xs : List α, ((xs.flatMap g).map f).sum = (xs.map fun a => ((g a).map f).sum).sum
  | [] => rfl
  | a :: xs => by
    rw [List.flatMap_cons, List.map_append, List.sum_append, sum_flat f g xs, List.map_cons, List.sum_cons]
theorem run_snoc (L : Int) (T : List (List Int)) (s : Int) (w : List Int) (l : Int) : runS L T s (w ++ [l]) = stepS L T (runS L T s w) l := by
  unfold runS
  rw [List.foldl_append]
  rfl
theorem upto_idx : ∀ (r : List Int) (f : Int → Int), ((upto 1 r.length).map fun l => f ((r[(l - 1).toNat]?).getD 0)) = r.map f := by
  intro r f
  apply List.ext_getElem
  · rw [List.length_map, List.length_map, upto_len]
  · intro i h1 h2
    rw [List.length_map, upto_len] at h1
    rw [List.getElem_map, List.getElem_map]
    have e := upto_get (lo := 1) (n := r.length) h1
    have z : (upto 1 r.length)[i]'(by rw [upto_len]; exact h1) = 1 + (i : Int) := by
      rw [List.getElem?_eq_getElem (by rw [upto_len]; exact h1)] at e
      exact Option.some.inj e
    rw [z]
    have z2 : (1 + (i : Int) - 1).toNat = i := by omega
    rw [z2, List.getElem?_eq_getElem h1]
    rfl
theorem sum_filter_up (m : List Int) : ∀ r : List Int, (∀ x ∈ r, -1 ≤ x) → ((r.filter up).map (at0 m)).sum = (r.map (at0 m)).sum
  | [], _ => rfl
  | x :: r, h => by
    have ih := sum_filter_up m r fun y hy => h y (List.mem_cons_of_mem _ hy)
    have hx := h x List.mem_cons_self
    by_cases c : x = -1
    · have u : up x = false := by simp [up, c]
      rw [List.filter_cons_of_neg (by rw [u]; exact Bool.false_ne_true), ih, List.map_cons, List.sum_cons]
      have z : at0 m x = 0 := by rw [at0, if_neg (by omega)]
      rw [z, Int.zero_add]
    · have u : up x = true := by simp [up, c]
      rw [List.filter_cons_of_pos u, List.map_cons, List.sum_cons, ih, List.map_cons, List.sum_cons]
theorem step_sum {l : Nat} {A : List Bool} {T : List (List Int)} (h : Good l A T) (m : List Int) {s : Int} (hs : okS A s) : ((upto 1 l).map fun c => at0 m (stepS l T s c)).sum = at0 (stepW T m) s := by
  rcases hs with rfl | ⟨h0, h1⟩
  · have z : ∀ c, at0 m (stepS l T (-1) c) = 0 := fun c => rfl
    have z2 : at0 (stepW T m) (-1) = 0 := rfl
    rw [z2]
    generalize upto 1 l = xs
    induction xs with
    | nil => rfl
    | cons a xs ih => rw [List.map_cons, List.sum_cons, z, ih]; rfl
  · have hT : s.toNat < T.length := by have := h.t; omega
    have hm := row_of_T hT
    have hr : ((T[s.toNat]?).getD []).length = l := by have := h.r _ hm; omega
    have e1 : ((upto 1 l).map fun c => at0 m (stepS l T s c)) = ((T[s.toNat]?).getD []).map (at0 m) := by
      rw [← upto_idx ((T[s.toNat]?).getD []) (at0 m), hr]
      apply List.map_congr_left
      intro c hc
      have hc := upto_mem.mp hc
      unfold stepS
      rw [if_pos h0, if_pos ⟨hc.1, by omega⟩]
    rw [e1, ← sum_filter_up m _ fun x hx => (h.e _ hm x hx).1]
    unfold stepW
    rw [at0, if_pos h0, List.getElem?_map, List.getElem?_eq_getElem hT]
    rfl
def iterW (T : List (List Int)) : Nat → List Int → List Int
  | 0, m => m
  | k + 1, m => iterW T k (stepW T m)
theorem iter_out (T : List (List Int)) : ∀ (k : Nat) (m : List Int), iterW T (k + 1) m = stepW T (iterW T k m)
  | 0, m => rfl
  | k + 1, m => iter_out T k (stepW T m)
theorem ways_iter (A : List Bool) (T : List (List Int)) : ∀ k, waysN A T k = iterW T k (A.map b2n)
  | 0 => rfl
  | k + 1 => by
    rw [iter_out, ← ways_iter A T k]
    rfl
theorem words_sum {l : Nat} {A : List Bool} {T : List (List Int)} (h : Good l A T) : ∀ (k : Nat) (m : List Int) {s : Int}, okS A s → ((wordsN l k).map fun w => at0 m (runS l T s w)).sum = at0 (iterW T k m) s
  | 0, m, s, _ => by
    show at0 m s + 0 = at0 m s
    omega
  | k + 1, m, s, hs => by
    have ih := words_sum h k (stepW T m) hs
    unfold wordsN
    rw [sum_flat]
    show _ = at0 (iterW T k (stepW T m)) s
    rw [← ih]
    congr 1
    apply List.map_congr_left
    intro w _
    rw [List.map_map, ← step_sum h m (runS_ok h (w := w) hs)]
    congr 1
    apply List.map_congr_left
    intro c _
    show at0 m (runS l T s (w ++ [c])) = _
    rw [run_snoc]
theorem count_filter {α : Type} (p : α → Bool) : ∀ xs : List α, ((xs.filter p).length : Int) = (xs.map fun a => b2n (p a)).sum
  | [] => rfl
  | a :: xs => by
    have ih := count_filter p xs
    cases c : p a with
    | true =>
      rw [List.filter_cons_of_pos c, List.length_cons, List.map_cons, List.sum_cons, c, ← ih]
      show _ = (1 : Int) + _
      omega
    | false =>
      rw [List.filter_cons_of_neg (by rw [c]; exact Bool.false_ne_true), List.map_cons, List.sum_cons, c, ← ih]
      show _ = (0 : Int) + _
      omega
theorem acc_val {A : List Bool} {s : Int} (hs : okS A s) : b2n (accS A s) = at0 (A.map b2n) s := by
  rcases hs with rfl | ⟨h0, h1⟩
  · rfl
  · have q : s.toNat < A.length := by omega
    unfold accS at0
    rw [if_pos h0, if_pos h0, List.getElem?_map, List.getElem?_eq_getElem q]
    rfl
theorem words_count {l : Nat} {A : List Bool} {T : List (List Int)} (h : Good l A T) (k : Nat) : (((wordsN l k).filter fun w => accS A (runS l T (start0 A) w)).length : Int) = wayAt A T k := by
  rw [count_filter]
  have e : ((wordsN l k).map fun w => b2n (accS A (runS l T (start0 A) w))) = (wordsN l k).map fun w => at0 (A.map b2n) (runS l T (start0 A) w) := by
    apply List.map_congr_left
    intro w _
    exact acc_val (runS_ok h (start0_ok A))
  rw [e, words_sum h k _ (start0_ok A), ← ways_iter]
  unfold wayAt start0
  by_cases z : 0 < A.length
  · rw [if_pos z, if_pos z]
    rfl
  · rw [if_neg z, if_neg z]
    rfl
/-! the words of a length in their order, the first one that is accepted, the first one behind a word -/
def wordsR (l : Nat) : Nat → List (List Int)
  | 0 => [[]]
  | k + 1 => (upto 1 l).flatMap fun c => (wordsR l k).map (c :: ·)
theorem wordsR_snoc (l : Nat) : ∀ k, wordsR l (k + 1) = (wordsR l k).flatMap fun w => (upto 1 l).map fun c => w ++ [c]
  | 0 => by
    show (upto 1 l).flatMap (fun c => [[c]]) = [[]].flatMap fun w => (upto 1 l).map fun c => w ++ [c]
    rw [List.flatMap_cons, List.flatMap_nil, List.append_nil]
    generalize upto 1 l = xs
    induction xs with
    | nil => rfl
    | cons a xs ih => rw [List.flatMap_cons, ih]; rfl
  | k + 1 => by
    have ih := wordsR_snoc l k
    show (upto 1 l).flatMap (fun c => (wordsR l (k + 1)).map (c :: ·)) = ((upto 1 l).flatMap fun c => (wordsR l k).map (c :: ·)).flatMap fun w => (upto 1 l).map fun c => w ++ [c]
    rw [List.flatMap_assoc, ih]
    congr 1
    funext c
    rw [List.map_flatMap, List.flatMap_map]
    congr 1
    funext w
    rw [List.map_map]
    rfl
theorem wordsN_R (l : Nat) : ∀ k, wordsN l k = wordsR l k
  | 0 => rfl
  | k + 1 => by
    rw [wordsR_snoc, ← wordsN_R l k]
    rfl
def fstW (l : Nat) (A : List Bool) (T : List (List Int)) (s : Int) (k : Nat) : Option (List Int) := (wordsR l k).find? fun u => accS A (runS l T s u)
theorem fstW_succ (l : Nat) (A : List Bool) (T : List (List Int)) (s : Int) (k : Nat) : fstW l A T s (k + 1) = (upto 1 l).findSome? fun c => (fstW l A T (stepS l T s c) k).map (c :: ·) := by
  unfold fstW
  rw [wordsR, List.find?_flatMap]
  congr 1
  funext c
  rw [List.find?_map]
  rfl
theorem run_dead (L : Int) (T : List (List Int)) : ∀ u, runS L T (-1) u = -1
  | [] => rfl
  | _ :: u => run_dead L T u
theorem fstW_dead (l : Nat) (A : List Bool) (T : List (List Int)) (k : Nat) : fstW l A T (-1) k = none := by
  unfold fstW
  rw [List.find?_eq_none]
  intro u _
  rw [run_dead]
  exact Bool.false_ne_true
theorem ways_len {l : Nat} {A : List Bool} {T : List (List Int)} (h : Good l A T) (k : Nat) {s : Int} (hs : okS A s) : at0 (waysN A T k) s = (((wordsR l k).filter fun w => accS A (runS l T s w)).length : Int) := by
  rw [count_filter, ← wordsN_R]
  have e : ((wordsN l k).map fun w => b2n (accS A (runS l T s w))) = (wordsN l k).map fun w => at0 (A.map b2n) (runS l T s w) := by
    apply List.map_congr_left
    intro w _
    exact acc_val (runS_ok h hs)
  rw [e, words_sum h k _ hs, ← ways_iter]
theorem ways_pos {l : Nat} {A : List Bool} {T : List (List Int)} (h : Good l A T) (k : Nat) {s : Int} (hs : okS A s) : 0 ≤ at0 (waysN A T k) s ∧ (0 < at0 (waysN A T k) s ↔ (fstW l A T s k).isSome = true) := by
  rw [ways_len h k hs]
  refine ⟨by omega, ?_⟩
  unfold fstW
  rw [List.find?_isSome]
  constructor
  · intro q
    have q2 : 0 < ((wordsR l k).filter fun w => accS A (runS l T s w)).length := by omega
    obtain ⟨x, h1, h2⟩ := List.length_filter_pos_iff.mp q2
    exact ⟨x, h1, h2⟩
  · rintro ⟨x, h1, h2⟩
    have := (List.length_filter_pos_iff (p := fun w => accS A (runS l T s w))).mpr ⟨x, h1, h2⟩
    omega
/-! leads -/
def num : Int → List Int → List (Int × Int)
  | _, [] => []
  | c, x :: r => (c, x) :: num (c + 1) r
def ldsR (r : List Int) : List (Int × Int) := (num 1 r).filter fun p => up p.2
def rowT (T : List (List Int)) (s : Int) : List Int := (T[s.toNat]?).getD []
theorem num_upto : ∀ (r : List Int) (c : Int), num c r = (upto c r.length).map fun d => (d, (r[(d - c).toNat]?).getD 0)
  | [], c => rfl
  | x :: r, c => by
    rw [num, num_upto r (c + 1), List.length_cons, upto_succ, List.map_cons]
    congr 1
    · have z : (c - c).toNat = 0 := by omega
      rw [z]
      rfl
    · apply List.map_congr_left
      intro d hd
      have hd := upto_mem.mp hd
      have z : (d - c).toNat = (d - (c + 1)).toNat + 1 := by omega
      rw [z, List.getElem?_cons_succ]
theorem some_filter {α β : Type} (f : α → Option β) (q : α → Bool) : ∀ {xs : List α}, (∀ a ∈ xs, q a = false → f a = none) → (xs.filter q).findSome? f = xs.findSome? f
  | [], _ => rfl
  | a :: xs, h => by
    have ih := some_filter f q (xs := xs) fun b hb => h b (List.mem_cons_of_mem _ hb)
    cases c : q a with
    | true => rw [List.filter_cons_of_pos c, List.findSome?_cons, List.findSome?_cons, ih]
    | false => rw [List.filter_cons_of_neg (by rw [c]; exact Bool.false_ne_true), List.findSome?_cons, h a List.mem_cons_self c, ih]
theorem some_congr {α β : Type} {f g : α → Option β} : ∀ {xs : List α}, (∀ a ∈ xs, f a = g a) → xs.findSome? f = xs.findSome? g
  | [], _ => rfl
  | a :: xs, h => by
    rw [List.findSome?_cons, List.findSome?_cons, h a List.mem_cons_self, some_congr fun b hb => h b (List.mem_cons_of_mem _ hb)]
theorem lds_some {l : Nat} {A : List Bool} {T : List (List Int)} (h : Good l A T) {s : Int} (h0 : 0 ≤ s) (h1 : s < (A.length : Int)) (f : Int → Int → Option (List Int)) (hf : ∀ c, f c (-1) = none) :
    (ldsR (rowT T s)).findSome? (fun p => f p.1 p.2) = (upto 1 l).findSome? fun c => f c (stepS l T s c) := by
  have hT : s.toNat < T.length := by have := h.t; omega
  have hm := row_of_T hT
  have hr : (rowT T s).length = l := by have := h.r _ hm; unfold rowT; omega
  unfold ldsR
  have e := some_filter (xs := num 1 (rowT T s)) (fun p : Int × Int => f p.1 p.2) (fun p => up p.2) (fun p _ hp => by
    have z : p.2 = -1 := by simpa [up] using hp
    show f p.1 p.2 = none
    rw [z, hf])
  rw [e, num_upto, hr, List.findSome?_map]
  apply some_congr
  intro c hc
  have hc := upto_mem.mp hc
  show f c (((rowT T s)[(c - 1).toNat]?).getD 0) = _
  unfold stepS
  rw [if_pos h0, if_pos ⟨hc.1, by omega⟩]
  rfl
theorem lds_mem {l : Nat} {A : List Bool} {T : List (List Int)} (h : Good l A T) {s : Int} (h0 : 0 ≤ s) (h1 : s < (A.length : Int)) {p : Int × Int} (hp : p ∈ ldsR (rowT T s)) : 1 ≤ p.1 ∧ p.1 ≤ l ∧ 0 ≤ p.2 ∧ p.2 < (A.length : Int) := by
  have hT : s.toNat < T.length := by have := h.t; omega
  have hm := row_of_T hT
  have hr : (rowT T s).length = l := by have := h.r _ hm; unfold rowT; omega
  unfold ldsR at hp
  obtain ⟨p1, p2⟩ := List.mem_filter.mp hp
  rw [num_upto, hr] at p1
  obtain ⟨d, hd, rfl⟩ := List.mem_map.mp p1
  have hd := upto_mem.mp hd
  have p2 : ¬ ((rowT T s)[(d - 1).toNat]?).getD 0 = -1 := by simpa [up] using p2
  have z : (d - 1).toNat < (rowT T s).length := by omega
  rw [List.getElem?_eq_getElem z] at p2
  have e := h.e _ hm _ (List.getElem_mem z)
  refine ⟨hd.1, by show d ≤ _; omega, ?_, ?_⟩
  · show 0 ≤ ((rowT T s)[(d - 1).toNat]?).getD 0
    rw [List.getElem?_eq_getElem z]
    have p2 : ¬ (rowT T s)[(d - 1).toNat] = -1 := p2
    have e1 : -1 ≤ (rowT T s)[(d - 1).toNat] := e.1
    show 0 ≤ (rowT T s)[(d - 1).toNat]
    omega
  · show ((rowT T s)[(d - 1).toNat]?).getD 0 < _
    rw [List.getElem?_eq_getElem z]
    exact e.2
/-- the first letter above x that leads on -/
def gtW (l : Nat) (A : List Bool) (T : List (List Int)) (s x : Int) (k : Nat) : Option (List Int) := (upto 1 l).findSome? fun c => if x < c then (fstW l A T (stepS l T s c) k).map (c :: ·) else none
def gtL : List Int → List Int → Bool
  | c :: u, x :: w => decide (x < c) || (!decide (c < x) && gtL u w)
  | _, _ => false
def fstB (l : Nat) (A : List Bool) (T : List (List Int)) (s : Int) (w : List Int) : Option (List Int) := (wordsR l w.length).find? fun u => accS A (runS l T s u) && gtL u w
theorem fstB_dead (l : Nat) (A : List Bool) (T : List (List Int)) (w : List Int) : fstB l A T (-1) w = none := by
  unfold fstB
  rw [List.find?_eq_none]
  intro u _
  rw [run_dead]
  exact Bool.false_ne_true
theorem gtW_dead (l : Nat) (A : List Bool) (T : List (List Int)) (x : Int) (k : Nat) : gtW l A T (-1) x k = none := by
  unfold gtW
  rw [List.findSome?_eq_none_iff]
  intro c _
  have z : stepS l T (-1) c = -1 := rfl
  rw [z, fstW_dead]
  split <;> rfl
theorem split_some {x : Int} {P : Option (List Int)} {Q : Int → Option (List Int)} : ∀ {cs : List Int}, cs.Pairwise (· < ·) → cs.findSome? (fun c => if c = x then P else if x < c then Q c else none) = (if x ∈ cs then P else none).or (cs.findSome? fun c => if x < c then Q c else none)
  | [], _ => rfl
  | c :: cs, h => by
    obtain ⟨h1, h2⟩ := List.pairwise_cons.mp h
    have ih := split_some (x := x) (P := P) (Q := Q) h2
    rw [List.findSome?_cons, List.findSome?_cons]
    by_cases e : c = x
    · subst e
      have n1 : ¬ c < c := Int.lt_irrefl c
      have n2 : c ∉ cs := fun hc => n1 (h1 c hc)
      rw [if_pos rfl, if_neg n1, if_pos List.mem_cons_self]
      cases P with
      | some v => rfl
      | none =>
        rw [if_neg n2] at ih
        exact ih
    · rw [if_neg e]
      by_cases g : x < c
      · have n2 : x ∉ c :: cs := fun hx => by
          rcases List.mem_cons.mp hx with z | z
          · exact e z.symm
          · have := h1 x z
            omega
        have n3 : x ∉ cs := fun hx => n2 (List.mem_cons_of_mem _ hx)
        rw [if_pos g, if_neg n2]
        rw [if_neg n3] at ih
        rw [ih]
        rfl
      · rw [if_neg g]
        have m : (x ∈ c :: cs) ↔ x ∈ cs := ⟨fun hx => by
          rcases List.mem_cons.mp hx with z | z
          · exact absurd z.symm e
          · exact z, fun hx => List.mem_cons_of_mem _ hx⟩
        have e2 : (if x ∈ c :: cs then P else none) = if x ∈ cs then P else none := by
          by_cases q : x ∈ cs
          · rw [if_pos q, if_pos (m.mpr q)]
          · rw [if_neg q, if_neg (fun z => q (m.mp z))]
        rw [e2]
        exact ih
theorem upto_lt : ∀ (n : Nat) (lo : Int), (upto lo n).Pairwise (· < ·)
  | 0, _ => .nil
  | n + 1, lo => by
    rw [upto_succ]
    exact .cons (fun a ha => by have := upto_mem.mp ha; omega) (upto_lt n (lo + 1))
theorem fstB_cons {l : Nat} {A : List Bool} {T : List (List Int)} {s : Int} (hs : okS A s) (x : Int) (w : List Int) : fstB l A T s (x :: w) = ((fstB l A T (stepS l T s x) w).map (x :: ·)).or (gtW l A T s x w.length) := by
  have e1 : fstB l A T s (x :: w) = (upto 1 l).findSome? (fun c => if c = x then (fstB l A T (stepS l T s x) w).map (x :: ·) else if x < c then (fstW l A T (stepS l T s c) w.length).map (c :: ·) else none) := by
    unfold fstB
    rw [List.length_cons, wordsR, List.find?_flatMap]
    congr 1
    funext c
    rw [List.find?_map]
    by_cases e : c = x
    · subst e
      rw [if_pos rfl]
      congr 1
      congr 1
      funext u
      show (accS A (runS l T (stepS l T s c) u) && (decide (c < c) || (!decide (c < c) && gtL u w))) = _
      rw [decide_eq_false (Int.lt_irrefl c)]
      rfl
    · rw [if_neg e]
      by_cases g : x < c
      · rw [if_pos g]
        unfold fstW
        congr 1
        congr 1
        funext u
        show (accS A (runS l T (stepS l T s c) u) && (decide (x < c) || (!decide (c < x) && gtL u w))) = _
        rw [decide_eq_true g, Bool.true_or, Bool.and_true]
      · rw [if_neg g]
        have z : (wordsR l w.length).find? ((fun u => accS A (runS l T s u) && gtL u (x :: w)) ∘ (c :: ·)) = none := by
          rw [List.find?_eq_none]
          intro u _
          show ¬ (accS A (runS l T s (c :: u)) && (decide (x < c) || (!decide (c < x) && gtL u w))) = true
          rw [decide_eq_false g, decide_eq_true (show c < x by omega)]
          simp
        rw [z]
        rfl
  rw [e1, split_some (upto_lt l 1)]
  show Option.or _ (gtW l A T s x w.length) = _
  congr 1
  by_cases m : x ∈ upto 1 l
  · rw [if_pos m]
  · rw [if_neg m]
    have z : stepS l T s x = -1 := by
      rcases hs with rfl | ⟨h0, h1⟩
      · rfl
      · unfold stepS
        rw [if_pos h0, if_neg]
        intro q
        exact m (upto_mem.mpr ⟨q.1, by omega⟩)
    rw [z, fstB_dead]
    rfl
/-! from the end to the start -/
def scan (cand : Nat → Option (List Int)) : Nat → Option (List Int)
  | 0 => none
  | m + 1 => (cand m).or (scan cand m)
theorem scan_shift (cand : Nat → Option (List Int)) : ∀ n, scan cand (n + 1) = (scan (fun i => cand (i + 1)) n).or (cand 0)
  | 0 => by
    show (cand 0).or none = _
    rw [Option.or_none]
    rfl
  | n + 1 => by
    show (cand (n + 1)).or (scan cand (n + 1)) = _
    rw [scan_shift cand n, ← Option.or_assoc]
    rfl
theorem scan_map (f : List Int → List Int) (cand : Nat → Option (List Int)) : ∀ n, scan (fun i => (cand i).map f) n = (scan cand n).map f
  | 0 => rfl
  | n + 1 => by
    show ((cand n).map f).or (scan (fun i => (cand i).map f) n) = ((cand n).or (scan cand n)).map f
    rw [scan_map f cand n]
    cases cand n <;> rfl
theorem scan_cut {cand : Nat → Option (List Int)} {m : Nat} : ∀ {n : Nat}, m ≤ n → (∀ i, m ≤ i → i < n → cand i = none) → scan cand n = scan cand m
  | 0, h, _ => by
    have : m = 0 := by omega
    rw [this]
  | n + 1, h, hc => by
    by_cases e : m = n + 1
    · rw [e]
    · show (cand n).or (scan cand n) = _
      rw [hc n (by omega) (by omega), scan_cut (by omega) fun i h1 h2 => hc i h1 (by omega)]
      rfl
def candW (l : Nat) (A : List Bool) (T : List (List Int)) (s : Int) (w : List Int) (i : Nat) : Option (List Int) := (gtW l A T (runS l T s (w.take i)) ((w[i]?).getD 0) (w.length - i - 1)).map fun v => w.take i ++ v
theorem scan_congr {c d : Nat → Option (List Int)} (h : ∀ i, c i = d i) (n : Nat) : scan c n = scan d n := by
  have : c = d := funext h
  rw [this]
theorem fstB_scan {l : Nat} {A : List Bool} {T : List (List Int)} (h : Good l A T) : ∀ (w : List Int) (s : Int), okS A s → fstB l A T s w = scan (candW l A T s w) w.length
  | [], s, _ => by
    unfold fstB
    show [[]].find? _ = none
    rw [List.find?_eq_none]
    intro u hu
    have : u = [] := by simpa using hu
    subst this
    show ¬ (_ && false) = true
    rw [Bool.and_false]
    exact Bool.false_ne_true
  | x :: w, s, hs => by
    rw [fstB_cons hs, fstB_scan h w _ (stepS_ok h hs), List.length_cons, scan_shift, ← scan_map]
    congr 1
    · apply scan_congr
      intro i
      unfold candW
      rw [List.take_succ_cons, List.getElem?_cons_succ, List.length_cons, Option.map_map]
      have e1 : w.length + 1 - (i + 1) - 1 = w.length - i - 1 := by omega
      rw [e1]
      rfl
    · unfold candW
      rw [List.take_zero, List.length_cons]
      have e1 : w.length + 1 - 0 - 1 = w.length := by omega
      rw [e1]
      show gtW l A T s x w.length = (gtW l A T s x w.length).map fun v => v
      cases gtW l A T s x w.length <;> rfl
abbrev pD (p : Int × Int) : D := .tuple [.int p.1, .int p.2]
theorem numI_num : ∀ (r : List Int) (c : Int), numberedI c (r.map .int) = (num c r).map pD
  | [], _ => rfl
  | x :: r, c => by
    show PyData.tuple [.int c, .int x] :: numberedI (c + 1) (r.map .int) = pD (c, x) :: (num (c + 1) r).map pD
    rw [numI_num r (c + 1)]
theorem num_len : ∀ (r : List Int) (c : Int), (num c r).length = r.length
  | [], _ => rfl
  | x :: r, c => congrArg (· + 1) (num_len r (c + 1))
theorem e_leads {r : List Int} (hl : r.length ≤ 100000) : M_leads [.sh (tI r)] = .ok (.ow ((ldsR r).map pD)) := by
  have e := comp_gen (bp := bTup (bCons (bName 1) (bCons (bName 2) bNil))) (mt := mTest (mOp (oOr oNeS oNe) (mVar 2) (mC (.int (-1))))) (me := mTup (mCons (mVar 1) (mCons (mVar 2) mNil))) (ρ := [some (.sh (tI r)), none, none]) pD pD (fun p => up p.2) (xs := num 1 r)
    (fun p hp => ⟨_, rfl, by walk_at "ev", fun _ => ⟨_, rfl, rfl⟩⟩) (by rw [num_len]; exact hl)
  rw [M_leads_eq]
  unfold ms_leads
  walk_at "ev"
  simp only [mIterEk]
  walk_at "ev"
  simp only [show Nat.ble 1 1000000 = true from by decide, if_true, numI_num]
  walk_at "ev"
  simp only [e]
  walk_at "ev"
  rfl
theorem pick {f : Int × Int → Option (List Int)} {q : Int × Int → Bool} : ∀ {ps : List (Int × Int)} {v : List Int}, (∀ p ∈ ps, q p = (f p).isSome) → ps.findSome? f = some v → ∃ p, p ∈ ps ∧ ps.find? q = some p ∧ f p = some v
  | [], v, _, e => by simp at e
  | p :: ps, v, h, e => by
    rw [List.findSome?_cons] at e
    have hp := h p List.mem_cons_self
    cases c : f p with
    | some u =>
      rw [c] at e
      rw [c] at hp
      refine ⟨p, List.mem_cons_self, ?_, by rw [c]; exact e⟩
      rw [List.find?_cons, hp]
      rfl
    | none =>
      rw [c] at e hp
      obtain ⟨p', h1, h2, h3⟩ := pick (fun q hq => h q (List.mem_cons_of_mem _ hq)) e
      refine ⟨p', List.mem_cons_of_mem _ h1, ?_, h3⟩
      rw [List.find?_cons, hp]
      exact h2
theorem pick_none {f : Int × Int → Option (List Int)} {q : Int × Int → Bool} : ∀ {ps : List (Int × Int)}, (∀ p ∈ ps, q p = (f p).isSome) → ps.findSome? f = none → ps.find? q = none
  | [], _, _ => rfl
  | p :: ps, h, e => by
    rw [List.findSome?_cons] at e
    have hp := h p List.mem_cons_self
    cases c : f p with
    | some u =>
      rw [c] at e
      cases e
    | none =>
      rw [c] at e hp
      rw [List.find?_cons, hp]
      exact pick_none (fun q hq => h q (List.mem_cons_of_mem _ hq)) e
abbrev bp2 (i j : Nat) : BP := bTup (bCons (bName i) (bCons (bName j) bNil))
theorem loop_brk {bp : BP} {body : Rho → Out} {d : D} {ds : List D} {ρ ρ1 ρ2 : Rho} (h1 : bp d ρ = some ρ1) (h2 : body ρ1 = .bk ρ2) : loop bp body (d :: ds) ρ = .nx ρ2 := by rw [loop, h1]; simp only [h2]
theorem loop_ret {bp : BP} {body : Rho → Out} {d : D} {ds : List D} {ρ ρ1 : Rho} {r : Val} (h1 : bp d ρ = some ρ1) (h2 : body ρ1 = .rt r) : loop bp body (d :: ds) ρ = .rt r := by rw [loop, h1]; simp only [h2]
def io (b : Option Val) : Prop := b = none ∨ ∃ i, b = I i
theorem downD_succ (hi : Int) (n : Nat) : downD hi (n + 1) = .int hi :: downD (hi - 1) n := by
  unfold downD
  rw [List.range_succ_eq_map, List.map_cons, List.map_map]
  congr 1
  · show PyData.int (hi - (0 : Int)) = _
    rw [Int.sub_zero]
  · apply List.map_congr_left
    intro i _
    show PyData.int (hi - ((i + 1 : Nat) : Int)) = .int (hi - 1 - (i : Int))
    congr 1
    omega
abbrev WD (A : List Bool) (T : List (List Int)) (n : Nat) : List D := LL ((List.range (n + 1)).map (waysN A T))
theorem wd_at (A : List Bool) (T : List (List Int)) {n k : Nat} (h : k ≤ n) : atI (WD A T n) (k : Int) = some (iL (waysN A T k)) := by
  unfold WD LL
  rw [atI_map, atI_map]
  obtain ⟨q, e⟩ := atI_some (xs := List.range (n + 1)) (i := (k : Int)) (by omega) (by rw [List.length_range]; omega)
  rw [e]
  simp
/-- a state and its leads -/
theorem leads_at {l : Nat} {A : List Bool} {T : List (List Int)} (h : Good l A T) {s : Int} (h0 : 0 ≤ s) (h1 : s < (A.length : Int)) : atI (T.map tI) s = some (tI (rowT T s)) ∧ M_leads [.sh (tI (rowT T s))] = .ok (.ow ((ldsR (rowT T s)).map pD)) := by
  have hT : s.toNat < T.length := by have := h.t; omega
  have hr : (rowT T s).length = l := by have := h.r _ (row_of_T hT); unfold rowT; omega
  have := h.l6
  exact ⟨tD_at h0 (by omega), e_leads (by omega)⟩
/-! the accepted words of a length in their order: by number, and their numbers -/
def accW (l : Nat) (A : List Bool) (T : List (List Int)) (s : Int) (k : Nat) : List (List Int) := (wordsR l k).filter fun u => accS A (runS l T s u)
theorem flat_filter {α β : Type} (p : β → Bool) (f : α → List β) : ∀ xs : List α, (xs.flatMap f).filter p = xs.flatMap fun a => (f a).filter p
  | [] => rfl
  | a :: xs => by rw [List.flatMap_cons, List.flatMap_cons, List.filter_append, flat_filter p f xs]
theorem accW_dead (l : Nat) (A : List Bool) (T : List (List Int)) (k : Nat) : accW l A T (-1) k = [] := by
  unfold accW
  rw [List.filter_eq_nil_iff]
  intro u _
  rw [run_dead]
  exact Bool.false_ne_true
theorem accW_succ (l : Nat) (A : List Bool) (T : List (List Int)) (s : Int) (k : Nat) : accW l A T s (k + 1) = (upto 1 l).flatMap fun c => (accW l A T (stepS l T s c) k).map (c :: ·) := by
  unfold accW
  rw [wordsR, flat_filter]
  congr 1
  funext c
  rw [List.filter_map]
  rfl
theorem flat_skip {α β : Type} (f : α → List β) (q : α → Bool) : ∀ {xs : List α}, (∀ a ∈ xs, q a = false → f a = []) → (xs.filter q).flatMap f = xs.flatMap f
  | [], _ => rfl
  | a :: xs, h => by
    have ih := flat_skip f q (xs := xs) fun b hb => h b (List.mem_cons_of_mem _ hb)
    cases c : q a with
    | true => rw [List.filter_cons_of_pos c, List.flatMap_cons, List.flatMap_cons, ih]
    | false => rw [List.filter_cons_of_neg (by rw [c]; exact Bool.false_ne_true), List.flatMap_cons, h a List.mem_cons_self c, ih]; rfl
theorem flat_congr {α β : Type} {f g : α → List β} : ∀ {xs : List α}, (∀ a ∈ xs, f a = g a) → xs.flatMap f = xs.flatMap g
  | [], _ => rfl
  | a :: xs, h => by rw [List.flatMap_cons, List.flatMap_cons, h a List.mem_cons_self, flat_congr fun b hb => h b (List.mem_cons_of_mem _ hb)]
abbrev gW (l : Nat) (A : List Bool) (T : List (List Int)) (k : Nat) (p : Int × Int) : List (List Int) := (accW l A T p.2 k).map (p.1 :: ·)
theorem gW_dead (l : Nat) (A : List Bool) (T : List (List Int)) (k : Nat) {p : Int × Int} (h : up p.2 = false) : gW l A T k p = [] := by
  have z : p.2 = -1 := by simpa [up] using h
  unfold gW
  rw [z, accW_dead]
  rfl
theorem accW_num {l : Nat} {A : List Bool} {T : List (List Int)} (h : Good l A T) {s : Int} (h0 : 0 ≤ s) (h1 : s < (A.length : Int)) (k : Nat) : accW l A T s (k + 1) = (num 1 (rowT T s)).flatMap (gW l A T k) := by
  have hT : s.toNat < T.length := by have := h.t; omega
  have hm := row_of_T hT
  have hr : (rowT T s).length = l := by have := h.r _ hm; unfold rowT; omega
  rw [accW_succ, num_upto, hr, List.flatMap_map]
  apply flat_congr
  intro c hc
  have hc := upto_mem.mp hc
  unfold stepS
  rw [if_pos h0, if_pos ⟨hc.1, by omega⟩]
  rfl
theorem accW_lds {l : Nat} {A : List Bool} {T : List (List Int)} (h : Good l A T) {s : Int} (h0 : 0 ≤ s) (h1 : s < (A.length : Int)) (k : Nat) : accW l A T s (k + 1) = (ldsR (rowT T s)).flatMap (gW l A T k) := by
  rw [accW_num h h0 h1, ldsR, flat_skip (gW l A T k) (fun p => up p.2) fun p _ hp => gW_dead l A T k hp]
theorem accW_len {l : Nat} {A : List Bool} {T : List (List Int)} (h : Good l A T) (k : Nat) {s : Int} (hs : okS A s) : at0 (waysN A T k) s = ((accW l A T s k).length : Int) := ways_len h k hs
/-- the j-th of all, list by list -/
def pickN (g : Int × Int → List (List Int)) : List (Int × Int) → Nat → Option ((Int × Int) × Nat)
  | [], _ => none
  | p :: ps, j => if j < (g p).length then some (p, j) else pickN g ps (j - (g p).length)
theorem pickN_at (g : Int × Int → List (List Int)) : ∀ {ps : List (Int × Int)} {j : Nat} {v : List Int}, (ps.flatMap g)[j]? = some v → ∃ p i, p ∈ ps ∧ pickN g ps j = some (p, i) ∧ (g p)[i]? = some v
  | [], j, v, e => by simp at e
  | p :: ps, j, v, e => by
    rw [List.flatMap_cons] at e
    unfold pickN
    by_cases c : j < (g p).length
    · rw [if_pos c]
      rw [List.getElem?_append_left c] at e
      exact ⟨p, j, List.mem_cons_self, rfl, e⟩
    · rw [if_neg c]
      rw [List.getElem?_append_right (by omega)] at e
      obtain ⟨p', i, h1, h2, h3⟩ := pickN_at g e
      exact ⟨p', i, List.mem_cons_of_mem _ h1, h2, h3⟩
/-- how many stand before a word -/
def rankN (l : Nat) (A : List Bool) (T : List (List Int)) : Int → List Int → Nat
  | _, [] => 0
  | s, x :: w => ((ldsR ((rowT T s).take (x - 1).toNat)).flatMap (gW l A T w.length)).length + rankN l A T (stepS l T s x) w
theorem num_append : ∀ (a b : List Int) (c : Int), num c (a ++ b) = num c a ++ num (c + a.length) b
  | [], b, c => by
    have z : c + ((([] : List Int).length : Nat) : Int) = c := by simp
    rw [z]
    rfl
  | x :: a, b, c => by
    have z : c + 1 + (a.length : Int) = c + ((x :: a).length : Int) := by rw [List.length_cons]; omega
    show (c, x) :: num (c + 1) (a ++ b) = (c, x) :: (num (c + 1) a ++ num (c + ((x :: a).length : Int)) b)
    rw [num_append a b (c + 1), z]
theorem rank_at {l : Nat} {A : List Bool} {T : List (List Int)} (h : Good l A T) : ∀ (w : List Int) (s : Int), okS A s → accS A (runS l T s w) = true → (accW l A T s w.length)[rankN l A T s w]? = some w
  | [], s, _, e => by
    have e : accS A s = true := e
    have z : accW l A T s 0 = [[]] := by
      unfold accW
      show List.filter (fun u => accS A (runS l T s u)) [[]] = [[]]
      rw [List.filter_cons_of_pos (by exact e)]
      rfl
    show (accW l A T s 0)[0]? = some []
    rw [z]
    rfl
  | x :: w, s, hs, e => by
    have e : accS A (runS l T (stepS l T s x) w) = true := e
    have ih := rank_at h w _ (stepS_ok h hs) e
    have hd : stepS l T s x ≠ -1 := fun z => by
      rw [z, run_dead] at e
      cases e
    rcases hs with rfl | ⟨h0, h1⟩
    · exact absurd rfl hd
    · have hT : s.toNat < T.length := by have := h.t; omega
      have hm := row_of_T hT
      have hr : (rowT T s).length = l := by have := h.r _ hm; unfold rowT; omega
      have hx : 1 ≤ x ∧ x ≤ l := by
        refine Decidable.byContradiction fun z => hd ?_
        unfold stepS
        rw [if_pos h0, if_neg z]
      have hxl : (x - 1).toNat < (rowT T s).length := by omega
      have et : stepS l T s x = (rowT T s)[(x - 1).toNat] := by
        unfold stepS
        rw [if_pos h0, if_pos hx]
        show ((rowT T s)[(x - 1).toNat]?).getD 0 = _
        rw [List.getElem?_eq_getElem hxl]
        rfl
      have esplit : rowT T s = (rowT T s).take (x - 1).toNat ++ (stepS l T s x :: (rowT T s).drop ((x - 1).toNat + 1)) := by
        rw [et, ← List.drop_eq_getElem_cons hxl, List.take_append_drop]
      rw [List.length_cons, accW_num h h0 h1]
      have en : num 1 (rowT T s) = num 1 ((rowT T s).take (x - 1).toNat) ++ ((x, stepS l T s x) :: num (x + 1) ((rowT T s).drop ((x - 1).toNat + 1))) := by
        have q := num_append ((rowT T s).take (x - 1).toNat) (stepS l T s x :: (rowT T s).drop ((x - 1).toNat + 1)) 1
        rw [← esplit] at q
        rw [q]
        have z : 1 + (((rowT T s).take (x - 1).toNat).length : Int) = x := by rw [List.length_take]; omega
        rw [z]
        rfl
      rw [en, List.flatMap_append, List.flatMap_cons]
      have e1 : (ldsR ((rowT T s).take (x - 1).toNat)).flatMap (gW l A T w.length) = (num 1 ((rowT T s).take (x - 1).toNat)).flatMap (gW l A T w.length) := by
        rw [ldsR, flat_skip (gW l A T w.length) (fun p => up p.2) fun p _ hp => gW_dead l A T _ hp]
      unfold rankN
      rw [e1, List.getElem?_append_right (by omega), Nat.add_sub_cancel_left]
      obtain ⟨q, _⟩ := List.getElem?_eq_some_iff.mp ih
      rw [List.getElem?_append_left (by show _ < (List.map _ _).length; rw [List.length_map]; exact q)]
      show (List.map (x :: ·) (accW l A T (stepS l T s x) w.length))[_]? = _
      rw [List.getElem?_map, ih]
      rfl
theorem words_nodup (l : Nat) : ∀ k, (wordsR l k).Nodup
  | 0 => by unfold wordsR; exact List.nodup_cons.mpr ⟨List.not_mem_nil, List.nodup_nil⟩
  | k + 1 => by
    have ih := words_nodup l k
    unfold wordsR
    show List.Pairwise (· ≠ ·) _
    rw [List.pairwise_flatMap]
    refine ⟨fun c _ => ?_, ?_⟩
    · rw [List.pairwise_map]
      exact List.Pairwise.imp (fun hab z => hab (List.cons.inj z).2) ih
    · refine List.Pairwise.imp (fun {a b} hab x hx y hy z => ?_) (upto_nodup l 1)
      obtain ⟨u, _, rfl⟩ := List.mem_map.mp hx
      obtain ⟨v, _, rfl⟩ := List.mem_map.mp hy
      exact hab (List.cons.inj z).1
theorem accW_nodup (l : Nat) (A : List Bool) (T : List (List Int)) (s : Int) (k : Nat) : (accW l A T s k).Nodup := List.Pairwise.filter _ (words_nodup l k)
theorem nodup_idx {α : Type} : ∀ {xs : List α} {i j : Nat} {a : α}, xs.Nodup → xs[i]? = some a → xs[j]? = some a → i = j
  | [], _, _, _, _, h, _ => by simp at h
  | x :: xs, 0, 0, _, _, _, _ => rfl
  | x :: xs, 0, j + 1, a, nd, h, h' => by
    have e : x = a := by simpa using h
    have h' : xs[j]? = some a := by simpa using h'
    subst e
    exact absurd (List.mem_of_getElem? h') (List.nodup_cons.mp nd).1
  | x :: xs, i + 1, 0, a, nd, h, h' => by
    have e : x = a := by simpa using h'
    have h : xs[i]? = some a := by simpa using h
    subst e
    exact absurd (List.mem_of_getElem? h) (List.nodup_cons.mp nd).1
  | x :: xs, i + 1, j + 1, a, nd, h, h' => by
    have h : xs[i]? = some a := by simpa using h
    have h' : xs[j]? = some a := by simpa using h'
    rw [nodup_idx (List.nodup_cons.mp nd).2 h h']
/-- the number of the i-th word is i -/
theorem rank_of {l : Nat} {A : List Bool} {T : List (List Int)} (h : Good l A T) {s : Int} (hs : okS A s) {k i : Nat} {w : List Int} (e : (accW l A T s k)[i]? = some w) : w.length = k ∧ accS A (runS l T s w) = true ∧ rankN l A T s w = i := by
  have hm := List.mem_of_getElem? e
  unfold accW at hm
  obtain ⟨h1, h2⟩ := List.mem_filter.mp hm
  rw [← wordsN_R] at h1
  have hl := wd_len k h1
  refine ⟨hl, h2, ?_⟩
  have r := rank_at h w s hs h2
  rw [hl] at r
  exact nodup_idx (accW_nodup l A T s k) r e
theorem tail_inN {m : List Int} (g : Int × Int → List (List Int)) (r0 r1 r3 r6 r8 : Option Val) (out : List Int) (hout : out.length < 1000) : ∀ (ps : List (Int × Int)) (j : Nat) (s : Int) (b9 b10 : Option Val), (∀ p ∈ ps, 0 ≤ p.2 ∧ p.2 < (m.length : Int) ∧ at0 m p.2 = ((g p).length : Int)) → ∀ p i, pickN g ps j = some (p, i) →
    loop (bp2 9 10) lp__tail_with_number_0 (ps.map pD) [r0, r1, I s, r3, I j, OL out, r6, SL m, r8, b9, b10] = .nx [r0, r1, I p.2, r3, I i, OL (out ++ [p.1]), r6, SL m, r8, I p.1, I p.2]
  | [], j, s, b9, b10, _, p, i, e => by cases e
  | a :: ps, j, s, b9, b10, h, p, i, e => by
    obtain ⟨a0, a1, a2⟩ := h a List.mem_cons_self
    have ea := at0_at a0 a1
    unfold pickN at e
    by_cases c : j < (g a).length
    · rw [if_pos c] at e
      cases e
      have c' : (j : Int) < at0 m a.2 := by omega
      have et : lp__tail_with_number_0 [r0, r1, I s, r3, I j, OL out, r6, SL m, r8, I a.1, I a.2] = .bk [r0, r1, I a.2, r3, I j, OL (out ++ [a.1]), r6, SL m, r8, I a.1, I a.2] := by
        unfold lp__tail_with_number_0
        walk_at "ev"
        simp only [ea]
        walk_at "ev"
        simp only [c', decide_true]
        walk_at "ev"
        simp only [show out.length < 100000 from by omega, if_true]
        rfl
      exact loop_brk (ρ1 := [r0, r1, I s, r3, I j, OL out, r6, SL m, r8, I a.1, I a.2]) rfl et
    · rw [if_neg c] at e
      have c' : ¬ (j : Int) < at0 m a.2 := by omega
      have ez : (j : Int) - at0 m a.2 = ((j - (g a).length : Nat) : Int) := by omega
      have et : lp__tail_with_number_0 [r0, r1, I s, r3, I j, OL out, r6, SL m, r8, I a.1, I a.2] = .nx [r0, r1, I s, r3, I ((j - (g a).length : Nat) : Int), OL out, r6, SL m, r8, I a.1, I a.2] := by
        unfold lp__tail_with_number_0
        walk_at "ev"
        simp only [ea]
        walk_at "ev"
        simp only [c', decide_false]
        walk_at "ev"
        (try simp only [ea])
        walk_at "ev"
        (try simp only [ez])
      rw [List.map_cons, loop_cons (ρ1 := [r0, r1, I s, r3, I j, OL out, r6, SL m, r8, I a.1, I a.2]) rfl et]
      exact tail_inN g r0 r1 r3 r6 r8 out hout ps _ s _ _ (fun q hq => h q (List.mem_cons_of_mem _ hq)) p i e
theorem tail_turnN {l : Nat} {A : List Bool} {T : List (List Int)} (h : Good l A T) (n : Nat) (r3 : Option Val) {k j : Nat} {s : Int} {out v : List Int} {b6 b7 b8 b9 b10 : Option Val} (hk : k ≤ n) (h0 : 0 ≤ s) (h1 : s < (A.length : Int)) (ho : out.length < 1000) (h9 : io b9) (h10 : io b10) (e : (accW l A T s (k + 1))[j]? = some v) :
    ∃ c v' s' j', v = c :: v' ∧ 0 ≤ s' ∧ s' < (A.length : Int) ∧ (accW l A T s' k)[j']? = some v' ∧
      lp__tail_with_number_1 [some (.sh (tD T)), some (.sh (.list (WD A T n))), I s, r3, I j, OL out, I k, b7, b8, b9, b10] = .nx [some (.sh (tD T)), some (.sh (.list (WD A T n))), I s', r3, I (j' : Nat), OL (out ++ [c]), I k, SL (waysN A T k), some (.sh (.list ((ldsR (rowT T s)).map pD))), I c, I s'] := by
  rw [accW_lds h h0 h1] at e
  obtain ⟨p, i, pm, pf, pv⟩ := pickN_at (gW l A T k) e
  obtain ⟨_, _, p0, p1⟩ := lds_mem h h0 h1 pm
  have ei := tail_inN (m := waysN A T k) (gW l A T k) (some (.sh (tD T))) (some (.sh (.list (WD A T n)))) r3 (I k) (some (.sh (.list ((ldsR (rowT T s)).map pD)))) out ho (ldsR (rowT T s)) j s b9 b10 (fun q hq => by
    obtain ⟨_, _, q0, q1⟩ := lds_mem h h0 h1 hq
    rw [waysN_len h]
    refine ⟨q0, q1, ?_⟩
    rw [accW_len h k (.inr ⟨q0, q1⟩)]
    unfold gW
    rw [List.length_map]) p i pf
  obtain ⟨l1, l2⟩ := leads_at h h0 h1
  have pv : ((accW l A T p.2 k).map (p.1 :: ·))[i]? = some v := pv
  rw [List.getElem?_map] at pv
  cases cc : (accW l A T p.2 k)[i]? with
  | none => rw [cc] at pv; cases pv
  | some u =>
    rw [cc] at pv
    cases pv
    refine ⟨p.1, u, p.2, i, rfl, p0, p1, cc, ?_⟩
    unfold lp__tail_with_number_1
    rw [seqx (ρ' := [some (.sh (tD T)), some (.sh (.list (WD A T n))), I s, r3, I j, OL out, I k, SL (waysN A T k), b8, b9, b10])]
    · rw [seqx (ρ' := [some (.sh (tD T)), some (.sh (.list (WD A T n))), I s, r3, I j, OL out, I k, SL (waysN A T k), some (.ow ((ldsR (rowT T s)).map pD)), b9, b10])]
      · have ei : (mFor (mIterS (mVar 8)) (bp2 9 10) lp__tail_with_number_0) [some (.sh (tD T)), some (.sh (.list (WD A T n))), I s, r3, I j, OL out, I k, SL (waysN A T k), some (.sh (.list ((ldsR (rowT T s)).map pD))), b9, b10] = _ := ei
        rcases h9 with rfl | ⟨i9, rfl⟩ <;> rcases h10 with rfl | ⟨i10, rfl⟩ <;> exact ei
      · walk_at "ev"
        simp only [l1]
        walk_at "ev"
        simp only [l2]
        walk_at "ev"
    · walk_at "ev"
      simp only [wd_at A T hk]
      walk_at "ev"
theorem accW_zero {l : Nat} {A : List Bool} {T : List (List Int)} {s : Int} {j : Nat} {v : List Int} (e : (accW l A T s 0)[j]? = some v) : v = [] := by
  have h := List.mem_of_getElem? e
  unfold accW at h
  have h := (List.mem_filter.mp h).1
  have h : v ∈ [[]] := h
  simpa using h
theorem tail_loopN {l : Nat} {A : List Bool} {T : List (List Int)} (h : Good l A T) (n : Nat) (r3 : Option Val) : ∀ (k j : Nat) (s : Int) (out v : List Int) (b6 b7 b8 b9 b10 : Option Val), k ≤ n + 1 → 0 ≤ s → s < (A.length : Int) → out.length + k < 1000 → io b9 → io b10 → (accW l A T s k)[j]? = some v →
    ∃ c2 c4 c6 c7 c8 c9 c10, loop (bName 6) lp__tail_with_number_1 (downD ((k : Int) - 1) k) [some (.sh (tD T)), some (.sh (.list (WD A T n))), I s, r3, I j, OL out, b6, b7, b8, b9, b10] = .nx [some (.sh (tD T)), some (.sh (.list (WD A T n))), c2, r3, c4, OL (out ++ v), c6, c7, c8, c9, c10]
  | 0, j, s, out, v, b6, b7, b8, b9, b10, _, _, _, _, _, _, e => by
    rw [accW_zero e, List.append_nil]
    exact ⟨_, _, _, _, _, _, _, rfl⟩
  | k + 1, j, s, out, v, b6, b7, b8, b9, b10, hk, h0, h1, ho, h9, h10, e => by
    obtain ⟨c, v', s', j', rfl, s0, s1, e', et⟩ := tail_turnN h n r3 (b6 := b6) (b7 := b7) (b8 := b8) (show k ≤ n by omega) h0 h1 (show out.length < 1000 by omega) h9 h10 e
    obtain ⟨c2, c4, c6, c7, c8, c9, c10, ih⟩ := tail_loopN h n r3 k j' s' (out ++ [c]) v' (I k) (SL (waysN A T k)) (some (.sh (.list ((ldsR (rowT T s)).map pD)))) (I c) (I s') (by omega) s0 s1 (by rw [List.length_append, List.length_singleton]; omega) (.inr ⟨_, rfl⟩) (.inr ⟨_, rfl⟩) e'
    refine ⟨c2, c4, c6, c7, c8, c9, c10, ?_⟩
    have z : (((k + 1 : Nat) : Int) - 1) = (k : Int) := by omega
    rw [z, downD_succ, loop_cons (ρ1 := [some (.sh (tD T)), some (.sh (.list (WD A T n))), I s, r3, I j, OL out, I k, b7, b8, b9, b10]) rfl et, ih, List.append_assoc]
    rfl
theorem e_tailN {l : Nat} {A : List Bool} {T : List (List Int)} (h : Good l A T) {n k j : Nat} {s : Int} {v : List Int} (hk : k ≤ n + 1) (hn : n ≤ 100) (h0 : 0 ≤ s) (h1 : s < (A.length : Int)) (e : (accW l A T s k)[j]? = some v) :
    M__tail_with_number [.sh (tD T), .sh (.list (WD A T n)), .sh (.int s), .sh (.int k), .sh (.int j)] = .ok (.ow (v.map .int)) := by
  obtain ⟨c2, c4, c6, c7, c8, c9, c10, el⟩ := tail_loopN h n (I k) k j s [] v none none none none none hk h0 h1 (by rw [List.length_nil]; omega) (.inl rfl) (.inl rfl) e
  rw [M__tail_with_number_eq]
  unfold ms__tail_with_number
  refine seq_step (ρ' := [some (.sh (tD T)), some (.sh (.list (WD A T n))), I s, I k, I j, OL [], none, none, none, none, none]) (by walk_at "ev"; rfl) ?_
  refine frz_step (frz_step (frz_step ?_))
  refine seq_step (ρ' := [some (.sh (tD T)), some (.sh (.list (WD A T n))), c2, I k, c4, OL v, c6, c7, c8, c9, c10]) ?_ ?_
  · walk_at "ev"
    simp only [mIter3]
    walk_at "ev"
    have z1 : ((k : Int) - 1).natAbs ≤ 1000000 := by omega
    have z2 : (Int.natAbs (-1)) ≤ 1000000 := by decide
    have z3 : ((k : Int) - 1 - -1).toNat = k := by omega
    simp only [z1, z2, z3, if_true, and_self]
    exact el
  · rfl
theorem wayAt_acc {l : Nat} {A : List Bool} {T : List (List Int)} (h : Good l A T) (k : Nat) : wayAt A T k = ((accW l A T (start0 A) k).length : Int) := by
  rw [← words_count h k, wordsN_R]
  rfl
theorem start_in {l : Nat} {A : List Bool} {T : List (List Int)} {k : Nat} {j : Nat} {v : List Int} (e : (accW l A T (start0 A) k)[j]? = some v) : 0 < A.length := by
  refine Decidable.byContradiction fun z => ?_
  unfold start0 at e
  rw [if_neg z, accW_dead] at e
  simp at e
theorem e_with {l : Nat} {A : List Bool} {T : List (List Int)} (h : Good l A T) {k j : Nat} {v : List Int} (hk : k ≤ 60) (e : (accW l A T (start0 A) k)[j]? = some v) : M_word_with_number [.sh (mD l A T), .sh (.int k), .sh (.int j)] = .ok (.ow (v.map .int)) := by
  have hA := start_in e
  have hj := (List.getElem?_eq_some_iff.mp e).1
  have s0 : start0 A = 0 := by unfold start0; rw [if_pos hA]
  have w0 := wayAt_acc h k
  have z1 : ¬ (j : Int) < 0 := by omega
  have z2 : ¬ wayAt A T k ≤ (j : Int) := by omega
  rw [s0] at e
  have et := e_tailN h (n := k) (by omega) (by omega) (by decide) (by omega) e
  rw [M_word_with_number_eq]
  unfold ms_word_with_number
  refine seq_step (ρ' := [some (.sh (mD l A T)), I k, I j, none]) ?_ ?_
  · walk_at "ev"
    simp only [e_check_machine h]
    walk_at "ev"
  refine seq_step (ρ' := [some (.sh (mD l A T)), I k, I j, none]) ?_ ?_
  · walk_at "ev"
    simp only [e_check_length (n := (k : Int)) (by omega) (by omega)]
    walk_at "ev"
  refine seq_step (ρ' := [some (.sh (mD l A T)), I k, I j, none]) ?_ ?_
  · walk_at "ev"
    simp only [z1, decide_false]
    walk_at "ev"
  refine seq_step (ρ' := [some (.sh (mD l A T)), I k, I j, some (.ow (WD A T k))]) ?_ ?_
  · walk_at "ev"
    simp only [e_tails h k hk]
    walk_at "ev"
  refine seq_step (ρ' := [some (.sh (mD l A T)), I k, I j, some (.ow (WD A T k))]) ?_ ?_
  · walk_at "ev"
    simp only [e_many_words h k hk]
    walk_at "ev"
    simp only [z2, decide_false]
    walk_at "ev"
  walk_at "ev"
  simp only [et, all_flat]
  walk_at "ev"
theorem e_with_no {l : Nat} {A : List Bool} {T : List (List Int)} (h : Good l A T) {k j : Nat} (hk : k ≤ 60) (e : (accW l A T (start0 A) k).length ≤ j) : M_word_with_number [.sh (mD l A T), .sh (.int k), .sh (.int j)] = .ex "NoWord" [] := by
  have w0 := wayAt_acc h k
  have z1 : ¬ (j : Int) < 0 := by omega
  have z2 : wayAt A T k ≤ (j : Int) := by omega
  rw [M_word_with_number_eq]
  unfold ms_word_with_number
  refine seq_step (ρ' := [some (.sh (mD l A T)), I k, I j, none]) ?_ ?_
  · walk_at "ev"
    simp only [e_check_machine h]
    walk_at "ev"
  refine seq_step (ρ' := [some (.sh (mD l A T)), I k, I j, none]) ?_ ?_
  · walk_at "ev"
    simp only [e_check_length (n := (k : Int)) (by omega) (by omega)]
    walk_at "ev"
  refine seq_step (ρ' := [some (.sh (mD l A T)), I k, I j, none]) ?_ ?_
  · walk_at "ev"
    simp only [z1, decide_false]
    walk_at "ev"
  refine seq_step (ρ' := [some (.sh (mD l A T)), I k, I j, some (.ow (WD A T k))]) ?_ ?_
  · walk_at "ev"
    simp only [e_tails h k hk]
    walk_at "ev"
  walk_at "ev"
  simp only [e_many_words h k hk]
  walk_at "ev"
  simp only [z2, decide_true]
  walk_at "ev"
theorem e_with_len {l : Nat} {A : List Bool} {T : List (List Int)} (h : Good l A T) {k j : Int} (hk : k < 0 ∨ 60 < k) : M_word_with_number [.sh (mD l A T), .sh (.int k), .sh (.int j)] = .ex "BadNumber" [] := by
  rw [M_word_with_number_eq]
  unfold ms_word_with_number
  walk_at "ev"
  simp only [e_check_machine h]
  walk_at "ev"
  simp only [e_check_length_no hk]
  walk_at "ev"
theorem e_with_neg {l : Nat} {A : List Bool} {T : List (List Int)} (h : Good l A T) {k : Nat} {j : Int} (hk : k ≤ 60) (hj : j < 0) : M_word_with_number [.sh (mD l A T), .sh (.int k), .sh (.int j)] = .ex "BadNumber" [] := by
  rw [M_word_with_number_eq]
  unfold ms_word_with_number
  walk_at "ev"
  simp only [e_check_machine h]
  walk_at "ev"
  simp only [e_check_length (n := (k : Int)) (by omega) (by omega)]
  walk_at "ev"
  simp only [hj, decide_true]
  walk_at "ev"
theorem e_size {w : List Int} (hw : w.length ≤ 60) : M__check_size [.sh (iL w)] = .ok (.sh .none) := by
  have z : ¬ (60 : Int) < (w.length : Int) := by omega
  rw [M__check_size_eq]
  unfold ms__check_size
  walk_at "ev"
  simp only [z, decide_false]
  walk_at "ev"
theorem e_size_no {w : List Int} (hw : 60 < w.length) : M__check_size [.sh (iL w)] = .ex "NotWord" [] := by
  have z : (60 : Int) < (w.length : Int) := by omega
  rw [M__check_size_eq]
  unfold ms__check_size
  walk_at "ev"
  simp only [z, decide_true]
  walk_at "ev"
/-! the walker and the law's own reader -/
theorem stepD_eq {L : Int} {A : List Bool} {T : List (List Int)} (h : Good L A T) {s l : Int} (hs : okS A s) (hl : 1 ≤ l) : stepD L (T.map tI) s l = some (stepS L T s l) := by
  unfold stepD
  rcases hs with rfl | ⟨h0, h1⟩
  · rw [if_pos rfl]
    rfl
  · have hT : s < (T.length : Int) := by have := h.t; omega
    have hm := row_of_T (T := T) (k := s.toNat) (by omega)
    have hr := h.r _ hm
    rw [if_neg (by omega)]
    unfold stepS
    rw [if_pos h0]
    by_cases c : l ≤ L
    · rw [if_pos c, if_pos ⟨hl, c⟩, tD_at h0 hT]
      show (atI (List.map PyData.int _) (l - 1)).bind intOf = _
      rw [atI_map, iL_at (r := (T[s.toNat]?).getD []) (x := l - 1) (by omega) (by omega)]
      rfl
    · rw [if_neg c, if_neg fun z => c z.2]
theorem runD_eq {L : Int} {A : List Bool} {T : List (List Int)} (h : Good L A T) : ∀ {w : List Int} {s : Int}, okS A s → (∀ l ∈ w, 1 ≤ l) → runD L (T.map tI) s w = some (runS L T s w)
  | [], s, _, _ => rfl
  | l :: w, s, hs, hw => by
    unfold runD
    rw [if_pos (hw l List.mem_cons_self), stepD_eq h hs (hw l List.mem_cons_self)]
    exact runD_eq h (stepS_ok h hs) fun x hx => hw x (List.mem_cons_of_mem _ hx)
theorem startD_eq (A : List Bool) : startD (A.map PyData.bool) = start0 A := by
  unfold startD start0
  rw [List.length_map]
  by_cases c : 0 < A.length
  · rw [if_pos c, if_pos (by omega)]
  · rw [if_neg c, if_neg (by omega)]
theorem accD_eq {A : List Bool} {s : Int} (hs : okS A s) : accD (A.map PyData.bool) s = some (.bool (accS A s)) := by
  unfold accD
  rcases hs with rfl | ⟨h0, h1⟩
  · rfl
  · rw [if_neg (by omega)]
    obtain ⟨q, e⟩ := atI_some (xs := A) h0 h1
    rw [atI_map, e, accS, if_pos h0, List.getElem?_eq_getElem q]
    rfl
theorem e_accepts {L : Int} {A : List Bool} {T : List (List Int)} (h : Good L A T) {w : List Int} (hw : ∀ l ∈ w, 1 ≤ l) : M_accepts [.sh (mD L A T), .sh (iL w)] = .ok (.sh (.bool (accS A (runS L T (start0 A) w)))) := by
  show (match M_check_machine [.sh (mD L A T)], intsOf (w.map PyData.int) with
    | Res.ok (Val.sh PyData.none), some ns => match runD L (T.map tI) (startD (A.map PyData.bool)) ns with
      | some s => match accD (A.map PyData.bool) s with
        | some d => if flatD d = true then (Res.ok (Val.sh d) : Res Val) else (Res.no : Res Val)
        | none => Res.no
      | none => Res.no
    | _, _ => Res.no) = _
  rw [e_check_machine h, intsOf_map]
  show (match runD L (T.map tI) (startD (A.map PyData.bool)) w with
      | some s => match accD (A.map PyData.bool) s with
        | some d => if flatD d = true then (Res.ok (Val.sh d) : Res Val) else (Res.no : Res Val)
        | none => Res.no
      | none => Res.no) = _
  rw [startD_eq, runD_eq h (start0_ok A) hw]
  show (match accD (A.map PyData.bool) (runS L T (start0 A) w) with
        | some d => if flatD d = true then (Res.ok (Val.sh d) : Res Val) else (Res.no : Res Val)
        | none => Res.no) = _
  rw [accD_eq (runS_ok h (start0_ok A))]
  rfl
theorem len_sum {l : Nat} {A : List Bool} {T : List (List Int)} (h : Good l A T) (k : Nat) : ∀ (ps : List (Int × Int)), (∀ p ∈ ps, okS A p.2) → (ps.map fun p => at0 (waysN A T k) p.2).sum = ((ps.flatMap (gW l A T k)).length : Int)
  | [], _ => rfl
  | p :: ps, hp => by
    rw [List.map_cons, List.sum_cons, len_sum h k ps fun q hq => hp q (List.mem_cons_of_mem _ hq), List.flatMap_cons, List.length_append, accW_len h k (hp p List.mem_cons_self)]
    show _ = (((List.map _ _).length + _ : Nat) : Int)
    rw [List.length_map]
    omega
theorem num_app_turn {l : Nat} {A : List Bool} {T : List (List Int)} (h : Good l A T) {w : List Int} (hw : w.length ≤ 60) (r0 r2 r3 : Option Val) {s x : Int} {i N k : Nat} (h0 : 0 ≤ s) (h1 : s < (A.length : Int)) (x1 : 1 ≤ x) (x2 : x ≤ l) (hk : w.length = i + k + 1) (b10 b11 b12 : Option Val) :
    lp_number_of_word_0 [r0, SL w, r2, r3, some (.sh (tD T)), some (.ow (WD A T w.length)), I N, I s, I i, I x, b10, b11, b12] = .nx [r0, SL w, r2, r3, some (.sh (tD T)), some (.ow (WD A T w.length)), I ((N + ((ldsR ((rowT T s).take (x - 1).toNat)).flatMap (gW l A T k)).length : Nat) : Int), I (stepS l T s x), I i, I x, SL (waysN A T k), some (.sh (tI (rowT T s))), b12] := by
  have hT : s.toNat < T.length := by have := h.t; omega
  have hm := row_of_T hT
  have hr : (rowT T s).length = l := by have := h.r _ hm; unfold rowT; omega
  have h6 := h.l6
  obtain ⟨l1, _⟩ := leads_at h h0 h1
  have hk1 : ((w.length : Nat) : Int) - (i : Int) - 1 = (k : Int) := by omega
  have hc := cutL (a := rowT T s) (i := x - 1) (by omega) (by omega)
  have hl := e_leads (r := (rowT T s).take (x - 1).toNat) (by rw [List.length_take]; omega)
  have hps : ∀ p ∈ ldsR ((rowT T s).take (x - 1).toNat), 0 ≤ p.2 ∧ p.2 < (A.length : Int) := fun p hp => by
    unfold ldsR at hp
    obtain ⟨p1, p2⟩ := List.mem_filter.mp hp
    rw [num_upto] at p1
    obtain ⟨d, hd, rfl⟩ := List.mem_map.mp p1
    have hd := upto_mem.mp hd
    have z : (d - 1).toNat < ((rowT T s).take (x - 1).toNat).length := by omega
    have p2 : ¬ (((rowT T s).take (x - 1).toNat)[(d - 1).toNat]?).getD 0 = -1 := by simpa [up] using p2
    rw [List.getElem?_eq_getElem z] at p2
    have p2 : ¬ ((rowT T s).take (x - 1).toNat)[(d - 1).toNat] = -1 := p2
    have e := h.e _ hm _ (List.mem_of_mem_take (List.getElem_mem z))
    show 0 ≤ (((rowT T s).take (x - 1).toNat)[(d - 1).toNat]?).getD 0 ∧ (((rowT T s).take (x - 1).toNat)[(d - 1).toNat]?).getD 0 < _
    rw [List.getElem?_eq_getElem z]
    refine ⟨?_, e.2⟩
    have e1 := e.1
    show 0 ≤ ((rowT T s).take (x - 1).toNat)[(d - 1).toNat]
    omega
  have hlen : (ldsR ((rowT T s).take (x - 1).toNat)).length ≤ 100000 := by
    unfold ldsR
    refine Nat.le_trans (List.length_filter_le _ _) ?_
    rw [num_len, List.length_take]
    omega
  have ec : comp (bTup (bCons (bName 3) (bCons (bName 12) bNil))) mYes (mOp oIx (mVar 10) (mVar 12)) [r0, SL w, r2, none, some (.sh (tD T)), some (.ow (WD A T w.length)), I N, I s, I i, I x, SL (waysN A T k), some (.sh (tI (rowT T s))), none] ((ldsR ((rowT T s).take (x - 1).toNat)).map pD) [] = .ok (((ldsR ((rowT T s).take (x - 1).toNat)).map fun p => at0 (waysN A T k) p.2).map .int) := by
    rw [List.map_map]
    refine comp_all pD (PyData.int ∘ fun p => at0 (waysN A T k) p.2) (fun p hp => ⟨_, rfl, .sh (.int (at0 (waysN A T k) p.2)), ?_, rfl⟩) hlen
    have q := hps p hp
    walk_at "ev"
    simp only [at0_at (m := waysN A T k) q.1 (by rw [waysN_len h]; exact q.2)]
    walk_at "ev"
  have es := len_sum h k (ldsR ((rowT T s).take (x - 1).toNat)) fun p hp => .inr (hps p hp)
  unfold lp_number_of_word_0
  rw [seqx (ρ' := [r0, SL w, r2, r3, some (.sh (tD T)), some (.ow (WD A T w.length)), I N, I s, I i, I x, SL (waysN A T k), b11, b12])]
  · rw [seqx (ρ' := [r0, SL w, r2, r3, some (.sh (tD T)), some (.ow (WD A T w.length)), I N, I s, I i, I x, SL (waysN A T k), some (.sh (tI (rowT T s))), b12])]
    · rw [seqx (ρ' := [r0, SL w, r2, r3, some (.sh (tD T)), some (.ow (WD A T w.length)), I ((N + ((ldsR ((rowT T s).take (x - 1).toNat)).flatMap (gW l A T k)).length : Nat) : Int), I s, I i, I x, SL (waysN A T k), some (.sh (tI (rowT T s))), b12])]
      · walk_at "ev"
        simp only [iL_at (r := rowT T s) (x := x - 1) (by omega) (by omega)]
        walk_at "ev"
        unfold stepS
        rw [if_pos h0, if_pos ⟨x1, x2⟩]
        rfl
      · walk_at "ev"
        simp only [hc]
        walk_at "ev"
        simp only [hl]
        walk_at "ev"
        simp only [ec]
        walk_at "ev"
        simp only [es]
        (try walk_at "ev")
        (try simp only [Int.natCast_add])
    · walk_at "ev"
      simp only [l1]
      walk_at "ev"
  · walk_at "ev"
    simp only [hk1, wd_at A T (show k ≤ w.length by omega)]
    walk_at "ev"
theorem num_loop {l : Nat} {A : List Bool} {T : List (List Int)} (h : Good l A T) {w : List Int} (hw : w.length ≤ 60) (r0 r2 r3 : Option Val) : ∀ (u : List Int) (s : Int) (i N : Nat) (b8 b9 b10 b11 b12 : Option Val), w.length = i + u.length → okS A s → accS A (runS l T s u) = true →
    ∃ c7 c8 c9 c10 c11, loop (bTup (bCons (bName 8) (bCons (bName 9) bNil))) lp_number_of_word_0 (numbered i (u.map .int)) [r0, SL w, r2, r3, some (.sh (tD T)), some (.ow (WD A T w.length)), I N, I s, b8, b9, b10, b11, b12] = .nx [r0, SL w, r2, r3, some (.sh (tD T)), some (.ow (WD A T w.length)), I ((N + rankN l A T s u : Nat) : Int), c7, c8, c9, c10, c11, b12]
  | [], s, i, N, b8, b9, b10, b11, b12, _, _, _ => ⟨_, _, _, _, _, rfl⟩
  | x :: u, s, i, N, b8, b9, b10, b11, b12, hl, hs, e => by
    rw [List.length_cons] at hl
    have e : accS A (runS l T (stepS l T s x) u) = true := e
    have hd : stepS l T s x ≠ -1 := fun z => by
      rw [z, run_dead] at e
      cases e
    rcases hs with rfl | ⟨h0, h1⟩
    · exact absurd rfl hd
    · have hx : 1 ≤ x ∧ x ≤ l := by
        refine Decidable.byContradiction fun z => hd ?_
        unfold stepS
        rw [if_pos h0, if_neg z]
      have et := num_app_turn h hw r0 r2 r3 (s := s) (x := x) (i := i) (N := N) (k := u.length) h0 h1 hx.1 hx.2 (by omega) b10 b11 b12
      obtain ⟨c7, c8, c9, c10, c11, ih⟩ := num_loop h hw r0 r2 r3 u (stepS l T s x) (i + 1) (N + ((ldsR ((rowT T s).take (x - 1).toNat)).flatMap (gW l A T u.length)).length) (I i) (I x) (SL (waysN A T u.length)) (some (.sh (tI (rowT T s)))) b12 (by omega) (stepS_ok h (.inr ⟨h0, h1⟩)) e
      refine ⟨c7, c8, c9, c10, c11, ?_⟩
      show loop _ lp_number_of_word_0 (PyData.tuple [.int (i : Nat), .int x] :: numbered (i + 1) (u.map .int)) _ = _
      rw [loop_cons (ρ1 := [r0, SL w, r2, r3, some (.sh (tD T)), some (.ow (WD A T w.length)), I N, I s, I i, I x, b10, b11, b12]) rfl et, ih]
      show Out.nx [_, _, _, _, _, _, I ((N + _ + rankN l A T (stepS l T s x) u : Nat) : Int), _, _, _, _, _, _] = Out.nx [_, _, _, _, _, _, I ((N + (_ + rankN l A T (stepS l T s x) u) : Nat) : Int), _, _, _, _, _, _]
      rw [Nat.add_assoc]
def lettersB (l : Int) (w : List Int) : Bool := (w.map fun x => decide (1 ≤ x ∧ x ≤ l)).all id
theorem e_letters {l : Int} (r0 r3 r4 : Option Val) {w : List Int} (hw : w.length ≤ 100000) : comp (bName 9) mYes (mChain oLe oLe (mC (.int 1)) (mVar 9) (mVar 2)) [r0, SL w, I l, r3, r4, none, none, none, none, none, none, none, none] (w.map .int) [] = .ok (w.map fun x => .bool (decide (1 ≤ x ∧ x ≤ l))) := by
  refine comp_all (fun x => PyData.int x) (fun x => .bool (decide (1 ≤ x ∧ x ≤ l))) (fun x hx => ⟨_, rfl, .sh (.bool (decide (1 ≤ x ∧ x ≤ l))), ?_, rfl⟩) hw
  walk_at "ev"
  by_cases c : 1 ≤ x
  · by_cases c2 : x ≤ l
    · simp only [c, c2, decide_true]
      walk_at "ev"
      (try simp only [c2, decide_true])
    · simp only [c, c2, decide_true]
      walk_at "ev"
      (try simp only [c2, decide_false, and_false])
      (try rfl)
  · simp only [c, decide_false, false_and]
    walk_at "ev"
theorem e_number {l : Nat} {A : List Bool} {T : List (List Int)} (h : Good l A T) {w : List Int} (hw : w.length ≤ 60) (hl : ∀ x ∈ w, 1 ≤ x ∧ x ≤ (l : Int)) : M_number_of_word [.sh (mD l A T), .sh (iL w)] = if accS A (runS l T (start0 A) w) = true then .ok (.sh (.int (rankN l A T (start0 A) w : Nat))) else .ex "NoWord" [] := by
  have eall : (w.map fun x => decide (1 ≤ x ∧ x ≤ (l : Int))).all id = true := all_true fun x hx => decide_eq_true (hl x hx)
  rw [M_number_of_word_eq]
  unfold ms_number_of_word
  refine seq_step (ρ' := [some (.sh (mD l A T)), SL w, none, none, none, none, none, none, none, none, none, none, none]) ?_ ?_
  · walk_at "ev"
    simp only [e_check_machine h]
    walk_at "ev"
  refine seq_step (ρ' := [some (.sh (mD l A T)), SL w, none, none, none, none, none, none, none, none, none, none, none]) ?_ ?_
  · walk_at "ev"
    simp only [e_size hw]
    walk_at "ev"
  refine seq_step (ρ' := [some (.sh (mD l A T)), SL w, I l, some (.sh (aD A)), some (.sh (tD T)), none, none, none, none, none, none, none, none]) (by walk_at "ev") ?_
  refine seq_step (ρ' := [some (.sh (mD l A T)), SL w, I l, some (.sh (aD A)), some (.sh (tD T)), none, none, none, none, none, none, none, none]) ?_ ?_
  · walk_at "ev"
    simp only [e_letters (l := (l : Int)) _ _ _ (show w.length ≤ 100000 by omega), cAll_map, eall]
    walk_at "ev"
  by_cases c : accS A (runS l T (start0 A) w) = true
  · rw [if_pos c]
    refine seq_step (ρ' := [some (.sh (mD l A T)), SL w, I l, some (.sh (aD A)), some (.sh (tD T)), none, none, none, none, none, none, none, none]) ?_ ?_
    · walk_at "ev"
      simp only [e_accepts h (w := w) fun x hx => (hl x hx).1, c]
      walk_at "ev"
    refine seq_step (ρ' := [some (.sh (mD l A T)), SL w, I l, some (.sh (aD A)), some (.sh (tD T)), some (.ow (WD A T w.length)), none, none, none, none, none, none, none]) ?_ ?_
    · walk_at "ev"
      simp only [e_tails h w.length hw]
      walk_at "ev"
    refine seq_step (ρ' := [some (.sh (mD l A T)), SL w, I l, some (.sh (aD A)), some (.sh (tD T)), some (.ow (WD A T w.length)), I 0, none, none, none, none, none, none]) (by walk_at "ev") ?_
    have s0 : start0 A = 0 := by
      unfold start0
      refine if_pos (Decidable.byContradiction fun z => ?_)
      unfold start0 at c
      rw [if_neg z, run_dead] at c
      cases c
    refine seq_step (ρ' := [some (.sh (mD l A T)), SL w, I l, some (.sh (aD A)), some (.sh (tD T)), some (.ow (WD A T w.length)), I 0, I 0, none, none, none, none, none]) (by walk_at "ev") ?_
    obtain ⟨c7, c8, c9, c10, c11, el⟩ := num_loop h hw (some (.sh (mD l A T))) (I l) (some (.sh (aD A))) w (start0 A) 0 0 none none none none none (by omega) (start0_ok A) c
    rw [s0] at el
    rw [s0]
    refine seq_step (ρ' := [some (.sh (mD l A T)), SL w, I l, some (.sh (aD A)), some (.sh (tD T)), some (.ow (WD A T w.length)), I ((0 + rankN l A T 0 w : Nat) : Int), c7, c8, c9, c10, c11, none]) ?_ ?_
    · walk_at "ev"
      exact el
    · walk_at "ev"
      rw [Nat.zero_add]
  · rw [if_neg c]
    have c' : accS A (runS l T (start0 A) w) = false := by simpa using c
    walk_at "ev"
    simp only [e_accepts h (w := w) fun x hx => (hl x hx).1, c']
    walk_at "ev"
theorem e_number_letters {l : Nat} {A : List Bool} {T : List (List Int)} (h : Good l A T) {w : List Int} (hw : w.length ≤ 60) (hl : lettersB l w = false) : M_number_of_word [.sh (mD l A T), .sh (iL w)] = .ex "NotWord" [] := by
  unfold lettersB at hl
  rw [M_number_of_word_eq]
  unfold ms_number_of_word
  refine seq_step (ρ' := [some (.sh (mD l A T)), SL w, none, none, none, none, none, none, none, none, none, none, none]) ?_ ?_
  · walk_at "ev"
    simp only [e_check_machine h]
    walk_at "ev"
  refine seq_step (ρ' := [some (.sh (mD l A T)), SL w, none, none, none, none, none, none, none, none, none, none, none]) ?_ ?_
  · walk_at "ev"
    simp only [e_size hw]
    walk_at "ev"
  refine seq_step (ρ' := [some (.sh (mD l A T)), SL w, I l, some (.sh (aD A)), some (.sh (tD T)), none, none, none, none, none, none, none, none]) (by walk_at "ev") ?_
  walk_at "ev"
  simp only [e_letters (l := (l : Int)) _ _ _ (show w.length ≤ 100000 by omega), cAll_map, hl]
  walk_at "ev"
theorem e_number_size {l : Nat} {A : List Bool} {T : List (List Int)} (h : Good l A T) {w : List Int} (hw : 60 < w.length) : M_number_of_word [.sh (mD l A T), .sh (iL w)] = .ex "NotWord" [] := by
  rw [M_number_of_word_eq]
  unfold ms_number_of_word
  refine seq_step (ρ' := [some (.sh (mD l A T)), SL w, none, none, none, none, none, none, none, none, none, none, none]) ?_ ?_
  · walk_at "ev"
    simp only [e_check_machine h]
    walk_at "ev"
  walk_at "ev"
  simp only [e_size_no hw]
  walk_at "ev"
/-! lists in a list of lists -/
theorem canLay_LL : ∀ X : List (List Int), PyData.canLayAll0 (LL X) = true
  | [] => by simp [PyData.canLayAll0]
  | x :: X => by
    show PyData.canLayAll0 (iL x :: LL X) = true
    have h1 : PyData.canLay0 (iL x) = true := by
      rw [PyData.canLay0]
      exact canLay_iL x
    rw [PyData.canLayAll0, canLay_LL X, h1]
    rfl
theorem depth_LL : ∀ X : List (List Int), PyData.depthAll (LL X) ≤ 1
  | [] => by simp [PyData.depthAll]
  | x :: X => by
    show PyData.depthAll (iL x :: LL X) ≤ 1
    have h1 : PyData.depth (iL x) = 1 := by rw [PyData.depth, depth_iL x]
    have h2 := depth_LL X
    rw [PyData.depthAll, h1]
    omega
theorem shaped_LL (X : List (List Int)) : SeqAt.shaped (.list (LL X)) = true := by
  unfold SeqAt.shaped
  have h1 : PyData.canLay0 (.list (LL X)) = true := by
    rw [PyData.canLay0]
    exact canLay_LL X
  have h2 : PyData.depth (.list (LL X)) ≤ 64 := by
    have := depth_LL X
    rw [PyData.depth]
    omega
  rw [h1, decide_eq_true h2]
  rfl
theorem any_LL (x : List Int) : ∀ X : List (List Int), ((LL X).any fun z => PyData.eqv z (iL x)) = decide (x ∈ X)
  | [] => rfl
  | u :: X => by
    show ((iL u :: LL X).any fun z => PyData.eqv z (iL x)) = _
    rw [List.any_cons, any_LL x X, eqv_iL]
    by_cases h : u = x
    · have z : x ∈ u :: X := by rw [h]; exact List.mem_cons_self
      rw [decide_eq_true h, decide_eq_true z]
      rfl
    · rw [decide_eq_false h, Bool.false_or]
      have q : (x ∈ u :: X) ↔ x ∈ X := ⟨fun m => by
        rcases List.mem_cons.mp m with e | e
        · exact absurd e.symm h
        · exact e, fun m => List.mem_cons_of_mem _ m⟩
      by_cases m : x ∈ X
      · rw [decide_eq_true m, decide_eq_true (q.mpr m)]
      · rw [decide_eq_false m, decide_eq_false fun z => m (q.mp z)]
theorem firstAt_LL : ∀ {X : List (List Int)} {p : Nat} {v : List Int}, X.Nodup → X[p]? = some v → firstAt (iL v) (LL X) = some p
  | [], _, _, _, h => by simp at h
  | u :: X, 0, v, _, h => by
    have e : u = v := by simpa using h
    subst e
    show firstAt (iL u) (iL u :: LL X) = _
    unfold firstAt
    rw [eqv_iL, decide_eq_true rfl]
    rfl
  | u :: X, p + 1, v, nd, h => by
    have nd' := List.nodup_cons.mp nd
    have h : X[p]? = some v := by simpa using h
    have ne : ¬ u = v := fun e => nd'.1 (e ▸ List.mem_of_getElem? h)
    show firstAt (iL v) (iL u :: LL X) = _
    unfold firstAt
    rw [eqv_iL, decide_eq_false ne, firstAt_LL nd'.2 h]
    rfl
theorem in_LL (x : List Int) (X : List (List Int)) : oInD (.bw (x.map .int)) (.bw (LL X)) = some (.sh (.bool (decide (x ∈ X)))) := by
  show (if (SeqAt.shaped (iL x) && SeqAt.shaped (.list (LL X))) = true then some (Val.sh (.bool ((LL X).any fun z => PyData.eqv z (iL x)))) else none) = _
  rw [shaped_iL, shaped_LL, any_LL]
  rfl
theorem index_LL {x : List Int} {X : List (List Int)} {p : Nat} (nd : X.Nodup) (h : X[p]? = some x) : kIndexD (.bw (LL X)) [.bw (x.map .int)] = some (.sh (.int (p : Nat))) := by
  show (if (SeqAt.shaped (iL x) && SeqAt.shaped (.list (LL X))) = true then (firstAt (iL x) (LL X)).map fun j => Val.sh (.int (j : Nat)) else none) = _
  rw [shaped_iL, shaped_LL, firstAt_LL nd h]
  rfl
theorem da1 : dec_NotMachine "NotMachine" = some true := rfl
theorem da2 : dec_NotMachine "BadNumber" = some false := rfl
theorem da3 : dec_NotMachine "NotWord" = some false := rfl
theorem da4 : dec_NotMachine "NoWord" = some false := rfl
theorem db2 : dec_BadNumber "BadNumber" = some true := rfl
theorem db3 : dec_BadNumber "NotWord" = some false := rfl
theorem db4 : dec_BadNumber "NoWord" = some false := rfl
theorem dd3 : dec_NotWord "NotWord" = some true := rfl
theorem dd4 : dec_NotWord "NoWord" = some false := rfl
theorem de4 : dec_NoWord "NoWord" = some true := rfl
theorem told_num {d e : D} {r : Int} (h : M_number_of_word [.sh d, .sh e] = .ok (.sh (.int r))) : M__law_told [.sh d, .sh e, .sh .none] = .ok (.sh (.int r)) := by
  rw [M__law_told_eq]
  unfold ms__law_told
  walk_at "ev"
  simp only [h]
  walk_at "ev"
theorem told_letters {d e : D} (h : M_number_of_word [.sh d, .sh e] = .ex "NotWord" []) : M__law_told [.sh d, .sh e, .sh .none] = .ok (.sh (.str "letters")) := by
  rw [M__law_told_eq]
  unfold ms__law_told
  walk_at "ev"
  simp only [h]
  walk_at "ev"
  simp only [da3, db3, dd3]
  walk_at "ev"
theorem told_noword {d e : D} (h : M_number_of_word [.sh d, .sh e] = .ex "NoWord" []) : M__law_told [.sh d, .sh e, .sh .none] = .ok (.sh (.str "none")) := by
  rw [M__law_told_eq]
  unfold ms__law_told
  walk_at "ev"
  simp only [h]
  walk_at "ev"
  simp only [da4, db4, dd4, de4]
  walk_at "ev"
theorem told_with {d : D} {k j : Int} {v : List Int} (h : M_word_with_number [.sh d, .sh (.int k), .sh (.int j)] = .ok (.ow (v.map .int))) : M__law_told [.sh d, .sh (.int k), .sh (.int j)] = .ok (.ow (v.map .int)) := by
  rw [M__law_told_eq]
  unfold ms__law_told
  walk_at "ev"
  simp only [h, all_flat]
  walk_at "ev"
theorem told_with_no {d : D} {k j : Int} (h : M_word_with_number [.sh d, .sh (.int k), .sh (.int j)] = .ex "NoWord" []) : M__law_told [.sh d, .sh (.int k), .sh (.int j)] = .ok (.sh (.str "none")) := by
  rw [M__law_told_eq]
  unfold ms__law_told
  walk_at "ev"
  simp only [h]
  walk_at "ev"
  simp only [da4, db4, dd4, de4]
  walk_at "ev"
theorem told_with_num {d : D} {k j : Int} (h : M_word_with_number [.sh d, .sh (.int k), .sh (.int j)] = .ex "BadNumber" []) : M__law_told [.sh d, .sh (.int k), .sh (.int j)] = .ok (.sh (.str "number")) := by
  rw [M__law_told_eq]
  unfold ms__law_told
  walk_at "ev"
  simp only [h]
  walk_at "ev"
  simp only [da2, db2]
  walk_at "ev"
theorem told_with_mach {d : D} {k j : Int} (h : M_check_machine [.sh d] = .ex "NotMachine" []) : M__law_told [.sh d, .sh (.int k), .sh (.int j)] = .ok (.sh (.str "machine")) := by
  have eb : M_word_with_number [.sh d, .sh (.int k), .sh (.int j)] = .ex "NotMachine" [] := by
    rw [M_word_with_number_eq]
    unfold ms_word_with_number
    walk_at "ev"
    simp only [h]
    walk_at "ev"
  rw [M__law_told_eq]
  unfold ms__law_told
  walk_at "ev"
  simp only [eb]
  walk_at "ev"
  simp only [da1]
  walk_at "ev"
theorem mach_seven : M_check_machine [.sh (.tuple [.int 7, .tuple [], .tuple []])] = .ex "NotMachine" [] := by
  have e : M_is_machine [.sh (.tuple [.int 7, .tuple [], .tuple []])] = .ok (.sh (.bool false)) := by
    rw [M_is_machine_eq]
    unfold ms_is_machine
    walk_at "ev"
    (try simp only [show ¬ (7 : Int) ≤ 6 from by decide, decide_false])
    (try walk_at "ev")
  rw [M_check_machine_eq]
  unfold ms_check_machine
  walk_at "ev"
  simp only [e]
  walk_at "ev"
theorem wd_small : ∀ (k : Nat) {l : Nat} {w : List Int}, w ∈ wordsN l k → ∀ v ∈ w, 1 ≤ v ∧ v ≤ l
  | 0, l, w, h, v, hv => by
    have : w = [] := by simpa [wordsN] using h
    subst this
    cases hv
  | k + 1, l, w, h, v, hv => by
    unfold wordsN at h
    obtain ⟨u, hu, hw⟩ := List.mem_flatMap.mp h
    obtain ⟨c, hc, rfl⟩ := List.mem_map.mp hw
    have hc := upto_mem.mp hc
    rcases List.mem_append.mp hv with z | z
    · exact wd_small k hu v z
    · have z : v = c := by simpa using z
      omega
theorem accW_words {l : Nat} {A : List Bool} {T : List (List Int)} {s : Int} {k i : Nat} {w : List Int} (e : (accW l A T s k)[i]? = some w) : w.length = k ∧ ∀ v ∈ w, 1 ≤ v ∧ v ≤ (l : Int) := by
  have hm := List.mem_of_getElem? e
  unfold accW at hm
  have h1 := (List.mem_filter.mp hm).1
  rw [← wordsN_R] at h1
  exact ⟨wd_len k h1, wd_small k h1⟩
theorem acc_words (l : Nat) (A : List Bool) (T : List (List Int)) (k : Nat) : ((wordsN l k).filter fun w => accS A (runS l T (start0 A) w)) = accW l A T (start0 A) k := by
  rw [wordsN_R]
  rfl
/-- the i-th word and its number -/
theorem told_both {l : Nat} {A : List Bool} {T : List (List Int)} (h : Good l A T) {k i : Nat} {w : List Int} (hk : k ≤ 60) (e : (accW l A T (start0 A) k)[i]? = some w) :
    M__law_told [.sh (mD l A T), .sh (.int k), .sh (.int i)] = .ok (.ow (w.map .int)) ∧ M__law_told [.sh (mD l A T), .sh (iL w), .sh .none] = .ok (.sh (.int i)) := by
  obtain ⟨h1, h2⟩ := accW_words e
  obtain ⟨_, h3, h4⟩ := rank_of h (start0_ok A) e
  refine ⟨told_with (e_with h hk e), told_num ?_⟩
  rw [e_number h (w := w) (by omega) h2, if_pos h3, h4]
theorem shows_int {v : Int} (h : v.natAbs < 10 ^ 40) : shows (.int v) = true := by
  have z : v.natAbs.log2 < 1920 := by
    by_cases z : v.natAbs = 0
    · rw [z]
      decide
    · have h2 : v.natAbs.log2 < 200 := (Nat.log2_lt z).mpr (Nat.lt_of_lt_of_le h (by decide))
      omega
  have zl : (PySem.Str.ofString (toString v)).length ≤ 41 := by
    rw [PySem.ofString_length]
    exact int_text_length_le10 (k := 40) (by decide) h
  have e1 : PyData.showable (.int v) = true := by rw [PyData.showable]; exact decide_eq_true z
  have e2 : PyData.hasDict (.int v) = false := by rw [PyData.hasDict]
  have e3 : PyData.depth (.int v) ≤ 60 := by rw [PyData.depth]; decide
  have e4 : (PyData.shown (.int v)).length ≤ 100000 := by
    rw [PyData.shown]
    exact Nat.le_trans zl (by decide)
  unfold shows
  rw [e1, e2, decide_eq_true e3, decide_eq_true e4]
  rfl
theorem way_bound {l : Nat} {A : List Bool} {T : List (List Int)} (h : Good l A T) (hl : l ≤ 3) {k : Nat} (hk : k ≤ 60) : (wayAt A T k).natAbs < 10 ^ 40 := by
  have z := words_count h k
  have z1 := List.length_filter_le (fun w => accS A (runS l T (start0 A) w)) (wordsN l k)
  rw [wordsN_len] at z1
  have z2 : l ^ k ≤ 3 ^ 60 := Nat.le_trans (Nat.pow_le_pow_left hl k) (Nat.pow_le_pow_right (by decide) hk)
  have z3 : (3 : Nat) ^ 60 < 10 ^ 40 := by decide
  rw [← z, Int.natAbs_natCast]
  omega
theorem shS : shows (.str "none") = true := by decide +kernel
theorem law_turn0 {l : Nat} {A : List Bool} {T : List (List Int)} (h : Good l A T) (r0 r5 r6 r7 r8 r9 r10 r11 r12 : Option Val) {k i : Nat} (hk : k ≤ 4) (hl : l ≤ 3) {w : List Int} (e : (accW l A T (start0 A) k)[i]? = some w) (hi : i ≤ 1000) :
    lp_law_0 [r0, some (.sh (mD l A T)), I k, some (.ow (LL (accW l A T (start0 A) k))), I i, r5, r6, r7, r8, r9, r10, r11, r12] = .nx [r0, some (.sh (mD l A T)), I k, some (.ow (LL (accW l A T (start0 A) k))), I i, r5, r6, r7, r8, r9, r10, r11, r12] := by
  obtain ⟨t1, t2⟩ := told_both h (show k ≤ 60 by omega) e
  obtain ⟨w1, w2⟩ := accW_words e
  have sw : shows (iL w) = true := shows_iL (fun v hv => by have := w2 v hv; omega) (by omega)
  have si : shows (.int (i : Int)) = true := shows_int (by rw [Int.natAbs_natCast]; exact Nat.lt_of_le_of_lt hi (by decide))
  have ea : atI (LL (accW l A T (start0 A) k)) (i : Int) = some (iL w) := by
    have hl := (List.getElem?_eq_some_iff.mp e).1
    unfold LL
    rw [atI_map]
    obtain ⟨q, e2⟩ := atI_some (xs := accW l A T (start0 A) k) (i := (i : Int)) (by omega) (by omega)
    rw [e2]
    have z := (List.getElem?_eq_some_iff.mp e).2
    exact congrArg (fun y => some (iL y)) z
  unfold lp_law_0
  walk_at "ev"
  simp only [t1, all_flat]
  walk_at "ev"
  simp only [cRepr_ow sw]
  walk_at "ev"
  simp only [ea]
  walk_at "ev"
  simp only [cRepr_sh sw]
  walk_at "ev"
  simp only [t2]
  walk_at "ev"
  simp only [cRepr_D (a := .sh (.int (i : Int))) rfl si]
  walk_at "ev"
theorem law_loop0 {l : Nat} {A : List Bool} {T : List (List Int)} (h : Good l A T) (r0 r5 r6 r7 r8 r9 r10 r11 r12 : Option Val) {k : Nat} (hk : k ≤ 4) (hl : l ≤ 3) : ∀ (m i : Nat) (b4 : Option Val), i + m ≤ (accW l A T (start0 A) k).length → i + m ≤ 1000 →
    ∃ c4, loop (bName 4) lp_law_0 ((upto (i : Int) m).map .int) [r0, some (.sh (mD l A T)), I k, some (.ow (LL (accW l A T (start0 A) k))), b4, r5, r6, r7, r8, r9, r10, r11, r12] = .nx [r0, some (.sh (mD l A T)), I k, some (.ow (LL (accW l A T (start0 A) k))), c4, r5, r6, r7, r8, r9, r10, r11, r12]
  | 0, i, b4, _, _ => ⟨b4, rfl⟩
  | m + 1, i, b4, h1, h2 => by
    obtain ⟨c4, ih⟩ := law_loop0 h r0 r5 r6 r7 r8 r9 r10 r11 r12 hk hl m (i + 1) (I i) (by omega) (by omega)
    refine ⟨c4, ?_⟩
    have e : (accW l A T (start0 A) k)[i]? = some ((accW l A T (start0 A) k)[i]'(by omega)) := List.getElem?_eq_getElem (by omega)
    rw [upto_succ, List.map_cons, loop_cons (ρ1 := [r0, some (.sh (mD l A T)), I k, some (.ow (LL (accW l A T (start0 A) k))), I i, r5, r6, r7, r8, r9, r10, r11, r12]) rfl (law_turn0 h r0 r5 r6 r7 r8 r9 r10 r11 r12 hk hl e (by omega))]
    exact ih
theorem law_turn1 {d : D} (r0 r2 r3 r4 r5 r6 r8 r9 r10 r11 r12 : Option Val) {w : List Int} (e : M_number_of_word [.sh d, .sh (iL w)] = .ex "NotWord" []) :
    lp_law_1 [r0, some (.sh d), r2, r3, r4, r5, r6, some (.sh (iL w)), r8, r9, r10, r11, r12] = .nx [r0, some (.sh d), r2, r3, r4, r5, r6, some (.sh (iL w)), r8, r9, r10, r11, r12] := by
  have t := told_letters e
  unfold lp_law_1
  walk_at "ev"
  simp only [t]
  walk_at "ev"
theorem law_loop1 {d : D} (r0 r2 r3 r4 r5 r6 r8 r9 r10 r11 r12 : Option Val) : ∀ (ws : List (List Int)) (b7 : Option Val), (∀ w ∈ ws, M_number_of_word [.sh d, .sh (iL w)] = .ex "NotWord" []) →
    ∃ c7, loop (bName 7) lp_law_1 (LL ws) [r0, some (.sh d), r2, r3, r4, r5, r6, b7, r8, r9, r10, r11, r12] = .nx [r0, some (.sh d), r2, r3, r4, r5, r6, c7, r8, r9, r10, r11, r12]
  | [], b7, _ => ⟨b7, rfl⟩
  | w :: ws, b7, h => by
    obtain ⟨c7, ih⟩ := law_loop1 r0 r2 r3 r4 r5 r6 r8 r9 r10 r11 r12 ws (some (.sh (iL w))) fun u hu => h u (List.mem_cons_of_mem _ hu)
    refine ⟨c7, ?_⟩
    show loop (bName 7) lp_law_1 (iL w :: LL ws) _ = _
    rw [loop_cons (ρ1 := [r0, some (.sh d), r2, r3, r4, r5, r6, some (.sh (iL w)), r8, r9, r10, r11, r12]) rfl (law_turn1 r0 r2 r3 r4 r5 r6 r8 r9 r10 r11 r12 (h w List.mem_cons_self))]
    exact ih
theorem lettersB_no {l : Int} {w : List Int} {x : Int} (hx : x ∈ w) (h : ¬ (1 ≤ x ∧ x ≤ l)) : lettersB l w = false := by
  unfold lettersB
  rw [List.all_map, List.all_eq_false]
  exact ⟨x, hx, by show ¬ decide _ = true; rw [decide_eq_false h]; exact Bool.false_ne_true⟩
theorem says : ∀ ns : List Int, ns.length ≤ 63 → M_law [.fz (ns.map .int)] = .ok (.sh (.bool true)) := by
  intro ns hns
  obtain ⟨c0, h0⟩ := e_cell ns 0 (by decide)
  obtain ⟨c1, h1⟩ := e_cell ns 1 (by decide)
  obtain ⟨c2, h2⟩ := e_cell ns 2 (by decide)
  obtain ⟨c3, h3⟩ := e_cell ns 3 (by decide)
  obtain ⟨c4, h4⟩ := e_cell ns 4 (by decide)
  obtain ⟨c5, h5⟩ := e_cell ns 5 (by decide)
  obtain ⟨c6, h6⟩ := e_cell ns 6 (by decide)
  have b1 := mod_b (c1 / 5) (show (0 : Int) < 3 by decide)
  obtain ⟨A, T, hm, hg, hA4⟩ := e_law_machine c0 c1 (1 + c1 / 5 % 3) (by omega) (by omega)
  obtain ⟨l, hl⟩ := Int.eq_ofNat_of_zero_le (show 0 ≤ 1 + c1 / 5 % 3 by omega)
  rw [hl] at hm hg
  have hl3 : l ≤ 3 := by omega
  have hl1 : 1 ≤ l := by omega
  have b2 := mod_b c2 (show (0 : Int) < 5 by decide)
  obtain ⟨k, hk⟩ := Int.eq_ofNat_of_zero_le b2.1
  have hk4 : k ≤ 4 := by omega
  have b3 := mod_b c3 (show (0 : Int) < 9 by decide)
  obtain ⟨a, ha⟩ := Int.eq_ofNat_of_zero_le b3.1
  have b5 := mod_b c5 (show (0 : Int) < 61 by decide)
  obtain ⟨n, hn⟩ := Int.eq_ofNat_of_zero_le b5.1
  have hn60 : n ≤ 60 := by omega
  obtain ⟨vs, ev, hvl, hv⟩ := e_values c4 97 k (by omega) (by decide) (by decide)
  let wo : List Int := vs.map fun v => 1 + v % (l : Int)
  have hwl : wo.length = k := by rw [List.length_map, hvl]
  have hwo : ∀ x ∈ wo, 1 ≤ x ∧ x ≤ (l : Int) := fun x hx => by
    obtain ⟨u, _, rfl⟩ := List.mem_map.mp hx
    have := mod_b u (show (0 : Int) < (l : Int) by omega)
    show 1 ≤ 1 + u % (l : Int) ∧ 1 + u % (l : Int) ≤ l
    omega
  have hsmall := wordsN_small hl3 (show k ≤ 5 by omega)
  have hac : (accW l A T (start0 A) k).length ≤ 243 := by
    rw [← acc_words]
    exact Nat.le_trans (List.length_filter_le _ _) hsmall
  have eo : ∀ r4 : Option Val, comp (bName 12) mYes (mOp oAddT (mC (.int 1)) (mOp oMod (mVar 12) (mOp oIx (mVar 1) (mC (.int 0))))) [some (.fz (ns.map .int)), some (.sh (mD l A T)), I k, some (.ow (LL (accW l A T (start0 A) k))), r4, none, none, none, none, none, none, none, none] (vs.map .int) [] = .ok (wo.map .int) := by
    intro r4
    show _ = Res.ok ((vs.map _).map PyData.int)
    rw [List.map_map]
    refine comp_all (xs := vs) (fun x => PyData.int x) (PyData.int ∘ fun v => 1 + v % (l : Int)) ?_ (by omega)
    intro v _
    refine ⟨_, rfl, .sh (.int (1 + v % (l : Int))), ?_, rfl⟩
    walk_at "ev"
    simp only [show (0 : Int) < (l : Int) from by omega, if_true]
    walk_at "ev"
  generalize hX : accW l A T (start0 A) k = X at hac eo
  -- what is told of the other word
  have hother : ∃ r : Val, (∃ d, r = .sh d ∧ shows d = true) ∧ M__law_told [.sh (mD l A T), .sh (iL wo), .sh .none] = .ok r ∧
      ∀ r4 : Option Val, (mSet 6 (mIfE (mTest (mOp oInD (mVar 5) (mVar 3))) (mMeth "list" kIndexD (mVar 3) (mCons (mVar 5) mNil)) (mC (.str "none")))) [some (.fz (ns.map .int)), some (.sh (mD l A T)), I k, some (.ow (LL X)), r4, OL wo, none, none, none, none, none, none, none] = .nx [some (.fz (ns.map .int)), some (.sh (mD l A T)), I k, some (.ow (LL X)), r4, OL wo, some r, none, none, none, none, none, none] := by
    have en := e_number hg (w := wo) (by omega) hwo
    by_cases c : accS A (runS l T (start0 A) wo) = true
    · rw [if_pos c] at en
      have er := rank_at hg wo _ (start0_ok A) c
      rw [hwl, hX] at er
      have hr := (List.getElem?_eq_some_iff.mp er).1
      have hmem : wo ∈ X := List.mem_of_getElem? er
      have ei := index_LL (by rw [← hX]; exact accW_nodup l A T _ k) er
      refine ⟨.sh (.int (rankN l A T (start0 A) wo : Nat)), ⟨_, rfl, shows_int (by rw [Int.natAbs_natCast]; exact Nat.lt_of_lt_of_le hr (Nat.le_trans hac (by decide)))⟩, told_num en, fun r4 => ?_⟩
      walk_at "ev"
      simp only [in_LL, decide_eq_true hmem]
      walk_at "ev"
      simp only [tyOf, lit, ei]
      walk_at "ev"
      rw [if_pos ⟨rfl, rfl⟩]
    · rw [if_neg c] at en
      have hmem : ¬ wo ∈ X := fun hm => by
        rw [← hX] at hm
        unfold accW at hm
        exact c (List.mem_filter.mp hm).2
      refine ⟨.sh (.str "none"), ⟨_, rfl, shS⟩, told_noword en, fun r4 => ?_⟩
      walk_at "ev"
      simp only [in_LL, decide_eq_false hmem]
      walk_at "ev"
  obtain ⟨ro, ⟨dO, rfl, sO⟩, tO, eO⟩ := hother
  -- what is told of bad words
  have hbad : ∀ w ∈ [wo ++ [0], wo ++ [(l : Int) + 1], List.replicate 61 1, [-1] ++ wo], M_number_of_word [.sh (mD l A T), .sh (iL w)] = .ex "NotWord" [] := fun w hw => by
    simp only [List.mem_cons, List.not_mem_nil, or_false] at hw
    rcases hw with rfl | rfl | rfl | rfl
    · exact e_number_letters hg (by rw [List.length_append, List.length_singleton]; omega) (lettersB_no (x := 0) (by simp) (by omega))
    · exact e_number_letters hg (by rw [List.length_append, List.length_singleton]; omega) (lettersB_no (x := (l : Int) + 1) (by simp) (by omega))
    · exact e_number_size hg (by rw [List.length_replicate]; decide)
    · exact e_number_letters hg (by rw [List.length_append, List.length_singleton]; omega) (lettersB_no (x := -1) (by simp) (by omega))
  have t1 := told_with_no (e_with_no hg (k := k) (j := X.length + a) (by omega) (by rw [hX]; omega))
  have t2 := told_with_num (e_with_neg hg (k := k) (j := -1) (by omega) (by decide))
  have t3 := told_with_num (e_with_len hg (k := -1) (j := 0) (.inl (by decide)))
  have t4 := told_with_num (e_with_len hg (k := 61) (j := 0) (.inr (by decide)))
  have t5 := told_with_mach (k := -1) (j := -1) mach_seven
  obtain ⟨d4, el0⟩ := law_loop0 hg (some (.fz (ns.map .int))) none none none none none none none none hk4 hl3 (min X.length 20) 0 none (by rw [hX]; omega) (by omega)
  rw [hX] at el0
  obtain ⟨d7, el1⟩ := law_loop1 (d := mD l A T) (some (.fz (ns.map .int))) (I k) (some (.ow (LL X))) d4 (OL wo) (some (.sh dO)) none none none none none _ none hbad
  rw [M_law_eq]
  unfold ms_law
  refine seq_step (ρ' := [some (.fz (ns.map .int)), some (.sh (mD l A T)), none, none, none, none, none, none, none, none, none, none, none]) ?_ ?_
  · walk_at "ev"
    simp only [h0, h1]
    walk_at "ev"
    rw [if_pos (show Nat.blt 0 (Int.toNat 5) = true ∧ (Int.toNat 5).blt 1073741824 = true from by decide)]
    walk_at "ev"
    (try simp only [show (0 : Int) < 3 from by decide, if_true])
    walk_at "ev"
    simp only [hl, hm]
    walk_at "ev"
  refine seq_step (ρ' := [some (.fz (ns.map .int)), some (.sh (mD l A T)), I k, none, none, none, none, none, none, none, none, none, none]) ?_ ?_
  · walk_at "ev"
    simp only [h2]
    walk_at "ev"
    simp only [hk]
  refine seq_step (ρ' := [some (.fz (ns.map .int)), some (.sh (mD l A T)), I k, some (.ow (LL X)), none, none, none, none, none, none, none, none, none]) ?_ ?_
  · walk_at "ev"
    simp only [e_law_words hg hl3 (show k ≤ 5 by omega), acc_words, hX]
    walk_at "ev"
  refine seq_step (ρ' := [some (.fz (ns.map .int)), some (.sh (mD l A T)), I k, some (.ow (LL X)), d4, none, none, none, none, none, none, none, none]) ?_ ?_
  · have z0 : (if (20 : Int) < (X.length : Int) then (20 : Int) else (X.length : Int)) = ((min X.length 20 : Nat) : Int) := by
      split <;> omega
    walk_at "ev"
    simp only [z0]
    walk_at "ev"
    simp only [show min X.length 20 ≤ 1000000 from by omega, if_true]
    (try walk_at "ev")
    exact el0
  refine seq_step (ρ' := [some (.fz (ns.map .int)), some (.sh (mD l A T)), I k, some (.ow (LL X)), d4, none, none, none, none, none, none, none, none]) ?_ ?_
  · walk_at "ev"
    simp only [h3]
    walk_at "ev"
    simp only [ha]
    walk_at "ev"
    simp only [show (X.length : Int) + (a : Int) = ((X.length + a : Nat) : Int) from by omega, t1]
    walk_at "ev"
  refine seq_step (ρ' := [some (.fz (ns.map .int)), some (.sh (mD l A T)), I k, some (.ow (LL X)), d4, OL wo, none, none, none, none, none, none, none]) ?_ ?_
  · walk_at "ev"
    simp only [h4]
    walk_at "ev"
    simp only [ev, all_flat]
    walk_at "ev"
    simp only [eo d4]
    walk_at "ev"
  refine seq_step (eO d4) ?_
  refine seq_step (ρ' := [some (.fz (ns.map .int)), some (.sh (mD l A T)), I k, some (.ow (LL X)), d4, OL wo, some (.sh dO), none, none, none, none, none, none]) ?_ ?_
  · walk_at "ev"
    simp only [tO]
    walk_at "ev"
    simp only [cRepr_D (a := .sh dO) rfl sO]
    walk_at "ev"
  refine seq_step (ρ' := [some (.fz (ns.map .int)), some (.sh (mD l A T)), I k, some (.ow (LL X)), d4, OL wo, some (.sh dO), d7, none, none, none, none, none]) ?_ ?_
  · walk_at "ev"
    simp only [show wo.length ≤ 99999 from by omega, show 1 + wo.length ≤ 100000 from by omega, if_true]
    walk_at "ev"
    exact el1
  refine seq_step (ρ' := [some (.fz (ns.map .int)), some (.sh (mD l A T)), I k, some (.ow (LL X)), d4, OL wo, some (.sh dO), d7, none, none, none, none, none]) ?_ ?_
  · walk_at "ev"
    simp only [t2]
    walk_at "ev"
    simp only [t3]
    walk_at "ev"
  refine seq_step (ρ' := [some (.fz (ns.map .int)), some (.sh (mD l A T)), I k, some (.ow (LL X)), d4, OL wo, some (.sh dO), d7, none, none, none, none, none]) ?_ ?_
  · walk_at "ev"
    simp only [t4]
    walk_at "ev"
    simp only [t5]
    walk_at "ev"
  refine seq_step (ρ' := [some (.fz (ns.map .int)), some (.sh (mD l A T)), I k, some (.ow (LL X)), d4, OL wo, some (.sh dO), d7, I n, none, none, none, none]) ?_ ?_
  · walk_at "ev"
    simp only [h5]
    walk_at "ev"
    simp only [hn]
  refine seq_step (ρ' := [some (.fz (ns.map .int)), some (.sh (mD l A T)), I k, some (.ow (LL X)), d4, OL wo, some (.sh dO), d7, I n, I (wayAt A T n), none, none, none]) ?_ ?_
  · walk_at "ev"
    simp only [e_count_words hg n hn60]
    walk_at "ev"
  by_cases z : wayAt A T n = 0
  · have w0 := wayAt_acc hg n
    have t6 := told_with_no (e_with_no hg (k := n) (j := 0) hn60 (by omega))
    refine seq_ret ?_
    walk_at "ev"
    simp only [z, decide_true]
    walk_at "ev"
    simp only [show ((0 : Nat) : Int) = 0 from rfl] at t6
    simp only [t6]
    walk_at "ev"
  · have w0 := wayAt_acc hg n
    have wb := way_bound hg hl3 hn60
    have b6 := mod_b c6 (show (0 : Int) < wayAt A T n by omega)
    obtain ⟨j, hj⟩ := Int.eq_ofNat_of_zero_le b6.1
    have hjl : j < (accW l A T (start0 A) n).length := by omega
    have ej : (accW l A T (start0 A) n)[j]? = some ((accW l A T (start0 A) n)[j]'hjl) := List.getElem?_eq_getElem hjl
    generalize (accW l A T (start0 A) n)[j]'hjl = v at ej
    obtain ⟨u1, u2⟩ := told_both hg hn60 ej
    obtain ⟨v1, v2, _⟩ := rank_of hg (start0_ok A) ej
    have sj : shows (.int (j : Int)) = true := shows_int (by rw [Int.natAbs_natCast]; omega)
    have ea := e_law_accepts hg v
    rw [v2] at ea
    refine seq_step (ρ' := [some (.fz (ns.map .int)), some (.sh (mD l A T)), I k, some (.ow (LL X)), d4, OL wo, some (.sh dO), d7, I n, I (wayAt A T n), none, none, none]) ?_ ?_
    · walk_at "ev"
      simp only [z, decide_false]
      walk_at "ev"
    refine seq_step (ρ' := [some (.fz (ns.map .int)), some (.sh (mD l A T)), I k, some (.ow (LL X)), d4, OL wo, some (.sh dO), d7, I n, I (wayAt A T n), I j, none, none]) ?_ ?_
    · walk_at "ev"
      simp only [h6]
      walk_at "ev"
      simp only [show (0 : Int) < wayAt A T n from by omega, if_true, hj]
      (try walk_at "ev")
    refine seq_step (ρ' := [some (.fz (ns.map .int)), some (.sh (mD l A T)), I k, some (.ow (LL X)), d4, OL wo, some (.sh dO), d7, I n, I (wayAt A T n), I j, OL v, none]) ?_ ?_
    · walk_at "ev"
      simp only [u1, all_flat]
      walk_at "ev"
    refine seq_step (ρ' := [some (.fz (ns.map .int)), some (.sh (mD l A T)), I k, some (.ow (LL X)), d4, OL wo, some (.sh dO), d7, I n, I (wayAt A T n), I j, OL v, none]) ?_ ?_
    · walk_at "ev"
      simp only [mIsT]
      walk_at "ev"
      simp only [show tyB "list" (Val.bw (v.map .int)) = some true from by rfl]
      walk_at "ev"
      simp only [show ((v.length : Nat) : Int) = (n : Int) from by omega, decide_true]
      walk_at "ev"
      simp only [ea]
      walk_at "ev"
    walk_at "ev"
    simp only [u2]
    walk_at "ev"
    simp only [cRepr_D (a := .sh (.int (j : Int))) rfl sj]
    walk_at "ev"
end Law

open PySem PySem.W PyProof.Rows
set_option maxHeartbeats 0 in
theorem PySem.Challenge.cw_yardsort_k67_numbers_of_words_holds : PySem.Challenge.rw_yardsort_k67_numbers_of_words.Holds := by
  w_on; o_law; k_head; (case hw => w_witness2)
  k_fill
  refine Mi.law_end (l := PySem.Challenge.rw_yardsort_k67_numbers_of_words) (n := 63) (k := 8) (x := "script") (M := Law.M_law) rfl (by decide) rfl ⟨rfl, by decide, by decide⟩ (fun w h Y => PySem.W.kIn_of Y) ?F Law.says
  case F =>
    intro w mg fa h KX G hmg
    refine' Law.all_mk KX G hmg ?a1_is_machine ?l1_is_machine ?c1_is_machine ?k1_is_machine ?a1_check_machine ?l1_check_machine ?c1_check_machine ?k1_check_machine ?a1_accepts ?l1_accepts ?c1_accepts ?k1_accepts ?a1_leads ?l1_leads ?c1_leads ?k1_leads ?a1_check_length ?l1_check_length ?c1_check_length ?k1_check_length ?a1_tails ?l1_tails ?c1_tails ?k1_tails ?a1_many_words ?l1_many_words ?c1_many_words ?k1_many_words ?a1_count_words ?l1_count_words ?c1_count_words ?k1_count_words ?a1__check_size ?l1__check_size ?c1__check_size ?k1__check_size ?a1_number_of_word ?l1_number_of_word ?c1_number_of_word ?k1_number_of_word ?a1__tail_with_number ?l1__tail_with_number ?c1__tail_with_number ?k1__tail_with_number ?a1_word_with_number ?l1_word_with_number ?c1_word_with_number ?k1_word_with_number ?a1__law_cell ?l1__law_cell ?c1__law_cell ?k1__law_cell ?a1__law_values ?l1__law_values ?c1__law_values ?k1__law_values ?a1__law_machine ?l1__law_machine ?c1__law_machine ?k1__law_machine ?a1__law_accepts ?l1__law_accepts ?c1__law_accepts ?k1__law_accepts ?a1__law_words ?l1__law_words ?c1__law_words ?k1__law_words ?a1__law_told ?l1__law_told ?c1__law_told ?k1__law_told ?a1_law ?l1_law ?c1_law ?k1_law ?z_all ?z_enumerate ?z_int ?z_isinstance ?z_len ?z_list ?z_min ?z_range ?z_repr ?z_sum ?z_tuple ?v_DEAD ?v_MOST_LENGTH ?v_MOST_LETTERS ?v_MOST_STATES ?v_START ?e_BadNumber ?x_BadNumber ?k_BadNumber ?r_BadNumber ?t_BadNumber ?e_NoWord ?x_NoWord ?k_NoWord ?r_NoWord ?t_NoWord ?e_NotMachine ?x_NotMachine ?k_NotMachine ?r_NotMachine ?t_NotMachine ?e_NotWord ?x_NotWord ?k_NotWord ?r_NotWord ?t_NotWord ?e_YardsortError ?x_YardsortError ?k_YardsortError ?r_YardsortError ?t_YardsortError ?i_BadNumber ?i_NoWord ?i_NotMachine ?i_NotWord ?i_YardsortError ?s_YardsortError_BadNumber ?s_BadNumber_BadNumber ?s_NotMachine_BadNumber ?s_NotWord_BadNumber ?s_NoWord_BadNumber ?s_YardsortError_NoWord ?s_BadNumber_NoWord ?s_NotMachine_NoWord ?s_NotWord_NoWord ?s_NoWord_NoWord ?s_YardsortError_NotMachine ?s_BadNumber_NotMachine ?s_NotMachine_NotMachine ?s_NotWord_NotMachine ?s_NoWord_NotMachine ?s_YardsortError_NotWord ?s_BadNumber_NotWord ?s_NotMachine_NotWord ?s_NotWord_NotWord ?s_NoWord_NotWord ?wC ?wpg ?whd ?wpo ?wsa ?wmk ?wkc ?wn1 ?wn2 ?waI ?wiI ?wlI ?wcI ?wkI ?waR ?wiR ?wlR ?wcR ?wkR ?waA ?wg1 ?wg2 ?wg3 ?wiA ?wlA ?wcA ?wkA
    (case a1_is_machine => k_is)
    (case l1_is_machine => k_is)
    (case c1_is_machine => k_is)
    (case k1_is_machine => k_is)
    (case a1_check_machine => k_is)
    (case l1_check_machine => k_is)
    (case c1_check_machine => k_is)
    (case k1_check_machine => k_is)
    (case a1_accepts => k_is)
    (case l1_accepts => k_is)
    (case c1_accepts => k_is)
    (case k1_accepts => k_is)
    (case a1_leads => k_is)
    (case l1_leads => k_is)
    (case c1_leads => k_is)
    (case k1_leads => k_is)
    (case a1_check_length => k_is)
    (case l1_check_length => k_is)
    (case c1_check_length => k_is)
    (case k1_check_length => k_is)
    (case a1_tails => k_is)
    (case l1_tails => k_is)
    (case c1_tails => k_is)
    (case k1_tails => k_is)
    (case a1_many_words => k_is)
    (case l1_many_words => k_is)
    (case c1_many_words => k_is)
    (case k1_many_words => k_is)
    (case a1_count_words => k_is)
    (case l1_count_words => k_is)
    (case c1_count_words => k_is)
    (case k1_count_words => k_is)
    (case a1__check_size => k_is)
    (case l1__check_size => k_is)
    (case c1__check_size => k_is)
    (case k1__check_size => k_is)
    (case a1_number_of_word => k_is)
    (case l1_number_of_word => k_is)
    (case c1_number_of_word => k_is)
    (case k1_number_of_word => k_is)
    (case a1__tail_with_number => k_is)
    (case l1__tail_with_number => k_is)
    (case c1__tail_with_number => k_is)
    (case k1__tail_with_number => k_is)
    (case a1_word_with_number => k_is)
    (case l1_word_with_number => k_is)
    (case c1_word_with_number => k_is)
    (case k1_word_with_number => k_is)
    (case a1__law_cell => k_is)
    (case l1__law_cell => k_is)
    (case c1__law_cell => k_is)
    (case k1__law_cell => k_is)
    (case a1__law_values => k_is)
    (case l1__law_values => k_is)
    (case c1__law_values => k_is)
    (case k1__law_values => k_is)
    (case a1__law_machine => k_is)
    (case l1__law_machine => k_is)
    (case c1__law_machine => k_is)
    (case k1__law_machine => k_is)
    (case a1__law_accepts => k_is)
    (case l1__law_accepts => k_is)
    (case c1__law_accepts => k_is)
    (case k1__law_accepts => k_is)
    (case a1__law_words => k_is)
    (case l1__law_words => k_is)
    (case c1__law_words => k_is)
    (case k1__law_words => k_is)
    (case a1__law_told => k_is)
    (case l1__law_told => k_is)
    (case c1__law_told => k_is)
    (case k1__law_told => k_is)
    (case a1_law => k_is)
    (case l1_law => k_is)
    (case c1_law => k_is)
    (case k1_law => k_is)
    (case z_all => k_is)
    (case z_enumerate => k_is)
    (case z_int => k_is)
    (case z_isinstance => k_is)
    (case z_len => k_is)
    (case z_list => k_is)
    (case z_min => k_is)
    (case z_range => k_is)
    (case z_repr => k_is)
    (case z_sum => k_is)
    (case z_tuple => k_is)
    (case v_DEAD => k_is)
    (case v_MOST_LENGTH => k_is)
    (case v_MOST_LETTERS => k_is)
    (case v_MOST_STATES => k_is)
    (case v_START => k_is)
    (case e_BadNumber => k_is)
    (case x_BadNumber => k_exc)
    (case k_BadNumber => k_is)
    (case r_BadNumber => k_is)
    (case t_BadNumber => k_is)
    (case e_NoWord => k_is)
    (case x_NoWord => k_exc)
    (case k_NoWord => k_is)
    (case r_NoWord => k_is)
    (case t_NoWord => k_is)
    (case e_NotMachine => k_is)
    (case x_NotMachine => k_exc)
    (case k_NotMachine => k_is)
    (case r_NotMachine => k_is)
    (case t_NotMachine => k_is)
    (case e_NotWord => k_is)
    (case x_NotWord => k_exc)
    (case k_NotWord => k_is)
    (case r_NotWord => k_is)
    (case t_NotWord => k_is)
    (case e_YardsortError => k_is)
    (case x_YardsortError => k_exc)
    (case k_YardsortError => k_is)
    (case r_YardsortError => k_is)
    (case t_YardsortError => k_is)
    (case i_BadNumber => k_is)
    (case i_NoWord => k_is)
    (case i_NotMachine => k_is)
    (case i_NotWord => k_is)
    (case i_YardsortError => k_is)
    (case s_YardsortError_BadNumber => first | rfl | k_is)
    (case s_BadNumber_BadNumber => first | rfl | k_is)
    (case s_NotMachine_BadNumber => first | rfl | k_is)
    (case s_NotWord_BadNumber => first | rfl | k_is)
    (case s_NoWord_BadNumber => first | rfl | k_is)
    (case s_YardsortError_NoWord => first | rfl | k_is)
    (case s_BadNumber_NoWord => first | rfl | k_is)
    (case s_NotMachine_NoWord => first | rfl | k_is)
    (case s_NotWord_NoWord => first | rfl | k_is)
    (case s_NoWord_NoWord => first | rfl | k_is)
    (case s_YardsortError_NotMachine => first | rfl | k_is)
    (case s_BadNumber_NotMachine => first | rfl | k_is)
    (case s_NotMachine_NotMachine => first | rfl | k_is)
    (case s_NotWord_NotMachine => first | rfl | k_is)
    (case s_NoWord_NotMachine => first | rfl | k_is)
    (case s_YardsortError_NotWord => first | rfl | k_is)
    (case s_BadNumber_NotWord => first | rfl | k_is)
    (case s_NotMachine_NotWord => first | rfl | k_is)
    (case s_NotWord_NotWord => first | rfl | k_is)
    (case s_NoWord_NotWord => first | rfl | k_is)
    (case wC => k_is)
    (case wpg => k_is)
    (case whd => k_is)
    (case wpo => k_is)
    (case wsa => k_is)
    (case wmk => k_is)
    (case wkc => k_is)
    (case wn1 => k_is)
    (case wn2 => k_is)
    (case waI => k_is)
    (case wiI => k_is)
    (case wlI => k_is)
    (case wcI => k_is)
    (case wkI => k_is)
    (case waR => k_is)
    (case wiR => k_is)
    (case wlR => k_is)
    (case wcR => k_is)
    (case wkR => k_is)
    (case waA => k_is)
    (case wg1 => k_is)
    (case wg2 => k_is)
    (case wg3 => k_is)
    (case wiA => k_is)
    (case wlA => k_is)
    (case wcA => k_is)
    (case wkA => k_is)
