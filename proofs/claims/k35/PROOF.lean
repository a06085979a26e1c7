import PyProof.Rows.All
import Wide.All
import OpenK.AllK
import Wide.FinOn
import PySem.Challenge.RW_yardsort_k35_texts_of_machines
import HandS.ForMost
import HandS.ForExc
import HandS.SortInts
import HandS.RaiseMore
import HandS.Conv
import HandS.Wide
import PyProof.ReprRoads
import HandS.Style
import PyProof.ReprLen
import HandS.More
import HandS.TryMany
import HandS.ExcIs
import HandS.IsInst
import HandS.Text
import HandS.DictComp
import HandS.TupAny
import KE.DataCmp
import HandS.Property
import KE.GoesEnumKw
import HandS.Deep
import HandS.Flow
import PyProof.IsRules
import HandS.GenList
import HandS.Dict
import PyProof.NoPylong
import HandS.Zip
import HandS.ExcInit
import HandS.ExcField
import KE.KExcIs
set_option Elab.async false
set_option linter.all false
set_option maxRecDepth 100000
/-! Mirrors: a def's body as a function of plain data, with lists of its own, and the proof that the program follows it. -/
namespace Mi
open PySem PySem.Spec PyProof.Rows L2

abbrev D := PyData
/-- a value: data that nothing changes any more; a list of the def's own; such a list looked at; a list that may only be read -/
inductive Val where
  | sh (d : D) | ow (xs : List D) | bw (xs : List D) | fz (xs : List D) | io (xs : List D) | ob (o : Bool) (p C : Addr) (fs : List (Str × D))
inductive Res (α : Type) where
  | ok (a : α) | ex (n : Str) (fs : List (Str × D)) | no
def Res.bind {α β : Type} : Res α → (α → Res β) → Res β
  | .ok a, f => f a
  | .ex n fs, _ => .ex n fs
  | .no, _ => .no
def lift {α : Type} : Option α → Res α
  | some a => .ok a
  | none => .no
abbrev Rho := List (Option Val)
inductive Out where
  | nx (ρ : Rho) | rt (r : Val) | rx (r : Val) (ρ : Rho) | bk (ρ : Rho) | ct (ρ : Rho) | ex (n : Str) (fs : List (Str × D)) (ρ : Rho) | no

/-! ### data in the heap -/
/-- a key as data -/
def keyD : Key → D
  | .inl k => .int k
  | .inr x => .str x
/-- data that is no object -/
inductive FlatV : V → D → Prop
  | non : FlatV .non .none
  | bl (b : Bool) : FlatV (.bl b) (.bool b)
  | int (i : Int) : FlatV (.int i) (.int i)
  | str (x : Str) : FlatV (.str x) (.str x)
inductive FlatKV : List (Key × V) → List (D × D) → Prop
  | nil : FlatKV [] []
  | cons {k : Key} {v : V} {d : D} {kvs : List (Key × V)} {ds : List (D × D)} : FlatV v d → FlatKV kvs ds → FlatKV ((k, v) :: kvs) ((keyD k, d) :: ds)
mutual
inductive Rp (K : PySem.W.Frag) (G : Hp) : V → D → Prop
  | non : Rp K G .non .none
  | bl (b : Bool) : Rp K G (.bl b) (.bool b)
  | int (i : Int) : Rp K G (.int i) (.int i)
  | str (x : Str) : Rp K G (.str x) (.str x)
  | lst {a : Addr} {vs : List V} {ds : List D} : G a = some (.lst vs) → RpA K G vs ds → Rp K G (.ref a) (.list ds)
  | tup {a : Addr} {vs : List V} {ds : List D} : SqT K G a vs → RpA K G vs ds → Rp K G (.ref a) (.tuple ds)
  | dct {a : Addr} {kvs : List (Key × V)} {ds : List (D × D)} : G a = some (.dK kvs) → FlatKV kvs ds → Rp K G (.ref a) (.dict ds)
inductive RpA (K : PySem.W.Frag) (G : Hp) : List V → List D → Prop
  | nil : RpA K G [] []
  | cons {v : V} {vs : List V} {d : D} {ds : List D} : Rp K G v d → RpA K G vs ds → RpA K G (v :: vs) (d :: ds)
end

theorem same_t {K : PySem.W.Frag} {H H' : Hp} {a : Addr} {xs : List V} (e : Same H H') (h : SqT K H a xs) : SqT K H' a xs := by
  rcases h with (h | ⟨o, h⟩) | h
  · exact .inl (.inl (e _ _ h))
  · exact .inl (.inr ⟨o, e _ _ h⟩)
  · exact .inr h

mutual
theorem Rp.mono {K : PySem.W.Frag} {G G' : Hp} (e : Same G G') : ∀ {d : D} {v : V}, Rp K G v d → Rp K G' v d
  | .none, _, .non => .non
  | .bool _, _, .bl b => .bl b
  | .int _, _, .int i => .int i
  | .str _, _, .str x => .str x
  | .list _, _, .lst h a => .lst (e _ _ h) (RpA.mono e a)
  | .tuple _, _, .tup h a => .tup (same_t e h) (RpA.mono e a)
  | .dict _, _, .dct h a => .dct (e _ _ h) a
theorem RpA.mono {K : PySem.W.Frag} {G G' : Hp} (e : Same G G') : ∀ {ds : List D} {vs : List V}, RpA K G vs ds → RpA K G' vs ds
  | [], _, .nil => .nil
  | _ :: _, _, .cons h a => .cons (Rp.mono e h) (RpA.mono e a)
end
mutual
theorem Rp.dp {K : PySem.W.Frag} {G : Hp} : ∀ {d : D} {v : V}, d.hasDict = false → Rp K G v d → Dp K G v d
  | .none, _, _, .non => .non
  | .bool _, _, _, .bl b => .bl b
  | .int _, _, _, .int i => .int i
  | .str _, _, _, .str x => .str x
  | .list _, _, nd, .lst h a => .lst (SqL.of h) (RpA.dp (by rw [PyData.hasDict] at nd; exact nd) a)
  | .tuple _, _, nd, .tup h a => .tup h (RpA.dp (by rw [PyData.hasDict] at nd; exact nd) a)
  | .dict _, _, nd, .dct _ _ => absurd nd (by rw [PyData.hasDict]; exact fun z => nomatch z)
theorem RpA.dp {K : PySem.W.Frag} {G : Hp} : ∀ {ds : List D} {vs : List V}, PyData.hasDictAll ds = false → RpA K G vs ds → DpAll K G vs ds
  | [], _, _, .nil => .nil
  | _ :: _, _, nd, .cons h a => .cons (Rp.dp (by rw [PyData.hasDictAll, Bool.or_eq_false_iff] at nd; exact nd.1) h) (RpA.dp (by rw [PyData.hasDictAll, Bool.or_eq_false_iff] at nd; exact nd.2) a)
end
theorem RpA.length {K : PySem.W.Frag} {G : Hp} : ∀ {ds : List D} {vs : List V}, RpA K G vs ds → vs.length = ds.length
  | [], _, .nil => rfl
  | _ :: _, _, .cons h a => by simp [RpA.length a]
theorem RpA.get {K : PySem.W.Frag} {G : Hp} : ∀ {ds : List D} {vs : List V} {j : Nat} {d : D}, RpA K G vs ds → ds[j]? = some d → ∃ v, vs[j]? = some v ∧ Rp K G v d
  | [], _, _, _, .nil, h => by simp at h
  | _ :: _, _, 0, _, .cons h a, e => by
    simp at e
    subst e
    exact ⟨_, rfl, h⟩
  | _ :: _, _, j + 1, _, .cons h a, e => by
    simp at e
    obtain ⟨v, e1, e2⟩ := RpA.get a e
    exact ⟨v, by simpa using e1, e2⟩
theorem RpA.getV {K : PySem.W.Frag} {G : Hp} : ∀ {ds : List D} {vs : List V} {j : Nat} {v : V}, RpA K G vs ds → vs[j]? = some v → ∃ d, ds[j]? = some d ∧ Rp K G v d
  | [], _, _, _, .nil, h => by simp at h
  | _ :: _, _, 0, _, .cons h a, e => by
    simp at e
    subst e
    exact ⟨_, rfl, h⟩
  | _ :: _, _, j + 1, _, .cons h a, e => by
    simp at e
    obtain ⟨d, e1, e2⟩ := RpA.getV a e
    exact ⟨d, by simpa using e1, e2⟩
theorem RpA.append {K : PySem.W.Frag} {G : Hp} : ∀ {ds es : List D} {vs us : List V}, RpA K G vs ds → RpA K G us es → RpA K G (vs ++ us) (ds ++ es)
  | [], _, _, _, .nil, b => b
  | _ :: _, _, _, _, .cons h a, b => .cons h (RpA.append a b)
theorem RpA.drop {K : PySem.W.Frag} {G : Hp} : ∀ (n : Nat) {ds : List D} {vs : List V}, RpA K G vs ds → RpA K G (vs.drop n) (ds.drop n)
  | 0, _, _, a => a
  | n + 1, [], _, .nil => .nil
  | n + 1, _ :: _, _, .cons h a => RpA.drop n a
theorem RpA.take {K : PySem.W.Frag} {G : Hp} : ∀ (n : Nat) {ds : List D} {vs : List V}, RpA K G vs ds → RpA K G (vs.take n) (ds.take n)
  | 0, _, _, a => by simpa using .nil
  | n + 1, [], _, .nil => .nil
  | n + 1, _ :: _, _, .cons h a => .cons h (RpA.take n a)
theorem RpA.set {K : PySem.W.Frag} {G : Hp} {d : D} {v : V} (hv : Rp K G v d) : ∀ {ds : List D} {vs : List V} (j : Nat), RpA K G vs ds → RpA K G (vs.set j v) (ds.set j d)
  | [], _, _, .nil => .nil
  | _ :: _, _, 0, .cons h a => .cons hv a
  | _ :: _, _, j + 1, .cons h a => .cons h (RpA.set hv j a)
theorem RpA.reverse {K : PySem.W.Frag} {G : Hp} : ∀ {ds : List D} {vs : List V}, RpA K G vs ds → RpA K G vs.reverse ds.reverse
  | [], _, .nil => .nil
  | _ :: _, _, .cons h a => by
    rw [List.reverse_cons, List.reverse_cons]
    exact (RpA.reverse a).append (.cons h .nil)

/-! ### what grows -/
structure Ext (G H G' H' : Hp) : Prop where
  h : Same H H'
  g : Same G G'
  s : Same G' H'
  n : ∀ p, H p ≠ none → G p = none → G' p = none
theorem Ext.refl {G H : Hp} (s : Same G H) : Ext G H G H := ⟨Same.refl _, Same.refl _, s, fun _ _ h => h⟩
theorem ne_none_of {H H' : Hp} {p : Addr} (e : Same H H') (h : H p ≠ none) : H' p ≠ none := by
  intro q
  exact h (e.free q)
theorem Ext.trans {G H G1 H1 G2 H2 : Hp} (a : Ext G H G1 H1) (b : Ext G1 H1 G2 H2) : Ext G H G2 H2 :=
  ⟨a.h.trans b.h, a.g.trans b.g, b.s, fun p h g => b.n p (ne_none_of a.h h) (a.n p h g)⟩
theorem same_new {H : Hp} {p : Addr} {o : HO} (h : H p = none) : Same H (upd H p o) := fun b x e => by
  rw [upd_ne (ne_of_none e h)]
  exact e
/-- a new object that stays as it is -/
theorem Ext.newS {G H : Hp} {p : Addr} {o : HO} (s : Same G H) (h : H p = none) : Ext G H (upd G p o) (upd H p o) := by
  have g : G p = none := s.free h
  refine ⟨same_new h, same_new g, fun b x e => ?_, fun q hq hg => ?_⟩
  · by_cases hb : b = p
    · subst hb
      rw [upd_same] at e ⊢
      exact e
    · rw [upd_ne hb] at e ⊢
      exact s _ _ e
  · have hb : q ≠ p := fun z => hq (z ▸ h)
    rw [upd_ne hb]
    exact hg
/-- a new object of one's own -/
theorem Ext.newO {G H : Hp} {p : Addr} {o : HO} (s : Same G H) (h : H p = none) : Ext G H G (upd H p o) := by
  have g : G p = none := s.free h
  refine ⟨same_new h, Same.refl _, fun b x e => ?_, fun q hq hg => hg⟩
  rw [upd_ne (ne_of_none e g)]
  exact s _ _ e

/-! ### values -/
/-- an object of a class of the program, at p: its fields' data are shared; o: it is new -/
def ObR (K : PySem.W.Frag) (B G H : Hp) (v : V) (o : Bool) (p C : Addr) (fs : List (Str × D)) : Prop :=
  ∃ (dx : Addr) (fv : List (Str × V)), v = .ref p ∧ H p = some (.ins C dx fv) ∧ (o = true → G p = none ∧ B p = none) ∧ fv.map (·.1) = fs.map (·.1) ∧ RpA K G (fv.map (·.2)) (fs.map (·.2))
theorem ObR.up {K : PySem.W.Frag} {B B' G H G' H' : Hp} {v : V} {o : Bool} {p C : Addr} {fs : List (Str × D)} (eb : o = true → B p = none → B' p = none) (eh : ∀ dx fv, H p = some (.ins C dx fv) → H' p = some (.ins C dx fv)) (eg : Same G G') (en : o = true → ∀ dx fv, H p = some (.ins C dx fv) → G p = none → G' p = none) (h : ObR K B G H v o p C fs) : ObR K B' G' H' v o p C fs := by
  obtain ⟨dx, fv, a, b, c, e, k⟩ := h
  exact ⟨dx, fv, a, eh _ _ b, fun z => ⟨en z _ _ b (c z).1, eb z (c z).2⟩, e, k.mono eg⟩
theorem ObR.ext {K : PySem.W.Frag} {B G H G' H' : Hp} {v : V} {o : Bool} {p C : Addr} {fs : List (Str × D)} (e : Ext G H G' H') (h : ObR K B G H v o p C fs) : ObR K B G' H' v o p C fs :=
  h.up (fun _ z => z) (fun _ _ z => e.h _ _ z) e.g fun _ _ _ z g => e.n p (by rw [z]; exact Option.some_ne_none _) g
theorem ObR.at {K : PySem.W.Frag} {B G H : Hp} {v : V} {o : Bool} {p C : Addr} {fs : List (Str × D)} (h : ObR K B G H v o p C fs) : v = .ref p ∧ ∃ dx fv, H p = some (.ins C dx fv) := by
  obtain ⟨dx, fv, a, b, _⟩ := h
  exact ⟨a, dx, fv, b⟩
theorem ins_ne {H : Hp} {p q : Addr} {C dx : Addr} {fv : List (Str × V)} {vs : List V} (h : H p = some (.ins C dx fv)) (g : H q = some (.lst vs)) : p ≠ q := fun z => by
  rw [z, g] at h
  cases h
def VR (K : PySem.W.Frag) (B G H : Hp) (v : V) : Val → Prop
  | .sh d => Rp K G v d
  | .ow xs => ∃ p vs, v = .ref p ∧ H p = some (.lst vs) ∧ G p = none ∧ B p = none ∧ RpA K G vs xs
  | .bw xs => ∃ p vs, v = .ref p ∧ H p = some (.lst vs) ∧ RpA K G vs xs
  | .fz xs => ∃ p vs, v = .ref p ∧ SqL K G p vs ∧ RpA K G vs xs
  | .io xs => ∃ p vs, v = .ref p ∧ H p = some (.lst vs) ∧ RpA K G vs xs
  | .ob o p C fs => ObR K B G H v o p C fs
theorem VR.back {K : PySem.W.Frag} {B B' G H : Hp} {v : V} {r : Val} (e : Same B B') (h : VR K B' G H v r) : VR K B G H v r := by
  cases r with
  | sh d => exact h
  | ow xs =>
    obtain ⟨p, vs, a, b, c, d, k⟩ := h
    exact ⟨p, vs, a, b, c, e.free d, k⟩
  | bw xs => exact h
  | fz xs => exact h
  | io xs => exact h
  | ob o p C fs => exact h.up (fun _ z => e.free z) (fun _ _ z => z) (Same.refl _) fun _ _ _ _ z => z
theorem VR.ext {K : PySem.W.Frag} {B G H G' H' : Hp} {v : V} {r : Val} (e : Ext G H G' H') (h : VR K B G H v r) : VR K B G' H' v r := by
  cases r with
  | sh d => exact Rp.mono e.g h
  | ow xs =>
    obtain ⟨p, vs, a, b, c, d, k⟩ := h
    exact ⟨p, vs, a, e.h _ _ b, e.n p (by rw [b]; exact Option.some_ne_none _) c, d, k.mono e.g⟩
  | bw xs =>
    obtain ⟨p, vs, a, b, k⟩ := h
    exact ⟨p, vs, a, e.h _ _ b, k.mono e.g⟩
  | fz xs =>
    obtain ⟨p, vs, a, b, k⟩ := h
    exact ⟨p, vs, a, e.g.seq b, k.mono e.g⟩
  | io xs =>
    obtain ⟨p, vs, a, b, k⟩ := h
    exact ⟨p, vs, a, e.h _ _ b, k.mono e.g⟩
  | ob o p C fs => exact ObR.ext e h
inductive VRs (K : PySem.W.Frag) (B G H : Hp) : List V → List Val → Prop
  | nil : VRs K B G H [] []
  | cons {v : V} {vs : List V} {r : Val} {rs : List Val} : VR K B G H v r → VRs K B G H vs rs → VRs K B G H (v :: vs) (r :: rs)
theorem VRs.back {K : PySem.W.Frag} {B B' G H : Hp} (e : Same B B') : ∀ {vs : List V} {rs : List Val}, VRs K B' G H vs rs → VRs K B G H vs rs
  | _, _, .nil => .nil
  | _, _, .cons h a => .cons (h.back e) (VRs.back e a)
theorem VRs.ext {K : PySem.W.Frag} {B G H G' H' : Hp} (e : Ext G H G' H') : ∀ {vs : List V} {rs : List Val}, VRs K B G H vs rs → VRs K B G' H' vs rs
  | _, _, .nil => .nil
  | _, _, .cons h a => .cons (h.ext e) (VRs.ext e a)
/-- the items of a list value -/
def lit : Val → Option (List D)
  | .sh (.list xs) => some xs
  | .ow xs => some xs
  | .bw xs => some xs
  | .fz xs => some xs
  | _ => none
/-- .. of one that is tracked -/
def tlit : Val → Option (List D)
  | .sh (.list xs) => some xs
  | .ow xs => some xs
  | .bw xs => some xs
  | _ => none
/-- as data -/
def dat : Val → Option D
  | .sh d => some d
  | .ow xs => some (.list xs)
  | .bw xs => some (.list xs)
  | .fz xs => some (.list xs)
  | .io _ => none
  | .ob _ _ _ _ => none
section
variable {K : PySem.W.Frag} {B G H : Hp} {v : V} {r : Val}
theorem VR.tlist {xs : List D} (s : Same G H) (h : VR K B G H v r) (e : tlit r = some xs) : ∃ p vs, v = .ref p ∧ H p = some (.lst vs) ∧ RpA K G vs xs := by
  cases r with
  | sh d =>
    cases d <;> simp [tlit] at e
    subst e
    cases h with
    | lst q a => exact ⟨_, _, rfl, s _ _ q, a⟩
  | ow ys =>
    simp [tlit] at e
    subst e
    obtain ⟨p, vs, a, b, _, _, k⟩ := h
    exact ⟨p, vs, a, b, k⟩
  | bw ys =>
    simp [tlit] at e
    subst e
    exact h
  | fz ys => simp [tlit] at e
  | io ys => simp [tlit] at e
  | ob o p C fs => simp [tlit] at e
theorem VR.list {xs : List D} (s : Same G H) (h : VR K B G H v r) (e : lit r = some xs) : ∃ p vs, v = .ref p ∧ SqL K H p vs ∧ RpA K G vs xs := by
  cases r with
  | sh d =>
    cases d <;> simp [lit] at e
    subst e
    cases h with
    | lst q a => exact ⟨_, _, rfl, SqL.of (s _ _ q), a⟩
  | ow ys =>
    simp [lit] at e
    subst e
    obtain ⟨p, vs, a, b, _, _, k⟩ := h
    exact ⟨p, vs, a, SqL.of b, k⟩
  | bw ys =>
    simp [lit] at e
    subst e
    obtain ⟨p, vs, a, b, k⟩ := h
    exact ⟨p, vs, a, SqL.of b, k⟩
  | fz ys =>
    simp [lit] at e
    subst e
    obtain ⟨p, vs, a, b, k⟩ := h
    exact ⟨p, vs, a, s.seq b, k⟩
  | io ys => simp [lit] at e
  | ob o p C fs => simp [lit] at e
theorem VR.dp {d : D} (s : Same G H) (h : VR K B G H v r) (e : dat r = some d) (nd : d.hasDict = false) : Dp K H v d := by
  cases r with
  | sh d' =>
    simp [dat] at e
    subst e
    exact (Rp.mono s h).dp nd
  | ow ys =>
    simp [dat] at e
    subst e
    obtain ⟨p, vs, rfl, b, _, _, k⟩ := h
    exact .lst (SqL.of b) ((k.mono s).dp (by rw [PyData.hasDict] at nd; exact nd))
  | bw ys =>
    simp [dat] at e
    subst e
    obtain ⟨p, vs, rfl, b, k⟩ := h
    exact .lst (SqL.of b) ((k.mono s).dp (by rw [PyData.hasDict] at nd; exact nd))
  | fz ys =>
    simp [dat] at e
    subst e
    obtain ⟨p, vs, rfl, b, k⟩ := h
    exact .lst (s.seq b) ((k.mono s).dp (by rw [PyData.hasDict] at nd; exact nd))
  | io ys => simp [dat] at e
  | ob o p C fs => simp [dat] at e
end

/-! ### the slots -/
def SlotR (K : PySem.W.Frag) (H0 G H : Hp) (v : V) : Val → Prop
  | .sh d => Rp K G v d
  | .ow xs => ∃ p vs, v = .ref p ∧ H p = some (.lst vs) ∧ G p = none ∧ H0 p = none ∧ RpA K G vs xs
  | .bw xs => ∃ p vs, v = .ref p ∧ H0 p = some (.lst vs) ∧ RpA K G vs xs
  | .fz xs => ∃ p vs, v = .ref p ∧ SqL K G p vs ∧ RpA K G vs xs
  | .io xs => ∃ p vs, v = .ref p ∧ H p = some (.lst vs) ∧ G p = none ∧ H0 p = none ∧ RpA K G vs xs
  | .ob o p C fs => ObR K H0 G H v o p C fs
/-- a list that only this slot may change -/
def owned : Val → Bool
  | .ow _ => true
  | .io _ => true
  | _ => false
/-- where a def starts: the frozen part, and the list that it may change for its caller -/
structure Bs where
  g : Hp
  pin : Addr
structure EnvS (K : PySem.W.Frag) (G0 : Bs) (H0 : Hp) (σ : L2.St) (G H : Hp) (ρ : Rho) : Prop where
  ext : Ext G0.g H0 G H
  pin : ∀ (i : Nat) (xs : List D), ρ[i]? = some (some (.io xs)) → σ[i]? = some (some (.ref G0.pin))
  len : σ.length = ρ.length
  slot : ∀ (i : Nat) (r : Val), ρ[i]? = some (some r) → ∃ v, σ[i]? = some (some v) ∧ SlotR K H0 G H v r
  apart : ∀ (i j : Nat) (p : Addr) (r s : Val), ρ[i]? = some (some r) → ρ[j]? = some (some s) → owned r = true → owned s = true → σ[i]? = some (some (.ref p)) → σ[j]? = some (some (.ref p)) → i = j
theorem SlotR.ext {K : PySem.W.Frag} {H0 G H G' H' : Hp} {v : V} {r : Val} (e : Ext G H G' H') (h : SlotR K H0 G H v r) : SlotR K H0 G' H' v r := by
  cases r with
  | sh d => exact Rp.mono e.g h
  | ow xs =>
    obtain ⟨p, vs, a, b, c, d, k⟩ := h
    exact ⟨p, vs, a, e.h _ _ b, e.n p (by rw [b]; exact Option.some_ne_none _) c, d, k.mono e.g⟩
  | bw xs =>
    obtain ⟨p, vs, a, b, k⟩ := h
    exact ⟨p, vs, a, b, k.mono e.g⟩
  | fz xs =>
    obtain ⟨p, vs, a, b, k⟩ := h
    exact ⟨p, vs, a, e.g.seq b, k.mono e.g⟩
  | io xs =>
    obtain ⟨p, vs, a, b, c, d, k⟩ := h
    exact ⟨p, vs, a, e.h _ _ b, e.n p (by rw [b]; exact Option.some_ne_none _) c, d, k.mono e.g⟩
  | ob o p C fs => exact ObR.ext e h
theorem EnvS.ext' {K : PySem.W.Frag} {G0 : Bs} {H0 G H G' H' : Hp} {σ : L2.St} {ρ : Rho} (I : EnvS K G0 H0 σ G H ρ) (e : Ext G H G' H') : EnvS K G0 H0 σ G' H' ρ :=
  ⟨I.ext.trans e, I.pin, I.len, fun i r q => let ⟨v, a, b⟩ := I.slot i r q; ⟨v, a, b.ext e⟩, I.apart⟩
theorem EnvS.s {K : PySem.W.Frag} {G0 : Bs} {H0 G H : Hp} {σ : L2.St} {ρ : Rho} (I : EnvS K G0 H0 σ G H ρ) : Same G H := I.ext.s

/-! ### readings that follow a mirror -/
def XR (fs : List (Str × D)) (K : PySem.W.Frag) (d : Option Addr) (G H : Hp) : Prop :=
  (fs = [] ∧ d = none) ∨ ∃ dd fv, d = some dd ∧ fs ≠ [] ∧ H dd = some (.xd fv) ∧ fv.map (·.1) = fs.map (·.1) ∧ RpA K G (fv.map (·.2)) (fs.map (·.2))
/-- what is wanted behind a mirror's result; G, H: at the start -/
def RR (K : PySem.W.Frag) (mg : Str → Option Value) (W : WX) {α β : Type} (R : Hp → Hp → Hp → β → α → Prop) (σ : L2.St) (G H : Hp) (Q : β → Hp → Prop) : Res α → Prop
  | .ok r => ∀ G' H' v, Ext G H G' H' → R H G' H' v r → Q v H'
  | .ex n fs => ∀ G' H' C d, Ext G H G' H' → mg n = some (.ref C) → XR fs K d G' H' → W (.ref C) d σ H'
  | .no => False
abbrev RV (K : PySem.W.Frag) : Hp → Hp → Hp → V → Val → Prop := fun B G H v r => VR K B G H v r
abbrev RB : Hp → Hp → Hp → Bool → Bool → Prop := fun _ _ _ b c => b = c
abbrev RA (K : PySem.W.Frag) : Hp → Hp → Hp → List V → List Val → Prop := fun B G H vs rs => VRs K B G H vs rs
abbrev RO : Hp → Hp → Hp → Option Int → Option Int → Prop := fun _ _ _ b c => b = c
theorem RR.bnd {K : PySem.W.Frag} {mg : Str → Option Value} {W : WX} {α β γ δ : Type} {R1 : Hp → Hp → Hp → β → α → Prop} {R2 : Hp → Hp → Hp → δ → γ → Prop} {σ : L2.St} {G H G1 H1 : Hp} {Q : δ → Hp → Prop} {Q1 : β → Hp → Prop} {m : Res α} {f : α → Res γ}
    (e : Ext G H G1 H1) (h : RR K mg W R2 σ G H Q (m.bind f)) (k : ∀ a G2 H2 v, m = .ok a → Ext G1 H1 G2 H2 → R1 H1 G2 H2 v a → RR K mg W R2 σ G H Q (f a) → Q1 v H2) : RR K mg W R1 σ G1 H1 Q1 m := by
  cases m with
  | ok a => exact fun G2 H2 v e2 q => k a G2 H2 v rfl e2 q h
  | ex n fs => exact fun G' H' C d e' a b => h G' H' C d (e.trans e') a b
  | no => exact h

def Snd (K : PySem.W.Frag) (mg : Str → Option Value) (W : WX) (te : TE) (me : Rho → Res Val) : Prop :=
  ∀ (G0 : Bs) (H0 : Hp) (σ : L2.St) (G H : Hp) (ρ : Rho) (Q : VK), EnvS K G0 H0 σ G H ρ → RR K mg W (RV K) σ G H Q (me ρ) → te σ H Q
def SndT (K : PySem.W.Frag) (mg : Str → Option Value) (W : WX) (tt : TT) (me : Rho → Res Bool) : Prop :=
  ∀ (G0 : Bs) (H0 : Hp) (σ : L2.St) (G H : Hp) (ρ : Rho) (Q : Bool → Hp → Prop), EnvS K G0 H0 σ G H ρ → RR K mg W RB σ G H Q (me ρ) → tt σ H Q
def SndA (K : PySem.W.Frag) (mg : Str → Option Value) (W : WX) (ta : TA) (me : Rho → Res (List Val)) : Prop :=
  ∀ (G0 : Bs) (H0 : Hp) (σ : L2.St) (G H : Hp) (ρ : Rho) (Q : List V → Hp → Prop), EnvS K G0 H0 σ G H ρ → RR K mg W (RA K) σ G H Q (me ρ) → ta σ H Q
def SndO (K : PySem.W.Frag) (mg : Str → Option Value) (W : WX) (to : TO) (me : Rho → Res (Option Int)) : Prop :=
  ∀ (G0 : Bs) (H0 : Hp) (σ : L2.St) (G H : Hp) (ρ : Rho) (Q : Option Int → Hp → Prop), EnvS K G0 H0 σ G H ρ → RR K mg W RO σ G H Q (me ρ) → to σ H Q
def OutR (K : PySem.W.Frag) (mg : Str → Option Value) (W : WX) (G0 : Bs) (H0 Gs : Hp) (D : Ends) : Out → Prop
  | .nx ρ => ∀ σ G H, EnvS K G0 H0 σ G H ρ → Same Gs G → D.nx σ H
  | .bk ρ => ∀ σ G H, EnvS K G0 H0 σ G H ρ → Same Gs G → D.bk σ H
  | .ct ρ => ∀ σ G H, EnvS K G0 H0 σ G H ρ → Same Gs G → D.ct σ H
  | .rt r => ∀ G H v, Ext G0.g H0 G H → VR K H0 G H v r → D.rt v H
  | .rx r ρ => ∀ σ G H v, EnvS K G0 H0 σ G H ρ → Same Gs G → VR K H0 G H v r → (∀ ys : List PyData, r = .ow ys → ∀ (j : Nat) (xs : List PyData), ρ[j]? = some (some (Val.io xs)) → σ[j]? ≠ some (some v)) → D.rt v H
  | .ex n fs ρ => ∀ σ G H C d, EnvS K G0 H0 σ G H ρ → Same Gs G → mg n = some (.ref C) → XR fs K d G H → W (.ref C) d σ H
  | .no => False
theorem OutR.up {K : PySem.W.Frag} {mg : Str → Option Value} {W : WX} {G0 : Bs} {H0 G G' : Hp} {D : Ends} {o : Out} (e : Same G G') (h : OutR K mg W G0 H0 G D o) : OutR K mg W G0 H0 G' D o := by
  cases o with
  | nx ρ => exact fun σ G1 H I s => h σ G1 H I (e.trans s)
  | bk ρ => exact fun σ G1 H I s => h σ G1 H I (e.trans s)
  | ct ρ => exact fun σ G1 H I s => h σ G1 H I (e.trans s)
  | rt r => exact h
  | rx r ρ => exact fun σ G1 H v I s => h σ G1 H v I (e.trans s)
  | ex n fs ρ => exact fun σ G1 H C d I s => h σ G1 H C d I (e.trans s)
  | no => exact h
def SndS (K : PySem.W.Frag) (mg : Str → Option Value) (W : WX) (ts : TS) (ms : Rho → Out) : Prop :=
  ∀ (G0 : Bs) (H0 : Hp) (σ : L2.St) (G H : Hp) (ρ : Rho) (D : Ends), EnvS K G0 H0 σ G H ρ → OutR K mg W G0 H0 G D (ms ρ) → ts D σ H

structure PM (X : Cx) (W : WX) (e : Expr) (te : TE) (me : Rho → Res Val) : Prop where
  p : PE X e te
  s : Snd X.K X.mg W te me
structure PMT (X : Cx) (W : WX) (e : Expr) (tt : TT) (me : Rho → Res Bool) : Prop where
  p : PT X e tt
  s : SndT X.K X.mg W tt me
structure PMW (X : Cx) (W : WX) (e : Expr) (tt : TT) (me : Rho → Res Bool) : Prop where
  p : PW X e tt
  s : SndT X.K X.mg W tt me
structure PMA (X : Cx) (W : WX) (es : List Expr) (ta : TA) (me : Rho → Res (List Val)) : Prop where
  p : PA X es ta
  s : SndA X.K X.mg W ta me
structure PMO (X : Cx) (W : WX) (e : Option Expr) (to : TO) (me : Rho → Res (Option Int)) : Prop where
  p : PO X e to
  s : SndO X.K X.mg W to me
structure PMS (X : Cx) (W : WX) (st : Stmt) (ts : TS) (ms : Rho → Out) : Prop where
  p : PS X st ts
  s : SndS X.K X.mg W ts ms
structure PMSs (X : Cx) (W : WX) (st : List Stmt) (ts : TS) (ms : Rho → Out) : Prop where
  p : PSs X st ts
  s : SndS X.K X.mg W ts ms

/-! ### names, constants -/
def look : Val → Val
  | .ow xs => .bw xs
  | .io xs => .bw xs
  | .ob _ p C fs => .ob false p C fs
  | r => r
def mVar (i : Nat) : Rho → Res Val := fun ρ => match ρ[i]? with
  | some (some r) => .ok (look r)
  | _ => .no
def mC (d : D) : Rho → Res Val := fun _ => .ok (.sh d)
section
variable {K : PySem.W.Frag} {mg : Str → Option Value} {W : WX}
theorem snd_var (i : Nat) : Snd K mg W (tVar i) (mVar i) := by
  intro G0 H0 σ G H ρ Q I h
  unfold mVar at h
  cases e : ρ[i]? with
  | none =>
    rw [e] at h
    exact h.elim
  | some o =>
    cases o with
    | none =>
      rw [e] at h
      exact h.elim
    | some r =>
      rw [e] at h
      obtain ⟨v, hv, hs⟩ := I.slot i r e
      refine ⟨v, hv, h G H v (Ext.refl I.s) ?_⟩
      cases r with
      | sh d => exact hs
      | ow xs =>
        obtain ⟨p, vs, a, b, c, d, k⟩ := hs
        exact ⟨p, vs, a, b, k⟩
      | bw xs =>
        obtain ⟨p, vs, a, b, k⟩ := hs
        exact ⟨p, vs, a, I.ext.h _ _ b, k⟩
      | fz xs => exact hs
      | io xs =>
        obtain ⟨p, vs, a, b, c, d, k⟩ := hs
        exact ⟨p, vs, a, b, k⟩
      | ob o p C fs =>
        obtain ⟨dx, fv, a, b, _, e, k⟩ := hs
        exact ⟨dx, fv, a, b, (fun z => nomatch z), e, k⟩
theorem snd_c {v : V} {d : D} (h : ∀ G, Rp K G v d) : Snd K mg W (tC v) (mC d) := fun G0 H0 σ G H ρ Q I q => q G H v (Ext.refl I.s) (h G)
end

/-! ### operators -/
/-- an operator on values follows a function on values -/
def OpS (K : PySem.W.Frag) (r : R2) (mo : Val → Val → Option Val) : Prop :=
  ∀ (B G H : Hp) (x y : V) (a b c : Val) (Q : VK), Same G H → VR K B G H x a → VR K B G H y b → mo a b = some c → (∀ G' H' v, Ext G H G' H' → VR K H G' H' v c → Q v H') → r x y H Q
def mOp (mo : Val → Val → Option Val) (ma mb : Rho → Res Val) : Rho → Res Val := fun ρ => (ma ρ).bind fun a => (mb ρ).bind fun b => lift (mo a b)
theorem RR.lift {K : PySem.W.Frag} {mg : Str → Option Value} {W : WX} {α β : Type} {R : Hp → Hp → Hp → β → α → Prop} {σ : L2.St} {G H : Hp} {Q : β → Hp → Prop} {o : Option α} (h : RR K mg W R σ G H Q (lift o)) :
    ∃ a, o = some a ∧ ∀ G' H' v, Ext G H G' H' → R H G' H' v a → Q v H' := by
  cases o with
  | none => exact h.elim
  | some a => exact ⟨a, rfl, h⟩
section
variable {K : PySem.W.Frag} {mg : Str → Option Value} {W : WX} {ta tb : TE} {ma mb : Rho → Res Val}
theorem snd_op {r : R2} {mo : Val → Val → Option Val} (ho : OpS K r mo) (ha : Snd K mg W ta ma) (hb : Snd K mg W tb mb) : Snd K mg W (tOp r ta tb) (mOp mo ma mb) := by
  intro G0 H0 σ G H ρ Q I h
  refine ha G0 H0 σ G H ρ _ I (RR.bnd (Ext.refl I.s) h fun a G1 H1 x ea e1 r1 h1 => ?_)
  refine hb G0 H0 σ G1 H1 ρ _ (I.ext' e1) (RR.bnd e1 h1 fun b G2 H2 y eb e2 r2 h2 => ?_)
  obtain ⟨c, ec, q⟩ := h2.lift
  exact ho H G2 H2 x y a b c Q e2.s (r1.ext e2) (r2.back e1.h) ec fun G' H' v e z => q G' H' v ((e1.trans e2).trans e) (z.back (e1.h.trans e2.h))
end
section
variable {X : Cx} {W : WX} {a b : Expr} {ta tb : TE} {ma mb : Rho → Res Val} {pos : Pos}
theorem pm_var (i : Nat) {x : Str} (hN : X.N[i]? = some x := by rfl) (hv : Vis X.env.scope x := by first | exact Or.inl rfl | exact Or.inr (Or.inl rfl) | exact Or.inr (Or.inr rfl)) (hd : (x == ("__debug__" : Str)) = false := by decide)
    (hcd : (x == ("__classdict__" : Str)) = false := by decide) : PM X W (.Name x pos) (tVar i) (mVar i) := ⟨pe_var hN hv hd hcd, snd_var i⟩
theorem pm_int {i : Int} {j : Nat} : PM X W (.Constant (.int i) j pos) (tC (.int i)) (mC (.int i)) := ⟨pe_int, snd_c fun _ => .int i⟩
theorem pm_bl {b : Bool} {j : Nat} : PM X W (.Constant (.bool b) j pos) (tC (.bl b)) (mC (.bool b)) := ⟨pe_bl, snd_c fun _ => .bl b⟩
theorem pm_non {j : Nat} : PM X W (.Constant .none j pos) (tC .non) (mC .none) := ⟨pe_non, snd_c fun _ => .non⟩
theorem pm_str {x : Str} {j : Nat} : PM X W (.Constant (.str x) j pos) (tC (.str x)) (mC (.str x)) := ⟨pe_str, snd_c fun _ => .str x⟩
theorem pm_glob {x : Str} {v : V} {u : Value} {d : D} (hg : Gl X x) (hm : X.mg x = some u) (r : RelV v u) (hd' : ∀ G, Rp X.K G v d) (hd : (x == ("__debug__" : Str)) = false := by decide) : PM X W (.Name x pos) (tC v) (mC d) := ⟨pe_glob hg hm r hd, snd_c hd'⟩
theorem pm_globI {x : Str} {i : Int} (hm : ∃ t, X.mg x = some (.int i t)) (hg : Gl X x := by rfl) (hd : (x == ("__debug__" : Str)) = false := by decide) : PM X W (.Name x pos) (tC (.int i)) (mC (.int i)) := by
  obtain ⟨t, e⟩ := hm
  exact pm_glob (v := .int i) hg e ⟨t, rfl⟩ (fun _ => .int i) hd
theorem pm_op {op : Operator} {r : R2} {mo : Val → Val → Option Val} (ho : OpR X (binaryOp op) r) (hs : OpS X.K r mo) (ha : PM X W a ta ma) (hb : PM X W b tb mb) : PM X W (.BinOp a op b pos) (tOp r ta tb) (mOp mo ma mb) :=
  ⟨pe_op ho ha.p hb.p, snd_op hs ha.s hb.s⟩
theorem pm_cmp {op : CmpOp} {r : R2} {mo : Val → Val → Option Val} (ho : OpR X (compareOp op) r) (hs : OpS X.K r mo) (ha : PM X W a ta ma) (hb : PM X W b tb mb) (hm : behindInMarks op b = false := by first | exact nomark _ | rfl) : PM X W (.Compare a [op] [b] pos) (tOp r ta tb) (mOp mo ma mb) :=
  ⟨pe_cmpR ho ha.p hb.p hm, snd_op hs ha.s hb.s⟩
theorem pm_ix {r : R2} {mo : Val → Val → Option Val} (hr : IxR X r) (hs : OpS X.K r mo) (ha : PM X W a ta ma) (hb : PM X W b tb mb) (hx : PlainIx b := by exact fun _ _ => rfl) : PM X W (.Subscript a b pos) (tOp r ta tb) (mOp mo ma mb) :=
  ⟨pe_ix hr ha.p hb.p hx, snd_op hs ha.s hb.s⟩
end
end Mi

namespace Mi
open PySem PySem.Spec PyProof.Rows L2

theorem sz_le {n : Nat} (h : n ≤ 100000) : n ≤ sizeLine := Nat.le_trans h (by decide)
theorem sz_lt {n : Nat} (h : n < 100000) : n < sizeLine := Nat.lt_of_lt_of_le h (by decide)

/-! ### ints -/
def oII (g : Int → Int → D) : Val → Val → Option Val
  | .sh (.int i), .sh (.int j) => some (.sh (g i j))
  | _, _ => none
def oIC (C : Int → Int → Bool) (g : Int → Int → D) : Val → Val → Option Val
  | .sh (.int i), .sh (.int j) => if C i j = true then some (.sh (g i j)) else none
  | _, _ => none
section
variable {K : PySem.W.Frag}
theorem oII_inv {g : Int → Int → D} {a b c : Val} (e : oII g a b = some c) : ∃ i j, a = .sh (.int i) ∧ b = .sh (.int j) ∧ c = .sh (g i j) := by
  unfold oII at e
  split at e
  · exact ⟨_, _, rfl, rfl, (Option.some.inj e).symm⟩
  · cases e
theorem oIC_inv {C : Int → Int → Bool} {g : Int → Int → D} {a b c : Val} (e : oIC C g a b = some c) : ∃ i j, a = .sh (.int i) ∧ b = .sh (.int j) ∧ C i j = true ∧ c = .sh (g i j) := by
  unfold oIC at e
  split at e
  · split at e
    · exact ⟨_, _, rfl, rfl, by assumption, (Option.some.inj e).symm⟩
    · cases e
  · cases e
theorem VR.int_ {B G H : Hp} {v : V} {i : Int} (h : VR K B G H v (.sh (.int i))) : v = .int i := by
  cases (show Rp K G v (.int i) from h)
  rfl
theorem VR.str_ {B G H : Hp} {v : V} {x : Str} (h : VR K B G H v (.sh (.str x))) : v = .str x := by
  cases (show Rp K G v (.str x) from h)
  rfl
theorem VR.bool_ {B G H : Hp} {v : V} {b : Bool} (h : VR K B G H v (.sh (.bool b))) : v = .bl b := by
  cases (show Rp K G v (.bool b) from h)
  rfl
theorem VR.non_ {B G H : Hp} {v : V} (h : VR K B G H v (.sh .none)) : v = .non := by
  cases (show Rp K G v .none from h)
  rfl
theorem VR.tup {B G H : Hp} {v : V} {ds : List D} (s : Same G H) (h : VR K B G H v (.sh (.tuple ds))) : ∃ p vs, v = .ref p ∧ SqT K H p vs ∧ RpA K G vs ds := by
  cases (show Rp K G v (.tuple ds) from h) with
  | tup q a => exact ⟨_, _, rfl, same_t s q, a⟩
theorem ops_I0 {gv : Int → Int → V} {gd : Int → Int → D} (h : ∀ G i j, Rp K G (gv i j) (gd i j)) : OpS K (rI0 gv) (oII gd) := by
  intro B G H x y a b c Q s ha hb e q
  obtain ⟨i, j, rfl, rfl, rfl⟩ := oII_inv e
  exact ⟨i, j, ha.int_, hb.int_, q G H _ (Ext.refl s) (h G i j)⟩
theorem ops_I {C : Int → Int → Prop} {Cb : Int → Int → Bool} {gv : Int → Int → V} {gd : Int → Int → D} (hC : ∀ i j, Cb i j = true → C i j) (h : ∀ G i j, Rp K G (gv i j) (gd i j)) : OpS K (rI C gv) (oIC Cb gd) := by
  intro B G H x y a b c Q s ha hb e q
  obtain ⟨i, j, rfl, rfl, hc, rfl⟩ := oIC_inv e
  exact ⟨i, j, ha.int_, hb.int_, hC i j hc, q G H _ (Ext.refl s) (h G i j)⟩
def oAddI := oII fun i j => .int (i + j)
def oSub := oII fun i j => .int (i - j)
def oLt := oII fun i j => .bool (decide (i < j))
def oLe := oII fun i j => .bool (decide (i ≤ j))
def oGt := oII fun i j => .bool (decide (j < i))
def oGe := oII fun i j => .bool (decide (j ≤ i))
def oMulI := oIC (fun i j => decide ((-(2 ^ 64) < i ∧ i < 2 ^ 64) ∨ (-(2 ^ 64) < j ∧ j < 2 ^ 64))) fun i j => .int (i * j)
def oMod := oIC (fun _ j => decide (0 < j)) fun i j => .int (i % j)
def oDiv := oIC (fun _ j => decide (0 < j ∧ j < 1073741824)) fun i j => .int (i / j)
def oPow := oIC (fun i j => decide (0 ≤ j ∧ j ≤ 1000000 ∧ i.natAbs < 2 ^ 64)) fun i j => .int (i ^ j.toNat)
theorem os_addI : OpS K (rI0 fun i j => .int (i + j)) oAddI := ops_I0 fun _ _ _ => .int _
theorem os_sub : OpS K (rI0 fun i j => .int (i - j)) oSub := ops_I0 fun _ _ _ => .int _
theorem os_lt : OpS K (rI0 fun i j => .bl (decide (i < j))) oLt := ops_I0 fun _ _ _ => .bl _
theorem os_le : OpS K (rI0 fun i j => .bl (decide (i ≤ j))) oLe := ops_I0 fun _ _ _ => .bl _
theorem os_gt : OpS K (rI0 fun i j => .bl (decide (j < i))) oGt := ops_I0 fun _ _ _ => .bl _
theorem os_ge : OpS K (rI0 fun i j => .bl (decide (j ≤ i))) oGe := ops_I0 fun _ _ _ => .bl _
theorem os_mulI : OpS K (rI CMul fun i j => .int (i * j)) oMulI := ops_I (fun i j h => (of_decide_eq_true h : (-(2 ^ 64) < i ∧ i < 2 ^ 64) ∨ (-(2 ^ 64) < j ∧ j < 2 ^ 64))) fun _ _ _ => .int _
theorem os_mod : OpS K (rI (fun _ j => 0 < j) fun i j => .int (i % j)) oMod := ops_I (fun _ _ h => of_decide_eq_true h) fun _ _ _ => .int _
theorem os_div : OpS K (rI CDiv fun i j => .int (i / j)) oDiv := ops_I (fun _ j h => (of_decide_eq_true h : 0 < j ∧ j < 1073741824)) fun _ _ _ => .int _
theorem os_pow : OpS K (rI CPow fun i j => .int (i ^ j.toNat)) oPow := ops_I (fun i j h => (of_decide_eq_true h : 0 ≤ j ∧ j ≤ 1000000 ∧ i.natAbs < 2 ^ 64)) fun _ _ _ => .int _
end

/-! ### either of two -/
def r2or (r r' : R2) : R2 := fun x y H Q => r x y H Q ∨ r' x y H Q
theorem or_op {X : Cx} {f : Value → Value → Sem Value} {r r' : R2} (h : OpR X f r) (h' : OpR X f r') : OpR X f (r2or r r') := by
  intro pins s σ H x y v u Q I rx ry hq
  rcases hq with hq | hq
  · exact h pins s σ H x y v u Q I rx ry hq
  · exact h' pins s σ H x y v u Q I rx ry hq
def oOr (m m' : Val → Val → Option Val) : Val → Val → Option Val := fun a b => match m a b with
  | some c => some c
  | none => m' a b
theorem os_or {K : PySem.W.Frag} {r r' : R2} {m m' : Val → Val → Option Val} (h : OpS K r m) (h' : OpS K r' m') : OpS K (r2or r r') (oOr m m') := by
  intro B G H x y a b c Q s ha hb e q
  unfold oOr at e
  cases e1 : m a b with
  | some d =>
    rw [e1] at e
    cases e
    exact .inl (h B G H x y a b _ Q s ha hb e1 q)
  | none =>
    rw [e1] at e
    exact .inr (h' B G H x y a b _ Q s ha hb e q)

/-! ### lists and texts by operators -/
def oCat : Val → Val → Option Val := fun a b => match tlit a, tlit b with
  | some xs, some ys => if xs.length + ys.length ≤ 100000 then some (.ow (xs ++ ys)) else none
  | _, _ => none
theorem os_cat {K : PySem.W.Frag} : OpS K rCat oCat := by
  intro B G H x y a b c Q s ha hb e q
  unfold oCat at e
  split at e
  · split at e
    · rename_i xs ys e1 e2 hl
      obtain ⟨p, vs, rfl, hp, ka⟩ := ha.tlist s e1
      obtain ⟨p', us, rfl, hp', kb⟩ := hb.tlist s e2
      cases e
      refine ⟨p, p', vs, us, rfl, rfl, hp, hp', ?_, fun t ht => ?_⟩
      · rw [ka.length, kb.length]
        exact sz_le hl
      · exact q G _ _ (Ext.newO s ht) ⟨t, _, rfl, upd_same, s.free ht, ht, ka.append kb⟩
    · cases e
  · cases e
def oStrCat : Val → Val → Option Val
  | .sh (.str x), .sh (.str y) => if x.length + y.length ≤ 100000 then some (.sh (.str (x ++ y))) else none
  | _, _ => none
theorem os_strcat {K : PySem.W.Frag} : OpS K (fun x y H Q => ∃ i j, x = .str i ∧ y = .str j ∧ i.length + j.length ≤ sizeLine ∧ Q (.str (i ++ j)) H) oStrCat := by
  intro B G H x y a b c Q s ha hb e q
  unfold oStrCat at e
  split at e
  · split at e
    · rename_i hl
      cases e
      exact ⟨_, _, ha.str_, hb.str_, sz_le hl, q G H _ (Ext.refl s) (.str _)⟩
    · cases e
  · cases e
def oAdd := oOr oAddI (oOr oStrCat oCat)
def rep (xs : List D) : Nat → List D
  | 0 => []
  | n + 1 => xs ++ rep xs n
def oRep : Val → Val → Option Val := fun a b => match tlit a, b with
  | some [d], .sh (.int k) => if 0 ≤ k ∧ k ≤ 100000 then some (.ow (List.replicate k.toNat d)) else none
  | _, _ => none
def oMul := oOr oMulI oRep
def oEq : Val → Val → Option Val := fun a b => match dat a, dat b with
  | some d, some e => if (SeqAt.shaped d && SeqAt.shaped e) = true then some (.sh (.bool (PyData.eqv d e))) else none
  | _, _ => none
def oNe : Val → Val → Option Val := fun a b => match dat a, dat b with
  | some d, some e => if (SeqAt.shaped d && SeqAt.shaped e) = true then some (.sh (.bool (!PyData.eqv d e))) else none
  | _, _ => none
mutual
theorem noDict_lay : ∀ {d : D}, d.canLay0 = true → d.hasDict = false
  | .none, _ => by rw [PyData.hasDict]
  | .bool _, _ => by rw [PyData.hasDict]
  | .int _, _ => by rw [PyData.hasDict]
  | .str _, _ => by rw [PyData.hasDict]
  | .list xs, h => by
    rw [PyData.canLay0] at h
    rw [PyData.hasDict]
    exact noDict_lays h
  | .tuple xs, h => by
    rw [PyData.canLay0] at h
    rw [PyData.hasDict]
    exact noDict_lays h
  | .dict _, h => by
    rw [PyData.canLay0] at h
    cases h
theorem noDict_lays : ∀ {ds : List D}, PyData.canLayAll0 ds = true → PyData.hasDictAll ds = false
  | [], _ => by rw [PyData.hasDictAll]
  | d :: ds, h => by
    rw [PyData.canLayAll0, Bool.and_eq_true] at h
    rw [PyData.hasDictAll, noDict_lay h.1, noDict_lays h.2]
    rfl
end
theorem noDict_shaped {d : D} (h : SeqAt.shaped d = true) : d.hasDict = false := noDict_lay (SeqAt.canLay_of_shaped h)
theorem os_eq {K : PySem.W.Frag} : OpS K (rEqD K) oEq := by
  intro B G H x y a b c Q s ha hb e q
  unfold oEq at e
  split at e
  · split at e
    · rename_i d d' e1 e2 hl
      cases e
      rw [Bool.and_eq_true] at hl
      exact ⟨d, d', ha.dp s e1 (noDict_shaped hl.1), hb.dp s e2 (noDict_shaped hl.2), hl.1, hl.2, q G H _ (Ext.refl s) (.bl _)⟩
    · cases e
  · cases e
theorem os_ne {K : PySem.W.Frag} : OpS K (rNeD K) oNe := by
  intro B G H x y a b c Q s ha hb e q
  unfold oNe at e
  split at e
  · split at e
    · rename_i d d' e1 e2 hl
      cases e
      rw [Bool.and_eq_true] at hl
      exact ⟨d, d', ha.dp s e1 (noDict_shaped hl.1), hb.dp s e2 (noDict_shaped hl.2), hl.1, hl.2, q G H _ (Ext.refl s) (.bl _)⟩
    · cases e
  · cases e
/-- x is None -/
def isNone : Val → Bool
  | .sh .none => true
  | _ => false
def oIsN (neg : Bool) : Val → Val → Option Val
  | a, .sh .none => some (.sh (.bool (if neg then !isNone a else isNone a)))
  | _, _ => none
theorem isNone_of {K : PySem.W.Frag} {B G H : Hp} {v : V} {a : Val} (h : VR K B G H v a) : decide (v = .non) = isNone a := by
  cases a with
  | sh d =>
    have h : Rp K G v d := h
    cases h <;> rfl
  | ow xs =>
    obtain ⟨p, vs, rfl, _⟩ := h
    rfl
  | bw xs =>
    obtain ⟨p, vs, rfl, _⟩ := h
    rfl
  | fz xs =>
    obtain ⟨p, vs, rfl, _⟩ := h
    rfl
  | io xs =>
    obtain ⟨p, vs, rfl, _⟩ := h
    rfl
  | ob o p C fs =>
    obtain ⟨dx, fv, rfl, _⟩ := h
    rfl
theorem os_isN {K : PySem.W.Frag} : OpS K (fun x y H Q => y = .non ∧ Q (.bl (decide (x = .non))) H) (oIsN false) := by
  intro B G H x y a b c Q s ha hb e q
  unfold oIsN at e
  split at e
  · cases e
    refine ⟨hb.non_, ?_⟩
    rw [isNone_of ha]
    exact q G H _ (Ext.refl s) (.bl _)
  · cases e
theorem os_notN {K : PySem.W.Frag} : OpS K (fun x y H Q => y = .non ∧ Q (.bl (!decide (x = .non))) H) (oIsN true) := by
  intro B G H x y a b c Q s ha hb e q
  unfold oIsN at e
  split at e
  · cases e
    refine ⟨hb.non_, ?_⟩
    rw [isNone_of ha]
    exact q G H _ (Ext.refl s) (.bl _)
  · cases e
/-- x in xs, flat -/
def flatD : D → Bool
  | .none => true
  | .bool _ => true
  | .int _ => true
  | .str _ => true
  | _ => false
def inD (d : D) (xs : List D) : Bool := xs.any fun z => PyData.eqv z d
theorem flat_of {K : PySem.W.Frag} {G : Hp} {v : V} {d : D} (h : Rp K G v d) : flatV v = flatD d := by
  cases h <;> rfl
theorem eqv_of {K : PySem.W.Frag} {G : Hp} {v u : V} {d e : D} (h : Rp K G v d) (k : Rp K G u e) (f : flatD d = true) (g : flatD e = true) : eqV v u = PyData.eqv d e := by
  cases h <;> cases k <;> first | rfl | (simp [eqV, PyData.eqv]; done) | (cases f; done) | (cases g; done) | (simp only [eqV, PyData.eqv])
theorem flats_of {K : PySem.W.Frag} {G : Hp} : ∀ {xs : List D} {vs : List V}, RpA K G vs xs → vs.all flatV = xs.all flatD
  | [], _, .nil => rfl
  | _ :: _, _, .cons h a => by rw [List.all_cons, List.all_cons, flat_of h, flats_of a]
theorem inV_of {K : PySem.W.Frag} {G : Hp} {v : V} {d : D} (h : Rp K G v d) (f : flatD d = true) : ∀ {xs : List D} {vs : List V}, RpA K G vs xs → xs.all flatD = true → inV v vs = inD d xs
  | [], _, .nil, _ => rfl
  | x :: xs, _, .cons k a, g => by
    rw [List.all_cons, Bool.and_eq_true] at g
    have ih := inV_of h f a g.2
    unfold inV inD at ih ⊢
    rw [List.any_cons, List.any_cons, ih, eqv_of k h g.1 f]
def seqOf : Val → Option (List D)
  | .sh (.tuple xs) => some xs
  | r => lit r
def oIn (neg : Bool) : Val → Val → Option Val := fun a b => match a, seqOf b with
  | .sh d, some xs => if (flatD d && xs.all flatD) = true then some (.sh (.bool (if neg then !inD d xs else inD d xs))) else none
  | _, _ => none
theorem VR.seq {K : PySem.W.Frag} {B G H : Hp} {v : V} {r : Val} {xs : List D} (s : Same G H) (h : VR K B G H v r) (e : seqOf r = some xs) : ∃ p vs, v = .ref p ∧ (SqL K H p vs ∨ SqT K H p vs) ∧ RpA K G vs xs := by
  unfold seqOf at e
  split at e
  · cases e
    obtain ⟨p, vs, a, b, c⟩ := h.tup s
    exact ⟨p, vs, a, .inr b, c⟩
  · obtain ⟨p, vs, a, b, c⟩ := h.list s e
    exact ⟨p, vs, a, .inl b, c⟩
theorem os_in {K : PySem.W.Frag} {neg : Bool} : OpS K (rIn K neg) (oIn neg) := by
  intro B G H x y a b c Q s ha hb e q
  unfold oIn at e
  split at e
  · split at e
    · rename_i d xs e2 hl
      cases e
      rw [Bool.and_eq_true] at hl
      obtain ⟨p, vs, rfl, hp, k⟩ := hb.seq s e2
      have hd : Rp K G x d := ha
      refine ⟨p, vs, rfl, hp, ?_, ?_, ?_⟩
      · rw [flat_of hd]
        exact hl.1
      · rw [flats_of k]
        exact hl.2
      · rw [inV_of hd hl.1 k hl.2]
        exact q G H _ (Ext.refl s) (.bl _)
    · cases e
  · cases e
/-- s in t, texts -/
def oInS (neg : Bool) : Val → Val → Option Val
  | .sh (.str i), .sh (.str j) => some (.sh (.bool (if neg then !(!(Builtin.Str.occurrences j i 0 j.length 1).isEmpty) else !(Builtin.Str.occurrences j i 0 j.length 1).isEmpty)))
  | _, _ => none
theorem os_inS {K : PySem.W.Frag} : OpS K (fun x y H Q => ∃ i j, x = .str i ∧ y = .str j ∧ Q (.bl (!(Builtin.Str.occurrences j i 0 j.length 1).isEmpty)) H) (oInS false) := by
  intro B G H x y a b c Q s ha hb e q
  unfold oInS at e
  split at e
  · cases e
    exact ⟨_, _, ha.str_, hb.str_, q G H _ (Ext.refl s) (.bl _)⟩
  · cases e
theorem os_notInS {K : PySem.W.Frag} : OpS K (fun x y H Q => ∃ i j, x = .str i ∧ y = .str j ∧ Q (.bl (!(!(Builtin.Str.occurrences j i 0 j.length 1).isEmpty))) H) (oInS true) := by
  intro B G H x y a b c Q s ha hb e q
  unfold oInS at e
  split at e
  · cases e
    exact ⟨_, _, ha.str_, hb.str_, q G H _ (Ext.refl s) (.bl _)⟩
  · cases e
/-- xs[i] -/
def oIx : Val → Val → Option Val := fun a b => match a, b with
  | .sh (.str z), .sh (.int i) => if z.length ≤ 100000 then (atI z.cps.toList i).map fun c => .sh (.str ⟨#[c]⟩) else none
  | a, .sh (.int i) => match seqOf a with
    | some xs => (atI xs i).map .sh
    | none => none
  | _, _ => none
theorem atI_of {K : PySem.W.Frag} {G : Hp} {xs : List D} {vs : List V} {i : Int} {d : D} (k : RpA K G vs xs) (e : atI xs i = some d) : ∃ v, atI vs i = some v ∧ Rp K G v d := by
  unfold atI at e ⊢
  rw [k.length]
  cases h : ixN xs.length i with
  | none =>
    rw [h] at e
    cases e
  | some j =>
    rw [h] at e
    exact k.get e
theorem os_ix {K : PySem.W.Frag} : OpS K (rIx K) oIx := by
  intro B G H x y a b c Q s ha hb e q
  unfold oIx at e
  split at e
  · split at e
    · rename_i z i hl
      cases h : atI z.cps.toList i with
      | none =>
        rw [h] at e
        cases e
      | some cc =>
        rw [h] at e
        cases e
        exact .inr (.inr ⟨z, i, cc, ha.str_, hb.int_, sz_le hl, h, q G H _ (Ext.refl s) (.str _)⟩)
    · cases e
  · rename_i i _
    split at e
    · rename_i xs e2
      cases h : atI xs i with
      | none =>
        rw [h] at e
        cases e
      | some d =>
        rw [h] at e
        cases e
        obtain ⟨p, vs, rfl, hp, k⟩ := ha.seq s e2
        obtain ⟨v, ev, rv⟩ := atI_of k h
        rcases hp with hp | hp
        · exact .inl ⟨p, vs, i, v, rfl, hb.int_, hp, ev, q G H _ (Ext.refl s) rv⟩
        · exact .inr (.inl ⟨p, vs, i, v, rfl, hb.int_, hp, ev, q G H _ (Ext.refl s) rv⟩)
    · cases e
  · cases e
theorem rpa_replicate {K : PySem.W.Frag} {G : Hp} {v : V} {d : D} (h : Rp K G v d) : ∀ n, RpA K G (List.replicate n v) (List.replicate n d)
  | 0 => .nil
  | n + 1 => .cons h (rpa_replicate h n)
theorem flat_rep {α : Type} (v : α) : ∀ n, (List.replicate n [v]).flatten = List.replicate n v
  | 0 => rfl
  | n + 1 => by
    rw [List.replicate_succ, List.flatten_cons, flat_rep v n]
    rfl
theorem rpa_one {K : PySem.W.Frag} {G : Hp} {d : D} {vs : List V} (h : RpA K G vs [d]) : ∃ v, vs = [v] ∧ Rp K G v d := by
  cases h with
  | cons a b =>
    cases b
    exact ⟨_, rfl, a⟩
theorem os_rep {K : PySem.W.Frag} : OpS K rRep oRep := by
  intro B G H x y a b c Q s ha hb e q
  unfold oRep at e
  split at e
  · split at e
    · rename_i d k e1 hl
      obtain ⟨p, vs, rfl, hp, ka⟩ := ha.tlist s e1
      obtain ⟨v, rfl, rv⟩ := rpa_one ka
      cases e
      refine ⟨p, k, [v], rfl, hb.int_, hp, by omega, by omega, ?_, fun t ht => ?_⟩
      · show 1 * k.toNat ≤ _
        exact sz_le (by omega)
      · rw [flat_rep]
        exact q G _ _ (Ext.newO s ht) ⟨t, _, rfl, upd_same, s.free ht, ht, rpa_replicate rv _⟩
    · cases e
  · cases e
end Mi

namespace Mi
open PySem PySem.Spec PyProof.Rows L2

/-! ### argument lists -/
def mNil : Rho → Res (List Val) := fun _ => .ok []
def mCons (ma : Rho → Res Val) (mr : Rho → Res (List Val)) : Rho → Res (List Val) := fun ρ => (ma ρ).bind fun a => (mr ρ).bind fun r => .ok (a :: r)
section
variable {K : PySem.W.Frag} {mg : Str → Option Value} {W : WX} {ta tb : TE} {ma mb : Rho → Res Val} {tr : TA} {mr : Rho → Res (List Val)}
theorem snd_nil : SndA K mg W tNil mNil := fun G0 H0 σ G H ρ Q I q => q G H [] (Ext.refl I.s) .nil
theorem snd_cons (ha : Snd K mg W ta ma) (hr : SndA K mg W tr mr) : SndA K mg W (tCons ta tr) (mCons ma mr) := by
  intro G0 H0 σ G H ρ Q I h
  refine ha G0 H0 σ G H ρ _ I (RR.bnd (Ext.refl I.s) h fun a G1 H1 x ea e1 r1 h1 => ?_)
  refine hr G0 H0 σ G1 H1 ρ _ (I.ext' e1) (RR.bnd e1 h1 fun r G2 H2 y eb e2 r2 h2 => ?_)
  exact h2 G2 H2 (x :: y) (e1.trans e2) (.cons (r1.ext e2) (r2.back e1.h))
end
section
variable {X : Cx} {W : WX} {a b c : Expr} {es : List Expr} {ta tb tc : TE} {tr : TA} {ma mb mc : Rho → Res Val} {mr : Rho → Res (List Val)} {pos : Pos}
theorem pma_nil : PMA X W [] tNil mNil := ⟨pa_nil, snd_nil⟩
theorem pma_cons (ha : PM X W a ta ma) (hr : PMA X W es tr mr) (hs : starEach (a :: es) X.env = (false, eval a X.env) :: starEach es X.env := by rfl) : PMA X W (a :: es) (tCons ta tr) (mCons ma mr) := ⟨pa_cons ha.p hr.p hs, snd_cons ha.s hr.s⟩
end

/-! ### what is handed on as data -/
def esc : Val → Option D
  | .sh d => some d
  | .ow xs => some (.list xs)
  | _ => none
def VW (K : PySem.W.Frag) (B G H : Hp) (v : V) : Val → Prop
  | .sh d => Rp K G v d
  | .ow xs => ∃ p vs, v = .ref p ∧ H p = some (.lst vs) ∧ B p = none ∧ RpA K G vs xs
  | _ => True
theorem VR.vw {K : PySem.W.Frag} {B G H : Hp} {v : V} {r : Val} (h : VR K B G H v r) : VW K B G H v r := by
  cases r with
  | sh d => exact h
  | ow xs =>
    obtain ⟨p, vs, a, b, _, c, k⟩ := h
    exact ⟨p, vs, a, b, c, k⟩
  | bw xs => trivial
  | fz xs => trivial
  | io xs => trivial
  | ob o p C fs => trivial
theorem VW.up {K : PySem.W.Frag} {B G G' H : Hp} {v : V} {r : Val} (e : Same G G') (h : VW K B G H v r) : VW K B G' H v r := by
  cases r with
  | sh d => exact Rp.mono e h
  | ow xs =>
    obtain ⟨p, vs, a, b, c, k⟩ := h
    exact ⟨p, vs, a, b, c, k.mono e⟩
  | bw xs => trivial
  | fz xs => trivial
  | io xs => trivial
  | ob o p C fs => trivial
/-- an own list made steady -/
theorem Ext.frz {Gs Hs G H : Hp} {p : Addr} {o : HO} (e : Ext Gs Hs G H) (hp : H p = some o) (hb : Hs p = none) (hg : G p = none) : Ext Gs Hs (upd G p o) H := by
  refine ⟨e.h, e.g.trans (same_new hg), fun b u q => ?_, fun q hq hg' => ?_⟩
  · by_cases hb' : b = p
    · subst hb'
      rw [upd_same] at q
      rw [← q]
      exact hp
    · rw [upd_ne hb'] at q
      exact e.s _ _ q
  · have z : q ≠ p := fun z => hq (z ▸ hb)
    rw [upd_ne z]
    exact e.n q hq hg'
theorem esc_one {K : PySem.W.Frag} {Gs Hs G H : Hp} {v : V} {r : Val} {d : D} (e : Ext Gs Hs G H) (h : VW K Hs G H v r) (he : esc r = some d) : ∃ G', Ext Gs Hs G' H ∧ Same G G' ∧ Rp K G' v d := by
  cases r with
  | sh d' =>
    cases he
    exact ⟨G, e, Same.refl _, h⟩
  | ow xs =>
    cases he
    obtain ⟨p, vs, rfl, b, c, k⟩ := h
    cases g : G p with
    | none =>
      have s : Same G (upd G p (.lst vs)) := same_new g
      exact ⟨_, e.frz b c g, s, .lst upd_same (k.mono s)⟩
    | some o =>
      have q := e.s _ _ g
      rw [b] at q
      cases q
      exact ⟨G, e, Same.refl _, .lst g k⟩
  | bw xs => cases he
  | fz xs => cases he
  | io xs => cases he
  | ob o p C fs => cases he
def escs : List Val → Option (List D)
  | [] => some []
  | r :: rs => match esc r, escs rs with
    | some d, some ds => some (d :: ds)
    | _, _ => none
theorem esc_all {K : PySem.W.Frag} {Gs Hs H : Hp} : ∀ {rs : List Val} {vs : List V} {G : Hp} {ds : List D}, Ext Gs Hs G H → VRs K Hs G H vs rs → escs rs = some ds → ∃ G', Ext Gs Hs G' H ∧ Same G G' ∧ RpA K G' vs ds := by
  have core : ∀ {rs : List Val} {vs : List V} {G : Hp} {ds : List D}, Ext Gs Hs G H → Paired (fun v r => VW K Hs G H v r) vs rs → escs rs = some ds → ∃ G', Ext Gs Hs G' H ∧ Same G G' ∧ RpA K G' vs ds := by
    intro rs
    induction rs with
    | nil =>
      intro vs G ds e h he
      cases h
      cases he
      exact ⟨G, e, Same.refl _, .nil⟩
    | cons r rs ih =>
      intro vs G ds e h he
      cases h with
      | cons h1 h2 =>
        unfold escs at he
        split at he
        · rename_i d ds' e1 e2
          cases he
          obtain ⟨G1, x1, s1, k1⟩ := esc_one e h1 e1
          have h2' : Paired (fun v r => VW K Hs G1 H v r) ‹List V› rs := by
            clear ih e2
            induction h2 with
            | nil => exact .nil
            | cons a b ih => exact .cons (a.up s1) ih
          obtain ⟨G2, x2, s2, k2⟩ := ih x1 h2' e2
          exact ⟨G2, x2, s1.trans s2, .cons (k1.mono s2) k2⟩
        · cases he
  intro rs vs G ds e h he
  refine core e ?_ he
  clear he
  induction h with
  | nil => exact .nil
  | cons a b ih => exact .cons a.vw ih

/-! ### displays -/
def mLst (ma : Rho → Res (List Val)) : Rho → Res Val := fun ρ => (ma ρ).bind fun as => lift (match escs as with
  | some ds => if ds.length ≤ 100000 then some (.ow ds) else none
  | none => none)
def mTup (ma : Rho → Res (List Val)) : Rho → Res Val := fun ρ => (ma ρ).bind fun as => lift (match escs as with
  | some ds => if ds.length ≤ 100000 then some (.sh (.tuple ds)) else none
  | none => none)
section
variable {K : PySem.W.Frag} {mg : Str → Option Value} {W : WX} {tr : TA} {mr : Rho → Res (List Val)}
theorem snd_lst (ha : SndA K mg W tr mr) : Snd K mg W (tLst tr) (mLst mr) := by
  intro G0 H0 σ G H ρ Q I h
  refine ha G0 H0 σ G H ρ _ I (RR.bnd (Ext.refl I.s) h fun a G1 H1 x ea e1 r1 h1 => ?_)
  obtain ⟨c, ec, q⟩ := h1.lift
  split at ec
  · split at ec
    · rename_i ds e2 hl
      cases ec
      obtain ⟨G2, x2, s2, k2⟩ := esc_all e1 r1 e2
      refine ⟨?_, fun p hp => ?_⟩
      · rw [k2.length]
        exact sz_le hl
      · have hp0 : H p = none := e1.h.free hp
        exact q G2 _ _ (x2.trans (Ext.newO x2.s hp)) ⟨p, x, rfl, upd_same, x2.s.free hp, hp0, k2⟩
    · cases ec
  · cases ec
theorem snd_tup (ha : SndA K mg W tr mr) : Snd K mg W (tTup tr) (mTup mr) := by
  intro G0 H0 σ G H ρ Q I h
  refine ha G0 H0 σ G H ρ _ I (RR.bnd (Ext.refl I.s) h fun a G1 H1 x ea e1 r1 h1 => ?_)
  obtain ⟨c, ec, q⟩ := h1.lift
  split at ec
  · split at ec
    · rename_i ds e2 hl
      cases ec
      obtain ⟨G2, x2, s2, k2⟩ := esc_all e1 r1 e2
      refine ⟨?_, fun p hp => ?_⟩
      · rw [k2.length]
        exact sz_le hl
      · exact q _ _ _ (x2.trans (Ext.newS x2.s hp)) (Rp.tup (.inl (.inl upd_same)) (k2.mono (same_new (x2.s.free hp))))
    · cases ec
  · cases ec
end
section
variable {X : Cx} {W : WX} {a b c e : Expr} {es : List Expr} {ta tb tc te : TE} {tr : TA} {tA tB : TT} {ma mb mc me : Rho → Res Val} {mA mB : Rho → Res Bool} {mr : Rho → Res (List Val)} {pos : Pos}
theorem pm_lst (h : PMA X W es tr mr) : PM X W (.List es pos) (tLst tr) (mLst mr) := ⟨pe_lst h.p, snd_lst h.s⟩
theorem pm_tup {x1} (h : PMA X W es tr mr) : PM X W (.Tuple es x1 pos) (tTup tr) (mTup mr) := ⟨pe_tup h.p, snd_tup h.s⟩
end

/-! ### calls of built-ins -/
def CallS (K : PySem.W.Frag) (r : List V → Hp → VK → Prop) (mo : List Val → Option Val) : Prop :=
  ∀ (B G H : Hp) (vs : List V) (as : List Val) (c : Val) (Q : VK), Same G H → VRs K B G H vs as → mo as = some c → (∀ G' H' v, Ext G H G' H' → VR K H G' H' v c → Q v H') → r vs H Q
def mCall (mo : List Val → Option Val) (ma : Rho → Res (List Val)) : Rho → Res Val := fun ρ => (ma ρ).bind fun as => lift (mo as)
section
variable {K : PySem.W.Frag} {mg : Str → Option Value} {W : WX} {ta : TA} {ma : Rho → Res (List Val)}
theorem snd_call {r : List V → Hp → VK → Prop} {mo : List Val → Option Val} (ho : CallS K r mo) (ha : SndA K mg W ta ma) : Snd K mg W (tCB r ta) (mCall mo ma) := by
  intro G0 H0 σ G H ρ Q I h
  refine ha G0 H0 σ G H ρ _ I (RR.bnd (Ext.refl I.s) h fun a G1 H1 x ea e1 r1 h1 => ?_)
  obtain ⟨c, ec, q⟩ := h1.lift
  exact ho H G1 H1 x a c Q e1.s r1 ec fun G' H' v e z => q G' H' v (e1.trans e) (z.back e1.h)
end
section
variable {X : Cx} {W : WX} {e : Expr} {es : List Expr} {ta : TA} {ma : Rho → Res (List Val)} {p pos : Pos} {id : String} {x : Str} {r : List V → Hp → VK → Prop} {mo : List Val → Option Val} {T : String}
theorem pm_callB (hc : CallR X (.builtin id) r) (hs : CallS X.K r mo) (hm : X.mg x = none) (hv : bootBuiltins x = some (.builtin id)) (ha : PMA X W (e :: es) ta ma) (hg : Gl X x := by rfl) (hn : x ≠ "__name__" := by decide) (hdb : (x == ("__debug__" : Str)) = false := by decide)
    (he : starEach (e :: es) X.env = (false, eval e X.env) :: starEach es X.env := by rfl) (hpl : (backTo pos (starEach es X.env)).any (·.1) = false := by rfl) : PM X W (.Call (.Name x p) (e :: es) [] pos) (tCB r ta) (mCall mo ma) :=
  ⟨pe_callB hc hg hm hv ha.p hn hdb he hpl, snd_call hs ha.s⟩
theorem pm_callTy (hc : CallR X (.type T) r) (hs : CallS X.K r mo) (hm : X.mg x = none) (hv : bootBuiltins x = some (.type T)) (ha : PMA X W (e :: es) ta ma) (hg : Gl X x := by rfl) (hn : x ≠ "__name__" := by decide) (hdb : (x == ("__debug__" : Str)) = false := by decide)
    (he : starEach (e :: es) X.env = (false, eval e X.env) :: starEach es X.env := by rfl) (hpl : (backTo pos (starEach es X.env)).any (·.1) = false := by rfl) : PM X W (.Call (.Name x p) (e :: es) [] pos) (tCB r ta) (mCall mo ma) :=
  ⟨pe_callTy hc hg hm hv ha.p hn hdb he hpl, snd_call hs ha.s⟩
end
theorem vrs1 {K : PySem.W.Frag} {B G H : Hp} {vs : List V} {a : Val} (h : VRs K B G H vs [a]) : ∃ v, vs = [v] ∧ VR K B G H v a := by
  cases h with
  | cons h1 h2 =>
    cases h2
    exact ⟨_, rfl, h1⟩
theorem vrs2 {K : PySem.W.Frag} {B G H : Hp} {vs : List V} {a b : Val} (h : VRs K B G H vs [a, b]) : ∃ v u, vs = [v, u] ∧ VR K B G H v a ∧ VR K B G H u b := by
  cases h with
  | cons h1 h2 =>
    obtain ⟨u, rfl, h3⟩ := vrs1 h2
    exact ⟨_, u, rfl, h1, h3⟩
/-- len -/
def cLen : List Val → Option Val
  | [.sh (.str z)] => if z.length ≤ 100000 then some (.sh (.int z.length)) else none
  | [a] => match seqOf a with
    | some xs => some (.sh (.int xs.length))
    | none => none
  | _ => none
theorem cs_len {K : PySem.W.Frag} : CallS K (fun xs H Q => ∃ x n, xs = [x] ∧ LenV K x H n ∧ Q (.int n) H) cLen := by
  intro B G H vs as c Q s h e q
  unfold cLen at e
  split at e
  · split at e
    · rename_i z hl
      cases e
      obtain ⟨v, rfl, h1⟩ := vrs1 h
      cases h1.str_
      exact ⟨_, z.length, rfl, ⟨sz_le hl, rfl⟩, q G H _ (Ext.refl s) (Rp.int _)⟩
    · cases e
  · split at e
    · rename_i xs e2
      cases e
      obtain ⟨v, rfl, h1⟩ := vrs1 h
      obtain ⟨p, us, rfl, hp, k⟩ := h1.seq s e2
      refine ⟨_, us.length, rfl, ?_, ?_⟩
      · rcases hp with hp | hp
        · exact .inl ⟨us, hp, rfl⟩
        · exact .inr ⟨us, hp, rfl⟩
      · rw [k.length]
        exact q G H _ (Ext.refl s) (Rp.int _)
    · cases e
  · cases e
/-- list(xs) -/
def cList : List Val → Option Val
  | [a] => match seqOf a with
    | some xs => some (.ow xs)
    | none => none
  | _ => none
theorem cs_list {K : PySem.W.Frag} : CallS K (fun xs H Q => ∃ p ys, xs = [.ref p] ∧ (SqL K H p ys ∨ SqT K H p ys) ∧ ∀ l, H l = none → Q (.ref l) (upd H l (.lst ys))) cList := by
  intro B G H vs as c Q s h e q
  unfold cList at e
  split at e
  · split at e
    · rename_i xs e2
      cases e
      obtain ⟨v, rfl, h1⟩ := vrs1 h
      obtain ⟨p, us, rfl, hp, k⟩ := h1.seq s e2
      exact ⟨p, us, rfl, hp, fun l hl => q G _ _ (Ext.newO s hl) ⟨l, us, rfl, upd_same, s.free hl, hl, k⟩⟩
    · cases e
  · cases e
/-- ints -/
def intOf : D → Option Int
  | .int i => some i
  | _ => none
def intsOf : List D → Option (List Int)
  | [] => some []
  | d :: ds => match intOf d, intsOf ds with
    | some i, some ns => some (i :: ns)
    | _, _ => none
theorem intOf_rp {K : PySem.W.Frag} {G : Hp} {d : D} {v : V} {i : Int} (h : Rp K G v d) (e : intOf d = some i) : v = .int i ∧ d = .int i := by
  cases h <;> cases e
  exact ⟨rfl, rfl⟩
theorem intsOf_rp {K : PySem.W.Frag} {G : Hp} : ∀ {ds : List D} {vs : List V} {ns : List Int}, RpA K G vs ds → intsOf ds = some ns → vs = ns.map V.int ∧ ds = ns.map PyData.int
  | [], _, ns, .nil, e => by
    cases e
    exact ⟨rfl, rfl⟩
  | d :: ds, _, ns, .cons h a, e => by
    unfold intsOf at e
    split at e
    · rename_i i ms e1 e2
      cases e
      obtain ⟨rfl, rfl⟩ := intOf_rp h e1
      obtain ⟨rfl, rfl⟩ := intsOf_rp a e2
      exact ⟨rfl, rfl⟩
    · cases e
theorem intsOf_map : ∀ ns : List Int, intsOf (ns.map PyData.int) = some ns
  | [] => rfl
  | n :: ns => by
    rw [List.map_cons]
    unfold intsOf
    rw [intsOf_map ns]
    rfl
theorem rpa_ints {K : PySem.W.Frag} {G : Hp} : ∀ ns : List Int, RpA K G (ns.map V.int) (ns.map PyData.int)
  | [] => .nil
  | n :: ns => .cons (.int n) (rpa_ints ns)
/-- in ascending order -/
def insI (n : Int) : List Int → List Int
  | [] => [n]
  | m :: ms => if n ≤ m then n :: m :: ms else m :: insI n ms
def isort : List Int → List Int
  | [] => []
  | n :: ns => insI n (isort ns)
theorem insI_perm (n : Int) : ∀ ms : List Int, (insI n ms).Perm (n :: ms)
  | [] => .refl _
  | m :: ms => by
    unfold insI
    split
    · exact .refl _
    · exact ((insI_perm n ms).cons m).trans (.swap n m ms)
theorem isort_perm : ∀ ns : List Int, (isort ns).Perm ns
  | [] => .refl _
  | n :: ns => (insI_perm n (isort ns)).trans ((isort_perm ns).cons n)
theorem insI_sorted (n : Int) : ∀ {ms : List Int}, ms.Pairwise (· ≤ ·) → (insI n ms).Pairwise (· ≤ ·)
  | [], _ => by simp [insI]
  | m :: ms, h => by
    unfold insI
    have hm := List.pairwise_cons.mp h
    split
    · rename_i c
      refine List.pairwise_cons.mpr ⟨fun x hx => ?_, h⟩
      rcases List.mem_cons.mp hx with rfl | hx
      · exact c
      · exact Int.le_trans c (hm.1 x hx)
    · rename_i c
      refine List.pairwise_cons.mpr ⟨fun x hx => ?_, insI_sorted n hm.2⟩
      rcases List.mem_cons.mp ((insI_perm n ms).mem_iff.mp hx) with rfl | hx
      · omega
      · exact hm.1 x hx
theorem isort_sorted : ∀ ns : List Int, (isort ns).Pairwise (· ≤ ·)
  | [] => .nil
  | n :: ns => insI_sorted n (isort_sorted ns)
theorem sorted_uniq : ∀ {xs ys : List Int}, xs.Perm ys → xs.Pairwise (· ≤ ·) → ys.Pairwise (· ≤ ·) → xs = ys
  | [], ys, p, _, _ => p.nil_eq
  | x :: xs, [], p, _, _ => by
    have := p.length_eq
    simp at this
  | x :: xs, y :: ys, p, hx, hy => by
    have h1 := List.pairwise_cons.mp hx
    have h2 := List.pairwise_cons.mp hy
    have e : x = y := by
      have a : x ∈ y :: ys := p.mem_iff.mp List.mem_cons_self
      have b : y ∈ x :: xs := p.mem_iff.mpr List.mem_cons_self
      have a' : y ≤ x := by
        rcases List.mem_cons.mp a with rfl | a
        · exact Int.le_refl _
        · exact h2.1 x a
      have b' : x ≤ y := by
        rcases List.mem_cons.mp b with rfl | b
        · exact Int.le_refl _
        · exact h1.1 y b
      omega
    subst e
    rw [sorted_uniq p.cons_inv h1.2 h2.2]
/-- sorted, ints -/
def cSorted : List Val → Option Val
  | [a] => match lit a with
    | some xs => match intsOf xs with
      | some ns => some (.ow ((isort ns).map .int))
      | none => none
    | none => none
  | _ => none
theorem cs_sorted {K : PySem.W.Frag} : CallS K (rSortedI K) cSorted := by
  intro B G H vs as c Q s h e q
  unfold cSorted at e
  split at e
  · split at e
    · split at e
      · rename_i xs e2 _ ns e3
        cases e
        obtain ⟨v, rfl, h1⟩ := vrs1 h
        obtain ⟨p, us, rfl, hp, k⟩ := h1.list s e2
        obtain ⟨rfl, rfl⟩ := intsOf_rp k e3
        refine ⟨p, ns, rfl, hp, fun ns' l hP hS hl => ?_⟩
        have en : ns' = isort ns := sorted_uniq (hP.trans (isort_perm ns).symm) hS (isort_sorted ns)
        subst en
        exact q G _ _ (Ext.newO s hl) ⟨l, _, rfl, upd_same, s.free hl, hl, rpa_ints _⟩
      · cases e
    · cases e
  · cases e
def cSum : List Val → Option Val
  | [a] => match lit a with
    | some xs => match intsOf xs with
      | some ns => some (.sh (.int ns.sum))
      | none => none
    | none => none
  | _ => none
theorem cs_sum {K : PySem.W.Frag} : CallS K (rSum K) cSum := by
  intro B G H vs as c Q s h e q
  unfold cSum at e
  split at e
  · split at e
    · split at e
      · rename_i xs e2 _ ns e3
        cases e
        obtain ⟨v, rfl, h1⟩ := vrs1 h
        obtain ⟨p, us, rfl, hp, k⟩ := h1.list s e2
        obtain ⟨rfl, rfl⟩ := intsOf_rp k e3
        exact ⟨p, ns, rfl, hp, q G H _ (Ext.refl s) (Rp.int _)⟩
      · cases e
    · cases e
  · cases e
def cInt2 (f : Int → Int → Int) : List Val → Option Val
  | [.sh (.int i), .sh (.int j)] => some (.sh (.int (f i j)))
  | _ => none
theorem cs_int2 {K : PySem.W.Frag} {f : Int → Int → Int} : CallS K (fun xs H Q => ∃ i j, xs = [.int i, .int j] ∧ Q (.int (f i j)) H) (cInt2 f) := by
  intro B G H vs as c Q s h e q
  unfold cInt2 at e
  split at e
  · cases e
    obtain ⟨v, u, rfl, h1, h2⟩ := vrs2 h
    cases h1.int_
    cases h2.int_
    exact ⟨_, _, rfl, q G H _ (Ext.refl s) (Rp.int _)⟩
  · cases e
def cInt1 : List Val → Option Val
  | [.sh (.int i)] => some (.sh (.int i))
  | _ => none
theorem cs_int1 {K : PySem.W.Frag} : CallS K (fun xs H Q => (∃ i, xs = [.int i] ∧ Q (.int i) H) ∨ ∃ k, xs = [.bl k] ∧ Q (.int (if k then 1 else 0)) H) cInt1 := by
  intro B G H vs as c Q s h e q
  unfold cInt1 at e
  split at e
  · cases e
    obtain ⟨v, rfl, h1⟩ := vrs1 h
    cases h1.int_
    exact .inl ⟨_, rfl, q G H _ (Ext.refl s) (Rp.int _)⟩
  · cases e
def cStrI : List Val → Option Val
  | [.sh (.int i)] => if i.natAbs < 1000000 then some (.sh (.str (toString i : String))) else none
  | _ => none
theorem log_small {n : Nat} (h : n < 1000000) : n.log2 < 1920 := by
  by_cases z : n = 0
  · subst z
    decide
  · have h2 : n.log2 < 20 := (Nat.log2_lt z).mpr (Nat.lt_of_lt_of_le h (by decide))
    omega
theorem cs_strI {K : PySem.W.Frag} : CallS K (fun xs H Q => ∃ i, xs = [.int i] ∧ i.natAbs.log2 < 1920 ∧ Q (.str (toString i)) H) cStrI := by
  intro B G H vs as c Q s h e q
  unfold cStrI at e
  split at e
  · split at e
    · rename_i hl
      cases e
      obtain ⟨v, rfl, h1⟩ := vrs1 h
      cases h1.int_
      exact ⟨_, rfl, log_small hl, q G H _ (Ext.refl s) (Rp.str _)⟩
    · cases e
  · cases e
end Mi

namespace Mi
open PySem PySem.Spec PyProof.Rows L2

/-! ### repr -/
def rRepr (K : PySem.W.Frag) : List V → Hp → VK → Prop := fun xs H Q => ∃ v d, xs = [v] ∧ Dp K H v d ∧ d.showable = true ∧ d.hasDict = false ∧ d.depth ≤ 60 ∧ d.shown.length ≤ sizeLine ∧ Q (.str d.shown) H
theorem call_reprD {X : Cx} (gd : X.A.guards = some []) (hu : X.A.units + 64 < cLine) : CallR X (.builtin "repr") (rRepr X.K) := by
  intro pins s σ H xs us Q I r h
  obtain ⟨v, d, rfl, hd, hs, hn, hq, hz, q⟩ := h
  obtain ⟨u, rfl, ru⟩ := vals1 r
  cases hd with
  | non =>
    cases ru
    exact PySem.P.repr_of_none ⟨.str _, H, I.tok _, ⟨_, rfl⟩, q⟩
  | bl b =>
    cases ru
    refine PySem.P.repr_of_bool ⟨.str _, H, I.tok _, ⟨_, rfl⟩, ?_⟩
    cases b <;> exact q
  | int i =>
    obtain ⟨t, rfl⟩ := ru
    exact PySem.P.repr_of_int (of_decide_eq_true hs) ⟨.str _, H, I.tok _, ⟨_, rfl⟩, q⟩
  | str x =>
    obtain ⟨t, rfl⟩ := ru
    exact PySem.P.repr_of_str ⟨.str _, H, I.tok _, ⟨_, rfl⟩, q⟩ hz
  | @lst a vs ds hl ha =>
    cases ru
    obtain ⟨as, hr⟩ := Dp.reads I (.list ds) (.ref a) (.ref a) (.lst hl ha) rfl
    exact repr_of_reads' hr hs (PyData.noDict_hsm hn) gd (by omega) (fun _ _ e => e) (fun h' u tk hk => ⟨.str _, H, I.kept hk, ⟨_, rfl⟩, q⟩) hz
  | @tup a vs ds hl ha =>
    cases ru
    obtain ⟨as, hr⟩ := Dp.reads I (.tuple ds) (.ref a) (.ref a) (.tup hl ha) rfl
    exact repr_of_reads' hr hs (PyData.noDict_hsm hn) gd (by omega) (fun _ _ e => e) (fun h' u tk hk => ⟨.str _, H, I.kept hk, ⟨_, rfl⟩, q⟩) hz
/-- data that repr shows -/
def shows (d : D) : Bool := d.showable && !d.hasDict && decide (d.depth ≤ 60) && decide (d.shown.length ≤ 100000)
def cRepr : List Val → Option Val
  | [a] => match dat a with
    | some d => if shows d = true then some (.sh (.str d.shown)) else none
    | none => none
  | _ => none
theorem cs_repr {K : PySem.W.Frag} : CallS K (rRepr K) cRepr := by
  intro B G H vs as c Q s h e q
  unfold cRepr at e
  split at e
  · split at e
    · split at e
      · rename_i d e1 hl
        cases e
        obtain ⟨v, rfl, h1⟩ := vrs1 h
        unfold shows at hl
        simp only [Bool.and_eq_true, Bool.not_eq_true', decide_eq_true_eq] at hl
        exact ⟨v, d, rfl, h1.dp s e1 hl.1.1.2, hl.1.1.1, hl.1.1.2, hl.1.2, sz_le hl.2, q G H _ (Ext.refl s) (Rp.str _)⟩
      · cases e
    · cases e
  · cases e

/-! ### tests -/
def truth : Val → Option Bool
  | .sh .none => some false
  | .sh (.bool b) => some b
  | .sh (.int i) => some (i != 0)
  | .sh (.str z) => if z.length ≤ 100000 then some ((z.length : Int) != 0) else none
  | a => match seqOf a with
    | some xs => some (!xs.isEmpty)
    | none => none
def boolOf : Val → Option Bool
  | .sh (.bool b) => some b
  | _ => none
def mTest (ma : Rho → Res Val) : Rho → Res Bool := fun ρ => (ma ρ).bind fun a => lift (boolOf a)
def mTru (ma : Rho → Res Val) : Rho → Res Bool := fun ρ => (ma ρ).bind fun a => lift (truth a)
def mAnd (ma mb : Rho → Res Bool) : Rho → Res Bool := fun ρ => (ma ρ).bind fun a => if a = true then mb ρ else .ok false
def mOr (ma mb : Rho → Res Bool) : Rho → Res Bool := fun ρ => (ma ρ).bind fun a => if a = true then .ok true else mb ρ
def mNot (ma : Rho → Res Bool) : Rho → Res Bool := fun ρ => (ma ρ).bind fun a => .ok (!a)
def mAndV (ma mb : Rho → Res Val) : Rho → Res Val := fun ρ => (ma ρ).bind fun a => (lift (boolOf a)).bind fun a => if a = true then mb ρ else .ok (.sh (.bool false))
def mOrV (ma mb : Rho → Res Val) : Rho → Res Val := fun ρ => (ma ρ).bind fun a => (lift (boolOf a)).bind fun a => if a = true then .ok (.sh (.bool true)) else mb ρ
def mNotV (ma : Rho → Res Val) : Rho → Res Val := fun ρ => (ma ρ).bind fun a => (lift (boolOf a)).bind fun a => .ok (.sh (.bool (!a)))
def mIfE (mc : Rho → Res Bool) (ma mb : Rho → Res Val) : Rho → Res Val := fun ρ => (mc ρ).bind fun a => if a = true then ma ρ else mb ρ
def mNeg (ma : Rho → Res Val) : Rho → Res Val := fun ρ => (ma ρ).bind fun a => lift (match a with
  | .sh (.int i) => some (.sh (.int (-i)))
  | _ => none)
/-- a < b < c -/
def mChain (m1 m2 : Val → Val → Option Val) (ma mb mc : Rho → Res Val) : Rho → Res Val := fun ρ => (ma ρ).bind fun a => (mb ρ).bind fun b => (lift ((m1 a b).bind boolOf)).bind fun k => if k = true then (mc ρ).bind fun c => lift (m2 b c) else .ok (.sh (.bool false))
section
variable {K : PySem.W.Frag} {mg : Str → Option Value} {W : WX} {ta tb tc : TE} {ma mb mc : Rho → Res Val} {tA tB : TT} {mA mB : Rho → Res Bool}
theorem boolOf_inv {K : PySem.W.Frag} {B G H : Hp} {v : V} {a : Val} {b : Bool} (h : VR K B G H v a) (e : boolOf a = some b) : v = .bl b := by
  unfold boolOf at e
  split at e
  · cases e
    exact h.bool_
  · cases e
theorem RR.start {α β : Type} {R : Hp → Hp → Hp → β → α → Prop} {σ : L2.St} {G H : Hp} {Q : β → Hp → Prop} {m : Res α} {G1 H1 : Hp} (e : Ext G H G1 H1) (bk : ∀ G' H' v r, R H1 G' H' v r → R H G' H' v r) (h : RR K mg W R σ G H Q m) : RR K mg W R σ G1 H1 Q m := by
  cases m with
  | ok a => exact fun G2 H2 v e2 q => h G2 H2 v (e.trans e2) (bk _ _ _ _ q)
  | ex n fs => exact fun G' H' C d e' a b => h G' H' C d (e.trans e') a b
  | no => exact h
theorem snd_test (ha : Snd K mg W ta ma) : SndT K mg W (tTest ta) (mTest ma) := by
  intro G0 H0 σ G H ρ Q I h
  refine ha G0 H0 σ G H ρ _ I (RR.bnd (Ext.refl I.s) h fun a G1 H1 x ea e1 r1 h1 => ?_)
  obtain ⟨c, ec, q⟩ := h1.lift
  exact ⟨c, boolOf_inv r1 ec, q G1 H1 c e1 rfl⟩
theorem snd_tru (ha : Snd K mg W ta ma) : SndT K mg W (fun σ H Q => ta σ H fun x H' => ∃ k, TruV K x H' k ∧ Q k H') (mTru ma) := by
  intro G0 H0 σ G H ρ Q I h
  refine ha G0 H0 σ G H ρ _ I (RR.bnd (Ext.refl I.s) h fun a G1 H1 x ea e1 r1 h1 => ?_)
  obtain ⟨c, ec, q⟩ := h1.lift
  refine ⟨c, ?_, q G1 H1 c e1 rfl⟩
  unfold truth at ec
  split at ec
  · cases ec
    cases r1.non_
    rfl
  · cases ec
    cases r1.bool_
    rfl
  · cases ec
    cases r1.int_
    rfl
  · split at ec
    · rename_i z hl
      cases ec
      cases r1.str_
      exact ⟨sz_le hl, rfl⟩
    · cases ec
  · split at ec
    · rename_i xs e2
      cases ec
      obtain ⟨p, vs, rfl, hp, k⟩ := r1.seq e1.s e2
      have en : vs.isEmpty = xs.isEmpty := by
        cases k <;> rfl
      rw [← en]
      rcases hp with hp | hp
      · exact .inl ⟨vs, hp, rfl⟩
      · exact .inr (.inl ⟨vs, hp, rfl⟩)
    · cases ec
theorem snd_and (ha : SndT K mg W tA mA) (hb : SndT K mg W tB mB) : SndT K mg W (tAnd tA tB) (mAnd mA mB) := by
  intro G0 H0 σ G H ρ Q I h
  refine ha G0 H0 σ G H ρ _ I (RR.bnd (Ext.refl I.s) h fun a G1 H1 x ea e1 r1 h1 => ?_)
  cases (show x = a from r1)
  cases a with
  | true => exact iteT (hb G0 H0 σ G1 H1 ρ _ (I.ext' e1) (RR.start e1 (fun _ _ _ _ z => z) h1))
  | false => exact iteF (h1 G1 H1 false e1 rfl)
theorem snd_or (ha : SndT K mg W tA mA) (hb : SndT K mg W tB mB) : SndT K mg W (tOr tA tB) (mOr mA mB) := by
  intro G0 H0 σ G H ρ Q I h
  refine ha G0 H0 σ G H ρ _ I (RR.bnd (Ext.refl I.s) h fun a G1 H1 x ea e1 r1 h1 => ?_)
  cases (show x = a from r1)
  cases a with
  | false => exact iteF (hb G0 H0 σ G1 H1 ρ _ (I.ext' e1) (RR.start e1 (fun _ _ _ _ z => z) h1))
  | true => exact iteT (h1 G1 H1 true e1 rfl)
theorem snd_not (ha : SndT K mg W tA mA) : SndT K mg W (tNot tA) (mNot mA) := by
  intro G0 H0 σ G H ρ Q I h
  refine ha G0 H0 σ G H ρ _ I (RR.bnd (Ext.refl I.s) h fun a G1 H1 x ea e1 r1 h1 => ?_)
  cases (show x = a from r1)
  exact h1 G1 H1 _ e1 rfl
theorem snd_andV (ha : Snd K mg W ta ma) (hb : Snd K mg W tb mb) : Snd K mg W (tAndV ta tb) (mAndV ma mb) := by
  intro G0 H0 σ G H ρ Q I h
  refine ha G0 H0 σ G H ρ _ I (RR.bnd (Ext.refl I.s) h fun a G1 H1 x ea e1 r1 h1 => ?_)
  cases eb : boolOf a with
  | none =>
    rw [eb] at h1
    exact h1.elim
  | some k =>
    rw [eb] at h1
    refine ⟨k, boolOf_inv r1 eb, ?_⟩
    cases k with
    | true => exact iteT (hb G0 H0 σ G1 H1 ρ _ (I.ext' e1) (RR.start e1 (fun _ _ _ _ z => z.back e1.h) h1))
    | false => exact iteF (h1 G1 H1 _ e1 (Rp.bl _))
theorem snd_orV (ha : Snd K mg W ta ma) (hb : Snd K mg W tb mb) : Snd K mg W (tOrV ta tb) (mOrV ma mb) := by
  intro G0 H0 σ G H ρ Q I h
  refine ha G0 H0 σ G H ρ _ I (RR.bnd (Ext.refl I.s) h fun a G1 H1 x ea e1 r1 h1 => ?_)
  cases eb : boolOf a with
  | none =>
    rw [eb] at h1
    exact h1.elim
  | some k =>
    rw [eb] at h1
    refine ⟨k, boolOf_inv r1 eb, ?_⟩
    cases k with
    | false => exact iteF (hb G0 H0 σ G1 H1 ρ _ (I.ext' e1) (RR.start e1 (fun _ _ _ _ z => z.back e1.h) h1))
    | true => exact iteT (h1 G1 H1 _ e1 (Rp.bl _))
theorem snd_notV (ha : Snd K mg W ta ma) : Snd K mg W (tNotV ta) (mNotV ma) := by
  intro G0 H0 σ G H ρ Q I h
  refine ha G0 H0 σ G H ρ _ I (RR.bnd (Ext.refl I.s) h fun a G1 H1 x ea e1 r1 h1 => ?_)
  cases eb : boolOf a with
  | none =>
    rw [eb] at h1
    exact h1.elim
  | some k =>
    rw [eb] at h1
    exact ⟨k, boolOf_inv r1 eb, h1 G1 H1 _ e1 (Rp.bl _)⟩
theorem snd_ifE (hc : SndT K mg W tA mA) (ha : Snd K mg W ta ma) (hb : Snd K mg W tb mb) : Snd K mg W (tIf tA ta tb) (mIfE mA ma mb) := by
  intro G0 H0 σ G H ρ Q I h
  refine hc G0 H0 σ G H ρ _ I (RR.bnd (Ext.refl I.s) h fun a G1 H1 x ea e1 r1 h1 => ?_)
  cases (show x = a from r1)
  cases a with
  | false => exact iteF (hb G0 H0 σ G1 H1 ρ _ (I.ext' e1) (RR.start e1 (fun _ _ _ _ z => z.back e1.h) h1))
  | true => exact iteT (ha G0 H0 σ G1 H1 ρ _ (I.ext' e1) (RR.start e1 (fun _ _ _ _ z => z.back e1.h) h1))
theorem snd_neg (ha : Snd K mg W ta ma) : Snd K mg W (tUn (rU fun i => .int (-i)) ta) (mNeg ma) := by
  intro G0 H0 σ G H ρ Q I h
  refine ha G0 H0 σ G H ρ _ I (RR.bnd (Ext.refl I.s) h fun a G1 H1 x ea e1 r1 h1 => ?_)
  obtain ⟨c, ec, q⟩ := h1.lift
  split at ec
  · cases ec
    exact ⟨_, r1.int_, q G1 H1 _ e1 (Rp.int _)⟩
  · cases ec
theorem snd_chain {r r' : R2} {m1 m2 : Val → Val → Option Val} (h1 : OpS K r m1) (h2 : OpS K r' m2) (ha : Snd K mg W ta ma) (hb : Snd K mg W tb mb) (hc : Snd K mg W tc mc) : Snd K mg W (tChain r r' ta tb tc) (mChain m1 m2 ma mb mc) := by
  intro G0 H0 σ G H ρ Q I h
  refine ha G0 H0 σ G H ρ _ I (RR.bnd (Ext.refl I.s) h fun a G1 H1 x ea e1 r1 q1 => ?_)
  refine hb G0 H0 σ G1 H1 ρ _ (I.ext' e1) (RR.bnd e1 q1 fun b G2 H2 y eb e2 r2 q2 => ?_)
  cases eo : m1 a b with
  | none =>
    rw [eo] at q2
    exact q2.elim
  | some z =>
    rw [eo] at q2
    refine h1 H G2 H2 x y a b z _ e2.s (r1.ext e2) (r2.back e1.h) eo fun G3 H3 v e3 r3 => ?_
    change RR K mg W (RV K) σ G H Q (Res.bind (lift (boolOf z)) _) at q2
    cases ez : boolOf z with
    | none =>
      rw [ez] at q2
      exact q2.elim
    | some k =>
      rw [ez] at q2
      refine ⟨k, boolOf_inv r3 ez, ?_⟩
      have e03 := (e1.trans e2).trans e3
      cases k with
      | false => exact iteF (q2 G3 H3 _ e03 (Rp.bl _))
      | true =>
        refine iteT (hc G0 H0 σ G3 H3 ρ _ (I.ext' e03) (RR.bnd e03 q2 fun c G4 H4 w ec e4 r4 q4 => ?_))
        obtain ⟨c', ec', q⟩ := q4.lift
        exact h2 H G4 H4 y w b c c' Q e4.s (r2.back e1.h |>.ext e3 |>.ext e4) (r4.back e03.h) ec' fun G' H' v e z => q G' H' v ((e03.trans e4).trans e) (z.back (e03.trans e4).h)
end
section
variable {X : Cx} {W : WX} {a b c : Expr} {rest : List Expr} {ta tb tc : TE} {ma mb mc : Rho → Res Val} {tA tB : TT} {mA mB : Rho → Res Bool} {pos : Pos}
theorem pmt_cmp {op : CmpOp} {r : R2} {mo : Val → Val → Option Val} (ho : OpR X (compareOp op) r) (hs : OpS X.K r mo) (ha : PM X W a ta ma) (hb : PM X W b tb mb) (hm : behindInMarks op b = false := by first | exact nomark _ | rfl) :
    PMT X W (.Compare a [op] [b] pos) (tTest (tOp r ta tb)) (mTest (mOp mo ma mb)) := ⟨pt_cmpR ho ha.p hb.p hm, snd_test (snd_op hs ha.s hb.s)⟩
theorem pmt_chain {op op' : CmpOp} {r r' : R2} {m1 m2 : Val → Val → Option Val} (ho : OpR X (compareOp op) r) (ho' : OpR X (compareOp op') r') (h1 : OpS X.K r m1) (h2 : OpS X.K r' m2) (ha : PM X W a ta ma) (hb : PM X W b tb mb) (hc : PM X W c tc mc)
    (hm : lastMarks [op, op'] [b, c] = false := by with_unfolding_all rfl) : PMT X W (.Compare a [op, op'] [b, c] pos) (tTest (tChain r r' ta tb tc)) (mTest (mChain m1 m2 ma mb mc)) := ⟨pt_chain ho ho' ha.p hb.p hc.p hm, snd_test (snd_chain h1 h2 ha.s hb.s hc.s)⟩
theorem pm_chain {op op' : CmpOp} {r r' : R2} {m1 m2 : Val → Val → Option Val} (ho : OpR X (compareOp op) r) (ho' : OpR X (compareOp op') r') (h1 : OpS X.K r m1) (h2 : OpS X.K r' m2) (ha : PM X W a ta ma) (hb : PM X W b tb mb) (hc : PM X W c tc mc)
    (hm : lastMarks [op, op'] [b, c] = false := by with_unfolding_all rfl) : PM X W (.Compare a [op, op'] [b, c] pos) (tChain r r' ta tb tc) (mChain m1 m2 ma mb mc) := ⟨pe_chain ho ho' ha.p hb.p hc.p hm, snd_chain h1 h2 ha.s hb.s hc.s⟩
theorem pmt_tru (ha : PM X W a ta ma) (he : ∀ whole, isTrue a X.env whole = (do let v ← whole; standAt a.pos; holding [v] (truthy v)) := by intro _; rfl) :
    PMT X W a (fun σ H Q => ta σ H fun x H' => ∃ k, TruV X.K x H' k ∧ Q k H') (mTru ma) := ⟨pt_truth ha.p he, snd_tru ha.s⟩
theorem pmt_not (ha : PMT X W a tA mA) : PMT X W (.UnaryOp .Not a pos) (tNot tA) (mNot mA) := ⟨pt_not ha.p, snd_not ha.s⟩
theorem pmw_and1 (ha : PMT X W a tA mA) : PMW X W (.BoolOp .And [a] pos) tA mA := ⟨pw_and1 ha.p, ha.s⟩
theorem pmw_or1 (ha : PMT X W a tA mA) : PMW X W (.BoolOp .Or [a] pos) tA mA := ⟨pw_or1 ha.p, ha.s⟩
theorem pmw_and (ha : PMT X W a tA mA) (hb : PMW X W (.BoolOp .And (b :: rest) pos) tB mB) : PMW X W (.BoolOp .And (a :: b :: rest) pos) (tAnd tA tB) (mAnd mA mB) := ⟨pw_and ha.p hb.p, snd_and ha.s hb.s⟩
theorem pmw_or (ha : PMT X W a tA mA) (hb : PMW X W (.BoolOp .Or (b :: rest) pos) tB mB) : PMW X W (.BoolOp .Or (a :: b :: rest) pos) (tOr tA tB) (mOr mA mB) := ⟨pw_or ha.p hb.p, snd_or ha.s hb.s⟩
theorem PMW.t (h : PMW X W a tA mA) : PMT X W a tA mA := ⟨h.p.pt, h.s⟩
theorem pm_one {op} (h : PM X W a ta ma) : PM X W (.BoolOp op [a] pos) ta ma := ⟨pe_one h.p, h.s⟩
theorem pm_and (ha : PM X W a ta ma) (hb : PM X W (.BoolOp .And (b :: rest) pos) tb mb) : PM X W (.BoolOp .And (a :: b :: rest) pos) (tAndV ta tb) (mAndV ma mb) := ⟨pe_and ha.p hb.p, snd_andV ha.s hb.s⟩
theorem pm_or (ha : PM X W a ta ma) (hb : PM X W (.BoolOp .Or (b :: rest) pos) tb mb) : PM X W (.BoolOp .Or (a :: b :: rest) pos) (tOrV ta tb) (mOrV ma mb) := ⟨pe_or ha.p hb.p, snd_orV ha.s hb.s⟩
theorem pm_not (ha : PM X W a ta ma) : PM X W (.UnaryOp .Not a pos) (tNotV ta) (mNotV ma) := ⟨pe_not ha.p, snd_notV ha.s⟩
theorem pm_ifE (hc : PMT X W c tA mA) (ha : PM X W a ta ma) (hb : PM X W b tb mb) : PM X W (.IfExp c a b pos) (tIf tA ta tb) (mIfE mA ma mb) := ⟨pe_ifExp hc.p ha.p hb.p, snd_ifE hc.s ha.s hb.s⟩
theorem pm_neg (ha : PM X W a ta ma) : PM X W (.UnaryOp .USub a pos) (tUn (rU fun i => .int (-i)) ta) (mNeg ma) := ⟨pe_un un_neg ha.p, snd_neg ha.s⟩
end
/-! ### slices of lists -/
def cutD (xs : List D) (lo hi : Option Int) : List D := (xs.drop (HT.sIx xs.length 0 lo)).take (HT.sIx xs.length xs.length hi - HT.sIx xs.length 0 lo)
def mNoPart : Rho → Res (Option Int) := fun _ => .ok none
def mPart (ma : Rho → Res Val) : Rho → Res (Option Int) := fun ρ => (ma ρ).bind fun a => lift (match a with
  | .sh (.int i) => some (some i)
  | _ => none)
def mSl (ma : Rho → Res Val) (ml mh : Rho → Res (Option Int)) : Rho → Res Val := fun ρ => (ma ρ).bind fun a => (ml ρ).bind fun l => (mh ρ).bind fun u => lift (match lit a with
  | some xs => some (.ow (cutD xs l u))
  | none => none)
section
variable {K : PySem.W.Frag} {mg : Str → Option Value} {W : WX} {ta : TE} {ma : Rho → Res Val} {tl th : TO} {ml mh : Rho → Res (Option Int)}
theorem snd_noPart : SndO K mg W tNoPart mNoPart := fun G0 H0 σ G H ρ Q I h => h G H none (Ext.refl I.s) rfl
theorem snd_part (ha : Snd K mg W ta ma) : SndO K mg W (tPart ta) (mPart ma) := by
  intro G0 H0 σ G H ρ Q I h
  refine ha G0 H0 σ G H ρ _ I (RR.bnd (Ext.refl I.s) h fun a G1 H1 x ea e1 r1 h1 => ?_)
  obtain ⟨c, ec, q⟩ := h1.lift
  split at ec
  · cases ec
    exact ⟨_, r1.int_, q G1 H1 _ e1 rfl⟩
  · cases ec
theorem snd_sl (ha : Snd K mg W ta ma) (hl : SndO K mg W tl ml) (hh : SndO K mg W th mh) : Snd K mg W (tSl (rSlL K) ta tl th) (mSl ma ml mh) := by
  intro G0 H0 σ G H ρ Q I h
  refine ha G0 H0 σ G H ρ _ I (RR.bnd (Ext.refl I.s) h fun a G1 H1 x ea e1 r1 h1 => ?_)
  refine hl G0 H0 σ G1 H1 ρ _ (I.ext' e1) (RR.bnd e1 h1 fun l G2 H2 y eb e2 r2 h2 => ?_)
  cases (show y = l from r2)
  have e02 := e1.trans e2
  refine hh G0 H0 σ G2 H2 ρ _ (I.ext' e02) (RR.bnd e02 h2 fun u G3 H3 z ez e3 r3 h3 => ?_)
  cases (show z = u from r3)
  obtain ⟨c, ec, q⟩ := h3.lift
  split at ec
  · rename_i xs e4
    cases ec
    obtain ⟨p, vs, rfl, hp, k⟩ := ((r1.ext e2).ext e3).list e3.s e4
    have e03 := e02.trans e3
    refine ⟨p, vs, rfl, hp, fun t ht => q G3 _ _ (e03.trans (Ext.newO e3.s ht)) ⟨t, _, rfl, upd_same, e3.s.free ht, e03.h.free ht, ?_⟩⟩
    unfold cutV cutD
    rw [k.length]
    exact (k.drop _).take _
  · cases ec
end
section
variable {X : Cx} {W : WX} {a : Expr} {ta : TE} {ma : Rho → Res Val} {lo hi : Option Expr} {tl th : TO} {ml mh : Rho → Res (Option Int)} {pos p2 : Pos}
theorem pmo_none : PMO X W none tNoPart mNoPart := ⟨po_none, snd_noPart⟩
theorem pmo_some (ha : PM X W a ta ma) : PMO X W (some a) (tPart ta) (mPart ma) := ⟨po_some ha.p, snd_part ha.s⟩
theorem pm_slice (ha : PM X W a ta ma) (hl : PMO X W lo tl ml) (hh : PMO X W hi th mh) : PM X W (.Subscript a (.Slice lo hi none p2) pos) (tSl (rSlL X.K) ta tl th) (mSl ma ml mh) := ⟨pe_slice sl_list ha.p hl.p hh.p, snd_sl ha.s hl.s hh.s⟩
end
end Mi

namespace Mi
open PySem PySem.Spec PyProof.Rows L2

/-! ### the slots change -/
/-- what a name may take -/
def store : Val → Option Val
  | .bw _ => none
  | .io _ => none
  | r => some r
theorem VR.slot {K : PySem.W.Frag} {H0 H G' H' : Hp} {v : V} {r r' : Val} (e : Same H0 H) (h : VR K H G' H' v r) (es : store r = some r') : r' = r ∧ SlotR K H0 G' H' v r := by
  cases r with
  | sh d =>
    cases es
    exact ⟨rfl, h⟩
  | ow xs =>
    cases es
    obtain ⟨p, vs, a, b, c, d, k⟩ := h
    exact ⟨rfl, p, vs, a, b, c, e.free d, k⟩
  | bw xs => cases es
  | fz xs =>
    cases es
    exact ⟨rfl, h⟩
  | io xs => cases es
  | ob o p C fs =>
    cases es
    exact ⟨rfl, h.up (fun _ z => e.free z) (fun _ _ z => z) (Same.refl _) fun _ _ _ _ z => z⟩
theorem set_get {α : Type} {l : List α} {i j : Nat} {a b : α} (h : (l.set i a)[j]? = some b) : (i = j ∧ b = a ∧ i < l.length) ∨ (i ≠ j ∧ l[j]? = some b) := by
  rw [List.getElem?_set] at h
  by_cases e : i = j
  · rw [if_pos e] at h
    split at h
    · exact .inl ⟨e, (Option.some.inj h).symm, by assumption⟩
    · cases h
  · rw [if_neg e] at h
    exact .inr ⟨e, h⟩
/-- a name takes a value that is new, or steady -/
theorem EnvS.put {K : PySem.W.Frag} {G0 : Bs} {H0 G H G' H' : Hp} {σ : L2.St} {ρ : Rho} {i : Nat} {v : V} {r r' : Val} (I : EnvS K G0 H0 σ G H ρ) (e : Ext G H G' H') (h : VR K H G' H' v r) (es : store r = some r') :
    EnvS K G0 H0 (σ.set i (some v)) G' H' (ρ.set i (some r')) := by
  have J := I.ext' e
  obtain ⟨rfl, hs⟩ := h.slot I.ext.h es
  refine ⟨J.ext, fun j xs hj => ?_, ?_, fun j s hj => ?_, fun j k p r1 s1 hj hk o1 o2 sj sk => ?_⟩
  · rcases set_get hj with ⟨_, e2, _⟩ | ⟨ne, e2⟩
    · cases e2
      cases es
    · rw [List.getElem?_set, if_neg ne]
      exact I.pin j xs e2
  · rw [List.length_set, List.length_set]
    exact J.len
  · rcases set_get hj with ⟨rfl, e2, hl⟩ | ⟨ne, e2⟩
    · cases e2
      refine ⟨v, ?_, hs⟩
      rw [List.getElem?_set, if_pos rfl, if_pos (by rw [J.len]; exact hl)]
    · obtain ⟨u, hu, k⟩ := J.slot j s e2
      refine ⟨u, ?_, k⟩
      rw [List.getElem?_set, if_neg ne]
      exact hu
  · have key : ∀ (j : Nat) (y : Val), owned y = true → i ≠ j → ρ[j]? = some (some y) → σ[j]? = some (some (.ref p)) → H p ≠ none := fun j y oy ne e2 s2 => by
      obtain ⟨u, hu, z⟩ := I.slot j _ e2
      rw [s2] at hu
      cases hu
      cases y with
      | sh d => cases oy
      | bw xs => cases oy
      | fz xs => cases oy
      | ow xs =>
        obtain ⟨q, vs, eu, hq, _⟩ := z
        cases eu
        rw [hq]
        exact Option.some_ne_none _
      | io xs =>
        obtain ⟨q, vs, eu, hq, _⟩ := z
        cases eu
        rw [hq]
        exact Option.some_ne_none _
      | ob o p C fs => cases oy
    have new : ∀ (y : Val), owned y = true → (some y : Option Val) = some r' → v = .ref p → H p = none := fun y oy e2 ev => by
      cases e2
      cases r' with
      | sh d => cases oy
      | bw xs => cases oy
      | fz xs => cases oy
      | ow xs =>
        obtain ⟨q, vs, eq, _, _, hb, _⟩ := h
        rw [ev] at eq
        cases eq
        exact hb
      | io xs => cases es
      | ob o p C fs => cases oy
    rcases set_get hj with ⟨e1, e2, hl⟩ | ⟨ne, e2⟩
    · rcases set_get hk with ⟨e3, e4, hl'⟩ | ⟨ne', e4⟩
      · rw [← e1, ← e3]
      · rcases set_get sj with ⟨_, s1, _⟩ | ⟨z, _⟩
        · rcases set_get sk with ⟨z, _⟩ | ⟨_, s2⟩
          · exact absurd z ne'
          · exact absurd (new _ o1 e2 (Option.some.inj s1).symm) (key k _ o2 ne' e4 s2)
        · exact absurd e1 z
    · rcases set_get sj with ⟨z, _⟩ | ⟨_, s1⟩
      · exact absurd z ne
      · rcases set_get hk with ⟨e3, e4, hl'⟩ | ⟨ne', e4⟩
        · rcases set_get sk with ⟨_, s2, _⟩ | ⟨z, _⟩
          · exact absurd (new _ o2 e4 (Option.some.inj s2).symm) (key j _ o1 ne e2 s1)
          · exact absurd e3 z
        · rcases set_get sk with ⟨z, _⟩ | ⟨_, s2⟩
          · exact absurd z ne'
          · exact J.apart j k p _ _ e2 e4 o1 o2 s1 s2
/-- an own list made steady (nothing happens) -/
def frz (i : Nat) (ρ : Rho) : Rho := match ρ[i]? with
  | some (some (.ow xs)) => ρ.set i (some (.sh (.list xs)))
  | _ => ρ
theorem EnvS.frz {K : PySem.W.Frag} {G0 : Bs} {H0 G H : Hp} {σ : L2.St} {ρ : Rho} (i : Nat) (I : EnvS K G0 H0 σ G H ρ) : ∃ G', EnvS K G0 H0 σ G' H (frz i ρ) ∧ Same G G' := by
  unfold Mi.frz
  split
  · rename_i xs e
    obtain ⟨v, hv, p, vs, rfl, hp, hg, h0, k⟩ := I.slot i _ e
    have s1 : Same G (upd G p (.lst vs)) := same_new hg
    refine ⟨upd G p (.lst vs), ⟨I.ext.frz hp h0 hg, fun j xs hj => ?_, ?_, fun j s hj => ?_, fun j k q r1 r2 hj hk o1 o2 sj sk => ?_⟩, s1⟩
    · rcases set_get hj with ⟨_, e2, _⟩ | ⟨ne, e2⟩
      · cases e2
      · exact I.pin j xs e2
    · rw [List.length_set]
      exact I.len
    · rcases set_get hj with ⟨rfl, e2, hl⟩ | ⟨ne, e2⟩
      · cases e2
        exact ⟨_, hv, .lst upd_same (k.mono s1)⟩
      · obtain ⟨u, hu, z⟩ := I.slot j s e2
        refine ⟨u, hu, ?_⟩
        cases s with
        | sh d => exact Rp.mono s1 z
        | ow ys =>
          obtain ⟨q, us, rfl, hq, gq, h0q, kq⟩ := z
          have nq : q ≠ p := fun z => ne (I.apart i j p _ _ e e2 rfl rfl hv (z ▸ hu))
          exact ⟨q, us, rfl, hq, by rw [upd_ne nq]; exact gq, h0q, kq.mono s1⟩
        | bw ys =>
          obtain ⟨q, us, a, b, c⟩ := z
          exact ⟨q, us, a, b, c.mono s1⟩
        | fz ys =>
          obtain ⟨q, us, a, b, c⟩ := z
          exact ⟨q, us, a, s1.seq b, c.mono s1⟩
        | io ys =>
          obtain ⟨q, us, rfl, hq, gq, h0q, kq⟩ := z
          have nq : q ≠ p := fun z => ne (I.apart i j p _ _ e e2 rfl rfl hv (z ▸ hu))
          exact ⟨q, us, rfl, hq, by rw [upd_ne nq]; exact gq, h0q, kq.mono s1⟩
        | ob o q C fs => exact ObR.up (fun _ z => z) (fun _ _ z => z) s1 (fun _ _ _ z g => by rw [upd_ne (ins_ne z hp)]; exact g) z
    · rcases set_get hj with ⟨_, e2, _⟩ | ⟨ne, e2⟩
      · cases e2
        cases o1
      · rcases set_get hk with ⟨_, e4, _⟩ | ⟨ne', e4⟩
        · cases e4
          cases o2
        · exact I.apart j k q _ _ e2 e4 o1 o2 sj sk
  · exact ⟨G, I, Same.refl _⟩
/-- an own list is changed -/
theorem EnvS.mut {K : PySem.W.Frag} {G0 : Bs} {H0 G H : Hp} {σ : L2.St} {ρ : Rho} {i : Nat} {p : Addr} {xs ys : List D} {us : List V} (I : EnvS K G0 H0 σ G H ρ) (e : ρ[i]? = some (some (.ow xs))) (hv : σ[i]? = some (some (.ref p))) (k : RpA K G us ys) :
    EnvS K G0 H0 σ G (upd H p (.lst us)) (ρ.set i (some (.ow ys))) := by
  obtain ⟨v, hv', q, vs, rfl, hp, hg, h0, kx⟩ := I.slot i _ e
  rw [hv] at hv'
  cases hv'
  refine ⟨⟨fun b o z => ?_, I.ext.g, fun b o z => ?_, I.ext.n⟩, fun j xs hj => ?_, ?_, fun j s hj => ?_, fun j l q r1 r2 hj hl o1 o2 sj sl => ?_⟩
  · rw [upd_ne (ne_of_none z h0)]
    exact I.ext.h _ _ z
  · rw [upd_ne (ne_of_none z hg)]
    exact I.ext.s _ _ z
  · rcases set_get hj with ⟨_, e2, _⟩ | ⟨ne, e2⟩
    · cases e2
    · exact I.pin j xs e2
  · rw [List.length_set]
    exact I.len
  · rcases set_get hj with ⟨rfl, e2, hl⟩ | ⟨ne, e2⟩
    · cases e2
      exact ⟨_, hv, p, us, rfl, upd_same, hg, h0, k⟩
    · obtain ⟨u, hu, z⟩ := I.slot j s e2
      refine ⟨u, hu, ?_⟩
      cases s with
      | sh d => exact z
      | ow zs =>
        obtain ⟨q, ws, rfl, hq, gq, h0q, kq⟩ := z
        have nq : q ≠ p := fun z => ne (I.apart i j p _ _ e e2 rfl rfl hv (z ▸ hu))
        exact ⟨q, ws, rfl, by rw [upd_ne nq]; exact hq, gq, h0q, kq⟩
      | bw zs => exact z
      | fz zs => exact z
      | io zs =>
        obtain ⟨q, ws, rfl, hq, gq, h0q, kq⟩ := z
        have nq : q ≠ p := fun z => ne (I.apart i j p _ _ e e2 rfl rfl hv (z ▸ hu))
        exact ⟨q, ws, rfl, by rw [upd_ne nq]; exact hq, gq, h0q, kq⟩
      | ob o q C fs => exact ObR.up (fun _ z => z) (fun _ _ z => by rw [upd_ne (ins_ne z hp)]; exact z) (Same.refl _) (fun _ _ _ _ g => g) z
  · have back : ∀ (j : Nat) (r : Val), owned r = true → (ρ.set i (some (.ow ys)))[j]? = some (some r) → ∃ w, owned w = true ∧ ρ[j]? = some (some w) := fun j r o hj => by
      rcases set_get hj with ⟨rfl, _, _⟩ | ⟨_, e2⟩
      · exact ⟨_, rfl, e⟩
      · exact ⟨r, o, e2⟩
    obtain ⟨a, oa, ha⟩ := back j r1 o1 hj
    obtain ⟨b, ob, hb⟩ := back l r2 o2 hl
    exact I.apart j l q a b ha hb oa ob sj sl
/-- slots that are not looked at any more -/
theorem EnvS.drop {K : PySem.W.Frag} {G0 : Bs} {H0 G H : Hp} {σ : L2.St} {ρ : Rho} (i : Nat) (o : Option V) (I : EnvS K G0 H0 σ G H ρ) : EnvS K G0 H0 (σ.set i o) G H (ρ.set i none) := by
  refine ⟨I.ext, fun j xs hj => ?_, by rw [List.length_set, List.length_set]; exact I.len, fun j s hj => ?_, fun j l q r1 r2 hj hl o1 o2 sj sl => ?_⟩
  · rcases set_get hj with ⟨_, e2, _⟩ | ⟨ne, e2⟩
    · cases e2
    · rw [List.getElem?_set, if_neg ne]
      exact I.pin j xs e2
  · rcases set_get hj with ⟨_, e2, _⟩ | ⟨ne, e2⟩
    · cases e2
    · rw [List.getElem?_set, if_neg ne]
      exact I.slot j s e2
  · rcases set_get hj with ⟨_, e2, _⟩ | ⟨ne, e2⟩
    · cases e2
    · rcases set_get hl with ⟨_, e4, _⟩ | ⟨ne', e4⟩
      · cases e4
      · rw [List.getElem?_set, if_neg ne] at sj
        rw [List.getElem?_set, if_neg ne'] at sl
        exact I.apart j l q _ _ e2 e4 o1 o2 sj sl

/-! ### statements -/
def sRes {α : Type} (m : Res α) (ρ : Rho) (f : α → Out) : Out := match m with
  | .ok a => f a
  | .ex n fs => .ex n fs ρ
  | .no => .no
theorem RR.out {K : PySem.W.Frag} {mg : Str → Option Value} {W : WX} {α β : Type} {R1 : Hp → Hp → Hp → β → α → Prop} {σ : L2.St} {G0 : Bs} {H0 G H : Hp} {ρ : Rho} {D : Ends} {Q1 : β → Hp → Prop} {m : Res α} {f : α → Out} (I : EnvS K G0 H0 σ G H ρ)
    (h : OutR K mg W G0 H0 G D (sRes m ρ f)) (k : ∀ a G1 H1 v, m = .ok a → Ext G H G1 H1 → R1 H G1 H1 v a → OutR K mg W G0 H0 G1 D (f a) → Q1 v H1) : RR K mg W R1 σ G H Q1 m := by
  cases m with
  | ok a => exact fun G1 H1 v e q => k a G1 H1 v rfl e q (OutR.up e.g h)
  | ex n fs => exact fun G' H' C d e a b => h σ G' H' C d (I.ext' e) e.g a b
  | no => exact h
def mSet (i : Nat) (me : Rho → Res Val) : Rho → Out := fun ρ => sRes (me ρ) ρ fun r => match store r with
  | some r' => .nx (ρ.set i (some r'))
  | none => .no
def mSeq (a b : Rho → Out) : Rho → Out := fun ρ => match a ρ with
  | .nx ρ' => b ρ'
  | o => o
def mSkip : Rho → Out := fun ρ => .nx ρ
def mRet (me : Rho → Res Val) : Rho → Out := fun ρ => sRes (me ρ) ρ fun r => match store r with
  | some r' => .rt r'
  | none => .no
def mRetV (i : Nat) : Rho → Out := fun ρ => match ρ[i]? with
  | some (some r) => .rt r
  | _ => .no
def mRetN : Rho → Out := fun _ => .rt (.sh .none)
def mIf (mc : Rho → Res Bool) (a b : Rho → Out) : Rho → Out := fun ρ => sRes (mc ρ) ρ fun k => if k = true then a ρ else b ρ
def mDrop (me : Rho → Res Val) : Rho → Out := fun ρ => sRes (me ρ) ρ fun _ => .nx ρ
def mBrk : Rho → Out := fun ρ => .bk ρ
def mCnt : Rho → Out := fun ρ => .ct ρ
def mFrz (i : Nat) (a : Rho → Out) : Rho → Out := fun ρ => a (frz i ρ)
def mRaise (n : Str) : Rho → Out := fun ρ => .ex n [] ρ
def mApp (i : Nat) (me : Rho → Res Val) : Rho → Out := fun ρ => match ρ[i]? with
  | some (some (.ow xs)) => sRes (me ρ) ρ fun r => match esc r with
    | some d => if xs.length < 100000 then .nx (ρ.set i (some (.ow (xs ++ [d])))) else .no
    | none => .no
  | _ => .no
def mPut (i : Nat) (mi me : Rho → Res Val) : Rho → Out := fun ρ => sRes (me ρ) ρ fun r => match esc r with
  | some d => match ρ[i]? with
    | some (some (.ow xs)) => sRes (mi ρ) ρ fun k => match k with
      | .sh (.int k) => match ixN xs.length k with
        | some j => .nx (ρ.set i (some (.ow (xs.set j d))))
        | none => .no
      | _ => .no
    | _ => .no
  | none => .no
def mAug (i : Nat) (mo : Val → Val → Option Val) (me : Rho → Res Val) : Rho → Out := fun ρ => match ρ[i]? with
  | some (some a) => sRes (me ρ) ρ fun b => match (mo (look a) b).bind store with
    | some c => .nx (ρ.set i (some c))
    | none => .no
  | _ => .no
section
variable {K : PySem.W.Frag} {mg : Str → Option Value} {W : WX} {te ti : TE} {me mi : Rho → Res Val} {tA : TT} {mA : Rho → Res Bool} {t u : TS} {a b : Rho → Out}
theorem snd_set {i : Nat} (h : Snd K mg W te me) : SndS K mg W (tAsg te (gName i)) (mSet i me) := by
  intro G0 H0 σ G H ρ D I q
  refine h G0 H0 σ G H ρ _ I (RR.out I q fun r G1 H1 v er e1 r1 q1 => ?_)
  split at q1
  · rename_i r' es
    exact q1 _ G1 H1 (I.put e1 r1 es) (Same.refl _)
  · exact q1.elim
theorem snd_seq (ha : SndS K mg W t a) (hb : SndS K mg W u b) : SndS K mg W (tSeq t u) (mSeq a b) := by
  intro G0 H0 σ G H ρ D I q
  refine ha G0 H0 σ G H ρ _ I ?_
  unfold mSeq at q
  cases ea : a ρ with
  | nx ρ' =>
    rw [ea] at q
    exact fun σ' G' H' I' s' => hb G0 H0 σ' G' H' ρ' D I' (OutR.up s' q)
  | rt r =>
    rw [ea] at q
    exact q
  | rx r ρ' =>
    rw [ea] at q
    exact q
  | bk ρ' =>
    rw [ea] at q
    exact q
  | ct ρ' =>
    rw [ea] at q
    exact q
  | ex n fs ρ' =>
    rw [ea] at q
    exact q
  | no =>
    rw [ea] at q
    exact q.elim
theorem snd_skip : SndS K mg W tNext mSkip := fun G0 H0 σ G H ρ D I q => q σ G H I (Same.refl _)
theorem snd_ret (h : Snd K mg W te me) : SndS K mg W (tRet te) (mRet me) := by
  intro G0 H0 σ G H ρ D I q
  refine h G0 H0 σ G H ρ _ I (RR.out I q fun r G1 H1 v er e1 r1 q1 => ?_)
  split at q1
  · rename_i r' es
    obtain ⟨rfl, _⟩ := r1.slot I.ext.h es
    exact q1 G1 H1 v (I.ext.trans e1) (r1.back I.ext.h)
  · exact q1.elim
theorem snd_retV {i : Nat} : SndS K mg W (tRet (tVar i)) (mRetV i) := by
  intro G0 H0 σ G H ρ D I q
  unfold mRetV at q
  split at q
  · rename_i r e
    obtain ⟨v, hv, hs⟩ := I.slot i r e
    refine ⟨v, hv, q G H v I.ext ?_⟩
    cases r with
    | sh d => exact hs
    | ow xs => exact hs
    | bw xs =>
      obtain ⟨p, vs, a, b, k⟩ := hs
      exact ⟨p, vs, a, I.ext.h _ _ b, k⟩
    | fz xs => exact hs
    | io xs =>
      obtain ⟨p, vs, a, b, c, d, k⟩ := hs
      exact ⟨p, vs, a, b, k⟩
    | ob o p C fs => exact hs
  · exact q.elim
theorem snd_retN : SndS K mg W tRetN mRetN := fun G0 H0 σ G H ρ D I q => q G H _ I.ext Rp.non
theorem snd_if (hc : SndT K mg W tA mA) (ha : SndS K mg W t a) (hb : SndS K mg W u b) : SndS K mg W (tIfS tA t u) (mIf mA a b) := by
  intro G0 H0 σ G H ρ D I q
  refine hc G0 H0 σ G H ρ _ I (RR.out I q fun k G1 H1 v er e1 r1 q1 => ?_)
  cases (show v = k from r1)
  cases k with
  | true => exact iteT (ha G0 H0 σ G1 H1 ρ D (I.ext' e1) q1)
  | false => exact iteF (hb G0 H0 σ G1 H1 ρ D (I.ext' e1) q1)
theorem snd_drop (h : Snd K mg W te me) : SndS K mg W (tDrop te) (mDrop me) := by
  intro G0 H0 σ G H ρ D I q
  exact h G0 H0 σ G H ρ _ I (RR.out I q fun r G1 H1 v er e1 r1 q1 => q1 σ G1 H1 (I.ext' e1) (Same.refl _))
theorem snd_brk : SndS K mg W tBreak mBrk := fun G0 H0 σ G H ρ D I q => q σ G H I (Same.refl _)
theorem snd_cnt : SndS K mg W tCont mCnt := fun G0 H0 σ G H ρ D I q => q σ G H I (Same.refl _)
theorem snd_frz {i : Nat} (ha : SndS K mg W t a) : SndS K mg W t (mFrz i a) := by
  intro G0 H0 σ G H ρ D I q
  obtain ⟨G', I', s'⟩ := I.frz i
  exact ha G0 H0 σ G' H _ D I' (OutR.up s' q)
theorem own_get {G0 : Bs} {H0 G H : Hp} {σ : L2.St} {ρ : Rho} {i : Nat} {xs : List D} (I : EnvS K G0 H0 σ G H ρ) (e : ρ[i]? = some (some (.ow xs))) : ∃ p vs, σ[i]? = some (some (.ref p)) ∧ H p = some (.lst vs) ∧ G p = none ∧ RpA K G vs xs := by
  obtain ⟨v, hv, p, vs, rfl, hp, hg, h0, k⟩ := I.slot i _ e
  exact ⟨p, vs, hv, hp, hg, k⟩
theorem snd_app {i : Nat} (h : Snd K mg W te me) : SndS K mg W (tDrop (tBM K "list" rAppend (tVar i) (tCons te tNil))) (mApp i me) := by
  intro G0 H0 σ G H ρ D I q
  unfold mApp at q
  split at q
  · rename_i xs e
    obtain ⟨p, vs, hv, hp, hg, k⟩ := own_get I e
    refine ⟨.ref p, hv, .inl ⟨rfl, vs, SqL.of hp⟩, ?_⟩
    refine h G0 H0 σ G H ρ _ I (RR.out I q fun r G1 H1 v er e1 r1 q1 => ?_)
    split at q1
    · rename_i d ed
      split at q1
      · rename_i hl
        obtain ⟨G2, x2, s2, kd⟩ := esc_one e1 r1.vw ed
        have I2 := I.ext' x2
        obtain ⟨p', vs', hv', hp', hg', k'⟩ := own_get I2 e
        rw [hv] at hv'
        cases hv'
        have ev : vs' = vs := by
          have z := x2.h _ _ hp
          rw [hp'] at z
          cases z
          rfl
        subst ev
        refine ⟨p, vs', v, rfl, rfl, hp', ?_, q1 σ G2 _ (I2.mut e hv (k'.append (.cons kd .nil))) s2⟩
        rw [k.length]
        exact sz_lt hl
      · exact q1.elim
    · exact q1.elim
  · exact q.elim
theorem snd_put {i : Nat} (hi : Snd K mg W ti mi) (h : Snd K mg W te me) : SndS K mg W (tAsg te (gSub (tVar i) ti rSetL)) (mPut i mi me) := by
  intro G0 H0 σ G H ρ D I q
  refine h G0 H0 σ G H ρ _ I (RR.out I q fun r G1 H1 v er e1 r1 q1 => ?_)
  split at q1
  · rename_i d ed
    obtain ⟨G2, x2, s2, kd⟩ := esc_one e1 r1.vw ed
    have I2 := I.ext' x2
    have q1 := OutR.up s2 q1
    split at q1
    · rename_i xs e
      obtain ⟨p, vs, hv, hp, hg, k⟩ := own_get I2 e
      refine ⟨.ref p, hv, ?_⟩
      refine hi G0 H0 σ G2 H1 ρ _ I2 (RR.out I2 q1 fun kk G3 H3 z ez e3 r3 q3 => ?_)
      split at q3
      · split at q3
        · rename_i kk j ej
          have I3 := I2.ext' e3
          obtain ⟨p', vs', hv', hp', hg', k'⟩ := own_get I3 e
          rw [hv] at hv'
          cases hv'
          refine ⟨p, vs', _, j, rfl, r3.int_, hp', ?_, q3 σ G3 _ (I3.mut e hv (RpA.set (Rp.mono e3.g kd) j k')) (Same.refl _)⟩
          rw [k'.length]
          exact ej
        · exact q3.elim
      · exact q3.elim
    · exact q1.elim
  · exact q1.elim
end
section
variable {X : Cx} {W : WX} {e i c : Expr} {te ti : TE} {me mi : Rho → Res Val} {tA : TT} {mA : Rho → Res Bool} {t u : TS} {a b : Rho → Out} {st : Stmt} {sts rest : List Stmt} {pos pos' : Pos}
theorem pms_set (i : Nat) {x : Str} (hN : X.N.Nodup) (h : PM X W e te me) (hi : X.N[i]? = some x := by rfl) (hx : Loc X.env.scope x := by first | exact Or.inl rfl | exact Or.inr rfl) (hs : swapsWith e (some (.Name x pos')) pos.line X.env = pure false := by rfl)
    (hf : X.fn x = true ∨ X.env.scope.names.lookup x = some .local := by first | exact .inl rfl | exact .inr rfl | assumption) : PMS X W (.Assign [.Name x pos'] e pos) (tAsg te (gName i)) (mSet i me) := ⟨ps_set hN hi hx h.p hs hf, snd_set h.s⟩
theorem pms_ret (h : PM X W e te me) : PMS X W (.Return (some e) pos) (tRet te) (mRet me) := ⟨ps_ret h.p, snd_ret h.s⟩
theorem pms_retV (i : Nat) {x : Str} (hN : X.N[i]? = some x := by rfl) (hv : Vis X.env.scope x := by first | exact Or.inl rfl | exact Or.inr (Or.inl rfl) | exact Or.inr (Or.inr rfl)) (hd : (x == ("__debug__" : Str)) = false := by decide)
    (hcd : (x == ("__classdict__" : Str)) = false := by decide) : PMS X W (.Return (some (.Name x pos')) pos) (tRet (tVar i)) (mRetV i) := ⟨ps_ret (pe_var hN hv hd hcd), snd_retV⟩
theorem pms_retN : PMS X W (.Return none pos) tRetN mRetN := ⟨ps_retN, snd_retN⟩
theorem pms_if (hc : PMT X W c tA mA) (ha : PMSs X W sts t a) (hb : PMSs X W rest u b) : PMS X W (.If c sts rest pos) (tIfS tA t u) (mIf mA a b) := ⟨ps_if hc.p ha.p hb.p, snd_if hc.s ha.s hb.s⟩
theorem pms_drop (h : PM X W e te me) (hs : swapsWith e none pos.line X.env = pure false := by rfl) : PMS X W (.Expr e pos) (tDrop te) (mDrop me) := ⟨ps_expr h.p hs, snd_drop h.s⟩
theorem pms_brk : PMS X W (.Break pos) tBreak mBrk := ⟨ps_break, snd_brk⟩
theorem pms_cnt : PMS X W (.Continue pos) tCont mCnt := ⟨ps_continue, snd_cnt⟩
theorem pms_pass : PMS X W (.Pass pos) tNext mSkip := ⟨ps_pass, snd_skip⟩
theorem pms_doc {x j} : PMS X W (.Expr (.Constant (.str x) j pos) pos') tNext mSkip := ⟨ps_doc, snd_skip⟩
theorem pmss_nil : PMSs X W [] tNext mSkip := ⟨pss_nil, snd_skip⟩
theorem pmss_cons (h : PMS X W st t a) (r : PMSs X W rest u b) : PMSs X W (st :: rest) (tSeq t u) (mSeq a b) := ⟨pss_cons h.p r.p, snd_seq h.s r.s⟩
theorem pmss_one (h : PMS X W st t a) : PMSs X W [st] t a := ⟨pss_one h.p, h.s⟩
theorem pmss_frz (i : Nat) (h : PMSs X W sts t a) : PMSs X W sts t (mFrz i a) := ⟨h.p, snd_frz h.s⟩
theorem pms_frz (i : Nat) (h : PMS X W st t a) : PMS X W st t (mFrz i a) := ⟨h.p, snd_frz h.s⟩
theorem pms_app (i : Nat) {x : Str} {p apos cpos : Pos} (h : PM X W e te me) (hN : X.N[i]? = some x := by rfl) (hv : Vis X.env.scope x := by first | exact Or.inl rfl | exact Or.inr (Or.inl rfl) | exact Or.inr (Or.inr rfl)) (hd : (x == ("__debug__" : Str)) = false := by decide)
    (hcd : (x == ("__classdict__" : Str)) = false := by decide)
    (hst : starEach [e] X.env = (false, eval e X.env) :: starEach [] X.env := by rfl)
    (hbase : attributeBase (.Name x p) "append" X.env (eval (.Name x p) X.env) = eval (.Name x p) X.env := by rfl)
    (hfew : ((backTo cpos (starEach [e] X.env)).all (fun x => !x.1) && (backToKw cpos (keywordEach [] X.env)).all (fun x => x.1.isSome) && decide ([e].length + ([] : List Keyword).length + (if ([] : List Keyword).isEmpty then 0 else 1) < 30)) = true := by rfl)
    (hline : (apos.endLine == cpos.line) = true := by rfl) (hplain : (backTo cpos (starEach [] X.env)).any (·.1) = false := by rfl)
    (hs : swapsWith (.Call (.Attribute (.Name x p) "append" apos) [e] [] cpos) none pos.line X.env = pure false := by rfl) :
    PMS X W (.Expr (.Call (.Attribute (.Name x p) "append" apos) [e] [] cpos) pos) (tDrop (tBM X.K "list" rAppend (tVar i) (tCons te tNil))) (mApp i me) :=
  ⟨ps_expr (pe_bm PySem.F.plainAttrs_list PySem.F.slot_list_append PySem.F.type_list_append mt_append (pe_var hN hv hd hcd) (pa_cons h.p pa_nil hst) hbase hfew hline hst hplain) hs, snd_app h.s⟩
theorem pms_put (n : Nat) {x : Str} {p sp : Pos} (hi : PM X W i ti mi) (h : PM X W e te me) (hN : X.N[n]? = some x := by rfl) (hv : Vis X.env.scope x := by first | exact Or.inl rfl | exact Or.inr (Or.inl rfl) | exact Or.inr (Or.inr rfl)) (hd : (x == ("__debug__" : Str)) = false := by decide)
    (hcd : (x == ("__classdict__" : Str)) = false := by decide) (ha : ∀ v, assign (.Subscript (.Name x p) i sp) X.env v = (do
      let ov ← holding [v] (eval (.Name x p) X.env); let iv ← holding [v, ov] (eval i X.env); standAt sp; holding [v, ov, iv] (setItem ov iv v); release [v, ov, iv] []) := by intro _; rfl)
    (hs : swapsWithSole [.Subscript (.Name x p) i sp] e pos.line X.env = pure false := by rfl) (hw : swappedStores [.Subscript (.Name x p) i sp] e X.env = pure none := by rfl)
    (h1 : (assignEach [.Subscript (.Name x p) i sp] X.env).map (·.2) = [assign (.Subscript (.Name x p) i sp) X.env] := by rfl) : PMS X W (.Assign [.Subscript (.Name x p) i sp] e pos) (tAsg te (gSub (tVar n) ti rSetL)) (mPut n mi me) :=
  ⟨ps_asg h.p (pg_sub (pe_var hN hv hd hcd) hi.p set_list ha) hs hw h1, snd_put hi.s h.s⟩
end
end Mi

namespace Mi
open PySem PySem.Spec PyProof.Rows L2

/-! ### targets -/
abbrev BP := D → Rho → Option Rho
/-- only the slots ts differ -/
def OnlyAt (ts : List Nat) (σ σ' : L2.St) : Prop := ∀ us : List Nat, (∀ t ∈ ts, t ∈ us) → wipe σ' us = wipe σ us
theorem OnlyAt.refl {ts : List Nat} {σ : L2.St} : OnlyAt ts σ σ := fun _ _ => rfl
theorem OnlyAt.both {ts us : List Nat} {σ σ1 σ2 : L2.St} (a : OnlyAt ts σ σ1) (b : OnlyAt us σ1 σ2) : OnlyAt (ts ++ us) σ σ2 := fun vs h => (b vs fun t q => h t (List.mem_append_right _ q)).trans (a vs fun t q => h t (List.mem_append_left _ q))
theorem set_same {α : Type} (l : List α) (i : Nat) (a b : α) : (l.set i a).set i b = l.set i b := by
  rw [List.set_set]
theorem wipe_set (i : Nat) (o : Option V) : ∀ (us : List Nat) (σ : L2.St), (i ∈ us → wipe (σ.set i o) us = wipe σ us) ∧ (i ∉ us → wipe (σ.set i o) us = (wipe σ us).set i o)
  | [], σ => ⟨fun h => absurd h (List.not_mem_nil), fun _ => rfl⟩
  | u :: us, σ => by
    have ih := wipe_set i o us σ
    refine ⟨fun h => ?_, fun h => ?_⟩
    · show (wipe (σ.set i o) us).set u none = (wipe σ us).set u none
      by_cases hu : i ∈ us
      · rw [ih.1 hu]
      · have e : i = u := by
          rcases List.mem_cons.mp h with e | e
          · exact e
          · exact absurd e hu
        rw [ih.2 hu, e, set_same]
    · have h1 : i ≠ u := fun e => h (e ▸ List.mem_cons_self)
      have h2 : i ∉ us := fun e => h (List.mem_cons_of_mem _ e)
      show (wipe (σ.set i o) us).set u none = ((wipe σ us).set u none).set i o
      rw [ih.2 h2, List.set_comm _ _ h1]
theorem onlyAt_set {i : Nat} {σ : L2.St} {o : Option V} : OnlyAt [i] σ (σ.set i o) := fun us h => (wipe_set i o us σ).1 (h i List.mem_cons_self)
theorem onlyAt_wipe : ∀ (vs : List Nat) (σ : L2.St), OnlyAt vs σ (wipe σ vs)
  | [], σ => OnlyAt.refl
  | v :: vs, σ => fun us h => by
    show wipe ((wipe σ vs).set v none) us = wipe σ us
    rw [(wipe_set v none us _).1 (h v List.mem_cons_self)]
    exact onlyAt_wipe vs σ us fun t q => h t (List.mem_cons_of_mem _ q)
def SndG (K : PySem.W.Frag) (g : TG) (bp : BP) (ts : List Nat) : Prop := ∀ (G0 : Bs) (H0 : Hp) (σ : L2.St) (G H : Hp) (ρ : Rho) (v : V) (d : D) (ρ' : Rho) (Q : L2.St → Hp → Prop), EnvS K G0 H0 σ G H ρ → Rp K G v d → bp d ρ = some ρ' → (∀ σ', EnvS K G0 H0 σ' G H ρ' → OnlyAt ts σ σ' → Q σ' H) → g v σ H Q
def bName (i : Nat) : BP := fun d ρ => some (ρ.set i (some (.sh d)))
def bNil : List D → Rho → Option Rho := fun ds ρ => match ds with
  | [] => some ρ
  | _ => none
def bCons (b : BP) (r : List D → Rho → Option Rho) : List D → Rho → Option Rho := fun ds ρ => match ds with
  | d :: ds => (b d ρ).bind (r ds)
  | [] => none
def bTup (r : List D → Rho → Option Rho) : BP := fun d ρ => match d with
  | .tuple ds => r ds ρ
  | _ => none
structure SndGs (K : PySem.W.Frag) (g : TGs) (bp : List D → Rho → Option Rho) (n : Nat) (ts : List Nat) : Prop where
  len : ∀ ds ρ ρ', bp ds ρ = some ρ' → ds.length = n
  run : ∀ (G0 : Bs) (H0 : Hp) (σ : L2.St) (G H : Hp) (ρ : Rho) (vs : List V) (ds : List D) (ρ' : Rho) (Q : L2.St → Hp → Prop), EnvS K G0 H0 σ G H ρ → RpA K G vs ds → bp ds ρ = some ρ' → (∀ σ', EnvS K G0 H0 σ' G H ρ' → OnlyAt ts σ σ' → Q σ' H) → g vs σ H Q
structure PMG (X : Cx) (tg : Expr) (g : TG) (bp : BP) (ts : List Nat) : Prop where
  p : PG X tg g
  s : SndG X.K g bp ts
structure PMGs (X : Cx) (tgs : List Expr) (g : TGs) (bp : List D → Rho → Option Rho) (n : Nat) (ts : List Nat) : Prop where
  p : PGs X tgs g
  s : SndGs X.K g bp n ts
theorem sndg_name {K : PySem.W.Frag} {i : Nat} : SndG K (gName i) (bName i) [i] := by
  intro G0 H0 σ G H ρ v d ρ' Q I h e q
  cases e
  exact q _ (I.put (r := .sh d) (Ext.refl I.s) h rfl) onlyAt_set
theorem sndg_nil {K : PySem.W.Frag} : SndGs K gNil bNil 0 [] := by
  refine ⟨fun ds ρ ρ' e => ?_, fun G0 H0 σ G H ρ vs ds ρ' Q I h e q => ?_⟩
  · cases ds with
    | nil => rfl
    | cons d ds => cases e
  · cases h with
    | nil =>
      cases e
      exact ⟨rfl, q _ I OnlyAt.refl⟩
    | cons a b => cases e
theorem sndg_cons {K : PySem.W.Frag} {g : TG} {bp : BP} {gs : TGs} {bs : List D → Rho → Option Rho} {n : Nat} {ts us : List Nat} (h1 : SndG K g bp ts) (h2 : SndGs K gs bs n us) : SndGs K (gCons g gs) (bCons bp bs) (n + 1) (ts ++ us) := by
  refine ⟨fun ds ρ ρ' e => ?_, fun G0 H0 σ G H ρ vs ds ρ' Q I h e q => ?_⟩
  · cases ds with
    | nil => cases e
    | cons d ds =>
      have e : (bp d ρ).bind (bs ds) = some ρ' := e
      cases e1 : bp d ρ with
      | none =>
        rw [e1] at e
        cases e
      | some ρ1 =>
        rw [e1] at e
        exact congrArg (· + 1) (h2.len ds ρ1 ρ' e)
  · cases h with
    | nil => cases e
    | @cons v vs d ds a b =>
      have e : (bp d ρ).bind (bs ds) = some ρ' := e
      cases e1 : bp d ρ with
      | none =>
        rw [e1] at e
        cases e
      | some ρ1 =>
        rw [e1] at e
        exact ⟨v, vs, rfl, h1 G0 H0 σ G H ρ v d ρ1 _ I a e1 fun σ1 I1 o1 => h2.run G0 H0 σ1 G H ρ1 vs ds ρ' Q I1 b e fun σ2 I2 o2 => q σ2 I2 (o1.both o2)⟩
theorem sndg_tup {K : PySem.W.Frag} {gs : TGs} {bs : List D → Rho → Option Rho} {n : Nat} {ts : List Nat} (h : SndGs K gs bs n ts) : SndG K (gTup K n gs) (bTup bs) ts := by
  intro G0 H0 σ G H ρ v d ρ' Q I hd e q
  unfold bTup at e
  split at e
  · cases hd with
    | tup ht ha => exact ⟨_, _, rfl, same_t I.s ht, by rw [ha.length]; exact h.len _ _ _ e, h.run G0 H0 σ G H ρ _ _ ρ' Q I ha e q⟩
  · cases e
section
variable {X : Cx} {g : TG} {bp : BP} {gs : TGs} {bs : List D → Rho → Option Rho} {n : Nat} {ts us : List Nat} {e : Expr} {es : List Expr} {pos : Pos} {k : Nat}
theorem pmg_name (i : Nat) {x : Str} (hN : X.N.Nodup) (hi : X.N[i]? = some x := by rfl) (hx : Loc X.env.scope x := by first | exact Or.inl rfl | exact Or.inr rfl) (hf : X.fn x = true ∨ X.env.scope.names.lookup x = some .local := by first | exact .inl rfl | exact .inr rfl | assumption) :
    PMG X (.Name x pos) (gName i) (bName i) [i] := ⟨pg_name hN hi hx hf, sndg_name⟩
theorem pmg_nil : PMGs X [] gNil bNil 0 [] := ⟨pgs_nil, sndg_nil⟩
theorem pmg_cons (h1 : PMG X e g bp ts) (h2 : PMGs X es gs bs n us) (hs : (assignEach (e :: es) X.env).map (·.2) = assign e X.env :: (assignEach es X.env).map (·.2) := by rfl) : PMGs X (e :: es) (gCons g gs) (bCons bp bs) (n + 1) (ts ++ us) := ⟨pgs_cons h1.p h2.p hs, sndg_cons h1.s h2.s⟩
theorem pmg_tup (hc : X.calm = true) (h : PMGs X es gs bs n ts) (hn : (assignEach es X.env).length = n := by rfl) (hst : (assignEach es X.env).findIdx? (·.1) = none := by rfl) : PMG X (.Tuple es k pos) (gTup X.K n gs) (bTup bs) ts := ⟨pg_tup hc h.p hn hst, sndg_tup h.s⟩
end

/-! ### what is walked -/
structure ItS (K : PySem.W.Frag) (Ga Ha : Hp) (J : It) (xs : List D) : Prop where
  go : ∀ i G H, Same Ga G → Same G H → i < xs.length → J.go i H
  stop : ∀ i G H, Same Ga G → Same G H → xs.length ≤ i → J.stop i H
  yld : ∀ i G H x H', Same Ga G → Same G H → i < xs.length → J.yld i H x H' → ∃ d G', xs[i]? = some d ∧ Ext G H G' H' ∧ Rp K G' x d
abbrev RI (K : PySem.W.Frag) : Hp → Hp → Hp → It → List D → Prop := fun _ G' H' J xs => ItS K G' H' J xs
def SndI (K : PySem.W.Frag) (mg : Str → Option Value) (W : WX) (wi : TI) (mi : Rho → Res (List D)) : Prop :=
  ∀ (G0 : Bs) (H0 : Hp) (σ : L2.St) (G H : Hp) (ρ : Rho) (R : It → Hp → Prop), EnvS K G0 H0 σ G H ρ → RR K mg W (RI K) σ G H R (mi ρ) → wi σ H R
structure PMI (X : Cx) (W : WX) (tg iter : Expr) (wi : TI) (mi : Rho → Res (List D)) : Prop where
  p : PI X tg iter wi
  s : SndI X.K X.mg W wi mi
/-- a list that stays as it is while it is walked -/
def fix : Val → Option (List D)
  | .sh (.list xs) => some xs
  | .ow xs => some xs
  | .fz xs => some xs
  | _ => none
def mIterL (ma : Rho → Res Val) : Rho → Res (List D) := fun ρ => (ma ρ).bind fun a => lift (fix a)
def mIterT (ma : Rho → Res Val) : Rho → Res (List D) := fun ρ => (ma ρ).bind fun a => lift (match a with
  | .sh (.tuple xs) => some xs
  | _ => none)
def rangeD (lo : Int) (n : Nat) : List D := (List.range n).map fun i => .int (lo + (i : Nat))
def mIter1 (ma : Rho → Res (List Val)) : Rho → Res (List D) := fun ρ => (ma ρ).bind fun as => lift (match as with
  | [.sh (.int j)] => if j.natAbs ≤ 1000000 then some (rangeD 0 j.toNat) else none
  | _ => none)
def mIter2 (ma : Rho → Res (List Val)) : Rho → Res (List D) := fun ρ => (ma ρ).bind fun as => lift (match as with
  | [.sh (.int i), .sh (.int j)] => if i.natAbs ≤ 1000000 ∧ j.natAbs ≤ 1000000 then some (rangeD i (j - i).toNat) else none
  | _ => none)
def numbered (k : Nat) : List D → List D
  | [] => []
  | d :: ds => .tuple [.int (k : Nat), d] :: numbered (k + 1) ds
def mIterE (ma : Rho → Res (List Val)) : Rho → Res (List D) := fun ρ => (ma ρ).bind fun as => lift (match as with
  | [a] => (fix a).map (numbered 0)
  | _ => none)
theorem fix_ok {K : PySem.W.Frag} {Gs Hs G H : Hp} {v : V} {r : Val} {xs : List D} (e : Ext Gs Hs G H) (h : VR K Hs G H v r) (ef : fix r = some xs) : ∃ a vs G', v = .ref a ∧ Ext Gs Hs G' H ∧ SqL K G' a vs ∧ RpA K G' vs xs := by
  unfold fix at ef
  split at ef
  · cases ef
    cases (show Rp K G v _ from h) with
    | lst q k => exact ⟨_, _, G, rfl, e, SqL.of q, k⟩
  · cases ef
    obtain ⟨p, vs, rfl, a, b, c, k⟩ := h
    exact ⟨p, vs, _, rfl, e.frz a c b, SqL.of upd_same, k.mono (same_new b)⟩
  · cases ef
    obtain ⟨p, vs, rfl, a, k⟩ := h
    exact ⟨p, vs, G, rfl, e, a, k⟩
  · cases ef
theorem its_list {K : PySem.W.Frag} {Ga Ha : Hp} {a : Addr} {vs : List V} {xs : List D} (h : SqL K Ga a vs) (k : RpA K Ga vs xs) : ItS K Ga Ha (Itl K a) xs := by
  have hv : ∀ {G H : Hp}, Same Ga G → Same G H → SqL K H a vs := fun e1 e2 => e2.seq (e1.seq h)
  refine ⟨fun i G H e1 e2 hi => ?_, fun i G H e1 e2 hi => ⟨vs, hv e1 e2, by rw [k.length]; exact hi⟩, fun i G H x H' e1 e2 hi y => ?_⟩
  · have hi' : i < vs.length := by rw [k.length]; exact hi
    exact ⟨vs, vs[i], hv e1 e2, List.getElem?_eq_getElem hi'⟩
  · obtain ⟨rfl, f⟩ := y
    obtain ⟨d, ed, rd⟩ := k.getV (f vs (hv e1 e2))
    exact ⟨d, G, ed, Ext.refl e2, Rp.mono e1 rd⟩
theorem its_tup {K : PySem.W.Frag} {Ga Ha : Hp} {a : Addr} {vs : List V} {xs : List D} (h : SqT K Ga a vs) (k : RpA K Ga vs xs) : ItS K Ga Ha (Itt K a) xs := by
  have hv : ∀ {G H : Hp}, Same Ga G → Same G H → SqT K H a vs := fun e1 e2 => same_t e2 (same_t e1 h)
  refine ⟨fun i G H e1 e2 hi => ?_, fun i G H e1 e2 hi => ⟨vs, hv e1 e2, by rw [k.length]; exact hi⟩, fun i G H x H' e1 e2 hi y => ?_⟩
  · have hi' : i < vs.length := by rw [k.length]; exact hi
    exact ⟨vs, vs[i], hv e1 e2, List.getElem?_eq_getElem hi'⟩
  · obtain ⟨rfl, f⟩ := y
    obtain ⟨d, ed, rd⟩ := k.getV (f vs (hv e1 e2))
    exact ⟨d, G, ed, Ext.refl e2, Rp.mono e1 rd⟩
theorem rangeD_len (lo : Int) (n : Nat) : (rangeD lo n).length = n := by
  unfold rangeD
  rw [List.length_map, List.length_range]
theorem rangeD_get {lo : Int} {n i : Nat} (h : i < n) : (rangeD lo n)[i]? = some (.int (lo + (i : Nat))) := by
  unfold rangeD
  rw [List.getElem?_map, List.getElem?_range h]
  rfl
theorem its_rng {K : PySem.W.Frag} {Ga Ha : Hp} {lo : Int} {n : Nat} : ItS K Ga Ha (Itr lo n) (rangeD lo n) := by
  refine ⟨fun i G H e1 e2 hi => ?_, fun i G H e1 e2 hi => ?_, fun i G H x H' e1 e2 hi y => ?_⟩
  · rw [rangeD_len] at hi
    exact hi
  · rw [rangeD_len] at hi
    exact hi
  · rw [rangeD_len] at hi
    obtain ⟨rfl, rfl⟩ := y
    exact ⟨_, G, rangeD_get hi, Ext.refl e2, .int _⟩
theorem numbered_len : ∀ (k : Nat) (ds : List D), (numbered k ds).length = ds.length
  | _, [] => rfl
  | k, d :: ds => congrArg (· + 1) (numbered_len (k + 1) ds)
theorem numbered_get : ∀ (k : Nat) (ds : List D) (i : Nat) (d : D), ds[i]? = some d → (numbered k ds)[i]? = some (.tuple [.int ((k + i : Nat) : Int), d])
  | _, [], i, d, h => by simp at h
  | k, x :: ds, 0, d, h => by
    simp at h
    subst h
    rfl
  | k, x :: ds, i + 1, d, h => by
    have h : ds[i]? = some d := by simpa using h
    have e : k + 1 + i = k + (i + 1) := by omega
    have q := numbered_get (k + 1) ds i d h
    rw [e] at q
    exact q
theorem its_enum {K : PySem.W.Frag} {Ga Ha : Hp} {a : Addr} {vs : List V} {xs : List D} (h : SqL K Ga a vs) (k : RpA K Ga vs xs) : ItS K Ga Ha (Ite K a) (numbered 0 xs) := by
  have hv : ∀ {G H : Hp}, Same Ga G → Same G H → SqL K H a vs := fun e1 e2 => e2.seq (e1.seq h)
  refine ⟨fun i G H e1 e2 hi => ?_, fun i G H e1 e2 hi => ⟨vs, hv e1 e2, by rw [k.length, ← numbered_len 0 xs]; exact hi⟩, fun i G H x H' e1 e2 hi y => ?_⟩
  · have hi' : i < vs.length := by rw [k.length, ← numbered_len 0 xs]; exact hi
    exact ⟨vs, vs[i], hv e1 e2, List.getElem?_eq_getElem hi'⟩
  · obtain ⟨T, z, rfl, nT, rfl, f⟩ := y
    obtain ⟨d, ed, rd⟩ := k.getV (f vs (hv e1 e2))
    refine ⟨_, _, numbered_get 0 xs i d ed, Ext.newS e2 nT, ?_⟩
    rw [Nat.zero_add]
    exact Rp.tup (.inl (.inl upd_same)) (.cons (.int _) (.cons (Rp.mono (e1.trans (same_new (e2.free nT))) rd) .nil))
section
variable {K : PySem.W.Frag} {mg : Str → Option Value} {W : WX} {te : TE} {me : Rho → Res Val} {ta : TA} {ma : Rho → Res (List Val)}
theorem sndi_list (h : Snd K mg W te me) : SndI K mg W (iList K te) (mIterL me) := by
  intro G0 H0 σ G H ρ R I q
  refine h G0 H0 σ G H ρ _ I (RR.bnd (Ext.refl I.s) q fun a G1 H1 x ea e1 r1 h1 => ?_)
  obtain ⟨xs, ex, q1⟩ := h1.lift
  obtain ⟨p, vs, G2, rfl, e2, hs, k⟩ := fix_ok e1 r1 ex
  exact ⟨p, rfl, ⟨vs, e2.s.seq hs⟩, q1 G2 H1 _ e2 (its_list hs k)⟩
theorem sndi_tup (h : Snd K mg W te me) : SndI K mg W (iTup K te) (mIterT me) := by
  intro G0 H0 σ G H ρ R I q
  refine h G0 H0 σ G H ρ _ I (RR.bnd (Ext.refl I.s) q fun a G1 H1 x ea e1 r1 h1 => ?_)
  obtain ⟨xs, ex, q1⟩ := h1.lift
  split at ex
  · cases ex
    cases (show Rp K G1 x _ from r1) with
    | tup ht k => exact ⟨_, rfl, ⟨_, same_t e1.s ht⟩, q1 G1 H1 _ e1 (its_tup ht k)⟩
  · cases ex
theorem sndi_1 (h : SndA K mg W ta ma) : SndI K mg W (iRng1 ta) (mIter1 ma) := by
  intro G0 H0 σ G H ρ R I q
  refine h G0 H0 σ G H ρ _ I (RR.bnd (Ext.refl I.s) q fun a G1 H1 x ea e1 r1 h1 => ?_)
  obtain ⟨xs, ex, q1⟩ := h1.lift
  split at ex
  · split at ex
    · cases ex
      obtain ⟨v, rfl, z⟩ := vrs1 r1
      cases z.int_
      exact ⟨_, rfl, by omega, by omega, q1 G1 H1 _ e1 its_rng⟩
    · cases ex
  · cases ex
theorem sndi_2 (h : SndA K mg W ta ma) : SndI K mg W (iRng2 ta) (mIter2 ma) := by
  intro G0 H0 σ G H ρ R I q
  refine h G0 H0 σ G H ρ _ I (RR.bnd (Ext.refl I.s) q fun a G1 H1 x ea e1 r1 h1 => ?_)
  obtain ⟨xs, ex, q1⟩ := h1.lift
  split at ex
  · split at ex
    · cases ex
      obtain ⟨v, u, rfl, z1, z2⟩ := vrs2 r1
      cases z1.int_
      cases z2.int_
      exact ⟨_, _, rfl, ⟨by omega, by omega, by omega, by omega⟩, q1 G1 H1 _ e1 its_rng⟩
    · cases ex
  · cases ex
theorem sndi_e (h : SndA K mg W ta ma) : SndI K mg W (iEnum K ta) (mIterE ma) := by
  intro G0 H0 σ G H ρ R I q
  refine h G0 H0 σ G H ρ _ I (RR.bnd (Ext.refl I.s) q fun a G1 H1 x ea e1 r1 h1 => ?_)
  obtain ⟨xs, ex, q1⟩ := h1.lift
  split at ex
  · rename_i r
    obtain ⟨v, rfl, z⟩ := vrs1 r1
    cases ef : fix r with
    | none =>
      rw [ef] at ex
      cases ex
    | some ys =>
      rw [ef] at ex
      cases ex
      obtain ⟨p, vs, G2, rfl, e2, hs, k⟩ := fix_ok e1 z ef
      exact ⟨p, vs, rfl, e2.s.seq hs, q1 G2 H1 _ e2 (its_enum hs k)⟩
  · cases ex
end
section
variable {X : Cx} {W : WX} {tg e a b : Expr} {te : TE} {me : Rho → Res Val} {ta : TA} {ma : Rho → Res (List Val)} {p pos tpos : Pos} {elts : List Expr} {kk : Nat}
theorem pmi_list (h : PM X W e te me) : PMI X W tg e (iList X.K te) (mIterL me) := ⟨pi_list h.p, sndi_list h.s⟩
theorem pmi_tup (h : PM X W e te me) : PMI X W tg e (iTup X.K te) (mIterT me) := ⟨pi_tup h.p, sndi_tup h.s⟩
theorem pmi_1 (hm : X.mg "range" = none) (h : PMA X W [a] ta ma) (hg : Gl X "range" := by rfl) (hs : starEach [a] X.env = [(false, eval a X.env)] := by rfl) : PMI X W tg (.Call (.Name "range" p) [a] [] pos) (iRng1 ta) (mIter1 ma) := ⟨pi_range1 hg hm h.p hs, sndi_1 h.s⟩
theorem pmi_2 (hm : X.mg "range" = none) (h : PMA X W [a, b] ta ma) (hg : Gl X "range" := by rfl) (hs : starEach [a, b] X.env = [(false, eval a X.env), (false, eval b X.env)] := by rfl) (hs2 : starEach [b] X.env = [(false, eval b X.env)] := by rfl) :
    PMI X W tg (.Call (.Name "range" p) [a, b] [] pos) (iRng2 ta) (mIter2 ma) := ⟨pi_range2 hg hm h.p hs hs2, sndi_2 h.s⟩
theorem pmi_e (hm : X.mg "enumerate" = none) (h : PMA X W [a] ta ma) (hg : Gl X "enumerate" := by rfl) (hs : starEach [a] X.env = [(false, eval a X.env)] := by rfl) : PMI X W (.Tuple elts kk tpos) (.Call (.Name "enumerate" p) [a] [] pos) (iEnum X.K ta) (mIterE ma) := ⟨pi_enum hg hm h.p hs, sndi_e h.s⟩
end

/-! ### loops -/
def loop (bp : BP) (body : Rho → Out) : List D → Rho → Out
  | [], ρ => .nx ρ
  | d :: ds, ρ => match bp d ρ with
    | none => .no
    | some ρ1 => match body ρ1 with
      | .nx ρ' => loop bp body ds ρ'
      | .ct ρ' => loop bp body ds ρ'
      | .bk ρ' => .nx ρ'
      | o => o
def mFor (mi : Rho → Res (List D)) (bp : BP) (body : Rho → Out) : Rho → Out := fun ρ => sRes (mi ρ) ρ fun xs => loop bp body xs ρ
theorem snd_for {K : PySem.W.Frag} {mg : Str → Option Value} {W : WX} {wi : TI} {mi : Rho → Res (List D)} {g : TG} {bp : BP} {tb : TS} {mb : Rho → Out} {ts : List Nat} (hi : SndI K mg W wi mi) (hg : SndG K g bp ts) (hb : SndS K mg W tb mb) : SndS K mg W (tFor wi g tb) (mFor mi bp mb) := by
  intro G0 H0 σ G H ρ D I q
  refine hi G0 H0 σ G H ρ _ I (RR.out I q fun xs G1 H1 J ex e1 hJ q1 => ?_)
  have hJ : ItS K G1 H1 J xs := hJ
  refine ⟨fun i m σ H => ∃ G ρ, EnvS K G0 H0 σ G H ρ ∧ Same G1 G ∧ i ≤ xs.length ∧ m = xs.length - i ∧ OutR K mg W G0 H0 G D (loop bp mb (xs.drop i) ρ), ⟨xs.length, G1, ρ, I.ext' e1, Same.refl _, Nat.zero_le _, rfl, q1⟩, ?_⟩
  rintro i m σ H ⟨G2, ρ2, I2, s2, hi2, rfl, q2⟩
  by_cases hlt : i < xs.length
  · refine .inr ⟨hJ.go i G2 H s2 I2.s hlt, fun σ' H' => ∃ G ρ, EnvS K G0 H0 σ' G H' ρ ∧ Same G1 G ∧ OutR K mg W G0 H0 G D (loop bp mb (xs.drop (i + 1)) ρ), fun σ' H' ⟨G3, ρ3, I3, s3, q3⟩ => ⟨xs.length - (i + 1), by omega, G3, ρ3, I3, s3, hlt, rfl, q3⟩, fun x H' y => ?_⟩
    obtain ⟨d, G3, ed, e3, rd⟩ := hJ.yld i G2 H x H' s2 I2.s hlt y
    have I3 := I2.ext' e3
    have hd : xs.drop i = d :: xs.drop (i + 1) := by
      rw [List.drop_eq_getElem_cons hlt]
      congr 1
      rw [List.getElem?_eq_getElem hlt] at ed
      exact Option.some.inj ed
    rw [hd] at q2
    unfold loop at q2
    split at q2
    · exact q2.elim
    · rename_i ρ4 eb
      refine hg G0 H0 σ G3 H' ρ2 x d ρ4 _ I3 rd eb fun σ4 I4 _ => ?_
      refine hb G0 H0 σ4 G3 H' ρ4 _ I4 ?_
      have q2 := OutR.up e3.g q2
      have s3 : Same G1 G3 := s2.trans e3.g
      cases eo : mb ρ4 with
      | nx ρ' =>
        rw [eo] at q2
        exact fun σ5 G5 H5 I5 s5 => ⟨G5, ρ', I5, s3.trans s5, OutR.up s5 q2⟩
      | ct ρ' =>
        rw [eo] at q2
        exact fun σ5 G5 H5 I5 s5 => ⟨G5, ρ', I5, s3.trans s5, OutR.up s5 q2⟩
      | bk ρ' =>
        rw [eo] at q2
        exact q2
      | rt r =>
        rw [eo] at q2
        exact q2
      | rx r ρx =>
        rw [eo] at q2
        exact q2
      | ex n fs ρ' =>
        rw [eo] at q2
        exact q2
      | no =>
        rw [eo] at q2
        exact q2.elim
  · have e : i = xs.length := by omega
    subst e
    rw [List.drop_length] at q2
    exact .inl ⟨hJ.stop _ G2 H s2 I2.s (Nat.le_refl _), q2 σ G2 H I2 (Same.refl _)⟩
/-- while, so many turns at most -/
def whil (mc : Rho → Res Bool) (body : Rho → Out) : Nat → Rho → Out
  | 0, _ => .no
  | n + 1, ρ => sRes (mc ρ) ρ fun k => if k = true then match body ρ with
      | .nx ρ' => whil mc body n ρ'
      | .ct ρ' => whil mc body n ρ'
      | .bk ρ' => .nx ρ'
      | o => o
    else .nx ρ
theorem snd_while {K : PySem.W.Frag} {mg : Str → Option Value} {W : WX} {tc : TT} {mc : Rho → Res Bool} {tb : TS} {mb : Rho → Out} (n : Nat) (hc : SndT K mg W tc mc) (hb : SndS K mg W tb mb) : SndS K mg W (tWhile tc tb) (whil mc mb n) := by
  intro G0 H0 σ G H ρ D I q
  refine ⟨fun m σ H => ∃ G ρ, EnvS K G0 H0 σ G H ρ ∧ OutR K mg W G0 H0 G D (whil mc mb m ρ), ⟨n, G, ρ, I, q⟩, ?_⟩
  rintro m σ H ⟨G2, ρ2, I2, q2⟩
  cases m with
  | zero => exact q2.elim
  | succ m =>
    refine hc G0 H0 σ G2 H ρ2 _ I2 (RR.out I2 q2 fun k G3 H3 v er e1 r1 q3 => ?_)
    cases (show v = k from r1)
    cases k with
    | false => exact iteF (q3 σ G3 H3 (I2.ext' e1) (Same.refl _))
    | true =>
      refine iteT ⟨fun σ' H' => ∃ G ρ, EnvS K G0 H0 σ' G H' ρ ∧ OutR K mg W G0 H0 G D (whil mc mb m ρ), fun σ' H' h => ⟨m, Nat.lt_succ_self m, h⟩, ?_⟩
      refine hb G0 H0 σ G3 H3 ρ2 _ (I2.ext' e1) ?_
      have q3 : OutR K mg W G0 H0 G3 D (match mb ρ2 with
        | .nx ρ' => whil mc mb m ρ'
        | .ct ρ' => whil mc mb m ρ'
        | .bk ρ' => .nx ρ'
        | o => o) := q3
      cases eo : mb ρ2 with
      | nx ρ' =>
        rw [eo] at q3
        exact fun σ5 G5 H5 I5 s5 => ⟨G5, ρ', I5, OutR.up s5 q3⟩
      | ct ρ' =>
        rw [eo] at q3
        exact fun σ5 G5 H5 I5 s5 => ⟨G5, ρ', I5, OutR.up s5 q3⟩
      | bk ρ' =>
        rw [eo] at q3
        exact q3
      | rt r =>
        rw [eo] at q3
        exact q3
      | rx r ρx =>
        rw [eo] at q3
        exact q3
      | ex n fs ρ' =>
        rw [eo] at q3
        exact q3
      | no =>
        rw [eo] at q3
        exact q3.elim
section
variable {X : Cx} {W : WX} {tg iter c : Expr} {wi : TI} {mi : Rho → Res (List D)} {g : TG} {bp : BP} {tb : TS} {mb : Rho → Out} {body : List Stmt} {pos : Pos} {tc : TT} {mc : Rho → Res Bool} {ts : List Nat}
theorem pms_for (hp : PassesOwn (model X.prog X.w) X.A X.env X.xe) (hc : X.calm = true) (hi : PMI X W tg iter wi mi) (hg : PMG X tg g bp ts) (hb : PMSs X W body tb mb) (hs : ∀ x, foldedSetIterable iter X.env x = pure x := by intro _; rfl) :
    PMS X W (.For tg iter body [] pos) (tFor wi g tb) (mFor mi bp mb) := ⟨ps_for hp hc hi.p hg.p hb.p hs, snd_for hi.s hg.s hb.s⟩
theorem pms_while (n : Nat) (hp : PassesOwn (model X.prog X.w) X.A X.env X.xe) (hc : PMT X W c tc mc) (hb : PMSs X W body tb mb) : PMS X W (.While c body [] pos) (tWhile tc tb) (whil mc mb n) := ⟨ps_while hp hc.p hb.p, snd_while n hc.s hb.s⟩
end
end Mi

namespace Mi
open PySem PySem.Spec PyProof.Rows L2

/-! ### comprehensions -/
def wipeR (ρ : Rho) : List Nat → Rho
  | [] => ρ
  | v :: vs => (wipeR ρ vs).set v none
theorem EnvS.wipe {K : PySem.W.Frag} {G0 : Bs} {H0 G H : Hp} {σ : L2.St} {ρ : Rho} (I : EnvS K G0 H0 σ G H ρ) : ∀ vs : List Nat, EnvS K G0 H0 (L2.wipe σ vs) G H (wipeR ρ vs)
  | [] => I
  | v :: vs => (I.wipe vs).drop v none
def comp (bp : BP) (mt : Rho → Res Bool) (me : Rho → Res Val) (ρ : Rho) : List D → List D → Res (List D)
  | [], acc => .ok acc
  | d :: ds, acc => match bp d ρ with
    | none => .no
    | some ρ1 => match mt ρ1 with
      | .ok b => if b = true then match me ρ1 with
          | .ok r => match esc r with
            | some x => if acc.length < 100000 then comp bp mt me ρ ds (acc ++ [x]) else .no
            | none => .no
          | _ => .no
        else comp bp mt me ρ ds acc
      | _ => .no
def mComp (mi : Rho → Res (List D)) (bp : BP) (mt : Rho → Res Bool) (me : Rho → Res Val) (vs : List Nat) : Rho → Res Val := fun ρ => (mi ρ).bind fun xs => match comp bp mt me (wipeR ρ vs) xs [] with
  | .ok ys => .ok (.ow ys)
  | _ => .no
def W0 : WX := fun _ _ _ _ => False
theorem Ext.mutN {G1 H1 G H : Hp} {p : Addr} {o : HO} (e : Ext G1 H1 G H) (h : H1 p = none) (g : G p = none) : Ext G1 H1 G (upd H p o) := by
  refine ⟨fun b u q => ?_, e.g, fun b u q => ?_, e.n⟩
  · rw [upd_ne (ne_of_none q h)]
    exact e.h _ _ q
  · rw [upd_ne (ne_of_none q g)]
    exact e.s _ _ q
theorem snd_comp {K : PySem.W.Frag} {mg : Str → Option Value} {W : WX} {wi : TI} {mi : Rho → Res (List D)} {g : TG} {bp : BP} {ts : List Nat} {tt : TT} {mt : Rho → Res Bool} {te : TE} {me : Rho → Res Val} {vs : List Nat} (hi : SndI K mg W wi mi) (hg : SndG K g bp ts) (hts : ∀ t ∈ ts, t ∈ vs)
    (ht : SndT K mg W0 tt mt) (he : Snd K mg W0 te me) : Snd K mg W (tLc wi g tt te vs) (mComp mi bp mt me vs) := by
  intro G0 H0 σ G H ρ Q I q
  refine hi G0 H0 σ G H ρ _ I (RR.bnd (Ext.refl I.s) q fun xs G1 H1 J ex e1 hJ q1 => ?_)
  have hJ : ItS K G1 H1 J xs := hJ
  intro Dl nD
  have hD : H Dl = none := e1.h.free nD
  have gD : G1 Dl = none := e1.s.free nD
  have I1 := (I.ext' e1).wipe vs
  split at q1
  · rename_i ys ey
    refine ⟨fun i m H2 => ∃ G2 acc av, Ext G1 H1 G2 H2 ∧ G2 Dl = none ∧ H2 Dl = some (.lst av) ∧ RpA K G2 av acc ∧ i ≤ xs.length ∧ m = xs.length - i ∧ comp bp mt me (wipeR ρ vs) (xs.drop i) acc = .ok ys,
      ⟨xs.length, G1, [], [], Ext.newO e1.s nD, gD, upd_same, .nil, Nat.zero_le _, rfl, ey⟩, ?_⟩
    rintro i m H2 ⟨G2, acc, av, e2, g2, h2, ka, hi2, rfl, ec⟩
    by_cases hlt : i < xs.length
    · refine .inr ⟨hJ.go i G2 H2 e2.g e2.s hlt, fun H' => ∃ G2 acc av, Ext G1 H1 G2 H' ∧ G2 Dl = none ∧ H' Dl = some (.lst av) ∧ RpA K G2 av acc ∧ comp bp mt me (wipeR ρ vs) (xs.drop (i + 1)) acc = .ok ys,
        fun H' ⟨G3, acc3, av3, z1, z2, z3, z4, z5⟩ => ⟨xs.length - (i + 1), by omega, G3, acc3, av3, z1, z2, z3, z4, hlt, rfl, z5⟩, fun x H' y => ?_⟩
      obtain ⟨d, G3, ed, e3, rd⟩ := hJ.yld i G2 H2 x H' e2.g e2.s hlt y
      have hd : xs.drop i = d :: xs.drop (i + 1) := by
        rw [List.drop_eq_getElem_cons hlt]
        congr 1
        rw [List.getElem?_eq_getElem hlt] at ed
        exact Option.some.inj ed
      rw [hd] at ec
      unfold comp at ec
      split at ec
      · cases ec
      · rename_i ρ4 eb
        have e13 := e2.trans e3
        refine hg G0 H0 _ G3 H' (wipeR ρ vs) x d ρ4 _ (I1.ext' e13) rd eb fun σ4 I4 oa => ⟨?_, ?_⟩
        · exact (oa vs hts).trans (onlyAt_wipe vs σ vs fun t q => q)
        · split at ec
          · rename_i b et
            refine ht G0 H0 σ4 G3 H' ρ4 _ I4 ?_
            rw [et]
            intro G4 H4 b' e4 eb'
            cases (show b' = b from eb')
            cases b with
            | false =>
              have ne34 := e3.trans e4
              refine iteF ⟨G4, acc, av, e13.trans e4, ?_, ne34.h _ _ h2, ka.mono ne34.g, ec⟩
              exact ne34.n Dl (by rw [h2]; exact Option.some_ne_none _) g2
            | true =>
              refine iteT (he G0 H0 σ4 G4 H4 ρ4 _ (I4.ext' e4) ?_)
              have ec : (match me ρ4 with
                | .ok r => match esc r with
                  | some x => if acc.length < 100000 then comp bp mt me (wipeR ρ vs) (xs.drop (i + 1)) (acc ++ [x]) else .no
                  | none => .no
                | _ => .no) = .ok ys := ec
              split at ec
              · rename_i r er
                rw [er]
                intro G5 H5 v e5 r5
                split at ec
                · rename_i x' ex'
                  split at ec
                  · rename_i hl
                    obtain ⟨G6, e6, s6, k6⟩ := esc_one e5 r5.vw ex'
                    have e26 := (e3.trans e4).trans e6
                    have g6 : G6 Dl = none := e26.n Dl (by rw [h2]; exact Option.some_ne_none _) g2
                    refine ⟨av, e26.h _ _ h2, ?_, G6, acc ++ [x'], av ++ [v], ((e2.trans e26).mutN nD g6), g6, upd_same, (ka.mono e26.g).append (.cons k6 .nil), ec⟩
                    rw [ka.length]
                    exact sz_lt hl
                  · cases ec
                · cases ec
              · cases ec
          · cases ec
    · have e : i = xs.length := by omega
      subst e
      rw [List.drop_length] at ec
      have ec : Res.ok acc = Res.ok ys := ec
      cases ec
      exact .inl ⟨hJ.stop _ G2 H2 e2.g e2.s (Nat.le_refl _), q1 G2 H2 _ (e1.trans e2) ⟨Dl, av, rfl, h2, g2, hD, ka⟩⟩
  · exact q1.elim
def mYes : Rho → Res Bool := fun _ => .ok true
theorem snd_yes {K : PySem.W.Frag} {mg : Str → Option Value} {W : WX} : SndT K mg W tYes mYes := fun G0 H0 σ G H ρ Q I q => q G H true (Ext.refl I.s) rfl
structure PMTs (X : Cx) (W : WX) (ifs : List Expr) (tt : TT) (mt : Rho → Res Bool) : Prop where
  p : PTs X ifs tt
  s : SndT X.K X.mg W tt mt
theorem pmts_nil {X : Cx} {W : WX} : PMTs X W [] tYes mYes := ⟨pts_nil, snd_yes⟩
theorem pmts_one {X : Cx} {W : WX} {c : Expr} {tt : TT} {mt : Rho → Res Bool} (h : PMT X W c tt mt) : PMTs X W [c] tt mt := ⟨pts_one h.p, h.s⟩
section
variable {X : Cx} {W : WX} {elt tg iter : Expr} {ifs : List Expr} {scope : Scope} {own : List (Str × Nat)} {pos : Pos} {wi : TI} {mi : Rho → Res (List D)} {g : TG} {bp : BP} {ts : List Nat} {tt : TT} {mt : Rho → Res Bool} {te : TE} {me : Rho → Res Val}
theorem pm_lc (own : List (Str × Nat)) (hc : X.calm = true) (hN : X.N.Nodup) (hi : PMI X W tg iter wi mi) (ok : BlkOk X.N X.env.scope scope own) (hts : ∀ t ∈ ts, t ∈ own.map (·.2))
    (hg : ∀ (s : Shared) (H : Hp) (C : Addr) (cl : List (Str × Addr)) (fp : List Addr), PMG (X.blk s H scope (compEnvC scope cl C X.env) fp) tg g bp ts)
    (ht : ∀ (s : Shared) (H : Hp) (C : Addr) (cl : List (Str × Addr)) (fp : List Addr), PMTs (X.blk s H scope (compEnvC scope cl C X.env) fp) W0 ifs tt mt)
    (he : ∀ (s : Shared) (H : Hp) (C : Addr) (cl : List (Str × Addr)) (fp : List Addr), PM (X.blk s H scope (compEnvC scope cl C X.env) fp) W0 elt te me) (hs : ∀ x, foldedSetIterable iter X.env x = pure x := by intro _; rfl) :
    PM X W (.ListComp elt [⟨tg, iter, ifs, 0⟩] scope pos) (tLc wi g tt te (own.map (·.2))) (mComp mi bp mt me (own.map (·.2))) := by
  have h1 := hg X.s_0 X.H_0 0 [] []
  have h2 := ht X.s_0 X.H_0 0 [] []
  have h3 := he X.s_0 X.H_0 0 [] []
  exact ⟨pe_lc hc hN hi.p ok (fun s H C cl fp => (hg s H C cl fp).p) (fun s H C cl fp => (ht s H C cl fp).p) (fun s H C cl fp => (he s H C cl fp).p) hs, snd_comp hi.s h1.s hts h2.s h3.s⟩
theorem pms_setLc (i : Nat) (own : List (Str × Nat)) {y : Str} {py spos : Pos} (hc : X.calm = true) (hN : X.N.Nodup) (hy : X.N[i]? = some y) (hyl : X.env.scope.names.lookup y = some .local)
    (hsw : swapsWith (.ListComp elt [⟨tg, iter, ifs, 0⟩] scope pos) (some (.Name y py)) spos.line X.env = pure true) (hi : PMI X W tg iter wi mi) (ok : BlkOk X.N X.env.scope scope own) (hts : ∀ t ∈ ts, t ∈ own.map (·.2))
    (hg : ∀ (s : Shared) (H : Hp) (C : Addr) (cl : List (Str × Addr)) (fp : List Addr), PMG (X.blk s H scope (compEnvC scope cl C X.env) fp) tg g bp ts)
    (ht : ∀ (s : Shared) (H : Hp) (C : Addr) (cl : List (Str × Addr)) (fp : List Addr), PMTs (X.blk s H scope (compEnvC scope cl C X.env) fp) W0 ifs tt mt)
    (he : ∀ (s : Shared) (H : Hp) (C : Addr) (cl : List (Str × Addr)) (fp : List Addr), PM (X.blk s H scope (compEnvC scope cl C X.env) fp) W0 elt te me) (hs : ∀ x, foldedSetIterable iter X.env x = pure x := by intro _; rfl) :
    PMS X W (.Assign [.Name y py] (.ListComp elt [⟨tg, iter, ifs, 0⟩] scope pos) spos) (tAsg (tLc wi g tt te (own.map (·.2))) (gName i)) (mSet i (mComp mi bp mt me (own.map (·.2)))) := by
  have h1 := hg X.s_0 X.H_0 0 [] []
  have h2 := ht X.s_0 X.H_0 0 [] []
  have h3 := he X.s_0 X.H_0 0 [] []
  exact ⟨ps_setLc hc hN hy hyl hsw hi.p ok (fun s H C cl fp => (hg s H C cl fp).p) (fun s H C cl fp => (ht s H C cl fp).p) (fun s H C cl fp => (he s H C cl fp).p) hs, snd_set (snd_comp hi.s h1.s hts h2.s h3.s)⟩
end
/-! ### list(range(a, b)) -/
def mListR1 (ma : Rho → Res Val) : Rho → Res Val := fun ρ => (ma ρ).bind fun a => lift (match a with
  | .sh (.int j) => if j.natAbs ≤ 1000000 then some (.ow (rangeD 0 j.toNat)) else none
  | _ => none)
def mListR2 (ma mb : Rho → Res Val) : Rho → Res Val := fun ρ => (ma ρ).bind fun a => (mb ρ).bind fun b => lift (match a, b with
  | .sh (.int i), .sh (.int j) => if i.natAbs ≤ 1000000 ∧ j.natAbs ≤ 1000000 then some (.ow (rangeD i (j - i).toNat)) else none
  | _, _ => none)
theorem rpa_range {K : PySem.W.Frag} {G : Hp} {a b : Int} : RpA K G (rgV a b) (rangeD a (b - a).toNat) := by
  unfold rgV rangeD
  generalize (List.range (b - a).toNat) = l
  induction l with
  | nil => exact .nil
  | cons n l ih => exact .cons (.int _) ih
section
variable {K : PySem.W.Frag} {mg : Str → Option Value} {W : WX} {ta tb : TE} {ma mb : Rho → Res Val}
theorem snd_listR1 (ha : Snd K mg W ta ma) : Snd K mg W (tLstRg (tRg1 ta)) (mListR1 ma) := by
  intro G0 H0 σ G H ρ Q I h
  refine ha G0 H0 σ G H ρ _ I (RR.bnd (Ext.refl I.s) h fun a G1 H1 x ea e1 r1 h1 => ?_)
  obtain ⟨c, ec, q⟩ := h1.lift
  split at ec
  · split at ec
    · rename_i j hj
      cases ec
      refine ⟨j, r1.int_, ⟨by omega, by omega, by omega, by omega, by omega⟩, fun p hp => ?_⟩
      have z := q G1 _ (.ref p) (e1.trans (Ext.newO e1.s hp)) ⟨p, rgV 0 j, rfl, upd_same, e1.s.free hp, e1.h.free hp, by simpa using rpa_range (a := 0) (b := j)⟩
      exact z
    · cases ec
  · cases ec
theorem snd_listR2 (ha : Snd K mg W ta ma) (hb : Snd K mg W tb mb) : Snd K mg W (tLstRg (tRg2 ta tb)) (mListR2 ma mb) := by
  intro G0 H0 σ G H ρ Q I h
  refine ha G0 H0 σ G H ρ _ I (RR.bnd (Ext.refl I.s) h fun a G1 H1 x ea e1 r1 h1 => ?_)
  refine hb G0 H0 σ G1 H1 ρ _ (I.ext' e1) (RR.bnd e1 h1 fun b G2 H2 y eb e2 r2 h2 => ?_)
  obtain ⟨c, ec, q⟩ := h2.lift
  split at ec
  · split at ec
    · rename_i i j hj
      cases ec
      have e02 := e1.trans e2
      refine ⟨i, j, r1.int_, r2.int_, ⟨by omega, by omega, by omega, by omega, by omega⟩, fun p hp => ?_⟩
      exact q G2 _ (.ref p) (e02.trans (Ext.newO e2.s hp)) ⟨p, rgV i j, rfl, upd_same, e2.s.free hp, e02.h.free hp, rpa_range⟩
    · cases ec
  · cases ec
end
section
variable {X : Cx} {W : WX} {a b : Expr} {ta tb : TE} {ma mb : Rho → Res Val} {p pos p' pos' : Pos}
theorem pm_listR1 (hc : X.calm = true) (ml : X.mg "list" = none) (mr : X.mg "range" = none) (ha : PM X W a ta ma) (gl : Gl X "list" := by rfl) (gr : Gl X "range" := by rfl) (na : starEach [a] X.env = (false, eval a X.env) :: starEach [] X.env := by rfl)
    (nb : starEach [Expr.Call (.Name "range" p') [a] [] pos'] X.env = (false, eval (Expr.Call (.Name "range" p') [a] [] pos') X.env) :: starEach [] X.env := by rfl) :
    PM X W (.Call (.Name "list" p) [.Call (.Name "range" p') [a] [] pos'] [] pos) (tLstRg (tRg1 ta)) (mListR1 ma) := ⟨pe_listRg hc gl ml (prg_1 gr mr ha.p na) nb, snd_listR1 ha.s⟩
theorem pm_listR2 (hc : X.calm = true) (ml : X.mg "list" = none) (mr : X.mg "range" = none) (ha : PM X W a ta ma) (hb : PM X W b tb mb) (gl : Gl X "list" := by rfl) (gr : Gl X "range" := by rfl) (na : starEach [a, b] X.env = (false, eval a X.env) :: starEach [b] X.env := by rfl)
    (nb : starEach [b] X.env = (false, eval b X.env) :: starEach [] X.env := by rfl) (hp : (backTo pos' (starEach [b] X.env)).any (·.1) = false := by rfl)
    (nc : starEach [Expr.Call (.Name "range" p') [a, b] [] pos'] X.env = (false, eval (Expr.Call (.Name "range" p') [a, b] [] pos') X.env) :: starEach [] X.env := by rfl) :
    PM X W (.Call (.Name "list" p) [.Call (.Name "range" p') [a, b] [] pos'] [] pos) (tLstRg (tRg2 ta tb)) (mListR2 ma mb) := ⟨pe_listRg hc gl ml (prg_2 gr mr ha.p hb.p na nb hp) nc, snd_listR2 ha.s hb.s⟩
end
end Mi

namespace Mi
open PySem PySem.Spec PyProof.Rows L2

/-! ### a def's promise: it follows its mirror -/
def isArg : Val → Bool
  | .sh _ => true
  | .fz _ => true
  | .bw _ => true
  | .ob o _ _ _ => !o
  | _ => false
def wOf (E : XK) : WX := fun cls d _ H => E cls d H
def spM (K : PySem.W.Frag) (mg : Str → Option Value) (n : Nat) (M : List Val → Res Val) : Sp := fun vs H Q E => ∃ G as, Same G H ∧ VRs K H G H vs as ∧ as.all isArg = true ∧ vs.length = n ∧ RR K mg (wOf E) (RV K) [] G H Q (M as)
/-- as the layer's FnOk, where no repr is under way -/
structure FnG (P : Program) (w : World) (K : PySem.W.Frag) (mg : Str → Option Value) (base : Heap) (k : Nat) (f : Addr) (fd : FuncData) (ps : List Str) (sp : Sp) : Prop where
  len : ∀ vs H Q E, sp vs H Q E → vs.length = ps.length
  go : ∀ (A : Around) (outer : List Env) (s : Shared) (H : Hp) (args : Args) (us : List Value) (vs : List V) (Q : VK) (E : XK), A.guards = some [] → Room k A → Env0 P w K mg base A outer s H → BindsTo s fd args (ps.zip us) → Vals vs us → sp vs H Q E →
    codeAny (model P w) A (.call (.ref f) args) (CR (L2.CX P w) outer P w H s Q E) s
theorem FnG.mono {P : Program} {w : World} {K : PySem.W.Frag} {mg : Str → Option Value} {base : Heap} {j k : Nat} {f : Addr} {fd : FuncData} {ps : List Str} {sp : Sp} (F : FnG P w K mg base j f fd ps sp) (h : j ≤ k) : FnG P w K mg base k f fd ps sp :=
  ⟨F.len, fun A outer s H args us vs Q E gd hr => F.go A outer s H args us vs Q E gd (hr.mono h)⟩

/-! ### calls of defs -/
def pas : Val → Val
  | .sh d => .sh d
  | .ow xs => .sh (.list xs)
  | .bw xs => .sh (.list xs)
  | .fz xs => .fz xs
  | .io xs => .sh (.list xs)
  | .ob _ p C fs => .ob false p C fs
def isBw : Val → Bool
  | .bw _ => true
  | .io _ => true
  | _ => false
def flatR : Val → Bool
  | .sh d => flatD d
  | .ow xs => xs.all flatD
  | _ => false
def mDef (M : List Val → Res Val) (ma : Rho → Res (List Val)) : Rho → Res Val := fun ρ => (ma ρ).bind fun as => match M (as.map pas) with
  | .ok r => if (!as.any isBw || flatR r) = true then .ok r else .no
  | .ex n fs => if fs.all (fun p => flatD p.2) = true then .ex n fs else .no
  | .no => .no
theorem pas_arg (as : List Val) : (as.map pas).all isArg = true := by
  rw [List.all_map, List.all_eq_true]
  intro r _
  cases r <;> rfl
/-- cells taken into a region -/
def VC (K : PySem.W.Frag) (G H : Hp) (v : V) : Val → Prop
  | .sh d => Rp K G v d
  | .ow xs => ∃ p vs, v = .ref p ∧ H p = some (.lst vs) ∧ RpA K G vs xs
  | .bw xs => ∃ p vs, v = .ref p ∧ H p = some (.lst vs) ∧ RpA K G vs xs
  | .fz xs => ∃ p vs, v = .ref p ∧ SqL K G p vs ∧ RpA K G vs xs
  | .io xs => ∃ p vs, v = .ref p ∧ H p = some (.lst vs) ∧ RpA K G vs xs
  | .ob _ p C fs => ObR K H G H v false p C fs
theorem VR.vc {K : PySem.W.Frag} {B G H : Hp} {v : V} {r : Val} (h : VR K B G H v r) : VC K G H v r := by
  cases r with
  | sh d => exact h
  | ow xs =>
    obtain ⟨p, vs, a, b, _, _, k⟩ := h
    exact ⟨p, vs, a, b, k⟩
  | bw xs => exact h
  | fz xs => exact h
  | io xs => exact h
  | ob o p C fs =>
    obtain ⟨dx, fv, a, b, _, e, k⟩ := h
    exact ⟨dx, fv, a, b, (fun z => nomatch z), e, k⟩
theorem VC.up {K : PySem.W.Frag} {G G' H : Hp} {v : V} {r : Val} (e : Same G G') (h : VC K G H v r) : VC K G' H v r := by
  cases r with
  | sh d => exact Rp.mono e h
  | ow xs =>
    obtain ⟨p, vs, a, b, k⟩ := h
    exact ⟨p, vs, a, b, k.mono e⟩
  | bw xs =>
    obtain ⟨p, vs, a, b, k⟩ := h
    exact ⟨p, vs, a, b, k.mono e⟩
  | fz xs =>
    obtain ⟨p, vs, a, b, k⟩ := h
    exact ⟨p, vs, a, e.seq b, k.mono e⟩
  | io xs =>
    obtain ⟨p, vs, a, b, k⟩ := h
    exact ⟨p, vs, a, b, k.mono e⟩
  | ob o p C fs => exact ObR.up (fun _ z => z) (fun _ _ z => z) e (fun z => nomatch z) h
theorem cell_in {K : PySem.W.Frag} {G H : Hp} {p : Addr} {vs : List V} {xs : List D} (s : Same G H) (hp : H p = some (.lst vs)) (k : RpA K G vs xs) : ∃ G', Same G G' ∧ Same G' H ∧ Rp K G' (.ref p) (.list xs) ∧ ∀ q, q ≠ p → G' q = G q := by
  cases g : G p with
  | none =>
    refine ⟨upd G p (.lst vs), same_new g, fun b o z => ?_, .lst upd_same (k.mono (same_new g)), fun q ne => upd_ne ne⟩
    by_cases hb : b = p
    · subst hb
      rw [upd_same] at z
      rw [← z]
      exact hp
    · rw [upd_ne hb] at z
      exact s _ _ z
  | some o =>
    have z := s _ _ g
    rw [hp] at z
    cases z
    exact ⟨G, Same.refl _, s, .lst g k, fun _ _ => rfl⟩
theorem pas_one {K : PySem.W.Frag} {G H : Hp} {v : V} {r : Val} (s : Same G H) (h : VC K G H v r) : ∃ G', Same G G' ∧ Same G' H ∧ VR K H G' H v (pas r) := by
  cases r with
  | sh d => exact ⟨G, Same.refl _, s, h⟩
  | ow xs =>
    obtain ⟨p, vs, rfl, b, k⟩ := h
    obtain ⟨G', a1, a2, a3, _⟩ := cell_in s b k
    exact ⟨G', a1, a2, a3⟩
  | bw xs =>
    obtain ⟨p, vs, rfl, b, k⟩ := h
    obtain ⟨G', a1, a2, a3, _⟩ := cell_in s b k
    exact ⟨G', a1, a2, a3⟩
  | fz xs => exact ⟨G, Same.refl _, s, h⟩
  | io xs =>
    obtain ⟨p, vs, rfl, b, k⟩ := h
    obtain ⟨G', a1, a2, a3, _⟩ := cell_in s b k
    exact ⟨G', a1, a2, a3⟩
  | ob o p C fs => exact ⟨G, Same.refl _, s, h⟩
theorem VR.upA {K : PySem.W.Frag} {G G' H : Hp} {v : V} {r : Val} (e : Same G G') (ha : isArg r = true) (h : VR K H G H v r) : VR K H G' H v r := by
  cases r with
  | sh d => exact Rp.mono e h
  | ow xs => cases ha
  | bw xs =>
    obtain ⟨p, vs, a, b, k⟩ := h
    exact ⟨p, vs, a, b, k.mono e⟩
  | fz xs =>
    obtain ⟨p, vs, a, b, k⟩ := h
    exact ⟨p, vs, a, e.seq b, k.mono e⟩
  | io xs => cases ha
  | ob o p C fs =>
    have ho : o = false := by simpa [isArg] using ha
    subst ho
    exact ObR.up (fun z => nomatch z) (fun _ _ z => z) e (fun z => nomatch z) h
theorem isArg_pas (r : Val) : isArg (pas r) = true := by cases r <;> rfl
theorem pas_all {K : PySem.W.Frag} {H : Hp} : ∀ {as : List Val} {vs : List V} {G : Hp}, Same G H → Paired (fun v r => VC K G H v r) vs as → ∃ G', Same G G' ∧ Same G' H ∧ VRs K H G' H vs (as.map pas)
  | [], _, G, s, .nil => ⟨G, Same.refl _, s, .nil⟩
  | a :: as, _, G, s, .cons h t => by
    obtain ⟨G1, s1, t1, k1⟩ := pas_one s h
    have t' : Paired (fun v r => VC K G1 H v r) ‹List V› as := by
      clear h k1
      induction t with
      | nil => exact .nil
      | cons a b ih => exact .cons (a.up s1) ih
    obtain ⟨G2, s2, t2, k2⟩ := pas_all t1 t'
    exact ⟨G2, s1.trans s2, t2, .cons (k1.upA s2 (isArg_pas a)) k2⟩
/-- without a borrowed one the region holds new cells alone -/
theorem pas_new {K : PySem.W.Frag} {Gs Hs H : Hp} : ∀ {as : List Val} {vs : List V} {G : Hp}, Ext Gs Hs G H → as.any isBw = false → Paired (fun v r => VW K Hs G H v r ∧ VC K G H v r) vs as → ∃ G', Ext Gs Hs G' H ∧ Same G G' ∧ VRs K H G' H vs (as.map pas)
  | [], _, G, e, _, .nil => ⟨G, e, Same.refl _, .nil⟩
  | a :: as, _, G, e, hb, .cons h t => by
    rw [List.any_cons, Bool.or_eq_false_iff] at hb
    obtain ⟨G1, e1, s1, k1⟩ : ∃ G1, Ext Gs Hs G1 H ∧ Same G G1 ∧ VR K H G1 H ‹V› (pas a) := by
      cases a with
      | sh d => exact ⟨G, e, Same.refl _, h.1⟩
      | ow xs => exact esc_one e h.1 rfl
      | bw xs => cases hb.1
      | fz xs => exact ⟨G, e, Same.refl _, h.2⟩
      | io xs => cases hb.1
      | ob o p C fs => exact ⟨G, e, Same.refl _, h.2⟩
    have t' : Paired (fun v r => VW K Hs G1 H v r ∧ VC K G1 H v r) ‹List V› as := by
      clear h k1 hb
      induction t with
      | nil => exact .nil
      | cons a b ih => exact .cons ⟨a.1.up s1, a.2.up s1⟩ ih
    obtain ⟨G2, e2, s2, k2⟩ := pas_new e1 hb.2 t'
    exact ⟨G2, e2, s1.trans s2, .cons (k1.upA s2 (isArg_pas a)) k2⟩
theorem flat_rp {K : PySem.W.Frag} {G G' : Hp} {v : V} {d : D} (f : flatD d = true) (h : Rp K G v d) : Rp K G' v d := by
  cases h with
  | non => exact .non
  | bl b => exact .bl b
  | int i => exact .int i
  | str x => exact .str x
  | lst _ _ => cases f
  | tup _ _ => cases f
  | dct _ _ => cases f
theorem flat_rpa {K : PySem.W.Frag} {G G' : Hp} : ∀ {ds : List D} {vs : List V}, ds.all flatD = true → RpA K G vs ds → RpA K G' vs ds
  | [], _, _, .nil => .nil
  | _ :: _, _, f, .cons h a => by
    rw [List.all_cons, Bool.and_eq_true] at f
    exact .cons (flat_rp f.1 h) (flat_rpa f.2 a)
theorem VRs.len {K : PySem.W.Frag} {B G H : Hp} {vs : List V} {as : List Val} (h : VRs K B G H vs as) : vs.length = as.length := by
  induction h with
  | nil => rfl
  | cons a b ih => exact congrArg (· + 1) ih
theorem VRs.wc {K : PySem.W.Frag} {B G H : Hp} {vs : List V} {as : List Val} (h : VRs K B G H vs as) : Paired (fun v r => VW K B G H v r ∧ VC K G H v r) vs as := by
  induction h with
  | nil => exact .nil
  | cons a b ih => exact .cons ⟨a.vw, a.vc⟩ ih
theorem VRs.cc {K : PySem.W.Frag} {B G H : Hp} {vs : List V} {as : List Val} (h : VRs K B G H vs as) : Paired (fun v r => VC K G H v r) vs as := by
  induction h with
  | nil => exact .nil
  | cons a b ih => exact .cons a.vc ih
theorem snd_def {K : PySem.W.Frag} {mg : Str → Option Value} {W : WX} {n : Nat} {M : List Val → Res Val} {ta : TA} {ma : Rho → Res (List Val)} (hn : ∀ ρ as, ma ρ = .ok as → as.length = n) (ha : SndA K mg W ta ma) : Snd K mg W (tCallS (spM K mg n M) (WE W) ta) (mDef M ma) := by
  intro G0 H0 σ G H ρ Q I h
  refine ha G0 H0 σ G H ρ _ I (RR.bnd (Ext.refl I.s) h fun as G1 H1 vs ea e1 r1 h1 => ?_)
  have r1 : VRs K H G1 H1 vs as := r1
  have hlen : vs.length = as.length := r1.len
  have hn' : vs.length = n := hlen.trans (hn ρ as ea)
  by_cases hb : as.any isBw = false
  · have pr := r1.wc
    obtain ⟨G2, e2, s2, k2⟩ := pas_new e1 hb pr
    refine ⟨G2, as.map pas, e2.s, k2, pas_arg as, hn', ?_⟩
    cases em : M (as.map pas) with
    | no =>
      rw [em] at h1
      exact h1.elim
    | ok r =>
      rw [em] at h1
      have c : (!as.any isBw || flatR r) = true := by rw [hb]; rfl
      have h1 : RR K mg W (RV K) σ G H Q (if (!as.any isBw || flatR r) = true then .ok r else .no) := h1
      rw [if_pos c] at h1
      exact fun G' H' v e z => h1 G' H' v (e2.trans e) (z.back e2.h)
    | ex x fs =>
      rw [em] at h1
      have h1 : RR K mg W (RV K) σ G H Q (if fs.all (fun p => flatD p.2) = true then .ex x fs else .no) := h1
      split at h1
      · exact fun G' H' C d e a b => h1 G' H' C d (e2.trans e) a b
      · exact h1.elim
  · have hb : as.any isBw = true := by
      cases q : as.any isBw
      · exact absurd q hb
      · rfl
    have pr := r1.cc
    obtain ⟨G2, s2, t2, k2⟩ := pas_all e1.s pr
    refine ⟨G2, as.map pas, t2, k2, pas_arg as, hn', ?_⟩
    have eH : ∀ {H' : Hp}, Same H1 H' → Ext G H G1 H' := fun {H'} s => e1.trans ⟨s, Same.refl _, e1.s.trans s, fun _ _ q => q⟩
    cases em : M (as.map pas) with
    | no =>
      rw [em] at h1
      exact h1.elim
    | ok r =>
      rw [em] at h1
      have h1 : RR K mg W (RV K) σ G H Q (if (!as.any isBw || flatR r) = true then .ok r else .no) := h1
      rw [hb] at h1
      have h1 : RR K mg W (RV K) σ G H Q (if (flatR r) = true then .ok r else .no) := h1
      split at h1
      · rename_i fl
        intro G' H' v e z
        refine h1 G1 H' v (eH e.h) ?_
        cases r with
        | sh d => exact flat_rp fl z
        | ow xs =>
          obtain ⟨p, us, rfl, b, c, d, k⟩ := z
          exact ⟨p, us, rfl, b, e1.s.free d, e1.h.free d, flat_rpa fl k⟩
        | bw xs => cases fl
        | fz xs => cases fl
        | io xs => cases fl
        | ob o p C fs => cases fl
      · exact h1.elim
    | ex x fs =>
      rw [em] at h1
      have h1 : RR K mg W (RV K) σ G H Q (if fs.all (fun p => flatD p.2) = true then .ex x fs else .no) := h1
      split at h1
      · rename_i fl
        intro G' H' C d e a b
        refine h1 G1 H' C d (eH e.h) a ?_
        rcases b with b | ⟨dd, fv, b1, b2, b3, b4, b5⟩
        · exact .inl b
        · refine .inr ⟨dd, fv, b1, b2, b3, b4, flat_rpa ?_ b5⟩
          rw [List.all_map]
          exact fl
      · exact h1.elim
theorem mNil_len : ∀ (ρ : Rho) (as : List Val), mNil ρ = .ok as → as.length = 0 := fun ρ as e => by
  cases e
  rfl
theorem mCons_len {n : Nat} {ma : Rho → Res Val} {mr : Rho → Res (List Val)} (h : ∀ ρ as, mr ρ = .ok as → as.length = n) : ∀ (ρ : Rho) (as : List Val), mCons ma mr ρ = .ok as → as.length = n + 1 := fun ρ as e => by
  unfold mCons at e
  cases h1 : ma ρ with
  | ok a =>
    rw [h1] at e
    cases h2 : mr ρ with
    | ok r =>
      rw [h2] at e
      cases e
      exact congrArg (· + 1) (h ρ r h2)
    | ex n fs =>
      rw [h2] at e
      cases e
    | no =>
      rw [h2] at e
      cases e
  | ex n fs =>
    rw [h1] at e
    cases e
  | no =>
    rw [h1] at e
    cases e
section
variable {X : Cx} {W : WX} {k n : Nat} {f : Addr} {fd : FuncData} {ps : List Str} {M : List Val → Res Val} {x : Str} {p pos : Pos} {e : Expr} {es : List Expr} {ta : TA} {ma : Rho → Res (List Val)}
theorem pm_def (F : FnG X.prog X.w X.K X.mg X.base k f fd ps (spM X.K X.mg n M)) (gd : X.A.guards = some []) (hr : Room k X.A) (gm : X.mg x = some (.ref f)) (kp : PySem.W.keepIn X.K (.ref f) = true) (hb : Binds X.K fd ps []) (hx : ∀ σ, PassesAt (L2.CX X.prog X.w) X σ (WE W σ))
    (ha : PMA X W (e :: es) ta ma) (hn : ∀ ρ as, ma ρ = .ok as → as.length = n) (gl : Gl X x := by rfl) (db : (x == ("__debug__" : Str)) = false := by decide) (st : starEach (e :: es) X.env = (false, eval e X.env) :: starEach es X.env := by rfl) (pl : (backTo pos (starEach es X.env)).any (·.1) = false := by rfl) :
    PM X W (.Call (.Name x p) (e :: es) [] pos) (tCallS (spM X.K X.mg n M) (WE W) ta) (mDef M ma) := by
  refine ⟨⟨fun pins s σ H Q J h => wpAny_Call_Name_kw (ld_glob J gl gm (PySem.W.callWith_K (h₀ := X.base) J.ok.mod.kin kp (thn (ha.p.run pos pins s σ H _ J h) fun us s1 ⟨vs, H1, J1, r, q⟩ => ⟨J1.kIn, ?_⟩) st pl) db)⟩, snd_def hn ha.s⟩
  have hl : us.length = ps.length := r.length.symm.trans (F.len _ _ _ _ q)
  have bb := hb s1 us J1.kIn ((congrArg List.length (List.append_nil us)).trans hl)
  rw [List.append_nil] at bb
  refine wpAny_call (codeAny_mono (F.go X.A X.stack s1 H1 ⟨us, []⟩ us vs Q (WE W σ) gd hr J1.env0 bb r q) fun o s2 hq => ?_)
  match o, hq with
  | .error err, hq => exact hx σ pins H1 s1 err s2 J1 hq
  | .ok (.ret u), hq => exact J1.after hq
  | .ok .next, hq => exact hq.elim
  | .ok .brk, hq => exact hq.elim
  | .ok .cont, hq => exact hq.elim
end
/-! ### raise, of a class without its own __init__ -/
theorem pms_raise {X : Cx} {W : WX} {bmB : List Value} {B newId initId : String} {C : Addr} {x m : Str} {j : Nat} {p p2 pos pos2 : Pos} (hc : X.calm = true) (tk : Takes X W) (F : ExcBaseFacts B newId initId bmB) (q : PySem.W.excIn X.K C bmB newId = true) (gC : X.mg x = some (.ref C)) (kC : PySem.W.keepIn X.K (.ref C) = true) (r : Raises X (.ref C))
    (hg : Gl X x := by rfl) (hdb : (x == ("__debug__" : Str)) = false := by decide) : PMS X W (.Raise (some (.Call (.Name x p) [.Constant (.str m) j p2] [] pos)) none pos2) (fun _ σ H => W (.ref C) none σ H) (mRaise x) :=
  ⟨ps_raise (t := fun _ H Q => Q (.ref C) none H) hc tk (pmk_own F q gC kC r hg hdb), fun G0 H0 σ G H ρ D I h => h σ G H C none I (Same.refl _) gC (.inl ⟨rfl, rfl⟩)⟩

/-! ### a def of the text -/
def fin : Out → Res Val
  | .rt r => .ok r
  | .nx _ => .ok (.sh .none)
  | .ex n fs _ => .ex n fs
  | _ => .no
def mFn (N : Nat) (ms : Rho → Out) : List Val → Res Val := fun as => fin (ms (as.map some ++ List.replicate (N - as.length) none))
theorem env_start {K : PySem.W.Frag} {G H : Hp} {vs : List V} {as : List Val} (s : Same G H) (h : VRs K H G H vs as) (ha : as.all isArg = true) (m : Nat) (p : Addr) : EnvS K ⟨G, p⟩ H (vs.map some ++ List.replicate m none) G H (as.map some ++ List.replicate m none) := by
  have hl : vs.length = as.length := by
    clear ha
    induction h with
    | nil => rfl
    | cons a b ih => exact congrArg (· + 1) ih
  have key : ∀ (i : Nat) (r : Val), (as.map some ++ List.replicate m none)[i]? = some (some r) → as[i]? = some r ∧ i < as.length := fun i r q => by
    by_cases hi : i < as.length
    · rw [List.getElem?_append_left (by rw [List.length_map]; exact hi), List.getElem?_map, List.getElem?_eq_getElem hi] at q
      exact ⟨by rw [List.getElem?_eq_getElem hi]; exact Option.some.inj q, hi⟩
    · rw [List.getElem?_append_right (by rw [List.length_map]; omega), List.getElem?_replicate] at q
      split at q <;> cases q
  have get : ∀ {as : List Val} {vs : List V} (i : Nat) (r : Val), VRs K H G H vs as → as.all isArg = true → as[i]? = some r → ∃ v, vs[i]? = some v ∧ VR K H G H v r ∧ isArg r = true := by
    intro as vs i r h
    induction h generalizing i with
    | nil => intro _ q; simp at q
    | cons a b ih =>
      intro ha q
      rw [List.all_cons, Bool.and_eq_true] at ha
      cases i with
      | zero =>
        simp at q
        subst q
        exact ⟨_, rfl, a, ha.1⟩
      | succ i =>
        obtain ⟨v, e, z⟩ := ih i ha.2 (by simpa using q)
        exact ⟨v, by simpa using e, z⟩
  refine ⟨Ext.refl s, fun i xs q => ?_, by simp [hl], fun i r q => ?_, fun i j p r s q _ o1 => ?_⟩
  · obtain ⟨e, hi⟩ := key i _ q
    obtain ⟨v, ev, rv, ra⟩ := get i _ h ha e
    cases ra
  · obtain ⟨e, hi⟩ := key i r q
    obtain ⟨v, ev, rv, ra⟩ := get i r h ha e
    refine ⟨v, ?_, ?_⟩
    · rw [List.getElem?_append_left (by rw [List.length_map]; omega), List.getElem?_map, ev]
      rfl
    · cases r with
      | sh d => exact rv
      | ow xs => cases ra
      | bw xs => exact rv
      | fz xs => exact rv
      | io xs => cases ra
      | ob o p C fs => exact rv
  · obtain ⟨e, hi⟩ := key i _ q
    obtain ⟨v, ev, rv, ra⟩ := get i _ h ha e
    cases r with
    | sh d => cases o1
    | ow xs => cases ra
    | bw xs => cases o1
    | fz xs => cases o1
    | io xs => cases ra
    | ob o p C fs => cases o1
section
variable {P : Program} {w : World} {K : PySem.W.Frag} {mg : Str → Option Value} {base : Heap}
theorem def_ok {x qual : Str} {st : Stmt} {f : Addr} {fd : FuncData} {N ps : List Str} {k : Nat} {ms : Rho → Out} (F : Fun K x qual st f fd) (S : FnScope N ps (defScope st))
    (hbody : ∀ (cdv : Value) (A : Around) (outer : List Env) (s : Shared) (H : Hp) (E : XK), A.guards = some [] → Room k (A.deeper (envOfC qual (defScope st) s.heap.objs.size f cdv)) →
      ∃ ts, PMSs (cxOf (L2.CX P w) P w K mg base N qual (defScope st) f cdv A outer s H E) (wOf E) (defBody st) ts ms) : FnG P w K mg base (k + 1) f fd ps (spM K mg ps.length (mFn N.length ms)) := by
  obtain ⟨oc, od, kV, doc, pm, an, cdv, ct, osl, rfl, lk, hcd⟩ := F.ex
  refine ⟨fun vs H Q E ⟨G, as, _, _, _, h, _⟩ => h, fun A outer s H args us vs Q E gd hr e0 hb r hsp => ?_⟩
  have hl : vs.length = ps.length := by
    obtain ⟨G, as, _, _, _, h, _⟩ := hsp
    exact h
  have KX : K.In s.heap := e0.mod.kin.keeps fun b o z => (e0.bs b o z).1
  have lim : s.heap.NoLimit := e0.mod.nolimit.keeps fun b o z => (e0.bs b o z).1
  have names : ∀ y ∈ ps.zip us, (defScope st).names.lookup y.1 = some .local ∨ ((defScope st).names.lookup y.1 = some .cell ∧ ((cellsFrom (s.heap.objs.size + 1) (defScope st).names []).lookup y.1).isSome = true) := fun y hy =>
    (S.par y.1 (List.of_mem_zip (a := y.1) (b := y.2) hy).1).imp id fun z => ⟨z, PySem.W.cellsFrom_some _ _ _ (.inl z)⟩
  obtain ⟨ts, B⟩ := hbody cdv A outer s H E gd (hr.deeper _)
  have want : ts { nx := fun _ H' => Q .non H', rt := Q } (start N vs) H := by
    obtain ⟨G, as, hs, hv, ha, _, h⟩ := hsp
    have hl' : vs.length = as.length := hv.len
    have I := env_start hs hv ha (N.length - vs.length) 0
    refine B.s ⟨G, 0⟩ H (start N vs) G H _ _ I ?_
    rw [hl'] at I ⊢
    unfold mFn fin at h
    cases eo : ms (as.map some ++ List.replicate (N.length - as.length) none) with
    | nx ρ =>
      rw [eo] at h
      exact fun σ' G' H'' I' _ => h G' H'' .non I'.ext Rp.non
    | rt r =>
      rw [eo] at h
      exact h
    | rx r ρ =>
      rw [eo] at h
      exact h.elim
    | bk ρ =>
      rw [eo] at h
      exact h.elim
    | ct ρ =>
      rw [eo] at h
      exact h.elim
    | ex n fs ρ =>
      rw [eo] at h
      exact fun σ' G' H'' C d I' _ a b => h G' H'' C d I'.ext a b
    | no =>
      rw [eo] at h
      exact h.elim
  refine codeAny_call_function hr.depth (KX _ _ lk) rfl S.co S.gen rfl (PySem.W.codeRec_of KX hcd) (hb _ _ _ _ (wpAny_newFunctionEnv_cells S.kind names fun env he s1 ic => ?_))
  subst he
  refine ⟨lim.keeps ic.toInCall.keep, codeAny_func (wpAny_mono (B.p.run [] s1 (start N vs) H _ (inv_start (CX := L2.CX P w) (E := E) S hr.hd e0 hl r ic) want) (fun fl s' z => ?_) fun _ _ z => z)⟩
  match fl, z with
  | .ret u, ⟨v, σ', H', J, rv, q⟩ => exact ⟨v, H', J.os, J.bare, J.base, J.hok, rv, q⟩
  | .next, ⟨σ', H', J, q⟩ => exact ⟨V.non, H', J.os, J.bare, J.base, J.hok, rfl, q⟩
  | .brk, ⟨_, _, _, q⟩ => exact q.elim
  | .cont, ⟨_, _, _, q⟩ => exact q.elim
end
end Mi

namespace Mi
open PySem PySem.Spec PyProof.Rows L2

/-! ### try: .. except X: .. -/
def noEx : Out → Out
  | .ex _ _ _ => .no
  | o => o
def mTry (body : Rho → Out) (dec : Str → Option Bool) (h : Rho → Out) : Rho → Out := fun ρ => match body ρ with
  | .ex m fs ρ' => match dec m with
    | some true => noEx (h ρ')
    | some false => .ex m fs ρ'
    | none => .no
  | o => o
def Decs (K : PySem.W.Frag) (mg : Str → Option Value) (c : Value) (dec : Str → Option Bool) : Prop := ∀ (m : Str) (b : Bool) (C : Addr), dec m = some b → mg m = some (.ref C) → PySem.W.exmOne K (.ref C) c = some b
theorem snd_try {K : PySem.W.Frag} {mg : Str → Option Value} {Wout : WX} {c : Value} {dec : Str → Option Bool} {tb : WX → TS} {mb : Rho → Out} {ts : Addr → Value → Option Addr → TS} {mh : Rho → Out} (hd : Decs K mg c dec)
    (hb : ∀ W, SndS K mg W (tb W) mb) (hh : ∀ a cls d, SndS K mg W0 (ts a cls d) mh) : SndS K mg Wout (fun D σ H => tb (wOnly K c ts Wout D) D σ H) (mTry mb dec mh) := by
  intro G0 H0 σ G H ρ D I q
  refine hb _ G0 H0 σ G H ρ D I ?_
  unfold mTry at q
  cases eo : mb ρ with
  | nx ρ' =>
    rw [eo] at q
    exact q
  | rt r =>
    rw [eo] at q
    exact q
  | rx r ρx =>
    rw [eo] at q
    exact q
  | bk ρ' =>
    rw [eo] at q
    exact q
  | ct ρ' =>
    rw [eo] at q
    exact q
  | no =>
    rw [eo] at q
    exact q
  | ex m fs ρ' =>
    rw [eo] at q
    have q : OutR K mg Wout G0 H0 G D (match dec m with
      | some true => noEx (mh ρ')
      | some false => .ex m fs ρ'
      | none => .no) := q
    intro σ' G' H' C d I' s' hC hx
    cases ed : dec m with
    | none =>
      rw [ed] at q
      exact q.elim
    | some b =>
      refine ⟨b, hd m b C ed hC, fun eb a ha => ?_, fun eb => ?_⟩
      · subst eb
        rw [ed] at q
        have q : OutR K mg Wout G0 H0 G D (noEx (mh ρ')) := q
        refine hh a (.ref C) d G0 H0 σ' G' H' ρ' D I' ?_
        have q := OutR.up s' q
        cases eh : mh ρ' with
        | nx ρ2 =>
          rw [eh] at q
          exact q
        | rt r =>
          rw [eh] at q
          exact q
        | rx r ρx =>
          rw [eh] at q
          exact q
        | bk ρ2 =>
          rw [eh] at q
          exact q
        | ct ρ2 =>
          rw [eh] at q
          exact q
        | no =>
          rw [eh] at q
          exact q
        | ex m2 fs2 ρ2 =>
          rw [eh] at q
          exact q.elim
      · subst eb
        rw [ed] at q
        exact q σ' G' H' C d I' s' hC hx
section
variable {X : Cx} {Wout : WX} {x : Str} {c : Value} {body suite : List Stmt} {b₀ : Stmt} {np pos pos' : Pos} {tb : WX → TS} {mb : Rho → Out} {ts : Addr → Value → Option Addr → TS} {mh : Rho → Out} {dec : Str → Option Bool}
theorem pms_try (hs : X.stack = X.env :: X.outer) (hf : X.env.frame = some X.env.locals) (gc : X.mg x = some c) (tk : Takes X Wout) (hd : Decs X.K X.mg c dec)
    (hb : ∀ (W : WX) (pn : List (Addr × Obj)) (xe : Value → Shared → Prop), Takes (X.tr pn xe) W → PMSs (X.tr pn xe) W body (tb W) mb)
    (hh : ∀ (a : Addr) (oe : Obj) (cls : Value) (d : Option Addr) (pn : List (Addr × Obj)), PMSs (X.suite a ((a, oe) :: pn)) W0 (b₀ :: suite) (ts a cls d) mh) (gl : Gl X x := by rfl) (db : (x == ("__debug__" : Str)) = false := by decide) :
    PMS X Wout (.Try body [.ExceptHandler (some (.Name x np)) none (b₀ :: suite) pos'] [] [] pos) (fun D σ H => tb (wOnly X.K c ts Wout D) D σ H) (mTry mb dec mh) := by
  refine ⟨ps_try_only hs hf ⟨gl, db, .inl gc⟩ tk (fun W pn xe t _ => (hb W pn xe t).p) (fun a oe cls d pn _ _ => (hh a oe cls d pn).p), snd_try hd (fun W => ?_) fun a cls d => (hh a { cls := cls, dict := d, data := .fields #[] } cls d []).s⟩
  exact (hb W [] (fun u s' => XE (X.tr [] fun _ _ => False) W u s') fun u s' ⟨a, B, sI, pins, σ, H, cls, d, e, J, rest⟩ => ⟨a, B, sI, pins, σ, H, cls, d, e, J.wish (fun _ _ => False), rest⟩).s
end

/-! ### the law's end -/
/-- the law follows its mirror, which says True of the script -/
theorem law_run {P : Program} {w : World} {K : PySem.W.Frag} {mg mb : Str → Option Value} {k : Nat} {fa a : Addr} {fd : FuncData} {x : Str} {M : List Val → Res Val} {s₁ : Shared} {vs : List Value} {ns : List Int}
    (kin : K.In s₁.heap) (nsg : s₁.heap.Ns mainGlobals mg) (nsb : s₁.heap.Ns builtinsNs mb) (blt : ∀ x : Str, x ≠ "__name__" → mb x = bootBuiltins x) (lim : s₁.heap.NoLimit) (gens : s₁.gens = #[]) (ha : s₁.heap.get? a = some { cls := .type "list", data := .seq vs.toArray })
    (iv : IntsAre vs ns) (small : ns.length ≤ sizeLine) (room : Room k callerA) (F : ∀ base : Heap, K.In base → base.Ns mainGlobals mg → FnG P w K mg base k fa fd [x] (spM K mg 1 M)) (bind : ∀ (s : Shared) (u : Value), BindsTo s fd ⟨[u], []⟩ [(x, u)])
    (says : M [.fz (ns.map .int)] = .ok (.sh (.bool true))) : codeAny (model P w) callerA (.call (.ref fa) ⟨[.ref a], []⟩) (fun r s' => r = .ok (.ret (.bool true)) ∧ OldK s₁.heap s'.heap ∧ s'.os = s₁.os ∧ AllBare s'.gens) s₁ := by
  have vals := vals_ints iv
  -- the script is tracked as it lies, if it is no object of the module
  have main : ∀ (H : Hp), (∀ b u, H b = some u → b = a ∧ K.lookup a = none ∧ ∃ o : Obj, u = .frz o (.lst (ns.map V.int)) ∧ ObjOk P w H s₁.heap b u ∧ s₁.heap.get? a = some o) → SqL K H a (ns.map V.int) →
      codeAny (model P w) callerA (.call (.ref fa) ⟨[.ref a], []⟩) (fun r s' => r = .ok (.ret (.bool true)) ∧ OldK s₁.heap s'.heap ∧ s'.os = s₁.os ∧ AllBare s'.gens) s₁ := by
    intro H only sq
    have free : ∀ {b : Addr} {o : Obj}, s₁.heap.get? b = some o → b ≠ a → H b = none := fun {b o} _ ne => by
      cases q : H b with
      | none => rfl
      | some u => exact absurd (only b u q).1 ne
    have spaces : ∀ {b : Addr} {m : Str → Option Value}, s₁.heap.Ns b m → (hidT s₁.heap H).Ns b m := fun {b m} ⟨o, es, ep, e, d, r⟩ => by
      have ne : b ≠ a := fun z => by
        rw [z, ha] at e
        cases e
        cases d
      exact ⟨o, es, ep, hidT_get e (free e ne), d, r⟩
    have kb : K.In (hidT s₁.heap H) := fun b o e => by
      refine hidT_get (kin b o e) ?_
      cases q : H b with
      | none => rfl
      | some u =>
        obtain ⟨rfl, n, _⟩ := only b u q
        rw [n] at e
        cases e
    have env : Env0 P w K mg (hidT s₁.heap H) callerA [] s₁ H := ⟨rfl, ⟨kb, spaces nsg, ⟨mb, spaces nsb, blt⟩, let ⟨mc, h1, h2⟩ := lim; ⟨mc, spaces h1, h2⟩⟩, fun b o e => of_hidT e, Nat.le_of_eq (hidT_size _ _), trivial, (fun b z => nomatch z),
      (fun b u q => (only b u q).2.2.elim fun _ z => z.2.1), .of_eq gens⟩
    have promise : spM K mg 1 M [.ref a] H (fun v _ => v = .bl true) fun _ _ _ => False := by
      refine ⟨H, [.fz (ns.map .int)], Same.refl _, .cons ⟨a, ns.map V.int, rfl, sq, rpa_ints ns⟩ .nil, rfl, rfl, ?_⟩
      rw [says]
      intro G' H' v _ z
      cases (show Rp K G' v (.bool true) from z)
      rfl
    refine codeAny_mono ((F _ kb (spaces nsg)).go callerA [] s₁ H ⟨[.ref a], []⟩ [.ref a] [.ref a] _ _ rfl room env (bind s₁ (.ref a)) (.cons rfl .nil) promise) fun r s' z => ?_
    match r, z with
    | .error e, ⟨_, _, _, _, _, _, _, _, _, _, _, _, no⟩ => exact no.elim
    | .ok .next, no => exact no.elim
    | .ok .brk, no => exact no.elim
    | .ok .cont, no => exact no.elim
    | .ok (.ret u), ⟨v, H', os, bare, un, ok', rv, q⟩ =>
      cases (show v = .bl true from q)
      cases (show u = Value.bool true from rv)
      refine ⟨rfl, OldK.of_keep fun b o e => ?_, os, bare⟩
      cases q : H b with
      | none => exact un.keep b o e q (fun z => nomatch z) (fun z => nomatch z)
      | some u =>
        obtain ⟨rfl, _, ob, rfl, _, e2⟩ := only b u q
        rw [ha] at e e2
        cases e
        cases e2
        exact (ok' b _ (un.frzs b _ _ q)).1
  cases own : K.lookup a with
  | some o =>
    have z := kin a o own
    rw [ha] at z
    cases z
    exact main (fun _ => none) (fun b u q => nomatch q) (.inr ⟨_, vs.toArray, _, own, rfl, rfl, rfl, (by rw [List.size_toArray, iv.length]; exact small), (by simpa using vals)⟩)
  | none =>
    refine main (fun b => if b = a then some (.frz { cls := .type "list", data := .seq vs.toArray } (.lst (ns.map V.int))) else none) (fun b u q => ?_) (.inl (.inr ⟨_, if_pos rfl⟩))
    by_cases hb : b = a
    · subst hb
      rw [if_pos rfl] at q
      cases q
      exact ⟨rfl, own, _, rfl, ⟨ha, by rw [List.length_map]; exact small, vs, _, vals, ha⟩, ha⟩
    · rw [if_neg hb] at q
      cases q
theorem law_end {l : PySem.W.OpenLaw} {n k : Nat} {q : Program} {loose : List Str} {XP : (Str → Option Value) → Heap → Prop} {YP : World → Heap → Prop} {d : DefRec} {K : Params → PySem.W.Frag} {M : List Val → Res Val} {x : Str} (hn : l.most = some n) (hn2 : n ≤ sizeLine) (hdf : d.params.defaults = []) (room : Room k callerA)
    (hY : ∀ (w : World) (h : Heap), YP w h → (K w.params).In h) (F : ∀ (w : World) (mg : Str → Option Value) (fa : Addr) (h : Heap), (K w.params).In h → h.Ns mainGlobals mg → mg d.name = some (.ref fa) →
      ∃ fd : FuncData, (∀ (s : Shared) (u : Value), BindsTo s fd ⟨[u], []⟩ [(x, u)]) ∧ ∀ base : Heap, (K w.params).In base → base.Ns mainGlobals mg → FnG l.prog w (K w.params) mg base k fa fd [x] (spM (K w.params) mg 1 M))
    (says : ∀ ns : List Int, ns.length ≤ n → M [.fz (ns.map .int)] = .ok (.sh (.bool true))) : PySem.W.WalkO q loose XP YP l.row.toRowW d [] (fun f vs => PySem.call f vs) := by
  refine Att.attach_call hn hdf fun w s₀ s₁ mg mb fa o pm cd doc a vs ns G Y _ _ _ hmg hobj hints hlen gens => ?_
  obtain ⟨fd, bind, go⟩ := F w mg fa _ (hY w _ Y) G.T.g hmg
  exact law_run (hY w _ Y) G.T.g G.T.b G.T.builtins G.T.nolimit gens hobj hints (Nat.le_trans hlen hn2) room go bind (says ns hlen)
end Mi

namespace Mi
open PySem PySem.Spec PyProof.Rows L2
/-! ### xs[::-1] -/
def mRev (ma : Rho → Res Val) : Rho → Res Val := fun ρ => (ma ρ).bind fun a => lift (match lit a with
  | some xs => some (.ow xs.reverse)
  | none => none)
theorem snd_rev {K : PySem.W.Frag} {mg : Str → Option Value} {W : WX} {ta : TE} {ma : Rho → Res Val} (ha : Snd K mg W ta ma) : Snd K mg W (tRevL K ta) (mRev ma) := by
  intro G0 H0 σ G H ρ Q I h
  refine ha G0 H0 σ G H ρ _ I (RR.bnd (Ext.refl I.s) h fun a G1 H1 x ea e1 r1 h1 => ?_)
  obtain ⟨c, ec, q⟩ := h1.lift
  split at ec
  · rename_i xs e2
    cases ec
    obtain ⟨p, vs, rfl, hp, k⟩ := r1.list e1.s e2
    exact ⟨p, vs, rfl, hp, fun t ht => q G1 _ _ (e1.trans (Ext.newO e1.s ht)) ⟨t, _, rfl, upd_same, e1.s.free ht, e1.h.free ht, k.reverse⟩⟩
  · cases ec
theorem pm_rev {X : Cx} {W : WX} {e : Expr} {te : TE} {me : Rho → Res Val} {k : Nat} {p1 p2 p3 pos : Pos} (h : PM X W e te me) : PM X W (.Subscript e (.Slice none none (some (.UnaryOp .USub (.Constant (.int 1) k p1) p2)) p3) pos) (tRevL X.K te) (mRev me) := ⟨pe_revL h.p, snd_rev h.s⟩
/-! ### nothing is let out of a comprehension's block -/
theorem passB {X : Cx} {σ : L2.St} : PassesAt (L2.CX X.prog X.w) X σ (WE W0 σ) := fun _ _ _ _ _ _ h => by
  obtain ⟨_, _, _, _, _, _, _, _, _, _, _, _, z⟩ := h
  exact z.elim
/-- an error of an own class against an except clause of an own class -/
theorem exm_own {K : PySem.W.Frag} {S T : Addr} {b : Bool} (h1 : PySem.W.subIn K (.ref T) (.type "BaseException") = some true) (h2 : PySem.W.isClsIn K T = true) (h3 : PySem.W.typeIn K (.ref T) = some (.type "type")) (h4 : PySem.W.subIn K (.ref S) (.ref T) = some b) : PySem.W.exmOne K (.ref S) (.ref T) = some b := by
  have e1 : (PySem.W.subIn K (.ref T) (.type "BaseException") == some true) = true := by rw [h1]; rfl
  have e2 : ((PySem.W.clsIn K T).isSome && PySem.W.typeIn K (.ref T) == some (.type "type")) = true := by
    have z : (PySem.W.clsIn K T).isSome = true := h2
    rw [z, h3]; rfl
  unfold PySem.W.exmOne PySem.W.kitCls
  rw [if_pos e1]
  exact (if_pos e2).trans h4
/-! ### the rules with the written part by its name (within a comprehension's block it must not hang on the block) -/
section
variable {X : Cx} {K : PySem.W.Frag}
theorem ix_seqK (h : X.K = K := by rfl) : IxR X (rIx K) := h ▸ ix_seq
theorem call_lenK (h : X.K = K := by rfl) : CallR X (.builtin "len") (fun xs H Q => ∃ x n, xs = [x] ∧ LenV K x H n ∧ Q (.int n) H) := h ▸ call_len
theorem call_list_ofK (h : X.K = K := by rfl) : CallR X (.type "list") (fun xs H Q => ∃ p ys, xs = [.ref p] ∧ (SqL K H p ys ∨ SqT K H p ys) ∧ ∀ l, H l = none → Q (.ref l) (upd H l (.lst ys))) := h ▸ call_list_of
theorem cr_sortedIK (h : X.K = K := by rfl) : CallR X (.builtin "sorted") (rSortedI K) := h ▸ cr_sortedI
theorem cr_sumK (hc : X.calm = true := by rfl) (h : X.K = K := by rfl) : CallR X (.builtin "sum") (rSum K) := h ▸ cr_sum hc
theorem op_eqDK (hu : X.A.units + 64 < cLine) (h : X.K = K := by rfl) : OpR X (compareOp .Eq) (rEqD K) := h ▸ op_eqD hu
theorem op_neDK (hu : X.A.units + 64 < cLine) (h : X.K = K := by rfl) : OpR X (compareOp .NotEq) (rNeD K) := h ▸ op_neD hu
theorem op_in_seqK (h : X.K = K := by rfl) : OpR X (compareOp .In) (rIn K false) := h ▸ op_in_seq
theorem op_notIn_seqK (h : X.K = K := by rfl) : OpR X (compareOp .NotIn) (rIn K true) := h ▸ op_notIn_seq
theorem call_reprDK (gd : X.A.guards = some []) (hu : X.A.units + 64 < cLine) (h : X.K = K := by rfl) : CallR X (.builtin "repr") (rRepr K) := h ▸ call_reprD gd hu
end
section
variable {X : Cx} {K : PySem.W.Frag} {W : WX} {a e : Expr} {ta te : TE} {ma me : Rho → Res Val} {lo hi : Option Expr} {tl th : TO} {ml mh : Rho → Res (Option Int)} {pos p1 p2 p3 p : Pos} {k n : Nat}
theorem pm_sliceK (ha : PM X W a ta ma) (hl : PMO X W lo tl ml) (hh : PMO X W hi th mh) (h : X.K = K := by rfl) : PM X W (.Subscript a (.Slice lo hi none p2) pos) (tSl (rSlL K) ta tl th) (mSl ma ml mh) := h ▸ pm_slice ha hl hh
theorem pmt_truK (ha : PM X W a ta ma) (he : ∀ whole, isTrue a X.env whole = (do let v ← whole; standAt a.pos; holding [v] (truthy v)) := by intro _; rfl) (h : X.K = K := by rfl) :
    PMT X W a (fun σ H Q => ta σ H fun x H' => ∃ k, TruV K x H' k ∧ Q k H') (mTru ma) := h ▸ pmt_tru ha he
theorem pm_revK (ha : PM X W e te me) (h : X.K = K := by rfl) : PM X W (.Subscript e (.Slice none none (some (.UnaryOp .USub (.Constant (.int 1) k p1) p2)) p3) pos) (tRevL K te) (mRev me) := h ▸ pm_rev ha
theorem pm_defK {P : Program} {w : World} {mg : Str → Option Value} {base : Heap} {f : Addr} {fd : FuncData} {ps : List Str} {M : List Val → Res Val} {x : Str} {es : List Expr} {tr : TA} {mr : Rho → Res (List Val)} (F : FnG P w K mg base k f fd ps (spM K mg n M)) (gd : X.A.guards = some []) (hr : Room k X.A) (gm : mg x = some (.ref f)) (kp : PySem.W.keepIn K (.ref f) = true) (hb : Binds K fd ps [])
    (hx : ∀ σ, PassesAt (L2.CX X.prog X.w) X σ (WE W σ)) (ha : PMA X W (e :: es) tr mr) (hn : ∀ ρ as, mr ρ = .ok as → as.length = n) (gl : Gl X x := by rfl) (h1 : X.prog = P := by rfl) (h2 : X.w = w := by rfl) (h3 : X.K = K := by rfl) (h4 : X.mg = mg := by rfl) (h5 : X.base = base := by rfl)
    (db : (x == ("__debug__" : Str)) = false := by decide) (st : starEach (e :: es) X.env = (false, eval e X.env) :: starEach es X.env := by rfl) (pl : (backTo pos (starEach es X.env)).any (·.1) = false := by rfl) :
    PM X W (.Call (.Name x p) (e :: es) [] pos) (tCallS (spM K mg n M) (WE W) tr) (mDef M mr) := by
  subst h1 h2 h3 h4 h5
  exact pm_def F gd hr gm kp hb hx ha hn gl db st pl
end
end Mi

namespace Mi
open PySem PySem.Spec PyProof.Rows L2
/-! ### texts compared -/
def oEqS : Val → Val → Option Val
  | .sh (.str a), .sh (.str b) => some (.sh (.bool (decide (a = b))))
  | _, _ => none
def oNeS : Val → Val → Option Val
  | .sh (.str a), .sh (.str b) => some (.sh (.bool (!decide (a = b))))
  | _, _ => none
theorem dec_str (a b : Str) : decide (V.str a = V.str b) = decide (a = b) := by
  by_cases h : a = b
  · rw [h, decide_eq_true rfl, decide_eq_true rfl]
  · rw [decide_eq_false h, decide_eq_false fun z => h (V.str.inj z)]
theorem os_eqS {K : PySem.W.Frag} : OpS K rEq oEqS := by
  intro B G H x y a b c Q s ha hb e q
  unfold oEqS at e
  split at e
  · cases e
    cases ha.str_
    cases hb.str_
    refine ⟨rfl, ?_⟩
    rw [dec_str]
    exact q G H _ (Ext.refl s) (Rp.bl _)
  · cases e
theorem os_neS {K : PySem.W.Frag} : OpS K rNe oNeS := by
  intro B G H x y a b c Q s ha hb e q
  unfold oNeS at e
  split at e
  · cases e
    cases ha.str_
    cases hb.str_
    refine ⟨rfl, ?_⟩
    rw [dec_str]
    exact q G H _ (Ext.refl s) (Rp.bl _)
  · cases e
end Mi

namespace Mi
open PySem PySem.Spec PyProof.Rows L2
/-! ### methods of built-in values, asked -/
def tyOf (T : String) : Val → Bool
  | .sh (.str _) => T == "str"
  | r => (lit r).isSome && T == "list"
theorem tyV_of {K : PySem.W.Frag} {B G H : Hp} {v : V} {r : Val} {T : String} (s : Same G H) (h : VR K B G H v r) (t : tyOf T r = true) : tyV K T v H := by
  unfold tyOf at t
  split at t
  · cases h.str_
    exact beq_iff_eq.mp t
  · rw [Bool.and_eq_true] at t
    obtain ⟨xs, e⟩ := Option.isSome_iff_exists.mp t.1
    obtain ⟨p, vs, rfl, hp, _⟩ := h.list s e
    exact .inl ⟨beq_iff_eq.mp t.2, vs, hp⟩
def MethS (K : PySem.W.Frag) (r : V → List V → Hp → VK → Prop) (mo : Val → List Val → Option Val) : Prop :=
  ∀ (B G H : Hp) (x : V) (o : Val) (vs : List V) (as : List Val) (c : Val) (Q : VK), Same G H → VR K B G H x o → VRs K B G H vs as → mo o as = some c → (∀ G' H' v, Ext G H G' H' → VR K H G' H' v c → Q v H') → r x vs H Q
def mMeth (T : String) (mm : Val → List Val → Option Val) (mo : Rho → Res Val) (ma : Rho → Res (List Val)) : Rho → Res Val := fun ρ => (mo ρ).bind fun o => if tyOf T o = true then (ma ρ).bind fun as => lift (mm o as) else .no
theorem snd_meth {K : PySem.W.Frag} {mg : Str → Option Value} {W : WX} {T : String} {r : V → List V → Hp → VK → Prop} {mm : Val → List Val → Option Val} {to : TE} {mo : Rho → Res Val} {ta : TA} {ma : Rho → Res (List Val)} (hs : MethS K r mm) (ho : Snd K mg W to mo) (ha : SndA K mg W ta ma) : Snd K mg W (tBM K T r to ta) (mMeth T mm mo ma) := by
  intro G0 H0 σ G H ρ Q I h
  refine ho G0 H0 σ G H ρ _ I (RR.bnd (Ext.refl I.s) h fun o G1 H1 x eo e1 r1 h1 => ?_)
  split at h1
  · rename_i ht
    refine ⟨tyV_of e1.s r1 ht, ?_⟩
    refine ha G0 H0 σ G1 H1 ρ _ (I.ext' e1) (RR.bnd e1 h1 fun as G2 H2 vs ea e2 r2 h2 => ?_)
    obtain ⟨c, ec, q⟩ := h2.lift
    exact hs H G2 H2 x o vs as c Q e2.s (r1.ext e2) (r2.back e1.h) ec fun G' H' v e z => q G' H' v ((e1.trans e2).trans e) (z.back (e1.trans e2).h)
  · exact h1.elim
theorem pm_meth {X : Cx} {K : PySem.W.Frag} {W : WX} {o e : Expr} {es : List Expr} {name : Str} {T id : String} {apos cpos : Pos} {r : V → List V → Hp → VK → Prop} {mm : Val → List Val → Option Val} {to : TE} {mo : Rho → Res Val} {ta : TA} {ma : Rho → Res (List Val)} (pa : PlainAttrs T) (slot : Slot T name id) (hty : typeOf (.builtin id) = pure (.type "method_descriptor"))
    (hm : MtR X id r) (hs : MethS K r mm) (ho : PM X W o to mo) (ha : PMA X W (e :: es) ta ma) (hK : X.K = K := by rfl)
    (hbase : attributeBase o name X.env (eval o X.env) = eval o X.env := by rfl)
    (hfew : ((backTo cpos (starEach (e :: es) X.env)).all (fun x => !x.1) && (backToKw cpos (keywordEach [] X.env)).all (fun x => x.1.isSome) && decide ((e :: es).length + ([] : List Keyword).length + (if ([] : List Keyword).isEmpty then 0 else 1) < 30)) = true := by rfl)
    (hline : (apos.endLine == cpos.line) = true := by rfl) (st : starEach (e :: es) X.env = (false, eval e X.env) :: starEach es X.env := by rfl) (hplain : (backTo cpos (starEach es X.env)).any (·.1) = false := by rfl) :
    PM X W (.Call (.Attribute o name apos) (e :: es) [] cpos) (tBM K T r to ta) (mMeth T mm mo ma) := by
  subst hK
  exact ⟨pe_bm pa slot hty hm ho.p ha.p hbase hfew hline st hplain, snd_meth hs ho.s ha.s⟩
/-- the place of the first item that equals d -/
def firstAt (d : D) : List D → Option Nat
  | [] => none
  | z :: zs => if PyData.eqv z d = true then some 0 else (firstAt d zs).map (· + 1)
theorem firstAt_ok {d : D} : ∀ {xs : List D} {j : Nat}, firstAt d xs = some j → (∃ z, xs[j]? = some z ∧ PyData.eqv z d = true) ∧ ∀ (m : Nat) (z' : D), m < j → xs[m]? = some z' → PyData.eqv z' d = false
  | [], _, h => by cases h
  | z :: zs, j, h => by
    unfold firstAt at h
    by_cases e : PyData.eqv z d = true
    · rw [if_pos e] at h
      cases h
      exact ⟨⟨z, rfl, e⟩, fun m _ hm => absurd hm (Nat.not_lt_zero m)⟩
    · rw [if_neg e] at h
      cases q : firstAt d zs with
      | none =>
        rw [q] at h
        cases h
      | some i =>
        rw [q] at h
        cases h
        obtain ⟨⟨y, h1, h2⟩, h3⟩ := firstAt_ok q
        refine ⟨⟨y, by simpa using h1, h2⟩, fun m z' hm hz => ?_⟩
        cases m with
        | zero =>
          have : z = z' := by simpa using hz
          subst this
          cases b : PyData.eqv z d
          · rfl
          · exact absurd b e
        | succ m =>
          have hm : m + 1 < i + 1 := hm
          exact h3 m z' (by omega) (by simpa using hz)
def kIndex : Val → List Val → Option Val := fun o as => match lit o, as with
  | some xs, [.sh d] => if (flatD d && xs.all flatD) = true then (firstAt d xs).map fun j => .sh (.int (j : Nat)) else none
  | _, _ => none
theorem ks_index {K : PySem.W.Frag} : MethS K (rIndex K) kIndex := by
  intro B G H x o vs as c Q s ho ha e q
  unfold kIndex at e
  split at e
  · split at e
    · rename_i xs d e1 hf
      rw [Bool.and_eq_true] at hf
      cases ej : firstAt d xs with
      | none =>
        rw [ej] at e
        cases e
      | some j =>
        rw [ej] at e
        cases e
        obtain ⟨p, us, rfl, hp, k⟩ := ho.list s e1
        obtain ⟨y, rfl, hy⟩ := vrs1 ha
        have hy : Rp K G y d := hy
        obtain ⟨⟨z, h1, h2⟩, h3⟩ := firstAt_ok ej
        obtain ⟨u, hu, ru⟩ := k.get h1
        have fz : flatD z = true := List.all_eq_true.mp hf.2 z (List.mem_of_getElem? h1)
        refine ⟨p, us, y, j, u, rfl, rfl, hp, ?_, ?_, hu, ?_, fun m u' hm hu' => ?_, q G H _ (Ext.refl s) (Rp.int _)⟩
        · rw [flat_of hy]
          exact hf.1
        · rw [flats_of k]
          exact hf.2
        · rw [eqv_of ru hy fz hf.1]
          exact h2
        · obtain ⟨z', hz', rz'⟩ := k.getV hu'
          rw [eqv_of rz' hy (List.all_eq_true.mp hf.2 z' (List.mem_of_getElem? hz')) hf.1]
          exact h3 m z' hm hz'
    · cases e
  · cases e
/-- the rule with the written part by its name -/
theorem mt_indexK {X : Cx} {K : PySem.W.Frag} (h : X.K = K := by rfl) : MtR X "list.index" (rIndex K) := h ▸ mt_index

/-! ### row.insert(i, x) -/
def rIns : V → List V → Hp → VK → Prop := fun x vs H Q => ∃ (l : Addr) (xs : List V) (i : Int) (y : V), x = .ref l ∧ vs = [.int i, y] ∧ H l = some (.lst xs) ∧ xs.length < sizeLine ∧ 0 ≤ i ∧ i < 2 ^ 63 ∧ Q .non (upd H l (.lst (xs.take i.toNat ++ [y] ++ xs.drop i.toNat)))
def mIns (i : Nat) (m1 m2 : Rho → Res Val) : Rho → Out := fun ρ => match ρ[i]? with
  | some (some (.ow xs)) => sRes (m1 ρ) ρ fun k => sRes (m2 ρ) ρ fun r => match k, esc r with
    | .sh (.int k), some d => if xs.length < 100000 ∧ 0 ≤ k ∧ k ≤ 1000000 then .nx (ρ.set i (some (.ow (xs.take k.toNat ++ [d] ++ xs.drop k.toNat)))) else .no
    | _, _ => .no
  | _ => .no
theorem snd_ins {K : PySem.W.Frag} {mg : Str → Option Value} {W : WX} {i : Nat} {t1 t2 : TE} {m1 m2 : Rho → Res Val} (h1 : Snd K mg W t1 m1) (h2 : Snd K mg W t2 m2) : SndS K mg W (tDrop (tBM K "list" rIns (tVar i) (tCons t1 (tCons t2 tNil)))) (mIns i m1 m2) := by
  intro G0 H0 σ G H ρ D I q
  unfold mIns at q
  split at q
  · rename_i xs e
    obtain ⟨p, vs, hv, hp, hg, k⟩ := own_get I e
    refine ⟨.ref p, hv, .inl ⟨rfl, vs, SqL.of hp⟩, ?_⟩
    refine h1 G0 H0 σ G H ρ _ I (RR.out I q fun a G1 H1 x ea e1 r1 q1 => ?_)
    have I1 := I.ext' e1
    refine h2 G0 H0 σ G1 H1 ρ _ I1 (RR.out I1 q1 fun b G2 H2 y eb e2 r2 q2 => ?_)
    split at q2
    · split at q2
      · rename_i kk d ed hl
        obtain ⟨G3, x3, s3, kd⟩ := esc_one e2 r2.vw ed
        have I3 := I1.ext' x3
        obtain ⟨p', vs', hv', hp', hg', k'⟩ := own_get I3 e
        rw [hv] at hv'
        cases hv'
        cases r1.int_
        refine ⟨p, vs', _, y, rfl, rfl, hp', ?_, hl.2.1, by omega, OutR.up s3 q2 σ G3 _ (I3.mut e hv (((k'.take _).append (.cons kd .nil)).append (k'.drop _))) (Same.refl _)⟩
        rw [k'.length]
        exact sz_lt hl.1
      · exact q2.elim
    · exact q2.elim
  · exact q.elim
theorem pms_ins {X : Cx} {W : WX} (i : Nat) {x : Str} {p apos cpos pos : Pos} {e f : Expr} {t1 t2 : TE} {m1 m2 : Rho → Res Val} (h1 : PM X W e t1 m1) (h2 : PM X W f t2 m2) (hN : X.N[i]? = some x := by rfl) (hv : Vis X.env.scope x := by first | exact Or.inl rfl | exact Or.inr (Or.inl rfl) | exact Or.inr (Or.inr rfl)) (hd : (x == ("__debug__" : Str)) = false := by decide)
    (hcd : (x == ("__classdict__" : Str)) = false := by decide) (st : starEach [e, f] X.env = (false, eval e X.env) :: starEach [f] X.env := by rfl) (st2 : starEach [f] X.env = (false, eval f X.env) :: starEach [] X.env := by rfl)
    (hbase : attributeBase (.Name x p) "insert" X.env (eval (.Name x p) X.env) = eval (.Name x p) X.env := by rfl)
    (hfew : ((backTo cpos (starEach [e, f] X.env)).all (fun x => !x.1) && (backToKw cpos (keywordEach [] X.env)).all (fun x => x.1.isSome) && decide ([e, f].length + ([] : List Keyword).length + (if ([] : List Keyword).isEmpty then 0 else 1) < 30)) = true := by rfl)
    (hline : (apos.endLine == cpos.line) = true := by rfl) (hplain : (backTo cpos (starEach [f] X.env)).any (·.1) = false := by rfl)
    (hs : swapsWith (.Call (.Attribute (.Name x p) "insert" apos) [e, f] [] cpos) none pos.line X.env = pure false := by rfl) :
    PMS X W (.Expr (.Call (.Attribute (.Name x p) "insert" apos) [e, f] [] cpos) pos) (tDrop (tBM X.K "list" rIns (tVar i) (tCons t1 (tCons t2 tNil)))) (mIns i m1 m2) :=
  ⟨ps_expr (pe_bm PySem.F.plainAttrs_list PySem.F.slot_list_insert PySem.F.type_list_insert mt_insert (pe_var hN hv hd hcd) (pa_cons h1.p (pa_cons h2.p pa_nil st2) st) hbase hfew hline st hplain) hs, snd_ins h1.s h2.s⟩

/-! ### all, any of truth values -/
def boolsOf : List D → Option (List Bool)
  | [] => some []
  | d :: ds => match d, boolsOf ds with
    | .bool b, some bs => some (b :: bs)
    | _, _ => none
theorem boolsOf_rp {K : PySem.W.Frag} {G : Hp} : ∀ {ds : List D} {vs : List V} {bs : List Bool}, RpA K G vs ds → boolsOf ds = some bs → vs = bs.map V.bl
  | [], _, _, .nil, e => by
    cases e
    rfl
  | d :: ds, _, _, .cons h a, e => by
    unfold boolsOf at e
    split at e
    · rename_i b cs e2
      cases e
      cases h
      rw [boolsOf_rp a e2]
      rfl
    · cases e
def cAll (f : List Bool → Bool) : List Val → Option Val
  | [a] => match lit a with
    | some xs => match boolsOf xs with
      | some bs => some (.sh (.bool (f bs)))
      | none => none
    | none => none
  | _ => none
theorem cs_all {K : PySem.W.Frag} : CallS K (rAll K) (cAll fun bs => bs.all id) := by
  intro B G H vs as c Q s h e q
  unfold cAll at e
  split at e
  · split at e
    · split at e
      · rename_i xs e2 _ bs e3
        cases e
        obtain ⟨v, rfl, h1⟩ := vrs1 h
        obtain ⟨p, us, rfl, hp, k⟩ := h1.list s e2
        cases boolsOf_rp k e3
        exact ⟨p, bs, rfl, hp, q G H _ (Ext.refl s) (Rp.bl _)⟩
      · cases e
    · cases e
  · cases e
theorem cs_any {K : PySem.W.Frag} : CallS K (rAny K) (cAll fun bs => bs.any id) := by
  intro B G H vs as c Q s h e q
  unfold cAll at e
  split at e
  · split at e
    · split at e
      · rename_i xs e2 _ bs e3
        cases e
        obtain ⟨v, rfl, h1⟩ := vrs1 h
        obtain ⟨p, us, rfl, hp, k⟩ := h1.list s e2
        cases boolsOf_rp k e3
        exact ⟨p, bs, rfl, hp, q G H _ (Ext.refl s) (Rp.bl _)⟩
      · cases e
    · cases e
  · cases e
theorem cr_allK {X : Cx} {K : PySem.W.Frag} (hc : X.calm = true := by rfl) (h : X.K = K := by rfl) : CallR X (.builtin "all") (rAll K) := h ▸ cr_all hc
theorem cr_anyK {X : Cx} {K : PySem.W.Frag} (hc : X.calm = true := by rfl) (h : X.K = K := by rfl) : CallR X (.builtin "any") (rAny K) := h ▸ cr_any hc

/-! ### for i in range(a, b, -1) -/
def downD (hi : Int) (n : Nat) : List D := (List.range n).map fun i => .int (hi - (i : Nat))
def mIter3 (ma : Rho → Res (List Val)) : Rho → Res (List D) := fun ρ => (ma ρ).bind fun as => lift (match as with
  | [.sh (.int i), .sh (.int j), .sh (.int c)] => if i.natAbs ≤ 1000000 ∧ j.natAbs ≤ 1000000 ∧ c = -1 then some (downD i (i - j).toNat) else none
  | _ => none)
theorem downD_len (hi : Int) (n : Nat) : (downD hi n).length = n := by
  unfold downD
  rw [List.length_map, List.length_range]
theorem its_down {K : PySem.W.Frag} {Ga Ha : Hp} {hi : Int} {n : Nat} : ItS K Ga Ha (Itc hi (-1) n) (downD hi n) := by
  refine ⟨fun i G H e1 e2 hj => ?_, fun i G H e1 e2 hj => ?_, fun i G H x H' e1 e2 hj y => ?_⟩
  · rw [downD_len] at hj
    exact hj
  · rw [downD_len] at hj
    exact hj
  · rw [downD_len] at hj
    obtain ⟨rfl, rfl⟩ := y
    refine ⟨.int (hi - (i : Nat)), G, ?_, Ext.refl e2, ?_⟩
    · unfold downD
      rw [List.getElem?_map, List.getElem?_range hj]
      rfl
    · have z : hi + (i : Nat) * (-1) = hi - (i : Nat) := by omega
      rw [z]
      exact .int _
theorem vrs3 {K : PySem.W.Frag} {B G H : Hp} {vs : List V} {a b c : Val} (h : VRs K B G H vs [a, b, c]) : ∃ v u w, vs = [v, u, w] ∧ VR K B G H v a ∧ VR K B G H u b ∧ VR K B G H w c := by
  cases h with
  | cons h1 h2 =>
    obtain ⟨u, w, rfl, h3, h4⟩ := vrs2 h2
    exact ⟨_, u, w, rfl, h1, h3, h4⟩
theorem sndi_3 {K : PySem.W.Frag} {mg : Str → Option Value} {W : WX} {ta : TA} {ma : Rho → Res (List Val)} (h : SndA K mg W ta ma) : SndI K mg W (iRng3 ta) (mIter3 ma) := by
  intro G0 H0 σ G H ρ R I q
  refine h G0 H0 σ G H ρ _ I (RR.bnd (Ext.refl I.s) q fun a G1 H1 x ea e1 r1 h1 => ?_)
  obtain ⟨xs, ex, q1⟩ := h1.lift
  split at ex
  · split at ex
    · rename_i i j c hc
      cases ex
      obtain ⟨v, u, w, rfl, z1, z2, z3⟩ := vrs3 r1
      cases z1.int_
      cases z2.int_
      cases z3.int_
      obtain ⟨_, _, rfl⟩ := hc
      exact ⟨i, j, -1, (i - j).toNat, rfl, RgC.neg (by omega) (by omega) (by omega) (by omega), q1 G1 H1 _ e1 its_down⟩
    · cases ex
  · cases ex
theorem pmi_3 {X : Cx} {W : WX} {tg a b c : Expr} {ta : TA} {ma : Rho → Res (List Val)} {p pos : Pos} (hm : X.mg "range" = none) (h : PMA X W [a, b, c] ta ma) (hg : Gl X "range" := by rfl) (st : starEach [a, b, c] X.env = (false, eval a X.env) :: starEach [b, c] X.env := by rfl) (hpl : (backTo pos (starEach [b, c] X.env)).any (·.1) = false := by rfl) :
    PMI X W tg (.Call (.Name "range" p) [a, b, c] [] pos) (iRng3 ta) (mIter3 ma) := ⟨pi_range3 hg hm h.p st hpl, sndi_3 h.s⟩

/-! ### several except clauses -/
/-- a clause: which classes it takes, its suite -/
abbrev Clause := (Str → Option Bool) × (Rho → Out)
def clauses (m : Str) (fs : List (Str × D)) (ρ : Rho) : List Clause → Out
  | [] => .ex m fs ρ
  | (dec, h) :: r => match dec m with
    | some true => noEx (h ρ)
    | some false => clauses m fs ρ r
    | none => .no
def mTryM (body : Rho → Out) (l : List Clause) : Rho → Out := fun ρ => match body ρ with
  | .ex m fs ρ' => clauses m fs ρ' l
  | o => o
inductive ClsS (K : PySem.W.Frag) (mg : Str → Option Value) : List (Value × (Addr → Value → Option Addr → TS)) → List Clause → Prop
  | nil : ClsS K mg [] []
  | cons {c : Value} {ts : Addr → Value → Option Addr → TS} {dec : Str → Option Bool} {mh : Rho → Out} {l : List (Value × (Addr → Value → Option Addr → TS))} {r : List Clause} : Decs K mg c dec → (∀ a cls d, SndS K mg W0 (ts a cls d) mh) → ClsS K mg l r → ClsS K mg ((c, ts) :: l) ((dec, mh) :: r)
theorem noEx_ok {K : PySem.W.Frag} {mg : Str → Option Value} {W : WX} {G0 : Bs} {H0 G : Hp} {D : Ends} {o : Out} (h : OutR K mg W G0 H0 G D (noEx o)) : OutR K mg W0 G0 H0 G D o := by
  cases o <;> first | exact h | exact h.elim
theorem snd_tryM {K : PySem.W.Frag} {mg : Str → Option Value} {Wout : WX} {l : List (Value × (Addr → Value → Option Addr → TS))} {cl : List Clause} {tb : WX → TS} {mb : Rho → Out} (hb : ∀ W, SndS K mg W (tb W) mb) (hl : ClsS K mg l cl) :
    SndS K mg Wout (fun D σ H => tb (wMany K Wout D l) D σ H) (mTryM mb cl) := by
  intro G0 H0 σ G H ρ D I q
  refine hb _ G0 H0 σ G H ρ D I ?_
  unfold mTryM at q
  cases eo : mb ρ with
  | nx ρ' =>
    rw [eo] at q
    exact q
  | rt r =>
    rw [eo] at q
    exact q
  | rx r ρx =>
    rw [eo] at q
    exact q
  | bk ρ' =>
    rw [eo] at q
    exact q
  | ct ρ' =>
    rw [eo] at q
    exact q
  | no =>
    rw [eo] at q
    exact q
  | ex m fs ρ' =>
    rw [eo] at q
    have q : OutR K mg Wout G0 H0 G D (clauses m fs ρ' cl) := q
    intro σ' G' H' C d I' s' hC hx
    clear hb eo
    induction hl with
    | nil => exact q σ' G' H' C d I' s' hC hx
    | @cons c ts dec mh l r hd hh hr ih =>
      unfold clauses at q
      cases ed : dec m with
      | none =>
        rw [ed] at q
        exact q.elim
      | some b =>
        refine ⟨b, hd m b C ed hC, fun eb a ha => ?_, fun eb => ?_⟩
        · subst eb
          rw [ed] at q
          exact hh a (.ref C) d G0 H0 σ' G' H' ρ' D I' (noEx_ok (OutR.up s' q))
        · subst eb
          rw [ed] at q
          exact ih q q
inductive PMH (X : Cx) : List ExceptHandler → List (Value × (Addr → Value → Option Addr → TS)) → List Clause → Prop
  | nil : PMH X [] [] []
  | cons {x : Str} {c : Value} {ts : Addr → Value → Option Addr → TS} {b₀ : Stmt} {suite : List Stmt} {np pos' : Pos} {hds : List ExceptHandler} {l : List (Value × (Addr → Value → Option Addr → TS))} {dec : Str → Option Bool} {mh : Rho → Out} {r : List Clause} (gc : X.mg x = some c) (gl : Gl X x) (db : (x == ("__debug__" : Str)) = false) (hd : Decs X.K X.mg c dec)
      (hh : ∀ (a : Addr) (oe : Obj) (cls : Value) (d : Option Addr) (pn : List (Addr × Obj)), PMSs (X.suite a ((a, oe) :: pn)) W0 (b₀ :: suite) (ts a cls d) mh) (t : PMH X hds l r) : PMH X (.ExceptHandler (some (.Name x np)) none (b₀ :: suite) pos' :: hds) ((c, ts) :: l) ((dec, mh) :: r)
theorem PMH.hds {X : Cx} {h : List ExceptHandler} {l : List (Value × (Addr → Value → Option Addr → TS))} {r : List Clause} (p : PMH X h l r) : HdsOk X h l ∧ ClsS X.K X.mg l r := by
  induction p with
  | nil => exact ⟨.nil, .nil⟩
  | cons gc gl db hd hh t ih => exact ⟨.cons ⟨gl, db, .inl gc⟩ (fun a oe cls d pn _ _ => (hh a oe cls d pn).p) ih.1, .cons hd (fun a cls d => (hh a { cls := cls, dict := d, data := .fields #[] } cls d []).s) ih.2⟩
theorem pms_tryM {X : Cx} {Wout : WX} {body : List Stmt} {h₀ : ExceptHandler} {hds : List ExceptHandler} {l : List (Value × (Addr → Value → Option Addr → TS))} {cl : List Clause} {pos : Pos} {tb : WX → TS} {mb : Rho → Out} (hs : X.stack = X.env :: X.outer) (hf : X.env.frame = some X.env.locals) (tk : Takes X Wout)
    (hb : ∀ (W : WX) (pn : List (Addr × Obj)) (xe : Value → Shared → Prop), Takes (X.tr pn xe) W → PMSs (X.tr pn xe) W body (tb W) mb) (hh : PMH X (h₀ :: hds) l cl) : PMS X Wout (.Try body (h₀ :: hds) [] [] pos) (fun D σ H => tb (wMany X.K Wout D l) D σ H) (mTryM mb cl) := by
  refine ⟨ps_try_many hs hf tk (fun W pn xe t _ => (hb W pn xe t).p) hh.hds.1, snd_tryM (fun W => ?_) hh.hds.2⟩
  exact (hb W [] (fun u s' => XE (X.tr [] fun _ _ => False) W u s') fun u s' ⟨a, B, sI, pins, σ, H, cls, d, e, J, rest⟩ => ⟨a, B, sI, pins, σ, H, cls, d, e, J.wish (fun _ _ => False), rest⟩).s
end Mi

namespace Mi
open PySem PySem.Spec PyProof.Rows L2

/-! ### except X as e: .. isinstance(e, C) .. -/
def rIsX (K : PySem.W.Frag) (a : Addr) (cls : Value) (d : Option Addr) : List V → Hp → VK → Prop := fun xs H Q => ∃ D, cls = .ref D ∧ d = none ∧ ExcC K D ∧ rIsE K D a xs H Q
theorem call_isX {X : Cx} {a : Addr} {oe : Obj} {pn : List (Addr × Obj)} {cls : Value} {d : Option Addr} (hz : Zc cls d oe) (hf : ∃ vs, oe.data = .fields vs) : CallR (X.suite a ((a, oe) :: pn)) (.builtin "isinstance") (rIsX X.K a cls d) := by
  intro pins s σ H xs us Q I r h
  obtain ⟨D, rfl, rfl, C, h⟩ := h
  exact call_isE C hz hf pins s σ H xs us Q I r h
def Exs (i : Nat) (a : Addr) (te : TE) (b : Bool) : Prop := ∀ (σ : L2.St) (H : Hp) (Q : VK), σ[i]? = some (some (.ref a)) → Q (.bl b) H → te σ H Q
def Tst (i : Nat) (a : Addr) (tt : TT) (b : Bool) : Prop := ∀ (σ : L2.St) (H : Hp) (Q : Bool → Hp → Prop), σ[i]? = some (some (.ref a)) → Q b H → tt σ H Q
/-- what the class D answers about the class c -/
def IsD (K : PySem.W.Frag) (mg : Str → Option Value) (c : Value) (mt : Str → Option Bool) : Prop := ∀ (m : Str) (b : Bool) (C : Addr), mt m = some b → mg m = some (.ref C) → ExcC K C ∧ PySem.W.kitOne K (.ref C) c = some b
section
variable {X : Cx} {i : Nat} {a : Addr} {cls : Value} {d : Option Addr} {e e1 e2 : Expr} {te : TE} {tt tA tB : TT} {mt m1 m2 : Str → Option Bool} {pos : Pos} {rest : List Expr} {b : Expr}
structure PHE (X : Cx) (i : Nat) (a : Addr) (cls : Value) (d : Option Addr) (e : Expr) (te : TE) (mt : Str → Option Bool) : Prop where
  p : PE X e te
  s : ∀ m C b, cls = .ref C → d = none → X.mg m = some (.ref C) → mt m = some b → Exs i a te b
structure PHT (X : Cx) (i : Nat) (a : Addr) (cls : Value) (d : Option Addr) (e : Expr) (tt : TT) (mt : Str → Option Bool) : Prop where
  p : PT X e tt
  s : ∀ m C b, cls = .ref C → d = none → X.mg m = some (.ref C) → mt m = some b → Tst i a tt b
structure PHW (X : Cx) (i : Nat) (a : Addr) (cls : Value) (d : Option Addr) (e : Expr) (tt : TT) (mt : Str → Option Bool) : Prop where
  p : PW X e tt
  s : ∀ m C b, cls = .ref C → d = none → X.mg m = some (.ref C) → mt m = some b → Tst i a tt b
theorem phe_is {K : PySem.W.Frag} {x y : Str} {p p1 p2 : Pos} {v : V} {u : Value} (hk : X.K = K) (hc : CallR X (.builtin "isinstance") (rIsX K a cls d)) (hy : X.mg y = some u) (rv : RelV v u) (hu : ∀ w, RelV v w → w = u) (hd' : IsD K X.mg u mt) (hm : X.mg "isinstance" = none) (hN : X.N[i]? = some x := by rfl)
    (hv : Vis X.env.scope x := by first | exact Or.inl rfl | exact Or.inr (Or.inl rfl) | exact Or.inr (Or.inr rfl)) (hd : (x == ("__debug__" : Str)) = false := by decide) (hcd : (x == ("__classdict__" : Str)) = false := by decide)
    (gy : Gl X y := by rfl) (dy : (y == ("__debug__" : Str)) = false := by decide) (hg : Gl X "isinstance" := by rfl)
    (he : starEach (.Name x p1 :: [.Name y p2]) X.env = (false, eval (.Name x p1) X.env) :: starEach [.Name y p2] X.env := by rfl) (hs2 : starEach (.Name y p2 :: []) X.env = (false, eval (.Name y p2) X.env) :: starEach [] X.env := by rfl) (hpl : (backTo pos (starEach [.Name y p2] X.env)).any (·.1) = false := by rfl) :
    PHE X i a cls d (.Call (.Name "isinstance" p) [.Name x p1, .Name y p2] [] pos) (tCB (rIsX K a cls d) (tCons (tVar i) (tCons (tC v) tNil))) mt := by
  subst hk
  exact ⟨pe_callB hc hg hm rfl (pa_cons (pe_var hN hv hd hcd) (pa_cons (pe_glob gy hy rv dy) pa_nil hs2) he) (by decide) (by decide) he hpl, fun m C b hC hn hmC hb σ H Q hσ q => by
    obtain ⟨EC, ek⟩ := hd' m b C hb hmC
    exact ⟨_, hσ, C, hC, hn, EC, v, u, b, rfl, hu, ek, q⟩⟩
theorem pht_tru {K : PySem.W.Frag} (hk : X.K = K) (h : PHE X i a cls d e te mt) (he : ∀ whole, isTrue e X.env whole = (do let v ← whole; standAt e.pos; holding [v] (truthy v)) := by intro _; rfl) : PHT X i a cls d e (fun σ H Q => te σ H fun x H' => ∃ k, TruV K x H' k ∧ Q k H') mt := by
  subst hk
  exact ⟨pt_truth h.p he, fun m C b h1 h2 h3 h4 σ H Q hσ q => h.s m C b h1 h2 h3 h4 σ H _ hσ ⟨b, rfl, q⟩⟩
theorem pht_not (h : PHT X i a cls d e tA mt) : PHT X i a cls d (.UnaryOp .Not e pos) (tNot tA) (fun m => (mt m).map (!·)) :=
  ⟨pt_not h.p, fun m C b h1 h2 h3 h4 σ H Q hσ q => by
    cases e0 : mt m with
    | none =>
      rw [e0] at h4
      cases h4
    | some k =>
      rw [e0] at h4
      cases h4
      exact h.s m C k h1 h2 h3 e0 σ H _ hσ q⟩
theorem phw_or1 (h : PHT X i a cls d e tA mt) : PHW X i a cls d (.BoolOp .Or [e] pos) tA mt := ⟨pw_or1 h.p, h.s⟩
theorem phw_or (h : PHT X i a cls d e tA m1) (h2 : PHW X i a cls d (.BoolOp .Or (b :: rest) pos) tB m2) : PHW X i a cls d (.BoolOp .Or (e :: b :: rest) pos) (tOr tA tB) (fun m => (m1 m).bind fun k => if k = true then some true else m2 m) :=
  ⟨pw_or h.p h2.p, fun m C k h1 hn h3 h4 σ H Q hσ q => by
    cases e0 : m1 m with
    | none =>
      rw [e0] at h4
      cases h4
    | some k0 =>
      rw [e0] at h4
      have h4 : (if k0 = true then some true else m2 m) = some k := h4
      refine h.s m C k0 h1 hn h3 e0 σ H _ hσ ?_
      cases k0 with
      | true =>
        cases h4
        exact iteT q
      | false => exact iteF (h2.s m C k h1 hn h3 h4 σ H _ hσ q)⟩
theorem PHW.t (h : PHW X i a cls d e tA mt) : PHT X i a cls d e tA mt := ⟨h.p.pt, h.s⟩
end
/-- a suite of a handler -/
def SndH (K : PySem.W.Frag) (mg : Str → Option Value) (i : Nat) (a : Addr) (ts : TS) (mh : Rho → Out) : Prop :=
  ∀ (G0 : Bs) (H0 : Hp) (σ : L2.St) (G H : Hp) (ρ : Rho) (D : Ends), EnvS K G0 H0 σ G H ρ → σ[i]? = some (some (.ref a)) → OutR K mg W0 G0 H0 G D (mh ρ) → ts D σ H
structure PHS (X : Cx) (i : Nat) (a : Addr) (cls : Value) (d : Option Addr) (st : List Stmt) (ts : TS) (mh : Str → Rho → Out) : Prop where
  p : PSs X st ts
  s : ∀ m C, cls = .ref C → d = none → X.mg m = some (.ref C) → SndH X.K X.mg i a ts (mh m)
def mHIf (mt : Str → Option Bool) (a b : Rho → Out) : Str → Rho → Out := fun m ρ => match mt m with
  | some true => a ρ
  | some false => b ρ
  | none => .no
def mHRet (mt : Str → Option Bool) : Str → Rho → Out := fun m _ => match mt m with
  | some b => .rt (.sh (.bool b))
  | none => .no
section
variable {X : Cx} {i : Nat} {a : Addr} {cls : Value} {d : Option Addr} {e : Expr} {te : TE} {tt : TT} {mt : Str → Option Bool} {pos : Pos} {sts rest : List Stmt} {t u : TS} {ma mb : Rho → Out}
theorem phs_if (h : PHT X i a cls d e tt mt) (ha : PMSs X W0 sts t ma) (hb : PMSs X W0 rest u mb) : PHS X i a cls d [.If e sts rest pos] (tIfS tt t u) (mHIf mt ma mb) :=
  ⟨pss_one (ps_if h.p ha.p hb.p), fun m C h1 h2 h3 G0 H0 σ G H ρ D I hσ q => by
    unfold mHIf at q
    cases e0 : mt m with
    | none =>
      rw [e0] at q
      exact q.elim
    | some k =>
      rw [e0] at q
      refine h.s m C k h1 h2 h3 e0 σ H _ hσ ?_
      cases k with
      | true => exact iteT (ha.s G0 H0 σ G H ρ D I q)
      | false => exact iteF (hb.s G0 H0 σ G H ρ D I q)⟩
theorem phs_ret (h : PHE X i a cls d e te mt) : PHS X i a cls d [.Return (some e) pos] (tRet te) (mHRet mt) :=
  ⟨pss_one (ps_ret h.p), fun m C h1 h2 h3 G0 H0 σ G H ρ D I hσ q => by
    unfold mHRet at q
    cases e0 : mt m with
    | none =>
      rw [e0] at q
      exact q.elim
    | some k =>
      rw [e0] at q
      exact h.s m C k h1 h2 h3 e0 σ H _ hσ (q G H (.bl k) I.ext (Rp.bl k))⟩
end
/-- behind the suite the name is gone -/
def offX (i : Nat) : Out → Out
  | .nx ρ => .nx (ρ.set i none)
  | .bk ρ => .bk (ρ.set i none)
  | .ct ρ => .ct (ρ.set i none)
  | .rt r => .rt r
  | .rx r ρ => .rx r ρ
  | _ => .no
def mTryAs (body : Rho → Out) (dec : Str → Option Bool) (i : Nat) (h : Str → Rho → Out) : Rho → Out := fun ρ => match body ρ with
  | .ex m fs ρ' => match dec m with
    | some true => if fs.isEmpty = true ∧ i < ρ'.length then offX i (h m (ρ'.set i none)) else .no
    | some false => .ex m fs ρ'
    | none => .no
  | o => o
theorem snd_tryAs {K : PySem.W.Frag} {mg : Str → Option Value} {Wout : WX} {c : Value} {dec : Str → Option Bool} {i : Nat} {tb : WX → TS} {mb : Rho → Out} {ts : Addr → Value → Option Addr → TS} {mh : Str → Rho → Out} (hd : Decs K mg c dec)
    (hb : ∀ W, SndS K mg W (tb W) mb) (hh : ∀ a cls d m C, cls = .ref C → d = none → mg m = some (.ref C) → SndH K mg i a (ts a cls d) (mh m)) : SndS K mg Wout (fun D σ H => tb (wAs K c i ts Wout D) D σ H) (mTryAs mb dec i mh) := by
  intro G0 H0 σ G H ρ D I q
  refine hb _ G0 H0 σ G H ρ D I ?_
  unfold mTryAs at q
  cases eo : mb ρ with
  | nx ρ' =>
    rw [eo] at q
    exact q
  | rt r =>
    rw [eo] at q
    exact q
  | rx r ρx =>
    rw [eo] at q
    exact q
  | bk ρ' =>
    rw [eo] at q
    exact q
  | ct ρ' =>
    rw [eo] at q
    exact q
  | no =>
    rw [eo] at q
    exact q
  | ex m fs ρ' =>
    rw [eo] at q
    have q : OutR K mg Wout G0 H0 G D (match dec m with
      | some true => if fs.isEmpty = true ∧ i < ρ'.length then offX i (mh m (ρ'.set i none)) else .no
      | some false => .ex m fs ρ'
      | none => .no) := q
    intro σ' G' H' C d I' s' hC hx
    cases ed : dec m with
    | none =>
      rw [ed] at q
      exact q.elim
    | some b =>
      refine ⟨b, hd m b C ed hC, fun eb a ha => ?_, fun eb => ?_⟩
      · subst eb
        rw [ed] at q
        have q : OutR K mg Wout G0 H0 G D (if fs.isEmpty = true ∧ i < ρ'.length then offX i (mh m (ρ'.set i none)) else .no) := q
        split at q
        · rename_i hc
          have hdn : d = none := by
            rcases hx with ⟨_, h⟩ | ⟨dd, fv, _, hne, _⟩
            · exact h
            · exact (hne (List.isEmpty_iff.mp hc.1)).elim
          refine hh a (.ref C) d m C rfl hdn hC G0 H0 _ G' H' (ρ'.set i none) _ (I'.drop i (some (.ref a))) (by rw [List.getElem?_set_self (by rw [I'.len]; exact hc.2)]) ?_
          have q := OutR.up s' q
          cases eh : mh m (ρ'.set i none) with
          | nx ρ2 =>
            rw [eh] at q
            exact fun σ2 G2 H2 I2 s2 => q (σ2.set i none) G2 H2 (I2.drop i none) s2
          | rt r =>
            rw [eh] at q
            exact q
          | rx r ρx =>
            rw [eh] at q
            exact q
          | bk ρ2 =>
            rw [eh] at q
            exact fun σ2 G2 H2 I2 s2 => q (σ2.set i none) G2 H2 (I2.drop i none) s2
          | ct ρ2 =>
            rw [eh] at q
            exact fun σ2 G2 H2 I2 s2 => q (σ2.set i none) G2 H2 (I2.drop i none) s2
          | no =>
            rw [eh] at q
            exact q
          | ex m2 fs2 ρ2 =>
            rw [eh] at q
            exact q.elim
        · exact q.elim
      · subst eb
        rw [ed] at q
        exact q σ' G' H' C d I' s' hC hx
section
variable {X : Cx} {Wout : WX} {x n : Str} {c : Value} {i : Nat} {body suite : List Stmt} {b₀ : Stmt} {np pos pos' : Pos} {tb : WX → TS} {mb : Rho → Out} {ts : Addr → Value → Option Addr → TS} {mh : Str → Rho → Out} {dec : Str → Option Bool}
theorem pms_tryAs (hs : X.stack = X.env :: X.outer) (hf : X.env.frame = some X.env.locals) (hN : X.N.Nodup) (hi : X.N[i]? = some n) (hln : X.env.kindOf n = some .local) (gc : X.mg x = some c) (tk : Takes X Wout) (hd : Decs X.K X.mg c dec)
    (hb : ∀ (W : WX) (pn : List (Addr × Obj)) (xe : Value → Shared → Prop), Takes (X.tr pn xe) W → PMSs (X.tr pn xe) W body (tb W) mb)
    (hh : ∀ (a : Addr) (oe : Obj) (cls : Value) (d : Option Addr) (pn : List (Addr × Obj)), CallR (X.suite a ((a, oe) :: pn)) (.builtin "isinstance") (rIsX X.K a cls d) → PHS (X.suite a ((a, oe) :: pn)) i a cls d (b₀ :: suite) (ts a cls d) mh) (gl : Gl X x := by rfl) (db : (x == ("__debug__" : Str)) = false := by decide) :
    PMS X Wout (.Try body [.ExceptHandler (some (.Name x np)) (some n) (b₀ :: suite) pos'] [] [] pos) (fun D σ H => tb (wAs X.K c i ts Wout D) D σ H) (mTryAs mb dec i mh) := by
  refine ⟨ps_try_as hs hf hN hi hln ⟨gl, db, .inl gc⟩ tk (fun W pn xe t _ => (hb W pn xe t).p) (fun a oe cls d pn hz hf => (hh a oe cls d pn (call_isX hz hf)).p), snd_tryAs hd (fun W => ?_) fun a cls d m C h1 h2 h3 => ?_⟩
  · exact (hb W [] (fun u s' => XE (X.tr [] fun _ _ => False) W u s') fun u s' ⟨a, B, sI, pins, σ, H, cls, d, e, J, rest⟩ => ⟨a, B, sI, pins, σ, H, cls, d, e, J.wish (fun _ _ => False), rest⟩).s
  · exact (hh a { cls := cls, dict := d, data := .fields #[] } cls d [] (call_isX ⟨rfl, rfl⟩ ⟨_, rfl⟩)).s m C h1 h2 h3
end
theorem pmg_tupK {X : Cx} {K : PySem.W.Frag} {es : List Expr} {gs : TGs} {bs : List D → Rho → Option Rho} {n : Nat} {ts : List Nat} {k : Nat} {pos : Pos} (hk : X.K = K) (hc : X.calm = true) (h : PMGs X es gs bs n ts) (hn : (assignEach es X.env).length = n := by rfl) (hst : (assignEach es X.env).findIdx? (·.1) = none := by rfl) : PMG X (.Tuple es k pos) (gTup K n gs) (bTup bs) ts := by
  subst hk
  exact pmg_tup hc h hn hst
/-! ### isinstance(x, T), T a built-in type -/
def tyB (T : String) : Val → Option Bool
  | .ow _ => kitB "list" T
  | .bw _ => kitB "list" T
  | .sh .none => kitB "NoneType" T
  | .sh (.bool _) => kitB "bool" T
  | .sh (.int _) => kitB "int" T
  | .sh (.str _) => kitB "str" T
  | .sh (.list _) => kitB "list" T
  | .sh (.tuple _) => kitB "tuple" T
  | _ => none
def mIsT (T : String) (me : Rho → Res Val) : Rho → Res Val := fun ρ => (me ρ).bind fun a => lift ((tyB T a).map fun b => .sh (.bool b))
theorem tyB_ok {K : PySem.W.Frag} {B G H : Hp} {v : V} {a : Val} {T : String} {b : Bool} (s : Same G H) (h : VR K B G H v a) (e : tyB T a = some b) : ∃ t, TyX K H v t ∧ PySem.W.kitOne K t (.type T) = some b := by
  unfold tyB at e
  split at e
  · obtain ⟨p, vs, rfl, hp, _⟩ := h
    exact ⟨_, .base (.lst hp), kit_ty e⟩
  · obtain ⟨p, vs, rfl, hp, _⟩ := h
    exact ⟨_, .base (.lst hp), kit_ty e⟩
  · cases h.non_
    exact ⟨_, .base .non, kit_ty e⟩
  · cases h.bool_
    exact ⟨_, .base (.bl _), kit_ty e⟩
  · cases h.int_
    exact ⟨_, .base (.int _), kit_ty e⟩
  · cases h.str_
    exact ⟨_, .base (.str _), kit_ty e⟩
  · cases (show Rp K G v _ from h) with
    | lst q _ => exact ⟨_, .base (.lst (s _ _ q)), kit_ty e⟩
  · cases (show Rp K G v _ from h) with
    | tup q _ =>
      rcases q with (q | ⟨o, q⟩) | q
      · exact ⟨_, .base (.tup (s _ _ q)), kit_ty e⟩
      · exact ⟨_, .fTuple (s _ _ q), kit_ty e⟩
      · obtain ⟨o, its, n, e1, e2, _⟩ := q
        exact ⟨_, .kTuple e1 e2, kit_ty e⟩
  · cases e
theorem snd_isT {K : PySem.W.Frag} {mg : Str → Option Value} {W : WX} {te : TE} {me : Rho → Res Val} {T : String} (hs : Snd K mg W te me) : Snd K mg W (tCB (rIsi K) (tCons te (tCons (tC (.ty T)) tNil))) (mIsT T me) := by
  intro G0 H0 σ G H ρ Q I h
  refine hs G0 H0 σ G H ρ _ I (RR.bnd (Ext.refl I.s) h fun a G1 H1 x ea e1 r1 h1 => ?_)
  obtain ⟨c, ec, q⟩ := h1.lift
  cases eb : tyB T a with
  | none =>
    rw [eb] at ec
    cases ec
  | some b =>
    rw [eb] at ec
    cases ec
    obtain ⟨t, ty, ek⟩ := tyB_ok e1.s r1 eb
    exact ⟨x, .ty T, t, .type T, b, rfl, .ty T, ty, ek, q G1 H1 _ e1 (Rp.bl b)⟩
theorem pm_isT {X : Cx} {W : WX} {e : Expr} {te : TE} {me : Rho → Res Val} {x : Str} {T : String} {p p2 pos : Pos} (hm : X.mg "isinstance" = none) (hT : X.mg x = none) (hv : bootBuiltins x = some (.type T)) (h : PM X W e te me) (gx : Gl X x := by rfl) (hn : x ≠ "__name__" := by decide) (dx : (x == ("__debug__" : Str)) = false := by decide) (hg : Gl X "isinstance" := by rfl)
    (he : starEach (e :: [.Name x p2]) X.env = (false, eval e X.env) :: starEach [.Name x p2] X.env := by rfl) (hs2 : starEach (.Name x p2 :: []) X.env = (false, eval (.Name x p2) X.env) :: starEach [] X.env := by rfl) (hpl : (backTo pos (starEach [.Name x p2] X.env)).any (·.1) = false := by rfl) :
    PM X W (.Call (.Name "isinstance" p) [e, .Name x p2] [] pos) (tCB (rIsi X.K) (tCons te (tCons (tC (.ty T)) tNil))) (mIsT T me) :=
  ⟨pe_callB call_isi hg hm rfl (pa_cons h.p (pa_cons (pe_bltn gx hT hv rfl hn dx) pa_nil hs2) he) (by decide) (by decide) he hpl, snd_isT h.s⟩
end Mi

namespace Mi
open PySem PySem.Spec PyProof.Rows L2

/-! ### texts: signs one by one, slices -/
def signs (z : Str) : List D := z.cps.toList.map fun c => .str ⟨#[c]⟩
theorem its_str {K : PySem.W.Frag} {Ga Ha : Hp} {x : Str} : ItS K Ga Ha (Its x) (signs x) := by
  refine ⟨fun i G H e1 e2 hi => ?_, fun i G H e1 e2 hi => ?_, fun i G H v H' e1 e2 hi y => ?_⟩
  · unfold signs at hi
    have hi : i < x.cps.size := by simpa using hi
    exact hi
  · unfold signs at hi
    have hi : x.cps.size ≤ i := by simpa using hi
    exact hi
  · obtain ⟨rfl, c, hc, rfl⟩ := y
    refine ⟨.str ⟨#[c]⟩, G, ?_, Ext.refl e2, .str _⟩
    unfold signs
    rw [List.getElem?_map, Array.getElem?_toList, hc]
    rfl
def mIterX (me : Rho → Res Val) : Rho → Res (List D) := fun ρ => (me ρ).bind fun a => lift (match a with
  | .sh (.str z) => some (signs z)
  | a => fix a)
def iOr (a b : TI) : TI := fun σ H R => a σ H R ∨ b σ H R
theorem pi_or {X : Cx} {tg e : Expr} {a b : TI} (h : PI X tg e a) (h' : PI X tg e b) : PI X tg e (iOr a b) := ⟨fun pins s σ H R I q => q.elim (h.run pins s σ H R I) (h'.run pins s σ H R I)⟩
theorem sndi_x {K : PySem.W.Frag} {mg : Str → Option Value} {W : WX} {te : TE} {me : Rho → Res Val} (h : Snd K mg W te me) : SndI K mg W (iOr (iList K te) (iStr te)) (mIterX me) := by
  intro G0 H0 σ G H ρ R I q
  by_cases z : ∃ x, me ρ = .ok (.sh (.str x))
  · obtain ⟨x, ex⟩ := z
    refine .inr (h G0 H0 σ G H ρ _ I (RR.bnd (Ext.refl I.s) q fun a G1 H1 v ea e1 r1 h1 => ?_))
    rw [ex] at ea
    cases ea
    obtain ⟨xs, exs, q1⟩ := h1.lift
    cases exs
    exact ⟨x, r1.str_, q1 G1 H1 _ e1 its_str⟩
  · refine .inl (sndi_list h G0 H0 σ G H ρ R I ?_)
    have e : mIterX me ρ = mIterL me ρ := by
      unfold mIterX mIterL
      cases em : me ρ with
      | ok a =>
        show lift _ = lift _
        congr 1
        split
        · rename_i x
          exact (z ⟨x, em⟩).elim
        · rfl
      | ex n fs => rfl
      | no => rfl
    rw [← e]
    exact q
theorem pmi_x {X : Cx} {W : WX} {tg e : Expr} {te : TE} {me : Rho → Res Val} (h : PM X W e te me) : PMI X W tg e (iOr (iList X.K te) (iStr te)) (mIterX me) := ⟨pi_or (pi_list h.p) (pi_str h.p), sndi_x h.s⟩
def rSlX (K : PySem.W.Frag) : V → Option Int → Option Int → Hp → VK → Prop := fun x lo hi H Q => rSlL K x lo hi H Q ∨ rSlS x lo hi H Q
def mSlX (ma : Rho → Res Val) (ml mh : Rho → Res (Option Int)) : Rho → Res Val := fun ρ => (ma ρ).bind fun a => (ml ρ).bind fun l => (mh ρ).bind fun u => lift (match a with
  | .sh (.str z) => if z.length ≤ 100000 then some (.sh (.str (cutS z l u))) else none
  | a => match lit a with
    | some xs => some (.ow (cutD xs l u))
    | none => none)
theorem snd_slX {K : PySem.W.Frag} {mg : Str → Option Value} {W : WX} {ta : TE} {ma : Rho → Res Val} {tl th : TO} {ml mh : Rho → Res (Option Int)} (ha : Snd K mg W ta ma) (hl : SndO K mg W tl ml) (hh : SndO K mg W th mh) : Snd K mg W (tSl (rSlX K) ta tl th) (mSlX ma ml mh) := by
  intro G0 H0 σ G H ρ Q I h
  refine ha G0 H0 σ G H ρ _ I (RR.bnd (Ext.refl I.s) h fun a G1 H1 x ea e1 r1 h1 => ?_)
  refine hl G0 H0 σ G1 H1 ρ _ (I.ext' e1) (RR.bnd e1 h1 fun l G2 H2 y eb e2 r2 h2 => ?_)
  cases (show y = l from r2)
  have e02 := e1.trans e2
  refine hh G0 H0 σ G2 H2 ρ _ (I.ext' e02) (RR.bnd e02 h2 fun u G3 H3 z ez e3 r3 h3 => ?_)
  cases (show z = u from r3)
  obtain ⟨c, ec, q⟩ := h3.lift
  split at ec
  · split at ec
    · rename_i zz hz
      cases ec
      exact .inr ⟨zz, r1.str_, sz_le hz, q G3 H3 _ (e02.trans e3) (.str _)⟩
    · cases ec
  · split at ec
    · rename_i xs e4
      cases ec
      obtain ⟨p, vs, rfl, hp, k⟩ := ((r1.ext e2).ext e3).list e3.s e4
      have e03 := e02.trans e3
      refine .inl ⟨p, vs, rfl, hp, fun t ht => q G3 _ _ (e03.trans (Ext.newO e3.s ht)) ⟨t, _, rfl, upd_same, e3.s.free ht, e03.h.free ht, ?_⟩⟩
      unfold cutV cutD
      rw [k.length]
      exact (k.drop _).take _
    · cases ec
theorem pm_sliceXK {X : Cx} {K : PySem.W.Frag} {W : WX} {a : Expr} {ta : TE} {ma : Rho → Res Val} {lo hi : Option Expr} {tl th : TO} {ml mh : Rho → Res (Option Int)} {pos p2 : Pos} (ha : PM X W a ta ma) (hl : PMO X W lo tl ml) (hh : PMO X W hi th mh) (h : X.K = K := by rfl) : PM X W (.Subscript a (.Slice lo hi none p2) pos) (tSl (rSlX K) ta tl th) (mSlX ma ml mh) := by
  subst h
  exact ⟨pe_slice (sl_list.or sl_str) ha.p hl.p hh.p, snd_slX ha.s hl.s hh.s⟩

/-! ### split, join, int of a text -/
def strsOf : List D → Option (List Str)
  | [] => some []
  | d :: ds => match d, strsOf ds with
    | .str b, some bs => some (b :: bs)
    | _, _ => none
theorem strsOf_rp {K : PySem.W.Frag} {G : Hp} : ∀ {ds : List D} {vs : List V} {bs : List Str}, RpA K G vs ds → strsOf ds = some bs → vs = bs.map V.str
  | [], _, _, .nil, e => by
    cases e
    rfl
  | d :: ds, _, bs, .cons h a, e => by
    unfold strsOf at e
    split at e
    · rename_i b bs' eb
      cases e
      cases h
      rw [strsOf_rp a eb]
      rfl
    · cases e
theorem rp_strs {K : PySem.W.Frag} {G : Hp} : ∀ ys : List Str, RpA K G (ys.map V.str) (ys.map PyData.str)
  | [] => .nil
  | _ :: ys => .cons (.str _) (rp_strs ys)
def mM1 (mm : Val → Val → Option Val) (mo me : Rho → Res Val) : Rho → Res Val := fun ρ => (mo ρ).bind fun o => match o with
  | .sh (.str _) => (me ρ).bind fun a => lift (mm o a)
  | _ => .no
/-- a method of a text with one argument -/
def M1S (K : PySem.W.Frag) (r : V → List V → Hp → VK → Prop) (mm : Val → Val → Option Val) : Prop :=
  ∀ (B G H : Hp) (x y : V) (o a : Val) (c : Val) (Q : VK), Same G H → VR K B G H x o → VR K B G H y a → mm o a = some c → (∀ G' H' v, Ext G H G' H' → VR K H G' H' v c → Q v H') → r x [y] H Q
theorem snd_m1 {K : PySem.W.Frag} {mg : Str → Option Value} {W : WX} {to te : TE} {mo me : Rho → Res Val} {r : V → List V → Hp → VK → Prop} {mm : Val → Val → Option Val} (hs : M1S K r mm) (ho : Snd K mg W to mo) (he : Snd K mg W te me) : Snd K mg W (tM1 r to te) (mM1 mm mo me) := by
  intro G0 H0 σ G H ρ Q I h
  refine ho G0 H0 σ G H ρ _ I (RR.bnd (Ext.refl I.s) h fun o G1 H1 x eo e1 r1 h1 => ?_)
  split at h1
  · rename_i z
    refine ⟨⟨z, r1.str_⟩, ?_⟩
    refine he G0 H0 σ G1 H1 ρ _ (I.ext' e1) (RR.bnd e1 h1 fun a G2 H2 y ea e2 r2 h2 => ?_)
    obtain ⟨c, ec, q⟩ := h2.lift
    exact hs H1 G2 H2 x y (.sh (.str z)) a c Q e2.s (show Rp K G2 x (.str z) from r1.ext e2) r2 ec fun G' H' v e zz => q G' H' v ((e1.trans e2).trans e) (zz.back (e1.trans e2).h)
  · exact h1.elim
def oSplit : Val → Val → Option Val
  | .sh (.str a), .sh (.str b) => if (b.length == 0) = false ∧ a.length ≤ 99000 then some (.ow ((Txt.split a b).map .str)) else none
  | _, _ => none
def oJoin : Val → Val → Option Val
  | .sh (.str a), r => match lit r with
    | some xs => match strsOf xs with
      | some ys => if (ys.map (·.length)).sum + ys.length * a.length ≤ 100000 then some (.sh (.str (Txt.join a ys))) else none
      | none => none
    | none => none
  | _, _ => none
theorem m1_split {K : PySem.W.Frag} : M1S K (fun x xs H Q => ∃ a b, x = .str a ∧ xs = [.str b] ∧ (b.length == 0) = false ∧ a.length + 2 ≤ sizeLine ∧ rNewStrs (Txt.split a b) H Q) oSplit := by
  intro B G H x y o a c Q s ho ha e q
  unfold oSplit at e
  split at e
  · split at e
    · rename_i a b hc
      cases e
      refine ⟨a, b, ho.str_, by rw [ha.str_], hc.1, Nat.le_trans (by omega : a.length + 2 ≤ 100000) (by decide), fun p hp => q G _ _ (Ext.newO s hp) ⟨p, _, rfl, upd_same, s.free hp, hp, rp_strs _⟩⟩
    · cases e
  · cases e
theorem m1_join {K : PySem.W.Frag} : M1S K (fun x xs H Q => ∃ a p, ∃ ys : List Str, x = .str a ∧ xs = [.ref p] ∧ (SqL K H p (ys.map V.str) ∨ SqT K H p (ys.map V.str)) ∧ (ys.map (·.length)).sum + ys.length * a.length ≤ 16777216 ∧ Q (.str (Txt.join a ys)) H) oJoin := by
  intro B G H x y o r c Q s ho ha e q
  unfold oJoin at e
  split at e
  · rename_i a
    split at e
    · rename_i xs e1
      split at e
      · rename_i ys e2
        split at e
        · rename_i hz
          cases e
          obtain ⟨p, vs, rfl, hp, k⟩ := ha.list s e1
          have ev := strsOf_rp k e2
          subst ev
          exact ⟨a, p, ys, ho.str_, rfl, .inl hp, by omega, q G H _ (Ext.refl s) (Rp.str _)⟩
        · cases e
      · cases e
    · cases e
  · cases e
section
variable {X : Cx} {W : WX} {o e : Expr} {to te : TE} {mo me : Rho → Res Val} {apos pos : Pos}
theorem pm_splitK (ho : PM X W o to mo) (he : PM X W e te me) (hs : starEach [e] X.env = [(false, eval e X.env)] := by rfl) (hbase : attributeBase o "split" X.env (eval o X.env) = eval o X.env := by rfl) (hline : (apos.endLine == pos.line) = true := by rfl) :
    PM X W (.Call (.Attribute o "split" apos) [e] [] pos) (tM1 (fun x xs H Q => ∃ a b, x = .str a ∧ xs = [.str b] ∧ (b.length == 0) = false ∧ a.length + 2 ≤ sizeLine ∧ rNewStrs (Txt.split a b) H Q) to te) (mM1 oSplit mo me) :=
  ⟨pe_split ho.p he.p hs hbase hline, snd_m1 m1_split ho.s he.s⟩
theorem pm_joinK {K : PySem.W.Frag} (ho : PM X W o to mo) (he : PM X W e te me) (hk : X.K = K := by rfl) (hs : starEach [e] X.env = [(false, eval e X.env)] := by rfl) (hbase : attributeBase o "join" X.env (eval o X.env) = eval o X.env := by rfl) (hline : (apos.endLine == pos.line) = true := by rfl) :
    PM X W (.Call (.Attribute o "join" apos) [e] [] pos) (tM1 (fun x xs H Q => ∃ a p, ∃ ys : List Str, x = .str a ∧ xs = [.ref p] ∧ (SqL K H p (ys.map V.str) ∨ SqT K H p (ys.map V.str)) ∧ (ys.map (·.length)).sum + ys.length * a.length ≤ 16777216 ∧ Q (.str (Txt.join a ys)) H) to te) (mM1 oJoin mo me) := by
  subst hk
  exact ⟨pe_join ho.p he.p hs hbase hline, snd_m1 m1_join ho.s he.s⟩
end
def cIntS : List Val → Option Val
  | [.sh (.str a)] => if a.length ≤ 640 then (PySem.intText? a).map fun n => .sh (.int n) else none
  | _ => none
theorem cs_intS {K : PySem.W.Frag} : CallS K (fun xs H Q => ∃ a n, xs = [.str a] ∧ PySem.intText? a = some n ∧ a.length ≤ 640 ∧ Q (.int n) H) cIntS := by
  intro B G H vs as c Q s h e q
  unfold cIntS at e
  split at e
  · split at e
    · rename_i a hl
      obtain ⟨v, rfl, h1⟩ := vrs1 h
      cases en : PySem.intText? a with
      | none =>
        rw [en] at e
        cases e
      | some n =>
        rw [en] at e
        cases e
        exact ⟨a, n, by rw [h1.str_], en, hl, q G H _ (Ext.refl s) (Rp.int _)⟩
    · cases e
  · cases e
def rOr (r r' : List V → Hp → VK → Prop) : List V → Hp → VK → Prop := fun xs H Q => r xs H Q ∨ r' xs H Q
theorem cr_or {X : Cx} {f : Value} {r r' : List V → Hp → VK → Prop} (h : CallR X f r) (h' : CallR X f r') : CallR X f (rOr r r') := by
  intro pins s σ H xs us Q I k q
  rcases q with q | q
  · exact h pins s σ H xs us Q I k q
  · exact h' pins s σ H xs us Q I k q
def cOr (m m' : List Val → Option Val) : List Val → Option Val := fun a => match m a with
  | some c => some c
  | none => m' a
theorem cs_or {K : PySem.W.Frag} {r r' : List V → Hp → VK → Prop} {m m' : List Val → Option Val} (h : CallS K r m) (h' : CallS K r' m') : CallS K (rOr r r') (cOr m m') := by
  intro B G H vs as c Q s ha e q
  unfold cOr at e
  cases e1 : m as with
  | some c1 =>
    rw [e1] at e
    cases e
    exact .inl (h B G H vs as c Q s ha e1 q)
  | none =>
    rw [e1] at e
    exact .inr (h' B G H vs as c Q s ha e q)
end Mi

namespace Mi
open PySem PySem.Spec PyProof.Rows L2

/-! ### dicts: a comprehension with keys that differ, get with a default -/
inductive FlatA : List (Key × V) → List (Key × D) → Prop
  | nil : FlatA [] []
  | cons {k : Key} {v : V} {d : D} {kvs : List (Key × V)} {ds : List (Key × D)} : FlatV v d → FlatA kvs ds → FlatA ((k, v) :: kvs) ((k, d) :: ds)
def dictD (acc : List (Key × D)) : D := .dict (acc.map fun p => (keyD p.1, p.2))
theorem FlatA.kv {kvs : List (Key × V)} {ds : List (Key × D)} (h : FlatA kvs ds) : FlatKV kvs (ds.map fun p => (keyD p.1, p.2)) := by
  induction h with
  | nil => exact .nil
  | cons f _ ih => exact .cons f ih
theorem FlatA.len {kvs : List (Key × V)} {ds : List (Key × D)} (h : FlatA kvs ds) : kvs.length = ds.length := by
  induction h with
  | nil => rfl
  | cons _ _ ih => exact congrArg (· + 1) ih
theorem FlatA.has {kvs : List (Key × V)} {ds : List (Key × D)} (k : Key) (h : FlatA kvs ds) : (kvs.any fun p => decide (p.1 = k)) = ds.any fun p => decide (p.1 = k) := by
  induction h with
  | nil => rfl
  | cons _ _ ih => rw [List.any_cons, List.any_cons, ih]
theorem FlatA.push {kvs : List (Key × V)} {ds : List (Key × D)} {k : Key} {v : V} {d : D} (h : FlatA kvs ds) (f : FlatV v d) : FlatA (kvs ++ [(k, v)]) (ds ++ [(k, d)]) := by
  induction h with
  | nil => exact .cons f .nil
  | cons g _ ih => exact .cons g ih
def keyOf : Val → Option Key
  | .sh (.int i) => some (.inl i)
  | .sh (.str x) => some (.inr x)
  | _ => none
def flatOf : Val → Option D
  | .sh d => if flatD d = true then some d else none
  | _ => none
theorem keyOf_ok {K : PySem.W.Frag} {B G H : Hp} {v : V} {a : Val} {k : Key} (h : VR K B G H v a) (e : keyOf a = some k) : v = kV k := by
  unfold keyOf at e
  split at e
  · cases e
    exact h.int_
  · cases e
    exact h.str_
  · cases e
theorem flatOf_ok {K : PySem.W.Frag} {B G H : Hp} {v : V} {a : Val} {d : D} (h : VR K B G H v a) (e : flatOf a = some d) : FlatV v d := by
  unfold flatOf at e
  split at e
  · split at e
    · rename_i f
      cases e
      cases (show Rp K G v _ from h) with
      | non => exact .non
      | bl b => exact .bl b
      | int i => exact .int i
      | str x => exact .str x
      | lst _ _ => cases f
      | tup _ _ => cases f
      | dct _ _ => cases f
    · cases e
  · cases e
def dcomp (bp : BP) (mt : Rho → Res Bool) (mk mv : Rho → Res Val) (ρ : Rho) : List D → List (Key × D) → Res (List (Key × D))
  | [], acc => .ok acc
  | d :: ds, acc => match bp d ρ with
    | none => .no
    | some ρ1 => match mt ρ1 with
      | .ok b => if b = true then match mk ρ1 with
          | .ok rk => match keyOf rk with
            | some k => match mv ρ1 with
              | .ok rv => match flatOf rv with
                | some x => if acc.length < 100000 ∧ (acc.any fun p => decide (p.1 = k)) = false then dcomp bp mt mk mv ρ ds (acc ++ [(k, x)]) else .no
                | none => .no
              | _ => .no
            | none => .no
          | _ => .no
        else dcomp bp mt mk mv ρ ds acc
      | _ => .no
def mDc (mi : Rho → Res (List D)) (bp : BP) (mt : Rho → Res Bool) (mk mv : Rho → Res Val) (vs : List Nat) : Rho → Res Val := fun ρ => (mi ρ).bind fun xs => match dcomp bp mt mk mv (wipeR ρ vs) xs [] with
  | .ok ys => .ok (.sh (dictD ys))
  | _ => .no
theorem snd_dc {K : PySem.W.Frag} {mg : Str → Option Value} {W : WX} {wi : TI} {mi : Rho → Res (List D)} {g : TG} {bp : BP} {ts : List Nat} {tt : TT} {mt : Rho → Res Bool} {tk tv : TE} {mk mv : Rho → Res Val} {vs : List Nat} (hi : SndI K mg W wi mi) (hg : SndG K g bp ts) (hts : ∀ t ∈ ts, t ∈ vs)
    (ht : SndT K mg W0 tt mt) (hk : Snd K mg W0 tk mk) (hv : Snd K mg W0 tv mv) : Snd K mg W (tDc wi g tt tk tv vs) (mDc mi bp mt mk mv vs) := by
  intro G0 H0 σ G H ρ Q I q
  refine hi G0 H0 σ G H ρ _ I (RR.bnd (Ext.refl I.s) q fun xs G1 H1 J ex e1 hJ q1 => ?_)
  have hJ : ItS K G1 H1 J xs := hJ
  intro Dl nD
  have hD : H Dl = none := e1.h.free nD
  have gD : G1 Dl = none := e1.s.free nD
  have I1 := (I.ext' e1).wipe vs
  split at q1
  · rename_i ys ey
    refine ⟨fun i m H2 => ∃ G2 acc av, Ext G1 H1 G2 H2 ∧ G2 Dl = none ∧ H2 Dl = some (.dK av) ∧ FlatA av acc ∧ i ≤ xs.length ∧ m = xs.length - i ∧ dcomp bp mt mk mv (wipeR ρ vs) (xs.drop i) acc = .ok ys,
      ⟨xs.length, G1, [], [], Ext.newO e1.s nD, gD, upd_same, .nil, Nat.zero_le _, rfl, ey⟩, ?_⟩
    rintro i m H2 ⟨G2, acc, av, e2, g2, h2, ka, hi2, rfl, ec⟩
    by_cases hlt : i < xs.length
    · refine .inr ⟨hJ.go i G2 H2 e2.g e2.s hlt, fun H' => ∃ G2 acc av, Ext G1 H1 G2 H' ∧ G2 Dl = none ∧ H' Dl = some (.dK av) ∧ FlatA av acc ∧ dcomp bp mt mk mv (wipeR ρ vs) (xs.drop (i + 1)) acc = .ok ys,
        fun H' ⟨G3, acc3, av3, z1, z2, z3, z4, z5⟩ => ⟨xs.length - (i + 1), by omega, G3, acc3, av3, z1, z2, z3, z4, hlt, rfl, z5⟩, fun x H' y => ?_⟩
      obtain ⟨d, G3, ed, e3, rd⟩ := hJ.yld i G2 H2 x H' e2.g e2.s hlt y
      have hd : xs.drop i = d :: xs.drop (i + 1) := by
        rw [List.drop_eq_getElem_cons hlt]
        congr 1
        rw [List.getElem?_eq_getElem hlt] at ed
        exact Option.some.inj ed
      rw [hd] at ec
      unfold dcomp at ec
      split at ec
      · cases ec
      · rename_i ρ4 eb
        have e13 := e2.trans e3
        refine hg G0 H0 _ G3 H' (wipeR ρ vs) x d ρ4 _ (I1.ext' e13) rd eb fun σ4 I4 oa => ⟨?_, ?_⟩
        · exact (oa vs hts).trans (onlyAt_wipe vs σ vs fun t q => q)
        · split at ec
          · rename_i b et
            refine ht G0 H0 σ4 G3 H' ρ4 _ I4 ?_
            rw [et]
            intro G4 H4 b' e4 eb'
            cases (show b' = b from eb')
            cases b with
            | false =>
              have ne34 := e3.trans e4
              refine iteF ⟨G4, acc, av, e13.trans e4, ?_, ne34.h _ _ h2, ka, ec⟩
              exact ne34.n Dl (by rw [h2]; exact Option.some_ne_none _) g2
            | true =>
              refine iteT (hk G0 H0 σ4 G4 H4 ρ4 _ (I4.ext' e4) ?_)
              have ec : (match mk ρ4 with
                | .ok rk => match keyOf rk with
                  | some k => match mv ρ4 with
                    | .ok rv => match flatOf rv with
                      | some x => if acc.length < 100000 ∧ (acc.any fun p => decide (p.1 = k)) = false then dcomp bp mt mk mv (wipeR ρ vs) (xs.drop (i + 1)) (acc ++ [(k, x)]) else .no
                      | none => .no
                    | _ => .no
                  | none => .no
                | _ => .no) = .ok ys := ec
              split at ec
              · rename_i rk erk
                rw [erk]
                split at ec
                · rename_i k ek
                  split at ec
                  · rename_i rv erv
                    split at ec
                    · rename_i x' ex'
                      split at ec
                      · rename_i hl
                        intro G5 H5 y5 e5 r5
                        refine hv G0 H0 σ4 G5 H5 ρ4 _ ((I4.ext' e4).ext' e5) ?_
                        rw [erv]
                        intro G6 H6 v6 e6 r6
                        have e26 := ((e3.trans e4).trans e5).trans e6
                        have g6 : G6 Dl = none := e26.n Dl (by rw [h2]; exact Option.some_ne_none _) g2
                        have hp : putK av k v6 = av ++ [(k, v6)] := by
                          unfold putK
                          rw [if_neg]
                          rw [ka.has k, hl.2]
                          exact Bool.false_ne_true
                        refine ⟨av, k, keyOf_ok r5 ek, e26.h _ _ h2, by rw [ka.len]; exact sz_lt hl.1, G6, acc ++ [(k, x')], av ++ [(k, v6)], ((e2.trans e26).mutN nD g6), g6, by rw [hp]; exact upd_same, ka.push (flatOf_ok r6 ex'), ec⟩
                      · cases ec
                    · cases ec
                  · cases ec
                · cases ec
              · cases ec
          · cases ec
    · have e : i = xs.length := by omega
      subst e
      rw [List.drop_length] at ec
      have ec : Res.ok acc = Res.ok ys := ec
      cases ec
      exact .inl ⟨hJ.stop _ G2 H2 e2.g e2.s (Nat.le_refl _), q1 _ H2 _ ((e1.trans e2).frz h2 hD g2) (show Rp K _ (.ref Dl) (dictD _) from .dct upd_same ka.kv)⟩
  · exact q1.elim
theorem pm_dc {X : Cx} {W : WX} {kx vx tg iter : Expr} {ifs : List Expr} {scope : Scope} {own : List (Str × Nat)} {pos : Pos} {wi : TI} {mi : Rho → Res (List D)} {g : TG} {bp : BP} {ts : List Nat} {tt : TT} {mt : Rho → Res Bool} {tk tv : TE} {mk mv : Rho → Res Val} (hc : X.calm = true) (hN : X.N.Nodup) (hi : PMI X W tg iter wi mi) (ok : BlkOk X.N X.env.scope scope own) (hts : ∀ t ∈ ts, t ∈ own.map (·.2))
    (hg : ∀ (s : Shared) (H : Hp) (C : Addr) (cl : List (Str × Addr)) (fp : List Addr), PMG (X.blk s H scope (compEnvC scope cl C X.env) fp) tg g bp ts)
    (ht : ∀ (s : Shared) (H : Hp) (C : Addr) (cl : List (Str × Addr)) (fp : List Addr), PMTs (X.blk s H scope (compEnvC scope cl C X.env) fp) W0 ifs tt mt)
    (hk : ∀ (s : Shared) (H : Hp) (C : Addr) (cl : List (Str × Addr)) (fp : List Addr), PM (X.blk s H scope (compEnvC scope cl C X.env) fp) W0 kx tk mk)
    (hv : ∀ (s : Shared) (H : Hp) (C : Addr) (cl : List (Str × Addr)) (fp : List Addr), PM (X.blk s H scope (compEnvC scope cl C X.env) fp) W0 vx tv mv) (hs : ∀ x, foldedSetIterable iter X.env x = pure x := by intro _; rfl) :
    PM X W (.DictComp kx vx [⟨tg, iter, ifs, 0⟩] scope pos) (tDc wi g tt tk tv (own.map (·.2))) (mDc mi bp mt mk mv (own.map (·.2))) := by
  have h1 := hg X.s_0 X.H_0 0 [] []
  have h2 := ht X.s_0 X.H_0 0 [] []
  have h3 := hk X.s_0 X.H_0 0 [] []
  have h4 := hv X.s_0 X.H_0 0 [] []
  exact ⟨pe_dc hc hN hi.p ok (fun s H C cl fp => (hg s H C cl fp).p) (fun s H C cl fp => (ht s H C cl fp).p) (fun s H C cl fp => (hk s H C cl fp).p) (fun s H C cl fp => (hv s H C cl fp).p) hs, snd_dc hi.s h1.s hts h2.s h3.s h4.s⟩
def keyB : Key → D → Bool
  | .inl i, .int j => decide (j = i)
  | .inr x, .str y => decide (y = x)
  | _, _ => false
theorem keyB_is (k k' : Key) : keyB k (keyD k') = decide (k' = k) := by
  cases k <;> cases k' <;> simp [keyB, keyD]
def getD2 (ds : List (D × D)) (k : Key) : Option D := (ds.find? fun p => keyB k p.1).map (·.2)
theorem get_ok {kvs : List (Key × V)} {ds : List (D × D)} (k : Key) (h : FlatKV kvs ds) : (getD2 ds k = none ∧ valV kvs k = none) ∨ ∃ d v, getD2 ds k = some d ∧ valV kvs k = some v ∧ FlatV v d := by
  induction h with
  | nil => exact .inl ⟨rfl, rfl⟩
  | @cons k' v d kvs ds f _ ih =>
    unfold getD2 valV at ih ⊢
    rw [List.find?_cons, List.find?_cons, keyB_is]
    cases e : decide (k' = k) with
    | true => exact .inr ⟨d, v, rfl, rfl, f⟩
    | false => exact ih
def mGet2 (mo mk md : Rho → Res Val) : Rho → Res Val := fun ρ => (mo ρ).bind fun o => match o with
  | .sh (.dict ds) => (mk ρ).bind fun rk => (md ρ).bind fun rd => lift (match keyOf rk with
    | some k => match getD2 ds k with
      | some d => some (.sh d)
      | none => match rd with
        | .sh x => some (.sh x)
        | _ => none
    | none => none)
  | _ => .no
theorem FlatV.rp {K : PySem.W.Frag} {G : Hp} {v : V} {d : D} (h : FlatV v d) : Rp K G v d := by
  cases h with
  | non => exact .non
  | bl b => exact .bl b
  | int i => exact .int i
  | str x => exact .str x
theorem snd_get2 {K : PySem.W.Frag} {mg : Str → Option Value} {W : WX} {to tk td : TE} {mo mk md : Rho → Res Val} (ho : Snd K mg W to mo) (hk : Snd K mg W tk mk) (hd : Snd K mg W td md) : Snd K mg W (tDGet2 to tk td) (mGet2 mo mk md) := by
  intro G0 H0 σ G H ρ Q I h
  refine ho G0 H0 σ G H ρ _ I (RR.bnd (Ext.refl I.s) h fun o G1 H1 x eo e1 r1 h1 => ?_)
  split at h1
  · rename_i ds
    cases (show Rp K G1 x (.dict ds) from r1) with
    | @dct a kvs _ ha kf =>
      refine ⟨a, rfl, .inl ⟨kvs, .inl (e1.s _ _ ha)⟩, ?_⟩
      refine hk G0 H0 σ G1 H1 ρ _ (I.ext' e1) (RR.bnd e1 h1 fun rk G2 H2 y ek e2 r2 h2 => ?_)
      refine hd G0 H0 σ G2 H2 ρ _ (I.ext' (e1.trans e2)) (RR.bnd (e1.trans e2) h2 fun rd G3 H3 z ez e3 r3 h3 => ?_)
      obtain ⟨c, ec, q⟩ := h3.lift
      have e13 := (e1.trans e2).trans e3
      split at ec
      · rename_i k ek2
        have hk3 : H3 a = some (.dK kvs) := e3.s _ _ (e3.g _ _ (e2.g _ _ ha))
        refine ⟨_, by rw [keyOf_ok r2 ek2]; exact DGet.k hk3, ?_⟩
        rcases get_ok k kf with ⟨n1, n2⟩ | ⟨d, v, s1, s2, f⟩
        · rw [n1] at ec
          rw [n2]
          cases rd with
          | sh x =>
            cases ec
            exact q G3 H3 _ e13 (show Rp K G3 z x from r3)
          | ow _ => cases ec
          | bw _ => cases ec
          | fz _ => cases ec
          | io _ => cases ec
          | ob _ _ _ _ => cases ec
        · rw [s1] at ec
          rw [s2]
          cases ec
          exact q G3 H3 _ e13 (show Rp K G3 v d from f.rp)
      · cases ec
  · exact h1.elim
theorem pm_get2 {X : Cx} {W : WX} {o e f : Expr} {to tk td : TE} {mo mk md : Rho → Res Val} {apos cpos : Pos} (hu : X.A.units + 64 < cLine) (ho : PM X W o to mo) (hk : PM X W e tk mk) (hd : PM X W f td md) (m : M2 X o "get" apos e f cpos := by exact ⟨rfl, rfl, rfl, rfl⟩) : PM X W (.Call (.Attribute o "get" apos) [e, f] [] cpos) (tDGet2 to tk td) (mGet2 mo mk md) :=
  ⟨pe_dget2 (by omega) ho.p hk.p hd.p m, snd_get2 ho.s hk.s hd.s⟩
theorem phe_isB {X : Cx} {i : Nat} {a : Addr} {cls : Value} {d : Option Addr} {mt : Str → Option Bool} {pos : Pos} {K : PySem.W.Frag} {x y : Str} {p p1 p2 : Pos} {T : String} (hk : X.K = K) (hc : CallR X (.builtin "isinstance") (rIsX K a cls d)) (hy : X.mg y = none) (hb : bootBuiltins y = some (.type T)) (hd' : IsD K X.mg (.type T) mt) (hm : X.mg "isinstance" = none) (hN : X.N[i]? = some x := by rfl)
    (hv : Vis X.env.scope x := by first | exact Or.inl rfl | exact Or.inr (Or.inl rfl) | exact Or.inr (Or.inr rfl)) (hd : (x == ("__debug__" : Str)) = false := by decide) (hcd : (x == ("__classdict__" : Str)) = false := by decide)
    (gy : Gl X y := by rfl) (ny : y ≠ "__name__" := by decide) (dy : (y == ("__debug__" : Str)) = false := by decide) (hg : Gl X "isinstance" := by rfl)
    (he : starEach (.Name x p1 :: [.Name y p2]) X.env = (false, eval (.Name x p1) X.env) :: starEach [.Name y p2] X.env := by rfl) (hs2 : starEach (.Name y p2 :: []) X.env = (false, eval (.Name y p2) X.env) :: starEach [] X.env := by rfl) (hpl : (backTo pos (starEach [.Name y p2] X.env)).any (·.1) = false := by rfl) :
    PHE X i a cls d (.Call (.Name "isinstance" p) [.Name x p1, .Name y p2] [] pos) (tCB (rIsX K a cls d) (tCons (tVar i) (tCons (tC (.ty T)) tNil))) mt := by
  subst hk
  exact ⟨pe_callB hc hg hm rfl (pa_cons (pe_var hN hv hd hcd) (pa_cons (pe_bltn gy hy hb rfl ny dy) pa_nil hs2) he) (by decide) (by decide) he hpl, fun m C b hC hn hmC hb' σ H Q hσ q => by
    obtain ⟨EC, ek⟩ := hd' m b C hb' hmC
    exact ⟨_, hσ, C, hC, hn, EC, .ty T, .type T, b, rfl, fun _ z => z, ek, q⟩⟩
end Mi

namespace Mi
open PySem PySem.Spec PyProof.Rows L2

/-! ### the order of data -/
def rCmpD (K : PySem.W.Frag) (f : D → D → Bool) : R2 := fun x y H Q => ∃ d e, Dp K H x d ∧ Dp K H y e ∧ PySem.W.alike d e = true ∧ d ≠ .none ∧ d.depth ≤ 60 ∧ Q (.bl (f d e)) H
section
variable {X : Cx}
theorem room_min {u a b : Nat} (hu : u + 64 < cLine) (h : a ≤ 60) : u + min a b < cLine := by
  have : min a b ≤ a := Nat.min_le_left a b
  omega
theorem op_ltD (hu : X.A.units + 64 < cLine) : OpR X (compareOp .Lt) (rCmpD X.K fun d e => PySem.W.dataLt d e) := by
  intro pins s σ H x y v u Q I rx ry h
  obtain ⟨d, e, hd, he, al, nn, dp, q⟩ := h
  obtain ⟨as, r1⟩ := Dp.reads I d x v hd rx
  obtain ⟨bs, r2⟩ := Dp.reads I e y u he ry
  exact PySem.W.lt_data r1 r2 al nn (room_min hu dp) ⟨.bl _, H, I, rfl, q⟩
theorem op_gtD (hu : X.A.units + 64 < cLine) : OpR X (compareOp .Gt) (rCmpD X.K fun d e => PySem.W.dataLt e d) := by
  intro pins s σ H x y v u Q I rx ry h
  obtain ⟨d, e, hd, he, al, nn, dp, q⟩ := h
  obtain ⟨as, r1⟩ := Dp.reads I d x v hd rx
  obtain ⟨bs, r2⟩ := Dp.reads I e y u he ry
  exact PySem.W.gt_data r1 r2 al nn (room_min hu dp) ⟨.bl _, H, I, rfl, q⟩
theorem op_leD (hu : X.A.units + 64 < cLine) : OpR X (compareOp .LtE) (rCmpD X.K fun d e => !PySem.W.dataLt e d) := by
  intro pins s σ H x y v u Q I rx ry h
  obtain ⟨d, e, hd, he, al, nn, dp, q⟩ := h
  obtain ⟨as, r1⟩ := Dp.reads I d x v hd rx
  obtain ⟨bs, r2⟩ := Dp.reads I e y u he ry
  exact PySem.W.le_data r1 r2 al nn (room_min hu dp) ⟨.bl _, H, I, rfl, q⟩
theorem op_geD (hu : X.A.units + 64 < cLine) : OpR X (compareOp .GtE) (rCmpD X.K fun d e => !PySem.W.dataLt d e) := by
  intro pins s σ H x y v u Q I rx ry h
  obtain ⟨d, e, hd, he, al, nn, dp, q⟩ := h
  obtain ⟨as, r1⟩ := Dp.reads I d x v hd rx
  obtain ⟨bs, r2⟩ := Dp.reads I e y u he ry
  exact PySem.W.ge_data r1 r2 al nn (room_min hu dp) ⟨.bl _, H, I, rfl, q⟩
theorem op_ltDK {K : PySem.W.Frag} (hu : X.A.units + 64 < cLine) (h : X.K = K := by rfl) : OpR X (compareOp .Lt) (rCmpD K fun d e => PySem.W.dataLt d e) := h ▸ op_ltD hu
theorem op_gtDK {K : PySem.W.Frag} (hu : X.A.units + 64 < cLine) (h : X.K = K := by rfl) : OpR X (compareOp .Gt) (rCmpD K fun d e => PySem.W.dataLt e d) := h ▸ op_gtD hu
theorem op_leDK {K : PySem.W.Frag} (hu : X.A.units + 64 < cLine) (h : X.K = K := by rfl) : OpR X (compareOp .LtE) (rCmpD K fun d e => !PySem.W.dataLt e d) := h ▸ op_leD hu
theorem op_geDK {K : PySem.W.Frag} (hu : X.A.units + 64 < cLine) (h : X.K = K := by rfl) : OpR X (compareOp .GtE) (rCmpD K fun d e => !PySem.W.dataLt d e) := h ▸ op_geD hu
end
def oCmpD (f : D → D → Bool) : Val → Val → Option Val := fun a b => match dat a, dat b with
  | some d, some e => if (PySem.W.alike d e && !d.hasDict && !e.hasDict && decide (d.depth ≤ 60) && !isNone (.sh d)) = true then some (.sh (.bool (f d e))) else none
  | _, _ => none
theorem os_cmpD {K : PySem.W.Frag} {f : D → D → Bool} : OpS K (rCmpD K f) (oCmpD f) := by
  intro B G H x y a b c Q s ha hb e q
  unfold oCmpD at e
  split at e
  · split at e
    · rename_i d d' e1 e2 hl
      cases e
      simp only [Bool.and_eq_true, Bool.not_eq_true', decide_eq_true_eq] at hl
      refine ⟨d, d', ha.dp s e1 hl.1.1.1.2, hb.dp s e2 hl.1.1.2, hl.1.1.1.1, ?_, hl.1.2, q G H _ (Ext.refl s) (.bl _)⟩
      rintro rfl
      cases hl.2
    · cases e
  · cases e
def oLtD := oOr oLt (oCmpD fun d e => PySem.W.dataLt d e)
def oGtD := oOr oGt (oCmpD fun d e => PySem.W.dataLt e d)
def oLeD := oOr oLe (oCmpD fun d e => !PySem.W.dataLt e d)
def oGeD := oOr oGe (oCmpD fun d e => !PySem.W.dataLt d e)

/-! ### products and quotients: the bounds so written that the kernel stops at once at an open number -/
def oMulN : Val → Val → Option Val
  | .sh (.int i), .sh (.int j) => if (Nat.blt i.natAbs 18446744073709551616 || Nat.blt j.natAbs 18446744073709551616) = true then some (.sh (.int (i * j))) else none
  | _, _ => none
def oDivN : Val → Val → Option Val
  | .sh (.int i), .sh (.int j) => if (Nat.blt 0 j.toNat && Nat.blt j.toNat 1073741824) = true then some (.sh (.int (i / j))) else none
  | _, _ => none
theorem blt_lt {a b : Nat} (h : Nat.blt a b = true) : a < b := by
  unfold Nat.blt at h
  exact Nat.le_of_ble_eq_true h
theorem big64 {i : Int} (h : Nat.blt i.natAbs 18446744073709551616 = true) : -(2 ^ 64) < i ∧ i < 2 ^ 64 := by
  have h := blt_lt h
  have e : (2 : Int) ^ 64 = 18446744073709551616 := by decide
  rw [e]
  omega
theorem os_mulN {K : PySem.W.Frag} : OpS K (rI CMul fun i j => .int (i * j)) oMulN := by
  intro B G H x y a b c Q s ha hb e q
  unfold oMulN at e
  split at e
  · split at e
    · rename_i i j h
      cases e
      rw [Bool.or_eq_true] at h
      exact ⟨i, j, ha.int_, hb.int_, h.elim (fun h => .inl (big64 h)) (fun h => .inr (big64 h)), q G H _ (Ext.refl s) (.int _)⟩
    · cases e
  · cases e
theorem os_divN {K : PySem.W.Frag} : OpS K (rI CDiv fun i j => .int (i / j)) oDivN := by
  intro B G H x y a b c Q s ha hb e q
  unfold oDivN at e
  split at e
  · split at e
    · rename_i i j h
      cases e
      rw [Bool.and_eq_true] at h
      have h1 := blt_lt h.1
      have h2 := blt_lt h.2
      exact ⟨i, j, ha.int_, hb.int_, (show 0 < j ∧ j < 1073741824 from ⟨by omega, by omega⟩), q G H _ (Ext.refl s) (.int _)⟩
    · cases e
  · cases e
def oMul2 := oOr oMulN oRep
/-! ### tuples: t + u, t[i:j], tuple(xs) -/
def tupOf : Val → Option (List D)
  | .sh (.tuple xs) => some xs
  | _ => none
theorem tupOf_inv {a : Val} {xs : List D} (e : tupOf a = some xs) : a = .sh (.tuple xs) := by
  unfold tupOf at e
  split at e
  · cases e; rfl
  · cases e
def oCatT : Val → Val → Option Val := fun a b => match tupOf a, tupOf b with
  | some xs, some ys => if xs.length + ys.length ≤ 100000 then some (.sh (.tuple (xs ++ ys))) else none
  | _, _ => none
theorem rpa_nil_iff {K : PySem.W.Frag} {G : Hp} {vs : List V} {xs : List D} (k : RpA K G vs xs) : vs = [] ↔ xs = [] := by
  cases k with
  | nil => exact ⟨fun _ => rfl, fun _ => rfl⟩
  | cons a b => exact ⟨fun h => (nomatch h), fun h => (nomatch h)⟩
theorem os_catT {K : PySem.W.Frag} : OpS K (rCatA K) oCatT := by
  intro B G H x y a b c Q s ha hb e q
  unfold oCatT at e
  split at e
  · split at e
    · rename_i xs ys e1 e2 hl
      rw [tupOf_inv e1] at ha
      rw [tupOf_inv e2] at hb
      obtain ⟨p, vs, rfl, hp, ka⟩ := ha.tup s
      obtain ⟨p', us, rfl, hp', kb⟩ := hb.tup s
      cases e
      refine ⟨p, p', vs, us, rfl, rfl, hp, hp', ?_, fun h0 => ?_, fun h1 h0 => ?_, fun h1 h2 t ht => ?_⟩
      · rw [ka.length, kb.length]
        exact sz_le hl
      · have z : xs = [] := (rpa_nil_iff ka).mp h0
        subst z
        exact q G H _ (Ext.refl s) hb
      · have z : ys = [] := (rpa_nil_iff kb).mp h0
        subst z
        rw [List.append_nil] at q
        exact q G H _ (Ext.refl s) ha
      · exact q _ _ _ (Ext.newS s ht) (Rp.tup (.inl (.inl upd_same)) ((ka.append kb).mono (same_new (s.free ht))))
    · cases e
  · cases e
theorem op_catAK {X : Cx} {K : PySem.W.Frag} (h : X.K = K := by rfl) : OpR X (binaryOp .Add) (rCatA K) := h ▸ op_catA
def oAddT := oOr oAddI (oOr oCatT (oOr oStrCat oCat))
def cTuple : List Val → Option Val
  | [.sh (.tuple xs)] => some (.sh (.tuple xs))
  | [a] => match lit a with
    | some xs => some (.sh (.tuple xs))
    | none => none
  | _ => none
theorem cs_tuple {K : PySem.W.Frag} : CallS K (fun xs H Q => ∃ p ys, xs = [.ref p] ∧ ((SqL K H p ys ∧ ∀ l, H l = none → Q (.ref l) (upd H l (.tup ys))) ∨ (SqT K H p ys ∧ Q (.ref p) H))) cTuple := by
  intro B G H vs as c Q s h e q
  unfold cTuple at e
  split at e
  · cases e
    obtain ⟨v, rfl, h1⟩ := vrs1 h
    obtain ⟨p, us, rfl, hp, k⟩ := h1.tup s
    exact ⟨p, us, rfl, .inr ⟨hp, q G H _ (Ext.refl s) h1⟩⟩
  · split at e
    · rename_i xs e2
      cases e
      obtain ⟨v, rfl, h1⟩ := vrs1 h
      obtain ⟨p, us, rfl, hp, k⟩ := h1.list s e2
      exact ⟨p, us, rfl, .inl ⟨hp, fun l hl => q _ _ _ (Ext.newS s hl) (Rp.tup (.inl (.inl upd_same)) (k.mono (same_new (s.free hl))))⟩⟩
    · cases e
  · cases e
theorem call_tupleK {X : Cx} {K : PySem.W.Frag} (h : X.K = K := by rfl) : CallR X (.type "tuple") (fun xs H Q => ∃ p ys, xs = [.ref p] ∧ ((SqL K H p ys ∧ ∀ l, H l = none → Q (.ref l) (upd H l (.tup ys))) ∨ (SqT K H p ys ∧ Q (.ref p) H))) := h ▸ call_tuple_of
def cIntB : List Val → Option Val
  | [.sh (.int i)] => some (.sh (.int i))
  | [.sh (.bool b)] => some (.sh (.int (if b then 1 else 0)))
  | _ => none
theorem cs_intB {K : PySem.W.Frag} : CallS K (fun xs H Q => (∃ i, xs = [.int i] ∧ Q (.int i) H) ∨ ∃ k, xs = [.bl k] ∧ Q (.int (if k then 1 else 0)) H) cIntB := by
  intro B G H vs as c Q s h e q
  unfold cIntB at e
  split at e
  · cases e
    obtain ⟨v, rfl, h1⟩ := vrs1 h
    cases h1.int_
    exact .inl ⟨_, rfl, q G H _ (Ext.refl s) (Rp.int _)⟩
  · cases e
    obtain ⟨v, rfl, h1⟩ := vrs1 h
    cases h1.bool_
    exact .inr ⟨_, rfl, q G H _ (Ext.refl s) (Rp.int _)⟩
  · cases e
/-! slices of lists, tuples, texts -/
def rSlU (K : PySem.W.Frag) : V → Option Int → Option Int → Hp → VK → Prop := fun x lo hi H Q => (rSlL K x lo hi H Q ∨ rSlS x lo hi H Q) ∨ rSlA K x lo hi H Q
def mSlU (ma : Rho → Res Val) (ml mh : Rho → Res (Option Int)) : Rho → Res Val := fun ρ => (ma ρ).bind fun a => (ml ρ).bind fun l => (mh ρ).bind fun u => lift (match a with
  | .sh (.str z) => if z.length ≤ 100000 then some (.sh (.str (cutS z l u))) else none
  | .sh (.tuple xs) => some (.sh (.tuple (cutD xs l u)))
  | a => match lit a with
    | some xs => some (.ow (cutD xs l u))
    | none => none)
theorem cut_whole {α : Type} {xs : List α} {i j : Nat} (h0 : i = 0) (h1 : j = xs.length) : (xs.drop i).take (j - i) = xs := by
  subst h0
  subst h1
  rw [List.drop_zero, Nat.sub_zero, List.take_length]
theorem snd_slU {K : PySem.W.Frag} {mg : Str → Option Value} {W : WX} {ta : TE} {ma : Rho → Res Val} {tl th : TO} {ml mh : Rho → Res (Option Int)} (ha : Snd K mg W ta ma) (hl : SndO K mg W tl ml) (hh : SndO K mg W th mh) : Snd K mg W (tSl (rSlU K) ta tl th) (mSlU ma ml mh) := by
  intro G0 H0 σ G H ρ Q I h
  refine ha G0 H0 σ G H ρ _ I (RR.bnd (Ext.refl I.s) h fun a G1 H1 x ea e1 r1 h1 => ?_)
  refine hl G0 H0 σ G1 H1 ρ _ (I.ext' e1) (RR.bnd e1 h1 fun l G2 H2 y eb e2 r2 h2 => ?_)
  cases (show y = l from r2)
  have e02 := e1.trans e2
  refine hh G0 H0 σ G2 H2 ρ _ (I.ext' e02) (RR.bnd e02 h2 fun u G3 H3 z ez e3 r3 h3 => ?_)
  cases (show z = u from r3)
  obtain ⟨c, ec, q⟩ := h3.lift
  have e03 := e02.trans e3
  split at ec
  · split at ec
    · rename_i zz hz
      cases ec
      exact .inl (.inr ⟨zz, r1.str_, sz_le hz, q G3 H3 _ e03 (.str _)⟩)
    · cases ec
  · rename_i xs
    cases ec
    have r1' := (r1.ext e2).ext e3
    obtain ⟨p, vs, rfl, hp, k⟩ := r1'.tup e3.s
    refine .inr ⟨p, vs, rfl, hp, fun hw => ?_, fun hw t ht => ?_⟩
    · have e : cutD xs l u = xs := by
        unfold cutD
        rw [k.length] at hw
        exact cut_whole hw.1 hw.2
      rw [e] at q
      exact q G3 H3 _ e03 r1'
    · refine q _ _ _ (e03.trans (Ext.newS e3.s ht)) (Rp.tup (.inl (.inl upd_same)) ?_)
      refine RpA.mono (same_new (e3.s.free ht)) ?_
      unfold cutV cutD
      rw [k.length]
      exact (k.drop _).take _
  · split at ec
    · rename_i xs e4
      cases ec
      obtain ⟨p, vs, rfl, hp, k⟩ := ((r1.ext e2).ext e3).list e3.s e4
      refine .inl (.inl ⟨p, vs, rfl, hp, fun t ht => q G3 _ _ (e03.trans (Ext.newO e3.s ht)) ⟨t, _, rfl, upd_same, e3.s.free ht, e03.h.free ht, ?_⟩⟩)
      unfold cutV cutD
      rw [k.length]
      exact (k.drop _).take _
    · cases ec
theorem pm_sliceUK {X : Cx} {K : PySem.W.Frag} {W : WX} {a : Expr} {ta : TE} {ma : Rho → Res Val} {lo hi : Option Expr} {tl th : TO} {ml mh : Rho → Res (Option Int)} {pos p2 : Pos} (ha : PM X W a ta ma) (hl : PMO X W lo tl ml) (hh : PMO X W hi th mh) (h : X.K = K := by rfl) : PM X W (.Subscript a (.Slice lo hi none p2) pos) (tSl (rSlU K) ta tl th) (mSlU ma ml mh) := by
  subst h
  exact ⟨pe_slice ((sl_list.or sl_str).or sl_tupA) ha.p hl.p hh.p, snd_slU ha.s hl.s hh.s⟩

/-! ### what is walked: a list, a tuple, a text -/
def walkD : Val → Option (List D)
  | .sh (.str z) => some (signs z)
  | .sh (.tuple xs) => some xs
  | a => fix a
def mIterS (me : Rho → Res Val) : Rho → Res (List D) := fun ρ => (me ρ).bind fun a => lift (walkD a)
def iSeq (K : PySem.W.Frag) (te : TE) : TI := iOr (iOr (iList K te) (iStr te)) (iTup K te)
theorem sndi_s {K : PySem.W.Frag} {mg : Str → Option Value} {W : WX} {te : TE} {me : Rho → Res Val} (h : Snd K mg W te me) : SndI K mg W (iSeq K te) (mIterS me) := by
  intro G0 H0 σ G H ρ R I q
  by_cases z : ∃ xs, me ρ = .ok (.sh (.tuple xs))
  · obtain ⟨xs, ex⟩ := z
    refine .inr (sndi_tup h G0 H0 σ G H ρ R I ?_)
    have e : mIterT me ρ = mIterS me ρ := by
      unfold mIterT mIterS
      rw [ex]
      rfl
    rw [e]
    exact q
  · refine .inl (sndi_x h G0 H0 σ G H ρ R I ?_)
    have e : mIterX me ρ = mIterS me ρ := by
      unfold mIterX mIterS
      cases em : me ρ with
      | ok a =>
        show lift _ = lift _
        congr 1
        unfold walkD
        split
        · rfl
        · rename_i b nb
          split
          · rename_i z'
            exact (nb z' rfl).elim
          · rename_i xs
            exact (z ⟨xs, em⟩).elim
          · rfl
      | ex n fs => rfl
      | no => rfl
    rw [e]
    exact q
theorem pmi_s {X : Cx} {K : PySem.W.Frag} {W : WX} {tg e : Expr} {te : TE} {me : Rho → Res Val} (h : PM X W e te me) (hk : X.K = K := by rfl) : PMI X W tg e (iSeq K te) (mIterS me) := by
  subst hk
  exact ⟨pi_or (pi_or (pi_list h.p) (pi_str h.p)) (pi_tup h.p), sndi_s h.s⟩

/-! ### targets that are tuples; two names at once; x += e -/
def mAsg (bp : BP) (me : Rho → Res Val) : Rho → Out := fun ρ => sRes (me ρ) ρ fun r => match r with
  | .sh d => match bp d ρ with
    | some ρ' => .nx ρ'
    | none => .no
  | _ => .no
theorem snd_asg {K : PySem.W.Frag} {mg : Str → Option Value} {W : WX} {te : TE} {me : Rho → Res Val} {g : TG} {bp : BP} {ts : List Nat} (h : Snd K mg W te me) (hg : SndG K g bp ts) : SndS K mg W (tAsg te g) (mAsg bp me) := by
  intro G0 H0 σ G H ρ D I q
  refine h G0 H0 σ G H ρ _ I (RR.out I q fun r G1 H1 v er e1 r1 q1 => ?_)
  split at q1
  · rename_i d
    split at q1
    · rename_i ρ' eb
      exact hg G0 H0 σ G1 H1 ρ v d ρ' _ (I.ext' e1) r1 eb fun σ' I' _ => q1 σ' G1 H1 I' (Same.refl _)
    · exact q1.elim
  · exact q1.elim
theorem pms_asg {X : Cx} {W : WX} {tg e : Expr} {te : TE} {me : Rho → Res Val} {g : TG} {bp : BP} {ts : List Nat} {pos : Pos} (h : PM X W e te me) (hg : PMG X tg g bp ts) (hs : swapsWithSole [tg] e pos.line X.env = pure false := by rfl) (hw : swappedStores [tg] e X.env = pure none := by rfl)
    (h1 : (assignEach [tg] X.env).map (·.2) = [assign tg X.env] := by rfl) : PMS X W (.Assign [tg] e pos) (tAsg te g) (mAsg bp me) := ⟨ps_asg h.p hg.p hs hw h1, snd_asg h.s hg.s⟩
theorem SlotR.toVR {K : PySem.W.Frag} {H0 G H : Hp} {v : V} {r : Val} (s0 : Same H0 H) (h : SlotR K H0 G H v r) : VR K H0 G H v r := by
  cases r with
  | sh d => exact h
  | ow xs => exact h
  | bw xs =>
    obtain ⟨p, vs, a, b, k⟩ := h
    exact ⟨p, vs, a, s0 _ _ b, k⟩
  | fz xs => exact h
  | io xs =>
    obtain ⟨p, vs, a, b, c, d, k⟩ := h
    exact ⟨p, vs, a, b, k⟩
  | ob o p C fs => exact h
def mPar (i j : Nat) (ma mb : Rho → Res Val) : Rho → Out := fun ρ => sRes (ma ρ) ρ fun a => sRes (mb ρ) ρ fun b => match esc a, esc b with
  | some d, some e => .nx ((ρ.set i (some (.sh d))).set j (some (.sh e)))
  | _, _ => .no
theorem snd_par {K : PySem.W.Frag} {mg : Str → Option Value} {W : WX} {ta tb : TE} {ma mb : Rho → Res Val} {i j : Nat} (ha : Snd K mg W ta ma) (hb : Snd K mg W tb mb) : SndS K mg W (tPar i j (tCons ta (tCons tb tNil))) (mPar i j ma mb) := by
  intro G0 H0 σ G H ρ D I q
  refine ha G0 H0 σ G H ρ _ I (RR.out I q fun a G1 H1 x ea e1 r1 q1 => ?_)
  have I1 := I.ext' e1
  refine hb G0 H0 σ G1 H1 ρ _ I1 (RR.out I1 q1 fun b G2 H2 y eb e2 r2 q2 => ?_)
  split at q2
  · rename_i d e ed ee
    obtain ⟨G3, x3, s3, k3⟩ := esc_one (e1.trans e2) (r1.ext e2).vw ed
    have e23 : Ext G1 H1 G2 H2 := e2
    obtain ⟨G4, x4, s4, k4⟩ := esc_one x3 ((r2.back e1.h).vw.up s3) ee
    have I4 := I.ext' x4
    refine ⟨x, y, rfl, ?_⟩
    have J := (I4.put (i := i) (r := .sh d) (Ext.refl I4.s) (Rp.mono s4 k3) rfl).put (i := j) (r := .sh e) (Ext.refl I4.s) k4 rfl
    exact q2 _ G4 H2 J (s3.trans s4)
  · exact q2.elim
theorem pms_par {X : Cx} {W : WX} (i j : Nat) {x y : Str} {a b : Expr} {ta tb : TE} {ma mb : Rho → Res Val} {px py pt pos : Pos} {kt k2 : Nat} {pt2 : Pos} (hc : X.calm = true) (hN : X.N.Nodup) (hij : i ≠ j) (ha : PM X W a ta ma) (hb : PM X W b tb mb) (hi : X.N[i]? = some x := by rfl) (hj : X.N[j]? = some y := by rfl)
    (hx : X.env.scope.names.lookup x = some .local := by rfl) (hy : X.env.scope.names.lookup y = some .local := by rfl)
    (hw : swappedStores [.Tuple [.Name x px, .Name y py] kt pt] (.Tuple [a, b] k2 pt2) X.env = pure (some [x, y]) := by rfl)
    (hs : swapsWithSole [.Tuple [.Name x px, .Name y py] kt pt] (.Tuple [a, b] k2 pt2) pos.line X.env = pure false := by rfl)
    (h1 : starEach [a, b] X.env = (false, eval a X.env) :: starEach [b] X.env := by rfl) (h2 : starEach [b] X.env = (false, eval b X.env) :: starEach [] X.env := by rfl) :
    PMS X W (.Assign [.Tuple [.Name x px, .Name y py] kt pt] (.Tuple [a, b] k2 pt2) pos) (tPar i j (tCons ta (tCons tb tNil))) (mPar i j ma mb) :=
  ⟨ps_par hc hN hi hj hij hx hy (pa_cons ha.p (pa_cons hb.p pa_nil h2) h1) hw hs, snd_par ha.s hb.s⟩
theorem snd_aug {K : PySem.W.Frag} {mg : Str → Option Value} {W : WX} {te : TE} {me : Rho → Res Val} {i : Nat} {r : R2} {mo : Val → Val → Option Val} (ho : OpS K r mo) (h : Snd K mg W te me) : SndS K mg W (tAug i te r) (mAug i mo me) := by
  intro G0 H0 σ G H ρ D I q
  unfold mAug at q
  split at q
  · rename_i a ea
    obtain ⟨v, hv, hs⟩ := I.slot i a ea
    refine ⟨v, hv, ?_⟩
    refine h G0 H0 σ G H ρ _ I (RR.out I q fun b G1 H1 y eb e1 r1 q1 => ?_)
    split at q1
    · rename_i c ec
      cases em : mo (look a) b with
      | none =>
        rw [em] at ec
        cases ec
      | some c' =>
        rw [em] at ec
        have ec : store c' = some c := ec
        have va : VR K H G1 H1 v (look a) := by
          have z := (hs.ext e1)
          cases a with
          | sh d => exact z
          | ow xs =>
            obtain ⟨p, vs, a, b, c, d, k⟩ := z
            exact ⟨p, vs, a, b, k⟩
          | bw xs =>
            obtain ⟨p, vs, a, b, k⟩ := z
            exact ⟨p, vs, a, (I.ext' e1).ext.h _ _ b, k⟩
          | fz xs => exact z
          | io xs =>
            obtain ⟨p, vs, a, b, c, d, k⟩ := z
            exact ⟨p, vs, a, b, k⟩
          | ob o p C fs =>
            obtain ⟨dx, fv, a, b, _, e, k⟩ := z
            exact ⟨dx, fv, a, b, (fun z => nomatch z), e, k⟩
        refine ho H G1 H1 v y (look a) b c' _ e1.s va r1 em fun G2 H2 z e2 r2 => ?_
        have rz : VR K H G2 H2 z c' := r2.back e1.h
        exact OutR.up e2.g q1 _ G2 H2 (I.put (e1.trans e2) rz ec) (Same.refl _)
    · exact q1.elim
  · exact q.elim
theorem pms_aug {X : Cx} {W : WX} (i : Nat) {x : Str} {e : Expr} {te : TE} {me : Rho → Res Val} {op : Operator} {r : R2} {mo : Val → Val → Option Val} {pos pos' : Pos} (hN : X.N.Nodup) (ho : PIp X op r) (hs : OpS X.K r mo) (h : PM X W e te me) (hi : X.N[i]? = some x := by rfl) (hx : Loc X.env.scope x := by first | exact Or.inl rfl | exact Or.inr rfl)
    (hf : X.fn x = true ∨ X.env.scope.names.lookup x = some .local := by first | exact .inl rfl | exact .inr rfl | assumption) : PMS X W (.AugAssign (.Name x pos') op e pos) (tAug i te r) (mAug i mo me) := ⟨ps_aug hN hi hx h.p ho hf, snd_aug hs h.s⟩
theorem os_ipAdd {K : PySem.W.Frag} : OpS K (ipI fun i j => i + j) oAddI := ops_I0 (gv := fun i j => .int (i + j)) fun _ _ _ => .int _
theorem os_ipSub {K : PySem.W.Frag} : OpS K (ipI fun i j => i - j) oSub := ops_I0 (gv := fun i j => .int (i - j)) fun _ _ _ => .int _
end Mi

/-! Objects, by hand: methods, instances, properties where no repr is under way (FnG). -/
namespace Mi
open PySem PySem.Spec PyProof.Rows L2
section
variable {X : Cx} {W : WX} {k : Nat} {f C p g : Addr} {fd : FuncData} {ps : List Str} {sp : Sp} {x m : Str} {pp pos apos : Pos} {e o : Expr} {es : List Expr} {ta : TE} {t : TA}
/-- o.m(..): its promise at the object -/
def tMethS (C : Addr) (m : Str) (sp : Sp) (E : L2.St → XK) (ta : TE) (t : TA) : TE := fun σ H Q => ta σ H fun x H1 => ∃ a dx fs, x = .ref a ∧ H1 a = some (.ins C dx fs) ∧ fs.lookup m = none ∧ t σ H1 fun vs H2 => sp (x :: vs) H2 Q (E σ)
def tMakeS (C : Addr) (sp : Sp) (E : L2.St → XK) (t : TA) : TE := fun σ H Q => t σ H fun vs H1 => ∀ x dx, H1 x = none → H1 dx = none → dx ≠ x → sp (.ref x :: vs) (upd (upd H1 dx (.own x)) x (.ins C dx [])) (fun v H2 => v = .non ∧ Q (.ref x) H2) (E σ)
def tPropS (C : Addr) (sp : Sp) (E : L2.St → XK) (ta : TE) : TE := fun σ H Q => ta σ H fun x H1 => ∃ a dx fs, x = .ref a ∧ H1 a = some (.ins C dx fs) ∧ sp [.ref a] H1 Q (E σ)
theorem run_fnG {pins : List (Addr × Obj)} {σ : L2.St} {H : Hp} {s : Shared} {Q : VK} {us : List Value} {vs : List V} (F : FnG X.prog X.w X.K X.mg X.base k f fd ps sp) (gd : X.A.guards = some []) (hr : Room k X.A) (hb : Binds X.K fd ps []) (hx : ∀ σ, PassesAt (L2.CX X.prog X.w) X σ (WE W σ))
    (I : Inv X pins σ H s) (r : Vals vs us) (h : sp vs H Q (WE W σ)) : wpAny (model X.prog X.w) X.A (call (.ref f) us) (EP X pins σ Q) X.xe s := by
  have hl : us.length = ps.length := r.length.symm.trans (F.len _ _ _ _ h)
  have bb := hb s us I.kIn ((congrArg List.length (List.append_nil us)).trans hl)
  rw [List.append_nil] at bb
  refine wpAny_call (codeAny_mono (F.go X.A X.stack s H ⟨us, []⟩ us vs Q (WE W σ) gd hr I.env0 bb r h) fun o s2 hq => ?_)
  match o, hq with
  | .error err, hq => exact hx σ pins H s err s2 I hq
  | .ok (.ret u), hq => exact I.after hq
  | .ok .next, hq => exact hq.elim
  | .ok .brk, hq => exact hq.elim
  | .ok .cont, hq => exact hq.elim
theorem pe_methG {pl : Sem Bool} (he : PE X o ta) (c : Cls X.K C) (hm : Meth X.K C m f) (F : FnG X.prog X.w X.K X.mg X.base k f fd ps sp) (gd : X.A.guards = some []) (hr : Room k X.A) (hb : Binds X.K fd ps []) (hx : ∀ σ, PassesAt (L2.CX X.prog X.w) X σ (WE W σ)) (ha : PA X (e :: es) t)
    (hst : starEach (e :: es) X.env = (false, eval e X.env) :: starEach es X.env := by rfl) (hpl : (backTo pos (starEach es X.env)).any (·.1) = false := by rfl)
    (ht : eval (.Call (.Attribute o m apos) (e :: es) [] pos) X.env = (do
      let ov ← eval o X.env
      standAt apos.atName
      let (f, first) ← holding [ov] (getMethod ov m pl)
      callWith pos f first (backTo pos (starEach (e :: es) X.env)) (backToKw pos (keywordEach [] X.env))) := by rfl) :
    PE X (.Call (.Attribute o m apos) (e :: es) [] pos) (tMethS C m sp (WE W) ta t) := by
  refine ⟨fun pins s σ H Q I h => ?_⟩
  refine PySem.W.methodCall_KW (pl := pl) (thn (he.run pins s σ H _ I h) fun u s1 ⟨x, H1, I1, rx, a, dx, fs, ex, ea, l, q⟩ => ?_) ht
  subst ex
  obtain rfl : u = Value.ref a := rx
  refine getmeth_ok I1 ea c hm l ?_
  refine PySem.W.callWith_K (first := [.ref a]) (h₀ := X.base) I.ok.mod.kin hm.kp (thn (ha.run pos pins s1 σ H1 _ I1 q) fun us s2 ⟨vs, H2, I2, r, q2⟩ => ⟨I2.kIn, ?_⟩) hst hpl
  exact run_fnG (us := .ref a :: us) (vs := .ref a :: vs) F gd hr hb hx I2 (.cons rfl r) q2
theorem pe_meth0G {pl : Sem Bool} (he : PE X o ta) (c : Cls X.K C) (hm : Meth X.K C m f) (F : FnG X.prog X.w X.K X.mg X.base k f fd ps sp) (gd : X.A.guards = some []) (hr : Room k X.A) (hb : Binds X.K fd ps []) (hx : ∀ σ, PassesAt (L2.CX X.prog X.w) X σ (WE W σ))
    (ht : eval (.Call (.Attribute o m apos) [] [] pos) X.env = (do
      let ov ← eval o X.env
      standAt apos.atName
      let (f, first) ← holding [ov] (getMethod ov m pl)
      callWith pos f first (backTo pos (starEach [] X.env)) (backToKw pos (keywordEach [] X.env))) := by rfl) :
    PE X (.Call (.Attribute o m apos) [] [] pos) (tMethS C m sp (WE W) ta tNil) := by
  refine ⟨fun pins s σ H Q I h => ?_⟩
  refine PySem.W.methodCall_KW (pl := pl) (thn (he.run pins s σ H _ I h) fun u s1 ⟨x, H1, I1, rx, a, dx, fs, ex, ea, l, q⟩ => ?_) ht
  subst ex
  obtain rfl : u = Value.ref a := rx
  refine getmeth_ok I1 ea c hm l ?_
  exact PySem.W.callWith_K0 (first := [.ref a]) I1.kIn hm.kp (run_fnG (us := [.ref a]) (vs := [.ref a]) F gd hr hb hx I1 (.cons rfl .nil) q)
theorem guards_make {A : Around} {C : Addr} {us : List Value} {kw : List (Str × Value)} (gd : A.guards = some []) : (A.under (.builtin "type.__call__" ⟨.ref C :: us, kw⟩)).guards = some [] := gd
theorem guards_in1 {A : Around} (gd : A.guards = some []) : A.in1.guards = some [] := gd
theorem run_makeG {pins : List (Addr × Obj)} {σ : L2.St} {H : Hp} {s : Shared} {Q : VK} {us : List Value} {vs : List V} (M : Mk X.K C f) (F : FnG X.prog X.w X.K X.mg X.base k f fd ps sp) (gd : X.A.guards = some []) (hr : Room (k + 1) X.A) (hb : Binds X.K fd ps [])
    (hx : ∀ σ, PassesAt (L2.CX X.prog X.w) X σ (WE W σ)) (I : Inv X pins σ H s) (r : Vals vs us)
    (h : ∀ x dx, H x = none → H dx = none → dx ≠ x → sp (.ref x :: vs) (upd (upd H dx (.own x)) x (.ins C dx [])) (fun v H2 => v = .non ∧ Q (.ref x) H2) (WE W σ)) :
    wpAny (model X.prog X.w) X.A (call (.ref C) us) (EP X pins σ Q) X.xe s := by
  have hq := h (s.heap.objs.size + 1) s.heap.objs.size (I.hok.fresh (Nat.le_succ _)) (I.hok.fresh (Nat.le_refl _)) (Nat.ne_of_lt (Nat.lt_succ_self _))
  have I2 := Inv.made (C := C) I
  have r2 : Vals (V.ref (s.heap.objs.size + 1) :: vs) (Value.ref (s.heap.objs.size + 1) :: us) := .cons rfl r
  have hl : (Value.ref (s.heap.objs.size + 1) :: us).length = ps.length := by
    have e := r2.length
    rw [F.len _ _ _ _ hq] at e
    exact e.symm
  have bb := hb _ (Value.ref (s.heap.objs.size + 1) :: us) I2.kIn ((congrArg List.length (List.append_nil _)).trans hl)
  rw [List.append_nil] at bb
  refine wpAny_call (make_map (f := f) I.kIn M.makes M.init (beq_iff_eq.mp M.fn) (codeAny_mono (F.go _ X.stack _ _ ⟨Value.ref (s.heap.objs.size + 1) :: us, []⟩ (Value.ref (s.heap.objs.size + 1) :: us) _ _ (WE W σ) (guards_make gd) (hr.make C us [])
    (I2.env0.make C us []) bb r2 hq) fun r s' hq' => ?_))
  cases r with
  | error e => exact hx σ pins _ _ e s' I2 hq'
  | ok fl =>
    cases fl with
    | ret u =>
      obtain ⟨v, H', I3, rv, ev, q3⟩ := I2.after hq'
      subst ev
      exact ⟨rv, ⟨V.ref (s.heap.objs.size + 1), H', I3, rfl, q3⟩⟩
    | next => exact False.elim hq'
    | brk => exact False.elim hq'
    | cont => exact False.elim hq'
theorem pe_makeG (M : Mk X.K C f) (F : FnG X.prog X.w X.K X.mg X.base k f fd ps sp) (gd : X.A.guards = some []) (hr : Room (k + 1) X.A) (hm : X.mg x = some (.ref C)) (hb : Binds X.K fd ps []) (hx : ∀ σ, PassesAt (L2.CX X.prog X.w) X σ (WE W σ)) (ha : PA X (e :: es) t)
    (hg : Gl X x := by rfl) (hdb : (x == ("__debug__" : Str)) = false := by decide) (he : starEach (e :: es) X.env = (false, eval e X.env) :: starEach es X.env := by rfl) (hpl : (backTo pos (starEach es X.env)).any (·.1) = false := by rfl) :
    PE X (.Call (.Name x pp) (e :: es) [] pos) (tMakeS C sp (WE W) t) := by
  refine ⟨fun pins s σ H Q I h => ?_⟩
  refine wpAny_Call_Name_kw (ld_glob I hg hm ?_ hdb)
  refine PySem.W.callWith_K (h₀ := X.base) I.ok.mod.kin M.kp (thn (ha.run pos pins s σ H _ I h) fun us s1 ⟨vs, H1, I1, r, q⟩ => ⟨I1.kIn, ?_⟩) he hpl
  exact run_makeG M F gd hr hb hx I1 r q
theorem pe_propG (he : PE X e ta) (c : Cls X.K C) (hp : PropOf X.K C m p g) (F : FnG X.prog X.w X.K X.mg X.base k g fd ps sp) (gd : X.A.guards = some []) (hr : Room (k + 1) X.A) (hb : Binds X.K fd ps [])
    (hab : attributeBase e m X.env (eval e X.env) = eval e X.env := by rfl) : PE X (.Attribute e m pos) (tPropS C sp (fun _ _ _ _ => False) ta) := by
  refine ⟨fun pins s σ H Q I h => ?_⟩
  refine attr_of hab (thn (he.run pins s σ H _ I h) fun u s1 ⟨x, H1, I1, rx, a, dx, fs, ex, ea, q⟩ => ?_)
  subst ex
  obtain rfl : u = Value.ref a := rx
  obtain ⟨mA, O, _, _, _, _⟩ := ins_get I1.hok ea
  obtain ⟨od, J, _⟩ := O.look
  obtain ⟨rest, hrec⟩ := hp.rec_
  have I2 := I1.tok (s1.toks + 1)
  have hl : ([Value.ref a] : List Value).length = ps.length := by
    rw [← F.len _ _ _ _ q]
    rfl
  have hc : (PySem.W.clsIn X.K C).isSome = true := by
    obtain ⟨cd, hc, _⟩ := PySem.W.any_some c.hd
    rw [hc]
    rfl
  have bb := hb { s1 with toks := s1.toks + 1 } [.ref a] I2.kIn ((congrArg List.length (List.append_nil _)).trans hl)
  rw [List.append_nil] at bb
  refine PySem.W.get_bind I1.kIn J (PySem.W.plainGet_of (c.get m)).1 (PySem.W.findObj_data hc hp.at_ hp.get hp.tak) (PySem.W.plainGet_of (c.get m)).2 (wpAny_call (PySem.W.prop_get (s := { s1 with toks := s1.toks + 1 }) I1.kIn hrec ?_))
  refine codeAny_mono (F.go X.A.in1 X.stack { s1 with toks := s1.toks + 1 } H1 ⟨[.ref a], []⟩ [.ref a] [.ref a] Q (fun _ _ _ => False) (guards_in1 gd) hr.in1 I2.env0.in1 bb (.cons rfl .nil) q) fun r s' hq => ?_
  cases r with
  | error er =>
    obtain ⟨_, _, _, _, _, _, _, _, _, _, _, _, z⟩ := hq
    exact z.elim
  | ok fl =>
    cases fl with
    | ret u =>
      obtain ⟨v, H', I3, rv, q3⟩ := I2.after hq
      show wpAny _ _ (handedOut u) _ _ _
      rw [PySem.W.handedOut_of (handed_of rv)]
      exact wpAny_pure ⟨v, H', I3, rv, q3⟩
    | next => exact False.elim hq
    | brk => exact False.elim hq
    | cont => exact False.elim hq
end
/-- a def by its body and a promise of any form -/
theorem def_okS {P : Program} {w : World} {K : PySem.W.Frag} {mg : Str → Option Value} {base : Heap} {x qual : Str} {st : Stmt} {f : Addr} {fd : FuncData} {N ps : List Str} {k : Nat} {sp : Sp} (F : Fun K x qual st f fd) (S : FnScope N ps (defScope st)) (hsl : ∀ vs H Q E, sp vs H Q E → vs.length = ps.length)
    (hbody : ∀ (cdv : Value) (A : Around) (outer : List Env) (s : Shared) (H : Hp) (vs : List V) (Q : VK) (E : XK), A.guards = some [] → Room k (A.deeper (envOfC qual (defScope st) s.heap.objs.size f cdv)) → sp vs H Q E →
      ∃ ts, PSs (cxOf (L2.CX P w) P w K mg base N qual (defScope st) f cdv A outer s H E) (defBody st) ts ∧ ts { nx := fun _ H' => Q .non H', rt := Q } (start N vs) H) : FnG P w K mg base (k + 1) f fd ps sp := by
  obtain ⟨oc, od, kV, doc, pm, an, cdv, ct, osl, rfl, lk, hcd⟩ := F.ex
  refine ⟨hsl, fun A outer s H args us vs Q E gd hr e0 hb r hsp => ?_⟩
  have hl : vs.length = ps.length := hsl _ _ _ _ hsp
  have KX : K.In s.heap := e0.mod.kin.keeps fun b o z => (e0.bs b o z).1
  have lim : s.heap.NoLimit := e0.mod.nolimit.keeps fun b o z => (e0.bs b o z).1
  have names : ∀ y ∈ ps.zip us, (defScope st).names.lookup y.1 = some .local ∨ ((defScope st).names.lookup y.1 = some .cell ∧ ((cellsFrom (s.heap.objs.size + 1) (defScope st).names []).lookup y.1).isSome = true) := fun y hy =>
    (S.par y.1 (List.of_mem_zip (a := y.1) (b := y.2) hy).1).imp id fun z => ⟨z, PySem.W.cellsFrom_some _ _ _ (.inl z)⟩
  obtain ⟨ts, B, want⟩ := hbody cdv A outer s H vs Q E gd (hr.deeper _) hsp
  refine codeAny_call_function hr.depth (KX _ _ lk) rfl S.co S.gen rfl (PySem.W.codeRec_of KX hcd) (hb _ _ _ _ (wpAny_newFunctionEnv_cells S.kind names fun env he s1 ic => ?_))
  subst he
  refine ⟨lim.keeps ic.toInCall.keep, codeAny_func (wpAny_mono (B.run [] s1 (start N vs) H _ (inv_start (CX := L2.CX P w) (E := E) S hr.hd e0 hl r ic) want) (fun fl s' z => ?_) fun _ _ z => z)⟩
  match fl, z with
  | .ret u, ⟨v, σ', H', J, rv, q⟩ => exact ⟨v, H', J.os, J.bare, J.base, J.hok, rv, q⟩
  | .next, ⟨σ', H', J, q⟩ => exact ⟨V.non, H', J.os, J.bare, J.base, J.hok, rfl, q⟩
  | .brk, ⟨_, _, _, q⟩ => exact q.elim
  | .cont, ⟨_, _, _, q⟩ => exact q.elim
end Mi

/-! Mj2: enumerate(t, start=k) over a tuple. -/
namespace L2
open PySem PySem.Spec PyProof.Rows

section
variable {M : Model} {A : Around} {E : Value → Shared → Prop} {s : Shared}
theorem callWith_type_kwB {pos : Pos} {T : String} {first : List Value} {args : List (Bool × Sem Value)} {keywords : List (Option Str × Sem Value)} {Q : Value → Shared → Prop}
    (hplain : args.any (·.1) = false) (hkw : keywords.any (·.1.isNone) = false)
    (h : wpAny M A (evalArgs (.type T) true args keywords) (fun a s₁ => wpAny M A (call (.type T) (first ++ a.pos) a.kw) Q E s₁) E s) :
    wpAny M A (callWith pos (.type T) first args keywords) Q E s := by
  unfold callWith
  refine wpAny_bind (wpAny_holding (wpAny_mono h (fun a s₁ h₁ => wpAny_bind (wpAny_standAt ?_)) fun _ _ x => x))
  simp only [hplain, hkw, Bool.or_false]
  refine wpAny_bind (wpAny_pure ?_)
  exact wpAny_bind (wpAny_mono h₁ (fun r s₂ hr => wpAny_bind (wpAny_holding (wpAny_point (wpAny_pure hr)))) fun _ _ x => x)
theorem callWith_type1kw {env : Env} {pos : Pos} {T : String} {e : Expr} {k : Str} {ke : Expr} {kp : Pos} {Q : Value → Shared → Prop}
    (h : wpAny M A (spliced (backTo pos (starEach [e] env))) (fun vs s₁ => wpAny M A (eval ke env) (fun kv s₂ => wpAny M A (call (.type T) vs [(k, kv)]) Q E s₂) E s₁) E s)
    (he : backTo pos (starEach [e] env) = [(false, eval e env)]) :
    wpAny M A (callWith pos (.type T) [] (backTo pos (starEach [e] env)) (backToKw pos (keywordEach [⟨some k, ke, kp⟩] env))) Q E s := by
  refine callWith_type_kwB (by rw [he]; rfl) rfl ?_
  rw [he] at h ⊢
  refine evalArgs_kwB rfl (wpAny_mono h (fun vs s₁ h₁ => ?_) fun _ _ x => x)
  exact kws_cons (wpAny_mono h₁ (fun v s₂ h₂ => kws_nil h₂) fun _ _ x => x)
end

/-- the tuple at a, numbered from c -/
def Itek (K : PySem.W.Frag) (c : Int) (a : Addr) : It :=
  ⟨fun i H => ∃ (xs : List V) (x : V), SqT K H a xs ∧ xs[i]? = some x, fun i H v H' => ∃ T x, v = .ref T ∧ H T = none ∧ H' = upd H T (.tup [.int (c + (i : Nat)), x]) ∧ ∀ xs, SqT K H a xs → xs[i]? = some x, fun i H => ∃ xs : List V, SqT K H a xs ∧ xs.length ≤ i⟩
theorem turn_enumk {P : Program} {w : World} {K : PySem.W.Frag} {elts : List Expr} {kk : Nat} {tpos : Pos} (c : Int) (a e it : Addr) :
    Turn P w K (.Tuple elts kk tpos) (Itek K c a) [e, it] e (fun i h => (∃ old, IsEnum h e it (c + ((i : Nat) : Int)) old) ∧ h.IsTupleIter it a i ∧ e ≠ it ∧ a ≠ it ∧ e ≠ a) where
  mem := by simp
  obj := fun i h st b hb => by
    obtain ⟨⟨old, he⟩, ⟨o, ho, hc, hd⟩, _⟩ := st
    have e' : b = e ∨ b = it := by simpa using hb
    rcases e' with z | z
    · rw [z]; exact ⟨_, he, fun v q => nomatch q⟩
    · rw [z]; exact ⟨o, ho, fun v q => by rw [hd] at q; cases q⟩
  keep := fun i h h' st k => let ⟨⟨old, he⟩, hi, hne⟩ := st; ⟨⟨old, k e (by simp) _ he⟩, hi.at fun o q => k it (by simp) o q, hne⟩
  item := by
    intro X hP hw hK hc i pins s σ H E I hf st hg
    subst hP hw hK
    obtain ⟨⟨old, he⟩, hit, hne, hai, hea⟩ := st
    obtain ⟨xs, x, hq, hx⟩ := hg
    obtain ⟨its, rv, p, hz⟩ := I.tuple hq
    obtain ⟨u, hu, ru⟩ := rv.get hx
    have hel : e < s.heap.objs.size := Heap.lt_size he
    have hil : it < s.heap.objs.size := by obtain ⟨_, q, _⟩ := hit; exact Heap.lt_size q
    have hil2 : i < its.toArray.size := by
      have q := List.getElem?_eq_some_iff.mp hu
      obtain ⟨q, _⟩ := q
      simpa using q
    refine wpAny_pyNext_enum_itemC (Draws.tuple (A := X.A.in1) (I.ok.hd hc) it a hai its.toArray) he (St := _) ⟨hit, p⟩ hil2 hne (by simp [hne, hea]) fun y h' tk hy ho hit' hT hsz hk => ?_
    have eyu : y = u := by
      have q : its[i]? = some y := by simpa using hy
      rw [hu] at q
      cases q
      rfl
    subst eyu
    refine ⟨_, rfl, wpAny_letOwnedTupleGo_enum (s := { s with heap := h', toks := tk + 1 }) ho fun h'' he' sb => ?_⟩
    have hT2 : h''.get? s.heap.objs.size = some { cls := .type "tuple", data := .seq #[.int (c + ((i : Nat) : Int)) tk, y] } := (sb.2 _ (Nat.ne_of_gt hel)).trans hT
    have new : ObjOk X.prog X.w (upd H s.heap.objs.size (.tup [.int (c + ((i : Nat) : Int)), x])) h'' s.heap.objs.size (.tup [.int (c + ((i : Nat) : Int)), x]) :=
      ⟨by show 2 ≤ sizeLine; decide, [.int (c + ((i : Nat) : Int)) tk, y], .cons ⟨_, rfl⟩ (.cons ru .nil), ⟨_, hT2, rfl, _, rfl⟩⟩
    have I1 : Inv X pins σ (upd H s.heap.objs.size (.tup [.int (c + ((i : Nat) : Int)), x])) { s with heap := h'', toks := tk + 1 } :=
      I.turnedNew (ch := [e, it]) (fun b ob hb q => (sb.2 b (fun z => hb (by simp [z]))).trans (hk b ob (fun z => hb (by simp [z])) (fun z => hb (by simp [z])) q)) hf (Nat.le_refl _) new
    refine ⟨.ref s.heap.objs.size, _, I1, rfl, ⟨_, x, rfl, I.hok.fresh (Nat.le_refl _), rfl, fun ys hy => by rw [I.tuple_inj hy hq]; exact hx⟩, ⟨⟨y, ?_⟩, hit'.1.at fun o q => (sb.2 it (Ne.symm hne)).trans q, hne, hai, hea⟩, fun b hb => ?_⟩
    · have e1 : c + ((i + 1 : Nat) : Int) = c + (i : Int) + 1 := by omega
      rw [e1]; exact he'
    · have hb' : b < s.heap.objs.size := by
        have e' : b = e ∨ b = it := by simpa using hb
        rcases e' with z | z
        · rw [z]; exact hel
        · rw [z]; exact hil
      rw [upd_ne (Nat.ne_of_lt hb')]
      exact (hf b hb).1
  done := by
    intro X hP hw hK hc i pins s σ H E I hf st hg
    subst hP hw hK
    obtain ⟨⟨old, he⟩, hit, hne, hai, hea⟩ := st
    obtain ⟨xs, hq, hx⟩ := hg
    obtain ⟨its, rv, p, hz⟩ := I.tuple hq
    obtain ⟨f0, f1, f2, f3, f4, f5⟩ := hf it (by simp)
    have hl := rv.length
    have hn : its.toArray[i]? = none := by simp; omega
    have D : Draws X.prog X.w X.A.in1 it [it, a] i (fun _ _ => False) (fun j h => j = i ∧ h.IsTupleIter it a i ∧ h.IsTuple a its.toArray) :=
      { live := fun _ _ st => let ⟨o, ho, _⟩ := st.2.1; ⟨o, ho⟩
        frame := fun _ _ _ st hk => ⟨st.1, st.2.1.at fun o e => hk it (by simp) o e, st.2.2.at fun o e => hk a (by simp) o e⟩
        item := fun j s Q E hj st _ => by
          have q := st.1
          omega
        done := fun s Q E st hE => wpAny_nextOf_tuple_end (I.ok.hd hc) st.2.1 st.2.2 hn hE }
    exact wpAny_pyNext_enum_endD D he ⟨rfl, hit, p⟩ fun h' eb => ⟨rfl, I.turned (t' := s.toks) (fun b o hb q => eb b o hb q) f0 f1 f3 f4 f5⟩
  self := fun A i s Q E st h => let ⟨⟨_, he⟩, _⟩ := st; wpAny_pyIter_enum he h
def iEnumk (K : PySem.W.Frag) (ta : TA) (tk : TE) : TI := fun σ H R => ta σ H fun vs H1 => tk σ H1 fun x H2 => ∃ a xs c, vs = [.ref a] ∧ x = .int c ∧ -(2 ^ 63) ≤ c ∧ c < 2 ^ 63 ∧ SqT K H2 a xs ∧ R (Itek K c a) H2
theorem pi_enumk {X : Cx} {e ke : Expr} {ta : TA} {tk : TE} {p pos tpos kp : Pos} {elts : List Expr} {kk : Nat} (hg : Gl X "enumerate") (hm : X.mg "enumerate" = none) (ha : PA X [e] ta) (hk : PE X ke tk) (hs : backTo pos (starEach [e] X.env) = [(false, eval e X.env)] := by rfl) :
    PI X (.Tuple elts kk tpos) (.Call (.Name "enumerate" p) [e] [⟨some "start", ke, kp⟩] pos) (iEnumk X.K ta tk) := by
  refine ⟨fun pins s σ H R I h => ?_⟩
  refine wpAny_Call_Name_kw (ld_blt I hg hm boot_enumerate (callWith_type1kw (thn (ha.run pos pins s σ H _ I h) fun us s1 ⟨vs, H1, I1, r1, q1⟩ => ?_) hs))
  have sv := I1
  refine thn (hk.run pins s1 σ H1 _ I1 q1) fun kv s2 ⟨x, H2, I2, rx, q2⟩ => ?_
  obtain ⟨a, xs, c, ex, rfl, c0, c1, hq, q⟩ := q2
  subst ex
  cases r1 with
  | cons r rr =>
    cases rr
    cases r
    obtain ⟨t, rfl⟩ := rx
    obtain ⟨its, rv, p', hz⟩ := I2.tuple hq
    refine enum_begins_start (begins_tuple a its.toArray) p' c0 c1 fun h' he hit hsz hk => wpAny_pyIter_enum he ?_
    have I3 : Inv X pins σ H2 { s2 with heap := h' } := I2.kept (t' := s2.toks) hk
    have hal : a < s2.heap.objs.size := by obtain ⟨_, q, _⟩ := p'; exact Heap.lt_size q
    refine ⟨s2.heap.objs.size + 1, [s2.heap.objs.size + 1, s2.heap.objs.size], _, _, H2, rfl, I3, turn_enumk c a (s2.heap.objs.size + 1) s2.heap.objs.size, ⟨⟨.none, by simpa using he⟩, ⟨_, hit, rfl, rfl⟩, Nat.succ_ne_self _, Nat.ne_of_lt hal, fun z => ?_⟩, fun b hb => ?_, q⟩
    · have z : (s2.heap.objs.size + 1 : Nat) = a := z
      exact absurd (z ▸ hal : s2.heap.objs.size + 1 < s2.heap.objs.size) (Nat.not_lt.mpr (Nat.le_succ _))
    · have e' : b = s2.heap.objs.size + 1 ∨ b = s2.heap.objs.size := by simpa using hb
      have hle : s2.heap.objs.size ≤ b := by
        rcases e' with z | z
        · rw [z]; exact Nat.le_add_right _ _
        · rw [z]; exact Nat.le_refl _
      exact I2.fpOk hle (I2.hok.fresh hle)
end L2
namespace Mi
open PySem PySem.Spec PyProof.Rows L2
def numberedI (c : Int) : List D → List D
  | [] => []
  | d :: ds => .tuple [.int c, d] :: numberedI (c + 1) ds
theorem numberedI_len : ∀ (c : Int) (ds : List D), (numberedI c ds).length = ds.length
  | _, [] => rfl
  | c, d :: ds => congrArg (· + 1) (numberedI_len (c + 1) ds)
theorem numberedI_get : ∀ (c : Int) (ds : List D) (i : Nat) (d : D), ds[i]? = some d → (numberedI c ds)[i]? = some (.tuple [.int (c + (i : Nat)), d])
  | _, [], i, d, h => by simp at h
  | c, x :: ds, 0, d, h => by
    simp at h
    subst h
    simp [numberedI]
  | c, x :: ds, i + 1, d, h => by
    have h : ds[i]? = some d := by simpa using h
    have e : c + 1 + (i : Int) = c + ((i + 1 : Nat) : Int) := by omega
    have q := numberedI_get (c + 1) ds i d h
    rw [e] at q
    exact q
def mIterEk (ma : Rho → Res (List Val)) (mk : Rho → Res Val) : Rho → Res (List D) := fun ρ => (ma ρ).bind fun as => (mk ρ).bind fun k => lift (match as, k with
  | [.sh (.tuple xs)], .sh (.int c) => if Nat.ble c.natAbs 1000000 then some (numberedI c xs) else none
  | _, _ => none)
theorem its_enumk {K : PySem.W.Frag} {Ga Ha : Hp} {a : Addr} {vs : List V} {xs : List D} {c : Int} (h : SqT K Ga a vs) (k : RpA K Ga vs xs) : ItS K Ga Ha (Itek K c a) (numberedI c xs) := by
  have hv : ∀ {G H : Hp}, Same Ga G → Same G H → SqT K H a vs := fun e1 e2 => same_t e2 (same_t e1 h)
  refine ⟨fun i G H e1 e2 hi => ?_, fun i G H e1 e2 hi => ⟨vs, hv e1 e2, by rw [k.length, ← numberedI_len c xs]; exact hi⟩, fun i G H x H' e1 e2 hi y => ?_⟩
  · have hi' : i < vs.length := by rw [k.length, ← numberedI_len c xs]; exact hi
    exact ⟨vs, vs[i], hv e1 e2, List.getElem?_eq_getElem hi'⟩
  · obtain ⟨T, z, rfl, nT, rfl, f⟩ := y
    obtain ⟨d, ed, rd⟩ := k.getV (f vs (hv e1 e2))
    refine ⟨_, _, numberedI_get c xs i d ed, Ext.newS e2 nT, ?_⟩
    exact Rp.tup (.inl (.inl upd_same)) (.cons (.int _) (.cons (Rp.mono (e1.trans (same_new (e2.free nT))) rd) .nil))
theorem sndi_ek {K : PySem.W.Frag} {mg : Str → Option Value} {W : WX} {ta : TA} {ma : Rho → Res (List Val)} {te : TE} {me : Rho → Res Val} (h : SndA K mg W ta ma) (h2 : Snd K mg W te me) : SndI K mg W (iEnumk K ta te) (mIterEk ma me) := by
  intro G0 H0 σ G H ρ R I q
  refine h G0 H0 σ G H ρ _ I (RR.bnd (Ext.refl I.s) q fun as G1 H1 vs ea e1 r1 h1 => ?_)
  refine h2 G0 H0 σ G1 H1 ρ _ (I.ext' e1) (RR.bnd e1 h1 fun kv G2 H2 y eb e2 r2 q2 => ?_)
  obtain ⟨xs, ex, q3⟩ := q2.lift
  split at ex
  · split at ex
    · rename_i hc
      cases ex
      obtain ⟨v, rfl, z⟩ := vrs1 r1
      have hb := Nat.le_of_ble_eq_true hc
      cases (show Rp K G1 v _ from z) with
      | tup ht k =>
        cases (show Rp K G2 y _ from r2) with
        | int =>
          have ht2 : SqT K G2 _ _ := same_t e2.g ht
          exact ⟨_, _, _, rfl, rfl, by omega, by omega, same_t e2.s ht2, q3 G2 H2 _ (e1.trans e2) (its_enumk ht2 (k.mono e2.g))⟩
    · cases ex
  · cases ex
theorem pmi_ek {X : Cx} {W : WX} {a ke : Expr} {ta : TA} {ma : Rho → Res (List Val)} {te : TE} {me : Rho → Res Val} {p pos tpos kp : Pos} {elts : List Expr} {kk : Nat} (hm : X.mg "enumerate" = none) (h : PMA X W [a] ta ma) (h2 : PM X W ke te me) (hg : Gl X "enumerate" := by rfl) (hs : backTo pos (starEach [a] X.env) = [(false, eval a X.env)] := by rfl) : PMI X W (.Tuple elts kk tpos) (.Call (.Name "enumerate" p) [a] [⟨some "start", ke, kp⟩] pos) (iEnumk X.K ta te) (mIterEk ma me) := ⟨pi_enumk hg hm h.p h2.p hs, sndi_ek h.s h2.s⟩
end Mi

/-! Mj3: x in l, l.index(x) where the items are lists. -/
namespace Mi
open PySem PySem.Spec PyProof.Rows L2
def litD : Val → Option (List D)
  | .sh (.list xs) => some xs
  | .ow xs => some xs
  | .bw xs => some xs
  | .fz xs => some xs
  | _ => none
theorem litD_dat {a : Val} {xs : List D} (h : litD a = some xs) : dat a = some (.list xs) := by
  unfold litD at h
  split at h <;> first | (cases h; rfl) | cases h
def oInD : Val → Val → Option Val := fun a b => match dat a, litD b with
  | some d, some xs => if (SeqAt.shaped d && SeqAt.shaped (.list xs)) = true then some (.sh (.bool (xs.any fun z => PyData.eqv z d))) else none
  | _, _ => none
theorem os_inD {K : PySem.W.Frag} : OpS K (rInD K) oInD := by
  intro B G H x y a b c Q s ha hb e q
  unfold oInD at e
  split at e
  · split at e
    · rename_i d xs e1 e2 hl
      cases e
      rw [Bool.and_eq_true] at hl
      exact ⟨d, xs, ha.dp s e1 (noDict_shaped hl.1), hb.dp s (litD_dat e2) (noDict_shaped hl.2), hl.1, hl.2, q G H _ (Ext.refl s) (.bl _)⟩
    · cases e
  · cases e
def kIndexD : Val → List Val → Option Val := fun o as => match litD o, as with
  | some xs, [a] => match dat a with
    | some d => if (SeqAt.shaped d && SeqAt.shaped (.list xs)) = true then (firstAt d xs).map fun j => .sh (.int (j : Nat)) else none
    | none => none
  | _, _ => none
theorem ks_indexD {K : PySem.W.Frag} : MethS K (rIndexD K) kIndexD := by
  intro B G H x o vs as c Q s ho ha e q
  unfold kIndexD at e
  split at e
  · rename_i xs a e1
    split at e
    · rename_i d e2
      split at e
      · rename_i hl
        rw [Bool.and_eq_true] at hl
        cases ej : firstAt d xs with
        | none =>
          rw [ej] at e
          cases e
        | some j =>
          rw [ej] at e
          cases e
          obtain ⟨y, rfl, hy⟩ := vrs1 ha
          obtain ⟨⟨z, h1, h2⟩, h3⟩ := firstAt_ok ej
          have hx := ho.dp s (litD_dat e1) (noDict_shaped hl.2)
          have hx' := hx
          cases hx with
          | lst hs ha' =>
            exact ⟨_, y, d, xs, j, z, rfl, rfl, hx', hy.dp s e2 (noDict_shaped hl.1), hl.2, hl.1, h1, h2, h3, q G H _ (Ext.refl s) (Rp.int _)⟩
      · cases e
    · cases e
  · cases e
theorem units65 {k : Nat} {A : Around} (r : Room k A) : A.units + 65 < cLine := by have := r.un; omega
theorem op_inDK {X : Cx} {K : PySem.W.Frag} (hu : X.A.units + 65 < cLine) (h : X.K = K := by rfl) : OpR X (compareOp .In) (rInD K) := h ▸ op_inD hu
theorem mt_indexDK {X : Cx} {K : PySem.W.Frag} (hu : X.A.units + 65 < cLine) (h : X.K = K := by rfl) : MtR X "list.index" (rIndexD K) := h ▸ mt_indexD hu
end Mi

/-! Effects: one list of the def's (its slot i) that a callee may change. -/
namespace Mi
open PySem PySem.Spec PyProof.Rows L2

structure ExtE (p : Addr) (G H G' H' : Hp) : Prop where
  h : ∀ b x, b ≠ p → H b = some x → H' b = some x
  g : Same G G'
  s : Same G' H'
  n : ∀ b, H b ≠ none → G b = none → G' b = none
def Cel (K : PySem.W.Frag) (p : Addr) (G H : Hp) (xs : List D) : Prop := ∃ us, H p = some (.lst us) ∧ G p = none ∧ RpA K G us xs
theorem Cel.ne {K : PySem.W.Frag} {p : Addr} {G H : Hp} {xs : List D} (c : Cel K p G H xs) : H p ≠ none := by
  obtain ⟨us, h, _⟩ := c
  rw [h]
  exact Option.some_ne_none _
theorem ExtE.refl {p : Addr} {G H : Hp} (s : Same G H) : ExtE p G H G H := ⟨fun _ _ _ h => h, Same.refl _, s, fun _ _ h => h⟩
theorem Ext.toE {p : Addr} {G H G' H' : Hp} (e : Ext G H G' H') : ExtE p G H G' H' := ⟨fun b x _ h => e.h b x h, e.g, e.s, e.n⟩
theorem ExtE.ne {p : Addr} {G H G' H' : Hp} (e : ExtE p G H G' H') (hp : H' p ≠ none) {b : Addr} (h : H b ≠ none) : H' b ≠ none := by
  by_cases hb : b = p
  · rw [hb]
    exact hp
  · cases q : H b with
    | none => exact absurd q h
    | some x =>
      rw [e.h b x hb q]
      exact Option.some_ne_none _
theorem ExtE.trans {p : Addr} {G H G1 H1 G2 H2 : Hp} (a : ExtE p G H G1 H1) (hp : H1 p ≠ none) (b : ExtE p G1 H1 G2 H2) : ExtE p G H G2 H2 :=
  ⟨fun c x n h => b.h c x n (a.h c x n h), a.g.trans b.g, b.s, fun c h g => b.n c (a.ne hp h) (a.n c h g)⟩
theorem ExtE.free {p : Addr} {G H G' H' : Hp} (e : ExtE p G H G' H') (hp : H' p ≠ none) {b : Addr} (h : H' b = none) : H b = none := by
  cases q : H b with
  | none => rfl
  | some x => exact absurd h (e.ne hp (by rw [q]; exact Option.some_ne_none _))
theorem Cel.ext {K : PySem.W.Frag} {p : Addr} {G H G' H' : Hp} {xs : List D} (c : Cel K p G H xs) (e : Ext G H G' H') : Cel K p G' H' xs := by
  obtain ⟨us, a, b, k⟩ := c
  exact ⟨us, e.h _ _ a, e.n p (by rw [a]; exact Option.some_ne_none _) b, k.mono e.g⟩
theorem VR.backF {K : PySem.W.Frag} {B B' G H : Hp} {v : V} {r : Val} (e : ∀ b, B' b = none → B b = none) (h : VR K B' G H v r) : VR K B G H v r := by
  cases r with
  | sh d => exact h
  | ow xs =>
    obtain ⟨p, vs, a, b, c, d, k⟩ := h
    exact ⟨p, vs, a, b, c, e _ d, k⟩
  | bw xs => exact h
  | fz xs => exact h
  | io xs => exact h
  | ob o p C fs => exact h.up (fun _ z => e _ z) (fun _ _ z => z) (Same.refl _) fun _ _ _ _ z => z
theorem esc_oneE {K : PySem.W.Frag} {p : Addr} {Gs Hs G H : Hp} {v : V} {r : Val} {d : D} {xs : List D} (e : ExtE p Gs Hs G H) (hp : Hs p ≠ none) (c : Cel K p G H xs) (h : VW K Hs G H v r) (he : esc r = some d) : ∃ G', ExtE p Gs Hs G' H ∧ Same G G' ∧ Rp K G' v d ∧ Cel K p G' H xs := by
  cases r with
  | sh d' =>
    cases he
    exact ⟨G, e, Same.refl _, h, c⟩
  | ow ys =>
    cases he
    obtain ⟨q, vs, rfl, b, f, k⟩ := h
    have nq : q ≠ p := fun z => hp (z ▸ f)
    cases g : G q with
    | none =>
      have s : Same G (upd G q (.lst vs)) := same_new g
      refine ⟨upd G q (.lst vs), ⟨e.h, e.g.trans s, fun b' u z => ?_, fun b' hb' gb' => ?_⟩, s, .lst upd_same (k.mono s), ?_⟩
      · by_cases hb : b' = q
        · subst hb
          rw [upd_same] at z
          rw [← z]
          exact b
        · rw [upd_ne hb] at z
          exact e.s _ _ z
      · have z : b' ≠ q := fun z => hb' (z ▸ f)
        rw [upd_ne z]
        exact e.n b' hb' gb'
      · obtain ⟨us, c1, c2, c3⟩ := c
        exact ⟨us, c1, by rw [upd_ne (Ne.symm nq)]; exact c2, c3.mono s⟩
    | some o =>
      have z := e.s _ _ g
      rw [b] at z
      cases z
      exact ⟨G, e, Same.refl _, .lst g k, c⟩
  | bw xs => cases he
  | fz xs => cases he
  | io xs => cases he
  | ob o p C fs => cases he

/-! ### the slot -/
def ioGet (i : Nat) (ρ : Rho) : Option (List D) := match ρ[i]? with
  | some (some (.ow xs)) => some xs
  | some (some (.io xs)) => some xs
  | _ => none
def ioPut (i : Nat) (ys : List D) (ρ : Rho) : Rho := match ρ[i]? with
  | some (some (.ow _)) => ρ.set i (some (.ow ys))
  | some (some (.io _)) => ρ.set i (some (.io ys))
  | _ => ρ
theorem ioGet_inv {i : Nat} {ρ : Rho} {xs : List D} (e : ioGet i ρ = some xs) : ρ[i]? = some (some (.ow xs)) ∨ ρ[i]? = some (some (.io xs)) := by
  unfold ioGet at e
  split at e
  · rename_i h
    cases e
    exact .inl h
  · rename_i h
    cases e
    exact .inr h
  · cases e
theorem ioGet_put {i : Nat} {ρ : Rho} {xs ys : List D} (e : ioGet i ρ = some xs) : ioGet i (ioPut i ys ρ) = some ys := by
  rcases ioGet_inv e with h | h
  · have hl := (List.getElem?_eq_some_iff.mp h).1
    have : ioPut i ys ρ = ρ.set i (some (.ow ys)) := by
      unfold ioPut
      rw [h]
    rw [this]
    unfold ioGet
    rw [List.getElem?_set, if_pos rfl, if_pos hl]
  · have hl := (List.getElem?_eq_some_iff.mp h).1
    have : ioPut i ys ρ = ρ.set i (some (.io ys)) := by
      unfold ioPut
      rw [h]
    rw [this]
    unfold ioGet
    rw [List.getElem?_set, if_pos rfl, if_pos hl]
section
variable {K : PySem.W.Frag} {G0 : Bs} {H0 G H G' H' : Hp} {σ : L2.St} {ρ : Rho} {i : Nat} {p : Addr} {xs ys : List D}
theorem EnvS.cell (I : EnvS K G0 H0 σ G H ρ) (e : ioGet i ρ = some xs) (hv : σ[i]? = some (some (.ref p))) : Cel K p G H xs ∧ H0 p = none := by
  rcases ioGet_inv e with h | h
  · obtain ⟨v, hv', q, vs, rfl, a, b, c, k⟩ := I.slot i _ h
    rw [hv] at hv'
    cases hv'
    exact ⟨⟨vs, a, b, k⟩, c⟩
  · obtain ⟨v, hv', q, vs, rfl, a, b, c, k⟩ := I.slot i _ h
    rw [hv] at hv'
    cases hv'
    exact ⟨⟨vs, a, b, k⟩, c⟩
theorem EnvS.at_ (I : EnvS K G0 H0 σ G H ρ) (e : ioGet i ρ = some xs) : ∃ p, σ[i]? = some (some (.ref p)) := by
  rcases ioGet_inv e with h | h
  · obtain ⟨v, hv, q, vs, rfl, _⟩ := I.slot i _ h
    exact ⟨q, hv⟩
  · obtain ⟨v, hv, q, vs, rfl, _⟩ := I.slot i _ h
    exact ⟨q, hv⟩
/-- the effect on the slots -/
theorem EnvS.eff (I : EnvS K G0 H0 σ G H ρ) (e : ioGet i ρ = some xs) (hv : σ[i]? = some (some (.ref p))) (x : ExtE p G H G' H') (c : Cel K p G' H' ys) : EnvS K G0 H0 σ G' H' (ioPut i ys ρ) := by
  obtain ⟨⟨us0, c1, c2, c3⟩, h0⟩ := I.cell e hv
  have main : ∀ (r : Val), (r = .ow ys ∧ ρ[i]? = some (some (.ow xs))) ∨ (r = .io ys ∧ ρ[i]? = some (some (.io xs))) → EnvS K G0 H0 σ G' H' (ρ.set i (some r)) := by
    intro r hr
    have ow : ∃ r0, ρ[i]? = some (some r0) ∧ owned r0 = true := by
      rcases hr with ⟨_, h⟩ | ⟨_, h⟩
      · exact ⟨_, h, rfl⟩
      · exact ⟨_, h, rfl⟩
    obtain ⟨r0, e0, o0⟩ := ow
    refine ⟨⟨fun b u z => ?_, I.ext.g.trans x.g, x.s, fun b hb gb => ?_⟩, fun j zs hj => ?_, ?_, fun j s hj => ?_, fun j l q r1 r2 hj hl o1 o2 sj sl => ?_⟩
    · have nb : b ≠ p := fun w => by
        rw [w, h0] at z
        cases z
      exact x.h b u nb (I.ext.h _ _ z)
    · exact x.n b (ne_none_of I.ext.h hb) (I.ext.n b hb gb)
    · rcases set_get hj with ⟨rfl, e2, _⟩ | ⟨ne, e2⟩
      · cases e2
        rcases hr with ⟨h, _⟩ | ⟨_, h⟩
        · cases h
        · exact I.pin _ _ h
      · exact I.pin j zs e2
    · rw [List.length_set]
      exact I.len
    · rcases set_get hj with ⟨rfl, e2, hl⟩ | ⟨ne, e2⟩
      · cases e2
        refine ⟨_, hv, ?_⟩
        obtain ⟨us, d1, d2, d3⟩ := c
        rcases hr with ⟨rfl, _⟩ | ⟨rfl, _⟩
        · exact ⟨p, us, rfl, d1, d2, h0, d3⟩
        · exact ⟨p, us, rfl, d1, d2, h0, d3⟩
      · obtain ⟨u, hu, z⟩ := I.slot j s e2
        refine ⟨u, hu, ?_⟩
        cases s with
        | sh d => exact Rp.mono x.g z
        | ow zs =>
          obtain ⟨q, ws, rfl, hq, gq, h0q, kq⟩ := z
          have nq : q ≠ p := fun w => ne (I.apart i j p _ _ e0 e2 o0 rfl hv (w ▸ hu))
          exact ⟨q, ws, rfl, x.h _ _ nq hq, x.n q (by rw [hq]; exact Option.some_ne_none _) gq, h0q, kq.mono x.g⟩
        | bw zs =>
          obtain ⟨q, ws, a, b, k⟩ := z
          exact ⟨q, ws, a, b, k.mono x.g⟩
        | fz zs =>
          obtain ⟨q, ws, a, b, k⟩ := z
          exact ⟨q, ws, a, x.g.seq b, k.mono x.g⟩
        | io zs =>
          obtain ⟨q, ws, rfl, hq, gq, h0q, kq⟩ := z
          have nq : q ≠ p := fun w => ne (I.apart i j p _ _ e0 e2 o0 rfl hv (w ▸ hu))
          exact ⟨q, ws, rfl, x.h _ _ nq hq, x.n q (by rw [hq]; exact Option.some_ne_none _) gq, h0q, kq.mono x.g⟩
        | ob o q C fs => exact ObR.up (fun _ z => z) (fun _ _ z => x.h _ _ (ins_ne z c1) z) x.g (fun _ _ _ z g => x.n q (by rw [z]; exact Option.some_ne_none _) g) z
    · have back : ∀ (j : Nat) (r' : Val), owned r' = true → (ρ.set i (some r))[j]? = some (some r') → ∃ w, owned w = true ∧ ρ[j]? = some (some w) := fun j r' o hj => by
        rcases set_get hj with ⟨rfl, _, _⟩ | ⟨_, e2⟩
        · exact ⟨_, o0, e0⟩
        · exact ⟨r', o, e2⟩
      obtain ⟨a, oa, ha⟩ := back j r1 o1 hj
      obtain ⟨b, ob, hb⟩ := back l r2 o2 hl
      exact I.apart j l q a b ha hb oa ob sj sl
  rcases ioGet_inv e with h | h
  · have : ioPut i ys ρ = ρ.set i (some (.ow ys)) := by
      unfold ioPut
      rw [h]
    rw [this]
    exact main _ (.inl ⟨rfl, h⟩)
  · have : ioPut i ys ρ = ρ.set i (some (.io ys)) := by
      unfold ioPut
      rw [h]
    rw [this]
    exact main _ (.inr ⟨rfl, h⟩)
end

/-! ### results with the list behind them -/
inductive RE (α : Type) where
  | ok (a : α) (xs : List D) | ex (n : Str) (fs : List (Str × D)) (xs : List D) | no
def RE.bind {α β : Type} : RE α → (α → List D → RE β) → RE β
  | .ok a xs, f => f a xs
  | .ex n fs xs, _ => .ex n fs xs
  | .no, _ => .no
def liftE {α : Type} (xs : List D) : Option α → RE α
  | some a => .ok a xs
  | none => .no
def RRE (K : PySem.W.Frag) (mg : Str → Option Value) (W : WX) {α β : Type} (R : Hp → Hp → Hp → β → α → Prop) (σ : L2.St) (p : Addr) (G H : Hp) (Q : β → Hp → Prop) : RE α → Prop
  | .ok r xs => ∀ G' H' v, ExtE p G H G' H' → Cel K p G' H' xs → R H G' H' v r → Q v H'
  | .ex n fs xs => ∀ G' H' C d, ExtE p G H G' H' → Cel K p G' H' xs → mg n = some (.ref C) → XR fs K d G' H' → W (.ref C) d σ H'
  | .no => False
theorem RRE.bnd {K : PySem.W.Frag} {mg : Str → Option Value} {W : WX} {α β γ δ : Type} {R1 : Hp → Hp → Hp → β → α → Prop} {R2 : Hp → Hp → Hp → δ → γ → Prop} {σ : L2.St} {p : Addr} {G H G1 H1 : Hp} {Q : δ → Hp → Prop} {Q1 : β → Hp → Prop} {m : RE α} {f : α → List D → RE γ}
    (e : ExtE p G H G1 H1) (hp : H1 p ≠ none) (h : RRE K mg W R2 σ p G H Q (m.bind f)) (k : ∀ a xs G2 H2 v, m = .ok a xs → ExtE p G1 H1 G2 H2 → Cel K p G2 H2 xs → R1 H1 G2 H2 v a → RRE K mg W R2 σ p G H Q (f a xs) → Q1 v H2) : RRE K mg W R1 σ p G1 H1 Q1 m := by
  cases m with
  | ok a xs => exact fun G2 H2 v e2 c q => k a xs G2 H2 v rfl e2 c q h
  | ex n fs xs => exact fun G' H' C d e' c a b => h G' H' C d (e.trans hp e') c a b
  | no => exact h
theorem RRE.start {K : PySem.W.Frag} {mg : Str → Option Value} {W : WX} {α β : Type} {R : Hp → Hp → Hp → β → α → Prop} {σ : L2.St} {p : Addr} {G H : Hp} {Q : β → Hp → Prop} {m : RE α} {G1 H1 : Hp} (e : ExtE p G H G1 H1) (hp : H1 p ≠ none) (bk : ∀ G' H' v r, R H1 G' H' v r → R H G' H' v r) (h : RRE K mg W R σ p G H Q m) : RRE K mg W R σ p G1 H1 Q m := by
  cases m with
  | ok a xs => exact fun G2 H2 v e2 c q => h G2 H2 v (e.trans hp e2) c (bk _ _ _ _ q)
  | ex n fs xs => exact fun G' H' C d e' c a b => h G' H' C d (e.trans hp e') c a b
  | no => exact h
theorem RRE.lift {K : PySem.W.Frag} {mg : Str → Option Value} {W : WX} {α β : Type} {R : Hp → Hp → Hp → β → α → Prop} {σ : L2.St} {p : Addr} {G H : Hp} {Q : β → Hp → Prop} {o : Option α} {xs : List D} (h : RRE K mg W R σ p G H Q (liftE xs o)) :
    ∃ a, o = some a ∧ ∀ G' H' v, ExtE p G H G' H' → Cel K p G' H' xs → R H G' H' v a → Q v H' := by
  cases o with
  | none => exact h.elim
  | some a => exact ⟨a, rfl, h⟩
abbrev RD (K : PySem.W.Frag) : Hp → Hp → Hp → List V → List D → Prop := fun _ G' _ vs ds => RpA K G' vs ds
section
variable (K : PySem.W.Frag) (mg : Str → Option Value) (W : WX) (i : Nat)
def SndE (te : TE) (me : Rho → RE Val) : Prop :=
  ∀ (G0 : Bs) (H0 : Hp) (σ : L2.St) (G H : Hp) (ρ : Rho) (Q : VK) (p : Addr) (xs : List D), EnvS K G0 H0 σ G H ρ → ioGet i ρ = some xs → σ[i]? = some (some (.ref p)) → RRE K mg W (RV K) σ p G H Q (me ρ) → te σ H Q
def SndTE (tt : TT) (me : Rho → RE Bool) : Prop :=
  ∀ (G0 : Bs) (H0 : Hp) (σ : L2.St) (G H : Hp) (ρ : Rho) (Q : Bool → Hp → Prop) (p : Addr) (xs : List D), EnvS K G0 H0 σ G H ρ → ioGet i ρ = some xs → σ[i]? = some (some (.ref p)) → RRE K mg W RB σ p G H Q (me ρ) → tt σ H Q
def SndAE (ta : TA) (me : Rho → RE (List D)) : Prop :=
  ∀ (G0 : Bs) (H0 : Hp) (σ : L2.St) (G H : Hp) (ρ : Rho) (Q : List V → Hp → Prop) (p : Addr) (xs : List D), EnvS K G0 H0 σ G H ρ → ioGet i ρ = some xs → σ[i]? = some (some (.ref p)) → RRE K mg W (RD K) σ p G H Q (me ρ) → ta σ H Q
def SndIE (wi : TI) (mi : Rho → RE (List D)) : Prop :=
  ∀ (G0 : Bs) (H0 : Hp) (σ : L2.St) (G H : Hp) (ρ : Rho) (R : It → Hp → Prop) (p : Addr) (xs : List D), EnvS K G0 H0 σ G H ρ → ioGet i ρ = some xs → σ[i]? = some (some (.ref p)) → RRE K mg W (RI K) σ p G H R (mi ρ) → wi σ H R
end
structure PME (i : Nat) (X : Cx) (W : WX) (e : Expr) (te : TE) (me : Rho → RE Val) : Prop where
  p : PE X e te
  s : SndE X.K X.mg W i te me
structure PMTE (i : Nat) (X : Cx) (W : WX) (e : Expr) (tt : TT) (me : Rho → RE Bool) : Prop where
  p : PT X e tt
  s : SndTE X.K X.mg W i tt me
structure PMWE (i : Nat) (X : Cx) (W : WX) (e : Expr) (tt : TT) (me : Rho → RE Bool) : Prop where
  p : PW X e tt
  s : SndTE X.K X.mg W i tt me
structure PMAE (i : Nat) (X : Cx) (W : WX) (es : List Expr) (ta : TA) (me : Rho → RE (List D)) : Prop where
  p : PA X es ta
  s : SndAE X.K X.mg W i ta me
structure PMIE (i : Nat) (X : Cx) (W : WX) (tg iter : Expr) (wi : TI) (mi : Rho → RE (List D)) : Prop where
  p : PI X tg iter wi
  s : SndIE X.K X.mg W i wi mi

/-! ### what has no effect -/
def toE {α : Type} (i : Nat) (me : Rho → Res α) : Rho → RE α := fun ρ => match ioGet i ρ with
  | none => .no
  | some xs => match me ρ with
    | .ok r => .ok r xs
    | .ex n fs => .ex n fs xs
    | .no => .no
theorem rr_toE {K : PySem.W.Frag} {mg : Str → Option Value} {W : WX} {i : Nat} {α β : Type} {R : Hp → Hp → Hp → β → α → Prop} {G0 : Bs} {H0 : Hp} {σ : L2.St} {G H : Hp} {ρ : Rho} {Q : β → Hp → Prop} {p : Addr} {xs : List D} {me : Rho → Res α} (I : EnvS K G0 H0 σ G H ρ) (e : ioGet i ρ = some xs) (hv : σ[i]? = some (some (.ref p)))
    (h : RRE K mg W R σ p G H Q (toE i me ρ)) : RR K mg W R σ G H Q (me ρ) := by
  have c := (I.cell e hv).1
  unfold toE at h
  rw [e] at h
  cases q : me ρ with
  | ok r =>
    simp only [q] at h
    exact fun G' H' v x z => h G' H' v x.toE (c.ext x) z
  | ex n fs =>
    simp only [q] at h
    exact fun G' H' C d x a b => h G' H' C d x.toE (c.ext x) a b
  | no =>
    simp only [q] at h
    exact h
section
variable {K : PySem.W.Frag} {mg : Str → Option Value} {W : WX} {i : Nat}
theorem sndE_pure {te : TE} {me : Rho → Res Val} (h : Snd K mg W te me) : SndE K mg W i te (toE i me) := fun G0 H0 σ G H ρ Q p xs I e hv q => h G0 H0 σ G H ρ Q I (rr_toE I e hv q)
theorem sndTE_pure {tt : TT} {me : Rho → Res Bool} (h : SndT K mg W tt me) : SndTE K mg W i tt (toE i me) := fun G0 H0 σ G H ρ Q p xs I e hv q => h G0 H0 σ G H ρ Q I (rr_toE I e hv q)

/-! ### operators -/
def mOpE (i : Nat) (mo : Val → Val → Option Val) (ma mb : Rho → RE Val) : Rho → RE Val := fun ρ => (ma ρ).bind fun a xs => match esc a with
  | some d => (mb (ioPut i xs ρ)).bind fun b ys => liftE ys (mo (.sh d) b)
  | none => .no
/-- .. the left one a name -/
def mOpV (i j : Nat) (mo : Val → Val → Option Val) (mb : Rho → RE Val) : Rho → RE Val := fun ρ => match ρ[j]? with
  | some (some _) => (mb ρ).bind fun b ys => match (ioPut i ys ρ)[j]? with
    | some (some r) => liftE ys (mo (look r) b)
    | _ => .no
  | _ => .no
variable {ta tb : TE} {ma mb : Rho → RE Val}
theorem SlotR.look {H0 G H : Hp} {v : V} {r : Val} (s0 : Same H0 H) (h : SlotR K H0 G H v r) {B : Hp} : VR K B G H v (look r) := by
  cases r with
  | sh d => exact h
  | ow xs =>
    obtain ⟨p, vs, a, b, c, d, k⟩ := h
    exact ⟨p, vs, a, b, k⟩
  | bw xs =>
    obtain ⟨p, vs, a, b, k⟩ := h
    exact ⟨p, vs, a, s0 _ _ b, k⟩
  | fz xs => exact h
  | io xs =>
    obtain ⟨p, vs, a, b, c, d, k⟩ := h
    exact ⟨p, vs, a, b, k⟩
  | ob o p C fs =>
    obtain ⟨dx, fv, a, b, _, e, k⟩ := h
    exact ⟨dx, fv, a, b, (fun z => nomatch z), e, k⟩
theorem sndE_op {r : R2} {mo : Val → Val → Option Val} (ho : OpS K r mo) (ha : SndE K mg W i ta ma) (hb : SndE K mg W i tb mb) : SndE K mg W i (tOp r ta tb) (mOpE i mo ma mb) := by
  intro G0 H0 σ G H ρ Q p xs I e hv h
  have hp0 := (I.cell e hv).1.ne
  refine ha G0 H0 σ G H ρ _ p xs I e hv (RRE.bnd (ExtE.refl I.s) hp0 h fun a xs1 G1 H1 x ea x1 c1 r1 h1 => ?_)
  split at h1
  · rename_i d ed
    obtain ⟨G2, x2, s2, k2, c2⟩ := esc_oneE x1 hp0 c1 r1.vw ed
    refine hb G0 H0 σ G2 H1 (ioPut i xs1 ρ) _ p xs1 (I.eff e hv x2 c2) (ioGet_put e) hv (RRE.bnd x2 c2.ne h1 fun b ys G3 H3 y eb x3 c3 r3 h3 => ?_)
    obtain ⟨c, ec, q⟩ := h3.lift
    have x03 := x2.trans c2.ne x3
    exact ho H1 G3 H3 x y (.sh d) b c Q x3.s (Rp.mono x3.g k2) r3 ec fun G' H' v e z => q G' H' v (x03.trans c3.ne e.toE) (c3.ext e) (z.backF fun b hb => x03.free c3.ne hb)
  · exact h1.elim
theorem sndE_opV {r : R2} {mo : Val → Val → Option Val} {j : Nat} (ho : OpS K r mo) (hb : SndE K mg W i tb mb) : SndE K mg W i (tOp r (tVar j) tb) (mOpV i j mo mb) := by
  intro G0 H0 σ G H ρ Q p xs I e hv h
  have hp0 := (I.cell e hv).1.ne
  have key : ∀ v, σ[j]? = some (some v) → RRE K mg W (RV K) σ p G H Q ((mb ρ).bind fun b ys => match (ioPut i ys ρ)[j]? with
      | some (some r) => liftE ys (mo (look r) b)
      | _ => .no) → tb σ H (fun y H' => r v y H' Q) := fun v ev h => by
    refine hb G0 H0 σ G H ρ _ p xs I e hv (RRE.bnd (ExtE.refl I.s) hp0 h fun b ys G3 H3 y eb x3 c3 r3 h3 => ?_)
    split at h3
    · rename_i r0 er
      obtain ⟨c, ec, q⟩ := h3.lift
      have J := I.eff e hv x3 c3
      obtain ⟨v', ev', sr⟩ := J.slot j _ er
      rw [ev] at ev'
      cases ev'
      exact ho H G3 H3 v y (look r0) b c Q x3.s (sr.look J.ext.h) r3 ec fun G' H' v e z => q G' H' v (x3.trans c3.ne e.toE) (c3.ext e) (z.backF fun b hb => x3.free c3.ne hb)
    · exact h3.elim
  unfold mOpV at h
  split at h
  · rename_i r er
    obtain ⟨v, ev, _⟩ := I.slot j _ er
    exact ⟨v, ev, key v ev h⟩
  · exact h.elim
end
end Mi

namespace Mi
open PySem PySem.Spec PyProof.Rows L2
section
variable {K : PySem.W.Frag} {mg : Str → Option Value} {W : WX} {i : Nat} {ta tb tc : TE} {ma mb : Rho → RE Val} {tA tB : TT} {mA mB : Rho → RE Bool} {tr : TA} {mr : Rho → RE (List D)}

/-! ### tests -/
def mTestE (ma : Rho → RE Val) : Rho → RE Bool := fun ρ => (ma ρ).bind fun a xs => liftE xs (boolOf a)
def mTruE (ma : Rho → RE Val) : Rho → RE Bool := fun ρ => (ma ρ).bind fun a xs => liftE xs (truth a)
def mAndE (i : Nat) (ma mb : Rho → RE Bool) : Rho → RE Bool := fun ρ => (ma ρ).bind fun a xs => if a = true then mb (ioPut i xs ρ) else .ok false xs
def mOrE (i : Nat) (ma mb : Rho → RE Bool) : Rho → RE Bool := fun ρ => (ma ρ).bind fun a xs => if a = true then .ok true xs else mb (ioPut i xs ρ)
def mNotE (ma : Rho → RE Bool) : Rho → RE Bool := fun ρ => (ma ρ).bind fun a xs => .ok (!a) xs
def mIfEE (i : Nat) (mc : Rho → RE Bool) (ma mb : Rho → RE Val) : Rho → RE Val := fun ρ => (mc ρ).bind fun a xs => if a = true then ma (ioPut i xs ρ) else mb (ioPut i xs ρ)
def mNegE (ma : Rho → RE Val) : Rho → RE Val := fun ρ => (ma ρ).bind fun a xs => liftE xs (match a with
  | .sh (.int i) => some (.sh (.int (-i)))
  | _ => none)
theorem truth_ok {B G H : Hp} {x : V} {a : Val} {c : Bool} (s : Same G H) (r1 : VR K B G H x a) (ec : truth a = some c) : TruV K x H c := by
  unfold truth at ec
  split at ec
  · cases ec
    cases r1.non_
    rfl
  · cases ec
    cases r1.bool_
    rfl
  · cases ec
    cases r1.int_
    rfl
  · split at ec
    · rename_i z hl
      cases ec
      cases r1.str_
      exact ⟨sz_le hl, rfl⟩
    · cases ec
  · split at ec
    · rename_i xs e2
      cases ec
      obtain ⟨p, vs, rfl, hp, k⟩ := r1.seq s e2
      have en : vs.isEmpty = xs.isEmpty := by
        cases k <;> rfl
      rw [← en]
      rcases hp with hp | hp
      · exact .inl ⟨vs, hp, rfl⟩
      · exact .inr (.inl ⟨vs, hp, rfl⟩)
    · cases ec
theorem sndE_test (ha : SndE K mg W i ta ma) : SndTE K mg W i (tTest ta) (mTestE ma) := by
  intro G0 H0 σ G H ρ Q p xs I e hv h
  have hp0 := (I.cell e hv).1.ne
  refine ha G0 H0 σ G H ρ _ p xs I e hv (RRE.bnd (ExtE.refl I.s) hp0 h fun a xs1 G1 H1 x ea x1 c1 r1 h1 => ?_)
  obtain ⟨c, ec, q⟩ := h1.lift
  exact ⟨c, boolOf_inv r1 ec, q G1 H1 c x1 c1 rfl⟩
theorem sndE_tru (ha : SndE K mg W i ta ma) : SndTE K mg W i (fun σ H Q => ta σ H fun x H' => ∃ k, TruV K x H' k ∧ Q k H') (mTruE ma) := by
  intro G0 H0 σ G H ρ Q p xs I e hv h
  have hp0 := (I.cell e hv).1.ne
  refine ha G0 H0 σ G H ρ _ p xs I e hv (RRE.bnd (ExtE.refl I.s) hp0 h fun a xs1 G1 H1 x ea x1 c1 r1 h1 => ?_)
  obtain ⟨c, ec, q⟩ := h1.lift
  exact ⟨c, truth_ok x1.s r1 ec, q G1 H1 c x1 c1 rfl⟩
theorem sndE_and (ha : SndTE K mg W i tA mA) (hb : SndTE K mg W i tB mB) : SndTE K mg W i (tAnd tA tB) (mAndE i mA mB) := by
  intro G0 H0 σ G H ρ Q p xs I e hv h
  have hp0 := (I.cell e hv).1.ne
  refine ha G0 H0 σ G H ρ _ p xs I e hv (RRE.bnd (ExtE.refl I.s) hp0 h fun a xs1 G1 H1 x ea x1 c1 r1 h1 => ?_)
  cases (show x = a from r1)
  cases a with
  | true => exact iteT (hb G0 H0 σ G1 H1 _ _ p xs1 (I.eff e hv x1 c1) (ioGet_put e) hv (RRE.start x1 c1.ne (fun _ _ _ _ z => z) h1))
  | false => exact iteF (h1 G1 H1 false x1 c1 rfl)
theorem sndE_or (ha : SndTE K mg W i tA mA) (hb : SndTE K mg W i tB mB) : SndTE K mg W i (tOr tA tB) (mOrE i mA mB) := by
  intro G0 H0 σ G H ρ Q p xs I e hv h
  have hp0 := (I.cell e hv).1.ne
  refine ha G0 H0 σ G H ρ _ p xs I e hv (RRE.bnd (ExtE.refl I.s) hp0 h fun a xs1 G1 H1 x ea x1 c1 r1 h1 => ?_)
  cases (show x = a from r1)
  cases a with
  | false => exact iteF (hb G0 H0 σ G1 H1 _ _ p xs1 (I.eff e hv x1 c1) (ioGet_put e) hv (RRE.start x1 c1.ne (fun _ _ _ _ z => z) h1))
  | true => exact iteT (h1 G1 H1 true x1 c1 rfl)
theorem sndE_not (ha : SndTE K mg W i tA mA) : SndTE K mg W i (tNot tA) (mNotE mA) := by
  intro G0 H0 σ G H ρ Q p xs I e hv h
  have hp0 := (I.cell e hv).1.ne
  refine ha G0 H0 σ G H ρ _ p xs I e hv (RRE.bnd (ExtE.refl I.s) hp0 h fun a xs1 G1 H1 x ea x1 c1 r1 h1 => ?_)
  cases (show x = a from r1)
  exact h1 G1 H1 _ x1 c1 rfl
theorem sndE_ifE (hc : SndTE K mg W i tA mA) (ha : SndE K mg W i ta ma) (hb : SndE K mg W i tb mb) : SndE K mg W i (tIf tA ta tb) (mIfEE i mA ma mb) := by
  intro G0 H0 σ G H ρ Q p xs I e hv h
  have hp0 := (I.cell e hv).1.ne
  refine hc G0 H0 σ G H ρ _ p xs I e hv (RRE.bnd (ExtE.refl I.s) hp0 h fun a xs1 G1 H1 x ea x1 c1 r1 h1 => ?_)
  cases (show x = a from r1)
  cases a with
  | true => exact iteT (ha G0 H0 σ G1 H1 _ _ p xs1 (I.eff e hv x1 c1) (ioGet_put e) hv (RRE.start x1 c1.ne (fun _ _ _ _ z => z.backF fun b hb => x1.free c1.ne hb) h1))
  | false => exact iteF (hb G0 H0 σ G1 H1 _ _ p xs1 (I.eff e hv x1 c1) (ioGet_put e) hv (RRE.start x1 c1.ne (fun _ _ _ _ z => z.backF fun b hb => x1.free c1.ne hb) h1))
theorem sndE_neg (ha : SndE K mg W i ta ma) : SndE K mg W i (tUn (rU fun i => .int (-i)) ta) (mNegE ma) := by
  intro G0 H0 σ G H ρ Q p xs I e hv h
  have hp0 := (I.cell e hv).1.ne
  refine ha G0 H0 σ G H ρ _ p xs I e hv (RRE.bnd (ExtE.refl I.s) hp0 h fun a xs1 G1 H1 x ea x1 c1 r1 h1 => ?_)
  obtain ⟨c, ec, q⟩ := h1.lift
  split at ec
  · cases ec
    exact ⟨_, r1.int_, q G1 H1 _ x1 c1 (Rp.int _)⟩
  · cases ec

/-! ### argument lists, displays, calls -/
def mNilE (i : Nat) : Rho → RE (List D) := fun ρ => match ioGet i ρ with
  | some xs => .ok [] xs
  | none => .no
def mConsE (i : Nat) (ma : Rho → RE Val) (mr : Rho → RE (List D)) : Rho → RE (List D) := fun ρ => (ma ρ).bind fun a xs => match esc a with
  | some d => (mr (ioPut i xs ρ)).bind fun ds ys => .ok (d :: ds) ys
  | none => .no
theorem sndE_nil : SndAE K mg W i tNil (mNilE i) := fun G0 H0 σ G H ρ Q p xs I e hv q => by
  unfold mNilE at q
  rw [e] at q
  exact q G H [] (ExtE.refl I.s) (I.cell e hv).1 .nil
theorem sndE_cons (ha : SndE K mg W i ta ma) (hr : SndAE K mg W i tr mr) : SndAE K mg W i (tCons ta tr) (mConsE i ma mr) := by
  intro G0 H0 σ G H ρ Q p xs I e hv h
  have hp0 := (I.cell e hv).1.ne
  refine ha G0 H0 σ G H ρ _ p xs I e hv (RRE.bnd (ExtE.refl I.s) hp0 h fun a xs1 G1 H1 x ea x1 c1 r1 h1 => ?_)
  split at h1
  · rename_i d ed
    obtain ⟨G2, x2, s2, k2, c2⟩ := esc_oneE x1 hp0 c1 r1.vw ed
    refine hr G0 H0 σ G2 H1 (ioPut i xs1 ρ) _ p xs1 (I.eff e hv x2 c2) (ioGet_put e) hv (RRE.bnd x2 c2.ne h1 fun b ys G3 H3 y eb x3 c3 r3 h3 => ?_)
    exact h3 G3 H3 (x :: y) (x2.trans c2.ne x3) c3 (.cons (k2.mono x3.g) r3)
  · exact h1.elim
def mLstE (mr : Rho → RE (List D)) : Rho → RE Val := fun ρ => (mr ρ).bind fun ds xs => liftE xs (if ds.length ≤ 100000 then some (.ow ds) else none)
def mTupE (mr : Rho → RE (List D)) : Rho → RE Val := fun ρ => (mr ρ).bind fun ds xs => liftE xs (if ds.length ≤ 100000 then some (.sh (.tuple ds)) else none)
theorem sndE_lst (hr : SndAE K mg W i tr mr) : SndE K mg W i (tLst tr) (mLstE mr) := by
  intro G0 H0 σ G H ρ Q p xs I e hv h
  have hp0 := (I.cell e hv).1.ne
  refine hr G0 H0 σ G H ρ _ p xs I e hv (RRE.bnd (ExtE.refl I.s) hp0 h fun ds xs1 G1 H1 vs ea x1 c1 r1 h1 => ?_)
  have r1 : RpA K G1 vs ds := r1
  obtain ⟨c, ec, q⟩ := h1.lift
  split at ec
  · rename_i hl
    cases ec
    refine ⟨by rw [r1.length]; exact sz_le hl, fun t ht => ?_⟩
    have ht0 : H t = none := x1.free c1.ne ht
    have en := Ext.newO (o := .lst vs) x1.s ht
    exact q G1 _ _ (x1.trans c1.ne en.toE) (c1.ext en) ⟨t, vs, rfl, upd_same, x1.s.free ht, ht0, r1⟩
  · cases ec
theorem sndE_tup (hr : SndAE K mg W i tr mr) : SndE K mg W i (tTup tr) (mTupE mr) := by
  intro G0 H0 σ G H ρ Q p xs I e hv h
  have hp0 := (I.cell e hv).1.ne
  refine hr G0 H0 σ G H ρ _ p xs I e hv (RRE.bnd (ExtE.refl I.s) hp0 h fun ds xs1 G1 H1 vs ea x1 c1 r1 h1 => ?_)
  have r1 : RpA K G1 vs ds := r1
  obtain ⟨c, ec, q⟩ := h1.lift
  split at ec
  · rename_i hl
    cases ec
    refine ⟨by rw [r1.length]; exact sz_le hl, fun t ht => ?_⟩
    have en := Ext.newS (o := .tup vs) x1.s ht
    exact q _ _ _ (x1.trans c1.ne en.toE) (c1.ext en) (Rp.tup (.inl (.inl upd_same)) (r1.mono (same_new (x1.s.free ht))))
  · cases ec
theorem vrs_sh {B G H : Hp} : ∀ {vs : List V} {ds : List D}, RpA K G vs ds → VRs K B G H vs (ds.map .sh)
  | _, _, .nil => .nil
  | _, _, .cons a b => .cons a (vrs_sh b)
def mCallE (mo : List Val → Option Val) (mr : Rho → RE (List D)) : Rho → RE Val := fun ρ => (mr ρ).bind fun ds xs => liftE xs (mo (ds.map .sh))
theorem sndE_call {r : List V → Hp → VK → Prop} {mo : List Val → Option Val} (ho : CallS K r mo) (hr : SndAE K mg W i tr mr) : SndE K mg W i (tCB r tr) (mCallE mo mr) := by
  intro G0 H0 σ G H ρ Q p xs I e hv h
  have hp0 := (I.cell e hv).1.ne
  refine hr G0 H0 σ G H ρ _ p xs I e hv (RRE.bnd (ExtE.refl I.s) hp0 h fun ds xs1 G1 H1 vs ea x1 c1 r1 h1 => ?_)
  have r1 : RpA K G1 vs ds := r1
  obtain ⟨c, ec, q⟩ := h1.lift
  exact ho H1 G1 H1 vs _ c Q x1.s (vrs_sh r1) ec fun G' H' v e z => q G' H' v (x1.trans c1.ne e.toE) (c1.ext e) (z.backF fun b hb => x1.free c1.ne hb)
theorem all_sh (ds : List D) : (ds.map Val.sh).all isArg = true := by
  rw [List.all_map, List.all_eq_true]
  intro x _
  rfl
/-- a def that has no effect -/
def mDefE (n : Nat) (M : List Val → Res Val) (mr : Rho → RE (List D)) : Rho → RE Val := fun ρ => (mr ρ).bind fun ds xs => if ds.length = n then match M (ds.map .sh) with
  | .ok r => .ok r xs
  | .ex n fs => .ex n fs xs
  | .no => .no
  else .no
theorem sndE_def {n : Nat} {M : List Val → Res Val} (hr : SndAE K mg W i tr mr) : SndE K mg W i (tCallS (spM K mg n M) (WE W) tr) (mDefE n M mr) := by
  intro G0 H0 σ G H ρ Q p xs I e hv h
  have hp0 := (I.cell e hv).1.ne
  refine hr G0 H0 σ G H ρ _ p xs I e hv (RRE.bnd (ExtE.refl I.s) hp0 h fun ds xs1 G1 H1 vs ea x1 c1 r1 h1 => ?_)
  have r1 : RpA K G1 vs ds := r1
  split at h1
  · rename_i hl
    refine ⟨G1, ds.map .sh, x1.s, vrs_sh r1, all_sh ds, by rw [r1.length]; exact hl, ?_⟩
    cases em : M (ds.map .sh) with
    | no =>
      simp only [em] at h1
      exact h1
    | ok r =>
      simp only [em] at h1
      exact fun G' H' v e z => h1 G' H' v (x1.trans c1.ne e.toE) (c1.ext e) (z.backF fun b hb => x1.free c1.ne hb)
    | ex x fs =>
      simp only [em] at h1
      exact fun G' H' C d e a b => h1 G' H' C d (x1.trans c1.ne e.toE) (c1.ext e) a b
  · exact h1.elim

/-! ### a def that changes the list -/
inductive ArgsIO (K : PySem.W.Frag) (p : Addr) (G : Hp) : List V → List Val → Prop
  | nil : ArgsIO K p G [] []
  | sh {v : V} {d : D} {vs : List V} {as : List Val} : Rp K G v d → ArgsIO K p G vs as → ArgsIO K p G (v :: vs) (.sh d :: as)
  | io {vs : List V} {as : List Val} {xs : List D} : ArgsIO K p G vs as → ArgsIO K p G (.ref p :: vs) (.io xs :: as)
def putIo (xs : List D) : Val → Val
  | .io _ => .io xs
  | r => r
def spIO (K : PySem.W.Frag) (mg : Str → Option Value) (n c : Nat) (M : List Val → RE Val) : Sp := fun vs H Q E => ∃ G p as xs, Same G H ∧ Cel K p G H xs ∧ ArgsIO K p G vs as ∧ (∀ k ys, as[k]? = some (.io ys) → k = c ∧ ys = xs) ∧ vs.length = n ∧ RRE K mg (wOf E) (RV K) [] p G H Q (M as)
def SndIO (K : PySem.W.Frag) (mg : Str → Option Value) (W : WX) (i : Nat) (ta : TA) (me : Rho → RE (List Val)) : Prop :=
  ∀ (G0 : Bs) (H0 : Hp) (σ : L2.St) (G H : Hp) (ρ : Rho) (Q : List V → Hp → Prop) (p : Addr) (xs : List D), EnvS K G0 H0 σ G H ρ → ioGet i ρ = some xs → σ[i]? = some (some (.ref p)) → RRE K mg W (fun _ G' _ vs as => ArgsIO K p G' vs as) σ p G H Q (me ρ) → ta σ H Q
theorem ArgsIO.mono {p : Addr} {G G' : Hp} (e : Same G G') : ∀ {vs : List V} {as : List Val}, ArgsIO K p G vs as → ArgsIO K p G' vs as
  | _, _, .nil => .nil
  | _, _, .sh a b => .sh (a.mono e) (ArgsIO.mono e b)
  | _, _, .io b => .io (ArgsIO.mono e b)
theorem ArgsIO.put {p : Addr} {G : Hp} (xs : List D) : ∀ {vs : List V} {as : List Val}, ArgsIO K p G vs as → ArgsIO K p G vs (as.map (putIo xs))
  | _, _, .nil => .nil
  | _, _, .sh a b => .sh a (ArgsIO.put xs b)
  | _, _, .io b => .io (ArgsIO.put xs b)
theorem ArgsIO.len {p : Addr} {G : Hp} : ∀ {vs : List V} {as : List Val}, ArgsIO K p G vs as → vs.length = as.length
  | _, _, .nil => rfl
  | _, _, .sh _ b => congrArg (· + 1) (ArgsIO.len b)
  | _, _, .io b => congrArg (· + 1) (ArgsIO.len b)
def mNilI (i : Nat) : Rho → RE (List Val) := fun ρ => match ioGet i ρ with
  | some xs => .ok [] xs
  | none => .no
def mConsI (i : Nat) (ma : Rho → RE Val) (mr : Rho → RE (List Val)) : Rho → RE (List Val) := fun ρ => (ma ρ).bind fun a xs => match esc a with
  | some d => (mr (ioPut i xs ρ)).bind fun ds ys => .ok (.sh d :: ds) ys
  | none => .no
def mConsV (mr : Rho → RE (List Val)) : Rho → RE (List Val) := fun ρ => (mr ρ).bind fun ds ys => .ok (.io [] :: ds) ys
variable {mi : Rho → RE (List Val)}
theorem sndI_nil : SndIO K mg W i tNil (mNilI i) := fun G0 H0 σ G H ρ Q p xs I e hv q => by
  unfold mNilI at q
  rw [e] at q
  exact q G H [] (ExtE.refl I.s) (I.cell e hv).1 .nil
theorem sndI_cons (ha : SndE K mg W i ta ma) (hr : SndIO K mg W i tr mi) : SndIO K mg W i (tCons ta tr) (mConsI i ma mi) := by
  intro G0 H0 σ G H ρ Q p xs I e hv h
  have hp0 := (I.cell e hv).1.ne
  refine ha G0 H0 σ G H ρ _ p xs I e hv (RRE.bnd (ExtE.refl I.s) hp0 h fun a xs1 G1 H1 x ea x1 c1 r1 h1 => ?_)
  split at h1
  · rename_i d ed
    obtain ⟨G2, x2, s2, k2, c2⟩ := esc_oneE x1 hp0 c1 r1.vw ed
    refine hr G0 H0 σ G2 H1 (ioPut i xs1 ρ) _ p xs1 (I.eff e hv x2 c2) (ioGet_put e) hv (RRE.bnd x2 c2.ne h1 fun b ys G3 H3 y eb x3 c3 r3 h3 => ?_)
    exact h3 G3 H3 (x :: y) (x2.trans c2.ne x3) c3 (.sh (k2.mono x3.g) r3)
  · exact h1.elim
theorem sndI_v (hr : SndIO K mg W i tr mi) : SndIO K mg W i (tCons (tVar i) tr) (mConsV mi) := by
  intro G0 H0 σ G H ρ Q p xs I e hv h
  have hp0 := (I.cell e hv).1.ne
  refine ⟨.ref p, hv, ?_⟩
  exact hr G0 H0 σ G H ρ _ p xs I e hv (RRE.bnd (ExtE.refl I.s) hp0 h fun b ys G3 H3 y eb x3 c3 r3 h3 => h3 G3 H3 (.ref p :: y) x3 c3 (.io r3))
/-- the list stands once in the arguments, at c -/
def ioAt (c : Nat) : List Val → Bool
  | [] => true
  | .io _ :: as => (c == 0) && as.all (fun r => !(owned r))
  | _ :: as => c != 0 && ioAt (c - 1) as
theorem all_not {as : List Val} (h : as.all (fun r => !(owned r)) = true) {k : Nat} {ys : List D} (e : as[k]? = some (.io ys)) : False := by
  rw [List.all_eq_true] at h
  have := h _ (List.mem_of_getElem? e)
  cases this
theorem ioAt_ok : ∀ {as : List Val} {c k : Nat} {ys : List D}, ioAt c as = true → as[k]? = some (.io ys) → k = c
  | [], _, _, _, _, e => by simp at e
  | .io zs :: as, c, k, ys, h, e => by
    have h : ((c == 0) && as.all (fun r => !(owned r))) = true := h
    rw [Bool.and_eq_true] at h
    have hc : c = 0 := by simpa using h.1
    cases k with
    | zero => exact hc.symm
    | succ k => exact (all_not h.2 (by simpa using e)).elim
  | .sh d :: as, c, k, ys, h, e => by
    have h : (c != 0 && ioAt (c - 1) as) = true := h
    rw [Bool.and_eq_true] at h
    have hc : c ≠ 0 := by simpa using h.1
    cases k with
    | zero => simp at e
    | succ k =>
      have := ioAt_ok h.2 (show as[k]? = some (.io ys) by simpa using e)
      omega
  | .ow d :: as, c, k, ys, h, e => by
    have h : (c != 0 && ioAt (c - 1) as) = true := h
    rw [Bool.and_eq_true] at h
    have hc : c ≠ 0 := by simpa using h.1
    cases k with
    | zero => simp at e
    | succ k =>
      have := ioAt_ok h.2 (show as[k]? = some (.io ys) by simpa using e)
      omega
  | .bw d :: as, c, k, ys, h, e => by
    have h : (c != 0 && ioAt (c - 1) as) = true := h
    rw [Bool.and_eq_true] at h
    have hc : c ≠ 0 := by simpa using h.1
    cases k with
    | zero => simp at e
    | succ k =>
      have := ioAt_ok h.2 (show as[k]? = some (.io ys) by simpa using e)
      omega
  | .fz d :: as, c, k, ys, h, e => by
    have h : (c != 0 && ioAt (c - 1) as) = true := h
    rw [Bool.and_eq_true] at h
    have hc : c ≠ 0 := by simpa using h.1
    cases k with
    | zero => simp at e
    | succ k =>
      have := ioAt_ok h.2 (show as[k]? = some (.io ys) by simpa using e)
      omega
  | .ob _ _ _ _ :: as, c, k, ys, h, e => by
    have h : (c != 0 && ioAt (c - 1) as) = true := h
    rw [Bool.and_eq_true] at h
    have hc : c ≠ 0 := by simpa using h.1
    cases k with
    | zero => simp at e
    | succ k =>
      have := ioAt_ok h.2 (show as[k]? = some (.io ys) by simpa using e)
      omega
def mIoE (n c : Nat) (M : List Val → RE Val) (mi : Rho → RE (List Val)) : Rho → RE Val := fun ρ => (mi ρ).bind fun as xs => if (as.length == n && ioAt c as) = true then M (as.map (putIo xs)) else .no
theorem sndE_io {n c : Nat} {M : List Val → RE Val} (hr : SndIO K mg W i tr mi) : SndE K mg W i (tCallS (spIO K mg n c M) (WE W) tr) (mIoE n c M mi) := by
  intro G0 H0 σ G H ρ Q p xs I e hv h
  have hp0 := (I.cell e hv).1.ne
  refine hr G0 H0 σ G H ρ _ p xs I e hv (RRE.bnd (ExtE.refl I.s) hp0 h fun as xs1 G1 H1 vs ea x1 c1 r1 h1 => ?_)
  have r1 : ArgsIO K p G1 vs as := r1
  split at h1
  · rename_i hl
    rw [Bool.and_eq_true] at hl
    refine ⟨G1, p, as.map (putIo xs1), xs1, x1.s, c1, r1.put xs1, fun k ys ek => ?_, by rw [r1.len]; simpa using hl.1, ?_⟩
    · rw [List.getElem?_map] at ek
      cases ek1 : as[k]? with
      | none =>
        rw [ek1] at ek
        cases ek
      | some r =>
        rw [ek1] at ek
        cases r with
        | io zs =>
          cases ek
          exact ⟨ioAt_ok hl.2 ek1, rfl⟩
        | ob _ _ _ _ => cases ek
        | sh d => cases ek
        | ow d => cases ek
        | bw d => cases ek
        | fz d => cases ek
    · exact RRE.start x1 c1.ne (fun _ _ _ _ z => VR.backF (fun b hb => x1.free c1.ne hb) z) h1
  · exact h1.elim
end
end Mi

namespace Mi
open PySem PySem.Spec PyProof.Rows L2

/-! ### the program's side -/
structure PMIO (i : Nat) (X : Cx) (W : WX) (es : List Expr) (ta : TA) (me : Rho → RE (List Val)) : Prop where
  p : PA X es ta
  s : SndIO X.K X.mg W i ta me
section
variable {X : Cx} {W : WX} {k : Nat} {f : Addr} {fd : FuncData} {ps : List Str} {sp : Sp} {x : Str} {p pos : Pos} {e : Expr} {es : List Expr} {ta : TA}
theorem pe_defS (F : FnG X.prog X.w X.K X.mg X.base k f fd ps sp) (gd : X.A.guards = some []) (hr : Room k X.A) (gm : X.mg x = some (.ref f)) (kp : PySem.W.keepIn X.K (.ref f) = true) (hb : Binds X.K fd ps []) (hx : ∀ σ, PassesAt (L2.CX X.prog X.w) X σ (WE W σ))
    (ha : PA X (e :: es) ta) (gl : Gl X x := by rfl) (db : (x == ("__debug__" : Str)) = false := by decide) (st : starEach (e :: es) X.env = (false, eval e X.env) :: starEach es X.env := by rfl) (pl : (backTo pos (starEach es X.env)).any (·.1) = false := by rfl) :
    PE X (.Call (.Name x p) (e :: es) [] pos) (tCallS sp (WE W) ta) := by
  refine ⟨fun pins s σ H Q J h => wpAny_Call_Name_kw (ld_glob J gl gm (PySem.W.callWith_K (h₀ := X.base) J.ok.mod.kin kp (thn (ha.run pos pins s σ H _ J h) fun us s1 ⟨vs, H1, J1, r, q⟩ => ⟨J1.kIn, ?_⟩) st pl) db)⟩
  have hl : us.length = ps.length := r.length.symm.trans (F.len _ _ _ _ q)
  have bb := hb s1 us J1.kIn ((congrArg List.length (List.append_nil us)).trans hl)
  rw [List.append_nil] at bb
  refine wpAny_call (codeAny_mono (F.go X.A X.stack s1 H1 ⟨us, []⟩ us vs Q (WE W σ) gd hr J1.env0 bb r q) fun o s2 hq => ?_)
  match o, hq with
  | .error err, hq => exact hx σ pins H1 s1 err s2 J1 hq
  | .ok (.ret u), hq => exact J1.after hq
  | .ok .next, hq => exact hq.elim
  | .ok .brk, hq => exact hq.elim
  | .ok .cont, hq => exact hq.elim
theorem pe_defSK {P : Program} {w : World} {K : PySem.W.Frag} {mg : Str → Option Value} {base : Heap} (F : FnG P w K mg base k f fd ps sp) (gd : X.A.guards = some []) (hr : Room k X.A) (gm : mg x = some (.ref f)) (kp : PySem.W.keepIn K (.ref f) = true) (hb : Binds K fd ps [])
    (hx : ∀ σ, PassesAt (L2.CX X.prog X.w) X σ (WE W σ)) (ha : PA X (e :: es) ta) (gl : Gl X x := by rfl) (h1 : X.prog = P := by rfl) (h2 : X.w = w := by rfl) (h3 : X.K = K := by rfl) (h4 : X.mg = mg := by rfl) (h5 : X.base = base := by rfl)
    (db : (x == ("__debug__" : Str)) = false := by decide) (st : starEach (e :: es) X.env = (false, eval e X.env) :: starEach es X.env := by rfl) (pl : (backTo pos (starEach es X.env)).any (·.1) = false := by rfl) :
    PE X (.Call (.Name x p) (e :: es) [] pos) (tCallS sp (WE W) ta) := by
  subst h1 h2 h3 h4 h5
  exact pe_defS F gd hr gm kp hb hx ha gl db st pl
theorem pme_io {P : Program} {w : World} {K : PySem.W.Frag} {mg : Str → Option Value} {base : Heap} {i n c : Nat} {M : List Val → RE Val} {mr : Rho → RE (List Val)} (F : FnG P w K mg base k f fd ps (spIO K mg n c M)) (gd : X.A.guards = some []) (hr : Room k X.A) (gm : mg x = some (.ref f)) (kp : PySem.W.keepIn K (.ref f) = true) (hb : Binds K fd ps [])
    (hx : ∀ σ, PassesAt (L2.CX X.prog X.w) X σ (WE W σ)) (ha : PMIO i X W (e :: es) ta mr) (gl : Gl X x := by rfl) (h1 : X.prog = P := by rfl) (h2 : X.w = w := by rfl) (h3 : X.K = K := by rfl) (h4 : X.mg = mg := by rfl) (h5 : X.base = base := by rfl)
    (db : (x == ("__debug__" : Str)) = false := by decide) (st : starEach (e :: es) X.env = (false, eval e X.env) :: starEach es X.env := by rfl) (pl : (backTo pos (starEach es X.env)).any (·.1) = false := by rfl) :
    PME i X W (.Call (.Name x p) (e :: es) [] pos) (tCallS (spIO K mg n c M) (WE W) ta) (mIoE n c M mr) := by
  refine ⟨pe_defSK F gd hr gm kp hb hx ha.p gl h1 h2 h3 h4 h5 db st pl, ?_⟩
  subst h1 h2 h3 h4 h5
  exact sndE_io ha.s
theorem pme_def {P : Program} {w : World} {K : PySem.W.Frag} {mg : Str → Option Value} {base : Heap} {i n : Nat} {M : List Val → Res Val} {mr : Rho → RE (List D)} (F : FnG P w K mg base k f fd ps (spM K mg n M)) (gd : X.A.guards = some []) (hr : Room k X.A) (gm : mg x = some (.ref f)) (kp : PySem.W.keepIn K (.ref f) = true) (hb : Binds K fd ps [])
    (hx : ∀ σ, PassesAt (L2.CX X.prog X.w) X σ (WE W σ)) (ha : PMAE i X W (e :: es) ta mr) (gl : Gl X x := by rfl) (h1 : X.prog = P := by rfl) (h2 : X.w = w := by rfl) (h3 : X.K = K := by rfl) (h4 : X.mg = mg := by rfl) (h5 : X.base = base := by rfl)
    (db : (x == ("__debug__" : Str)) = false := by decide) (st : starEach (e :: es) X.env = (false, eval e X.env) :: starEach es X.env := by rfl) (pl : (backTo pos (starEach es X.env)).any (·.1) = false := by rfl) :
    PME i X W (.Call (.Name x p) (e :: es) [] pos) (tCallS (spM K mg n M) (WE W) ta) (mDefE n M mr) := by
  refine ⟨pe_defSK F gd hr gm kp hb hx ha.p gl h1 h2 h3 h4 h5 db st pl, ?_⟩
  subst h1 h2 h3 h4 h5
  exact sndE_def ha.s
end
section
variable {X : Cx} {W : WX} {i : Nat} {a b c e : Expr} {es rest : List Expr} {ta tb te : TE} {ma mb : Rho → RE Val} {me : Rho → Res Val} {mp : Rho → Res Bool} {tA tB : TT} {mA mB : Rho → RE Bool} {tr : TA} {mr : Rho → RE (List D)} {mi : Rho → RE (List Val)} {pos : Pos}
theorem pme_pure (h : PM X W e te me) : PME i X W e te (toE i me) := ⟨h.p, sndE_pure h.s⟩
theorem pmte_pure (h : PMT X W e tA mp) : PMTE i X W e tA (toE i mp) := ⟨h.p, sndTE_pure h.s⟩
theorem pme_op {op : Operator} {r : R2} {mo : Val → Val → Option Val} (ho : OpR X (binaryOp op) r) (hs : OpS X.K r mo) (ha : PME i X W a ta ma) (hb : PME i X W b tb mb) : PME i X W (.BinOp a op b pos) (tOp r ta tb) (mOpE i mo ma mb) := ⟨pe_op ho ha.p hb.p, sndE_op hs ha.s hb.s⟩
theorem pme_cmp {op : CmpOp} {r : R2} {mo : Val → Val → Option Val} (ho : OpR X (compareOp op) r) (hs : OpS X.K r mo) (ha : PME i X W a ta ma) (hb : PME i X W b tb mb) (hm : behindInMarks op b = false := by first | exact nomark _ | rfl) : PME i X W (.Compare a [op] [b] pos) (tOp r ta tb) (mOpE i mo ma mb) :=
  ⟨pe_cmpR ho ha.p hb.p hm, sndE_op hs ha.s hb.s⟩
theorem pme_ix {r : R2} {mo : Val → Val → Option Val} (hr : IxR X r) (hs : OpS X.K r mo) (ha : PME i X W a ta ma) (hb : PME i X W b tb mb) (hx : PlainIx b := by exact fun _ _ => rfl) : PME i X W (.Subscript a b pos) (tOp r ta tb) (mOpE i mo ma mb) := ⟨pe_ix hr ha.p hb.p hx, sndE_op hs ha.s hb.s⟩
section
variable {x : Str} {p : Pos} (j : Nat)
theorem pme_opV {op : Operator} {r : R2} {mo : Val → Val → Option Val} (ho : OpR X (binaryOp op) r) (hs : OpS X.K r mo) (hb : PME i X W b tb mb) (hN : X.N[j]? = some x := by rfl) (hv : Vis X.env.scope x := by first | exact Or.inl rfl | exact Or.inr (Or.inl rfl) | exact Or.inr (Or.inr rfl)) (hd : (x == ("__debug__" : Str)) = false := by decide)
    (hcd : (x == ("__classdict__" : Str)) = false := by decide) : PME i X W (.BinOp (.Name x p) op b pos) (tOp r (tVar j) tb) (mOpV i j mo mb) := ⟨pe_op ho (pe_var hN hv hd hcd) hb.p, sndE_opV hs hb.s⟩
theorem pme_cmpV {op : CmpOp} {r : R2} {mo : Val → Val → Option Val} (ho : OpR X (compareOp op) r) (hs : OpS X.K r mo) (hb : PME i X W b tb mb) (hm : behindInMarks op b = false := by first | exact nomark _ | rfl) (hN : X.N[j]? = some x := by rfl) (hv : Vis X.env.scope x := by first | exact Or.inl rfl | exact Or.inr (Or.inl rfl) | exact Or.inr (Or.inr rfl)) (hd : (x == ("__debug__" : Str)) = false := by decide)
    (hcd : (x == ("__classdict__" : Str)) = false := by decide) : PME i X W (.Compare (.Name x p) [op] [b] pos) (tOp r (tVar j) tb) (mOpV i j mo mb) := ⟨pe_cmpR ho (pe_var hN hv hd hcd) hb.p hm, sndE_opV hs hb.s⟩
theorem pme_ixV {r : R2} {mo : Val → Val → Option Val} (hr : IxR X r) (hs : OpS X.K r mo) (hb : PME i X W b tb mb) (hx : PlainIx b := by exact fun _ _ => rfl) (hN : X.N[j]? = some x := by rfl) (hv : Vis X.env.scope x := by first | exact Or.inl rfl | exact Or.inr (Or.inl rfl) | exact Or.inr (Or.inr rfl)) (hd : (x == ("__debug__" : Str)) = false := by decide)
    (hcd : (x == ("__classdict__" : Str)) = false := by decide) : PME i X W (.Subscript (.Name x p) b pos) (tOp r (tVar j) tb) (mOpV i j mo mb) := ⟨pe_ix hr (pe_var hN hv hd hcd) hb.p hx, sndE_opV hs hb.s⟩
end
theorem pmte_cmp {op : CmpOp} {r : R2} {mo : Val → Val → Option Val} (ho : OpR X (compareOp op) r) (hs : OpS X.K r mo) (ha : PME i X W a ta ma) (hb : PME i X W b tb mb) (hm : behindInMarks op b = false := by first | exact nomark _ | rfl) :
    PMTE i X W (.Compare a [op] [b] pos) (tTest (tOp r ta tb)) (mTestE (mOpE i mo ma mb)) := ⟨pt_cmpR ho ha.p hb.p hm, sndE_test (sndE_op hs ha.s hb.s)⟩
theorem pmte_truK {K : PySem.W.Frag} (ha : PME i X W a ta ma) (he : ∀ whole, isTrue a X.env whole = (do let v ← whole; standAt a.pos; holding [v] (truthy v)) := by intro _; rfl) (h : X.K = K := by rfl) :
    PMTE i X W a (fun σ H Q => ta σ H fun x H' => ∃ k, TruV K x H' k ∧ Q k H') (mTruE ma) := by
  subst h
  exact ⟨pt_truth ha.p he, sndE_tru ha.s⟩
theorem pmte_not (ha : PMTE i X W a tA mA) : PMTE i X W (.UnaryOp .Not a pos) (tNot tA) (mNotE mA) := ⟨pt_not ha.p, sndE_not ha.s⟩
theorem pmwe_and1 (ha : PMTE i X W a tA mA) : PMWE i X W (.BoolOp .And [a] pos) tA mA := ⟨pw_and1 ha.p, ha.s⟩
theorem pmwe_or1 (ha : PMTE i X W a tA mA) : PMWE i X W (.BoolOp .Or [a] pos) tA mA := ⟨pw_or1 ha.p, ha.s⟩
theorem pmwe_and (ha : PMTE i X W a tA mA) (hb : PMWE i X W (.BoolOp .And (b :: rest) pos) tB mB) : PMWE i X W (.BoolOp .And (a :: b :: rest) pos) (tAnd tA tB) (mAndE i mA mB) := ⟨pw_and ha.p hb.p, sndE_and ha.s hb.s⟩
theorem pmwe_or (ha : PMTE i X W a tA mA) (hb : PMWE i X W (.BoolOp .Or (b :: rest) pos) tB mB) : PMWE i X W (.BoolOp .Or (a :: b :: rest) pos) (tOr tA tB) (mOrE i mA mB) := ⟨pw_or ha.p hb.p, sndE_or ha.s hb.s⟩
theorem PMWE.t (h : PMWE i X W a tA mA) : PMTE i X W a tA mA := ⟨h.p.pt, h.s⟩
theorem pme_ifE (hc : PMTE i X W c tA mA) (ha : PME i X W a ta ma) (hb : PME i X W b tb mb) : PME i X W (.IfExp c a b pos) (tIf tA ta tb) (mIfEE i mA ma mb) := ⟨pe_ifExp hc.p ha.p hb.p, sndE_ifE hc.s ha.s hb.s⟩
theorem pme_neg (ha : PME i X W a ta ma) : PME i X W (.UnaryOp .USub a pos) (tUn (rU fun i => .int (-i)) ta) (mNegE ma) := ⟨pe_un un_neg ha.p, sndE_neg ha.s⟩
theorem pmae_nil : PMAE i X W [] tNil (mNilE i) := ⟨pa_nil, sndE_nil⟩
theorem pmae_cons (ha : PME i X W a ta ma) (hr : PMAE i X W es tr mr) (hs : starEach (a :: es) X.env = (false, eval a X.env) :: starEach es X.env := by rfl) : PMAE i X W (a :: es) (tCons ta tr) (mConsE i ma mr) := ⟨pa_cons ha.p hr.p hs, sndE_cons ha.s hr.s⟩
theorem pmio_nil : PMIO i X W [] tNil (mNilI i) := ⟨pa_nil, sndI_nil⟩
theorem pmio_cons (ha : PME i X W a ta ma) (hr : PMIO i X W es tr mi) (hs : starEach (a :: es) X.env = (false, eval a X.env) :: starEach es X.env := by rfl) : PMIO i X W (a :: es) (tCons ta tr) (mConsI i ma mi) := ⟨pa_cons ha.p hr.p hs, sndI_cons ha.s hr.s⟩
theorem pmio_v {x : Str} {p : Pos} (hr : PMIO i X W es tr mi) (hN : X.N[i]? = some x := by rfl) (hv : Vis X.env.scope x := by first | exact Or.inl rfl | exact Or.inr (Or.inl rfl) | exact Or.inr (Or.inr rfl)) (hd : (x == ("__debug__" : Str)) = false := by decide)
    (hcd : (x == ("__classdict__" : Str)) = false := by decide) (hs : starEach ((.Name x p) :: es) X.env = (false, eval (.Name x p) X.env) :: starEach es X.env := by rfl) : PMIO i X W (.Name x p :: es) (tCons (tVar i) tr) (mConsV mi) := ⟨pa_cons (pe_var hN hv hd hcd) hr.p hs, sndI_v hr.s⟩
theorem pme_lst (h : PMAE i X W es tr mr) : PME i X W (.List es pos) (tLst tr) (mLstE mr) := ⟨pe_lst h.p, sndE_lst h.s⟩
theorem pme_tup {x1} (h : PMAE i X W es tr mr) : PME i X W (.Tuple es x1 pos) (tTup tr) (mTupE mr) := ⟨pe_tup h.p, sndE_tup h.s⟩
theorem pme_callB {p : Pos} {id : String} {x : Str} {r : List V → Hp → VK → Prop} {mo : List Val → Option Val} (hc : CallR X (.builtin id) r) (hs : CallS X.K r mo) (hm : X.mg x = none) (hv : bootBuiltins x = some (.builtin id)) (ha : PMAE i X W (e :: es) tr mr) (hg : Gl X x := by rfl) (hn : x ≠ "__name__" := by decide) (hdb : (x == ("__debug__" : Str)) = false := by decide)
    (he : starEach (e :: es) X.env = (false, eval e X.env) :: starEach es X.env := by rfl) (hpl : (backTo pos (starEach es X.env)).any (·.1) = false := by rfl) : PME i X W (.Call (.Name x p) (e :: es) [] pos) (tCB r tr) (mCallE mo mr) :=
  ⟨pe_callB hc hg hm hv ha.p hn hdb he hpl, sndE_call hs ha.s⟩
theorem pme_callTy {p : Pos} {T : String} {x : Str} {r : List V → Hp → VK → Prop} {mo : List Val → Option Val} (hc : CallR X (.type T) r) (hs : CallS X.K r mo) (hm : X.mg x = none) (hv : bootBuiltins x = some (.type T)) (ha : PMAE i X W (e :: es) tr mr) (hg : Gl X x := by rfl) (hn : x ≠ "__name__" := by decide) (hdb : (x == ("__debug__" : Str)) = false := by decide)
    (he : starEach (e :: es) X.env = (false, eval e X.env) :: starEach es X.env := by rfl) (hpl : (backTo pos (starEach es X.env)).any (·.1) = false := by rfl) : PME i X W (.Call (.Name x p) (e :: es) [] pos) (tCB r tr) (mCallE mo mr) :=
  ⟨pe_callTy hc hg hm hv ha.p hn hdb he hpl, sndE_call hs ha.s⟩
end

/-! ### pop -/
theorem same_updN {G H : Hp} {p : Addr} {o : HO} (s : Same G H) (g : G p = none) : Same G (upd H p o) := fun b x e => by
  rw [upd_ne (ne_of_none e g)]
  exact s _ _ e
theorem Cel.set {K : PySem.W.Frag} {p : Addr} {G H : Hp} {xs ys : List D} {us : List V} (c : Cel K p G H xs) (s : Same G H) (k : RpA K G us ys) : ExtE p G H G (upd H p (.lst us)) ∧ Cel K p G (upd H p (.lst us)) ys := by
  obtain ⟨vs, a, b, _⟩ := c
  exact ⟨⟨fun d x n h => by rw [upd_ne n]; exact h, Same.refl _, same_updN s b, fun d _ g => g⟩, us, upd_same, b, k⟩
def mPopE (i : Nat) : Rho → RE Val := fun ρ => match ioGet i ρ with
  | some xs => match xs.getLast? with
    | some d => .ok (.sh d) xs.dropLast
    | none => .no
  | none => .no
def mPopAtE (i : Nat) (ma : Rho → Res Val) : Rho → RE Val := fun ρ => match ioGet i ρ with
  | some xs => match ma ρ with
    | .ok (.sh (.int k)) => if k.natAbs ≤ 1000000 then match ixN xs.length k with
      | some j => match xs[j]? with
        | some d => .ok (.sh d) (xs.eraseIdx j)
        | none => .no
      | none => .no
      else .no
    | _ => .no
  | none => .no
theorem RpA.last {K : PySem.W.Frag} {G : Hp} {ds : List D} {vs : List V} {d : D} (h : RpA K G vs ds) (e : ds.getLast? = some d) : ∃ v, vs[vs.length - 1]? = some v ∧ Rp K G v d := by
  rw [List.getLast?_eq_getElem?] at e
  obtain ⟨v, e1, e2⟩ := h.get e
  rw [h.length]
  exact ⟨v, e1, e2⟩
theorem RpA.dropLast {K : PySem.W.Frag} {G : Hp} {ds : List D} {vs : List V} (h : RpA K G vs ds) : RpA K G vs.dropLast ds.dropLast := by
  rw [List.dropLast_eq_take, List.dropLast_eq_take, h.length]
  exact h.take _
theorem RpA.erase {K : PySem.W.Frag} {G : Hp} : ∀ {ds : List D} {vs : List V} (j : Nat), RpA K G vs ds → RpA K G (vs.eraseIdx j) (ds.eraseIdx j)
  | [], _, _, .nil => .nil
  | _ :: _, _, 0, .cons h a => a
  | _ :: _, _, j + 1, .cons h a => .cons h (RpA.erase j a)
section
variable {K : PySem.W.Frag} {mg : Str → Option Value} {W : WX} {i : Nat}
theorem sndE_pop : SndE K mg W i (tBM0 K "list" rPop (tVar i)) (mPopE i) := by
  intro G0 H0 σ G H ρ Q p xs I e hv h
  obtain ⟨⟨vs, hp, hg, k⟩, h0⟩ := I.cell e hv
  refine ⟨.ref p, hv, .inl ⟨rfl, vs, SqL.of hp⟩, ?_⟩
  unfold mPopE at h
  simp only [e] at h
  split at h
  · rename_i d ed
    obtain ⟨v, ev, rv⟩ := k.last ed
    obtain ⟨x, c⟩ := Cel.set (I.cell e hv).1 I.s k.dropLast
    exact ⟨p, vs, v, rfl, rfl, hp, ev, h _ _ v x c rv⟩
  · exact h.elim
theorem sndE_popAt {ta : TE} {ma : Rho → Res Val} (ha : Snd K mg W ta ma) : SndE K mg W i (tBM K "list" rPopAt (tVar i) (tCons ta tNil)) (mPopAtE i ma) := by
  intro G0 H0 σ G H ρ Q p xs I e hv h
  obtain ⟨⟨vs, hp, hg, k⟩, h0⟩ := I.cell e hv
  refine ⟨.ref p, hv, .inl ⟨rfl, vs, SqL.of hp⟩, ?_⟩
  unfold mPopAtE at h
  simp only [e] at h
  refine ha G0 H0 σ G H ρ _ I ?_
  cases em : ma ρ with
  | no =>
    rw [em] at h
    exact h.elim
  | ex n fs =>
    rw [em] at h
    exact h.elim
  | ok r =>
    rw [em] at h
    intro G1 H1 y e1 r1
    cases r with
    | ow _ => exact h.elim
    | bw _ => exact h.elim
    | fz _ => exact h.elim
    | io _ => exact h.elim
    | ob _ _ _ _ => exact h.elim
    | sh d =>
      cases d with
      | int kk =>
        simp only at h
        split at h
        · rename_i hk
          split at h
          · rename_i j ej
            split at h
            · rename_i d ed
              have c1 := (I.cell e hv).1.ext e1
              obtain ⟨vs1, hp1, hg1, k1⟩ := c1
              obtain ⟨v, ev, rv⟩ := k1.get ed
              obtain ⟨x, c⟩ := Cel.set (ys := xs.eraseIdx j) ⟨vs1, hp1, hg1, k1⟩ e1.s (k1.erase j)
              cases r1.int_
              refine ⟨p, vs1, kk, j, v, rfl, rfl, hp1, by omega, by omega, ?_, ev, h _ _ v (e1.toE.trans (by rw [hp1]; exact Option.some_ne_none _) x) c rv⟩
              rw [k1.length]
              exact (ixN_seq ej).1
            · exact h.elim
          · exact h.elim
        · exact h.elim
      | _ => exact h.elim
end
section
variable {X : Cx} {W : WX} {i : Nat} {x : Str} {p apos cpos : Pos}
theorem pme_pop (hN : X.N[i]? = some x := by rfl) (hv : Vis X.env.scope x := by first | exact Or.inl rfl | exact Or.inr (Or.inl rfl) | exact Or.inr (Or.inr rfl)) (hd : (x == ("__debug__" : Str)) = false := by decide)
    (hcd : (x == ("__classdict__" : Str)) = false := by decide) (hbase : attributeBase (.Name x p) "pop" X.env (eval (.Name x p) X.env) = eval (.Name x p) X.env := by rfl) (hline : (apos.endLine == cpos.line) = true := by rfl) :
    PME i X W (.Call (.Attribute (.Name x p) "pop" apos) [] [] cpos) (tBM0 X.K "list" rPop (tVar i)) (mPopE i) := ⟨pe_bm0 PySem.F.plainAttrs_list PySem.F.slot_list_pop PySem.F.type_list_pop mt_pop (pe_var hN hv hd hcd) hbase hline, sndE_pop⟩
theorem pme_popAt {e : Expr} {ta : TE} {ma : Rho → Res Val} (h : PM X W e ta ma) (hN : X.N[i]? = some x := by rfl) (hv : Vis X.env.scope x := by first | exact Or.inl rfl | exact Or.inr (Or.inl rfl) | exact Or.inr (Or.inr rfl)) (hd : (x == ("__debug__" : Str)) = false := by decide)
    (hcd : (x == ("__classdict__" : Str)) = false := by decide)
    (hst : starEach [e] X.env = (false, eval e X.env) :: starEach [] X.env := by rfl)
    (hbase : attributeBase (.Name x p) "pop" X.env (eval (.Name x p) X.env) = eval (.Name x p) X.env := by rfl)
    (hfew : ((backTo cpos (starEach [e] X.env)).all (fun x => !x.1) && (backToKw cpos (keywordEach [] X.env)).all (fun x => x.1.isSome) && decide ([e].length + ([] : List Keyword).length + (if ([] : List Keyword).isEmpty then 0 else 1) < 30)) = true := by rfl)
    (hline : (apos.endLine == cpos.line) = true := by rfl) (hplain : (backTo cpos (starEach [] X.env)).any (·.1) = false := by rfl) :
    PME i X W (.Call (.Attribute (.Name x p) "pop" apos) [e] [] cpos) (tBM X.K "list" rPopAt (tVar i) (tCons ta tNil)) (mPopAtE i ma) := ⟨pe_bm PySem.F.plainAttrs_list PySem.F.slot_list_pop PySem.F.type_list_pop mt_popAt (pe_var hN hv hd hcd) (pa_cons h.p pa_nil hst) hbase hfew hline hst hplain, sndE_popAt h.s⟩
end
end Mi

namespace Mi
open PySem PySem.Spec PyProof.Rows L2

/-! ### slots take what an effect leaves -/
section
variable {K : PySem.W.Frag} {G0 : Bs} {H0 G H G' H' : Hp} {σ : L2.St} {ρ : Rho} {i : Nat} {v : V} {r r' : Val}
theorem EnvS.putF (I : EnvS K G0 H0 σ G H ρ) (hs : SlotR K H0 G H v r) (es : store r = some r') (ap : owned r = true → ∀ (j : Nat) (s : Val), ρ[j]? = some (some s) → owned s = true → σ[j]? ≠ some (some v)) : EnvS K G0 H0 (σ.set i (some v)) G H (ρ.set i (some r')) := by
  have er : r' = r := by
    cases r <;> cases es <;> rfl
  subst er
  refine ⟨I.ext, fun j xs hj => ?_, by rw [List.length_set, List.length_set]; exact I.len, fun j s hj => ?_, fun j k p r1 s1 hj hk o1 o2 sj sk => ?_⟩
  · rcases set_get hj with ⟨_, e2, _⟩ | ⟨ne, e2⟩
    · cases e2
      cases es
    · rw [List.getElem?_set, if_neg ne]
      exact I.pin j xs e2
  · rcases set_get hj with ⟨rfl, e2, hl⟩ | ⟨ne, e2⟩
    · cases e2
      refine ⟨v, ?_, hs⟩
      rw [List.getElem?_set, if_pos rfl, if_pos (by rw [I.len]; exact hl)]
    · obtain ⟨u, hu, k⟩ := I.slot j s e2
      refine ⟨u, ?_, k⟩
      rw [List.getElem?_set, if_neg ne]
      exact hu
  · rcases set_get hj with ⟨e1, e2, hl⟩ | ⟨ne, e2⟩
    · rcases set_get hk with ⟨e3, e4, hl'⟩ | ⟨ne', e4⟩
      · rw [← e1, ← e3]
      · rcases set_get sj with ⟨_, s1', _⟩ | ⟨z, _⟩
        · rcases set_get sk with ⟨z, _⟩ | ⟨_, s2⟩
          · exact absurd z ne'
          · cases e2
            cases s1'
            exact absurd s2 (ap o1 k _ e4 o2)
        · exact absurd e1 z
    · rcases set_get sj with ⟨z, _⟩ | ⟨_, s1'⟩
      · exact absurd z ne
      · rcases set_get hk with ⟨e3, e4, hl'⟩ | ⟨ne', e4⟩
        · rcases set_get sk with ⟨_, s2, _⟩ | ⟨z, _⟩
          · cases e4
            cases s2
            exact absurd s1' (ap o2 j _ e2 o1)
          · exact absurd e3 z
        · rcases set_get sk with ⟨z, _⟩ | ⟨_, s2⟩
          · exact absurd z ne'
          · exact I.apart j k p _ _ e2 e4 o1 o2 s1' s2
theorem ioPut_owned {ys : List D} {j : Nat} {s : Val} (h : (ioPut i ys ρ)[j]? = some (some s)) (o : owned s = true) : ∃ s', ρ[j]? = some (some s') ∧ owned s' = true := by
  unfold ioPut at h
  split at h
  · rename_i e
    rcases set_get h with ⟨rfl, _, _⟩ | ⟨_, e2⟩
    · exact ⟨_, e, rfl⟩
    · exact ⟨s, e2, o⟩
  · rename_i e
    rcases set_get h with ⟨rfl, _, _⟩ | ⟨_, e2⟩
    · exact ⟨_, e, rfl⟩
    · exact ⟨s, e2, o⟩
  · exact ⟨s, h, o⟩
/-- what is new is none of the slots' -/
theorem EnvS.new (I : EnvS K G0 H0 σ G H ρ) (h : VR K H G' H' v r) (es : store r = some r') (o : owned r = true) {ys : List D} (j : Nat) (s : Val) (hj : (ioPut i ys ρ)[j]? = some (some s)) (os : owned s = true) : σ[j]? ≠ some (some v) := by
  intro hv
  cases r with
  | sh d => cases o
  | bw xs => cases o
  | fz xs => cases o
  | ob _ _ _ _ => cases o
  | io xs => cases es
  | ow xs =>
    obtain ⟨p, vs, rfl, _, _, b, _⟩ := h
    obtain ⟨s', e', o'⟩ := ioPut_owned hj os
    obtain ⟨u, hu, z⟩ := I.slot j s' e'
    rw [hv] at hu
    cases hu
    cases s' with
    | sh d => cases o'
    | bw xs => cases o'
    | fz xs => cases o'
    | ob _ _ _ _ => cases o'
    | ow zs =>
      obtain ⟨q, ws, eq, hq, _⟩ := z
      cases eq
      rw [b] at hq
      cases hq
    | io zs =>
      obtain ⟨q, ws, eq, hq, _⟩ := z
      cases eq
      rw [b] at hq
      cases hq
theorem VR.slotF (e : ∀ p, H p = none → H0 p = none) (h : VR K H G' H' v r) (es : store r = some r') : r' = r ∧ SlotR K H0 G' H' v r := by
  cases r with
  | sh d =>
    cases es
    exact ⟨rfl, h⟩
  | ow xs =>
    cases es
    obtain ⟨p, vs, a, b, c, d, k⟩ := h
    exact ⟨rfl, p, vs, a, b, c, e _ d, k⟩
  | bw xs => cases es
  | fz xs =>
    cases es
    exact ⟨rfl, h⟩
  | io xs => cases es
  | ob o p C fs =>
    cases es
    exact ⟨rfl, h.up (fun _ z => e _ z) (fun _ _ z => z) (Same.refl _) fun _ _ _ _ z => z⟩
end
def eRes {α : Type} (i : Nat) (me : Rho → RE α) (ρ : Rho) (f : α → Rho → Out) : Out := match ioGet i ρ with
  | none => .no
  | some _ => match me ρ with
    | .ok a xs => f a (ioPut i xs ρ)
    | .ex n fs xs => .ex n fs (ioPut i xs ρ)
    | .no => .no
theorem eRes_out {K : PySem.W.Frag} {mg : Str → Option Value} {W : WX} {α β : Type} {R1 : Hp → Hp → Hp → β → α → Prop} {σ : L2.St} {G0 : Bs} {H0 G H : Hp} {ρ : Rho} {Dn : Ends} {Q1 : β → Hp → Prop} {i : Nat} {m : Rho → RE α} {f : α → Rho → Out} (I : EnvS K G0 H0 σ G H ρ)
    (h : OutR K mg W G0 H0 G Dn (eRes i m ρ f)) (k : ∀ (p : Addr) (xs : List D) (a : α) (ys : List D) G1 H1 v, ioGet i ρ = some xs → σ[i]? = some (some (.ref p)) → ExtE p G H G1 H1 → Cel K p G1 H1 ys → EnvS K G0 H0 σ G1 H1 (ioPut i ys ρ) → R1 H G1 H1 v a → OutR K mg W G0 H0 G1 Dn (f a (ioPut i ys ρ)) → Q1 v H1) :
    ∃ p xs, ioGet i ρ = some xs ∧ σ[i]? = some (some (.ref p)) ∧ RRE K mg W R1 σ p G H Q1 (m ρ) := by
  unfold eRes at h
  split at h
  · exact h.elim
  · rename_i xs e
    obtain ⟨p, hv⟩ := I.at_ e
    refine ⟨p, xs, e, hv, ?_⟩
    cases em : m ρ with
    | ok a ys =>
      rw [em] at h
      exact fun G1 H1 v x c r => k p xs a ys G1 H1 v e hv x c (I.eff e hv x c) r (OutR.up x.g h)
    | ex n fs ys =>
      rw [em] at h
      exact fun G1 H1 C d x c a b => h σ G1 H1 C d (I.eff e hv x c) x.g a b
    | no =>
      rw [em] at h
      exact h
def mSetE (i0 i : Nat) (me : Rho → RE Val) : Rho → Out := fun ρ => eRes i me ρ fun r ρ' => match store r with
  | some r' => .nx (ρ'.set i0 (some r'))
  | none => .no
def mDropE (i : Nat) (me : Rho → RE Val) : Rho → Out := fun ρ => eRes i me ρ fun _ ρ' => .nx ρ'
def mIfSE (i : Nat) (mc : Rho → RE Bool) (a b : Rho → Out) : Rho → Out := fun ρ => eRes i mc ρ fun k ρ' => if k = true then a ρ' else b ρ'
def mRetE (i : Nat) (me : Rho → RE Val) : Rho → Out := fun ρ => eRes i me ρ fun r _ => match store r with
  | some r' => .rt r'
  | none => .no
def mRetX (i : Nat) (me : Rho → RE Val) : Rho → Out := fun ρ => eRes i me ρ fun r ρ' => match store r with
  | some r' => .rx r' ρ'
  | none => .no
def mRetXV (j : Nat) : Rho → Out := fun ρ => match ρ[j]? with
  | some (some r) => match store r with
    | some r' => .rx r' (ρ.set j none)
    | none => .no
  | _ => .no
def mAppE (j i : Nat) (me : Rho → RE Val) : Rho → Out := fun ρ => match ρ[j]? with
  | some (some (.ow _)) => eRes i me ρ fun r ρ' => match esc r with
    | some d => match ρ'[j]? with
      | some (some (.ow xs)) => if xs.length < 100000 then .nx (ρ'.set j (some (.ow (xs ++ [d])))) else .no
      | _ => .no
    | none => .no
  | _ => .no
def mInsE (j i : Nat) (m1 : Rho → RE Val) (m2 : Rho → Res Val) : Rho → Out := fun ρ => match ρ[j]? with
  | some (some (.ow _)) => eRes i m1 ρ fun k ρ' => sRes (m2 ρ') ρ' fun r => match k, esc r with
    | .sh (.int k), some d => match ρ'[j]? with
      | some (some (.ow xs)) => if xs.length < 100000 ∧ 0 ≤ k ∧ k ≤ 1000000 then .nx (ρ'.set j (some (.ow (xs.take k.toNat ++ [d] ++ xs.drop k.toNat)))) else .no
      | _ => .no
    | _, _ => .no
  | _ => .no
/-- x[..] = .., both with effects -/
def mPutE (j i : Nat) (mi me : Rho → RE Val) : Rho → Out := fun ρ => eRes i me ρ fun r ρ1 => match esc r with
  | some d => match ρ1[j]? with
    | some (some (.ow _)) => eRes i mi ρ1 fun k ρ2 => match k with
      | .sh (.int k) => match ρ2[j]? with
        | some (some (.ow xs)) => match ixN xs.length k with
          | some n => .nx (ρ2.set j (some (.ow (xs.set n d))))
          | none => .no
        | _ => .no
      | _ => .no
    | _ => .no
  | none => .no
def mAsgE (i : Nat) (bp : BP) (me : Rho → RE Val) : Rho → Out := fun ρ => eRes i me ρ fun r ρ' => match r with
  | .sh d => match bp d ρ' with
    | some ρ2 => .nx ρ2
    | none => .no
  | _ => .no
def mForE (i : Nat) (mi : Rho → RE (List D)) (bp : BP) (body : Rho → Out) : Rho → Out := fun ρ => eRes i mi ρ fun xs ρ' => loop bp body xs ρ'
section
variable {K : PySem.W.Frag} {mg : Str → Option Value} {W : WX} {i j : Nat} {te ti t1 t2 : TE} {me mi : Rho → RE Val} {m2 : Rho → Res Val} {tA : TT} {mA : Rho → RE Bool} {t u : TS} {a b : Rho → Out}
theorem sndE_set (h : SndE K mg W i te me) : SndS K mg W (tAsg te (gName j)) (mSetE j i me) := by
  intro G0 H0 σ G H ρ D I q
  have key := eRes_out (R1 := RV K) (Q1 := fun v H' => gName j v σ H' D.nx) I q (by
    intro p xs a ys G1 H1 v e hv x c I1 r1 q1
    split at q1
    · rename_i r' es
      have r1 : VR K H G1 H1 v a := r1
      obtain ⟨rfl, hs⟩ := r1.slotF (H0 := H0) (fun p hp => I.ext.h.free hp) es
      exact q1 _ G1 H1 (I1.putF hs es fun o j s hj os => I.new r1 es o j s hj os) (Same.refl _)
    · exact q1.elim)
  obtain ⟨p, xs, e, hv, z⟩ := key
  exact h G0 H0 σ G H ρ _ p xs I e hv z
theorem sndE_drop (h : SndE K mg W i te me) : SndS K mg W (tDrop te) (mDropE i me) := by
  intro G0 H0 σ G H ρ D I q
  obtain ⟨p, xs, e, hv, z⟩ := eRes_out (R1 := RV K) (Q1 := fun v H' => D.nx σ H') I q fun p xs a ys G1 H1 v e hv x c I1 r1 q1 => q1 σ G1 H1 I1 (Same.refl _)
  exact h G0 H0 σ G H ρ _ p xs I e hv z
theorem sndE_ifS (hc : SndTE K mg W i tA mA) (ha : SndS K mg W t a) (hb : SndS K mg W u b) : SndS K mg W (tIfS tA t u) (mIfSE i mA a b) := by
  intro G0 H0 σ G H ρ D I q
  have key := eRes_out (R1 := RB) (Q1 := fun k H' => if k = true then t D σ H' else u D σ H') I q (by
    intro p xs k ys G1 H1 v e hv x c I1 r1 q1
    cases (show v = k from r1)
    cases k with
    | true => exact iteT (ha G0 H0 σ G1 H1 _ D I1 q1)
    | false => exact iteF (hb G0 H0 σ G1 H1 _ D I1 q1))
  obtain ⟨p, xs, e, hv, z⟩ := key
  exact hc G0 H0 σ G H ρ _ p xs I e hv z
theorem sndE_ret (h : SndE K mg W i te me) : SndS K mg W (tRet te) (mRetE i me) := by
  intro G0 H0 σ G H ρ D I q
  have key := eRes_out (R1 := RV K) (Q1 := fun v H' => D.rt v H') I q (by
    intro p xs a ys G1 H1 v e hv x c I1 r1 q1
    split at q1
    · rename_i r' es
      have r1 : VR K H G1 H1 v a := r1
      obtain ⟨rfl, _⟩ := r1.slotF (H0 := H0) (fun p hp => I.ext.h.free hp) es
      exact q1 G1 H1 v I1.ext (r1.backF fun b hb => I.ext.h.free hb)
    · exact q1.elim)
  obtain ⟨p, xs, e, hv, z⟩ := key
  exact h G0 H0 σ G H ρ _ p xs I e hv z
theorem sndE_retX (h : SndE K mg W i te me) : SndS K mg W (tRet te) (mRetX i me) := by
  intro G0 H0 σ G H ρ D I q
  have key := eRes_out (R1 := RV K) (Q1 := fun v H' => D.rt v H') I q (by
    intro p xs a ys G1 H1 v e hv x c I1 r1 q1
    split at q1
    · rename_i r' es
      have r1 : VR K H G1 H1 v a := r1
      obtain ⟨rfl, _⟩ := r1.slotF (H0 := H0) (fun p hp => I.ext.h.free hp) es
      refine q1 σ G1 H1 v I1 (Same.refl _) (r1.backF fun b hb => I.ext.h.free hb) fun zs ez j ws hj => ?_
      exact I.new r1 es (by rw [ez]; rfl) j _ hj rfl
    · exact q1.elim)
  obtain ⟨p, xs, e, hv, z⟩ := key
  exact h G0 H0 σ G H ρ _ p xs I e hv z
theorem snd_retXV : SndS K mg W (tRet (tVar j)) (mRetXV j) := by
  intro G0 H0 σ G H ρ D I q
  unfold mRetXV at q
  split at q
  · rename_i r e
    split at q
    · rename_i r' es
      have er : r' = r := by
        cases r <;> cases es <;> rfl
      subst er
      obtain ⟨v, hv, hs⟩ := I.slot j _ e
      have J := I.drop j none
      rw [show (σ.set j none) = σ.set j none from rfl] at J
      refine ⟨v, hv, q (σ.set j none) G H v J (Same.refl _) (hs.toVR I.ext.h) fun zs ez k ws hk hw => ?_⟩
      subst ez
      rcases set_get hk with ⟨_, e2, _⟩ | ⟨ne, e2⟩
      · cases e2
      · rw [List.getElem?_set, if_neg ne] at hw
        obtain ⟨q0, us, rfl, _⟩ := hs
        exact ne (I.apart j k q0 _ _ e e2 rfl rfl hv hw)
    · exact q.elim
  · exact q.elim
theorem sndE_app (h : SndE K mg W i te me) : SndS K mg W (tDrop (tBM K "list" rAppend (tVar j) (tCons te tNil))) (mAppE j i me) := by
  intro G0 H0 σ G H ρ D I q
  unfold mAppE at q
  split at q
  · rename_i xs0 e0
    obtain ⟨p0, vs0, hv0, hp0, hg0, k0⟩ := own_get I e0
    refine ⟨.ref p0, hv0, .inl ⟨rfl, vs0, SqL.of hp0⟩, ?_⟩
    have key := eRes_out (R1 := RV K) (Q1 := fun v H' => rAppend (.ref p0) [v] H' fun _ H' => D.nx σ H') I q (by
      intro p xs a ys G1 H1 v e hv x c I1 r1 q1
      split at q1
      · rename_i d ed
        split at q1
        · rename_i xs1 e1
          split at q1
          · rename_i hl
            have r1 : VR K H G1 H1 v a := r1
            obtain ⟨G2, x2, s2, kd, c2⟩ := esc_oneE x (I.cell e hv).1.ne c r1.vw ed
            have I2 := I.eff e hv x2 c2
            obtain ⟨p', vs', hv', hp', hg', k'⟩ := own_get I2 e1
            rw [hv0] at hv'
            cases hv'
            refine ⟨p0, vs', v, rfl, rfl, hp', ?_, q1 σ G2 _ (I2.mut e1 hv0 (k'.append (.cons kd .nil))) s2⟩
            rw [k'.length]
            exact sz_lt hl
          · exact q1.elim
        · exact q1.elim
      · exact q1.elim)
    obtain ⟨p, xs, e, hv, z⟩ := key
    exact h G0 H0 σ G H ρ _ p xs I e hv z
  · exact q.elim
theorem sndE_ins (h : SndE K mg W i t1 me) (h2 : Snd K mg W t2 m2) : SndS K mg W (tDrop (tBM K "list" rIns (tVar j) (tCons t1 (tCons t2 tNil)))) (mInsE j i me m2) := by
  intro G0 H0 σ G H ρ D I q
  unfold mInsE at q
  split at q
  · rename_i xs0 e0
    obtain ⟨p0, vs0, hv0, hp0, hg0, k0⟩ := own_get I e0
    refine ⟨.ref p0, hv0, .inl ⟨rfl, vs0, SqL.of hp0⟩, ?_⟩
    have key := eRes_out (R1 := RV K) (Q1 := fun v H' => t2 σ H' fun u H2 => rIns (.ref p0) [v, u] H2 fun _ H' => D.nx σ H') I q (by
      intro p xs a ys G1 H1 v e hv x c I1 r1 q1
      refine h2 G0 H0 σ G1 H1 _ _ I1 (RR.out I1 q1 fun b G2 H2 y eb e2 r2 q2 => ?_)
      split at q2
      · rename_i kk d ed
        split at q2
        · rename_i xs1 e1
          split at q2
          · rename_i hl
            obtain ⟨G3, x3, s3, kd⟩ := esc_one e2 r2.vw ed
            have I3 := I1.ext' x3
            obtain ⟨p', vs', hv', hp', hg', k'⟩ := own_get I3 e1
            rw [hv0] at hv'
            cases hv'
            have r1 : VR K H G1 H1 v (.sh (.int kk)) := r1
            cases r1.int_
            refine ⟨p0, vs', _, y, rfl, rfl, hp', ?_, hl.2.1, by omega, OutR.up s3 q2 σ G3 _ (I3.mut e1 hv0 (((k'.take _).append (.cons kd .nil)).append (k'.drop _))) (Same.refl _)⟩
            rw [k'.length]
            exact sz_lt hl.1
          · exact q2.elim
        · exact q2.elim
      · exact q2.elim)
    obtain ⟨p, xs, e, hv, z⟩ := key
    exact h G0 H0 σ G H ρ _ p xs I e hv z
  · exact q.elim
theorem sndE_put (hi : SndE K mg W i ti mi) (h : SndE K mg W i te me) : SndS K mg W (tAsg te (gSub (tVar j) ti rSetL)) (mPutE j i mi me) := by
  intro G0 H0 σ G H ρ D I q
  have key := eRes_out (R1 := RV K) (Q1 := fun v H' => gSub (tVar j) ti rSetL v σ H' D.nx) I q (by
    intro p xs a ys G1 H1 v e hv x c I1 r1 q1
    split at q1
    · rename_i d ed
      have r1 : VR K H G1 H1 v a := r1
      obtain ⟨G2, x2, s2, kd, c2⟩ := esc_oneE x (I.cell e hv).1.ne c r1.vw ed
      have I2 := I.eff e hv x2 c2
      have q1 := OutR.up s2 q1
      split at q1
      · rename_i xs0 e1
        obtain ⟨p0, vs0, hv0, hp0, hg0, k0⟩ := own_get I2 e1
        refine ⟨.ref p0, hv0, ?_⟩
        have key2 := eRes_out (R1 := RV K) (Q1 := fun k H' => rSetL (.ref p0) k v H' fun H3 => D.nx σ H3) I2 q1 (by
          intro p' xs' b zs G3 H3 z e' hv' x3 c3 I3 r3 q3
          split at q3
          · rename_i kk
            split at q3
            · rename_i xs1 e3
              split at q3
              · rename_i n en
                obtain ⟨p1, vs1, hv1, hp1, hg1, k1⟩ := own_get I3 e3
                rw [hv0] at hv1
                cases hv1
                have r3 : VR K H1 G3 H3 z (.sh (.int kk)) := r3
                refine ⟨p0, vs1, _, n, rfl, r3.int_, hp1, ?_, q3 σ G3 _ (I3.mut e3 hv0 (RpA.set (Rp.mono x3.g kd) n k1)) (Same.refl _)⟩
                rw [k1.length]
                exact en
              · exact q3.elim
            · exact q3.elim
          · exact q3.elim)
        obtain ⟨p2, xs2, e2, hv2, z2⟩ := key2
        exact hi G0 H0 σ G2 H1 _ _ p2 xs2 I2 e2 hv2 z2
      · exact q1.elim
    · exact q1.elim)
  obtain ⟨p, xs, e, hv, z⟩ := key
  exact h G0 H0 σ G H ρ _ p xs I e hv z
theorem sndE_asg {g : TG} {bp : BP} {ts : List Nat} (h : SndE K mg W i te me) (hg : SndG K g bp ts) : SndS K mg W (tAsg te g) (mAsgE i bp me) := by
  intro G0 H0 σ G H ρ D I q
  have key := eRes_out (R1 := RV K) (Q1 := fun v H' => g v σ H' D.nx) I q (by
    intro p xs a ys G1 H1 v e hv x c I1 r1 q1
    split at q1
    · rename_i d
      split at q1
      · rename_i ρ2 eb
        exact hg G0 H0 σ G1 H1 _ v d ρ2 _ I1 r1 eb fun σ' I' _ => q1 σ' G1 H1 I' (Same.refl _)
      · exact q1.elim
    · exact q1.elim)
  obtain ⟨p, xs, e, hv, z⟩ := key
  exact h G0 H0 σ G H ρ _ p xs I e hv z
end
/-- the turns of a loop -/
theorem loop_snd {K : PySem.W.Frag} {mg : Str → Option Value} {W : WX} {g : TG} {bp : BP} {tb : TS} {mb : Rho → Out} {ts : List Nat} (hg : SndG K g bp ts) (hb : SndS K mg W tb mb) {G0 : Bs} {H0 G1 H1 : Hp} {σ : L2.St} {ρ : Rho} {J : It} {xs : List D} {D : Ends} (I1 : EnvS K G0 H0 σ G1 H1 ρ) (hJ : ItS K G1 H1 J xs) (q1 : OutR K mg W G0 H0 G1 D (loop bp mb xs ρ)) :
    ∃ W : Nat → Nat → L2.St → Hp → Prop, (∃ m, W 0 m σ H1) ∧ ∀ i m σ H, W i m σ H →
      (J.stop i H ∧ D.nx σ H) ∨ (J.go i H ∧ ∃ N : L2.St → Hp → Prop, (∀ σ' H', N σ' H' → ∃ m', m' < m ∧ W (i + 1) m' σ' H') ∧ ∀ x H', J.yld i H x H' → g x σ H' fun σ2 H2 => tb { D with nx := N, ct := N, bk := D.nx } σ2 H2) := by
  refine ⟨fun i m σ H => ∃ G ρ, EnvS K G0 H0 σ G H ρ ∧ Same G1 G ∧ i ≤ xs.length ∧ m = xs.length - i ∧ OutR K mg W G0 H0 G D (loop bp mb (xs.drop i) ρ), ⟨xs.length, G1, ρ, I1, Same.refl _, Nat.zero_le _, rfl, q1⟩, ?_⟩
  rintro i m σ H ⟨G2, ρ2, I2, s2, hi2, rfl, q2⟩
  by_cases hlt : i < xs.length
  · refine .inr ⟨hJ.go i G2 H s2 I2.s hlt, fun σ' H' => ∃ G ρ, EnvS K G0 H0 σ' G H' ρ ∧ Same G1 G ∧ OutR K mg W G0 H0 G D (loop bp mb (xs.drop (i + 1)) ρ), fun σ' H' ⟨G3, ρ3, I3, s3, q3⟩ => ⟨xs.length - (i + 1), by omega, G3, ρ3, I3, s3, hlt, rfl, q3⟩, fun x H' y => ?_⟩
    obtain ⟨d, G3, ed, e3, rd⟩ := hJ.yld i G2 H x H' s2 I2.s hlt y
    have I3 := I2.ext' e3
    have hd : xs.drop i = d :: xs.drop (i + 1) := by
      rw [List.drop_eq_getElem_cons hlt]
      congr 1
      rw [List.getElem?_eq_getElem hlt] at ed
      exact Option.some.inj ed
    rw [hd] at q2
    unfold loop at q2
    split at q2
    · exact q2.elim
    · rename_i ρ4 eb
      refine hg G0 H0 σ G3 H' ρ2 x d ρ4 _ I3 rd eb fun σ4 I4 _ => ?_
      refine hb G0 H0 σ4 G3 H' ρ4 _ I4 ?_
      have q2 := OutR.up e3.g q2
      have s3 : Same G1 G3 := s2.trans e3.g
      cases eo : mb ρ4 with
      | nx ρ' =>
        rw [eo] at q2
        exact fun σ5 G5 H5 I5 s5 => ⟨G5, ρ', I5, s3.trans s5, OutR.up s5 q2⟩
      | ct ρ' =>
        rw [eo] at q2
        exact fun σ5 G5 H5 I5 s5 => ⟨G5, ρ', I5, s3.trans s5, OutR.up s5 q2⟩
      | bk ρ' =>
        rw [eo] at q2
        exact q2
      | rt r =>
        rw [eo] at q2
        exact q2
      | rx r ρx =>
        rw [eo] at q2
        exact q2
      | ex n fs ρ' =>
        rw [eo] at q2
        exact q2
      | no =>
        rw [eo] at q2
        exact q2.elim
  · have e : i = xs.length := by omega
    subst e
    rw [List.drop_length] at q2
    exact .inl ⟨hJ.stop _ G2 H s2 I2.s (Nat.le_refl _), q2 σ G2 H I2 (Same.refl _)⟩
section
variable {K : PySem.W.Frag} {mg : Str → Option Value} {W : WX} {i : Nat} {wi : TI} {mi : Rho → RE (List D)} {g : TG} {bp : BP} {tb : TS} {mb : Rho → Out} {ts : List Nat} {tr : TA} {mr : Rho → RE (List D)} {mx : Rho → Res (List D)} {te : TE} {me : Rho → RE Val}
theorem sndE_for (hi : SndIE K mg W i wi mi) (hg : SndG K g bp ts) (hb : SndS K mg W tb mb) : SndS K mg W (tFor wi g tb) (mForE i mi bp mb) := by
  intro G0 H0 σ G H ρ D I q
  obtain ⟨p, xs, e, hv, z⟩ := eRes_out (R1 := RI K) I q fun p xs0 xs ys G1 H1 J e hv x c I1 hJ q1 => loop_snd hg hb I1 hJ q1
  exact hi G0 H0 σ G H ρ _ p xs I e hv z
theorem sndIE_pure (h : SndI K mg W wi mx) : SndIE K mg W i wi (toE i mx) := fun G0 H0 σ G H ρ R p xs I e hv q => h G0 H0 σ G H ρ R I (rr_toE I e hv q)
/-- range of one number or two -/
def mIter1E (mr : Rho → RE (List D)) : Rho → RE (List D) := fun ρ => (mr ρ).bind fun ds xs => liftE xs (match ds with
  | [.int j] => if j.natAbs ≤ 1000000 then some (rangeD 0 j.toNat) else none
  | _ => none)
def mIter2E (mr : Rho → RE (List D)) : Rho → RE (List D) := fun ρ => (mr ρ).bind fun ds xs => liftE xs (match ds with
  | [.int i, .int j] => if i.natAbs ≤ 1000000 ∧ j.natAbs ≤ 1000000 then some (rangeD i (j - i).toNat) else none
  | _ => none)
theorem sndIE_1 (h : SndAE K mg W i tr mr) : SndIE K mg W i (iRng1 tr) (mIter1E mr) := by
  intro G0 H0 σ G H ρ R p xs I e hv q
  refine h G0 H0 σ G H ρ _ p xs I e hv (RRE.bnd (ExtE.refl I.s) (I.cell e hv).1.ne q fun ds xs1 G1 H1 vs ea x1 c1 r1 h1 => ?_)
  have r1 : RpA K G1 vs ds := r1
  obtain ⟨ys, ey, q1⟩ := h1.lift
  split at ey
  · split at ey
    · cases ey
      cases r1 with
      | cons a b =>
        cases b
        cases a
        exact ⟨_, rfl, by omega, by omega, q1 G1 H1 _ x1 c1 its_rng⟩
    · cases ey
  · cases ey
theorem sndIE_2 (h : SndAE K mg W i tr mr) : SndIE K mg W i (iRng2 tr) (mIter2E mr) := by
  intro G0 H0 σ G H ρ R p xs I e hv q
  refine h G0 H0 σ G H ρ _ p xs I e hv (RRE.bnd (ExtE.refl I.s) (I.cell e hv).1.ne q fun ds xs1 G1 H1 vs ea x1 c1 r1 h1 => ?_)
  have r1 : RpA K G1 vs ds := r1
  obtain ⟨ys, ey, q1⟩ := h1.lift
  split at ey
  · split at ey
    · cases ey
      cases r1 with
      | cons a b =>
        cases b with
        | cons a' b' =>
          cases b'
          cases a
          cases a'
          exact ⟨_, _, rfl, ⟨by omega, by omega, by omega, by omega⟩, q1 G1 H1 _ x1 c1 its_rng⟩
    · cases ey
  · cases ey
/-- a list that a call hands back -/
def mIterLE (me : Rho → RE Val) : Rho → RE (List D) := fun ρ => (me ρ).bind fun a xs => match esc a with
  | some (.list ds) => .ok ds xs
  | _ => .no
theorem sndIE_list (h : SndE K mg W i te me) : SndIE K mg W i (iList K te) (mIterLE me) := by
  intro G0 H0 σ G H ρ R p xs I e hv q
  have hp0 := (I.cell e hv).1.ne
  refine h G0 H0 σ G H ρ _ p xs I e hv (RRE.bnd (ExtE.refl I.s) hp0 q fun a xs1 G1 H1 x ea x1 c1 r1 h1 => ?_)
  have r1 : VR K H G1 H1 x a := r1
  cases ed : esc a with
  | none =>
    rw [ed] at h1
    exact h1.elim
  | some d =>
    rw [ed] at h1
    cases d with
    | list ds =>
      obtain ⟨G2, x2, s2, kd, c2⟩ := esc_oneE x1 hp0 c1 r1.vw ed
      cases kd with
      | lst hq k => exact ⟨_, rfl, ⟨_, SqL.of (x2.s _ _ hq)⟩, h1 G2 H1 _ x2 c2 (its_list (SqL.of hq) k)⟩
    | _ => exact h1.elim
end
end Mi

namespace Mi
open PySem PySem.Spec PyProof.Rows L2

/-! ### comprehensions with effects -/
def compE (i : Nat) (bp : BP) (mt : Rho → RE Bool) (me : Rho → RE Val) (ρ : Rho) : List D → List D → List D → RE (List D)
  | [], acc, zs => .ok acc zs
  | d :: ds, acc, zs => match bp d (ioPut i zs ρ) with
    | none => .no
    | some ρ1 => match ioGet i ρ1 with
      | none => .no
      | some _ => match mt ρ1 with
        | .ok b z1 => if b = true then match ioGet i (ioPut i z1 ρ1) with
            | none => .no
            | some _ => match me (ioPut i z1 ρ1) with
              | .ok r z2 => match esc r with
                | some x => if acc.length < 100000 then compE i bp mt me ρ ds (acc ++ [x]) z2 else .no
                | none => .no
              | _ => .no
          else compE i bp mt me ρ ds acc z1
        | _ => .no
def mCompE (i : Nat) (mi : Rho → RE (List D)) (bp : BP) (mt : Rho → RE Bool) (me : Rho → RE Val) (vs : List Nat) : Rho → RE Val := fun ρ => (mi ρ).bind fun xs ys => match ioGet i (wipeR (ioPut i ys ρ) vs) with
  | none => .no
  | some _ => match compE i bp mt me (wipeR (ioPut i ys ρ) vs) xs [] ys with
    | .ok zs ws => .ok (.ow zs) ws
    | _ => .no
theorem ExtE.mutN {p q : Addr} {G1 H1 G H : Hp} {o : HO} (e : ExtE p G1 H1 G H) (h : H1 q = none) (g : G q = none) : ExtE p G1 H1 G (upd H q o) := by
  refine ⟨fun b u n z => ?_, e.g, fun b u z => ?_, e.n⟩
  · rw [upd_ne (ne_of_none z h)]
    exact e.h _ _ n z
  · rw [upd_ne (ne_of_none z g)]
    exact e.s _ _ z
theorem wipe_at {i : Nat} : ∀ {vs : List Nat} {σ : L2.St}, i ∉ vs → (wipe σ vs)[i]? = σ[i]?
  | [], _, _ => rfl
  | v :: vs, σ, h => by
    show ((wipe σ vs).set v none)[i]? = σ[i]?
    rw [List.getElem?_set, if_neg (fun e => h (by rw [e]; exact List.mem_cons_self))]
    exact wipe_at fun e => h (List.mem_cons_of_mem _ e)
theorem Cel.upd {K : PySem.W.Frag} {p q : Addr} {G H : Hp} {o : HO} {xs : List D} (c : Cel K p G H xs) (n : p ≠ q) : Cel K p G (upd H q o) xs := by
  obtain ⟨us, a, b, k⟩ := c
  exact ⟨us, by rw [upd_ne n]; exact a, b, k⟩
theorem ioGet_some {i : Nat} {ρ : Rho} {xs ys : List D} (e : ioGet i ρ = some xs) : ∃ zs, ioGet i (ioPut i ys ρ) = some zs := ⟨ys, ioGet_put e⟩
theorem ioPut_ow {i : Nat} {ρ : Rho} {xs ys : List D} (e : ρ[i]? = some (some (.ow xs))) : ioPut i ys ρ = ρ.set i (some (.ow ys)) := by
  unfold ioPut
  rw [e]
theorem ioPut_io {i : Nat} {ρ : Rho} {xs ys : List D} (e : ρ[i]? = some (some (.io xs))) : ioPut i ys ρ = ρ.set i (some (.io ys)) := by
  unfold ioPut
  rw [e]
theorem ioPut_put {i : Nat} {ρ : Rho} {zs xs ys : List D} (e : ioGet i ρ = some zs) : ioPut i ys (ioPut i xs ρ) = ioPut i ys ρ := by
  rcases ioGet_inv e with h | h
  · have hl := (List.getElem?_eq_some_iff.mp h).1
    have h2 : (ρ.set i (some (.ow xs)))[i]? = some (some (.ow xs)) := by rw [List.getElem?_set, if_pos rfl, if_pos hl]
    rw [ioPut_ow h, ioPut_ow h, ioPut_ow h2, List.set_set]
  · have hl := (List.getElem?_eq_some_iff.mp h).1
    have h2 : (ρ.set i (some (.io xs)))[i]? = some (some (.io xs)) := by rw [List.getElem?_set, if_pos rfl, if_pos hl]
    rw [ioPut_io h, ioPut_io h, ioPut_io h2, List.set_set]
section
variable {K : PySem.W.Frag} {mg : Str → Option Value} {W : WX} {i : Nat}
theorem sndE_comp {wi : TI} {mi : Rho → RE (List D)} {g : TG} {bp : BP} {ts : List Nat} {tt : TT} {mt : Rho → RE Bool} {te : TE} {me : Rho → RE Val} {vs : List Nat} (hi : SndIE K mg W i wi mi) (hg : SndG K g bp ts) (hts : ∀ t ∈ ts, t ∈ vs) (hiv : i ∉ vs)
    (ht : SndTE K mg W0 i tt mt) (he : SndE K mg W0 i te me) : SndE K mg W i (tLc wi g tt te vs) (mCompE i mi bp mt me vs) := by
  intro G0 H0 σ G H ρ Q p xs0 I e hv q
  have hp0 := (I.cell e hv).1.ne
  refine hi G0 H0 σ G H ρ _ p xs0 I e hv (RRE.bnd (ExtE.refl I.s) hp0 q fun xs ys G1 H1 J ex x1 c1 hJ q1 => ?_)
  have hJ : ItS K G1 H1 J xs := hJ
  intro Dl nD
  have hD : H Dl = none := x1.free c1.ne nD
  have gD : G1 Dl = none := x1.s.free nD
  have npD : p ≠ Dl := fun z => c1.ne (z ▸ nD)
  have I1 := (I.eff e hv x1 c1).wipe vs
  have hvw : (wipe σ vs)[i]? = some (some (.ref p)) := by rw [wipe_at hiv]; exact hv
  split at q1
  · exact q1.elim
  rename_i w0 ew
  split at q1
  · rename_i zs ws ey
    refine ⟨fun i' m H2 => ∃ G2 acc av cz, ExtE p G1 H1 G2 H2 ∧ Cel K p G2 H2 cz ∧ G2 Dl = none ∧ H2 Dl = some (.lst av) ∧ RpA K G2 av acc ∧ i' ≤ xs.length ∧ m = xs.length - i' ∧ compE i bp mt me (wipeR (ioPut i ys ρ) vs) (xs.drop i') acc cz = .ok zs ws,
      ⟨xs.length, G1, [], [], ys, (Ext.newO x1.s nD).toE, c1.upd npD, gD, upd_same, .nil, Nat.zero_le _, rfl, ey⟩, ?_⟩
    rintro i' m H2 ⟨G2, acc, av, cz, e2, cc, g2, h2, ka, hi2, rfl, ec⟩
    by_cases hlt : i' < xs.length
    · refine .inr ⟨hJ.go i' G2 H2 e2.g e2.s hlt, fun H' => ∃ G2 acc av cz, ExtE p G1 H1 G2 H' ∧ Cel K p G2 H' cz ∧ G2 Dl = none ∧ H' Dl = some (.lst av) ∧ RpA K G2 av acc ∧ compE i bp mt me (wipeR (ioPut i ys ρ) vs) (xs.drop (i' + 1)) acc cz = .ok zs ws,
        fun H' ⟨G3, acc3, av3, cz3, z1, z1', z2, z3, z4, z5⟩ => ⟨xs.length - (i' + 1), by omega, G3, acc3, av3, cz3, z1, z1', z2, z3, z4, hlt, rfl, z5⟩, fun x H' y => ?_⟩
      obtain ⟨d, G3, ed, e3, rd⟩ := hJ.yld i' G2 H2 x H' e2.g e2.s hlt y
      have hd : xs.drop i' = d :: xs.drop (i' + 1) := by
        rw [List.drop_eq_getElem_cons hlt]
        congr 1
        rw [List.getElem?_eq_getElem hlt] at ed
        exact Option.some.inj ed
      rw [hd] at ec
      unfold compE at ec
      split at ec
      · cases ec
      · rename_i ρ4 eb
        have e13 := e2.trans cc.ne e3.toE
        have c3 := cc.ext e3
        have I3 := I1.eff ew hvw e13 c3
        refine hg G0 H0 _ G3 H' _ x d ρ4 _ I3 rd eb fun σ4 I4 oa => ⟨?_, ?_⟩
        · exact (oa vs hts).trans (onlyAt_wipe vs σ vs fun t q => q)
        · have hv4 : σ4[i]? = some (some (.ref p)) := by
            have z := (oa vs hts)
            have z1 : (wipe σ4 vs)[i]? = (wipe (wipe σ vs) vs)[i]? := by rw [z]
            rw [wipe_at hiv, wipe_at hiv] at z1
            rw [z1]
            exact hvw
          split at ec
          · cases ec
          rename_i w4 e4
          split at ec
          · rename_i b z1 et
            refine ht G0 H0 σ4 G3 H' ρ4 _ p w4 I4 e4 hv4 ?_
            rw [et]
            intro G4 H4 b' x4 c4 eb'
            cases (show b' = b from eb')
            have n34 : ∀ {G' H'' : Hp}, ExtE p G3 H' G' H'' → G' Dl = none ∧ H'' Dl = some (.lst av) := fun {G' H''} z =>
              ⟨z.n Dl (by rw [e3.h _ _ h2]; exact Option.some_ne_none _) (e3.n Dl (by rw [h2]; exact Option.some_ne_none _) g2), z.h _ _ (Ne.symm npD) (e3.h _ _ h2)⟩
            cases b with
            | false => exact iteF ⟨G4, acc, av, z1, e13.trans c3.ne x4, c4, (n34 x4).1, (n34 x4).2, ka.mono (e3.g.trans x4.g), ec⟩
            | true =>
              have I5 := I4.eff e4 hv4 x4 c4
              have ec : (match ioGet i (ioPut i z1 ρ4) with
                | none => RE.no
                | some _ => match me (ioPut i z1 ρ4) with
                  | .ok r z2 => match esc r with
                    | some x => if acc.length < 100000 then compE i bp mt me (wipeR (ioPut i ys ρ) vs) (xs.drop (i' + 1)) (acc ++ [x]) z2 else .no
                    | none => .no
                  | _ => .no) = .ok zs ws := ec
              rw [ioGet_put e4] at ec
              refine iteT (he G0 H0 σ4 G4 H4 (ioPut i z1 ρ4) _ p z1 I5 (ioGet_put e4) hv4 ?_)
              simp only at ec
              split at ec
              · rename_i r z2 er
                rw [er]
                intro G5 H5 v x5 c5 r5
                split at ec
                · rename_i x' ex'
                  split at ec
                  · rename_i hl
                    obtain ⟨G6, x6, s6, k6, c6⟩ := esc_oneE x5 c4.ne c5 (show VR K H4 G5 H5 v r from r5).vw ex'
                    have x36 := x4.trans c4.ne x6
                    have e16 := e13.trans c3.ne x36
                    refine ⟨av, (n34 x36).2, ?_, G6, acc ++ [x'], av ++ [v], z2, e16.mutN nD (n34 x36).1, c6.upd npD, (n34 x36).1, upd_same, (ka.mono (e3.g.trans x36.g)).append (.cons k6 .nil), ec⟩
                    rw [ka.length]
                    exact sz_lt hl
                  · cases ec
                · cases ec
              · cases ec
          · cases ec
    · have e' : i' = xs.length := by omega
      subst e'
      rw [List.drop_length] at ec
      have ec : RE.ok acc cz = RE.ok zs ws := ec
      cases ec
      exact .inl ⟨hJ.stop _ G2 H2 e2.g e2.s (Nat.le_refl _), q1 G2 H2 _ (x1.trans c1.ne e2) cc ⟨Dl, av, rfl, h2, g2, hD, ka⟩⟩
  · exact q1.elim
end
structure PMTsE (i : Nat) (X : Cx) (W : WX) (ifs : List Expr) (tt : TT) (mt : Rho → RE Bool) : Prop where
  p : PTs X ifs tt
  s : SndTE X.K X.mg W i tt mt
theorem pmtse_nil {i : Nat} {X : Cx} {W : WX} : PMTsE i X W [] tYes (toE i mYes) := ⟨pts_nil, sndTE_pure snd_yes⟩
theorem pmtse_one {i : Nat} {X : Cx} {W : WX} {c : Expr} {tt : TT} {mt : Rho → RE Bool} (h : PMTE i X W c tt mt) : PMTsE i X W [c] tt mt := ⟨pts_one h.p, h.s⟩
section
variable {i : Nat} {X : Cx} {W : WX} {elt tg iter : Expr} {ifs : List Expr} {scope : Scope} {own : List (Str × Nat)} {pos : Pos} {wi : TI} {mi : Rho → RE (List D)} {g : TG} {bp : BP} {ts : List Nat} {tt : TT} {mt : Rho → RE Bool} {te : TE} {me : Rho → RE Val}
theorem pmie_pure {mx : Rho → Res (List D)} (h : PMI X W tg iter wi mx) : PMIE i X W tg iter wi (toE i mx) := ⟨h.p, sndIE_pure h.s⟩
theorem pme_lc (own : List (Str × Nat)) (hc : X.calm = true) (hN : X.N.Nodup) (hi : PMIE i X W tg iter wi mi) (ok : BlkOk X.N X.env.scope scope own) (hts : ∀ t ∈ ts, t ∈ own.map (·.2)) (hiv : i ∉ own.map (·.2))
    (hg : ∀ (s : Shared) (H : Hp) (C : Addr) (cl : List (Str × Addr)) (fp : List Addr), PMG (X.blk s H scope (compEnvC scope cl C X.env) fp) tg g bp ts)
    (ht : ∀ (s : Shared) (H : Hp) (C : Addr) (cl : List (Str × Addr)) (fp : List Addr), PMTsE i (X.blk s H scope (compEnvC scope cl C X.env) fp) W0 ifs tt mt)
    (he : ∀ (s : Shared) (H : Hp) (C : Addr) (cl : List (Str × Addr)) (fp : List Addr), PME i (X.blk s H scope (compEnvC scope cl C X.env) fp) W0 elt te me) (hs : ∀ x, foldedSetIterable iter X.env x = pure x := by intro _; rfl) :
    PME i X W (.ListComp elt [⟨tg, iter, ifs, 0⟩] scope pos) (tLc wi g tt te (own.map (·.2))) (mCompE i mi bp mt me (own.map (·.2))) := by
  have h1 := hg X.s_0 X.H_0 0 [] []
  have h2 := ht X.s_0 X.H_0 0 [] []
  have h3 := he X.s_0 X.H_0 0 [] []
  exact ⟨pe_lc hc hN hi.p ok (fun s H C cl fp => (hg s H C cl fp).p) (fun s H C cl fp => (ht s H C cl fp).p) (fun s H C cl fp => (he s H C cl fp).p) hs, sndE_comp hi.s h1.s hts hiv h2.s h3.s⟩
theorem pms_setLcE (j : Nat) (own : List (Str × Nat)) {y : Str} {py spos : Pos} (hc : X.calm = true) (hN : X.N.Nodup) (hy : X.N[j]? = some y) (hyl : X.env.scope.names.lookup y = some .local)
    (hsw : swapsWith (.ListComp elt [⟨tg, iter, ifs, 0⟩] scope pos) (some (.Name y py)) spos.line X.env = pure true) (hi : PMIE i X W tg iter wi mi) (ok : BlkOk X.N X.env.scope scope own) (hts : ∀ t ∈ ts, t ∈ own.map (·.2)) (hiv : i ∉ own.map (·.2))
    (hg : ∀ (s : Shared) (H : Hp) (C : Addr) (cl : List (Str × Addr)) (fp : List Addr), PMG (X.blk s H scope (compEnvC scope cl C X.env) fp) tg g bp ts)
    (ht : ∀ (s : Shared) (H : Hp) (C : Addr) (cl : List (Str × Addr)) (fp : List Addr), PMTsE i (X.blk s H scope (compEnvC scope cl C X.env) fp) W0 ifs tt mt)
    (he : ∀ (s : Shared) (H : Hp) (C : Addr) (cl : List (Str × Addr)) (fp : List Addr), PME i (X.blk s H scope (compEnvC scope cl C X.env) fp) W0 elt te me) (hs : ∀ x, foldedSetIterable iter X.env x = pure x := by intro _; rfl) :
    PMS X W (.Assign [.Name y py] (.ListComp elt [⟨tg, iter, ifs, 0⟩] scope pos) spos) (tAsg (tLc wi g tt te (own.map (·.2))) (gName j)) (mSetE j i (mCompE i mi bp mt me (own.map (·.2)))) := by
  have h1 := hg X.s_0 X.H_0 0 [] []
  have h2 := ht X.s_0 X.H_0 0 [] []
  have h3 := he X.s_0 X.H_0 0 [] []
  exact ⟨ps_setLc hc hN hy hyl hsw hi.p ok (fun s H C cl fp => (hg s H C cl fp).p) (fun s H C cl fp => (ht s H C cl fp).p) (fun s H C cl fp => (he s H C cl fp).p) hs, sndE_set (sndE_comp hi.s h1.s hts hiv h2.s h3.s)⟩
end

/-! ### statements of the program -/
section
variable {X : Cx} {W : WX} {i : Nat} {e c tg iter : Expr} {te : TE} {me : Rho → RE Val} {tA : TT} {mA : Rho → RE Bool} {t u : TS} {a b : Rho → Out} {sts rest body : List Stmt} {pos pos' : Pos} {g : TG} {bp : BP} {ts : List Nat} {wi : TI} {mi : Rho → RE (List D)} {tb : TS} {mb : Rho → Out} {tr : TA} {mr : Rho → RE (List D)} {p : Pos}
theorem pms_setE (j : Nat) {x : Str} (hN : X.N.Nodup) (h : PME i X W e te me) (hi : X.N[j]? = some x := by rfl) (hx : Loc X.env.scope x := by first | exact Or.inl rfl | exact Or.inr rfl) (hs : swapsWith e (some (.Name x pos')) pos.line X.env = pure false := by rfl)
    (hf : X.fn x = true ∨ X.env.scope.names.lookup x = some .local := by first | exact .inl rfl | exact .inr rfl | assumption) : PMS X W (.Assign [.Name x pos'] e pos) (tAsg te (gName j)) (mSetE j i me) := ⟨ps_set hN hi hx h.p hs hf, sndE_set h.s⟩
theorem pms_dropE (h : PME i X W e te me) (hs : swapsWith e none pos.line X.env = pure false := by rfl) : PMS X W (.Expr e pos) (tDrop te) (mDropE i me) := ⟨ps_expr h.p hs, sndE_drop h.s⟩
theorem pms_ifSE (hc : PMTE i X W c tA mA) (ha : PMSs X W sts t a) (hb : PMSs X W rest u b) : PMS X W (.If c sts rest pos) (tIfS tA t u) (mIfSE i mA a b) := ⟨ps_if hc.p ha.p hb.p, sndE_ifS hc.s ha.s hb.s⟩
theorem pms_retE (h : PME i X W e te me) : PMS X W (.Return (some e) pos) (tRet te) (mRetE i me) := ⟨ps_ret h.p, sndE_ret h.s⟩
theorem pms_retX (h : PME i X W e te me) : PMS X W (.Return (some e) pos) (tRet te) (mRetX i me) := ⟨ps_ret h.p, sndE_retX h.s⟩
theorem pms_retXV (j : Nat) {x : Str} (hN : X.N[j]? = some x := by rfl) (hv : Vis X.env.scope x := by first | exact Or.inl rfl | exact Or.inr (Or.inl rfl) | exact Or.inr (Or.inr rfl)) (hd : (x == ("__debug__" : Str)) = false := by decide)
    (hcd : (x == ("__classdict__" : Str)) = false := by decide) : PMS X W (.Return (some (.Name x pos')) pos) (tRet (tVar j)) (mRetXV j) := ⟨ps_ret (pe_var hN hv hd hcd), snd_retXV⟩
theorem pms_appE (j : Nat) {x : Str} {p apos cpos : Pos} (h : PME i X W e te me) (hN : X.N[j]? = some x := by rfl) (hv : Vis X.env.scope x := by first | exact Or.inl rfl | exact Or.inr (Or.inl rfl) | exact Or.inr (Or.inr rfl)) (hd : (x == ("__debug__" : Str)) = false := by decide)
    (hcd : (x == ("__classdict__" : Str)) = false := by decide)
    (hst : starEach [e] X.env = (false, eval e X.env) :: starEach [] X.env := by rfl)
    (hbase : attributeBase (.Name x p) "append" X.env (eval (.Name x p) X.env) = eval (.Name x p) X.env := by rfl)
    (hfew : ((backTo cpos (starEach [e] X.env)).all (fun x => !x.1) && (backToKw cpos (keywordEach [] X.env)).all (fun x => x.1.isSome) && decide ([e].length + ([] : List Keyword).length + (if ([] : List Keyword).isEmpty then 0 else 1) < 30)) = true := by rfl)
    (hline : (apos.endLine == cpos.line) = true := by rfl) (hplain : (backTo cpos (starEach [] X.env)).any (·.1) = false := by rfl)
    (hs : swapsWith (.Call (.Attribute (.Name x p) "append" apos) [e] [] cpos) none pos.line X.env = pure false := by rfl) :
    PMS X W (.Expr (.Call (.Attribute (.Name x p) "append" apos) [e] [] cpos) pos) (tDrop (tBM X.K "list" rAppend (tVar j) (tCons te tNil))) (mAppE j i me) :=
  ⟨ps_expr (pe_bm PySem.F.plainAttrs_list PySem.F.slot_list_append PySem.F.type_list_append mt_append (pe_var hN hv hd hcd) (pa_cons h.p pa_nil hst) hbase hfew hline hst hplain) hs, sndE_app h.s⟩
theorem pms_insE (j : Nat) {x : Str} {p apos cpos : Pos} {f : Expr} {t2 : TE} {m2 : Rho → Res Val} (h1 : PME i X W e te me) (h2 : PM X W f t2 m2) (hN : X.N[j]? = some x := by rfl) (hv : Vis X.env.scope x := by first | exact Or.inl rfl | exact Or.inr (Or.inl rfl) | exact Or.inr (Or.inr rfl)) (hd : (x == ("__debug__" : Str)) = false := by decide)
    (hcd : (x == ("__classdict__" : Str)) = false := by decide) (st : starEach [e, f] X.env = (false, eval e X.env) :: starEach [f] X.env := by rfl) (st2 : starEach [f] X.env = (false, eval f X.env) :: starEach [] X.env := by rfl)
    (hbase : attributeBase (.Name x p) "insert" X.env (eval (.Name x p) X.env) = eval (.Name x p) X.env := by rfl)
    (hfew : ((backTo cpos (starEach [e, f] X.env)).all (fun x => !x.1) && (backToKw cpos (keywordEach [] X.env)).all (fun x => x.1.isSome) && decide ([e, f].length + ([] : List Keyword).length + (if ([] : List Keyword).isEmpty then 0 else 1) < 30)) = true := by rfl)
    (hline : (apos.endLine == cpos.line) = true := by rfl) (hplain : (backTo cpos (starEach [f] X.env)).any (·.1) = false := by rfl)
    (hs : swapsWith (.Call (.Attribute (.Name x p) "insert" apos) [e, f] [] cpos) none pos.line X.env = pure false := by rfl) :
    PMS X W (.Expr (.Call (.Attribute (.Name x p) "insert" apos) [e, f] [] cpos) pos) (tDrop (tBM X.K "list" rIns (tVar j) (tCons te (tCons t2 tNil)))) (mInsE j i me m2) :=
  ⟨ps_expr (pe_bm PySem.F.plainAttrs_list PySem.F.slot_list_insert PySem.F.type_list_insert mt_insert (pe_var hN hv hd hcd) (pa_cons h1.p (pa_cons h2.p pa_nil st2) st) hbase hfew hline st hplain) hs, sndE_ins h1.s h2.s⟩
theorem pms_putE (n : Nat) {x : Str} {p sp : Pos} {f : Expr} {ti : TE} {mi : Rho → RE Val} (hi : PME i X W f ti mi) (h : PME i X W e te me) (hN : X.N[n]? = some x := by rfl) (hv : Vis X.env.scope x := by first | exact Or.inl rfl | exact Or.inr (Or.inl rfl) | exact Or.inr (Or.inr rfl)) (hd : (x == ("__debug__" : Str)) = false := by decide)
    (hcd : (x == ("__classdict__" : Str)) = false := by decide) (ha : ∀ v, assign (.Subscript (.Name x p) f sp) X.env v = (do
      let ov ← holding [v] (eval (.Name x p) X.env); let iv ← holding [v, ov] (eval f X.env); standAt sp; holding [v, ov, iv] (setItem ov iv v); release [v, ov, iv] []) := by intro _; rfl)
    (hs : swapsWithSole [.Subscript (.Name x p) f sp] e pos.line X.env = pure false := by rfl) (hw : swappedStores [.Subscript (.Name x p) f sp] e X.env = pure none := by rfl)
    (h1 : (assignEach [.Subscript (.Name x p) f sp] X.env).map (·.2) = [assign (.Subscript (.Name x p) f sp) X.env] := by rfl) : PMS X W (.Assign [.Subscript (.Name x p) f sp] e pos) (tAsg te (gSub (tVar n) ti rSetL)) (mPutE n i mi me) :=
  ⟨ps_asg h.p (pg_sub (pe_var hN hv hd hcd) hi.p set_list ha) hs hw h1, sndE_put hi.s h.s⟩
theorem pms_asgE (h : PME i X W e te me) (hg : PMG X tg g bp ts) (hs : swapsWithSole [tg] e pos.line X.env = pure false := by rfl) (hw : swappedStores [tg] e X.env = pure none := by rfl)
    (h1 : (assignEach [tg] X.env).map (·.2) = [assign tg X.env] := by rfl) : PMS X W (.Assign [tg] e pos) (tAsg te g) (mAsgE i bp me) := ⟨ps_asg h.p hg.p hs hw h1, sndE_asg h.s hg.s⟩
theorem pms_forE (hp : PassesOwn (model X.prog X.w) X.A X.env X.xe) (hc : X.calm = true) (hi : PMIE i X W tg iter wi mi) (hg : PMG X tg g bp ts) (hb : PMSs X W body tb mb) (hs : ∀ x, foldedSetIterable iter X.env x = pure x := by intro _; rfl) :
    PMS X W (.For tg iter body [] pos) (tFor wi g tb) (mForE i mi bp mb) := ⟨ps_for hp hc hi.p hg.p hb.p hs, sndE_for hi.s hg.s hb.s⟩
theorem pmie_1 {a : Expr} (hm : X.mg "range" = none) (h : PMAE i X W [a] tr mr) (hg : Gl X "range" := by rfl) (hs : starEach [a] X.env = [(false, eval a X.env)] := by rfl) : PMIE i X W tg (.Call (.Name "range" p) [a] [] pos) (iRng1 tr) (mIter1E mr) := ⟨pi_range1 hg hm h.p hs, sndIE_1 h.s⟩
theorem pmie_2 {a b : Expr} (hm : X.mg "range" = none) (h : PMAE i X W [a, b] tr mr) (hg : Gl X "range" := by rfl) (hs : starEach [a, b] X.env = [(false, eval a X.env), (false, eval b X.env)] := by rfl) (hs2 : starEach [b] X.env = [(false, eval b X.env)] := by rfl) :
    PMIE i X W tg (.Call (.Name "range" p) [a, b] [] pos) (iRng2 tr) (mIter2E mr) := ⟨pi_range2 hg hm h.p hs hs2, sndIE_2 h.s⟩
theorem pmie_list {K : PySem.W.Frag} (h : PME i X W e te me) (hk : X.K = K := by rfl) : PMIE i X W tg e (iList K te) (mIterLE me) := by
  subst hk
  exact ⟨pi_list h.p, sndIE_list h.s⟩
end

theorem pmte_cmpV {i : Nat} (j : Nat) {X : Cx} {W : WX} {b : Expr} {tb : TE} {mb : Rho → RE Val} {x : Str} {p pos : Pos} {op : CmpOp} {r : R2} {mo : Val → Val → Option Val} (ho : OpR X (compareOp op) r) (hs : OpS X.K r mo) (hb : PME i X W b tb mb) (hm : behindInMarks op b = false := by first | exact nomark _ | rfl) (hN : X.N[j]? = some x := by rfl) (hv : Vis X.env.scope x := by first | exact Or.inl rfl | exact Or.inr (Or.inl rfl) | exact Or.inr (Or.inr rfl)) (hd : (x == ("__debug__" : Str)) = false := by decide)
    (hcd : (x == ("__classdict__" : Str)) = false := by decide) : PMTE i X W (.Compare (.Name x p) [op] [b] pos) (tTest (tOp r (tVar j) tb)) (mTestE (mOpV i j mo mb)) := ⟨pt_cmpR ho (pe_var hN hv hd hcd) hb.p hm, sndE_test (sndE_opV hs hb.s)⟩
theorem fng_no {P : Program} {w : World} {K : PySem.W.Frag} {mg : Str → Option Value} {base : Heap} {k n : Nat} {f : Addr} {fd : FuncData} {ps : List Str} (e : ps.length = n) : FnG P w K mg base k f fd ps (spM K mg n fun _ => .no) :=
  ⟨fun vs H Q E ⟨_, _, _, _, _, h, _⟩ => h.trans e.symm, fun A outer s H args us vs Q E _ _ _ _ _ ⟨_, _, _, _, _, _, h⟩ => h.elim⟩
theorem fng_noIO {P : Program} {w : World} {K : PySem.W.Frag} {mg : Str → Option Value} {base : Heap} {k n c : Nat} {f : Addr} {fd : FuncData} {ps : List Str} (e : ps.length = n) : FnG P w K mg base k f fd ps (spIO K mg n c fun _ => .no) :=
  ⟨fun vs H Q E ⟨_, _, _, _, _, _, _, _, h, _⟩ => h.trans e.symm, fun A outer s H args us vs Q E _ _ _ _ _ ⟨_, _, _, _, _, _, _, _, _, h⟩ => h.elim⟩

/-! ### xs.extend(ys), xs.reverse() -/
def mExt (i : Nat) (me : Rho → Res Val) : Rho → Out := fun ρ => match ρ[i]? with
  | some (some (.ow xs)) => sRes (me ρ) ρ fun r => match r with
    | .ow ys => if xs.length + ys.length ≤ 100000 then .nx (ρ.set i (some (.ow (xs ++ ys)))) else .no
    | .sh (.list ys) => if xs.length + ys.length ≤ 100000 then .nx (ρ.set i (some (.ow (xs ++ ys)))) else .no
    | _ => .no
  | _ => .no
def mRevS (i : Nat) : Rho → Out := fun ρ => match ρ[i]? with
  | some (some (.ow xs)) => .nx (ρ.set i (some (.ow xs.reverse)))
  | _ => .no
section
variable {K : PySem.W.Frag} {mg : Str → Option Value} {W : WX} {i : Nat} {te : TE} {me : Rho → Res Val}
theorem snd_extend (h : Snd K mg W te me) : SndS K mg W (tDrop (tBM K "list" rExtend (tVar i) (tCons te tNil))) (mExt i me) := by
  intro G0 H0 σ G H ρ D I q
  unfold mExt at q
  split at q
  · rename_i xs e
    obtain ⟨p, vs0, hv, hp0, hg0, k0⟩ := own_get I e
    refine ⟨.ref p, hv, .inl ⟨rfl, vs0, SqL.of hp0⟩, ?_⟩
    refine h G0 H0 σ G H ρ _ I (RR.out I q fun r G1 H1 v er e1 r1 q1 => ?_)
    have I1 := I.ext' e1
    obtain ⟨p', vs', hv', hp', hg', k'⟩ := own_get I1 e
    rw [hv] at hv'
    cases hv'
    split at q1
    · split at q1
      · rename_i ys hl
        obtain ⟨b, us, rfl, hb, gb, _, kb⟩ := r1
        exact ⟨p, b, vs', us, rfl, rfl, hp', hb, by rw [k'.length, kb.length]; exact sz_le hl, q1 σ G1 _ (I1.mut e hv (k'.append kb)) (Same.refl _)⟩
      · exact q1.elim
    · split at q1
      · rename_i ys hl
        have r1 : Rp K G1 v (.list ys) := r1
        cases r1 with
        | lst hb kb => exact ⟨p, _, vs', _, rfl, rfl, hp', e1.s _ _ hb, by rw [k'.length, kb.length]; exact sz_le hl, q1 σ G1 _ (I1.mut e hv (k'.append kb)) (Same.refl _)⟩
      · exact q1.elim
    · exact q1.elim
  · exact q.elim
theorem snd_revS : SndS K mg W (tDrop (tBM0 K "list" rReverse (tVar i))) (mRevS i) := by
  intro G0 H0 σ G H ρ D I q
  unfold mRevS at q
  split at q
  · rename_i xs e
    obtain ⟨p, vs, hv, hp, hg, k⟩ := own_get I e
    exact ⟨.ref p, hv, .inl ⟨rfl, vs, SqL.of hp⟩, p, vs, rfl, rfl, hp, q σ G _ (I.mut e hv k.reverse) (Same.refl _)⟩
  · exact q.elim
end
section
variable {X : Cx} {W : WX} {e : Expr} {te : TE} {me : Rho → Res Val} {pos : Pos}
theorem pms_ext (i : Nat) {x : Str} {p apos cpos : Pos} (h : PM X W e te me) (hN : X.N[i]? = some x := by rfl) (hv : Vis X.env.scope x := by first | exact Or.inl rfl | exact Or.inr (Or.inl rfl) | exact Or.inr (Or.inr rfl)) (hd : (x == ("__debug__" : Str)) = false := by decide)
    (hcd : (x == ("__classdict__" : Str)) = false := by decide)
    (hst : starEach [e] X.env = (false, eval e X.env) :: starEach [] X.env := by rfl)
    (hbase : attributeBase (.Name x p) "extend" X.env (eval (.Name x p) X.env) = eval (.Name x p) X.env := by rfl)
    (hfew : ((backTo cpos (starEach [e] X.env)).all (fun x => !x.1) && (backToKw cpos (keywordEach [] X.env)).all (fun x => x.1.isSome) && decide ([e].length + ([] : List Keyword).length + (if ([] : List Keyword).isEmpty then 0 else 1) < 30)) = true := by rfl)
    (hline : (apos.endLine == cpos.line) = true := by rfl) (hplain : (backTo cpos (starEach [] X.env)).any (·.1) = false := by rfl)
    (hs : swapsWith (.Call (.Attribute (.Name x p) "extend" apos) [e] [] cpos) none pos.line X.env = pure false := by rfl) :
    PMS X W (.Expr (.Call (.Attribute (.Name x p) "extend" apos) [e] [] cpos) pos) (tDrop (tBM X.K "list" rExtend (tVar i) (tCons te tNil))) (mExt i me) :=
  ⟨ps_expr (pe_bm PySem.F.plainAttrs_list PySem.F.slot_list_extend PySem.F.type_list_extend mt_extend (pe_var hN hv hd hcd) (pa_cons h.p pa_nil hst) hbase hfew hline hst hplain) hs, snd_extend h.s⟩
theorem pms_rev (i : Nat) {x : Str} {p apos cpos : Pos} (hN : X.N[i]? = some x := by rfl) (hv : Vis X.env.scope x := by first | exact Or.inl rfl | exact Or.inr (Or.inl rfl) | exact Or.inr (Or.inr rfl)) (hd : (x == ("__debug__" : Str)) = false := by decide)
    (hcd : (x == ("__classdict__" : Str)) = false := by decide)
    (hbase : attributeBase (.Name x p) "reverse" X.env (eval (.Name x p) X.env) = eval (.Name x p) X.env := by rfl) (hline : (apos.endLine == cpos.line) = true := by rfl)
    (hs : swapsWith (.Call (.Attribute (.Name x p) "reverse" apos) [] [] cpos) none pos.line X.env = pure false := by rfl) :
    PMS X W (.Expr (.Call (.Attribute (.Name x p) "reverse" apos) [] [] cpos) pos) (tDrop (tBM0 X.K "list" rReverse (tVar i))) (mRevS i) :=
  ⟨ps_expr (pe_bm0 PySem.F.plainAttrs_list PySem.F.slot_list_reverse PySem.F.type_list_reverse mt_reverse (pe_var hN hv hd hcd) hbase hline) hs, snd_revS⟩
end

/-! ### a def that changes its argument c -/
def ioIn (c : Nat) (ρ : Rho) : Option (List D) := match ρ[c]? with
  | some (some (.io xs)) => some xs
  | _ => none
def finIO (c : Nat) : Out → RE Val
  | .rx r ρ => match ioIn c ρ with
    | some xs => .ok r xs
    | none => .no
  | .nx ρ => match ioIn c ρ with
    | some xs => .ok (.sh .none) xs
    | none => .no
  | .ex n fs ρ => match ioIn c ρ with
    | some xs => .ex n fs xs
    | none => .no
  | _ => .no
def mFnIO (c N : Nat) (ms : Rho → Out) : List Val → RE Val := fun as => if ioIn c (as.map some) = none then .no else finIO c (ms (as.map some ++ List.replicate (N - as.length) none))
theorem ioIn_inv {c : Nat} {ρ : Rho} {xs : List D} (e : ioIn c ρ = some xs) : ρ[c]? = some (some (.io xs)) := by
  unfold ioIn at e
  split at e
  · rename_i h
    cases e
    exact h
  · cases e
theorem args_get {K : PySem.W.Frag} {p : Addr} {G : Hp} : ∀ {vs : List V} {as : List Val} (i : Nat) (r : Val), ArgsIO K p G vs as → as[i]? = some r → (∃ v d, vs[i]? = some v ∧ r = .sh d ∧ Rp K G v d) ∨ ∃ xs, vs[i]? = some (.ref p) ∧ r = .io xs
  | _, _, i, r, .nil, e => by simp at e
  | _, _, 0, r, .sh (v := v) (d := d) a b, e => by
    simp at e
    exact .inl ⟨v, d, rfl, e.symm, a⟩
  | _, _, 0, r, .io (xs := xs) b, e => by
    simp at e
    exact .inr ⟨xs, rfl, e.symm⟩
  | _, _, i + 1, r, .sh a b, e => by
    rcases args_get i r b (by simpa using e) with ⟨v, d, z1, z2, z3⟩ | ⟨xs, z1, z2⟩
    · exact .inl ⟨v, d, by simpa using z1, z2, z3⟩
    · exact .inr ⟨xs, by simpa using z1, z2⟩
  | _, _, i + 1, r, .io b, e => by
    rcases args_get i r b (by simpa using e) with ⟨v, d, z1, z2, z3⟩ | ⟨xs, z1, z2⟩
    · exact .inl ⟨v, d, by simpa using z1, z2, z3⟩
    · exact .inr ⟨xs, by simpa using z1, z2⟩
/-- the heap without p -/
def offH (p : Addr) (H : Hp) : Hp := fun b => if b = p then none else H b
theorem offH_ne {p b : Addr} {H : Hp} (n : b ≠ p) : offH p H b = H b := if_neg n
theorem offH_at {p : Addr} {H : Hp} : offH p H p = none := if_pos rfl
theorem env_startIO {K : PySem.W.Frag} {G H : Hp} {p : Addr} {c : Nat} {xs : List D} {vs : List V} {as : List Val} (s : Same G H) (cl : Cel K p G H xs) (h : ArgsIO K p G vs as) (hio : ∀ k ys, as[k]? = some (.io ys) → k = c ∧ ys = xs) (m : Nat) :
    EnvS K ⟨G, p⟩ (offH p H) (vs.map some ++ List.replicate m none) G H (as.map some ++ List.replicate m none) := by
  have hl := h.len
  obtain ⟨us, c1, c2, c3⟩ := cl
  have key : ∀ (i : Nat) (r : Val), (as.map some ++ List.replicate m none)[i]? = some (some r) → as[i]? = some r ∧ i < as.length := fun i r q => by
    by_cases hi : i < as.length
    · rw [List.getElem?_append_left (by rw [List.length_map]; exact hi), List.getElem?_map, List.getElem?_eq_getElem hi] at q
      exact ⟨by rw [List.getElem?_eq_getElem hi]; exact Option.some.inj q, hi⟩
    · rw [List.getElem?_append_right (by rw [List.length_map]; omega), List.getElem?_replicate] at q
      split at q <;> cases q
  have at_ : ∀ (i : Nat) (v : V), vs[i]? = some v → (vs.map some ++ List.replicate m none)[i]? = some (some v) := fun i v e => by
    have hi := (List.getElem?_eq_some_iff.mp e).1
    rw [List.getElem?_append_left (by rw [List.length_map]; exact hi), List.getElem?_map, e]
    rfl
  refine ⟨⟨fun b x z => ?_, Same.refl _, s, fun b _ g => g⟩, fun i ys q => ?_, by simp [hl], fun i r q => ?_, fun i j q r r2 hi hj o1 o2 si sj => ?_⟩
  · by_cases hb : b = p
    · rw [hb, offH_at] at z
      cases z
    · rw [offH_ne hb] at z
      exact z
  · obtain ⟨e, hi⟩ := key i _ q
    rcases args_get i _ h e with ⟨v, d, _, z, _⟩ | ⟨ws, z, _⟩
    · cases z
    · exact at_ i _ z
  · obtain ⟨e, hi⟩ := key i _ q
    rcases args_get i _ h e with ⟨v, d, z1, rfl, z3⟩ | ⟨ws, z, rfl⟩
    · exact ⟨v, at_ i v z1, z3⟩
    · refine ⟨.ref p, at_ i _ z, p, us, rfl, c1, c2, offH_at, ?_⟩
      obtain ⟨_, rfl⟩ := hio i ws e
      exact c3
  · obtain ⟨e, _⟩ := key i _ hi
    obtain ⟨e2, _⟩ := key j _ hj
    rcases args_get i _ h e with ⟨v, d, z1, rfl, z3⟩ | ⟨ws, z, rfl⟩
    · cases o1
    · rcases args_get j _ h e2 with ⟨v, d, z1, rfl, z3⟩ | ⟨ws2, z', rfl⟩
      · cases o2
      · exact (hio i ws e).1.trans (hio j ws2 e2).1.symm
theorem offH_extE {p : Addr} {G H G' H' : Hp} (e : Ext G (offH p H) G' H') (gp : G' p = none) : ExtE p G H G' H' := by
  refine ⟨fun b x n z => e.h b x (by rw [offH_ne n]; exact z), e.g, e.s, fun b hb gb => ?_⟩
  by_cases n : b = p
  · rw [n]
    exact gp
  · exact e.n b (by rw [offH_ne n]; exact hb) gb
section
variable {P : Program} {w : World} {K : PySem.W.Frag} {mg : Str → Option Value} {base : Heap}
theorem EnvS.outIO {G H G' H' : Hp} {p : Addr} {c : Nat} {σ : L2.St} {ρ : Rho} {xs : List D} (I : EnvS K ⟨G, p⟩ (offH p H) σ G' H' ρ) (e : ioIn c ρ = some xs) : ExtE p G H G' H' ∧ Cel K p G' H' xs ∧ σ[c]? = some (some (.ref p)) := by
  have h := ioIn_inv e
  have hv := I.pin c xs h
  obtain ⟨v, hv', q, us, rfl, a, b, _, k⟩ := I.slot c _ h
  rw [hv] at hv'
  cases hv'
  exact ⟨offH_extE I.ext b, ⟨us, a, b, k⟩, hv⟩
theorem def_okIO {x qual : Str} {st : Stmt} {f : Addr} {fd : FuncData} {N ps : List Str} {k c : Nat} {ms : Rho → Out} (F : Fun K x qual st f fd) (S : FnScope N ps (defScope st))
    (hbody : ∀ (cdv : Value) (A : Around) (outer : List Env) (s : Shared) (H : Hp) (E : XK), A.guards = some [] → Room k (A.deeper (envOfC qual (defScope st) s.heap.objs.size f cdv)) →
      ∃ ts, PMSs (cxOf (L2.CX P w) P w K mg base N qual (defScope st) f cdv A outer s H E) (wOf E) (defBody st) ts ms) : FnG P w K mg base (k + 1) f fd ps (spIO K mg ps.length c (mFnIO c N.length ms)) := by
  refine def_okS F S (fun vs H Q E ⟨G, p, as, xs, _, _, _, _, h, _⟩ => h) fun cdv A outer s H vs Q E gd hr hsp => ?_
  obtain ⟨ts, B⟩ := hbody cdv A outer s H E gd hr
  refine ⟨ts, B.p, ?_⟩
  obtain ⟨G, p, as, xs, hs, cl, hv, hio, hlen, h⟩ := hsp
  have hl' : vs.length = as.length := hv.len
  have I := env_startIO hs cl hv hio (N.length - vs.length)
  refine B.s ⟨G, p⟩ (offH p H) (start N vs) G H _ _ I ?_
  rw [hl'] at I ⊢
  unfold mFnIO at h
  split at h
  · exact h.elim
  cases eo : ms (as.map some ++ List.replicate (N.length - as.length) none) with
  | nx ρ =>
    rw [eo] at h
    intro σ' G' H'' I' _
    unfold finIO at h
    cases e : ioIn c ρ with
    | none =>
      simp only [e] at h
      exact h.elim
    | some ys =>
      simp only [e] at h
      obtain ⟨x1, c1, _⟩ := I'.outIO e
      exact h G' H'' .non x1 c1 Rp.non
  | rx r ρ =>
    rw [eo] at h
    intro σ' G' H'' v I' _ hr' ap
    unfold finIO at h
    cases e : ioIn c ρ with
    | none =>
      simp only [e] at h
      exact h.elim
    | some ys =>
      simp only [e] at h
      obtain ⟨x1, c1, hp⟩ := I'.outIO e
      refine h G' H'' v x1 c1 ?_
      cases r with
      | sh d => exact hr'
      | ow zs =>
        obtain ⟨q, us, rfl, a, b, d, kk⟩ := hr'
        have nq : q ≠ p := fun z => ap zs rfl c ys (ioIn_inv e) (by rw [z]; exact hp)
        exact ⟨q, us, rfl, a, b, by rw [offH_ne nq] at d; exact d, kk⟩
      | bw zs => exact hr'
      | fz zs => exact hr'
      | io zs => exact hr'
      | ob o q C fs =>
        obtain ⟨us, cl1, _⟩ := id c1
        exact ObR.up (fun _ d => by
          obtain ⟨_, dx, fv, hi⟩ := ObR.at hr'
          rw [offH_ne (ins_ne hi cl1)] at d
          exact d) (fun _ _ z => z) (Same.refl _) (fun _ _ _ _ g => g) hr'
  | rt r =>
    rw [eo] at h
    exact h.elim
  | bk ρ =>
    rw [eo] at h
    exact h.elim
  | ct ρ =>
    rw [eo] at h
    exact h.elim
  | ex n fs ρ =>
    rw [eo] at h
    intro σ' G' H'' C d I' _ a b
    unfold finIO at h
    cases e : ioIn c ρ with
    | none =>
      simp only [e] at h
      exact h.elim
    | some ys =>
      simp only [e] at h
      obtain ⟨x1, c1, _⟩ := I'.outIO e
      exact h G' H'' C d x1 c1 a b
  | no =>
    rw [eo] at h
    exact h.elim
end
end Mi

/-! More of handlers' suites. -/
namespace Mi
open PySem PySem.Spec PyProof.Rows L2
section
variable {X : Cx} {i : Nat} {a : Addr} {cls : Value} {d : Option Addr} {e e1 e2 b : Expr} {te t1 t2 : TE} {tA tB tt : TT} {mt m1 m2 : Str → Option Bool} {pos : Pos} {rest : List Expr} {op : BoolOp}
theorem phe_not (h : PHE X i a cls d e te mt) : PHE X i a cls d (.UnaryOp .Not e pos) (tNotV te) (fun m => (mt m).map (!·)) :=
  ⟨pe_not h.p, fun m C k h1 h2 h3 h4 σ H Q hσ q => by
    cases e0 : mt m with
    | none =>
      rw [e0] at h4
      cases h4
    | some k0 =>
      rw [e0] at h4
      cases h4
      exact h.s m C k0 h1 h2 h3 e0 σ H _ hσ ⟨k0, rfl, q⟩⟩
theorem phe_one (h : PHE X i a cls d e te mt) : PHE X i a cls d (.BoolOp op [e] pos) te mt := ⟨pe_one h.p, h.s⟩
theorem phe_and (h : PHE X i a cls d e t1 m1) (h2 : PHE X i a cls d (.BoolOp .And (b :: rest) pos) t2 m2) : PHE X i a cls d (.BoolOp .And (e :: b :: rest) pos) (tAndV t1 t2) (fun m => (m1 m).bind fun k => if k = true then m2 m else some false) :=
  ⟨pe_and h.p h2.p, fun m C k h1 hn h3 h4 σ H Q hσ q => by
    cases e0 : m1 m with
    | none =>
      rw [e0] at h4
      cases h4
    | some k0 =>
      rw [e0] at h4
      have h4 : (if k0 = true then m2 m else some false) = some k := h4
      refine h.s m C k0 h1 hn h3 e0 σ H _ hσ ⟨k0, rfl, ?_⟩
      cases k0 with
      | false =>
        cases h4
        exact iteF q
      | true => exact iteT (h2.s m C k h1 hn h3 h4 σ H _ hσ q)⟩
theorem phw_and1 (h : PHT X i a cls d e tA mt) : PHW X i a cls d (.BoolOp .And [e] pos) tA mt := ⟨pw_and1 h.p, h.s⟩
theorem phw_and (h : PHT X i a cls d e tA m1) (h2 : PHW X i a cls d (.BoolOp .And (b :: rest) pos) tB m2) : PHW X i a cls d (.BoolOp .And (e :: b :: rest) pos) (tAnd tA tB) (fun m => (m1 m).bind fun k => if k = true then m2 m else some false) :=
  ⟨pw_and h.p h2.p, fun m C k h1 hn h3 h4 σ H Q hσ q => by
    cases e0 : m1 m with
    | none =>
      rw [e0] at h4
      cases h4
    | some k0 =>
      rw [e0] at h4
      have h4 : (if k0 = true then m2 m else some false) = some k := h4
      refine h.s m C k0 h1 hn h3 e0 σ H _ hσ ?_
      cases k0 with
      | false =>
        cases h4
        exact iteF q
      | true => exact iteT (h2.s m C k h1 hn h3 h4 σ H _ hσ q)⟩
end
/-- what does not fall through -/
def noNx : Out → Out
  | .nx _ => .no
  | o => o
def mHIfs (mt : Str → Option Bool) (a : Rho → Out) (r : Str → Rho → Out) : Str → Rho → Out := fun m ρ => match mt m with
  | some true => noNx (a ρ)
  | some false => r m ρ
  | none => .no
section
variable {X : Cx} {i : Nat} {a : Addr} {cls : Value} {d : Option Addr} {e : Expr} {te : TE} {tt : TT} {mt : Str → Option Bool} {pos : Pos} {sts rest : List Stmt} {st : Stmt} {t u : TS} {ma : Rho → Out} {mr : Str → Rho → Out}
theorem phs_pure (h : PMSs X W0 sts t ma) : PHS X i a cls d sts t (fun _ => ma) := ⟨h.p, fun m C h1 h2 h3 G0 H0 σ G H ρ D I hσ q => h.s G0 H0 σ G H ρ D I q⟩
theorem phs_ifs (h : PHT X i a cls d e tt mt) (ha : PMSs X W0 sts t ma) (hr : PHS X i a cls d (st :: rest) u mr) : PHS X i a cls d (.If e sts [] pos :: st :: rest) (tSeq (tIfS tt t tNext) u) (mHIfs mt ma mr) :=
  ⟨pss_cons (ps_if h.p ha.p pss_nil) hr.p, fun m C h1 h2 h3 G0 H0 σ G H ρ D I hσ q => by
    unfold mHIfs at q
    cases e0 : mt m with
    | none =>
      rw [e0] at q
      exact q.elim
    | some k =>
      rw [e0] at q
      refine h.s m C k h1 h2 h3 e0 σ H _ hσ ?_
      cases k with
      | true =>
        refine iteT (ha.s G0 H0 σ G H ρ _ I ?_)
        have q : OutR X.K X.mg W0 G0 H0 G D (noNx (ma ρ)) := q
        cases eo : ma ρ with
        | nx ρ' =>
          rw [eo] at q
          exact q.elim
        | rt r =>
          rw [eo] at q
          exact q
        | rx r ρ' =>
          rw [eo] at q
          exact q
        | bk ρ' =>
          rw [eo] at q
          exact q
        | ct ρ' =>
          rw [eo] at q
          exact q
        | ex n fs ρ' =>
          rw [eo] at q
          exact q
        | no =>
          rw [eo] at q
          exact q
      | false => exact iteF (hr.s m C h1 h2 h3 G0 H0 σ G H ρ D I hσ q)⟩
end
end Mi

/-! max and min of a list of ints. -/
namespace Mi
open PySem PySem.Spec PyProof.Rows L2
def maxI : List Int → Int
  | [] => 0
  | [a] => a
  | a :: b :: l => if a ≤ maxI (b :: l) then maxI (b :: l) else a
def minI : List Int → Int
  | [] => 0
  | [a] => a
  | a :: b :: l => if minI (b :: l) ≤ a then minI (b :: l) else a
theorem maxI_ok : ∀ (a : Int) (l : List Int), maxI (a :: l) ∈ a :: l ∧ ∀ y ∈ a :: l, y ≤ maxI (a :: l)
  | a, [] => ⟨List.mem_cons_self, fun y hy => by rw [List.mem_singleton.mp hy]; exact Int.le_refl _⟩
  | a, b :: l => by
    obtain ⟨h1, h2⟩ := maxI_ok b l
    show (if a ≤ maxI (b :: l) then maxI (b :: l) else a) ∈ _ ∧ ∀ y ∈ a :: b :: l, y ≤ if a ≤ maxI (b :: l) then maxI (b :: l) else a
    split
    · rename_i c
      refine ⟨List.mem_cons_of_mem _ h1, fun y hy => ?_⟩
      rcases List.mem_cons.mp hy with rfl | hy
      · exact c
      · exact h2 y hy
    · refine ⟨List.mem_cons_self, fun y hy => ?_⟩
      rcases List.mem_cons.mp hy with rfl | hy
      · exact Int.le_refl _
      · have := h2 y hy
        omega
theorem minI_ok : ∀ (a : Int) (l : List Int), minI (a :: l) ∈ a :: l ∧ ∀ y ∈ a :: l, minI (a :: l) ≤ y
  | a, [] => ⟨List.mem_cons_self, fun y hy => by rw [List.mem_singleton.mp hy]; exact Int.le_refl _⟩
  | a, b :: l => by
    obtain ⟨h1, h2⟩ := minI_ok b l
    show (if minI (b :: l) ≤ a then minI (b :: l) else a) ∈ _ ∧ ∀ y ∈ a :: b :: l, (if minI (b :: l) ≤ a then minI (b :: l) else a) ≤ y
    split
    · rename_i c
      refine ⟨List.mem_cons_of_mem _ h1, fun y hy => ?_⟩
      rcases List.mem_cons.mp hy with rfl | hy
      · exact c
      · exact h2 y hy
    · refine ⟨List.mem_cons_self, fun y hy => ?_⟩
      rcases List.mem_cons.mp hy with rfl | hy
      · exact Int.le_refl _
      · have := h2 y hy
        omega
theorem maxI_uniq {a m : Int} {l : List Int} (h1 : m ∈ a :: l) (h2 : ∀ y ∈ a :: l, y ≤ m) : m = maxI (a :: l) := by
  obtain ⟨h3, h4⟩ := maxI_ok a l
  have := h2 _ h3
  have := h4 _ h1
  omega
theorem minI_uniq {a m : Int} {l : List Int} (h1 : m ∈ a :: l) (h2 : ∀ y ∈ a :: l, m ≤ y) : m = minI (a :: l) := by
  obtain ⟨h3, h4⟩ := minI_ok a l
  have := h2 _ h3
  have := h4 _ h1
  omega
def cMM (f : List Int → Int) : List Val → Option Val
  | [a] => match lit a with
    | some ds => match intsOf ds with
      | some ns => if 0 < ns.length then some (.sh (.int (f ns))) else none
      | none => none
    | none => none
  | _ => none
theorem cmm_inv {K : PySem.W.Frag} {f : List Int → Int} {B G H : Hp} {vs : List V} {as : List Val} {c : Val} (s : Same G H) (h : VRs K B G H vs as) (e : cMM f as = some c) : ∃ p ns, vs = [.ref p] ∧ SqL K H p (ns.map V.int) ∧ 0 < ns.length ∧ c = .sh (.int (f ns)) := by
  unfold cMM at e
  split at e
  · split at e
    · rename_i ds e2
      split at e
      · rename_i ns e3
        split at e
        · rename_i hl
          cases e
          obtain ⟨v, rfl, h1⟩ := vrs1 h
          obtain ⟨p, us, rfl, hp, k⟩ := h1.list s e2
          obtain ⟨rfl, _⟩ := intsOf_rp k e3
          exact ⟨p, ns, rfl, hp, hl, rfl⟩
        · cases e
      · cases e
    · cases e
  · cases e
theorem cs_max1 {K : PySem.W.Frag} : CallS K (rMax K) (cMM maxI) := by
  intro B G H vs as c Q s h e q
  obtain ⟨p, ns, rfl, hp, hl, rfl⟩ := cmm_inv s h e
  refine ⟨p, ns, rfl, hp, hl, fun m h1 h2 => ?_⟩
  cases ns with
  | nil => cases hl
  | cons a l =>
    rw [maxI_uniq h1 h2]
    exact q G H _ (Ext.refl s) (Rp.int _)
theorem cs_min1 {K : PySem.W.Frag} : CallS K (rMin K) (cMM minI) := by
  intro B G H vs as c Q s h e q
  obtain ⟨p, ns, rfl, hp, hl, rfl⟩ := cmm_inv s h e
  refine ⟨p, ns, rfl, hp, hl, fun m h1 h2 => ?_⟩
  cases ns with
  | nil => cases hl
  | cons a l =>
    rw [minI_uniq h1 h2]
    exact q G H _ (Ext.refl s) (Rp.int _)
theorem cr_maxK {X : Cx} {K : PySem.W.Frag} (hc : X.calm = true := by rfl) (h : X.K = K := by rfl) : CallR X (.builtin "max") (rMax K) := h ▸ cr_max hc
theorem cr_minK1 {X : Cx} {K : PySem.W.Frag} (hc : X.calm = true := by rfl) (h : X.K = K := by rfl) : CallR X (.builtin "min") (rMin K) := h ▸ cr_min hc
end Mi

/-! not x, of any value. -/
namespace Mi
open PySem PySem.Spec PyProof.Rows L2
def mNotT (ma : Rho → Res Val) : Rho → Res Val := fun ρ => (ma ρ).bind fun a => lift ((truth a).map fun k => .sh (.bool (!k)))
theorem snd_notT {K : PySem.W.Frag} {mg : Str → Option Value} {W : WX} {ta : TE} {ma : Rho → Res Val} (ha : Snd K mg W ta ma) : Snd K mg W (tNotT K ta) (mNotT ma) := by
  intro G0 H0 σ G H ρ Q I h
  refine ha G0 H0 σ G H ρ _ I (RR.bnd (Ext.refl I.s) h fun a G1 H1 x ea e1 r1 h1 => ?_)
  obtain ⟨c, ec, q⟩ := h1.lift
  cases et : truth a with
  | none =>
    rw [et] at ec
    cases ec
  | some k =>
    rw [et] at ec
    cases ec
    exact ⟨k, truth_ok e1.s r1 et, q G1 H1 _ e1 (Rp.bl _)⟩
theorem pm_notTK {X : Cx} {W : WX} {K : PySem.W.Frag} {a : Expr} {ta : TE} {ma : Rho → Res Val} {pos : Pos} (ha : PM X W a ta ma) (h : X.K = K := by rfl) : PM X W (.UnaryOp .Not a pos) (tNotT K ta) (mNotT ma) := by
  subst h
  exact ⟨pe_notT ha.p, snd_notT ha.s⟩
end Mi

/-! Comprehensions of two clauses. -/
namespace Mi
open PySem PySem.Spec PyProof.Rows L2
theorem ExtE.mutP {p : Addr} {G1 H1 G H : Hp} {o : HO} (e : ExtE p G1 H1 G H) (g : G p = none) : ExtE p G1 H1 G (upd H p o) :=
  ⟨fun b u n z => by rw [upd_ne n]; exact e.h _ _ n z, e.g, same_updN e.s g, e.n⟩
theorem EnvS.extD {K : PySem.W.Frag} {G0 : Bs} {H0 G H G' H' : Hp} {σ : L2.St} {ρ : Rho} {p : Addr} (I : EnvS K G0 H0 σ G H ρ) (x : ExtE p G H G' H') (h0 : H0 p = none) (no : ∀ (j : Nat) (r : Val), ρ[j]? = some (some r) → owned r = true → σ[j]? ≠ some (some (.ref p))) (hi : ∀ C dx fv, H p ≠ some (.ins C dx fv)) : EnvS K G0 H0 σ G' H' ρ := by
  refine ⟨⟨fun b u z => ?_, I.ext.g.trans x.g, x.s, fun b hb gb => x.n b (ne_none_of I.ext.h hb) (I.ext.n b hb gb)⟩, I.pin, I.len, fun j s hj => ?_, I.apart⟩
  · have nb : b ≠ p := fun w => by
      rw [w, h0] at z
      cases z
    exact x.h b u nb (I.ext.h _ _ z)
  · obtain ⟨u, hu, z⟩ := I.slot j s hj
    refine ⟨u, hu, ?_⟩
    cases s with
    | sh d => exact Rp.mono x.g z
    | ow zs =>
      obtain ⟨q, ws, rfl, hq, gq, h0q, kq⟩ := z
      have nq : q ≠ p := fun w => no j _ hj rfl (w ▸ hu)
      exact ⟨q, ws, rfl, x.h _ _ nq hq, x.n q (by rw [hq]; exact Option.some_ne_none _) gq, h0q, kq.mono x.g⟩
    | bw zs =>
      obtain ⟨q, ws, a, b, k⟩ := z
      exact ⟨q, ws, a, b, k.mono x.g⟩
    | fz zs =>
      obtain ⟨q, ws, a, b, k⟩ := z
      exact ⟨q, ws, a, x.g.seq b, k.mono x.g⟩
    | io zs =>
      obtain ⟨q, ws, rfl, hq, gq, h0q, kq⟩ := z
      have nq : q ≠ p := fun w => no j _ hj rfl (w ▸ hu)
      exact ⟨q, ws, rfl, x.h _ _ nq hq, x.n q (by rw [hq]; exact Option.some_ne_none _) gq, h0q, kq.mono x.g⟩
    | ob o q C fs => exact ObR.up (fun _ z => z) (fun dx fv z => x.h _ _ (fun w => hi C dx fv (w ▸ z)) z) x.g (fun _ _ _ z g => x.n q (by rw [z]; exact Option.some_ne_none _) g) z
/-- the inner clause's turns, from a list that lies at Dl -/
theorem comp_run {K : PySem.W.Frag} {mg : Str → Option Value} {g : TG} {bp : BP} {ts : List Nat} {tt : TT} {mt : Rho → Res Bool} {te : TE} {me : Rho → Res Val} {vs : List Nat} (hg : SndG K g bp ts) (hts : ∀ t ∈ ts, t ∈ vs) (ht : SndT K mg W0 tt mt) (he : Snd K mg W0 te me)
    {G0 : Bs} {H0 G1 H1 : Hp} {σ : L2.St} {ρ : Rho} {Dl : Addr} (I : EnvS K G0 H0 σ G1 H1 ρ) (h0 : H0 Dl = none) (no : ∀ (j : Nat) (r : Val), ρ[j]? = some (some r) → owned r = true → σ[j]? ≠ some (some (.ref Dl))) {J : It} {xs : List D} (hJ : ItS K G1 H1 J xs) {acc0 : List D} {av0 : List V} (hD : H1 Dl = some (.lst av0)) (gD : G1 Dl = none) (k0 : RpA K G1 av0 acc0) {zs : List D}
    (ec0 : comp bp mt me (wipeR ρ vs) xs acc0 = .ok zs) {Nx : Hp → Prop} (fin : ∀ G4 H4 av', ExtE Dl G1 H1 G4 H4 → G4 Dl = none → H4 Dl = some (.lst av') → RpA K G4 av' zs → Nx H4) :
    ∃ W1 : Nat → Nat → Hp → Prop, (∃ m, W1 0 m H1) ∧ ∀ j k H, W1 j k H → (J.stop j H ∧ Nx H) ∨ (J.go j H ∧ ∃ Nx1 : Hp → Prop, (∀ H', Nx1 H' → ∃ k', k' < k ∧ W1 (j + 1) k' H') ∧ ∀ x H', J.yld j H x H' → g x (wipe σ vs) H' fun σ3 H5 => wipe σ3 vs = wipe σ vs ∧ tt σ3 H5 fun b H6 =>
        if b = true then te σ3 H6 fun y H7 => ∃ acc, H7 Dl = some (.lst acc) ∧ acc.length < sizeLine ∧ Nx1 (upd H7 Dl (.lst (acc ++ [y]))) else Nx1 H6) := by
  refine ⟨fun i m H2 => ∃ G2 acc av, ExtE Dl G1 H1 G2 H2 ∧ G2 Dl = none ∧ H2 Dl = some (.lst av) ∧ RpA K G2 av acc ∧ i ≤ xs.length ∧ m = xs.length - i ∧ comp bp mt me (wipeR ρ vs) (xs.drop i) acc = .ok zs,
    ⟨xs.length, G1, acc0, av0, ExtE.refl I.s, gD, hD, k0, Nat.zero_le _, rfl, ec0⟩, ?_⟩
  rintro i m H2 ⟨G2, acc, av, e2, g2, h2, ka, hi2, rfl, ec⟩
  by_cases hlt : i < xs.length
  · refine .inr ⟨hJ.go i G2 H2 e2.g e2.s hlt, fun H' => ∃ G2 acc av, ExtE Dl G1 H1 G2 H' ∧ G2 Dl = none ∧ H' Dl = some (.lst av) ∧ RpA K G2 av acc ∧ comp bp mt me (wipeR ρ vs) (xs.drop (i + 1)) acc = .ok zs,
      fun H' ⟨G3, acc3, av3, z1, z2, z3, z4, z5⟩ => ⟨xs.length - (i + 1), by omega, G3, acc3, av3, z1, z2, z3, z4, hlt, rfl, z5⟩, fun x H' y => ?_⟩
    obtain ⟨d, G3, ed, e3, rd⟩ := hJ.yld i G2 H2 x H' e2.g e2.s hlt y
    have hd : xs.drop i = d :: xs.drop (i + 1) := by
      rw [List.drop_eq_getElem_cons hlt]
      congr 1
      rw [List.getElem?_eq_getElem hlt] at ed
      exact Option.some.inj ed
    rw [hd] at ec
    unfold comp at ec
    split at ec
    · cases ec
    · rename_i ρ4 eb
      have hne : H2 Dl ≠ none := by rw [h2]; exact Option.some_ne_none _
      have e13 : ExtE Dl G1 H1 G3 H' := e2.trans hne e3.toE
      have I1 := (I.extD e13 h0 no fun _ _ _ z => by rw [hD] at z; cases z).wipe vs
      refine hg G0 H0 _ G3 H' (wipeR ρ vs) x d ρ4 _ I1 rd eb fun σ4 I4 oa => ⟨?_, ?_⟩
      · exact (oa vs hts).trans (onlyAt_wipe vs σ vs fun t q => q)
      · split at ec
        · rename_i b et
          refine ht G0 H0 σ4 G3 H' ρ4 _ I4 ?_
          rw [et]
          intro G4 H4 b' e4 eb'
          cases (show b' = b from eb')
          have h3 : H' Dl = some (.lst av) := e3.h _ _ h2
          have hne3 : H' Dl ≠ none := by rw [h3]; exact Option.some_ne_none _
          have g3 : G3 Dl = none := e3.n Dl hne g2
          cases b with
          | false =>
            exact iteF ⟨G4, acc, av, e13.trans hne3 e4.toE, e4.n Dl hne3 g3, e4.h _ _ h3, ka.mono (e3.g.trans e4.g), ec⟩
          | true =>
            refine iteT (he G0 H0 σ4 G4 H4 ρ4 _ (I4.ext' e4) ?_)
            have ec : (match me ρ4 with
              | .ok r => match esc r with
                | some x => if acc.length < 100000 then comp bp mt me (wipeR ρ vs) (xs.drop (i + 1)) (acc ++ [x]) else .no
                | none => .no
              | _ => .no) = .ok zs := ec
            split at ec
            · rename_i r er
              rw [er]
              intro G5 H5 v e5 r5
              split at ec
              · rename_i x' ex'
                split at ec
                · rename_i hl
                  obtain ⟨G6, e6, s6, k6⟩ := esc_one e5 r5.vw ex'
                  have e36 := e4.trans e6
                  have g6 : G6 Dl = none := e36.n Dl hne3 g3
                  refine ⟨av, e36.h _ _ h3, ?_, G6, acc ++ [x'], av ++ [v], (e13.trans hne3 e36.toE).mutP g6, g6, upd_same, (ka.mono (e3.g.trans e36.g)).append (.cons k6 .nil), ec⟩
                  rw [ka.length]
                  exact sz_lt hl
                · cases ec
              · cases ec
            · cases ec
        · cases ec
  · have e : i = xs.length := by omega
    subst e
    rw [List.drop_length] at ec
    have ec : Res.ok acc = Res.ok zs := ec
    cases ec
    exact .inl ⟨hJ.stop _ G2 H2 e2.g e2.s (Nat.le_refl _), fin G2 H2 av e2 g2 h2 ka⟩
/-- a target gives its names shared data -/
def BpSh (bp : BP) : Prop := ∀ (d : D) (ρ ρ' : Rho), bp d ρ = some ρ' → ∀ (j : Nat) (r : Val), ρ'[j]? = some (some r) → owned r = true → ρ[j]? = some (some r)
def BpShs (bs : List D → Rho → Option Rho) : Prop := ∀ (ds : List D) (ρ ρ' : Rho), bs ds ρ = some ρ' → ∀ (j : Nat) (r : Val), ρ'[j]? = some (some r) → owned r = true → ρ[j]? = some (some r)
theorem bsh_name {i : Nat} : BpSh (bName i) := fun d ρ ρ' e j r hj o => by
  cases e
  rcases set_get hj with ⟨_, e2, _⟩ | ⟨_, e2⟩
  · cases e2
    cases o
  · exact e2
theorem bsh_nil : BpShs bNil := fun ds ρ ρ' e j r hj o => by
  cases ds with
  | nil =>
    cases e
    exact hj
  | cons d ds => cases e
theorem bsh_cons {b : BP} {bs : List D → Rho → Option Rho} (h1 : BpSh b) (h2 : BpShs bs) : BpShs (bCons b bs) := fun ds ρ ρ' e j r hj o => by
  cases ds with
  | nil => cases e
  | cons d ds =>
    have e : (b d ρ).bind (bs ds) = some ρ' := e
    cases e1 : b d ρ with
    | none =>
      rw [e1] at e
      cases e
    | some ρ1 =>
      rw [e1] at e
      exact h1 d ρ ρ1 e1 j r (h2 ds ρ1 ρ' e j r hj o) o
theorem bsh_tup {bs : List D → Rho → Option Rho} (h : BpShs bs) : BpSh (bTup bs) := fun d ρ ρ' e j r hj o => by
  unfold bTup at e
  split at e
  · exact h _ ρ ρ' e j r hj o
  · cases e
theorem wipeR_get : ∀ {vs : List Nat} {ρ : Rho} {j : Nat} {r : Val}, (wipeR ρ vs)[j]? = some (some r) → j ∉ vs ∧ ρ[j]? = some (some r)
  | [], ρ, j, r, h => ⟨List.not_mem_nil, h⟩
  | v :: vs, ρ, j, r, h => by
    have h : ((wipeR ρ vs).set v none)[j]? = some (some r) := h
    rcases set_get h with ⟨_, e2, _⟩ | ⟨ne, e2⟩
    · cases e2
    · obtain ⟨a, b⟩ := wipeR_get e2
      refine ⟨fun m => ?_, b⟩
      rcases List.mem_cons.mp m with z | z
      · exact ne z.symm
      · exact a z
def comp2 (bp : BP) (mt : Rho → Res Bool) (mi1 : Rho → Res (List D)) (bp1 : BP) (mt1 : Rho → Res Bool) (me : Rho → Res Val) (vs1 : List Nat) (ρ : Rho) : List D → List D → Res (List D)
  | [], acc => .ok acc
  | d :: ds, acc => match bp d ρ with
    | none => .no
    | some ρ1 => match mt ρ1 with
      | .ok b => if b = true then match mi1 ρ1 with
          | .ok ys => match comp bp1 mt1 me (wipeR ρ1 vs1) ys acc with
            | .ok acc' => comp2 bp mt mi1 bp1 mt1 me vs1 ρ ds acc'
            | _ => .no
          | _ => .no
        else comp2 bp mt mi1 bp1 mt1 me vs1 ρ ds acc
      | _ => .no
def mComp2 (mi : Rho → Res (List D)) (bp : BP) (mt : Rho → Res Bool) (mi1 : Rho → Res (List D)) (bp1 : BP) (mt1 : Rho → Res Bool) (me : Rho → Res Val) (vs vs1 : List Nat) : Rho → Res Val := fun ρ => (mi ρ).bind fun xs => match comp2 bp mt mi1 bp1 mt1 me vs1 (wipeR ρ vs) xs [] with
  | .ok ys => .ok (.ow ys)
  | _ => .no
theorem snd_comp2 {K : PySem.W.Frag} {mg : Str → Option Value} {W : WX} {wi wi1 : TI} {mi mi1 : Rho → Res (List D)} {g g1 : TG} {bp bp1 : BP} {ts ts1 : List Nat} {tt tt1 : TT} {mt mt1 : Rho → Res Bool} {te : TE} {me : Rho → Res Val} {vs vs1 : List Nat} (hi : SndI K mg W wi mi) (hg : SndG K g bp ts) (hbp : BpSh bp) (hts : ∀ t ∈ ts, t ∈ vs)
    (ht : SndT K mg W0 tt mt) (hi1 : SndI K mg W0 wi1 mi1) (hg1 : SndG K g1 bp1 ts1) (hts1 : ∀ t ∈ ts1, t ∈ vs1) (ht1 : SndT K mg W0 tt1 mt1) (he : Snd K mg W0 te me) : Snd K mg W (tLc2 wi g tt wi1 g1 tt1 te vs vs1) (mComp2 mi bp mt mi1 bp1 mt1 me vs vs1) := by
  intro G0 H0 σ G H ρ Q I q
  refine hi G0 H0 σ G H ρ _ I (RR.bnd (Ext.refl I.s) q fun xs G1 H1 J ex e1 hJ q1 => ?_)
  have hJ : ItS K G1 H1 J xs := hJ
  intro Dl nD
  have hD : H Dl = none := e1.h.free nD
  have gD : G1 Dl = none := e1.s.free nD
  have h0D : H0 Dl = none := I.ext.h.free hD
  have I0 := I.ext' e1
  split at q1
  · rename_i ys ey
    refine ⟨fun i m H2 => ∃ G2 acc av, ExtE Dl G1 H1 G2 H2 ∧ G2 Dl = none ∧ H2 Dl = some (.lst av) ∧ RpA K G2 av acc ∧ i ≤ xs.length ∧ m = xs.length - i ∧ comp2 bp mt mi1 bp1 mt1 me vs1 (wipeR ρ vs) (xs.drop i) acc = .ok ys,
      ⟨xs.length, G1, [], [], (Ext.newO e1.s nD).toE, gD, upd_same, .nil, Nat.zero_le _, rfl, ey⟩, ?_⟩
    rintro i m H2 ⟨G2, acc, av, e2, g2, h2, ka, hi2, rfl, ec⟩
    have hne : H2 Dl ≠ none := by rw [h2]; exact Option.some_ne_none _
    by_cases hlt : i < xs.length
    · refine .inr ⟨hJ.go i G2 H2 e2.g e2.s hlt, fun H' => ∃ G2 acc av, ExtE Dl G1 H1 G2 H' ∧ G2 Dl = none ∧ H' Dl = some (.lst av) ∧ RpA K G2 av acc ∧ comp2 bp mt mi1 bp1 mt1 me vs1 (wipeR ρ vs) (xs.drop (i + 1)) acc = .ok ys,
        fun H' ⟨G3, acc3, av3, z1, z2, z3, z4, z5⟩ => ⟨xs.length - (i + 1), by omega, G3, acc3, av3, z1, z2, z3, z4, hlt, rfl, z5⟩, fun x H' y => ?_⟩
      obtain ⟨d, G3, ed, e3, rd⟩ := hJ.yld i G2 H2 x H' e2.g e2.s hlt y
      have hd : xs.drop i = d :: xs.drop (i + 1) := by
        rw [List.drop_eq_getElem_cons hlt]
        congr 1
        rw [List.getElem?_eq_getElem hlt] at ed
        exact Option.some.inj ed
      rw [hd] at ec
      unfold comp2 at ec
      split at ec
      · cases ec
      · rename_i ρ4 eb
        have e13 : ExtE Dl G1 H1 G3 H' := e2.trans hne e3.toE
        have no : ∀ (j : Nat) (r : Val), ρ[j]? = some (some r) → owned r = true → σ[j]? ≠ some (some (.ref Dl)) := fun j r hj o hv => by
          obtain ⟨u, hu, z⟩ := I0.slot j r hj
          rw [hv] at hu
          cases hu
          cases r with
          | sh d => cases o
          | bw xs => cases o
          | fz xs => cases o
          | ob _ _ _ _ => cases o
          | ow zs =>
            obtain ⟨q, ws, eq, hq, _⟩ := z
            cases eq
            rw [nD] at hq
            cases hq
          | io zs =>
            obtain ⟨q, ws, eq, hq, _⟩ := z
            cases eq
            rw [nD] at hq
            cases hq
        have I1 := (I0.extD e13 h0D no fun _ _ _ z => by rw [nD] at z; cases z).wipe vs
        have h3 : H' Dl = some (.lst av) := e3.h _ _ h2
        have hne3 : H' Dl ≠ none := by rw [h3]; exact Option.some_ne_none _
        have g3 : G3 Dl = none := e3.n Dl hne g2
        refine hg G0 H0 _ G3 H' (wipeR ρ vs) x d ρ4 _ I1 rd eb fun σ4 I4 oa => ⟨?_, ?_⟩
        · exact (oa vs hts).trans (onlyAt_wipe vs σ vs fun t q => q)
        · split at ec
          · rename_i b et
            refine ht G0 H0 σ4 G3 H' ρ4 _ I4 ?_
            rw [et]
            intro G4 H4 b' e4 eb'
            cases (show b' = b from eb')
            have h4 : H4 Dl = some (.lst av) := e4.h _ _ h3
            have hne4 : H4 Dl ≠ none := by rw [h4]; exact Option.some_ne_none _
            have g4 : G4 Dl = none := e4.n Dl hne3 g3
            have e14 := e13.trans hne3 (e4.toE (p := Dl))
            cases b with
            | false => exact iteF ⟨G4, acc, av, e14, g4, h4, ka.mono (e3.g.trans e4.g), ec⟩
            | true =>
              refine iteT (hi1 G0 H0 σ4 G4 H4 ρ4 _ (I4.ext' e4) ?_)
              have ec : (match mi1 ρ4 with
                | .ok ys' => match comp bp1 mt1 me (wipeR ρ4 vs1) ys' acc with
                  | .ok acc' => comp2 bp mt mi1 bp1 mt1 me vs1 (wipeR ρ vs) (xs.drop (i + 1)) acc'
                  | _ => .no
                | _ => .no) = .ok ys := ec
              split at ec
              · rename_i xs1 em
                rw [em]
                intro G5 H5 J1 e5 hJ1
                have hJ1 : ItS K G5 H5 J1 xs1 := hJ1
                split at ec
                · rename_i acc' ec1
                  have I5 := (I4.ext' e4).ext' e5
                  have h5 : H5 Dl = some (.lst av) := e5.h _ _ h4
                  have hne5 : H5 Dl ≠ none := by rw [h5]; exact Option.some_ne_none _
                  have g5 : G5 Dl = none := e5.n Dl hne4 g4
                  have e15 := e14.trans hne4 (e5.toE (p := Dl))
                  have no5 : ∀ (j : Nat) (r : Val), ρ4[j]? = some (some r) → owned r = true → σ4[j]? ≠ some (some (.ref Dl)) := fun j r hj o hv => by
                    obtain ⟨nj, hr⟩ := wipeR_get (hbp d _ _ eb j r hj o)
                    have z1 : (wipe σ4 vs)[j]? = (wipe (wipe σ vs) vs)[j]? := by rw [oa vs hts]
                    rw [wipe_at nj, wipe_at nj, wipe_at nj] at z1
                    rw [z1] at hv
                    exact no j r hr o hv
                  exact comp_run hg1 hts1 ht1 he I5 h0D no5 hJ1 h5 g5 (ka.mono (e3.g.trans (e4.g.trans e5.g))) ec1 fun G6 H6 av' x6 g6 h6 k6 => ⟨G6, acc', av', e15.trans hne5 x6, g6, h6, k6, ec⟩
                · cases ec
              · cases ec
          · cases ec
    · have e : i = xs.length := by omega
      subst e
      rw [List.drop_length] at ec
      have ec : Res.ok acc = Res.ok ys := ec
      cases ec
      refine .inl ⟨hJ.stop _ G2 H2 e2.g e2.s (Nat.le_refl _), q1 G2 H2 _ ⟨fun b u z => e2.h b u (fun w => by rw [w, hD] at z; cases z) (e1.h _ _ z), e1.g.trans e2.g, e2.s, fun b hb gb => e2.n b (ne_none_of e1.h hb) (e1.n b hb gb)⟩ ⟨Dl, av, rfl, h2, g2, hD, ka⟩⟩
  · exact q1.elim
section
variable {X : Cx} {W : WX} {elt tg iter tg1 iter1 : Expr} {ifs ifs1 : List Expr} {scope : Scope} {own : List (Str × Nat)} {vs1 : List Nat} {pos : Pos} {wi wi1 : TI} {mi mi1 : Rho → Res (List D)} {g g1 : TG} {bp bp1 : BP} {ts ts1 : List Nat} {tt tt1 : TT} {mt mt1 : Rho → Res Bool} {te : TE} {me : Rho → Res Val}
theorem pm_lc2 (own : List (Str × Nat)) (vs1 : List Nat) (hc : X.calm = true) (hN : X.N.Nodup) (hi : PMI X W tg iter wi mi) (ok : BlkOk X.N X.env.scope scope own) (hv : ∀ i ∈ vs1, i ∈ own.map (·.2)) (hts : ∀ t ∈ ts, t ∈ own.map (·.2)) (hts1 : ∀ t ∈ ts1, t ∈ vs1) (hbp : BpSh bp)
    (hg : ∀ (s : Shared) (H : Hp) (C : Addr) (cl : List (Str × Addr)) (fp : List Addr), PMG (X.blk s H scope (compEnvC scope cl C X.env) fp) tg g bp ts)
    (ht : ∀ (s : Shared) (H : Hp) (C : Addr) (cl : List (Str × Addr)) (fp : List Addr), PMTs (X.blk s H scope (compEnvC scope cl C X.env) fp) W0 ifs tt mt)
    (hi1 : ∀ (s : Shared) (H : Hp) (C : Addr) (cl : List (Str × Addr)) (fp : List Addr), PMI (X.blk s H scope (compEnvC scope cl C X.env) fp) W0 tg1 iter1 wi1 mi1)
    (hg1 : ∀ (s : Shared) (H : Hp) (C : Addr) (cl : List (Str × Addr)) (fp : List Addr), PMG (X.blk s H scope (compEnvC scope cl C X.env) fp) tg1 g1 bp1 ts1)
    (ht1 : ∀ (s : Shared) (H : Hp) (C : Addr) (cl : List (Str × Addr)) (fp : List Addr), PMTs (X.blk s H scope (compEnvC scope cl C X.env) fp) W0 ifs1 tt1 mt1)
    (he : ∀ (s : Shared) (H : Hp) (C : Addr) (cl : List (Str × Addr)) (fp : List Addr), PM (X.blk s H scope (compEnvC scope cl C X.env) fp) W0 elt te me) (hs : ∀ x, foldedSetIterable iter X.env x = pure x := by intro _; rfl) (hs1 : ∀ env x, foldedSetIterable iter1 env x = pure x := by intro _ _; rfl) :
    PM X W (.ListComp elt [⟨tg, iter, ifs, 0⟩, ⟨tg1, iter1, ifs1, 0⟩] scope pos) (tLc2 wi g tt wi1 g1 tt1 te (own.map (·.2)) vs1) (mComp2 mi bp mt mi1 bp1 mt1 me (own.map (·.2)) vs1) := by
  have h1 := hg X.s_0 X.H_0 0 [] []
  have h2 := ht X.s_0 X.H_0 0 [] []
  have h3 := he X.s_0 X.H_0 0 [] []
  have h4 := hi1 X.s_0 X.H_0 0 [] []
  have h5 := hg1 X.s_0 X.H_0 0 [] []
  have h6 := ht1 X.s_0 X.H_0 0 [] []
  exact ⟨pe_lc2 hc hN hi.p ok hv (fun s H C cl fp => (hg s H C cl fp).p) (fun s H C cl fp => (ht s H C cl fp).p) (fun s H C cl fp => (hi1 s H C cl fp).p) (fun s H C cl fp => (hg1 s H C cl fp).p) (fun s H C cl fp => (ht1 s H C cl fp).p) (fun s H C cl fp => (he s H C cl fp).p) hs hs1, snd_comp2 hi.s h1.s hbp hts h2.s h4.s h5.s hts1 h6.s h3.s⟩
theorem pms_setLc2 (i : Nat) (own : List (Str × Nat)) (vs1 : List Nat) {y : Str} {py spos : Pos} (hc : X.calm = true) (hN : X.N.Nodup) (hy : X.N[i]? = some y) (hyl : X.env.scope.names.lookup y = some .local)
    (hsw : swapsWith (.ListComp elt [⟨tg, iter, ifs, 0⟩, ⟨tg1, iter1, ifs1, 0⟩] scope pos) (some (.Name y py)) spos.line X.env = pure true) (hi : PMI X W tg iter wi mi) (ok : BlkOk X.N X.env.scope scope own) (hv : ∀ i ∈ vs1, i ∈ own.map (·.2)) (hts : ∀ t ∈ ts, t ∈ own.map (·.2)) (hts1 : ∀ t ∈ ts1, t ∈ vs1) (hbp : BpSh bp)
    (hg : ∀ (s : Shared) (H : Hp) (C : Addr) (cl : List (Str × Addr)) (fp : List Addr), PMG (X.blk s H scope (compEnvC scope cl C X.env) fp) tg g bp ts)
    (ht : ∀ (s : Shared) (H : Hp) (C : Addr) (cl : List (Str × Addr)) (fp : List Addr), PMTs (X.blk s H scope (compEnvC scope cl C X.env) fp) W0 ifs tt mt)
    (hi1 : ∀ (s : Shared) (H : Hp) (C : Addr) (cl : List (Str × Addr)) (fp : List Addr), PMI (X.blk s H scope (compEnvC scope cl C X.env) fp) W0 tg1 iter1 wi1 mi1)
    (hg1 : ∀ (s : Shared) (H : Hp) (C : Addr) (cl : List (Str × Addr)) (fp : List Addr), PMG (X.blk s H scope (compEnvC scope cl C X.env) fp) tg1 g1 bp1 ts1)
    (ht1 : ∀ (s : Shared) (H : Hp) (C : Addr) (cl : List (Str × Addr)) (fp : List Addr), PMTs (X.blk s H scope (compEnvC scope cl C X.env) fp) W0 ifs1 tt1 mt1)
    (he : ∀ (s : Shared) (H : Hp) (C : Addr) (cl : List (Str × Addr)) (fp : List Addr), PM (X.blk s H scope (compEnvC scope cl C X.env) fp) W0 elt te me) (hs : ∀ x, foldedSetIterable iter X.env x = pure x := by intro _; rfl) (hs1 : ∀ env x, foldedSetIterable iter1 env x = pure x := by intro _ _; rfl) :
    PMS X W (.Assign [.Name y py] (.ListComp elt [⟨tg, iter, ifs, 0⟩, ⟨tg1, iter1, ifs1, 0⟩] scope pos) spos) (tAsg (tLc2 wi g tt wi1 g1 tt1 te (own.map (·.2)) vs1) (gName i)) (mSet i (mComp2 mi bp mt mi1 bp1 mt1 me (own.map (·.2)) vs1)) := by
  have h1 := hg X.s_0 X.H_0 0 [] []
  have h2 := ht X.s_0 X.H_0 0 [] []
  have h3 := he X.s_0 X.H_0 0 [] []
  have h4 := hi1 X.s_0 X.H_0 0 [] []
  have h5 := hg1 X.s_0 X.H_0 0 [] []
  have h6 := ht1 X.s_0 X.H_0 0 [] []
  exact ⟨ps_setLc2 hc hN hy hyl hsw hi.p ok hv (fun s H C cl fp => (hg s H C cl fp).p) (fun s H C cl fp => (ht s H C cl fp).p) (fun s H C cl fp => (hi1 s H C cl fp).p) (fun s H C cl fp => (hg1 s H C cl fp).p) (fun s H C cl fp => (ht1 s H C cl fp).p) (fun s H C cl fp => (he s H C cl fp).p) hs hs1, snd_set (snd_comp2 hi.s h1.s hbp hts h2.s h4.s h5.s hts1 h6.s h3.s)⟩
end
end Mi

/-! x is True, x is not False, where x is a truth value. -/
namespace Mi
open PySem PySem.Spec PyProof.Rows L2
def rIsB (neg : Bool) : R2 := fun x y H Q => ∃ i j, x = .bl i ∧ y = .bl j ∧ Q (.bl (if neg then !(i == j) else i == j)) H
def oIsB (neg : Bool) : Val → Val → Option Val
  | .sh (.bool i), .sh (.bool j) => some (.sh (.bool (if neg then !(i == j) else i == j)))
  | _, _ => none
theorem op_isB {X : Cx} : OpR X (compareOp .Is) (rIsB false) := by
  intro pins s σ H x y v u Q I rx ry h
  obtain ⟨i, j, rfl, rfl, q⟩ := h
  cases rx
  cases ry
  refine wpAny_is_plain rfl (fin_bl I q ?_)
  cases i <;> cases j <;> rfl
theorem op_notB {X : Cx} : OpR X (compareOp .IsNot) (rIsB true) := by
  intro pins s σ H x y v u Q I rx ry h
  obtain ⟨i, j, rfl, rfl, q⟩ := h
  cases rx
  cases ry
  refine wpAny_isNot_plain rfl (fin_bl I q ?_)
  cases i <;> cases j <;> rfl
theorem os_isB {K : PySem.W.Frag} {neg : Bool} : OpS K (rIsB neg) (oIsB neg) := by
  intro B G H x y a b c Q s ha hb e q
  unfold oIsB at e
  split at e
  · cases e
    rename_i i j
    have h1 : Rp K G x (.bool i) := ha
    have h2 : Rp K G y (.bool j) := hb
    cases h1
    cases h2
    exact ⟨i, j, rfl, rfl, q G H _ (Ext.refl s) (.bl _)⟩
  · cases e
end Mi

/-! Generators that list() turns to its end: their defs and calls. -/
namespace Mi
open PySem PySem.Spec PyProof.Rows L2
/-- how a suite of a generator ends; the list: what it has handed out -/
inductive GOut where
  | nx (ys : List D) (ρ : Rho) | bk (ys : List D) (ρ : Rho) | ct (ys : List D) (ρ : Rho) | ex (n : Str) (fs : List (Str × D)) (ρ : Rho) | no
def GOutR (K : PySem.W.Frag) (mg : Str → Option Value) (W : WX) (G0 : Bs) (H0 Gs : Hp) (D : GEnds) : GOut → Prop
  | .nx ds ρ => ∀ σ G H ys, EnvS K G0 H0 σ G H ρ → Same Gs G → RpA K G ys ds → D.nx ys σ H
  | .bk ds ρ => ∀ σ G H ys, EnvS K G0 H0 σ G H ρ → Same Gs G → RpA K G ys ds → D.bk ys σ H
  | .ct ds ρ => ∀ σ G H ys, EnvS K G0 H0 σ G H ρ → Same Gs G → RpA K G ys ds → D.ct ys σ H
  | .ex n fs ρ => ∀ σ G H C d, EnvS K G0 H0 σ G H ρ → Same Gs G → mg n = some (.ref C) → XR fs K d G H → W (.ref C) d σ H
  | .no => False
theorem GOutR.up {K : PySem.W.Frag} {mg : Str → Option Value} {W : WX} {G0 : Bs} {H0 G G' : Hp} {D : GEnds} {o : GOut} (e : Same G G') (h : GOutR K mg W G0 H0 G D o) : GOutR K mg W G0 H0 G' D o := by
  cases o with
  | nx ds ρ => exact fun σ G1 H ys I s => h σ G1 H ys I (e.trans s)
  | bk ds ρ => exact fun σ G1 H ys I s => h σ G1 H ys I (e.trans s)
  | ct ds ρ => exact fun σ G1 H ys I s => h σ G1 H ys I (e.trans s)
  | ex n fs ρ => exact fun σ G1 H C d I s => h σ G1 H C d I (e.trans s)
  | no => exact h
def SndGn (K : PySem.W.Frag) (mg : Str → Option Value) (W : WX) (tg : TGn) (m : List D → Rho → GOut) : Prop :=
  ∀ (G0 : Bs) (H0 : Hp) (σ : L2.St) (G H : Hp) (ρ : Rho) (ys : List V) (ds : List D) (D : GEnds), EnvS K G0 H0 σ G H ρ → RpA K G ys ds → GOutR K mg W G0 H0 G D (m ds ρ) → tg D ys σ H
def gRes {α : Type} (m : Res α) (ρ : Rho) (f : α → GOut) : GOut := match m with
  | .ok a => f a
  | .ex n fs => .ex n fs ρ
  | .no => .no
theorem RR.gout {K : PySem.W.Frag} {mg : Str → Option Value} {W : WX} {α β : Type} {R1 : Hp → Hp → Hp → β → α → Prop} {σ : L2.St} {G0 : Bs} {H0 G H : Hp} {ρ : Rho} {D : GEnds} {Q1 : β → Hp → Prop} {m : Res α} {f : α → GOut} (I : EnvS K G0 H0 σ G H ρ)
    (h : GOutR K mg W G0 H0 G D (gRes m ρ f)) (k : ∀ a G1 H1 v, m = .ok a → Ext G H G1 H1 → R1 H G1 H1 v a → GOutR K mg W G0 H0 G1 D (f a) → Q1 v H1) : RR K mg W R1 σ G H Q1 m := by
  cases m with
  | ok a => exact fun G1 H1 v e q => k a G1 H1 v rfl e q (GOutR.up e.g h)
  | ex n fs => exact fun G' H' C d e a b => h σ G' H' C d (I.ext' e) e.g a b
  | no => exact h
/-- a statement that hands out nothing -/
def gPlain (ms : Rho → Out) : List D → Rho → GOut := fun ds ρ => match ms ρ with
  | .nx ρ' => .nx ds ρ'
  | .bk ρ' => .bk ds ρ'
  | .ct ρ' => .ct ds ρ'
  | .ex n fs ρ' => .ex n fs ρ'
  | _ => .no
def gSeq (a b : List D → Rho → GOut) : List D → Rho → GOut := fun ds ρ => match a ds ρ with
  | .nx ds' ρ' => b ds' ρ'
  | o => o
def gSkip : List D → Rho → GOut := fun ds ρ => .nx ds ρ
def gYield (me : Rho → Res Val) : List D → Rho → GOut := fun ds ρ => if ds.length < 100000 then gRes (me ρ) ρ fun r => match esc r with
  | some d => .nx (ds ++ [d]) ρ
  | none => .no else .no
def gWhile (mc : Rho → Res Bool) (body : List D → Rho → GOut) : Nat → List D → Rho → GOut
  | 0, _, _ => .no
  | n + 1, ds, ρ => gRes (mc ρ) ρ fun k => if k = true then match body ds ρ with
      | .nx ds' ρ' => gWhile mc body n ds' ρ'
      | .ct ds' ρ' => gWhile mc body n ds' ρ'
      | .bk ds' ρ' => .nx ds' ρ'
      | o => o
    else .nx ds ρ
section
variable {K : PySem.W.Frag} {mg : Str → Option Value} {W : WX} {te : TE} {me : Rho → Res Val} {tc : TT} {mc : Rho → Res Bool} {t u : TGn} {a b : List D → Rho → GOut} {ts : TS} {ms : Rho → Out}
theorem sndg_plain (h : SndS K mg W ts ms) : SndGn K mg W (tPlain ts) (gPlain ms) := by
  intro G0 H0 σ G H ρ ys ds D I r q
  refine h G0 H0 σ G H ρ _ I ?_
  unfold gPlain at q
  cases eo : ms ρ with
  | nx ρ' =>
    rw [eo] at q
    exact fun σ' G' H' I' s => q σ' G' H' ys I' s (r.mono s)
  | bk ρ' =>
    rw [eo] at q
    exact fun σ' G' H' I' s => q σ' G' H' ys I' s (r.mono s)
  | ct ρ' =>
    rw [eo] at q
    exact fun σ' G' H' I' s => q σ' G' H' ys I' s (r.mono s)
  | ex n fs ρ' =>
    rw [eo] at q
    exact q
  | rt r' =>
    rw [eo] at q
    exact q.elim
  | rx r' ρ' =>
    rw [eo] at q
    exact q.elim
  | no =>
    rw [eo] at q
    exact q.elim
theorem sndg_seq (ha : SndGn K mg W t a) (hb : SndGn K mg W u b) : SndGn K mg W (tGThen t u) (gSeq a b) := by
  intro G0 H0 σ G H ρ ys ds D I r q
  refine ha G0 H0 σ G H ρ ys ds _ I r ?_
  unfold gSeq at q
  cases ea : a ds ρ with
  | nx ds' ρ' =>
    rw [ea] at q
    exact fun σ' G' H' ys' I' s r' => hb G0 H0 σ' G' H' ρ' ys' ds' D I' r' (GOutR.up s q)
  | bk ds' ρ' =>
    rw [ea] at q
    exact q
  | ct ds' ρ' =>
    rw [ea] at q
    exact q
  | ex n fs ρ' =>
    rw [ea] at q
    exact q
  | no =>
    rw [ea] at q
    exact q.elim
theorem sndg_skip : SndGn K mg W tG0 gSkip := fun G0 H0 σ G H ρ ys ds D I r q => q σ G H ys I (Same.refl _) r
theorem sndg_yield (h : Snd K mg W te me) : SndGn K mg W (tGYield te) (gYield me) := by
  intro G0 H0 σ G H ρ ys ds D I r q
  unfold gYield at q
  split at q
  · rename_i hl
    refine ⟨by rw [r.length]; exact sz_lt hl, h G0 H0 σ G H ρ _ I (RR.gout I q fun r1 G1 H1 v er e1 v1 q1 => ?_)⟩
    split at q1
    · rename_i d ed
      obtain ⟨G2, x2, s2, kd⟩ := esc_one e1 v1.vw ed
      exact q1 σ G2 H1 _ (I.ext' x2) s2 ((r.mono x2.g).append (.cons kd .nil))
    · exact q1.elim
  · exact q.elim
theorem sndg_while (n : Nat) (hc : SndT K mg W tc mc) (hb : SndGn K mg W t b) : SndGn K mg W (tGWhile tc t) (gWhile mc b n) := by
  intro G0 H0 σ G H ρ ys ds D I r q
  refine ⟨fun m ys σ H => ∃ G ρ ds, EnvS K G0 H0 σ G H ρ ∧ RpA K G ys ds ∧ GOutR K mg W G0 H0 G D (gWhile mc b m ds ρ), ⟨n, G, ρ, ds, I, r, q⟩, ?_⟩
  rintro m ys σ H ⟨G2, ρ2, ds2, I2, r2, q2⟩
  cases m with
  | zero => exact q2.elim
  | succ m =>
    refine hc G0 H0 σ G2 H ρ2 _ I2 (RR.gout I2 q2 fun k G3 H3 v er e1 r1 q3 => ?_)
    cases (show v = k from r1)
    cases k with
    | false => exact iteF (q3 σ G3 H3 ys (I2.ext' e1) (Same.refl _) (r2.mono e1.g))
    | true =>
      refine iteT ⟨fun ys' σ' H' => ∃ G ρ ds, EnvS K G0 H0 σ' G H' ρ ∧ RpA K G ys' ds ∧ GOutR K mg W G0 H0 G D (gWhile mc b m ds ρ), fun ys' σ' H' h => ⟨m, Nat.lt_succ_self m, h⟩, ?_⟩
      refine hb G0 H0 σ G3 H3 ρ2 ys ds2 _ (I2.ext' e1) (r2.mono e1.g) ?_
      have q3 : GOutR K mg W G0 H0 G3 D (match b ds2 ρ2 with
        | .nx ds' ρ' => gWhile mc b m ds' ρ'
        | .ct ds' ρ' => gWhile mc b m ds' ρ'
        | .bk ds' ρ' => .nx ds' ρ'
        | o => o) := q3
      cases eo : b ds2 ρ2 with
      | nx ds' ρ' =>
        rw [eo] at q3
        exact fun σ5 G5 H5 ys5 I5 s5 r5 => ⟨G5, ρ', ds', I5, r5, GOutR.up s5 q3⟩
      | ct ds' ρ' =>
        rw [eo] at q3
        exact fun σ5 G5 H5 ys5 I5 s5 r5 => ⟨G5, ρ', ds', I5, r5, GOutR.up s5 q3⟩
      | bk ds' ρ' =>
        rw [eo] at q3
        exact q3
      | ex n fs ρ' =>
        rw [eo] at q3
        exact q3
      | no =>
        rw [eo] at q3
        exact q3.elim
end
/-! ### programs -/
structure PMGn (X : Cx) (W : WX) (st : Stmt) (tg : TGn) (m : List D → Rho → GOut) : Prop where
  p : GS X st tg
  s : SndGn X.K X.mg W tg m
structure PMGns (X : Cx) (W : WX) (st : List Stmt) (tg : TGn) (m : List D → Rho → GOut) : Prop where
  p : GSs X st tg
  s : SndGn X.K X.mg W tg m
section
variable {X : Cx} {W : WX} {st : Stmt} {rest body : List Stmt} {t u : TGn} {a b : List D → Rho → GOut} {ts : TS} {ms : Rho → Out} {e c : Expr} {te : TE} {me : Rho → Res Val} {tc : TT} {mc : Rho → Res Bool} {pos yp : Pos}
theorem pmgn_s (h : PMS X W st ts ms) : PMGn X W st (tPlain ts) (gPlain ms) := ⟨gs_ps h.p, sndg_plain h.s⟩
theorem pmgns_cons (ha : PMGn X W st t a) (hb : PMGns X W rest u b) : PMGns X W (st :: rest) (tGThen t u) (gSeq a b) := ⟨gss_cons ha.p hb.p, sndg_seq ha.s hb.s⟩
theorem pmgns_nil : PMGns X W [] tG0 gSkip := ⟨gss_nil, sndg_skip⟩
theorem pmgn_yield (h : PM X W e te me) (hco : X.env.scope.isCoroutine = false := by rfl) (hi : interactive X.env = false := by rfl) : PMGn X W (.Expr (.Yield (some e) yp) pos) (tGYield te) (gYield me) := ⟨gs_yield h.p hco hi, sndg_yield h.s⟩
theorem pmgn_while (n : Nat) (hp : PassesOwn (model X.prog X.w) X.A X.env X.xe) (hc : PMT X W c tc mc) (hb : PMGns X W body t b) : PMGn X W (.While c body [] pos) (tGWhile tc t) (gWhile mc b n) := ⟨gs_while hp hc.p hb.p, sndg_while n hc.s hb.s⟩
end
/-- a generator's def: what it hands out -/
def finG : GOut → Res (List D)
  | .nx ds _ => .ok ds
  | .ex n fs _ => .ex n fs
  | _ => .no
def mFnG (N : Nat) (m : List D → Rho → GOut) : List Val → Res (List D) := fun as => finG (m [] (as.map some ++ List.replicate (N - as.length) none))
abbrev RG (K : PySem.W.Frag) : Hp → Hp → Hp → List V → List D → Prop := fun _ G _ ys ds => RpA K G ys ds
def spGM (K : PySem.W.Frag) (mg : Str → Option Value) (n : Nat) (M : List Val → Res (List D)) : SpG := fun vs H Q E => ∃ G as, Same G H ∧ VRs K H G H vs as ∧ as.all isArg = true ∧ vs.length = n ∧ RR K mg (wOf E) (RG K) [] G H Q (M as)
section
variable {P : Program} {w : World} {K : PySem.W.Frag} {mg : Str → Option Value} {base : Heap}
theorem def_okG {x qual : Str} {st : Stmt} {f : Addr} {fd : FuncData} {N ps : List Str} {k : Nat} {m : List D → Rho → GOut} (F : Fun K x qual st f fd) (S : GScope N ps (defScope st))
    (hbody : ∀ (cdv : Value) (A : Around) (outer : List Env) (s : Shared) (H : Hp) (E : XK) (pn : List (Addr × Obj)), Room k (A.deeper (envOfC qual (defScope st) s.heap.objs.size f cdv)) →
      ∃ tg, PMGns (gcxOf P w K mg base N qual (defScope st) f cdv A outer s H E pn) (wOf E) (defBody st) tg m) : GFn P w K mg base (k + 1) f fd ps (spGM K mg ps.length (mFnG N.length m)) := by
  obtain ⟨oc, od, kV, doc, pm, an, cdv, ct, osl, rfl, lk, hcd⟩ := F.ex
  refine gfn_of lk hcd S (fun vs H Q E ⟨G, as, _, _, _, h, _⟩ => h) fun A outer s H vs Q E pn hr hsp => ?_
  obtain ⟨tg, B⟩ := hbody cdv A outer s H E pn hr
  refine ⟨tg, B.p, ?_⟩
  obtain ⟨G, as, hs, hv, ha, _, h⟩ := hsp
  have hl' : vs.length = as.length := hv.len
  have I := env_start hs hv ha (N.length - vs.length) 0
  refine B.s ⟨G, 0⟩ H (start N vs) G H _ [] [] _ I .nil ?_
  rw [hl'] at I ⊢
  unfold mFnG finG at h
  cases eo : m [] (as.map some ++ List.replicate (N.length - as.length) none) with
  | nx ds ρ =>
    rw [eo] at h
    exact fun σ' G' H'' ys I' _ r => h G' H'' ys I'.ext r
  | bk ds ρ =>
    rw [eo] at h
    exact h.elim
  | ct ds ρ =>
    rw [eo] at h
    exact h.elim
  | ex n fs ρ =>
    rw [eo] at h
    exact fun σ' G' H'' C d I' _ a b => h G' H'' C d I'.ext a b
  | no =>
    rw [eo] at h
    exact h.elim
/-- a def's promise without the state of repr -/
theorem def_okF {x qual : Str} {st : Stmt} {f : Addr} {fd : FuncData} {N ps : List Str} {k : Nat} {ms : Rho → Out} (F : Fun K x qual st f fd) (S : FnScope N ps (defScope st))
    (hbody : ∀ (cdv : Value) (A : Around) (outer : List Env) (s : Shared) (H : Hp) (E : XK), Room k (A.deeper (envOfC qual (defScope st) s.heap.objs.size f cdv)) →
      ∃ ts, PMSs (cxOf (L2.CX P w) P w K mg base N qual (defScope st) f cdv A outer s H E) (wOf E) (defBody st) ts ms) : FnOk P w K mg base (L2.CX P w) (k + 1) f fd ps (spM K mg ps.length (mFn N.length ms)) := by
  obtain ⟨oc, od, kV, doc, pm, an, cdv, ct, osl, rfl, lk, hcd⟩ := F.ex
  refine fn_of lk hcd S (fun vs H Q E ⟨G, as, _, _, _, h, _⟩ => h) fun A outer s H vs Q E hr hsp => ?_
  obtain ⟨ts, B⟩ := hbody cdv A outer s H E hr
  refine ⟨ts, B.p, ?_⟩
  obtain ⟨G, as, hs, hv, ha, _, h⟩ := hsp
  have hl' : vs.length = as.length := hv.len
  have I := env_start hs hv ha (N.length - vs.length) 0
  refine B.s ⟨G, 0⟩ H (start N vs) G H _ _ I ?_
  rw [hl'] at I ⊢
  unfold mFn fin at h
  cases eo : ms (as.map some ++ List.replicate (N.length - as.length) none) with
  | nx ρ =>
    rw [eo] at h
    exact fun σ' G' H'' I' _ => h G' H'' .non I'.ext Rp.non
  | rt r =>
    rw [eo] at h
    exact h
  | ex n fs ρ =>
    rw [eo] at h
    exact fun σ' G' H'' C d I' _ a b => h G' H'' C d I'.ext a b
  | _ =>
    rw [eo] at h
    exact h.elim
theorem fn_g {k : Nat} {f : Addr} {fd : FuncData} {ps : List Str} {sp : Sp} (F : FnOk P w K mg base (L2.CX P w) k f fd ps sp) : FnG P w K mg base k f fd ps sp := ⟨F.len, fun A outer s H args us vs Q E _ hr => F.run A outer s H args us vs Q E hr⟩
end
section
variable {X : Cx} {W : WX} {k n : Nat} {f : Addr} {fd : FuncData} {ps : List Str} {M : List Val → Res Val} {x nm : Str} {p p2 pos pos2 : Pos} {e : Expr} {es : List Expr} {ta : TA} {ma : Rho → Res (List Val)}
theorem pm_defO (F : FnOk X.prog X.w X.K X.mg X.base (L2.CX X.prog X.w) k f fd ps (spM X.K X.mg n M)) (hr : Room k X.A) (gm : X.mg x = some (.ref f)) (kp : PySem.W.keepIn X.K (.ref f) = true) (hb : Binds X.K fd ps []) (hx : ∀ σ, PassesAt (L2.CX X.prog X.w) X σ (WE W σ))
    (ha : PMA X W (e :: es) ta ma) (hn : ∀ ρ as, ma ρ = .ok as → as.length = n) (gl : Gl X x := by rfl) (db : (x == ("__debug__" : Str)) = false := by decide) (st : starEach (e :: es) X.env = (false, eval e X.env) :: starEach es X.env := by rfl) (pl : (backTo pos (starEach es X.env)).any (·.1) = false := by rfl) :
    PM X W (.Call (.Name x p) (e :: es) [] pos) (tCallS (spM X.K X.mg n M) (WE W) ta) (mDef M ma) := by
  refine ⟨⟨fun pins s σ H Q J h => wpAny_Call_Name_kw (ld_glob J gl gm (PySem.W.callWith_K (h₀ := X.base) J.ok.mod.kin kp (thn (ha.p.run pos pins s σ H _ J h) fun us s1 ⟨vs, H1, J1, r, q⟩ => ⟨J1.kIn, ?_⟩) st pl) db)⟩, snd_def hn ha.s⟩
  have hl : us.length = ps.length := r.length.symm.trans (F.len _ _ _ _ q)
  have bb := hb s1 us J1.kIn ((congrArg List.length (List.append_nil us)).trans hl)
  rw [List.append_nil] at bb
  refine wpAny_call (codeAny_mono (F.run X.A X.stack s1 H1 ⟨us, []⟩ us vs Q (WE W σ) hr J1.env0 bb r q) fun o s2 hq => ?_)
  match o, hq with
  | .error err, hq => exact hx σ pins H1 s1 err s2 J1 hq
  | .ok (.ret u), hq => exact J1.after hq
  | .ok .next, hq => exact hq.elim
  | .ok .brk, hq => exact hq.elim
  | .ok .cont, hq => exact hq.elim
end
/-! ### list(g(..)) -/
/-- flat data alone -/
def flatS : Val → Bool
  | .sh d => flatD d
  | _ => false
def mGenL (names : Str → Bool) (M : List Val → Res (List D)) (ma : Rho → Res (List Val)) : Rho → Res Val := fun ρ => (ma ρ).bind fun as => if as.all flatS = true then (match M as with
  | .ok ds => .ok (.ow ds)
  | .ex n fs => if names n = true then .ex n fs else .no
  | .no => .no) else .no
/-- an exception that W wants, no StopIteration -/
def noSt (K : PySem.W.Frag) (E : XK) : XK := fun cls d H => E cls d H ∧ PySem.W.subIn K cls (.type "StopIteration") = some false
theorem flatS_arg {as : List Val} (h : as.all flatS = true) : as.all isArg = true := by
  rw [List.all_eq_true] at h ⊢
  intro a ha
  have := h a ha
  cases a <;> first | rfl | cases this
theorem flatS_vrs {K : PySem.W.Frag} {B B' G H : Hp} : ∀ {as : List Val} {vs : List V}, as.all flatS = true → VRs K B G H vs as → VRs K B' G H vs as
  | [], _, _, .nil => .nil
  | a :: as, _, h, .cons x y => by
    rw [List.all_cons, Bool.and_eq_true] at h
    refine .cons ?_ (flatS_vrs h.2 y)
    cases a <;> first | exact x | cases h.1
theorem snd_listG {K : PySem.W.Frag} {mg : Str → Option Value} {E : XK} {n : Nat} {names : Str → Bool} {M : List Val → Res (List D)} {ta : TA} {ma : Rho → Res (List Val)} (hn : ∀ ρ as, ma ρ = .ok as → as.length = n)
    (hs : ∀ x C, names x = true → mg x = some (.ref C) → PySem.W.subIn K (.ref C) (.type "StopIteration") = some false) (ha : SndA K mg (wOf E) ta ma) : Snd K mg (wOf E) (tListG (tCallG (spGM K mg n M) [] (noSt K E) ta)) (mGenL names M ma) := by
  intro G0 H0 σ G H ρ Q I h
  refine ha G0 H0 σ G H ρ _ I (RR.bnd (Ext.refl I.s) h fun as G1 H1 vs ea e1 r1 h1 => ?_)
  split at h1
  · rename_i fl
    refine ⟨G1, as, (I.ext' e1).s, ?_, flatS_arg fl, ?_, ?_⟩
    · rw [List.append_nil]
      exact flatS_vrs fl r1
    · rw [List.append_nil]
      exact r1.len.trans (hn ρ as ea)
    · cases em : M as with
      | ok ds =>
        rw [em] at h1
        have h1 : RR K mg (wOf E) (RV K) σ G H Q (.ok (.ow ds)) := h1
        intro G2 H2 ys e2 r2 p hp
        have e3 := e1.trans e2
        have hp0 : H p = none := e3.h.free hp
        have gp0 : G2 p = none := e3.s.free hp
        exact h1 G2 _ _ (e3.trans (Ext.newO e3.s hp)) ⟨p, ys, rfl, upd_same, gp0, hp0, r2⟩
      | ex n fs =>
        rw [em] at h1
        have h1 : RR K mg (wOf E) (RV K) σ G H Q (if names n = true then .ex n fs else .no) := h1
        split at h1
        · rename_i hc
          exact fun G2 H2 C d e2 a b => ⟨h1 G2 H2 C d (e1.trans e2) a b, hs n C hc a⟩
        · exact h1.elim
      | no =>
        rw [em] at h1
        have h1 : RR K mg (wOf E) (RV K) σ G H Q .no := h1
        exact h1.elim
  · exact h1.elim
section
variable {X : Cx} {E : XK} {k n : Nat} {f : Addr} {fd : FuncData} {ps : List Str} {M : List Val → Res (List D)} {names : Str → Bool} {x nm : Str} {p p2 pos pos2 : Pos} {e : Expr} {es : List Expr} {ta : TA} {ma : Rho → Res (List Val)}
theorem pm_listG (F : GFn X.prog X.w X.K X.mg X.base k f fd ps (spGM X.K X.mg n M)) (hr : Room (k + 3) X.A) (gm : X.mg x = some (.ref f)) (kp : PySem.W.keepIn X.K (.ref f) = true) (hb : Binds X.K fd ps []) (hx : Passes (L2.CX X.prog X.w) X (noSt X.K E))
    (hs : ∀ y C, names y = true → X.mg y = some (.ref C) → PySem.W.subIn X.K (.ref C) (.type "StopIteration") = some false) (hl : X.mg "list" = none)
    (ha : PMA X (wOf E) (e :: es) ta ma) (hn : ∀ ρ as, ma ρ = .ok as → as.length = n) (gl : Gl X x := by rfl) (gll : Gl X "list" := by rfl) (bl : bootBuiltins "list" = some (.type "list") := by rfl) (db : (x == ("__debug__" : Str)) = false := by decide)
    (st : starEach (e :: es) X.env = (false, eval e X.env) :: starEach es X.env := by rfl) (pl : (backTo pos (starEach es X.env)).any (·.1) = false := by rfl)
    (st2 : starEach [.Call (.Name x p) (e :: es) [] pos] X.env = (false, eval (.Call (.Name x p) (e :: es) [] pos) X.env) :: starEach [] X.env := by rfl) :
    PM X (wOf E) (.Call (.Name "list" p2) [.Call (.Name x p) (e :: es) [] pos] [] pos2) (tListG (tCallG (spGM X.K X.mg n M) [] (noSt X.K E) ta)) (mGenL names M ma) :=
  ⟨pe_listG (pgen_call F (hr.mono (by omega)) gl gm kp hb .nil ha.p db st pl) hx (fun cls d H h => h.2) hr gll hl bl (by decide) (by decide) st2, snd_listG hn hs ha.s⟩
end
theorem passNS {X : Cx} {E : XK} (tk : Takes X (wOf E)) : Passes (L2.CX X.prog X.w) X (noSt X.K E) := fun pins σ H s e s' I c => passAt tk σ pins H s e s' I (by
  obtain ⟨a, B, H', cls, d, z1, fl, z2, ub, z3, z4, z5, z6⟩ := c
  exact ⟨a, B, H', cls, d, z1, fl, z2, ub, z3, z4, z5, z6.1⟩)
section
variable {X : Cx} {W : WX} {E : XK} {k n : Nat} {P : Program} {w : World} {K : PySem.W.Frag} {mg : Str → Option Value} {base : Heap} {f : Addr} {fd : FuncData} {ps : List Str} {names : Str → Bool} {x : Str} {p p2 pos pos2 : Pos} {e : Expr} {es : List Expr} {ta : TA} {ma : Rho → Res (List Val)}
theorem pm_defOK {M : List Val → Res Val} (F : FnOk P w K mg base (L2.CX P w) k f fd ps (spM K mg n M)) (hr : Room k X.A) (gm : mg x = some (.ref f)) (kp : PySem.W.keepIn K (.ref f) = true) (hb : Binds K fd ps [])
    (hx : ∀ σ, PassesAt (L2.CX X.prog X.w) X σ (WE W σ)) (ha : PMA X W (e :: es) ta ma) (hn : ∀ ρ as, ma ρ = .ok as → as.length = n) (gl : Gl X x := by rfl) (h1 : X.prog = P := by rfl) (h2 : X.w = w := by rfl) (h3 : X.K = K := by rfl) (h4 : X.mg = mg := by rfl) (h5 : X.base = base := by rfl)
    (db : (x == ("__debug__" : Str)) = false := by decide) (st : starEach (e :: es) X.env = (false, eval e X.env) :: starEach es X.env := by rfl) (pl : (backTo pos (starEach es X.env)).any (·.1) = false := by rfl) :
    PM X W (.Call (.Name x p) (e :: es) [] pos) (tCallS (spM K mg n M) (WE W) ta) (mDef M ma) := by
  subst h1 h2 h3 h4 h5
  exact pm_defO F hr gm kp hb hx ha hn gl db st pl
theorem pm_listGK {M : List Val → Res (List D)} (F : GFn P w K mg base k f fd ps (spGM K mg n M)) (hr : Room (k + 3) X.A) (gm : mg x = some (.ref f)) (kp : PySem.W.keepIn K (.ref f) = true) (hb : Binds K fd ps []) (tk : Takes X (wOf E))
    (hs : ∀ y C, names y = true → mg y = some (.ref C) → PySem.W.subIn K (.ref C) (.type "StopIteration") = some false) (hl : mg "list" = none)
    (ha : PMA X (wOf E) (e :: es) ta ma) (hn : ∀ ρ as, ma ρ = .ok as → as.length = n) (gl : Gl X x := by rfl) (gll : Gl X "list" := by rfl) (h1 : X.prog = P := by rfl) (h2 : X.w = w := by rfl) (h3 : X.K = K := by rfl) (h4 : X.mg = mg := by rfl) (h5 : X.base = base := by rfl)
    (bl : bootBuiltins "list" = some (.type "list") := by rfl) (db : (x == ("__debug__" : Str)) = false := by decide)
    (st : starEach (e :: es) X.env = (false, eval e X.env) :: starEach es X.env := by rfl) (pl : (backTo pos (starEach es X.env)).any (·.1) = false := by rfl)
    (st2 : starEach [.Call (.Name x p) (e :: es) [] pos] X.env = (false, eval (.Call (.Name x p) (e :: es) [] pos) X.env) :: starEach [] X.env := by rfl) :
    PM X (wOf E) (.Call (.Name "list" p2) [.Call (.Name x p) (e :: es) [] pos] [] pos2) (tListG (tCallG (spGM K mg n M) [] (noSt K E) ta)) (mGenL names M ma) := by
  subst h1 h2 h3 h4 h5
  exact pm_listG F hr gm kp hb (passNS tk) hs hl ha hn gl gll bl db st pl st2
end
end Mi

/-! a and b, a or b, where the values are truth values and a list changes on the way. -/
namespace Mi
open PySem PySem.Spec PyProof.Rows L2
def mAndVE (i : Nat) (ma mb : Rho → RE Val) : Rho → RE Val := fun ρ => (ma ρ).bind fun a xs => (liftE xs (boolOf a)).bind fun k ys => if k = true then mb (ioPut i ys ρ) else .ok (.sh (.bool false)) ys
def mOrVE (i : Nat) (ma mb : Rho → RE Val) : Rho → RE Val := fun ρ => (ma ρ).bind fun a xs => (liftE xs (boolOf a)).bind fun k ys => if k = true then .ok (.sh (.bool true)) ys else mb (ioPut i ys ρ)
section
variable {K : PySem.W.Frag} {mg : Str → Option Value} {W : WX} {i : Nat} {ta tb : TE} {ma mb : Rho → RE Val}
theorem sndE_andV (ha : SndE K mg W i ta ma) (hb : SndE K mg W i tb mb) : SndE K mg W i (tAndV ta tb) (mAndVE i ma mb) := by
  intro G0 H0 σ G H ρ Q p xs I e hv h
  have hp0 := (I.cell e hv).1.ne
  refine ha G0 H0 σ G H ρ _ p xs I e hv (RRE.bnd (ExtE.refl I.s) hp0 h fun a xs1 G1 H1 x ea x1 c1 r1 h1 => ?_)
  cases eb : boolOf a with
  | none =>
    rw [eb] at h1
    exact h1.elim
  | some k =>
    rw [eb] at h1
    refine ⟨k, boolOf_inv r1 eb, ?_⟩
    cases k with
    | true => exact iteT (hb G0 H0 σ G1 H1 _ _ p xs1 (I.eff e hv x1 c1) (ioGet_put e) hv (RRE.start x1 c1.ne (fun _ _ _ _ z => z.backF fun b hb => x1.free c1.ne hb) h1))
    | false => exact iteF (h1 G1 H1 _ x1 c1 (Rp.bl _))
theorem sndE_orV (ha : SndE K mg W i ta ma) (hb : SndE K mg W i tb mb) : SndE K mg W i (tOrV ta tb) (mOrVE i ma mb) := by
  intro G0 H0 σ G H ρ Q p xs I e hv h
  have hp0 := (I.cell e hv).1.ne
  refine ha G0 H0 σ G H ρ _ p xs I e hv (RRE.bnd (ExtE.refl I.s) hp0 h fun a xs1 G1 H1 x ea x1 c1 r1 h1 => ?_)
  cases eb : boolOf a with
  | none =>
    rw [eb] at h1
    exact h1.elim
  | some k =>
    rw [eb] at h1
    refine ⟨k, boolOf_inv r1 eb, ?_⟩
    cases k with
    | false => exact iteF (hb G0 H0 σ G1 H1 _ _ p xs1 (I.eff e hv x1 c1) (ioGet_put e) hv (RRE.start x1 c1.ne (fun _ _ _ _ z => z.backF fun b hb => x1.free c1.ne hb) h1))
    | true => exact iteT (h1 G1 H1 _ x1 c1 (Rp.bl _))
end
section
variable {X : Cx} {W : WX} {i : Nat} {a b : Expr} {rest : List Expr} {pos : Pos} {ta tb : TE} {ma mb : Rho → RE Val}
theorem pme_one {op} (h : PME i X W a ta ma) : PME i X W (.BoolOp op [a] pos) ta ma := ⟨pe_one h.p, h.s⟩
theorem pme_and (ha : PME i X W a ta ma) (hb : PME i X W (.BoolOp .And (b :: rest) pos) tb mb) : PME i X W (.BoolOp .And (a :: b :: rest) pos) (tAndV ta tb) (mAndVE i ma mb) := ⟨pe_and ha.p hb.p, sndE_andV ha.s hb.s⟩
theorem pme_or (ha : PME i X W a ta ma) (hb : PME i X W (.BoolOp .Or (b :: rest) pos) tb mb) : PME i X W (.BoolOp .Or (a :: b :: rest) pos) (tOrV ta tb) (mOrVE i ma mb) := ⟨pe_or ha.p hb.p, sndE_orV ha.s hb.s⟩
end
end Mi

/-! Texts: order, ord, find, startswith, partition; get with one argument; names that are texts. -/
namespace Mi
open PySem PySem.Spec PyProof.Rows L2
def rLeS : R2 := fun x y H Q => ∃ i j, x = .str i ∧ y = .str j ∧ Q (.bl (!decide (j.cps.toList < i.cps.toList))) H
def oLeS : Val → Val → Option Val
  | .sh (.str i), .sh (.str j) => some (.sh (.bool (!decide (j.cps.toList < i.cps.toList))))
  | _, _ => none
theorem os_leS {K : PySem.W.Frag} : OpS K (fun x y H Q => ∃ i j, x = .str i ∧ y = .str j ∧ Q (.bl (!decide (j.cps.toList < i.cps.toList))) H) oLeS := by
  intro B G H x y a b c Q s ha hb e q
  unfold oLeS at e
  split at e
  · rename_i i j
    cases e
    exact ⟨i, j, ha.str_, hb.str_, q G H _ (Ext.refl s) (.bl _)⟩
  · cases e
def cOrd : List Val → Option Val
  | [.sh (.str x)] => if x.length = 1 then some (.sh (.int (x.cps.getD 0 0 : Nat))) else none
  | _ => none
theorem cs_ord {K : PySem.W.Frag} : CallS K (fun xs H Q => ∃ x : Str, xs = [.str x] ∧ x.length = 1 ∧ Q (.int (x.cps.getD 0 0 : Nat)) H) cOrd := by
  intro B G H vs as c Q s h e q
  unfold cOrd at e
  split at e
  · split at e
    · rename_i x hl
      cases e
      obtain ⟨v, rfl, h1⟩ := vrs1 h
      exact ⟨x, by rw [h1.str_], hl, q G H _ (Ext.refl s) (.int _)⟩
    · cases e
  · cases e
def kFind : Val → List Val → Option Val
  | .sh (.str a), [.sh (.str b)] => some (.sh (.int (Txt.find a b)))
  | _, _ => none
theorem ks_find {K : PySem.W.Frag} : MethS K (fun x xs H Q => ∃ a b, x = .str a ∧ xs = [.str b] ∧ Q (.int (Txt.find a b)) H) kFind := by
  intro B G H x o vs as c Q s ho ha e q
  unfold kFind at e
  split at e
  · rename_i a b
    cases e
    obtain ⟨v, rfl, h1⟩ := vrs1 ha
    exact ⟨a, b, ho.str_, by rw [h1.str_], q G H _ (Ext.refl s) (.int _)⟩
  · cases e
def kStarts : Val → List Val → Option Val
  | .sh (.str a), [.sh (.str b)] => some (.sh (.bool (Txt.startswith a b)))
  | _, _ => none
theorem ks_starts {K : PySem.W.Frag} : MethS K (fun x xs H Q => ∃ a b, x = .str a ∧ xs = [.str b] ∧ Q (.bl (Txt.startswith a b)) H) kStarts := by
  intro B G H x o vs as c Q s ho ha e q
  unfold kStarts at e
  split at e
  · rename_i a b
    cases e
    obtain ⟨v, rfl, h1⟩ := vrs1 ha
    exact ⟨a, b, ho.str_, by rw [h1.str_], q G H _ (Ext.refl s) (.bl _)⟩
  · cases e
def kPart : Val → List Val → Option Val
  | .sh (.str a), [.sh (.str b)] => if (b.length == 0) = false ∧ a.length ≤ 100000 then some (.sh (.tuple [.str (Txt.partition a b).1, .str (Txt.partition a b).2.1, .str (Txt.partition a b).2.2])) else none
  | _, _ => none
theorem ks_part {K : PySem.W.Frag} : MethS K (fun x xs H Q => ∃ a b, x = .str a ∧ xs = [.str b] ∧ (b.length == 0) = false ∧ a.length ≤ sizeLine ∧
    ∀ p, H p = none → Q (.ref p) (upd H p (.tup [.str (Txt.partition a b).1, .str (Txt.partition a b).2.1, .str (Txt.partition a b).2.2]))) kPart := by
  intro B G H x o vs as c Q s ho ha e q
  unfold kPart at e
  split at e
  · split at e
    · rename_i a b hc
      cases e
      obtain ⟨v, rfl, h1⟩ := vrs1 ha
      exact ⟨a, b, ho.str_, by rw [h1.str_], hc.1, sz_le hc.2, fun p hp => q _ _ _ (Ext.newS s hp) (Rp.tup (.inl (.inl upd_same)) (.cons (.str _) (.cons (.str _) (.cons (.str _) .nil))))⟩
    · cases e
  · cases e
theorem pm_globS {X : Cx} {W : WX} {pos : Pos} {x y : Str} (hm : ∃ t, X.mg x = some (.str y t)) (hg : Gl X x := by rfl) (hd : (x == ("__debug__" : Str)) = false := by decide) : PM X W (.Name x pos) (tC (.str y)) (mC (.str y)) := by
  obtain ⟨t, e⟩ := hm
  exact pm_glob (v := .str y) hg e ⟨t, rfl⟩ (fun _ => .str y) hd
def mGet1 (mo mk : Rho → Res Val) : Rho → Res Val := fun ρ => (mo ρ).bind fun o => match o with
  | .sh (.dict ds) => (mk ρ).bind fun rk => lift (match keyOf rk with
    | some k => match getD2 ds k with
      | some d => some (.sh d)
      | none => some (.sh .none)
    | none => none)
  | _ => .no
theorem snd_get1 {K : PySem.W.Frag} {mg : Str → Option Value} {W : WX} {to tk : TE} {mo mk : Rho → Res Val} (ho : Snd K mg W to mo) (hk : Snd K mg W tk mk) : Snd K mg W (tDGet1 to tk) (mGet1 mo mk) := by
  intro G0 H0 σ G H ρ Q I h
  refine ho G0 H0 σ G H ρ _ I (RR.bnd (Ext.refl I.s) h fun o G1 H1 x eo e1 r1 h1 => ?_)
  split at h1
  · rename_i ds
    cases (show Rp K G1 x (.dict ds) from r1) with
    | @dct a kvs _ ha kf =>
      refine ⟨a, rfl, .inl ⟨kvs, .inl (e1.s _ _ ha)⟩, ?_⟩
      refine hk G0 H0 σ G1 H1 ρ _ (I.ext' e1) (RR.bnd e1 h1 fun rk G2 H2 y ek e2 r2 h2 => ?_)
      obtain ⟨c, ec, q⟩ := h2.lift
      have e12 := e1.trans e2
      split at ec
      · rename_i k ek2
        have hk2 : H2 a = some (.dK kvs) := e2.s _ _ (e2.g _ _ ha)
        refine ⟨_, by rw [keyOf_ok r2 ek2]; exact DGet.k hk2, ?_⟩
        rcases get_ok k kf with ⟨n1, n2⟩ | ⟨d, v, s1, s2, f⟩
        · rw [n1] at ec
          rw [n2]
          cases ec
          exact q G2 H2 _ e12 .non
        · rw [s1] at ec
          rw [s2]
          cases ec
          exact q G2 H2 _ e12 (show Rp K G2 v d from f.rp)
      · cases ec
  · exact h1.elim
theorem pm_get1 {X : Cx} {W : WX} {o e : Expr} {to tk : TE} {mo mk : Rho → Res Val} {apos cpos : Pos} (hu : X.A.units + 64 < cLine) (ho : PM X W o to mo) (hk : PM X W e tk mk) (m : M1 X o "get" apos e cpos := by exact ⟨rfl, rfl, rfl, rfl⟩) : PM X W (.Call (.Attribute o "get" apos) [e] [] cpos) (tDGet1 to tk) (mGet1 mo mk) :=
  ⟨pe_dget1 (by omega) ho.p hk.p m, snd_get1 ho.s hk.s⟩
section
variable {X : Cx} {W : WX} {k n : Nat} {f : Addr} {fd : FuncData} {ps : List Str} {M : List Val → Res Val} {x : Str} {p pos : Pos}
theorem pm_def0 (F : FnG X.prog X.w X.K X.mg X.base k f fd ps (spM X.K X.mg 0 M)) (gd : X.A.guards = some []) (hr : Room k X.A) (gm : X.mg x = some (.ref f)) (kp : PySem.W.keepIn X.K (.ref f) = true) (hb : Binds X.K fd ps []) (hx : ∀ σ, PassesAt (L2.CX X.prog X.w) X σ (WE W σ))
    (gl : Gl X x := by rfl) (db : (x == ("__debug__" : Str)) = false := by decide) : PM X W (.Call (.Name x p) [] [] pos) (tCallS (spM X.K X.mg 0 M) (WE W) tNil) (mDef M mNil) := by
  refine ⟨⟨fun pins s σ H Q J h => ?_⟩, snd_def (fun ρ as e => by cases e; rfl) snd_nil⟩
  refine wpAny_Call_Name_kw (ld_glob J gl gm ?_ db)
  refine PySem.W.callWith_K0 J.kIn kp ?_
  have hl : ([] : List Value).length = ps.length := F.len [] H Q (WE W σ) h
  have bb := hb s [] J.kIn hl
  refine wpAny_call (codeAny_mono (F.go X.A X.stack s H ⟨[], []⟩ [] [] Q (WE W σ) gd hr J.env0 bb .nil h) fun o s2 hq => ?_)
  match o, hq with
  | .error err, hq => exact hx σ pins H s err s2 J hq
  | .ok (.ret u), hq => exact J.after hq
  | .ok .next, hq => exact hq.elim
  | .ok .brk, hq => exact hq.elim
  | .ok .cont, hq => exact hq.elim
theorem pm_defK0 {P : Program} {w : World} {K : PySem.W.Frag} {mg : Str → Option Value} {base : Heap} (F : FnG P w K mg base k f fd ps (spM K mg 0 M)) (gd : X.A.guards = some []) (hr : Room k X.A) (gm : mg x = some (.ref f)) (kp : PySem.W.keepIn K (.ref f) = true) (hb : Binds K fd ps [])
    (hx : ∀ σ, PassesAt (L2.CX X.prog X.w) X σ (WE W σ)) (gl : Gl X x := by rfl) (h1 : X.prog = P := by rfl) (h2 : X.w = w := by rfl) (h3 : X.K = K := by rfl) (h4 : X.mg = mg := by rfl) (h5 : X.base = base := by rfl) (db : (x == ("__debug__" : Str)) = false := by decide) :
    PM X W (.Call (.Name x p) [] [] pos) (tCallS (spM K mg 0 M) (WE W) tNil) (mDef M mNil) := by
  subst h1 h2 h3 h4 h5
  exact pm_def0 F gd hr gm kp hb hx gl db
end
/-- name = {..} on one line, a local name -/
theorem swD_true {kx vx : Expr} {gs : List Comprehension} {scope : Scope} {pos py : Pos} {y : Str} {l : Nat} {env : Env} (hk : env.scope.kind = .function) (hy : env.scope.names.lookup y = some .local) (hl : (py.line == pos.line) = true)
    (ha : (scope.names.any fun (n, k) => n == y && (k == .local || k == .cell)) = false) : swapsWith (.DictComp kx vx gs scope pos) (some (.Name y py)) l env = pure true := by
  have e1 : env.kindOf y = some .local := hy
  have e2 : env.blockKind = .function := by
    unfold Env.blockKind
    rw [hk]
    rfl
  unfold swapsWith
  simp only [e2, e1, ha, Expr.pos, hl]
  rfl
section
variable {X : Cx} {W : WX} {kx vx tg iter : Expr} {ifs : List Expr} {scope : Scope} {pos : Pos} {wi : TI} {mi : Rho → Res (List D)} {g : TG} {bp : BP} {ts : List Nat} {tt : TT} {mt : Rho → Res Bool} {tk tv : TE} {mk mv : Rho → Res Val}
theorem pms_setDc (i : Nat) (own : List (Str × Nat)) {y : Str} {py spos : Pos} (hc : X.calm = true) (hN : X.N.Nodup) (hy : X.N[i]? = some y) (hyl : X.env.scope.names.lookup y = some .local)
    (hsw : swapsWith (.DictComp kx vx [⟨tg, iter, ifs, 0⟩] scope pos) (some (.Name y py)) spos.line X.env = pure true) (hi : PMI X W tg iter wi mi) (ok : BlkOk X.N X.env.scope scope own) (hts : ∀ t ∈ ts, t ∈ own.map (·.2))
    (hg : ∀ (s : Shared) (H : Hp) (C : Addr) (cl : List (Str × Addr)) (fp : List Addr), PMG (X.blk s H scope (compEnvC scope cl C X.env) fp) tg g bp ts)
    (ht : ∀ (s : Shared) (H : Hp) (C : Addr) (cl : List (Str × Addr)) (fp : List Addr), PMTs (X.blk s H scope (compEnvC scope cl C X.env) fp) W0 ifs tt mt)
    (hk : ∀ (s : Shared) (H : Hp) (C : Addr) (cl : List (Str × Addr)) (fp : List Addr), PM (X.blk s H scope (compEnvC scope cl C X.env) fp) W0 kx tk mk)
    (hv : ∀ (s : Shared) (H : Hp) (C : Addr) (cl : List (Str × Addr)) (fp : List Addr), PM (X.blk s H scope (compEnvC scope cl C X.env) fp) W0 vx tv mv) (hs : ∀ x, foldedSetIterable iter X.env x = pure x := by intro _; rfl) :
    PMS X W (.Assign [.Name y py] (.DictComp kx vx [⟨tg, iter, ifs, 0⟩] scope pos) spos) (tAsg (tDc wi g tt tk tv (own.map (·.2))) (gName i)) (mSet i (mDc mi bp mt mk mv (own.map (·.2)))) := by
  refine ⟨⟨fun pins s σ H D I h => ?_⟩, snd_set (snd_dc hi.s (hg X.s_0 X.H_0 0 [] []).s hts (ht X.s_0 X.H_0 0 [] []).s (hk X.s_0 X.H_0 0 [] []).s (hv X.s_0 X.H_0 0 [] []).s)⟩
  rw [exec_Assign_Name_used _ _ _ _ hsw]
  refine wpAny_bind (wpAny_standAt (wpAny_bind ?_))
  have h : tDc wi g tt tk tv (own.map (·.2)) σ H (fun x H1 => gName i x σ H1 D.nx) := h
  have core := dc_core (use := some (assign (.Name y py) X.env)) (pos := pos) (pos' := firstIterPos [⟨tg, iter, ifs, 0⟩] pos) (Qf := fun _ s' => SP X pins D .next s') hc hN I hi.p ok (fun s H C cl fp => (hg s H C cl fp).p) (fun s H C cl fp => (ht s H C cl fp).p) (fun s H C cl fp => (hk s H C cl fp).p) (fun s H C cl fp => (hv s H C cl fp).p) hs h
    fun L C s' m H' I' q hn f => by
      obtain ⟨f0, f1, f2, f3, f4, f5⟩ := f
      refine wpAny_assign_Name (store_ok2 (v := V.ref L) I' hN hy (.inl hyl) rfl (fun s2 I2 ⟨a, sb, ha⟩ => ?_) (.inr hyl))
      have ne : C ≠ a := ha.elim (fun z => z ▸ f1) fun z e => f4 y a z e.symm
      exact ⟨m, hn.sameBut sb ne, fun h3 sb3 => ⟨_, H', I2.turned (t' := s2.toks) (fun b o hb e => (sb3.2 b hb).trans e) f0 f1 f3 f4 f5, q⟩⟩
  exact wpAny_bind (thn core fun _ s' hq => wpAny_pure (wpAny_pure hq))
end
end Mi

/-! A name that holds a list of lists of its own, apart from all the rest: what a def gave that was handed flat data alone. -/
namespace Mi
open PySem PySem.Spec PyProof.Rows L2
def hp0 : Hp := fun _ => none
def joinH (O H : Hp) : Hp := fun p => match O p with
  | some x => some x
  | none => H p
theorem joinH_l {O H : Hp} {p : Addr} {x : HO} (h : O p = some x) : joinH O H p = some x := by unfold joinH; rw [h]
theorem joinH_r {O H : Hp} {p : Addr} (h : O p = none) : joinH O H p = H p := by unfold joinH; rw [h]
theorem joinH_none {O H : Hp} {p : Addr} (h : joinH O H p = none) : O p = none ∧ H p = none := by
  cases e : O p with
  | none => exact ⟨rfl, by rw [joinH_r e] at h; exact h⟩
  | some x => rw [joinH_l e] at h; cases h
theorem same_joinL {O H : Hp} : Same O (joinH O H) := fun p x e => joinH_l e
/-- no borrowed list lies in O -/
def NoBw (O : Hp) (σ : L2.St) (ρ : Rho) : Prop := ∀ (j : Nat) (xs : List D) (p : Addr), ρ[j]? = some (some (.bw xs)) → σ[j]? = some (some (.ref p)) → O p = none
/-- the slot i: data d of its own, in O -/
def HEnv (K : PySem.W.Frag) (G0 : Bs) (H0 : Hp) (σ : L2.St) (G H : Hp) (ρ : Rho) (i : Nat) (d : D) : Prop :=
  ∃ O v, σ[i]? = some (some v) ∧ Rp K O v d ∧ (∀ p, O p ≠ none → G0.g p = none ∧ H0 p = none) ∧ EnvS K G0 (joinH O H0) σ G H ρ ∧ ρ[i]? = some none ∧ NoBw O σ ρ
theorem none_of_not {H : Hp} {p : Addr} (h : ¬ H p ≠ none) : H p = none := by
  cases e : H p with
  | none => rfl
  | some x => exact absurd (by rw [e]; exact Option.some_ne_none _) h
section
variable {K : PySem.W.Frag} {mg : Str → Option Value} {W : WX} {G0 : Bs} {H0 G H H1 O : Hp} {σ : L2.St} {ρ : Rho} {i : Nat} {v : V} {d : D}
theorem EnvS.hide (I : EnvS K G0 H0 σ G H ρ) (e : Ext hp0 H O H1) : EnvS K G0 (joinH O H0) (σ.set i (some v)) G H1 (ρ.set i none) := by
  have fresh : ∀ p, H p ≠ none → O p = none := fun p h => e.n p h rfl
  refine ⟨⟨fun p x q => ?_, I.ext.g, I.s.trans e.h, fun p h g => ?_⟩, fun j xs hj => ?_, by rw [List.length_set, List.length_set]; exact I.len, fun j r hj => ?_, fun j k p r s hj hk o1 o2 sj sk => ?_⟩
  · cases eo : O p with
    | some y =>
      rw [joinH_l eo] at q
      cases q
      exact e.s _ _ eo
    | none =>
      rw [joinH_r eo] at q
      exact e.h _ _ (I.ext.h _ _ q)
  · cases eo : O p with
    | some y =>
      refine I.s.free (Classical.byContradiction fun hn => ?_)
      have := fresh p hn
      rw [eo] at this
      cases this
    | none =>
      rw [joinH_r eo] at h
      exact I.ext.n p h g
  · rcases set_get hj with ⟨_, e2, _⟩ | ⟨ne, e2⟩
    · cases e2
    · rw [List.getElem?_set, if_neg ne]
      exact I.pin j xs e2
  · rcases set_get hj with ⟨_, e2, _⟩ | ⟨ne, e2⟩
    · cases e2
    · obtain ⟨u, hu, z⟩ := I.slot j r e2
      refine ⟨u, by rw [List.getElem?_set, if_neg ne]; exact hu, ?_⟩
      cases r with
      | sh d => exact z
      | ow xs =>
        obtain ⟨p, vs, a, b, c, f, k⟩ := z
        exact ⟨p, vs, a, e.h _ _ b, c, (joinH_r (fresh p (by rw [b]; exact Option.some_ne_none _))).trans f, k⟩
      | bw xs =>
        obtain ⟨p, vs, a, b, k⟩ := z
        exact ⟨p, vs, a, (joinH_r (fresh p (by rw [I.ext.h _ _ b]; exact Option.some_ne_none _))).trans b, k⟩
      | fz xs => exact z
      | io xs =>
        obtain ⟨p, vs, a, b, c, f, k⟩ := z
        exact ⟨p, vs, a, e.h _ _ b, c, (joinH_r (fresh p (by rw [b]; exact Option.some_ne_none _))).trans f, k⟩
      | ob o p C fs => exact (show ObR K (joinH O H0) G H u o p C fs from by
          obtain ⟨dx, fv, a, b, c, f, k⟩ := z
          exact ⟨dx, fv, a, b, fun z => ⟨(c z).1, (joinH_r (fresh p (by rw [b]; exact Option.some_ne_none _))).trans (c z).2⟩, f, k⟩).up (fun _ z => z) (fun _ _ z => e.h _ _ z) (Same.refl _) fun _ _ _ _ z => z
  · rcases set_get hj with ⟨_, e2, _⟩ | ⟨ne, e2⟩
    · cases e2
    · rcases set_get hk with ⟨_, e4, _⟩ | ⟨ne', e4⟩
      · cases e4
      · rw [List.getElem?_set, if_neg ne] at sj
        rw [List.getElem?_set, if_neg ne'] at sk
        exact I.apart j k p r s e2 e4 o1 o2 sj sk
/-- the heap changes in O alone: the rest stands -/
theorem EnvS.unhide (I : EnvS K G0 (joinH O H0) σ G H ρ) (ho : ∀ p, O p ≠ none → G0.g p = none ∧ H0 p = none) (nb : NoBw O σ ρ) (hx : ∀ p x, O p = none → H p = some x → H1 p = some x) (hi : ∀ p C dx fv, H p = some (.ins C dx fv) → H1 p = some (.ins C dx fv)) : EnvS K G0 H0 σ G H1 ρ := by
  have og : ∀ p, O p ≠ none → G p = none := fun p h => I.ext.n p (fun z => h (joinH_none z).1) (ho p h).1
  refine ⟨⟨fun p x q => ?_, I.ext.g, fun p x q => ?_, fun p h g => I.ext.n p (fun z => h (joinH_none z).2) g⟩, I.pin, I.len, fun j r hj => ?_, I.apart⟩
  · have eo : O p = none := none_of_not fun z => by
      have := (ho p z).2
      rw [q] at this
      cases this
    exact hx p x eo (I.ext.h p x (by rw [joinH_r eo]; exact q))
  · have eo : O p = none := none_of_not fun z => by
      have := og p z
      rw [q] at this
      cases this
    exact hx p x eo (I.s p x q)
  · obtain ⟨u, hu, z⟩ := I.slot j r hj
    refine ⟨u, hu, ?_⟩
    cases r with
    | sh d => exact z
    | ow xs =>
      obtain ⟨p, vs, a, b, c, f, k⟩ := z
      exact ⟨p, vs, a, hx p _ (joinH_none f).1 b, c, (joinH_none f).2, k⟩
    | bw xs =>
      obtain ⟨p, vs, a, b, k⟩ := z
      subst a
      exact ⟨p, vs, rfl, (joinH_r (nb j xs p hj hu)).symm.trans b, k⟩
    | fz xs => exact z
    | io xs =>
      obtain ⟨p, vs, a, b, c, f, k⟩ := z
      exact ⟨p, vs, a, hx p _ (joinH_none f).1 b, c, (joinH_none f).2, k⟩
    | ob o p C fs =>
      obtain ⟨dx, fv, a, b, c, f, k⟩ := z
      exact ⟨dx, fv, a, hi _ _ _ _ b, fun z => ⟨(c z).1, (joinH_none (c z).2).2⟩, f, k⟩
/-- a look at the slot -/
theorem EnvS.peek (I : EnvS K G0 (joinH O H0) σ G H ρ) (ho : ∀ p, O p ≠ none → G0.g p = none ∧ H0 p = none) (hv : σ[i]? = some (some v)) (hd : Rp K O v d) :
    EnvS K ⟨joinH O G0.g, G0.pin⟩ (joinH O H0) σ (joinH O G) H (ρ.set i (some (.sh d))) := by
  have sg : Same G (joinH O G) := fun p x q => by
    have eo : O p = none := none_of_not fun z => by
      have := I.ext.n p (fun y => z (joinH_none y).1) (ho p z).1
      rw [q] at this
      cases this
    rw [joinH_r eo]
    exact q
  refine ⟨⟨I.ext.h, fun p x q => ?_, fun p x q => ?_, fun p h g => ?_⟩, fun j xs hj => ?_, by rw [List.length_set]; exact I.len, fun j r hj => ?_, fun j k p r s hj hk o1 o2 sj sk => ?_⟩
  · have q : joinH O G0.g p = some x := q
    cases eo : O p with
    | some y =>
      rw [show (joinH O G0.g) p = some y from joinH_l eo] at q
      rw [joinH_l eo]
      exact q
    | none =>
      rw [show (joinH O G0.g) p = G0.g p from joinH_r eo] at q
      rw [joinH_r eo]
      exact I.ext.g _ _ q
  · cases eo : O p with
    | some y =>
      rw [joinH_l eo] at q
      cases q
      exact I.ext.h _ _ (joinH_l eo)
    | none =>
      rw [joinH_r eo] at q
      exact I.s _ _ q
  · obtain ⟨o1, o2⟩ := joinH_none g
    rw [joinH_r o1]
    exact I.ext.n p h o2
  · rcases set_get hj with ⟨_, e2, _⟩ | ⟨ne, e2⟩
    · cases e2
    · exact I.pin j xs e2
  · rcases set_get hj with ⟨e1, e2, _⟩ | ⟨ne, e2⟩
    · cases e2
      subst e1
      exact ⟨v, hv, hd.mono same_joinL⟩
    · obtain ⟨u, hu, z⟩ := I.slot j r e2
      refine ⟨u, hu, ?_⟩
      cases r with
      | sh d => exact Rp.mono sg z
      | ow xs =>
        obtain ⟨p, vs, a, b, c, f, k⟩ := z
        exact ⟨p, vs, a, b, (joinH_r (joinH_none f).1).trans c, f, k.mono sg⟩
      | bw xs =>
        obtain ⟨p, vs, a, b, k⟩ := z
        exact ⟨p, vs, a, b, k.mono sg⟩
      | fz xs =>
        obtain ⟨p, vs, a, b, k⟩ := z
        exact ⟨p, vs, a, sg.seq b, k.mono sg⟩
      | io xs =>
        obtain ⟨p, vs, a, b, c, f, k⟩ := z
        exact ⟨p, vs, a, b, (joinH_r (joinH_none f).1).trans c, f, k.mono sg⟩
      | ob o p C fs =>
        obtain ⟨dx, fv, a, b, c, f, k⟩ := z
        exact ⟨dx, fv, a, b, fun z => ⟨(joinH_r (joinH_none (c z).2).1).trans (c z).1, (c z).2⟩, f, k.mono sg⟩
  · rcases set_get hj with ⟨_, e2, _⟩ | ⟨ne, e2⟩
    · cases e2
      cases o1
    · rcases set_get hk with ⟨_, e4, _⟩ | ⟨ne', e4⟩
      · cases e4
        cases o2
      · exact I.apart j k p r s e2 e4 o1 o2 sj sk
end
/-! ### suites behind such a name -/
def SndHid (K : PySem.W.Frag) (mg : Str → Option Value) (W : WX) (i : Nat) (ts : TS) (m : D → Rho → Out) : Prop :=
  ∀ (G0 : Bs) (H0 : Hp) (σ : L2.St) (G H : Hp) (ρ : Rho) (d : D) (D : Ends), HEnv K G0 H0 σ G H ρ i d → OutR K mg W G0 H0 G D (m d ρ) → ts D σ H
structure PMHid (X : Cx) (W : WX) (i : Nat) (st : List Stmt) (ts : TS) (m : D → Rho → Out) : Prop where
  p : PSs X st ts
  s : SndHid X.K X.mg W i ts m
/-- an expression whose value is apart from all that was -/
def SndF (K : PySem.W.Frag) (te : TE) (me : Rho → Res D) : Prop :=
  ∀ (G0 : Bs) (H0 : Hp) (σ : L2.St) (G H : Hp) (ρ : Rho) (Q : VK), EnvS K G0 H0 σ G H ρ → (∃ d, me ρ = .ok d ∧ ∀ G1 O H' v, Ext G H G1 H' → Ext hp0 H O H' → Rp K O v d → Q v H') → te σ H Q
structure PMF (X : Cx) (e : Expr) (te : TE) (me : Rho → Res D) : Prop where
  p : PE X e te
  s : SndF X.K te me
/-- a def that is handed flat data -/
def mDefF (M : List Val → Res Val) (ma : Rho → Res (List Val)) : Rho → Res D := fun ρ => match ma ρ with
  | .ok as => if as.all flatS = true then (match M as with
    | .ok (.sh d) => .ok d
    | .ok (.ow xs) => .ok (.list xs)
    | _ => .no) else .no
  | _ => .no
theorem flatS_vrs0 {K : PySem.W.Frag} {B B' G G' H : Hp} : ∀ {as : List Val} {vs : List V}, as.all flatS = true → VRs K B G H vs as → VRs K B' G' H vs as
  | [], _, _, .nil => .nil
  | a :: as, _, h, .cons x y => by
    rw [List.all_cons, Bool.and_eq_true] at h
    refine .cons ?_ (flatS_vrs0 h.2 y)
    cases a with
    | sh d => exact flat_rp h.1 x
    | _ => cases h.1
theorem snd_defF {K : PySem.W.Frag} {mg : Str → Option Value} {W : WX} {n : Nat} {M : List Val → Res Val} {ta : TA} {ma : Rho → Res (List Val)} (hn : ∀ ρ as, ma ρ = .ok as → as.length = n) (ha : SndA K mg W ta ma) : SndF K (tCallS (spM K mg n M) (WE W) ta) (mDefF M ma) := by
  intro G0 H0 σ G H ρ Q I ⟨d, ed, q⟩
  unfold mDefF at ed
  cases em : ma ρ with
  | no => rw [em] at ed; cases ed
  | ex n fs => rw [em] at ed; cases ed
  | ok as =>
    rw [em] at ed
    have ed : (if as.all flatS = true then (match M as with
      | .ok (.sh d) => .ok d
      | .ok (.ow xs) => .ok (.list xs)
      | _ => .no) else .no) = Res.ok d := ed
    split at ed
    · rename_i fl
      refine ha G0 H0 σ G H ρ _ I ?_
      rw [em]
      intro G1 H1 vs e1 r1
      have s0 : Same hp0 H1 := fun p x z => by cases z
      refine ⟨hp0, as, s0, flatS_vrs0 fl r1, flatS_arg fl, (VRs.len r1).trans (hn ρ as em), ?_⟩
      have up : ∀ {O H' : Hp}, Ext hp0 H1 O H' → Ext G H G H' ∧ Ext hp0 H O H' := fun {O H'} e =>
        ⟨⟨e1.h.trans e.h, Same.refl _, I.s.trans (e1.h.trans e.h), fun _ _ z => z⟩, ⟨e1.h.trans e.h, e.g, e.s, fun p h g => e.n p (ne_none_of e1.h h) g⟩⟩
      cases er : M as with
      | no => rw [er] at ed; cases ed
      | ex n fs => rw [er] at ed; cases ed
      | ok r =>
        rw [er] at ed
        intro O H' v e z
        cases r with
        | sh d' =>
          cases ed
          exact q G O H' v (up e).1 (up e).2 z
        | ow xs =>
          cases ed
          obtain ⟨p, us, rfl, b, c, f, k⟩ := z
          have e2 : Ext hp0 H1 (upd O p (.lst us)) H' := by
            have sO : Same O (upd O p (.lst us)) := same_new c
            refine ⟨e.h, fun p x z => (by cases z), fun a x z => ?_, fun a h g => ?_⟩
            · by_cases hb : a = p
              · subst hb
                rw [upd_same] at z
                cases z
                exact b
              · rw [upd_ne hb] at z
                exact e.s _ _ z
            · have hb : a ≠ p := fun w => h (w ▸ f)
              rw [upd_ne hb]
              exact e.n a h g
          exact q G _ H' _ (up e2).1 (up e2).2 (.lst upd_same (k.mono (same_new c)))
        | _ => cases ed
    · cases ed
/-- name = f(..), and what stands behind -/
def mOwn (i : Nat) (me : Rho → Res D) (mr : D → Rho → Out) : Rho → Out := fun ρ => if i < ρ.length then match me ρ with
  | .ok d => mr d (ρ.set i none)
  | _ => .no else .no
theorem snd_own {K : PySem.W.Frag} {mg : Str → Option Value} {W : WX} {i : Nat} {te : TE} {me : Rho → Res D} {u : TS} {mr : D → Rho → Out} (h : SndF K te me) (hr : SndHid K mg W i u mr) : SndS K mg W (tSeq (tAsg te (gName i)) u) (mOwn i me mr) := by
  intro G0 H0 σ G H ρ D I q
  unfold mOwn at q
  split at q
  · rename_i hl
    cases em : me ρ with
    | no => rw [em] at q; exact q.elim
    | ex n fs => rw [em] at q; exact q.elim
    | ok d =>
      rw [em] at q
      refine h G0 H0 σ G H ρ _ I ⟨d, em, fun G1 O H' v e1 e2 r => ?_⟩
      refine hr G0 H0 (σ.set i (some v)) G H' (ρ.set i none) d D ⟨O, v, ?_, r, fun p hp => ?_, I.hide e2, ?_, fun j xs p h1 h2 => ?_⟩ q
      · rw [List.getElem?_set, if_pos rfl, if_pos (by rw [I.len]; exact hl)]
      · have hH : H p = none := Classical.byContradiction fun hn => hp (e2.n p hn rfl)
        exact ⟨I.ext.g.free (I.s.free hH), I.ext.h.free hH⟩
      · rw [List.getElem?_set, if_pos rfl, if_pos hl]
      · rcases set_get h1 with ⟨_, e3, _⟩ | ⟨ne, e3⟩
        · cases e3
        · rw [List.getElem?_set, if_neg ne] at h2
          obtain ⟨u, hu, p', vs, a, b, _⟩ := I.slot j _ e3
          rw [h2] at hu
          cases hu
          cases a
          exact e2.n p (by rw [I.ext.h _ _ b]; exact Option.some_ne_none _) rfl
  · exact q.elim
/-- another name takes a value -/
def hSet (i j : Nat) (me : Rho → Res Val) (mr : D → Rho → Out) : D → Rho → Out := fun d ρ => if i = j then .no else match me ρ with
  | .ok r => (match store r with
    | some r' => mr d (ρ.set j (some r'))
    | none => .no)
  | _ => .no
theorem snd_hset {K : PySem.W.Frag} {mg : Str → Option Value} {W : WX} {i j : Nat} {te : TE} {me : Rho → Res Val} {u : TS} {mr : D → Rho → Out} (h : Snd K mg W te me) (hr : SndHid K mg W i u mr) : SndHid K mg W i (tSeq (tAsg te (gName j)) u) (hSet i j me mr) := by
  intro G0 H0 σ G H ρ d D ⟨O, v, hv, hd, ho, I, hi, nb⟩ q
  unfold hSet at q
  split at q
  · exact q.elim
  · rename_i ne
    cases em : me ρ with
    | no => rw [em] at q; exact q.elim
    | ex n fs => rw [em] at q; exact q.elim
    | ok r =>
      rw [em] at q
      have q : OutR K mg W G0 H0 G D (match store r with
        | some r' => mr d (ρ.set j (some r'))
        | none => .no) := q
      refine h G0 _ σ G H ρ _ I ?_
      rw [em]
      intro G1 H1 x e1 r1
      split at q
      · rename_i r' es
        refine hr G0 H0 (σ.set j (some x)) G1 H1 (ρ.set j (some r')) d D ⟨O, v, ?_, hd, ho, I.put e1 r1 es, ?_, fun k xs p h1 h2 => ?_⟩ (OutR.up e1.g q)
        · rw [List.getElem?_set, if_neg (Ne.symm ne)]
          exact hv
        · rw [List.getElem?_set, if_neg (Ne.symm ne)]
          exact hi
        · rcases set_get h1 with ⟨_, e3, _⟩ | ⟨nj, e3⟩
          · cases e3
            cases r <;> cases es
          · rw [List.getElem?_set, if_neg nj] at h2
            exact nb k xs p e3 h2
      · exact q.elim
/-- a test that looks at it; where it holds, the suite returns -/
def hIfR (i : Nat) (mc : Rho → Res Bool) (mb : Rho → Out) (mr : D → Rho → Out) : D → Rho → Out := fun d ρ => match mc (ρ.set i (some (.sh d))) with
  | .ok true => (match mb ρ with
    | .rt r => .rt r
    | _ => .no)
  | .ok false => mr d ρ
  | _ => .no
theorem snd_hif {K : PySem.W.Frag} {mg : Str → Option Value} {W : WX} {i : Nat} {tc : TT} {mc : Rho → Res Bool} {t u : TS} {mb : Rho → Out} {mr : D → Rho → Out} (hc : SndT K mg W tc mc) (hb : SndS K mg W t mb) (hr : SndHid K mg W i u mr) : SndHid K mg W i (tSeq (tIfS tc t tNext) u) (hIfR i mc mb mr) := by
  intro G0 H0 σ G H ρ d D ⟨O, v, hv, hd, ho, I, hi, nb⟩ q
  unfold hIfR at q
  refine hc _ _ σ _ H _ _ (I.peek ho hv hd) ?_
  cases em : mc (ρ.set i (some (.sh d))) with
  | no => rw [em] at q; exact q.elim
  | ex n fs => rw [em] at q; exact q.elim
  | ok b =>
    intro G1 H1 b' e1 eb
    cases (show b' = b from eb)
    have e2 : Ext G H G H1 := ⟨e1.h, Same.refl _, I.s.trans e1.h, fun _ _ z => z⟩
    have I2 := I.ext' e2
    rw [em] at q
    cases b with
    | true =>
      have q : OutR K mg W G0 H0 G D (match mb ρ with
        | .rt r => .rt r
        | _ => .no) := q
      refine iteT (hb G0 H0 σ G H1 ρ _ (I2.unhide ho nb (fun p x _ z => z) fun _ _ _ _ z => z) ?_)
      cases ob : mb ρ with
      | rt r =>
        rw [ob] at q
        exact q
      | _ =>
        rw [ob] at q
        exact q.elim
    | false => exact iteF (hr G0 H0 σ G H1 ρ d D ⟨O, v, hv, hd, ho, I2, hi, nb⟩ q)
/-- `if xs: xs[0].append(c); xs.append([])`, and then no more of it -/
def tApp0 (K : PySem.W.Frag) (i : Nat) (v : V) (te : TE) : TS := tSeq (tDrop (tBM K "list" rAppend (tOp (rIx K) (tVar i) (tC (.int 0))) (tCons (tC v) tNil))) (tDrop (tBM K "list" rAppend (tVar i) (tCons te tNil)))
def hApp0 (mr : Rho → Out) : D → Rho → Out := fun d ρ => match d with
  | .list [] => mr ρ
  | .list (.list ys :: ds) => if ys.length < 99999 ∧ ds.length < 99998 then mr ρ else .no
  | _ => .no
theorem snd_happ {K : PySem.W.Frag} {mg : Str → Option Value} {W : WX} {i : Nat} {tc : TT} {v0 : V} {te : TE} {u : TS} {mr : Rho → Out} (hc : SndT K mg W tc (mTru (mVar i))) (he : Snd K mg W te (mLst mNil)) (hr : SndS K mg W u mr) :
    SndHid K mg W i (tSeq (tIfS tc (tApp0 K i v0 te) tNext) u) (hApp0 mr) := by
  intro G0 H0 σ G H ρ d D ⟨O, v, hv, hd, ho, I, hi, nb⟩ q
  have hil : i < ρ.length := (List.getElem?_eq_some_iff.mp hi).1
  have hpk : (ρ.set i (some (.sh d)))[i]? = some (some (.sh d)) := by rw [List.getElem?_set, if_pos rfl, if_pos hil]
  refine hc _ _ σ _ H _ _ (I.peek ho hv hd) ?_
  have look : ∀ b, truth (.sh d) = some b → mTru (mVar i) (ρ.set i (some (.sh d))) = .ok b := fun b h => by
    unfold mTru mVar
    rw [hpk]
    show lift (truth (look (.sh d))) = _
    rw [show look (.sh d) = .sh d from rfl, h]
    rfl
  unfold hApp0 at q
  split at q
  · rw [look false rfl]
    intro G1 H1 b' e1 eb
    cases (show b' = false from eb)
    have e2 : Ext G H G H1 := ⟨e1.h, Same.refl _, I.s.trans e1.h, fun _ _ z => z⟩
    exact iteF (hr G0 H0 σ G H1 ρ D ((I.ext' e2).unhide ho nb (fun p x _ z => z) fun _ _ _ _ z => z) q)
  · rename_i ys ds
    rw [look true rfl]
    intro G1 H1 b' e1 eb
    cases (show b' = true from eb)
    have e2 : Ext G H G H1 := ⟨e1.h, Same.refl _, I.s.trans e1.h, fun _ _ z => z⟩
    have I2 := I.ext' e2
    split at q
    · rename_i hl
      cases hd with
      | lst ha ka =>
        rename_i a vs
        cases ka with
        | cons hu ku =>
          rename_i x vs'
          cases hu with
          | lst hb kb =>
            rename_i b us
            have sOH : Same O H1 := fun p y z => I2.ext.h p y (joinH_l z)
            have Ha := sOH _ _ ha
            have Hb := sOH _ _ hb
            refine iteT ?_
            have ix0 : atI (.ref b :: vs') (0 : Int) = some (V.ref b) := by
              unfold atI ixN
              simp
            refine ⟨.ref a, hv, .inl ⟨a, _, 0, .ref b, rfl, rfl, SqL.of Ha, ix0, .inl ⟨rfl, us, SqL.of Hb⟩, b, us, v0, rfl, rfl, Hb, ?_, ?_⟩⟩
            · rw [kb.length]
              exact sz_lt (by omega)
            obtain ⟨zs, hz, hzl⟩ : ∃ zs, (upd H1 b (.lst (us ++ [v0]))) a = some (.lst zs) ∧ zs.length < 100000 := by
              by_cases eb : a = b
              · subst eb
                refine ⟨_, upd_same, ?_⟩
                rw [List.length_append, kb.length]
                show ys.length + 1 < 100000
                omega
              · refine ⟨_, (upd_ne eb).trans Ha, ?_⟩
                have := ku.length
                show vs'.length + 1 < 100000
                omega
            refine ⟨.ref a, hv, .inl ⟨rfl, zs, SqL.of hz⟩, ?_⟩
            have J : EnvS K G0 H0 σ G (upd H1 b (.lst (us ++ [v0]))) ρ := I2.unhide ho nb (fun p x eo z => by
              rw [upd_ne (fun w => by rw [w, hb] at eo; cases eo)]
              exact z) fun q C dx fv z => by
              rw [upd_ne (ins_ne z Hb)]
              exact z
            refine he G0 H0 σ G _ ρ _ J ?_
            show RR K mg W (RV K) σ G _ _ (.ok (.ow []))
            intro G3 H3 v3 e3 r3
            refine ⟨a, zs, v3, rfl, rfl, e3.h _ _ hz, sz_lt hzl, ?_⟩
            refine hr G0 H0 σ G _ ρ D (I2.unhide ho nb (fun p x eo z => ?_) fun q C dx fv z => ?_) q
            · rw [upd_ne (fun w => by rw [w, ha] at eo; cases eo)]
              refine e3.h _ _ ?_
              rw [upd_ne (fun w => by rw [w, hb] at eo; cases eo)]
              exact z
            · rw [upd_ne (ins_ne z Ha)]
              refine e3.h _ _ ?_
              rw [upd_ne (ins_ne z Hb)]
              exact z
    · exact q.elim
  · exact q.elim

/-! ### programs -/
section
variable {X : Cx} {W : WX} {i j : Nat} {e c : Expr} {te : TE} {me : Rho → Res Val} {md : Rho → Res D} {sts rest : List Stmt} {t u : TS} {tc : TT} {mc : Rho → Res Bool} {mb : Rho → Out} {mr : D → Rho → Out} {m0 : Rho → Out} {pos pos' : Pos} {x : Str}
theorem pmss_own (i : Nat) (hN : X.N.Nodup) (h : PMF X e te md) (hr : PMHid X W i rest u mr) (hi : X.N[i]? = some x := by rfl) (hx : Loc X.env.scope x := by first | exact Or.inl rfl | exact Or.inr rfl) (hs : swapsWith e (some (.Name x pos')) pos.line X.env = pure false := by rfl)
    (hf : X.fn x = true ∨ X.env.scope.names.lookup x = some .local := by first | exact .inl rfl | exact .inr rfl | assumption) : PMSs X W (.Assign [.Name x pos'] e pos :: rest) (tSeq (tAsg te (gName i)) u) (mOwn i md mr) :=
  ⟨pss_cons (ps_set hN hi hx h.p hs hf) hr.p, snd_own h.s hr.s⟩
theorem pmh_set (j : Nat) (hN : X.N.Nodup) (h : PM X W e te me) (hr : PMHid X W i rest u mr) (hi : X.N[j]? = some x := by rfl) (hx : Loc X.env.scope x := by first | exact Or.inl rfl | exact Or.inr rfl) (hs : swapsWith e (some (.Name x pos')) pos.line X.env = pure false := by rfl)
    (hf : X.fn x = true ∨ X.env.scope.names.lookup x = some .local := by first | exact .inl rfl | exact .inr rfl | assumption) : PMHid X W i (.Assign [.Name x pos'] e pos :: rest) (tSeq (tAsg te (gName j)) u) (hSet i j me mr) :=
  ⟨pss_cons (ps_set hN hi hx h.p hs hf) hr.p, snd_hset h.s hr.s⟩
theorem pmh_if (hc : PMT X W c tc mc) (hb : PMSs X W sts t mb) (hr : PMHid X W i rest u mr) : PMHid X W i (.If c sts [] pos :: rest) (tSeq (tIfS tc t tNext) u) (hIfR i mc mb mr) :=
  ⟨pss_cons (ps_if hc.p hb.p pss_nil) hr.p, snd_hif hc.s hb.s hr.s⟩
end
section
variable {X : Cx} {W : WX} {i : Nat} {e : Expr} {te : TE} {rest : List Stmt} {u : TS} {tc : TT} {m0 : Rho → Out} {x : Str} {v0 : V} {e0 : Expr} {p1 p2 p3 p4 p5 p6 a1 a2 c1 c2 pos pos2 pos3 spos : Pos} {jj : Nat}
theorem pmh_app0 {d0 : D} (hc : PMT X W (.Name x p1) tc (mTru (mVar i))) (h0 : PM X W e0 (tC v0) (mC d0)) (he : PM X W e te (mLst mNil)) (hr : PMSs X W rest u m0)
    (hN : X.N[i]? = some x := by rfl) (hv : Vis X.env.scope x := by first | exact Or.inl rfl | exact Or.inr (Or.inl rfl) | exact Or.inr (Or.inr rfl)) (hd : (x == ("__debug__" : Str)) = false := by decide) (hcd : (x == ("__classdict__" : Str)) = false := by decide)
    (hx : PlainIx (.Constant (.int 0) jj p3) := by exact fun _ _ => rfl)
    (hst : starEach [e0] X.env = (false, eval e0 X.env) :: starEach [] X.env := by rfl)
    (hbase : attributeBase (.Subscript (.Name x p2) (.Constant (.int 0) jj p3) spos) "append" X.env (eval (.Subscript (.Name x p2) (.Constant (.int 0) jj p3) spos) X.env) = eval (.Subscript (.Name x p2) (.Constant (.int 0) jj p3) spos) X.env := by rfl)
    (hfew : ((backTo c1 (starEach [e0] X.env)).all (fun x => !x.1) && (backToKw c1 (keywordEach [] X.env)).all (fun x => x.1.isSome) && decide ([e0].length + ([] : List Keyword).length + (if ([] : List Keyword).isEmpty then 0 else 1) < 30)) = true := by rfl)
    (hline : (a1.endLine == c1.line) = true := by rfl) (hplain : (backTo c1 (starEach [] X.env)).any (·.1) = false := by rfl)
    (hs : swapsWith (.Call (.Attribute (.Subscript (.Name x p2) (.Constant (.int 0) jj p3) spos) "append" a1) [e0] [] c1) none pos.line X.env = pure false := by rfl)
    (hst2 : starEach [e] X.env = (false, eval e X.env) :: starEach [] X.env := by rfl)
    (hbase2 : attributeBase (.Name x p4) "append" X.env (eval (.Name x p4) X.env) = eval (.Name x p4) X.env := by rfl)
    (hfew2 : ((backTo c2 (starEach [e] X.env)).all (fun x => !x.1) && (backToKw c2 (keywordEach [] X.env)).all (fun x => x.1.isSome) && decide ([e].length + ([] : List Keyword).length + (if ([] : List Keyword).isEmpty then 0 else 1) < 30)) = true := by rfl)
    (hline2 : (a2.endLine == c2.line) = true := by rfl) (hplain2 : (backTo c2 (starEach [] X.env)).any (·.1) = false := by rfl)
    (hs2 : swapsWith (.Call (.Attribute (.Name x p4) "append" a2) [e] [] c2) none pos2.line X.env = pure false := by rfl) :
    PMHid X W i (.If (.Name x p1) [.Expr (.Call (.Attribute (.Subscript (.Name x p2) (.Constant (.int 0) jj p3) spos) "append" a1) [e0] [] c1) pos, .Expr (.Call (.Attribute (.Name x p4) "append" a2) [e] [] c2) pos2] [] pos3 :: rest)
      (tSeq (tIfS tc (tApp0 X.K i v0 te) tNext) u) (hApp0 m0) :=
  ⟨pss_cons (ps_if hc.p (pss_cons (ps_expr (pe_bm PySem.F.plainAttrs_list PySem.F.slot_list_append PySem.F.type_list_append mt_append (pe_ix ix_seq (pe_var hN hv hd hcd) pe_int hx) (pa_cons h0.p pa_nil hst) hbase hfew hline hst hplain) hs)
      (pss_one (ps_expr (pe_bm PySem.F.plainAttrs_list PySem.F.slot_list_append PySem.F.type_list_append mt_append (pe_var hN hv hd hcd) (pa_cons he.p pa_nil hst2) hbase2 hfew2 hline2 hst2 hplain2) hs2))) pss_nil) hr.p,
    snd_happ hc.s he.s hr.s⟩
end
section
variable {X : Cx} {W : WX} {k n : Nat} {f : Addr} {fd : FuncData} {ps : List Str} {M : List Val → Res Val} {x : Str} {p pos : Pos} {e : Expr} {es : List Expr} {te : TE} {ta : TA} {ma : Rho → Res (List Val)}
theorem pmf_def (h : PM X W (.Call (.Name x p) (e :: es) [] pos) (tCallS (spM X.K X.mg n M) (WE W) ta) (mDef M ma)) (hn : ∀ ρ as, ma ρ = .ok as → as.length = n) (ha : PMA X W (e :: es) ta ma) : PMF X (.Call (.Name x p) (e :: es) [] pos) (tCallS (spM X.K X.mg n M) (WE W) ta) (mDefF M ma) := ⟨h.p, snd_defF hn ha.s⟩
end
end Mi

/-! xs[i] op= e, divmod, statements that nothing comes to. -/
namespace Mi
open PySem PySem.Spec PyProof.Rows L2
/-! ### nothing comes here -/
def mNo : Rho → Out := fun _ => .no
theorem pms_no {X : Cx} {W : WX} {st : Stmt} : PMS X W st (fun _ _ _ => False) mNo := ⟨⟨fun _ _ _ _ _ _ h => h.elim⟩, fun _ _ _ _ _ _ _ _ q => q.elim⟩
theorem pmss_no {X : Cx} {W : WX} {st : List Stmt} : PMSs X W st (fun _ _ _ => False) mNo := ⟨⟨fun _ _ _ _ _ _ h => h.elim⟩, fun _ _ _ _ _ _ _ _ q => q.elim⟩
/-! ### xs[i] op= e -/
def rGetL : V → V → Hp → VK → Prop := fun o i H Q => ∃ p xs k v, o = .ref p ∧ i = .int k ∧ H p = some (.lst xs) ∧ 0 ≤ k ∧ xs[k.toNat]? = some v ∧ Q v H
theorem pget_list {X : Cx} : PGet X rGetL := by
  intro pins s σ H o i ov iv Q I ro ri h
  obtain ⟨p, xs, k, v, rfl, rfl, hp, h0, hx, q⟩ := h
  cases ro
  obtain ⟨t, rfl⟩ := ri
  obtain ⟨its, r, pl, hz⟩ := I.list (SqL.of hp)
  obtain ⟨w, ew, rw'⟩ := r.get hx
  have hl := r.length
  have hn := line63
  have hj : k.toNat < xs.length := (List.getElem?_eq_some_iff.mp hx).1
  exact wpAny_getItem_list pl.isList h0 (by omega) (by simpa using ew) ⟨v, H, I, rw', q⟩
def mAugS (j : Nat) (mi : Rho → Res Val) (mo : Val → Val → Option Val) (me : Rho → Res Val) : Rho → Out := fun ρ => match ρ[j]? with
  | some (some (.ow xs)) => sRes (mi ρ) ρ fun a => match a with
    | .sh (.int k) => if 0 ≤ k then (match xs[k.toNat]? with
      | some d => sRes (me ρ) ρ fun b => match mo (.sh d) b with
        | some (.sh d') => .nx (ρ.set j (some (.ow (xs.set k.toNat d'))))
        | _ => .no
      | none => .no) else .no
    | _ => .no
  | _ => .no
section
variable {K : PySem.W.Frag} {mg : Str → Option Value} {W : WX} {te ti : TE} {me mi : Rho → Res Val}
theorem snd_augS {j : Nat} {r : R2} {mo : Val → Val → Option Val} (ho : OpS K r mo) (hi : Snd K mg W ti mi) (h : Snd K mg W te me) : SndS K mg W (tAugS (tVar j) ti te rGetL r rSetL) (mAugS j mi mo me) := by
  intro G0 H0 σ G H ρ D I q
  unfold mAugS at q
  split at q
  · rename_i xs e
    obtain ⟨p, vs, hv, hp, hg, k0⟩ := own_get I e
    refine ⟨.ref p, hv, ?_⟩
    refine hi G0 H0 σ G H ρ _ I (RR.out I q fun a G1 H1 y ea e1 r1 q1 => ?_)
    split at q1
    · rename_i k
      have ey : y = .int k := r1.int_
      subst ey
      split at q1
      · rename_i hk
        split at q1
        · rename_i d ed
          have I1 := I.ext' e1
          obtain ⟨x, ex, rx⟩ := (k0.mono e1.g).get ed
          refine ⟨p, vs, k, x, rfl, rfl, e1.h _ _ hp, hk, ex, ?_⟩
          refine h G0 H0 σ G1 H1 ρ _ I1 (RR.out I1 q1 fun b G2 H2 z eb e2 r2 q2 => ?_)
          have I2 := I1.ext' e2
          split at q2
          · rename_i d' em
            refine ho H1 G2 H2 x z _ b _ _ I2.s (show VR K H1 G2 H2 x (.sh d) from rx.mono e2.g) r2 em fun G3 H3 v e3 r3 => ?_
            have I3 := I2.ext' e3
            have hp3 : H3 p = some (.lst vs) := (((e1.trans e2).trans e3).h) _ _ hp
            have hl : k.toNat < vs.length := (List.getElem?_eq_some_iff.mp ex).1
            refine ⟨p, vs, k, k.toNat, rfl, rfl, hp3, ?_, ?_⟩
            · unfold ixN
              rw [if_pos hk, if_pos (by omega)]
            · exact OutR.up e3.g q2 σ G3 _ (I3.mut e hv (RpA.set r3 k.toNat (k0.mono ((e1.trans e2).trans e3).g))) (Same.refl _)
          · exact q2.elim
        · exact q1.elim
      · exact q1.elim
    · exact q1.elim
  · exact q.elim
end
theorem pms_augS {X : Cx} {W : WX} (j : Nat) {x : Str} {i e : Expr} {ti te : TE} {mi me : Rho → Res Val} {op : Operator} {r : R2} {mo : Val → Val → Option Val} {p tpos pos : Pos} (ho : PIp X op r) (hs : OpS X.K r mo) (hi : PM X W i ti mi) (h : PM X W e te me)
    (hN : X.N[j]? = some x := by rfl) (hv : Vis X.env.scope x := by first | exact Or.inl rfl | exact Or.inr (Or.inl rfl) | exact Or.inr (Or.inr rfl)) (hd : (x == ("__debug__" : Str)) = false := by decide) (hcd : (x == ("__classdict__" : Str)) = false := by decide)
    (ha : ∀ ov iv new, augStore i ov iv new = (do holding [new, ov, iv] (setItem ov iv new); release [new, ov, iv] []; pure .next) := by intros; rfl) :
    PMS X W (.AugAssign (.Subscript (.Name x p) i tpos) op e pos) (tAugS (tVar j) ti te rGetL r rSetL) (mAugS j mi mo me) :=
  ⟨ps_augS (pe_var hN hv hd hcd) hi.p pget_list h.p ho set_list ha, snd_augS hs hi.s h.s⟩
/-! ### divmod of any signs -/
def cDm : List Val → Option Val
  | [.sh (.int i), .sh (.int j)] => if j ≠ 0 then if Nat.blt j.natAbs 18446744073709551616 = true then some (.sh (.tuple [.int (i.fdiv j), .int (i.fmod j)])) else none else none
  | _ => none
def rDm : List V → Hp → VK → Prop := fun xs H Q => ∃ i j : Int, xs = [.int i, .int j] ∧ j ≠ 0 ∧ j.natAbs < 18446744073709551616 ∧ ∀ p, H p = none → Q (.ref p) (upd H p (.tup [.int (i.fdiv j), .int (i.fmod j)]))
theorem call_dm {X : Cx} : CallR X (.builtin "divmod") rDm := by
  intro pins s σ H xs us Q I r h
  obtain ⟨i, j, rfl, h1, h2, q⟩ := h
  obtain ⟨u, w', rfl, ⟨t, rfl⟩, ⟨t', rfl⟩⟩ := vals2 r
  refine divmod_int h1 ?_ (.inl (PyProof.noPylong_of_log2 ?_))
  · have hn : H s.heap.objs.size = none := I.hok.fresh (Nat.le_refl _)
    refine ⟨.ref s.heap.objs.size, _, ?_, rfl, q _ hn⟩
    refine I.laid (fun b o e => Heap.get?_push_of_some _ e) (Nat.le_refl _) ⟨by simp only [List.length_cons, List.length_nil]; rw [sizeLine_eq]; decide, [.int (i.fdiv j) s.toks, .int (i.fmod j) (s.toks + 1)], .cons ⟨_, rfl⟩ (.cons ⟨_, rfl⟩ .nil), ?_⟩
    exact ⟨_, Heap.get?_push_size s.heap rfl, rfl, 0, rfl⟩
  · have h0 : j.natAbs ≠ 0 := by omega
    have : j.natAbs.log2 < 64 := (Nat.log2_lt h0).mpr h2
    omega
theorem cs_dm {K : PySem.W.Frag} : CallS K rDm cDm := by
  intro B G H vs as c Q s h e q
  unfold cDm at e
  split at e
  · rename_i i j
    split at e
    · rename_i h1
      split at e
      · rename_i h2
        cases e
        cases h with
        | cons a1 h' =>
          cases h' with
          | cons a2 h'' =>
            cases h''
            obtain rfl := VR.int_ a1
            obtain rfl := VR.int_ a2
            refine ⟨i, j, rfl, h1, blt_lt h2, fun p hp => ?_⟩
            exact q _ _ _ (Ext.newS s hp) (Rp.tup (.inl (.inl upd_same)) (.cons (.int _) (.cons (.int _) .nil)))
      · cases e
    · cases e
  · cases e
end Mi

/-! zip, tables of the program. -/
namespace Mi
open PySem PySem.Spec PyProof.Rows L2 RZ
/-! ### zip of two lists, of two tuples -/
def zipD : List D → List D → List D
  | x :: xs, y :: ys => .tuple [x, y] :: zipD xs ys
  | _, _ => []
theorem zipD_len : ∀ xs ys : List D, (zipD xs ys).length = min xs.length ys.length
  | [], ys => by simp [zipD]
  | _ :: _, [] => by simp [zipD]
  | x :: xs, y :: ys => by
    show (zipD xs ys).length + 1 = min (xs.length + 1) (ys.length + 1)
    rw [zipD_len xs ys]
    omega
theorem zipD_get : ∀ (xs ys : List D) (i : Nat) (x y : D), xs[i]? = some x → ys[i]? = some y → (zipD xs ys)[i]? = some (.tuple [x, y])
  | [], _, _, _, _, h, _ => by simp at h
  | _ :: _, [], _, _, _, _, h => by simp at h
  | a :: xs, b :: ys, 0, x, y, h, h' => by
    simp at h h'
    subst h h'
    rfl
  | a :: xs, b :: ys, i + 1, x, y, h, h' => zipD_get xs ys i x y (by simpa using h) (by simpa using h')
theorem its_zipL {K : PySem.W.Frag} {Ga Ha : Hp} {a b : Addr} {vs us : List V} {xs ys : List D} (h : SqL K Ga a vs) (h' : SqL K Ga b us) (k : RpA K Ga vs xs) (k' : RpA K Ga us ys) : ItS K Ga Ha (Itz K a b) (zipD xs ys) := by
  have hv : ∀ {G H : Hp}, Same Ga G → Same G H → SqL K H a vs := fun e1 e2 => e2.seq (e1.seq h)
  have hu : ∀ {G H : Hp}, Same Ga G → Same G H → SqL K H b us := fun e1 e2 => e2.seq (e1.seq h')
  have l1 := k.length
  have l2 := k'.length
  have l3 := zipD_len xs ys
  refine ⟨fun i G H e1 e2 hi => ?_, fun i G H e1 e2 hi => ⟨vs, us, hv e1 e2, hu e1 e2, by omega⟩, fun i G H x H' e1 e2 hi y => ?_⟩
  · have h1 : i < vs.length := by omega
    have h2 : i < us.length := by omega
    exact ⟨vs, us, vs[i], us[i], hv e1 e2, hu e1 e2, List.getElem?_eq_getElem h1, List.getElem?_eq_getElem h2⟩
  · obtain ⟨T, z, w, rfl, nT, rfl, f, g⟩ := y
    obtain ⟨d, ed, rd⟩ := k.getV (f vs (hv e1 e2))
    obtain ⟨d', ed', rd'⟩ := k'.getV (g us (hu e1 e2))
    refine ⟨_, _, zipD_get xs ys i d d' ed ed', Ext.newS e2 nT, ?_⟩
    exact Rp.tup (.inl (.inl upd_same)) (.cons (Rp.mono (e1.trans (same_new (e2.free nT))) rd) (.cons (Rp.mono (e1.trans (same_new (e2.free nT))) rd') .nil))
theorem its_zipT {K : PySem.W.Frag} {Ga Ha : Hp} {a b : Addr} {vs us : List V} {xs ys : List D} (h : SqT K Ga a vs) (h' : SqT K Ga b us) (k : RpA K Ga vs xs) (k' : RpA K Ga us ys) : ItS K Ga Ha (ItzT K a b) (zipD xs ys) := by
  have hv : ∀ {G H : Hp}, Same Ga G → Same G H → SqT K H a vs := fun e1 e2 => same_t e2 (same_t e1 h)
  have hu : ∀ {G H : Hp}, Same Ga G → Same G H → SqT K H b us := fun e1 e2 => same_t e2 (same_t e1 h')
  have l1 := k.length
  have l2 := k'.length
  have l3 := zipD_len xs ys
  refine ⟨fun i G H e1 e2 hi => ?_, fun i G H e1 e2 hi => ⟨vs, us, hv e1 e2, hu e1 e2, by omega⟩, fun i G H x H' e1 e2 hi y => ?_⟩
  · have h1 : i < vs.length := by omega
    have h2 : i < us.length := by omega
    exact ⟨vs, us, vs[i], us[i], hv e1 e2, hu e1 e2, List.getElem?_eq_getElem h1, List.getElem?_eq_getElem h2⟩
  · obtain ⟨T, z, w, rfl, nT, rfl, f, g⟩ := y
    obtain ⟨d, ed, rd⟩ := k.getV (f vs (hv e1 e2))
    obtain ⟨d', ed', rd'⟩ := k'.getV (g us (hu e1 e2))
    refine ⟨_, _, zipD_get xs ys i d d' ed ed', Ext.newS e2 nT, ?_⟩
    exact Rp.tup (.inl (.inl upd_same)) (.cons (Rp.mono (e1.trans (same_new (e2.free nT))) rd) (.cons (Rp.mono (e1.trans (same_new (e2.free nT))) rd') .nil))
def mIterZ (ma : Rho → Res (List Val)) : Rho → Res (List D) := fun ρ => (ma ρ).bind fun as => lift (match as with
  | [.sh (.list xs), .sh (.list ys)] => some (zipD xs ys)
  | [.sh (.tuple xs), .sh (.tuple ys)] => some (zipD xs ys)
  | _ => none)
theorem sndi_z {K : PySem.W.Frag} {mg : Str → Option Value} {W : WX} {ta : TA} {ma : Rho → Res (List Val)} (h : SndA K mg W ta ma) : SndI K mg W (iZipA K ta) (mIterZ ma) := by
  intro G0 H0 σ G H ρ R I q
  refine h G0 H0 σ G H ρ _ I (RR.bnd (Ext.refl I.s) q fun as G1 H1 vs ea e1 r1 h1 => ?_)
  obtain ⟨xs, ex, q3⟩ := h1.lift
  split at ex
  · cases ex
    obtain ⟨v, u, rfl, z, z'⟩ := vrs2 r1
    cases (show Rp K G1 v _ from z) with
    | lst ha ka =>
      cases (show Rp K G1 u _ from z') with
      | lst hb kb => exact ⟨_, _, _, _, rfl, .inl ⟨SqL.of (e1.s _ _ ha), SqL.of (e1.s _ _ hb), q3 G1 H1 _ e1 (its_zipL (SqL.of ha) (SqL.of hb) ka kb)⟩⟩
  · cases ex
    obtain ⟨v, u, rfl, z, z'⟩ := vrs2 r1
    cases (show Rp K G1 v _ from z) with
    | tup ha ka =>
      cases (show Rp K G1 u _ from z') with
      | tup hb kb => exact ⟨_, _, _, _, rfl, .inr ⟨same_t e1.s ha, same_t e1.s hb, q3 G1 H1 _ e1 (its_zipT ha hb ka kb)⟩⟩
  · cases ex
theorem pmi_z {X : Cx} {W : WX} {a b : Expr} {ta : TA} {ma : Rho → Res (List Val)} {p pos tpos : Pos} {elts : List Expr} {kk : Nat} (hm : X.mg "zip" = none) (h : PMA X W [a, b] ta ma) (hg : Gl X "zip" := by rfl)
    (hs : starEach [a, b] X.env = (false, eval a X.env) :: starEach [b] X.env := by rfl) (hpl : (backTo pos (starEach [b] X.env)).any (·.1) = false := by rfl) : PMI X W (.Tuple elts kk tpos) (.Call (.Name "zip" p) [a, b] [] pos) (iZipA X.K ta) (mIterZ ma) := ⟨pi_zipA hg hm h.p hs hpl, sndi_z h.s⟩
end Mi

/-! Objects of the program's classes: fields, properties, methods. -/
namespace Mi
open PySem PySem.Spec PyProof.Rows L2
abbrev Fs := List (Str × D)
section
variable {K : PySem.W.Frag} {mg : Str → Option Value} {W : WX} {G0 : Bs} {H0 G H G' H' B : Hp} {σ : L2.St} {ρ : Rho}
theorem fld_rp : ∀ {fv : List (Str × V)} {fs : Fs} {f : Str} {d : D}, fv.map (·.1) = fs.map (·.1) → RpA K G (fv.map (·.2)) (fs.map (·.2)) → fs.lookup f = some d → ∃ v, fv.lookup f = some v ∧ Rp K G v d
  | [], [], _, _, _, _, h => by cases h
  | [], _ :: _, _, _, e, _, _ => by cases e
  | _ :: _, [], _, _, e, _, _ => by cases e
  | (a, v) :: fv, (b, x) :: fs, f, d, e, k, h => by
    have e1 : a = b := (List.cons.inj e).1
    have e2 : fv.map (·.1) = fs.map (·.1) := (List.cons.inj e).2
    subst e1
    cases k with
    | cons kv k =>
      rw [List.lookup_cons] at h ⊢
      by_cases c : (f == a) = true
      · rw [c] at h ⊢
        cases h
        exact ⟨v, rfl, kv⟩
      · have c : (f == a) = false := by simpa using c
        rw [c] at h ⊢
        exact fld_rp e2 k h
theorem fld_none : ∀ {fv : List (Str × V)} {fs : Fs} {f : Str}, fv.map (·.1) = fs.map (·.1) → fs.lookup f = none → fv.lookup f = none
  | [], _, _, _, _ => rfl
  | _ :: _, [], _, e, _ => by cases e
  | (a, v) :: fv, (b, x) :: fs, f, e, h => by
    have e1 : a = b := (List.cons.inj e).1
    have e2 : fv.map (·.1) = fs.map (·.1) := (List.cons.inj e).2
    subst e1
    rw [List.lookup_cons] at h ⊢
    by_cases c : (f == a) = true
    · rw [c] at h
      cases h
    · have c : (f == a) = false := by simpa using c
      rw [c] at h ⊢
      exact fld_none e2 h
def putD (f : Str) (d : D) : Fs → Fs
  | [] => [(f, d)]
  | (g, x) :: r => if g = f then (g, d) :: r else (g, x) :: putD f d r
theorem putD_rp {f : Str} {d : D} {v : V} (hv : Rp K G v d) : ∀ {fv : List (Str × V)} {fs : Fs}, fv.map (·.1) = fs.map (·.1) → RpA K G (fv.map (·.2)) (fs.map (·.2)) → (putF f v fv).map (·.1) = (putD f d fs).map (·.1) ∧ RpA K G ((putF f v fv).map (·.2)) ((putD f d fs).map (·.2))
  | [], [], _, _ => ⟨rfl, .cons hv .nil⟩
  | [], _ :: _, e, _ => by cases e
  | _ :: _, [], e, _ => by cases e
  | (a, u) :: fv, (b, x) :: fs, e, k => by
    have e1 : a = b := (List.cons.inj e).1
    have e2 : fv.map (·.1) = fs.map (·.1) := (List.cons.inj e).2
    subst e1
    cases k with
    | cons ku k =>
      show ((if a = f then (a, v) :: fv else (a, u) :: putF f v fv).map (·.1)) = ((if a = f then (a, d) :: fs else (a, x) :: putD f d fs).map (·.1)) ∧ RpA K G ((if a = f then (a, v) :: fv else (a, u) :: putF f v fv).map (·.2)) ((if a = f then (a, d) :: fs else (a, x) :: putD f d fs).map (·.2))
      by_cases c : a = f
      · rw [if_pos c, if_pos c]
        exact ⟨e, .cons hv k⟩
      · rw [if_neg c, if_neg c]
        obtain ⟨q1, q2⟩ := putD_rp hv e2 k
        exact ⟨congrArg (a :: ·) q1, .cons ku q2⟩
/-- no other slot holds the object at p -/
def noAl (i : Nat) (p : Addr) (ρ : Rho) : Bool := (ρ.set i none).all fun r => match r with
  | some (.ob _ q _ _) => decide (q ≠ p)
  | _ => true
theorem noAl_at {i : Nat} {p : Addr} (h : noAl i p ρ = true) {j : Nat} {o : Bool} {q C : Addr} {fs : Fs} (ne : i ≠ j) (e : ρ[j]? = some (some (.ob o q C fs))) : q ≠ p := by
  have m : some (Val.ob o q C fs) ∈ ρ.set i none := by
    refine List.mem_of_getElem? (i := j) ?_
    rw [List.getElem?_set, if_neg ne]
    exact e
  exact of_decide_eq_true (List.all_eq_true.mp h _ m)
/-- the object of the slot i changes -/
theorem EnvS.obj {i : Nat} {p C C' : Addr} {fs fs' : Fs} (I : EnvS K G0 H0 σ G H ρ) (e : ρ[i]? = some (some (.ob true p C fs))) (x : ExtE p G H G' H') (hob : ObR K H0 G' H' (.ref p) true p C' fs') (hno : noAl i p ρ = true) :
    EnvS K G0 H0 σ G' H' (ρ.set i (some (.ob true p C' fs'))) := by
  obtain ⟨v, hv, dx, fv, rfl, hp, ho, hn, hk⟩ := I.slot i _ e
  have h0 : H0 p = none := (ho rfl).2
  refine ⟨⟨fun b u z => ?_, I.ext.g.trans x.g, x.s, fun b hb gb => x.n b (ne_none_of I.ext.h hb) (I.ext.n b hb gb)⟩, fun j zs hj => ?_, by rw [List.length_set]; exact I.len, fun j s hj => ?_, fun j l q r s hj hl o1 o2 sj sl => ?_⟩
  · have nb : b ≠ p := fun w => by
      rw [w, h0] at z
      cases z
    exact x.h b u nb (I.ext.h _ _ z)
  · rcases set_get hj with ⟨_, e2, _⟩ | ⟨ne, e2⟩
    · cases e2
    · exact I.pin j zs e2
  · rcases set_get hj with ⟨rfl, e2, _⟩ | ⟨ne, e2⟩
    · cases e2
      exact ⟨_, hv, hob⟩
    · obtain ⟨u, hu, z⟩ := I.slot j s e2
      refine ⟨u, hu, ?_⟩
      cases s with
      | sh d => exact Rp.mono x.g z
      | ow zs =>
        obtain ⟨q, ws, rfl, hq, gq, h0q, kq⟩ := z
        exact ⟨q, ws, rfl, x.h _ _ (Ne.symm (ins_ne hp hq)) hq, x.n q (by rw [hq]; exact Option.some_ne_none _) gq, h0q, kq.mono x.g⟩
      | bw zs =>
        obtain ⟨q, ws, a, b, k⟩ := z
        exact ⟨q, ws, a, b, k.mono x.g⟩
      | fz zs =>
        obtain ⟨q, ws, a, b, k⟩ := z
        exact ⟨q, ws, a, x.g.seq b, k.mono x.g⟩
      | io zs =>
        obtain ⟨q, ws, rfl, hq, gq, h0q, kq⟩ := z
        exact ⟨q, ws, rfl, x.h _ _ (Ne.symm (ins_ne hp hq)) hq, x.n q (by rw [hq]; exact Option.some_ne_none _) gq, h0q, kq.mono x.g⟩
      | ob o q D fq => exact ObR.up (fun _ z => z) (fun _ _ z => x.h _ _ (noAl_at hno ne e2) z) x.g (fun _ _ _ z g => x.n q (by rw [z]; exact Option.some_ne_none _) g) z
  · rcases set_get hj with ⟨_, e2, _⟩ | ⟨ne, e2⟩
    · cases e2
      cases o1
    · rcases set_get hl with ⟨_, e4, _⟩ | ⟨ne', e4⟩
      · cases e4
        cases o2
      · exact I.apart j l q r s e2 e4 o1 o2 sj sl
end
/-! ### o.f -/
def mFld (C : Addr) (f : Str) (mo : Rho → Res Val) : Rho → Res Val := fun ρ => (mo ρ).bind fun a => match a with
  | .ob _ _ C' fs => if C' = C then lift ((fs.lookup f).map .sh) else .no
  | _ => .no
theorem snd_fld {K : PySem.W.Frag} {mg : Str → Option Value} {W : WX} {C : Addr} {f : Str} {to : TE} {mo : Rho → Res Val} (c : Cls K C) (n : NoAttr K C f) (h : Snd K mg W to mo) : Snd K mg W (tFld K to f) (mFld C f mo) := by
  intro G0 H0 σ G H ρ Q I q
  refine h G0 H0 σ G H ρ _ I (RR.bnd (Ext.refl I.s) q fun a G1 H1 x ea e1 r1 q1 => ?_)
  split at q1
  · rename_i o p C' fs
    split at q1
    · rename_i ec
      subst ec
      obtain ⟨d, ed, q2⟩ := q1.lift
      obtain ⟨dx, fv, rfl, hp, _, hn, hk⟩ := r1
      cases el : fs.lookup f with
      | none => rw [el] at ed; cases ed
      | some d' =>
        rw [el] at ed
        cases ed
        obtain ⟨v, ev, rv⟩ := fld_rp hn hk el
        exact ⟨p, C', dx, fv, v, rfl, hp, c, n, ev, q2 G1 H1 v e1 rv⟩
    · exact q1.elim
  · exact q1.elim
theorem pm_fld {X : Cx} {W : WX} {C : Addr} {f : Str} {o : Expr} {to : TE} {mo : Rho → Res Val} {pos : Pos} (c : Cls X.K C) (n : NoAttr X.K C f) (h : PM X W o to mo) (hb : attributeBase o f X.env (eval o X.env) = eval o X.env := by rfl) : PM X W (.Attribute o f pos) (tFld X.K to f) (mFld C f mo) := ⟨pe_fld h.p hb, snd_fld c n h.s⟩
/-! ### o.f = e -/
def mFldS (C : Addr) (i : Nat) (f : Str) (me : Rho → Res Val) : Rho → Out := fun ρ => sRes (me ρ) ρ fun r => match esc r, ρ[i]? with
  | some d, some (some (.ob true p C' fs)) => if C' = C then if fs.length < 1000 then if noAl i p ρ = true then .nx (ρ.set i (some (.ob true p C (putD f d fs)))) else .no else .no else .no
  | _, _ => .no
theorem snd_fldS {K : PySem.W.Frag} {mg : Str → Option Value} {W : WX} {C : Addr} {i : Nat} {f : Str} {te : TE} {me : Rho → Res Val} (c : Cls K C) (n : NoAttr K C f) (h : Snd K mg W te me) : SndS K mg W (sFld K (tVar i) te f) (mFldS C i f me) := by
  intro G0 H0 σ G H ρ D I q
  refine h G0 H0 σ G H ρ _ I (RR.out I q fun r G1 H1 v er e1 r1 q1 => ?_)
  split at q1
  · rename_i d p C' fs ed ei
    split at q1
    · rename_i ec
      subst ec
      split at q1
      · rename_i hl
        split at q1
        · rename_i hno
          obtain ⟨G2, x2, s2, kd⟩ := esc_one e1 r1.vw ed
          have I2 := I.ext' x2
          obtain ⟨u, hu, dx, fv, rfl, hp, ho, hn, hk⟩ := I2.slot i _ ei
          obtain ⟨k1, k2⟩ := putD_rp (f := f) kd hn hk
          have hlen : fv.length = fs.length := by
            have := congrArg List.length hn
            simpa using this
          refine ⟨.ref p, hu, p, C', dx, fv, rfl, hp, c, n, by omega, ?_⟩
          have xe : ExtE p G2 H1 G2 (upd H1 p (.ins C' dx (putF f v fv))) := by
            refine ⟨fun b z nb hz => by rw [upd_ne nb]; exact hz, Same.refl _, fun b z hz => ?_, fun _ _ g => g⟩
            rw [upd_ne (fun w => by rw [w, (ho rfl).1] at hz; cases hz)]
            exact I2.s _ _ hz
          exact q1 σ G2 _ (I2.obj ei xe ⟨dx, putF f v fv, rfl, upd_same, ho, k1, k2⟩ hno) s2
        · exact q1.elim
      · exact q1.elim
    · exact q1.elim
  · exact q1.elim
theorem pms_fldS {X : Cx} {W : WX} {C : Addr} (i : Nat) {f x : Str} {e : Expr} {te : TE} {me : Rho → Res Val} {p pos' pos : Pos} (c : Cls X.K C) (n : NoAttr X.K C f) (h : PM X W e te me) (hN : X.N[i]? = some x := by rfl) (hv : Vis X.env.scope x := by first | exact Or.inl rfl | exact Or.inr (Or.inl rfl) | exact Or.inr (Or.inr rfl))
    (hd : (x == ("__debug__" : Str)) = false := by decide) (hcd : (x == ("__classdict__" : Str)) = false := by decide) (hs : swapsWith e (some (.Attribute (.Name x p) f pos')) pos.line X.env = pure false := by rfl) :
    PMS X W (.Assign [.Attribute (.Name x p) f pos'] e pos) (sFld X.K (tVar i) te f) (mFldS C i f me) := ⟨ps_fld (pe_var hN hv hd hcd) h.p hs, snd_fldS c n h.s⟩
/-! ### calls with an object -/
def postM (M : List Val → Res Val) (as : List Val) : Res Val := match M (as.map pas) with
  | .ok r => if (!as.any isBw || flatR r) = true then .ok r else .no
  | .ex n fs => if fs.all (fun p => flatD p.2) = true then .ex n fs else .no
  | .no => .no
theorem spM_of {K : PySem.W.Frag} {mg : Str → Option Value} {W : WX} {n : Nat} {M : List Val → Res Val} {G H G1 H1 : Hp} {σ : L2.St} {Q : VK} {vs : List V} {as : List Val} (e1 : Ext G H G1 H1) (r1 : VRs K H G1 H1 vs as) (hn' : vs.length = n) (h1 : RR K mg W (RV K) σ G H Q (postM M as)) : spM K mg n M vs H1 Q (WE W σ) := by
  unfold postM at h1
  by_cases hb : as.any isBw = false
  · have pr := r1.wc
    obtain ⟨G2, e2, s2, k2⟩ := pas_new e1 hb pr
    refine ⟨G2, as.map pas, e2.s, k2, pas_arg as, hn', ?_⟩
    cases em : M (as.map pas) with
    | no =>
      rw [em] at h1
      exact h1.elim
    | ok r =>
      rw [em] at h1
      have c : (!as.any isBw || flatR r) = true := by rw [hb]; rfl
      have h1 : RR K mg W (RV K) σ G H Q (if (!as.any isBw || flatR r) = true then .ok r else .no) := h1
      rw [if_pos c] at h1
      exact fun G' H' v e z => h1 G' H' v (e2.trans e) (z.back e2.h)
    | ex x fs =>
      rw [em] at h1
      have h1 : RR K mg W (RV K) σ G H Q (if fs.all (fun p => flatD p.2) = true then .ex x fs else .no) := h1
      split at h1
      · exact fun G' H' C d e a b => h1 G' H' C d (e2.trans e) a b
      · exact h1.elim
  · have hb : as.any isBw = true := by
      cases q : as.any isBw
      · exact absurd q hb
      · rfl
    have pr := r1.cc
    obtain ⟨G2, s2, t2, k2⟩ := pas_all e1.s pr
    refine ⟨G2, as.map pas, t2, k2, pas_arg as, hn', ?_⟩
    have eH : ∀ {H' : Hp}, Same H1 H' → Ext G H G1 H' := fun {H'} s => e1.trans ⟨s, Same.refl _, e1.s.trans s, fun _ _ q => q⟩
    cases em : M (as.map pas) with
    | no =>
      rw [em] at h1
      exact h1.elim
    | ok r =>
      rw [em] at h1
      have h1 : RR K mg W (RV K) σ G H Q (if (!as.any isBw || flatR r) = true then .ok r else .no) := h1
      rw [hb] at h1
      have h1 : RR K mg W (RV K) σ G H Q (if (flatR r) = true then .ok r else .no) := h1
      split at h1
      · rename_i fl
        intro G' H' v e z
        refine h1 G1 H' v (eH e.h) ?_
        cases r with
        | sh d => exact flat_rp fl z
        | ow xs =>
          obtain ⟨p, us, rfl, b, c, d, k⟩ := z
          exact ⟨p, us, rfl, b, e1.s.free d, e1.h.free d, flat_rpa fl k⟩
        | bw xs => cases fl
        | fz xs => cases fl
        | io xs => cases fl
        | ob o p C fs => cases fl
      · exact h1.elim
    | ex x fs =>
      rw [em] at h1
      have h1 : RR K mg W (RV K) σ G H Q (if fs.all (fun p => flatD p.2) = true then .ex x fs else .no) := h1
      split at h1
      · rename_i fl
        intro G' H' C d e a b
        refine h1 G1 H' C d (eH e.h) a ?_
        rcases b with b | ⟨dd, fv, b1, b2, b3, b4, b5⟩
        · exact .inl b
        · refine .inr ⟨dd, fv, b1, b2, b3, b4, flat_rpa ?_ b5⟩
          rw [List.all_map]
          exact fl
      · exact h1.elim
theorem ObR.look' {K : PySem.W.Frag} {B B' G H : Hp} {v : V} {o : Bool} {p C : Addr} {fs : Fs} (h : ObR K B G H v o p C fs) : ObR K B' G H v false p C fs := by
  obtain ⟨dx, fv, a, b, _, e, k⟩ := h
  exact ⟨dx, fv, a, b, (fun z => nomatch z), e, k⟩
/-- o.p of a property -/
def mProp (C : Addr) (M : List Val → Res Val) (mo : Rho → Res Val) : Rho → Res Val := fun ρ => (mo ρ).bind fun a => match a with
  | .ob _ p C' fs => if C' = C then (match M [.ob false p C fs] with
    | .ok r => .ok r
    | _ => .no) else .no
  | _ => .no
theorem snd_prop {K : PySem.W.Frag} {mg : Str → Option Value} {W : WX} {C : Addr} {M : List Val → Res Val} {to : TE} {mo : Rho → Res Val} (h : Snd K mg W to mo) : Snd K mg W (tPropS C (spM K mg 1 M) (fun _ _ _ _ => False) to) (mProp C M mo) := by
  intro G0 H0 σ G H ρ Q I q
  refine h G0 H0 σ G H ρ _ I (RR.bnd (Ext.refl I.s) q fun a G1 H1 x ea e1 r1 q1 => ?_)
  split at q1
  · rename_i o p C' fs
    split at q1
    · rename_i ec
      subst ec
      have r1 : ObR K H G1 H1 x o p C' fs := r1
      obtain ⟨rfl, dx, fv, hp⟩ := r1.at
      refine ⟨p, dx, fv, rfl, hp, G1, [.ob false p C' fs], e1.s, .cons r1.look' .nil, rfl, rfl, ?_⟩
      cases em : M [.ob false p C' fs] with
      | ok r =>
        rw [em] at q1
        exact fun G' H' v e z => q1 G' H' v (e1.trans e) (z.back e1.h)
      | ex n fs => rw [em] at q1; exact q1.elim
      | no => rw [em] at q1; exact q1.elim
    · exact q1.elim
  · exact q1.elim
theorem pm_prop {X : Cx} {W : WX} {C p g : Addr} {k : Nat} {m : Str} {fd : FuncData} {ps : List Str} {M : List Val → Res Val} {o : Expr} {to : TE} {mo : Rho → Res Val} {pos : Pos} (c : Cls X.K C) (hp : PropOf X.K C m p g) (F : FnG X.prog X.w X.K X.mg X.base k g fd ps (spM X.K X.mg 1 M)) (gd : X.A.guards = some []) (hr : Room (k + 1) X.A) (hb : Binds X.K fd ps []) (h : PM X W o to mo)
    (hab : attributeBase o m X.env (eval o X.env) = eval o X.env := by rfl) : PM X W (.Attribute o m pos) (tPropS C (spM X.K X.mg 1 M) (fun _ _ _ _ => False) to) (mProp C M mo) := ⟨pe_propG h.p c hp F gd hr hb hab, snd_prop h.s⟩
/-- o.m(..) that changes nothing -/
def mMethP (C : Addr) (m : Str) (M : List Val → Res Val) (mo : Rho → Res Val) (ma : Rho → Res (List Val)) : Rho → Res Val := fun ρ => (mo ρ).bind fun a => match a with
  | .ob _ p C' fs => if C' = C then if fs.lookup m = none then (ma ρ).bind fun as => postM M (.ob false p C fs :: as) else .no else .no
  | _ => .no
theorem snd_methP {K : PySem.W.Frag} {mg : Str → Option Value} {W : WX} {C : Addr} {m : Str} {n : Nat} {M : List Val → Res Val} {to : TE} {mo : Rho → Res Val} {ta : TA} {ma : Rho → Res (List Val)} (hn : ∀ ρ as, ma ρ = .ok as → as.length + 1 = n) (h : Snd K mg W to mo) (ha : SndA K mg W ta ma) : Snd K mg W (tMethS C m (spM K mg n M) (WE W) to ta) (mMethP C m M mo ma) := by
  intro G0 H0 σ G H ρ Q I q
  refine h G0 H0 σ G H ρ _ I (RR.bnd (Ext.refl I.s) q fun a G1 H1 x ea e1 r1 q1 => ?_)
  split at q1
  · rename_i o p C' fs
    split at q1
    · rename_i ec
      subst ec
      split at q1
      · rename_i hl
        have r1 : ObR K H G1 H1 x o p C' fs := r1
        obtain ⟨dx, fv, rfl, hp, _, hk, _⟩ := id r1
        refine ⟨p, dx, fv, rfl, hp, fld_none hk hl, ?_⟩
        refine ha G0 H0 σ G1 H1 ρ _ (I.ext' e1) (RR.bnd e1 q1 fun as G2 H2 vs eb e2 r2 q2 => ?_)
        refine spM_of (e1.trans e2) (.cons (show VR K H G2 H2 _ (.ob false p C' fs) from (ObR.ext e2 r1).look') (VRs.back e1.h r2)) ?_ q2
        show vs.length + 1 = n
        rw [VRs.len r2]
        exact hn ρ as eb
      · exact q1.elim
    · exact q1.elim
  · exact q1.elim
theorem pm_methP {X : Cx} {W : WX} {C f : Addr} {k n : Nat} {m : Str} {fd : FuncData} {ps : List Str} {M : List Val → Res Val} {o e : Expr} {es : List Expr} {to : TE} {mo : Rho → Res Val} {ta : TA} {ma : Rho → Res (List Val)} {pos apos : Pos} {pl : Sem Bool} (c : Cls X.K C) (hm : Meth X.K C m f) (F : FnG X.prog X.w X.K X.mg X.base k f fd ps (spM X.K X.mg n M)) (gd : X.A.guards = some []) (hr : Room k X.A) (hb : Binds X.K fd ps [])
    (hx : ∀ σ, PassesAt (L2.CX X.prog X.w) X σ (WE W σ)) (h : PM X W o to mo) (ha : PMA X W (e :: es) ta ma) (hn : ∀ ρ as, ma ρ = .ok as → as.length + 1 = n)
    (hst : starEach (e :: es) X.env = (false, eval e X.env) :: starEach es X.env := by rfl) (hpl : (backTo pos (starEach es X.env)).any (·.1) = false := by rfl)
    (ht : eval (.Call (.Attribute o m apos) (e :: es) [] pos) X.env = (do
      let ov ← eval o X.env
      standAt apos.atName
      let (f, first) ← holding [ov] (getMethod ov m pl)
      callWith pos f first (backTo pos (starEach (e :: es) X.env)) (backToKw pos (keywordEach [] X.env))) := by rfl) :
    PM X W (.Call (.Attribute o m apos) (e :: es) [] pos) (tMethS C m (spM X.K X.mg n M) (WE W) to ta) (mMethP C m M mo ma) := ⟨pe_methG h.p c hm F gd hr hb hx ha.p hst hpl ht, snd_methP hn h.s ha.s⟩
end Mi

/-! Methods that change their object, new objects. -/
namespace Mi
open PySem PySem.Spec PyProof.Rows L2
inductive ROb where
  | ok (r : Val) (fs : Fs) | ex (n : Str) (es : List (Str × D)) (fs : Fs) | no
/-- an object of one's own at p -/
def OA (K : PySem.W.Frag) (C p : Addr) (G H : Hp) (fs : Fs) : Prop := ∃ (dx : Addr) (fv : List (Str × V)), H p = some (.ins C dx fv) ∧ G p = none ∧ fv.map (·.1) = fs.map (·.1) ∧ RpA K G (fv.map (·.2)) (fs.map (·.2))
theorem OA.ob {K : PySem.W.Frag} {C p : Addr} {B G H : Hp} {fs : Fs} (h : OA K C p G H fs) (b : B p = none) : ObR K B G H (.ref p) true p C fs := by
  obtain ⟨dx, fv, a, c, e, k⟩ := h
  exact ⟨dx, fv, rfl, a, fun _ => ⟨c, b⟩, e, k⟩
theorem OA.of {K : PySem.W.Frag} {C p : Addr} {B G H : Hp} {v : V} {fs : Fs} (h : ObR K B G H v true p C fs) : OA K C p G H fs := by
  obtain ⟨dx, fv, _, a, c, e, k⟩ := h
  exact ⟨dx, fv, a, (c rfl).1, e, k⟩
def RROb (K : PySem.W.Frag) (mg : Str → Option Value) (W : WX) (σ : L2.St) (C p : Addr) (G H : Hp) (Q : VK) : ROb → Prop
  | .ok r fs => ∀ G' H' v, ExtE p G H G' H' → OA K C p G' H' fs → VR K H G' H' v r → Q v H'
  | .ex n es fs => ∀ G' H' D d, ExtE p G H G' H' → OA K C p G' H' fs → mg n = some (.ref D) → XR es K d G' H' → W (.ref D) d σ H'
  | .no => False
def spOb (K : PySem.W.Frag) (mg : Str → Option Value) (C : Addr) (n : Nat) (M : List Val → ROb) : Sp := fun vs H Q E => ∃ G p fs as us, vs = .ref p :: us ∧ Same G H ∧ OA K C p G H fs ∧ VRs K H G H us as ∧ as.all isArg = true ∧ vs.length = n ∧ RROb K mg (wOf E) [] C p G H Q (M (.ob true p C fs :: as))
def obIn (p C : Addr) (ρ : Rho) : Option Fs := match (ρ[0]? : Option (Option Val)) with
  | some (some (.ob true p' C' fs)) => if p' = p ∧ C' = C then some fs else none
  | _ => none
def finOb (p C : Addr) : Out → ROb
  | .nx ρ => match obIn p C ρ with
    | some fs => .ok (.sh .none) fs
    | none => .no
  | .ex n es ρ => match obIn p C ρ with
    | some fs => .ex n es fs
    | none => .no
  | _ => .no
def mFnOb (N : Nat) (ms : Rho → Out) : List Val → ROb
  | .ob true p C fs :: as => finOb p C (ms (some (.ob true p C fs) :: (as.map some ++ List.replicate (N - (as.length + 1)) none)))
  | _ => .no
section
variable {K : PySem.W.Frag} {mg : Str → Option Value} {W : WX} {G0 : Bs} {H0 G H G' H' : Hp} {σ : L2.St} {ρ : Rho}
theorem obIn_inv {p C : Addr} {fs : Fs} (h : obIn p C ρ = some fs) : ρ[0]? = some (some (.ob true p C fs)) := by
  unfold obIn at h
  split at h
  · rename_i e
    split at h
    · rename_i c
      cases h
      obtain ⟨rfl, rfl⟩ := c
      exact e
    · cases h
  · cases h
theorem EnvS.own0 {q p C : Addr} {fs : Fs} (I : EnvS K ⟨G, q⟩ H σ G H ρ) (e : ρ[0]? = some (some (.ob false p C fs))) (gp : G p = none) : EnvS K ⟨G, q⟩ (offH p H) σ G H (ρ.set 0 (some (.ob true p C fs))) := by
  refine ⟨⟨fun b x z => ?_, Same.refl _, I.s, fun _ _ g => g⟩, fun j zs hj => ?_, by rw [List.length_set]; exact I.len, fun j r hj => ?_, fun j l a r s hj hl o1 o2 sj sl => ?_⟩
  · by_cases hb : b = p
    · rw [hb, offH_at] at z
      cases z
    · rw [offH_ne hb] at z
      exact z
  · rcases set_get hj with ⟨_, e2, _⟩ | ⟨ne, e2⟩
    · cases e2
    · exact I.pin j zs e2
  · rcases set_get hj with ⟨rfl, e2, _⟩ | ⟨ne, e2⟩
    · cases e2
      obtain ⟨v, hv, dx, fv, rfl, hp, _, hn, hk⟩ := I.slot 0 _ e
      exact ⟨_, hv, dx, fv, rfl, hp, fun _ => ⟨gp, offH_at⟩, hn, hk⟩
    · obtain ⟨v, hv, z⟩ := I.slot j r e2
      refine ⟨v, hv, ?_⟩
      cases r with
      | sh d => exact z
      | ow zs =>
        obtain ⟨w, us, _, a, _, b, _⟩ := z
        rw [a] at b
        cases b
      | bw zs =>
        obtain ⟨w, us, b, c, k⟩ := z
        obtain ⟨_, _, dx, fv, rfl, hp, _⟩ := I.slot 0 _ e
        exact ⟨w, us, b, by rw [offH_ne (Ne.symm (ins_ne hp c))]; exact c, k⟩
      | fz zs => exact z
      | io zs =>
        obtain ⟨w, us, _, a, _, b, _⟩ := z
        rw [a] at b
        cases b
      | ob o w D fq =>
        cases o with
        | false => exact ObR.look' z
        | true =>
          obtain ⟨dx, fv, _, a, b, _⟩ := z
          have := (b rfl).2
          rw [a] at this
          cases this
  · rcases set_get hj with ⟨_, e2, _⟩ | ⟨ne, e2⟩
    · cases e2
      cases o1
    · rcases set_get hl with ⟨_, e4, _⟩ | ⟨ne', e4⟩
      · cases e4
        cases o2
      · exact I.apart j l a r s e2 e4 o1 o2 sj sl
theorem env_startO {p C : Addr} {fs : Fs} {us : List V} {as : List Val} (s : Same G H) (h0 : OA K C p G H fs) (h : VRs K H G H us as) (ha : as.all isArg = true) (m : Nat) :
    EnvS K ⟨G, 0⟩ (offH p H) (some (.ref p) :: (us.map some ++ List.replicate m none)) G H (some (.ob true p C fs) :: (as.map some ++ List.replicate m none)) := by
  have gp : G p = none := by
    obtain ⟨_, _, _, c, _⟩ := h0
    exact c
  have ob : VR K H G H (.ref p) (.ob false p C fs) := by
    obtain ⟨dx, fv, a, _, e, k⟩ := h0
    exact ⟨dx, fv, rfl, a, (fun z => nomatch z), e, k⟩
  have I := env_start (as := .ob false p C fs :: as) s (.cons ob h) (by rw [List.all_cons, ha]; rfl) m 0
  have J := I.own0 (p := p) (C := C) (fs := fs) rfl gp
  exact J
theorem EnvS.outOb {p C : Addr} {fs : Fs} {G H G' H' : Hp} (I : EnvS K ⟨G, 0⟩ (offH p H) σ G' H' ρ) (e : obIn p C ρ = some fs) : ExtE p G H G' H' ∧ OA K C p G' H' fs := by
  obtain ⟨v, hv, z⟩ := I.slot 0 _ (obIn_inv e)
  have z : ObR K (offH p H) G' H' v true p C fs := z
  have oa := OA.of z
  obtain ⟨_, _, _, c, _⟩ := id oa
  exact ⟨offH_extE I.ext c, oa⟩
end
section
variable {P : Program} {w : World} {K : PySem.W.Frag} {mg : Str → Option Value} {base : Heap}
theorem def_okOb {x qual : Str} {st : Stmt} {f : Addr} {fd : FuncData} {N ps : List Str} {k : Nat} {C : Addr} {ms : Rho → Out} (F : Fun K x qual st f fd) (S : FnScope N ps (defScope st))
    (hbody : ∀ (cdv : Value) (A : Around) (outer : List Env) (s : Shared) (H : Hp) (E : XK), A.guards = some [] → Room k (A.deeper (envOfC qual (defScope st) s.heap.objs.size f cdv)) →
      ∃ ts, PMSs (cxOf (L2.CX P w) P w K mg base N qual (defScope st) f cdv A outer s H E) (wOf E) (defBody st) ts ms) : FnG P w K mg base (k + 1) f fd ps (spOb K mg C ps.length (mFnOb N.length ms)) := by
  refine def_okS F S (fun vs H Q E ⟨G, p, fs, as, us, _, _, _, _, _, h, _⟩ => h) fun cdv A outer s H vs Q E gd hr hsp => ?_
  obtain ⟨ts, B⟩ := hbody cdv A outer s H E gd hr
  refine ⟨ts, B.p, ?_⟩
  obtain ⟨G, p, fs, as, us, rfl, hs, oa, hv, ha, hlen, h⟩ := hsp
  have hl' : us.length = as.length := hv.len
  have I := env_startO hs oa hv ha (N.length - (us.length + 1))
  have est : start N (.ref p :: us) = some (.ref p) :: (us.map some ++ List.replicate (N.length - (us.length + 1)) none) := rfl
  rw [est]
  refine B.s ⟨G, 0⟩ (offH p H) _ G H _ _ I ?_
  rw [hl'] at I ⊢
  have h : RROb K mg (wOf E) [] C p G H Q (finOb p C (ms (some (.ob true p C fs) :: (as.map some ++ List.replicate (N.length - (as.length + 1)) none)))) := h
  cases eo : ms (some (.ob true p C fs) :: (as.map some ++ List.replicate (N.length - (as.length + 1)) none)) with
  | nx ρ =>
    rw [eo] at h
    intro σ' G' H'' I' _
    unfold finOb at h
    cases e : obIn p C ρ with
    | none =>
      simp only [e] at h
      exact h.elim
    | some fs' =>
      simp only [e] at h
      obtain ⟨x1, c1⟩ := I'.outOb e
      exact h G' H'' .non x1 c1 Rp.non
  | ex n es ρ =>
    rw [eo] at h
    intro σ' G' H'' D d I' _ a b
    unfold finOb at h
    cases e : obIn p C ρ with
    | none =>
      simp only [e] at h
      exact h.elim
    | some fs' =>
      simp only [e] at h
      obtain ⟨x1, c1⟩ := I'.outOb e
      exact h G' H'' D d x1 c1 a b
  | rt r =>
    rw [eo] at h
    exact h.elim
  | rx r ρ =>
    rw [eo] at h
    exact h.elim
  | bk ρ =>
    rw [eo] at h
    exact h.elim
  | ct ρ =>
    rw [eo] at h
    exact h.elim
  | no =>
    rw [eo] at h
    exact h.elim
end
/-! ### o.m(..) as a statement -/
def mMethO (C : Addr) (i : Nat) (m : Str) (M : List Val → ROb) (ma : Rho → Res (List Val)) : Rho → Out := fun ρ => match ρ[i]? with
  | some (some (.ob true p C' fs)) => if C' = C then if fs.lookup m = none then if noAl i p ρ = true then sRes (ma ρ) ρ fun as => if as.any isBw = false then (match M (.ob true p C fs :: as.map pas) with
      | .ok (.sh .none) fs' => .nx (ρ.set i (some (.ob true p C fs')))
      | .ex n es fs' => .ex n es (ρ.set i (some (.ob true p C fs')))
      | _ => .no) else .no else .no else .no else .no
  | _ => .no
theorem methO_run {K : PySem.W.Frag} {mg : Str → Option Value} {W : WX} {C : Addr} {i : Nat} {m : Str} {n : Nat} {M : List Val → ROb} {ta : TA} {ma : Rho → Res (List Val)} (hn : ∀ ρ as, ma ρ = .ok as → as.length + 1 = n) (ha : SndA K mg W ta ma) {G0 : Bs} {H0 : Hp} {σ : L2.St} {G H : Hp} {ρ : Rho} {D : Ends} {Q : VK} (I : EnvS K G0 H0 σ G H ρ)
    (q : OutR K mg W G0 H0 G D (mMethO C i m M ma ρ)) (hQ : ∀ H', D.nx σ H' → Q .non H') : tMethS C m (spOb K mg C n M) (WE W) (tVar i) ta σ H Q := by
  unfold mMethO at q
  split at q
  · rename_i p C' fs ei
    split at q
    · rename_i ec
      subst ec
      split at q
      · rename_i hl
        split at q
        · rename_i hno
          obtain ⟨v, hv, z⟩ := I.slot i _ ei
          have z : ObR K H0 G H v true p C' fs := z
          obtain ⟨dx, fv, rfl, hp, ho, hk, hr⟩ := id z
          refine ⟨.ref p, hv, p, dx, fv, rfl, hp, fld_none hk hl, ?_⟩
          refine ha G0 H0 σ G H ρ _ I (RR.out I q fun as G1 H1 vs ea e1 r1 q1 => ?_)
          split at q1
          · rename_i hb
            obtain ⟨G2, e2, s2, k2⟩ := pas_new e1 hb r1.wc
            have I2 := I.ext' e2
            have z2 : ObR K H0 G2 H1 (.ref p) true p C' fs := ObR.ext e2 z
            refine ⟨G2, p, fs, as.map pas, vs, rfl, e2.s, OA.of z2, k2, pas_arg as, ?_, ?_⟩
            · show vs.length + 1 = n
              rw [VRs.len r1]
              exact hn ρ as ea
            · have q2 := OutR.up s2 q1
              cases em : M (.ob true p C' fs :: as.map pas) with
              | no => rw [em] at q2; exact q2.elim
              | ok r fs' =>
                rw [em] at q2
                intro G' H' w x oa rw_
                split at q2
                · rename_i heq
                  cases heq
                  cases (show Rp K G' w .none from rw_)
                  exact hQ H' (q2 σ G' H' (I2.obj ei x (oa.ob (ho rfl).2) hno) x.g)
                · rename_i heq
                  cases heq
                · exact q2.elim
              | ex nm es fs' =>
                rw [em] at q2
                intro G' H' Dc d x oa a b
                exact q2 σ G' H' Dc d (I2.obj ei x (oa.ob (ho rfl).2) hno) x.g a b
          · exact q1.elim
        · exact q.elim
      · exact q.elim
    · exact q.elim
  · exact q.elim
theorem snd_methO {K : PySem.W.Frag} {mg : Str → Option Value} {W : WX} {C : Addr} {i : Nat} {m : Str} {n : Nat} {M : List Val → ROb} {ta : TA} {ma : Rho → Res (List Val)} (hn : ∀ ρ as, ma ρ = .ok as → as.length + 1 = n) (ha : SndA K mg W ta ma) : SndS K mg W (tDrop (tMethS C m (spOb K mg C n M) (WE W) (tVar i) ta)) (mMethO C i m M ma) :=
  fun G0 H0 σ G H ρ D I q => methO_run hn ha I q fun _ h => h
theorem snd_methN {K : PySem.W.Frag} {mg : Str → Option Value} {W : WX} {C : Addr} {i : Nat} {m : Str} {n : Nat} {M : List Val → ROb} {ta : TA} {ma : Rho → Res (List Val)} {t : TS} (hn : ∀ ρ as, ma ρ = .ok as → as.length + 1 = n) (ha : SndA K mg W ta ma) :
    SndS K mg W (tIfS (tTest (tOp (fun x y H Q => y = .non ∧ Q (.bl (!decide (x = .non))) H) (tMethS C m (spOb K mg C n M) (WE W) (tVar i) ta) (tC .non))) t tNext) (mMethO C i m M ma) :=
  fun G0 H0 σ G H ρ D I q => methO_run hn ha I q fun _ h => ⟨rfl, false, rfl, iteF h⟩
section
variable {X : Cx} {W : WX} {C f : Addr} {k n : Nat} {m x : Str} {fd : FuncData} {ps : List Str} {M : List Val → ROb} {e : Expr} {es : List Expr} {ta : TA} {ma : Rho → Res (List Val)} {p pos apos cpos npos ipos : Pos} {pl : Sem Bool} {jn : Nat} {sts : List Stmt} {t : TS} {mb : Rho → Out}
theorem pms_methO (i : Nat) (c : Cls X.K C) (hm : Meth X.K C m f) (F : FnG X.prog X.w X.K X.mg X.base k f fd ps (spOb X.K X.mg C n M)) (gd : X.A.guards = some []) (hr : Room k X.A) (hb : Binds X.K fd ps []) (hx : ∀ σ, PassesAt (L2.CX X.prog X.w) X σ (WE W σ)) (ha : PMA X W (e :: es) ta ma) (hn : ∀ ρ as, ma ρ = .ok as → as.length + 1 = n)
    (hN : X.N[i]? = some x := by rfl) (hv : Vis X.env.scope x := by first | exact Or.inl rfl | exact Or.inr (Or.inl rfl) | exact Or.inr (Or.inr rfl)) (hd : (x == ("__debug__" : Str)) = false := by decide) (hcd : (x == ("__classdict__" : Str)) = false := by decide)
    (hst : starEach (e :: es) X.env = (false, eval e X.env) :: starEach es X.env := by rfl) (hpl : (backTo pos (starEach es X.env)).any (·.1) = false := by rfl)
    (ht : eval (.Call (.Attribute (.Name x p) m apos) (e :: es) [] pos) X.env = (do
      let ov ← eval (.Name x p) X.env
      standAt apos.atName
      let (f, first) ← holding [ov] (getMethod ov m pl)
      callWith pos f first (backTo pos (starEach (e :: es) X.env)) (backToKw pos (keywordEach [] X.env))) := by rfl)
    (hs : swapsWith (.Call (.Attribute (.Name x p) m apos) (e :: es) [] pos) none cpos.line X.env = pure false := by rfl) :
    PMS X W (.Expr (.Call (.Attribute (.Name x p) m apos) (e :: es) [] pos) cpos) (tDrop (tMethS C m (spOb X.K X.mg C n M) (WE W) (tVar i) ta)) (mMethO C i m M ma) :=
  ⟨ps_expr (pe_methG (pe_var hN hv hd hcd) c hm F gd hr hb hx ha.p hst hpl ht) hs, snd_methO hn ha.s⟩
/-- if o.m(..) is not None: .. -/
theorem pms_methN (i : Nat) (c : Cls X.K C) (hm : Meth X.K C m f) (F : FnG X.prog X.w X.K X.mg X.base k f fd ps (spOb X.K X.mg C n M)) (gd : X.A.guards = some []) (hr : Room k X.A) (hb : Binds X.K fd ps []) (hx : ∀ σ, PassesAt (L2.CX X.prog X.w) X σ (WE W σ)) (ha : PMA X W (e :: es) ta ma) (hn : ∀ ρ as, ma ρ = .ok as → as.length + 1 = n) (hbody : PMSs X W sts t mb)
    (hN : X.N[i]? = some x := by rfl) (hv : Vis X.env.scope x := by first | exact Or.inl rfl | exact Or.inr (Or.inl rfl) | exact Or.inr (Or.inr rfl)) (hd : (x == ("__debug__" : Str)) = false := by decide) (hcd : (x == ("__classdict__" : Str)) = false := by decide)
    (hst : starEach (e :: es) X.env = (false, eval e X.env) :: starEach es X.env := by rfl) (hpl : (backTo pos (starEach es X.env)).any (·.1) = false := by rfl)
    (ht : eval (.Call (.Attribute (.Name x p) m apos) (e :: es) [] pos) X.env = (do
      let ov ← eval (.Name x p) X.env
      standAt apos.atName
      let (f, first) ← holding [ov] (getMethod ov m pl)
      callWith pos f first (backTo pos (starEach (e :: es) X.env)) (backToKw pos (keywordEach [] X.env))) := by rfl)
    (hm2 : behindInMarks .IsNot (.Constant .none jn npos) = false := by first | exact nomark _ | rfl) :
    PMS X W (.If (.Compare (.Call (.Attribute (.Name x p) m apos) (e :: es) [] pos) [.IsNot] [.Constant .none jn npos] cpos) sts [] ipos)
      (tIfS (tTest (tOp (fun x y H Q => y = .non ∧ Q (.bl (!decide (x = .non))) H) (tMethS C m (spOb X.K X.mg C n M) (WE W) (tVar i) ta) (tC .non))) t tNext) (mMethO C i m M ma) :=
  ⟨ps_if (pt_cmpR op_notN (pe_methG (pe_var hN hv hd hcd) c hm F gd hr hb hx ha.p hst hpl ht) pe_non hm2) hbody.p pss_nil, snd_methN hn ha.s⟩
end
end Mi

/-! New objects. -/
namespace Mi
open PySem PySem.Spec PyProof.Rows L2
open Classical in
noncomputable def uni {α : Type} {β : Type} (ok : α → Prop) (f : α → β) (no : β) : β := if h : ∃ R, ∀ p, ok p → f p = R then Classical.choose h else no
theorem uni_at {α β : Type} {ok : α → Prop} {f : α → β} {no R : β} (h : uni ok f no = R) (hR : R ≠ no) : ∀ p, ok p → f p = R := by
  unfold uni at h
  split at h
  · rename_i c
    exact fun p hp => (Classical.choose_spec c p hp).trans h
  · exact absurd h.symm hR
theorem uni_is {α β : Type} {ok : α → Prop} {f : α → β} {no R : β} (p0 : α) (h0 : ok p0) (h : ∀ p, ok p → f p = R) : uni ok f no = R := by
  unfold uni
  have c : ∃ R, ∀ p, ok p → f p = R := ⟨R, h⟩
  rw [dif_pos c]
  rw [← Classical.choose_spec c p0 h0, h p0 h0]
/-- what __init__ makes, wherever the object stands -/
noncomputable def initO (C : Addr) (M : List Val → ROb) (as : List Val) : ROb := uni (fun _ => True) (fun p => M (.ob true p C [] :: as)) .no
theorem VRs.arg {K : PySem.W.Frag} {B B' G H : Hp} : ∀ {as : List Val} {vs : List V}, as.all isArg = true → VRs K B G H vs as → VRs K B' G H vs as
  | [], _, _, .nil => .nil
  | a :: as, _, h, .cons x y => by
    rw [List.all_cons, Bool.and_eq_true] at h
    refine .cons ?_ (VRs.arg h.2 y)
    cases a with
    | sh d => exact x
    | ow _ => cases h.1
    | bw _ => exact x
    | fz _ => exact x
    | io _ => cases h.1
    | ob o p C fs =>
      have ho : o = false := by simpa [isArg] using h.1
      subst ho
      exact ObR.look' x
section
variable {K : PySem.W.Frag} {mg : Str → Option Value} {W : WX} {C : Addr} {n : Nat} {M : List Val → ROb} {ta : TA} {ma : Rho → Res (List Val)} {G0 : Bs} {H0 G H : Hp} {σ : L2.St} {ρ : Rho}
/-- an object is made: what stands behind -/
theorem make_run (hn : ∀ ρ as, ma ρ = .ok as → as.length + 1 = n) (ha : SndA K mg W ta ma) (I : EnvS K G0 H0 σ G H ρ) {Q : VK}
    (h : ma ρ ≠ .no) (hx : ∀ nm es G' H' D d, ma ρ = .ex nm es → Ext G H G' H' → mg nm = some (.ref D) → XR es K d G' H' → W (.ref D) d σ H')
    (hk : ∀ as, ma ρ = .ok as → as.any isBw = false ∧ ((∃ fs, initO C M (as.map pas) = .ok (.sh .none) fs ∧ ∀ x G' H', Ext G H G' H' → VR K H G' H' (.ref x) (.ob true x C fs) → Q (.ref x) H') ∨
      ∃ nm es fs, initO C M (as.map pas) = .ex nm es fs ∧ ∀ G' H' D d, Ext G H G' H' → mg nm = some (.ref D) → XR es K d G' H' → W (.ref D) d σ H')) :
    tMakeS C (spOb K mg C n M) (WE W) ta σ H Q := by
  refine ha G0 H0 σ G H ρ _ I ?_
  cases em : ma ρ with
  | no => exact (h em).elim
  | ex nm es => exact fun G' H' D d e a b => hx nm es G' H' D d em e a b
  | ok as =>
    obtain ⟨hb, hk⟩ := hk as em
    intro G1 H1 vs e1 r1
    have r1 : VRs K H G1 H1 vs as := r1
    obtain ⟨G2, e2, s2, k2⟩ := pas_new e1 hb r1.wc
    intro x dx nx ndx nex
    have gx : G2 x = none := e2.s.free nx
    have h12 : Same H1 (upd (upd H1 dx (.own x)) x (.ins C dx [])) := fun b o z => by
      rw [upd_ne (ne_of_none z nx), upd_ne (ne_of_none z ndx)]
      exact z
    have e12 : Ext G2 H1 G2 (upd (upd H1 dx (.own x)) x (.ins C dx [])) := ⟨h12, Same.refl _, e2.s.trans h12, fun _ _ g => g⟩
    have up : ∀ {G' H' : Hp}, ExtE x G2 (upd (upd H1 dx (.own x)) x (.ins C dx [])) G' H' → Ext G2 H1 G' H' := fun {G' H'} xe =>
      ⟨fun b u z => xe.h b u (ne_of_none z nx) (h12 b u z), xe.g, xe.s, fun b hb' g => xe.n b (ne_none_of h12 hb') g⟩
    refine ⟨G2, x, [], as.map pas, vs, rfl, e12.s, ⟨dx, [], upd_same, gx, rfl, .nil⟩, VRs.arg (pas_arg as) (VRs.ext e12 k2), pas_arg as, ?_, ?_⟩
    · show vs.length + 1 = n
      rw [VRs.len r1]
      exact hn ρ as em
    · rcases hk with ⟨fs, e, q⟩ | ⟨nm, es, fs, e, q⟩
      · rw [uni_at e (fun z => nomatch z) x trivial]
        intro G' H' w xe oa rw_
        cases (show Rp K G' w .none from rw_)
        refine ⟨rfl, q x G' H' (e2.trans (up xe)) (oa.ob ?_)⟩
        exact e1.h.free nx
      · rw [uni_at e (fun z => nomatch z) x trivial]
        intro G' H' D d xe oa a b
        exact q G' H' D d (e2.trans (up xe)) a b
end
/-- name = C(..) -/
noncomputable def mNewS (p : Addr) (C : Addr) (j : Nat) (M : List Val → ROb) (ma : Rho → Res (List Val)) : Rho → Out := fun ρ => sRes (ma ρ) ρ fun as => if as.any isBw = false then (match initO C M (as.map pas) with
  | .ok (.sh .none) fs => .nx (ρ.set j (some (.ob true p C fs)))
  | .ex n es _ => .ex n es ρ
  | _ => .no) else .no
/-- C(..), and nothing with it -/
noncomputable def mNewD (C : Addr) (M : List Val → ROb) (ma : Rho → Res (List Val)) : Rho → Out := fun ρ => sRes (ma ρ) ρ fun as => if as.any isBw = false then (match initO C M (as.map pas) with
  | .ok (.sh .none) _ => .nx ρ
  | .ex n es _ => .ex n es ρ
  | _ => .no) else .no
section
variable {K : PySem.W.Frag} {mg : Str → Option Value} {W : WX} {C : Addr} {n : Nat} {M : List Val → ROb} {ta : TA} {ma : Rho → Res (List Val)}
theorem snd_newD (hn : ∀ ρ as, ma ρ = .ok as → as.length + 1 = n) (ha : SndA K mg W ta ma) : SndS K mg W (tDrop (tMakeS C (spOb K mg C n M) (WE W) ta)) (mNewD C M ma) := by
  intro G0 H0 σ G H ρ D I q
  unfold mNewD at q
  refine make_run hn ha I (fun z => ?_) (fun nm es G' H' Dc d z e a b => ?_) fun as z => ?_
  · rw [z] at q
    exact q.elim
  · rw [z] at q
    exact q σ G' H' Dc d (I.ext' e) e.g a b
  · rw [z] at q
    have q : OutR K mg W G0 H0 G D (if as.any isBw = false then (match initO C M (as.map pas) with
      | .ok (.sh .none) _ => .nx ρ
      | .ex n es _ => .ex n es ρ
      | _ => .no) else .no) := q
    split at q
    · rename_i hb
      refine ⟨hb, ?_⟩
      split at q
      · rename_i fs ei
        exact .inl ⟨fs, ei, fun x G' H' e _ => q σ G' H' (I.ext' e) e.g⟩
      · rename_i nm es fs ei
        exact .inr ⟨nm, es, fs, ei, fun G' H' Dc d e a b => q σ G' H' Dc d (I.ext' e) e.g a b⟩
      · exact q.elim
    · exact q.elim
/-- a name takes a new object; what stands behind may not ask where it stands -/
theorem snd_newF {u : TS} {j : Nat} (hn : ∀ ρ as, ma ρ = .ok as → as.length + 1 = n) (ha : SndA K mg W ta ma) {G0 : Bs} {H0 : Hp} {σ : L2.St} {G H : Hp} {ρ : Rho} {D : Ends} {T : Type} {ok : Addr → T → Prop} {mr : T → Rho → Out} (I : EnvS K G0 H0 σ G H ρ) (q : ∀ p t, H p = none → ok p t → OutR K mg W G0 H0 G D (mSeq (mNewS p C j M ma) (mr t) ρ))
    (p0 : Addr) (t0 : T) (q0 : OutR K mg W G0 H0 G D (mSeq (mNewS p0 C j M ma) (mr t0) ρ))
    (hr : ∀ p σ' G' H' ρ', H p = none → H' p ≠ none → (∀ b, H' b = none → H b = none) → EnvS K G0 H0 σ' G' H' ρ' → (∀ t, ok p t → OutR K mg W G0 H0 G' D (mr t ρ')) → u D σ' H') : tSeq (tAsg (tMakeS C (spOb K mg C n M) (WE W) ta) (gName j)) u D σ H := by
  show tMakeS C (spOb K mg C n M) (WE W) ta σ H (fun x H1 => u D (σ.set j (some x)) H1)
  refine make_run hn ha I (fun z => ?_) (fun nm es G' H' Dc d z e a b => ?_) fun as z => ?_
  · unfold mSeq mNewS at q0
    rw [z] at q0
    exact q0.elim
  · unfold mSeq mNewS at q0
    rw [z] at q0
    exact q0 σ G' H' Dc d (I.ext' e) e.g a b
  · have key : ∀ p t, mSeq (mNewS p C j M ma) (mr t) ρ = (match (if as.any isBw = false then (match initO C M (as.map pas) with
      | .ok (.sh .none) fs => .nx (ρ.set j (some (.ob true p C fs)))
      | .ex n es _ => .ex n es ρ
      | _ => .no) else .no : Out) with
      | .nx ρ' => mr t ρ'
      | o => o) := fun p t => by
      unfold mSeq mNewS
      rw [z]
      rfl
    rw [key] at q0
    by_cases hb : as.any isBw = false
    · refine ⟨hb, ?_⟩
      simp only [if_pos hb] at key q0
      cases ei : initO C M (as.map pas) with
      | no => rw [ei] at q0; exact q0.elim
      | ex nm es fs =>
        rw [ei] at q0
        exact .inr ⟨nm, es, fs, rfl, fun G' H' Dc d e a b => q0 σ G' H' Dc d (I.ext' e) e.g a b⟩
      | ok r fs =>
        have hr0 : r = .sh .none := by
          rw [ei] at q0
          cases r with
          | sh d => cases d <;> first | rfl | exact q0.elim
          | _ => exact q0.elim
        subst hr0
        refine .inl ⟨fs, rfl, fun x G' H' e vr => ?_⟩
        have vr' : ObR K H G' H' (.ref x) true x C fs := vr
        obtain ⟨dx, fv, _, hx', ho, _⟩ := id vr'
        have hx := (ho rfl).2
        refine hr x _ G' H' _ hx (by rw [hx']; exact Option.some_ne_none _) (fun b hb => e.h.free hb) (I.put (i := j) e vr rfl) fun t ht => ?_
        have qx := q x t hx ht
        rw [key, ei] at qx
        exact OutR.up e.g qx
    · rw [if_neg hb] at q0
      exact q0.elim
end
/-! ### suites that begin with new objects -/
structure PMF1 (X : Cx) (W : WX) (st : List Stmt) (ts : TS) (ms : Addr → Rho → Out) : Prop where
  p : PSs X st ts
  s : ∀ (G0 : Bs) (H0 : Hp) (σ : L2.St) (G H : Hp) (ρ : Rho) (D : Ends), EnvS X.K G0 H0 σ G H ρ → (∀ p, H p = none → OutR X.K X.mg W G0 H0 G D (ms p ρ)) → (∃ p, OutR X.K X.mg W G0 H0 G D (ms p ρ)) → ts D σ H
structure PMF2 (X : Cx) (W : WX) (st : List Stmt) (ts : TS) (ms : Addr → Addr → Rho → Out) : Prop where
  p : PSs X st ts
  s : ∀ (G0 : Bs) (H0 : Hp) (σ : L2.St) (G H : Hp) (ρ : Rho) (D : Ends), EnvS X.K G0 H0 σ G H ρ → (∀ p q, p ≠ q → OutR X.K X.mg W G0 H0 G D (ms p q ρ)) → ts D σ H
section
variable {X : Cx} {W : WX} {C f : Addr} {k n : Nat} {x y : Str} {fd : FuncData} {ps : List Str} {M : List Val → ROb} {e : Expr} {es : List Expr} {ta : TA} {ma : Rho → Res (List Val)} {p pos pos' apos : Pos} {rest : List Stmt} {u : TS} {mr : Rho → Out} {mf : Addr → Rho → Out}
theorem pmf1_new (j : Nat) (hND : X.N.Nodup) (Mk_ : Mk X.K C f) (F : FnG X.prog X.w X.K X.mg X.base k f fd ps (spOb X.K X.mg C n M)) (gd : X.A.guards = some []) (hr : Room (k + 1) X.A) (hm : X.mg x = some (.ref C)) (hb : Binds X.K fd ps []) (hx : ∀ σ, PassesAt (L2.CX X.prog X.w) X σ (WE W σ)) (ha : PMA X W (e :: es) ta ma) (hn : ∀ ρ as, ma ρ = .ok as → as.length + 1 = n)
    (hrest : PMSs X W rest u mr) (hi : X.N[j]? = some y := by rfl) (hl : Loc X.env.scope y := by first | exact Or.inl rfl | exact Or.inr rfl)
    (hg : Gl X x := by rfl) (hdb : (x == ("__debug__" : Str)) = false := by decide) (he : starEach (e :: es) X.env = (false, eval e X.env) :: starEach es X.env := by rfl) (hpl : (backTo pos (starEach es X.env)).any (·.1) = false := by rfl)
    (hs : swapsWith (.Call (.Name x p) (e :: es) [] pos) (some (.Name y pos')) apos.line X.env = pure false := by rfl) (hf : X.fn y = true ∨ X.env.scope.names.lookup y = some .local := by first | exact .inl rfl | exact .inr rfl | assumption) :
    PMF1 X W (.Assign [.Name y pos'] (.Call (.Name x p) (e :: es) [] pos) apos :: rest) (tSeq (tAsg (tMakeS C (spOb X.K X.mg C n M) (WE W) ta) (gName j)) u) (fun a => mSeq (mNewS a C j M ma) mr) := by
  refine ⟨pss_cons (ps_set hND hi hl (pe_makeG Mk_ F gd hr hm hb hx ha.p hg hdb he hpl) hs hf) hrest.p, fun G0 H0 σ G H ρ D I q ⟨p0, q0⟩ => ?_⟩
  exact snd_newF (T := Unit) (ok := fun _ _ => True) (mr := fun _ => mr) hn ha.s I (fun a _ h _ => q a h) p0 () q0 fun a σ' G' H' ρ' _ _ _ I' q' => hrest.s G0 H0 σ' G' H' ρ' D I' (q' () trivial)
theorem pmf2_new (j : Nat) (hND : X.N.Nodup) (Mk_ : Mk X.K C f) (F : FnG X.prog X.w X.K X.mg X.base k f fd ps (spOb X.K X.mg C n M)) (gd : X.A.guards = some []) (hr : Room (k + 1) X.A) (hm : X.mg x = some (.ref C)) (hb : Binds X.K fd ps []) (hx : ∀ σ, PassesAt (L2.CX X.prog X.w) X σ (WE W σ)) (ha : PMA X W (e :: es) ta ma) (hn : ∀ ρ as, ma ρ = .ok as → as.length + 1 = n)
    (hrest : PMF1 X W rest u mf) (hi : X.N[j]? = some y := by rfl) (hl : Loc X.env.scope y := by first | exact Or.inl rfl | exact Or.inr rfl)
    (hg : Gl X x := by rfl) (hdb : (x == ("__debug__" : Str)) = false := by decide) (he : starEach (e :: es) X.env = (false, eval e X.env) :: starEach es X.env := by rfl) (hpl : (backTo pos (starEach es X.env)).any (·.1) = false := by rfl)
    (hs : swapsWith (.Call (.Name x p) (e :: es) [] pos) (some (.Name y pos')) apos.line X.env = pure false := by rfl) (hf : X.fn y = true ∨ X.env.scope.names.lookup y = some .local := by first | exact .inl rfl | exact .inr rfl | assumption) :
    PMF2 X W (.Assign [.Name y pos'] (.Call (.Name x p) (e :: es) [] pos) apos :: rest) (tSeq (tAsg (tMakeS C (spOb X.K X.mg C n M) (WE W) ta) (gName j)) u) (fun a b => mSeq (mNewS a C j M ma) (mf b)) := by
  refine ⟨pss_cons (ps_set hND hi hl (pe_makeG Mk_ F gd hr hm hb hx ha.p hg hdb he hpl) hs hf) hrest.p, fun G0 H0 σ G H ρ D I q => ?_⟩
  have ne : ∀ a : Addr, a ≠ a + 1 := fun a => Nat.ne_of_lt (Nat.lt_succ_self a)
  exact snd_newF (T := Addr) (ok := fun a b => a ≠ b) (mr := mf) hn ha.s I (fun a b _ h => q a b h) 0 1 (q 0 1 (ne 0)) fun a σ' G' H' ρ' h1 h2 _ I' q' => hrest.s G0 H0 σ' G' H' ρ' D I' (fun b hb => q' b fun z => h2 (z ▸ hb)) ⟨a + 1, q' (a + 1) (ne a)⟩
theorem pms_newD (Mk_ : Mk X.K C f) (F : FnG X.prog X.w X.K X.mg X.base k f fd ps (spOb X.K X.mg C n M)) (gd : X.A.guards = some []) (hr : Room (k + 1) X.A) (hm : X.mg x = some (.ref C)) (hb : Binds X.K fd ps []) (hx : ∀ σ, PassesAt (L2.CX X.prog X.w) X σ (WE W σ)) (ha : PMA X W (e :: es) ta ma) (hn : ∀ ρ as, ma ρ = .ok as → as.length + 1 = n)
    (hg : Gl X x := by rfl) (hdb : (x == ("__debug__" : Str)) = false := by decide) (he : starEach (e :: es) X.env = (false, eval e X.env) :: starEach es X.env := by rfl) (hpl : (backTo pos (starEach es X.env)).any (·.1) = false := by rfl)
    (hs : swapsWith (.Call (.Name x p) (e :: es) [] pos) none apos.line X.env = pure false := by rfl) :
    PMS X W (.Expr (.Call (.Name x p) (e :: es) [] pos) apos) (tDrop (tMakeS C (spOb X.K X.mg C n M) (WE W) ta)) (mNewD C M ma) := ⟨ps_expr (pe_makeG Mk_ F gd hr hm hb hx ha.p hg hdb he hpl) hs, snd_newD hn ha.s⟩
end
/-! ### defs that make objects -/
section
variable {K : PySem.W.Frag} {mg : Str → Option Value}
theorem io_out {E : XK} {p : Addr} {c : Nat} {G H : Hp} {Q : VK} {o : Out} (h : RRE K mg (wOf E) (RV K) [] p G H Q (finIO c o)) : OutR K mg (wOf E) ⟨G, p⟩ (offH p H) G { nx := fun _ H' => Q .non H', rt := Q } o := by
  cases o with
  | nx ρ =>
    intro σ' G' H'' I' _
    unfold finIO at h
    cases e : ioIn c ρ with
    | none =>
      simp only [e] at h
      exact h.elim
    | some ys =>
      simp only [e] at h
      obtain ⟨x1, c1, _⟩ := I'.outIO e
      exact h G' H'' .non x1 c1 Rp.non
  | rx r ρ =>
    intro σ' G' H'' v I' _ hr' ap
    unfold finIO at h
    cases e : ioIn c ρ with
    | none =>
      simp only [e] at h
      exact h.elim
    | some ys =>
      simp only [e] at h
      obtain ⟨x1, c1, hp⟩ := I'.outIO e
      refine h G' H'' v x1 c1 ?_
      cases r with
      | sh d => exact hr'
      | ow zs =>
        obtain ⟨q, us, rfl, a, b, d, kk⟩ := hr'
        have nq : q ≠ p := fun z => ap zs rfl c ys (ioIn_inv e) (by rw [z]; exact hp)
        exact ⟨q, us, rfl, a, b, by rw [offH_ne nq] at d; exact d, kk⟩
      | bw zs => exact hr'
      | fz zs => exact hr'
      | io zs => exact hr'
      | ob o q C fs =>
        obtain ⟨us, cl1, _⟩ := id c1
        exact ObR.up (fun _ d => by
          obtain ⟨_, dx, fv, hi⟩ := ObR.at hr'
          rw [offH_ne (ins_ne hi cl1)] at d
          exact d) (fun _ _ z => z) (Same.refl _) (fun _ _ _ _ g => g) hr'
  | ex n fs ρ =>
    intro σ' G' H'' C d I' _ a b
    unfold finIO at h
    cases e : ioIn c ρ with
    | none =>
      simp only [e] at h
      exact h.elim
    | some ys =>
      simp only [e] at h
      obtain ⟨x1, c1, _⟩ := I'.outIO e
      exact h G' H'' C d x1 c1 a b
  | rt r => exact h.elim
  | bk ρ => exact h.elim
  | ct ρ => exact h.elim
  | no => exact h.elim
theorem pl_out {E : XK} {q : Addr} {G H : Hp} {Q : VK} {o : Out} (h : RR K mg (wOf E) (RV K) [] G H Q (fin o)) : OutR K mg (wOf E) ⟨G, q⟩ H G { nx := fun _ H' => Q .non H', rt := Q } o := by
  cases o with
  | nx ρ => exact fun σ' G' H'' I' _ => h G' H'' .non I'.ext Rp.non
  | rt r => exact h
  | ex n fs ρ => exact fun σ' G' H'' C d I' _ a b => h G' H'' C d I'.ext a b
  | rx r ρ => exact h.elim
  | bk ρ => exact h.elim
  | ct ρ => exact h.elim
  | no => exact h.elim
end
noncomputable def mFnIOU (c N : Nat) (ms : Addr → Addr → Rho → Out) : List Val → RE Val := fun as => if ioIn c (as.map some) = none then .no else uni (fun (z : Addr × Addr) => z.1 ≠ z.2) (fun z => finIO c (ms z.1 z.2 (as.map some ++ List.replicate (N - as.length) none))) .no
noncomputable def mFnU (N : Nat) (ms : Addr → Rho → Out) : List Val → Res Val := fun as => uni (fun (_ : Addr) => True) (fun a => fin (ms a (as.map some ++ List.replicate (N - as.length) none))) .no
section
variable {P : Program} {w : World} {K : PySem.W.Frag} {mg : Str → Option Value} {base : Heap}
theorem def_okIOU {x qual : Str} {st : Stmt} {f : Addr} {fd : FuncData} {N ps : List Str} {k c : Nat} {ms : Addr → Addr → Rho → Out} (F : Fun K x qual st f fd) (S : FnScope N ps (defScope st))
    (hbody : ∀ (cdv : Value) (A : Around) (outer : List Env) (s : Shared) (H : Hp) (E : XK), A.guards = some [] → Room k (A.deeper (envOfC qual (defScope st) s.heap.objs.size f cdv)) →
      ∃ ts, PMF2 (cxOf (L2.CX P w) P w K mg base N qual (defScope st) f cdv A outer s H E) (wOf E) (defBody st) ts ms) : FnG P w K mg base (k + 1) f fd ps (spIO K mg ps.length c (mFnIOU c N.length ms)) := by
  refine def_okS F S (fun vs H Q E ⟨G, p, as, xs, _, _, _, _, h, _⟩ => h) fun cdv A outer s H vs Q E gd hr hsp => ?_
  obtain ⟨ts, B⟩ := hbody cdv A outer s H E gd hr
  refine ⟨ts, B.p, ?_⟩
  obtain ⟨G, p, as, xs, hs, cl, hv, hio, hlen, h⟩ := hsp
  have hl' : vs.length = as.length := hv.len
  have I := env_startIO hs cl hv hio (N.length - vs.length)
  refine B.s ⟨G, p⟩ (offH p H) (start N vs) G H _ _ I fun a b hab => ?_
  rw [hl']
  unfold mFnIOU at h
  split at h
  · exact h.elim
  · cases eu : uni (fun (z : Addr × Addr) => z.1 ≠ z.2) (fun z => finIO c (ms z.1 z.2 (as.map some ++ List.replicate (N.length - as.length) none))) .no with
    | no => rw [eu] at h; exact h.elim
    | ok r ys =>
      have := uni_at eu (fun z => nomatch z) (a, b) hab
      rw [eu, ← this] at h
      exact io_out h
    | ex nm es ys =>
      have := uni_at eu (fun z => nomatch z) (a, b) hab
      rw [eu, ← this] at h
      exact io_out h
theorem def_okU {x qual : Str} {st : Stmt} {f : Addr} {fd : FuncData} {N ps : List Str} {k : Nat} {ms : Addr → Rho → Out} (F : Fun K x qual st f fd) (S : FnScope N ps (defScope st))
    (hbody : ∀ (cdv : Value) (A : Around) (outer : List Env) (s : Shared) (H : Hp) (E : XK), A.guards = some [] → Room k (A.deeper (envOfC qual (defScope st) s.heap.objs.size f cdv)) →
      ∃ ts, PMF1 (cxOf (L2.CX P w) P w K mg base N qual (defScope st) f cdv A outer s H E) (wOf E) (defBody st) ts ms) : FnG P w K mg base (k + 1) f fd ps (spM K mg ps.length (mFnU N.length ms)) := by
  refine def_okS F S (fun vs H Q E ⟨G, as, _, _, _, h, _⟩ => h) fun cdv A outer s H vs Q E gd hr hsp => ?_
  obtain ⟨ts, B⟩ := hbody cdv A outer s H E gd hr
  refine ⟨ts, B.p, ?_⟩
  obtain ⟨G, as, hs, hv, ha, _, h⟩ := hsp
  have hl' : vs.length = as.length := hv.len
  have I := env_start hs hv ha (N.length - vs.length) 0
  have key : ∀ a, OutR K mg (wOf E) ⟨G, 0⟩ H G { nx := fun _ H' => Q .non H', rt := Q } (ms a (as.map some ++ List.replicate (N.length - as.length) none)) := fun a => by
    unfold mFnU at h
    cases eu : uni (fun (_ : Addr) => True) (fun a => fin (ms a (as.map some ++ List.replicate (N.length - as.length) none))) .no with
    | no => rw [eu] at h; exact h.elim
    | ok r =>
      have := uni_at eu (fun z => nomatch z) a trivial
      rw [eu, ← this] at h
      exact pl_out h
    | ex nm es =>
      have := uni_at eu (fun z => nomatch z) a trivial
      rw [eu, ← this] at h
      exact pl_out h
  refine B.s ⟨G, 0⟩ H (start N vs) G H _ _ I (fun a _ => ?_) ⟨0, ?_⟩
  · rw [hl']
    exact key a
  · rw [hl']
    exact key 0
end
/-! ### f(o, e): o an object, e changes a list of the def's own -/
def mDefEo (i j : Nat) (M : List Val → Res Val) (me : Rho → RE Val) : Rho → RE Val := fun ρ => match ρ[j]? with
  | some (some (.ob _ p C fs)) => (me ρ).bind fun b xs => match b with
    | .sh (.int d) => (match M [.ob false p C fs, .sh (.int d)] with
      | .ok (.sh (.bool r)) => .ok (.sh (.bool r)) xs
      | _ => .no)
    | _ => .no
  | _ => .no
theorem sndE_defo {K : PySem.W.Frag} {mg : Str → Option Value} {W : WX} {i j : Nat} {M : List Val → Res Val} {te : TE} {me : Rho → RE Val} (h : SndE K mg W i te me) : SndE K mg W i (tCallS (spM K mg 2 M) (WE W) (tCons (tVar j) (tCons te tNil))) (mDefEo i j M me) := by
  intro G0 H0 σ G H ρ Q p xs I e hv q
  unfold mDefEo at q
  split at q
  · rename_i o pj C fs ej
    obtain ⟨⟨us0, c1, _, _⟩, _⟩ := I.cell e hv
    have hp0 : H p ≠ none := by rw [c1]; exact Option.some_ne_none _
    obtain ⟨v, hvj, z⟩ := I.slot j _ ej
    have z : ObR K H0 G H v o pj C fs := z
    obtain ⟨rfl, dx, fv, hins⟩ := z.at
    refine ⟨_, hvj, ?_⟩
    refine h G0 H0 σ G H ρ _ p xs I e hv (RRE.bnd (ExtE.refl I.s) hp0 q fun b xs1 G1 H1 y eb x1 cl r1 q1 => ?_)
    have zz : ObR K H1 G1 H1 (.ref pj) false pj C fs := ObR.look' (ObR.up (fun _ z => z) (fun _ _ z => x1.h _ _ (ins_ne hins c1) z) x1.g (fun _ _ _ z g => x1.n pj (by rw [z]; exact Option.some_ne_none _) g) z)
    split at q1
    · rename_i d
      split at q1
      · rename_i r em
        refine ⟨G1, [.ob false pj C fs, .sh (.int d)], x1.s, .cons zz (.cons (show Rp K G1 y (.int d) from r1) .nil), rfl, rfl, ?_⟩
        rw [em]
        intro G' H' w e' z'
        exact q1 G' H' w (x1.trans cl.ne e'.toE) (cl.ext e') z'
      · exact q1.elim
    · exact q1.elim
  · exact q.elim
theorem pme_defo {X : Cx} {W : WX} {P : Program} {w : World} {K : PySem.W.Frag} {mg : Str → Option Value} {base : Heap} {i k : Nat} {f : Addr} {fd : FuncData} {ps : List Str} {x y : Str} {p p2 pos : Pos} {e : Expr} {te : TE} {M : List Val → Res Val} {me : Rho → RE Val} (j : Nat) (F : FnG P w K mg base k f fd ps (spM K mg 2 M)) (gd : X.A.guards = some []) (hr : Room k X.A) (gm : mg x = some (.ref f)) (kp : PySem.W.keepIn K (.ref f) = true) (hb : Binds K fd ps [])
    (hx : ∀ σ, PassesAt (L2.CX X.prog X.w) X σ (WE W σ)) (h : PME i X W e te me) (hN : X.N[j]? = some y := by rfl) (hv : Vis X.env.scope y := by first | exact Or.inl rfl | exact Or.inr (Or.inl rfl) | exact Or.inr (Or.inr rfl)) (hd : (y == ("__debug__" : Str)) = false := by decide) (hcd : (y == ("__classdict__" : Str)) = false := by decide)
    (gl : Gl X x := by rfl) (h1 : X.prog = P := by rfl) (h2 : X.w = w := by rfl) (h3 : X.K = K := by rfl) (h4 : X.mg = mg := by rfl) (h5 : X.base = base := by rfl)
    (db : (x == ("__debug__" : Str)) = false := by decide) (st0 : starEach [e] X.env = (false, eval e X.env) :: starEach [] X.env := by rfl) (st : starEach [.Name y p2, e] X.env = (false, eval (.Name y p2) X.env) :: starEach [e] X.env := by rfl) (pl : (backTo pos (starEach [e] X.env)).any (·.1) = false := by rfl) :
    PME i X W (.Call (.Name x p) [.Name y p2, e] [] pos) (tCallS (spM K mg 2 M) (WE W) (tCons (tVar j) (tCons te tNil))) (mDefEo i j M me) := by
  refine ⟨pe_defSK F gd hr gm kp hb hx (pa_cons (pe_var hN hv hd hcd) (pa_cons h.p pa_nil st0) st) gl h1 h2 h3 h4 h5 db st pl, ?_⟩
  subst h1 h2 h3 h4 h5
  exact sndE_defo h.s
end Mi

/-! A property read while an exception is handled; a handler's value that reads the frame. -/
namespace Mi
open PySem PySem.Spec PyProof.Rows L2
/-! ### defs that raise nothing, run anywhere -/
structure RoomC (k : Nat) (A : Around) : Prop where
  dp : A.depth + 3 * k + 5 < recursionLimit
  un : A.units + 16 * k + 200 < cLine
theorem RoomC.of {k : Nat} {A : Around} (r : Room k A) : RoomC k A := ⟨r.dp, r.un⟩
theorem RoomC.mono {j k : Nat} {A : Around} (r : RoomC k A) (h : j ≤ k) : RoomC j A := ⟨by have := r.dp; omega, by have := r.un; omega⟩
theorem RoomC.deeper {k : Nat} {A : Around} (r : RoomC (k + 1) A) (env : Env) : RoomC k (A.deeper env) :=
  ⟨by have := r.dp; show A.depth + 1 + 3 * k + 5 < _; omega, by have := r.un; show A.units + 3 + 16 * k + 200 < _; omega⟩
theorem RoomC.in1 {k : Nat} {A : Around} (r : RoomC (k + 1) A) : RoomC k A.in1 :=
  ⟨by have := r.dp; show A.depth + 3 * k + 5 < _; omega, by have := r.un; show A.units + 1 + 16 * k + 200 < _; omega⟩
theorem RoomC.units {k : Nat} {A : Around} (r : RoomC k A) : A.units + 64 < cLine := by have := r.un; omega
theorem RoomC.units0 {k : Nat} {A : Around} (r : RoomC k A) : A.units < cLine := by have := r.un; omega
theorem RoomC.mark {k : Nat} {A : Around} {v : Option Value} (r : RoomC k A) : RoomC k (A.mark v) := ⟨r.dp, r.un⟩
theorem RoomC.depth {k : Nat} {A : Around} (r : RoomC k A) : A.depth < recursionLimit := by have := r.dp; omega
def cxC (P : Program) (w : World) (K : PySem.W.Frag) (mg : Str → Option Value) (base : Heap) (N : List Str) (qual : Str) (scope : Scope) (f : Addr) (cd : Value) (A : Around) (outer : List Env) (s : Shared) (H : Hp) (E : XK) : Cx :=
  { cxOf (L2.CX P w) P w K mg base N qual scope f cd A outer s H E with calm := false }
structure FnC (P : Program) (w : World) (K : PySem.W.Frag) (mg : Str → Option Value) (base : Heap) (k : Nat) (f : Addr) (fd : FuncData) (ps : List Str) (sp : Sp) : Prop where
  len : ∀ vs H Q E, sp vs H Q E → vs.length = ps.length
  go : ∀ (A : Around) (outer : List Env) (s : Shared) (H : Hp) (args : Args) (us : List Value) (vs : List V) (Q : VK) (E : XK), A.guards = some [] → RoomC k A → Env0 P w K mg base A outer s H → BindsTo s fd args (ps.zip us) → Vals vs us → sp vs H Q E →
    codeAny (model P w) A (.call (.ref f) args) (CR (L2.CX P w) outer P w H s Q E) s
def noX (M : List Val → Res Val) : List Val → Res Val := fun as => match M as with
  | .ok r => .ok r
  | _ => .no
theorem mProp_noX {C : Addr} {M : List Val → Res Val} {mo : Rho → Res Val} : mProp C (noX M) mo = mProp C M mo := by
  funext ρ
  unfold mProp noX
  congr
  funext a
  split
  · split
    · cases M _ <;> rfl
    · rfl
  · rfl
section
variable {P : Program} {w : World} {K : PySem.W.Frag} {mg : Str → Option Value} {base : Heap}
theorem inv_startC {N ps : List Str} {qual : Str} {scope : Scope} {f : Addr} {cd : Value} {A : Around} {outer : List Env} {s s1 : Shared} {H : Hp} {E : XK} {us : List Value} {vs : List V}
    (S : FnScope N ps scope) (e0 : Env0 P w K mg base A outer s H) (hl : vs.length = ps.length) (r : Vals vs us)
    (x : InCallC s s.heap.objs.size (bindL (envOfC qual scope s.heap.objs.size f cd).kindOf (ps.zip us) fun _ => none) (cellsFrom (s.heap.objs.size + 1) scope.names []) (bindC (envOfC qual scope s.heap.objs.size f cd).kindOf (ps.zip us) fun _ => none) s1) :
    Inv (cxC P w K mg base N qual scope f cd A outer s H E) [] (start N vs) H s1 := by
  have e1 : Env0 P w K mg base { A with handled := none } outer s H := ⟨e0.frames, e0.mod, e0.bs, e0.bsz, e0.funs, e0.frf, e0.hok, e0.bare⟩
  have J := inv_start (CX := L2.CX P w) (E := E) S rfl e1 hl r x
  exact ⟨⟨J.ok.mod, J.ok.kind, J.ok.glob, J.ok.blt, J.ok.above, J.ok.inj, J.ok.has, J.ok.cab, (fun z => Bool.noConfusion (show false = true from z)), Around.frames_deeper e0.frames, J.ok.stk, J.ok.exf, J.ok.bs, J.ok.bsz, J.ok.noex, J.ok.exfs, J.ok.funs, J.ok.frf⟩,
    J.os, J.bare, J.base, J.loc, J.cell, J.free, J.freeC, J.pin, J.hok, J.len⟩
theorem def_okC {x qual : Str} {st : Stmt} {f : Addr} {fd : FuncData} {N ps : List Str} {k : Nat} {ms : Rho → Out} (F : Fun K x qual st f fd) (S : FnScope N ps (defScope st))
    (hbody : ∀ (cdv : Value) (A : Around) (outer : List Env) (s : Shared) (H : Hp) (E : XK), A.guards = some [] → RoomC k (A.deeper (envOfC qual (defScope st) s.heap.objs.size f cdv)) →
      ∃ ts, PMSs (cxC P w K mg base N qual (defScope st) f cdv A outer s H E) W0 (defBody st) ts ms) : FnC P w K mg base (k + 1) f fd ps (spM K mg ps.length (noX (mFn N.length ms))) := by
  obtain ⟨oc, od, kV, doc, pm, an, cdv, ct, osl, rfl, lk, hcd⟩ := F.ex
  refine ⟨fun vs H Q E ⟨G, as, _, _, _, h, _⟩ => h, fun A outer s H args us vs Q E gd hr e0 hb r hsp => ?_⟩
  have hl : vs.length = ps.length := by
    obtain ⟨G, as, _, _, _, h, _⟩ := hsp
    exact h
  have KX : K.In s.heap := e0.mod.kin.keeps fun b o z => (e0.bs b o z).1
  have lim : s.heap.NoLimit := e0.mod.nolimit.keeps fun b o z => (e0.bs b o z).1
  have names : ∀ y ∈ ps.zip us, (defScope st).names.lookup y.1 = some .local ∨ ((defScope st).names.lookup y.1 = some .cell ∧ ((cellsFrom (s.heap.objs.size + 1) (defScope st).names []).lookup y.1).isSome = true) := fun y hy =>
    (S.par y.1 (List.of_mem_zip (a := y.1) (b := y.2) hy).1).imp id fun z => ⟨z, PySem.W.cellsFrom_some _ _ _ (.inl z)⟩
  obtain ⟨ts, B⟩ := hbody cdv A outer s H E gd (hr.deeper _)
  have want : ts { nx := fun _ H' => Q .non H', rt := Q } (start N vs) H := by
    obtain ⟨G, as, hs, hv, ha, _, h⟩ := hsp
    have hl' : vs.length = as.length := hv.len
    have I := env_start hs hv ha (N.length - vs.length) 0
    refine B.s ⟨G, 0⟩ H (start N vs) G H _ _ I ?_
    rw [hl'] at I ⊢
    unfold noX mFn fin at h
    cases eo : ms (as.map some ++ List.replicate (N.length - as.length) none) with
    | nx ρ =>
      rw [eo] at h
      exact fun σ' G' H'' I' _ => h G' H'' .non I'.ext Rp.non
    | rt r =>
      rw [eo] at h
      exact h
    | rx r ρ =>
      rw [eo] at h
      exact h.elim
    | bk ρ =>
      rw [eo] at h
      exact h.elim
    | ct ρ =>
      rw [eo] at h
      exact h.elim
    | ex n fs ρ =>
      rw [eo] at h
      exact h.elim
    | no =>
      rw [eo] at h
      exact h.elim
  refine codeAny_call_function hr.depth (KX _ _ lk) rfl S.co S.gen rfl (PySem.W.codeRec_of KX hcd) (hb _ _ _ _ (wpAny_newFunctionEnv_cells S.kind names fun env he s1 ic => ?_))
  subst he
  refine ⟨lim.keeps ic.toInCall.keep, codeAny_func (wpAny_mono (B.p.run [] s1 (start N vs) H _ (inv_startC (E := E) S e0 hl r ic) want) (fun fl s' z => ?_) fun _ _ z => z)⟩
  match fl, z with
  | .ret u, ⟨v, σ', H', J, rv, q⟩ => exact ⟨v, H', J.os, J.bare, J.base, J.hok, rv, q⟩
  | .next, ⟨σ', H', J, q⟩ => exact ⟨V.non, H', J.os, J.bare, J.base, J.hok, rfl, q⟩
  | .brk, ⟨_, _, _, q⟩ => exact q.elim
  | .cont, ⟨_, _, _, q⟩ => exact q.elim
end
section
variable {X : Cx} {W : WX} {k : Nat} {C p g : Addr} {fd : FuncData} {ps : List Str} {sp : Sp} {m : Str} {pos : Pos} {e : Expr} {ta : TE}
theorem pe_propC (he : PE X e ta) (c : Cls X.K C) (hp : PropOf X.K C m p g) (F : FnC X.prog X.w X.K X.mg X.base k g fd ps sp) (gd : X.A.guards = some []) (hr : RoomC (k + 1) X.A) (hb : Binds X.K fd ps [])
    (hab : attributeBase e m X.env (eval e X.env) = eval e X.env := by rfl) : PE X (.Attribute e m pos) (tPropS C sp (fun _ _ _ _ => False) ta) := by
  refine ⟨fun pins s σ H Q I h => ?_⟩
  refine attr_of hab (thn (he.run pins s σ H _ I h) fun u s1 ⟨x, H1, I1, rx, a, dx, fs, ex, ea, q⟩ => ?_)
  subst ex
  obtain rfl : u = Value.ref a := rx
  obtain ⟨mA, O, _, _, _, _⟩ := ins_get I1.hok ea
  obtain ⟨od, J, _⟩ := O.look
  obtain ⟨rest, hrec⟩ := hp.rec_
  have I2 := I1.tok (s1.toks + 1)
  have hl : ([Value.ref a] : List Value).length = ps.length := by
    rw [← F.len _ _ _ _ q]
    rfl
  have hc : (PySem.W.clsIn X.K C).isSome = true := by
    obtain ⟨cd, hc, _⟩ := PySem.W.any_some c.hd
    rw [hc]
    rfl
  have bb := hb { s1 with toks := s1.toks + 1 } [.ref a] I2.kIn ((congrArg List.length (List.append_nil _)).trans hl)
  rw [List.append_nil] at bb
  refine PySem.W.get_bind I1.kIn J (PySem.W.plainGet_of (c.get m)).1 (PySem.W.findObj_data hc hp.at_ hp.get hp.tak) (PySem.W.plainGet_of (c.get m)).2 (wpAny_call (PySem.W.prop_get (s := { s1 with toks := s1.toks + 1 }) I1.kIn hrec ?_))
  refine codeAny_mono (F.go X.A.in1 X.stack { s1 with toks := s1.toks + 1 } H1 ⟨[.ref a], []⟩ [.ref a] [.ref a] Q (fun _ _ _ => False) (guards_in1 gd) hr.in1 I2.env0.in1 bb (.cons rfl .nil) q) fun r s' hq => ?_
  cases r with
  | error er =>
    obtain ⟨_, _, _, _, _, _, _, _, _, _, _, _, z⟩ := hq
    exact z.elim
  | ok fl =>
    cases fl with
    | ret u =>
      obtain ⟨v, H', I3, rv, q3⟩ := I2.after hq
      show wpAny _ _ (handedOut u) _ _ _
      rw [PySem.W.handedOut_of (handed_of rv)]
      exact wpAny_pure ⟨v, H', I3, rv, q3⟩
    | next => exact False.elim hq
    | brk => exact False.elim hq
    | cont => exact False.elim hq
theorem pm_propC {M : List Val → Res Val} {mo : Rho → Res Val} (c : Cls X.K C) (hp : PropOf X.K C m p g) (F : FnC X.prog X.w X.K X.mg X.base k g fd ps (spM X.K X.mg 1 (noX M))) (gd : X.A.guards = some []) (hr : RoomC (k + 1) X.A) (hb : Binds X.K fd ps []) (h : PM X W e ta mo)
    (hab : attributeBase e m X.env (eval e X.env) = eval e X.env := by rfl) : PM X W (.Attribute e m pos) (tPropS C (spM X.K X.mg 1 (noX M)) (fun _ _ _ _ => False) ta) (mProp C M mo) := ⟨pe_propC h.p c hp F gd hr hb hab, mProp_noX ▸ snd_prop h.s⟩
end
/-! ### a handler's value -/
structure PHV (X : Cx) (i : Nat) (a : Addr) (cls : Value) (d : Option Addr) (e : Expr) (te : TE) (mv : Str → Rho → Res Val) : Prop where
  p : PE X e te
  s : ∀ m C, cls = .ref C → d = none → X.mg m = some (.ref C) → ∀ (G0 : Bs) (H0 : Hp) (σ : L2.St) (G H : Hp) (ρ : Rho) (Q : VK), EnvS X.K G0 H0 σ G H ρ → σ[i]? = some (some (.ref a)) → RR X.K X.mg W0 (RV X.K) σ G H Q (mv m ρ) → te σ H Q
def mHVal (mv : Str → Rho → Res Val) : Str → Rho → Out := fun m ρ => match mv m ρ with
  | .ok r => .rt r
  | _ => .no
section
variable {X : Cx} {i : Nat} {a : Addr} {cls : Value} {d : Option Addr} {e b : Expr} {te t1 t2 : TE} {m1 : Str → Option Bool} {me : Rho → Res Val} {mv m2 : Str → Rho → Res Val} {pos : Pos} {rest : List Expr}
theorem phv_pure (h : PM X W0 e te me) : PHV X i a cls d e te (fun _ => me) := ⟨h.p, fun m C h1 h2 h3 G0 H0 σ G H ρ Q I hσ q => h.s G0 H0 σ G H ρ Q I q⟩
theorem phv_one {op : BoolOp} (h : PHV X i a cls d e te mv) : PHV X i a cls d (.BoolOp op [e] pos) te mv := ⟨pe_one h.p, h.s⟩
theorem phv_and (h : PHE X i a cls d e t1 m1) (h2 : PHV X i a cls d (.BoolOp .And (b :: rest) pos) t2 m2) : PHV X i a cls d (.BoolOp .And (e :: b :: rest) pos) (tAndV t1 t2) (fun m ρ => match m1 m with
    | some true => m2 m ρ
    | some false => .ok (.sh (.bool false))
    | none => .no) :=
  ⟨pe_and h.p h2.p, fun m C h1 hn h3 G0 H0 σ G H ρ Q I hσ q => by
    cases e0 : m1 m with
    | none =>
      simp only [e0] at q
      exact q.elim
    | some k0 =>
      refine h.s m C k0 h1 hn h3 e0 σ H _ hσ ⟨k0, rfl, ?_⟩
      cases k0 with
      | false =>
        simp only [e0] at q
        exact iteF (q G H (.bl false) (Ext.refl I.s) (Rp.bl false))
      | true =>
        simp only [e0] at q
        exact iteT (h2.s m C h1 hn h3 G0 H0 σ G H ρ Q I hσ q)⟩
theorem phs_val (h : PHV X i a cls d e te mv) : PHS X i a cls d [.Return (some e) pos] (tRet te) (mHVal mv) :=
  ⟨pss_one (ps_ret h.p), fun m C h1 h2 h3 G0 H0 σ G H ρ D I hσ q => by
    unfold mHVal at q
    refine h.s m C h1 h2 h3 G0 H0 σ G H ρ _ I hσ ?_
    cases e0 : mv m ρ with
    | no =>
      simp only [e0] at q
      exact q.elim
    | ex n fs =>
      simp only [e0] at q
      exact q.elim
    | ok r =>
      simp only [e0] at q
      exact fun G' H' v e1 z => q G' H' v (I.ext.trans e1) (z.back I.ext.h)⟩
end
theorem pms_newDK {X : Cx} {W : WX} {K' : PySem.W.Frag} {mg' : Str → Option Value} {C f : Addr} {k n : Nat} {x : Str} {fd : FuncData} {ps : List Str} {M : List Val → ROb} {e : Expr} {es : List Expr} {ta : TA} {ma : Rho → Res (List Val)} {p pos apos : Pos} (hk : X.K = K') (hg' : X.mg = mg') (Mk_ : Mk X.K C f) (F : FnG X.prog X.w X.K X.mg X.base k f fd ps (spOb X.K X.mg C n M)) (gd : X.A.guards = some []) (hr : Room (k + 1) X.A) (hm : X.mg x = some (.ref C)) (hb : Binds X.K fd ps []) (hx : ∀ σ, PassesAt (L2.CX X.prog X.w) X σ (WE W σ)) (ha : PMA X W (e :: es) ta ma) (hn : ∀ ρ as, ma ρ = .ok as → as.length + 1 = n)
    (hg : Gl X x := by rfl) (hdb : (x == ("__debug__" : Str)) = false := by decide) (he : starEach (e :: es) X.env = (false, eval e X.env) :: starEach es X.env := by rfl) (hpl : (backTo pos (starEach es X.env)).any (·.1) = false := by rfl)
    (hs : swapsWith (.Call (.Name x p) (e :: es) [] pos) none apos.line X.env = pure false := by rfl) :
    PMS X W (.Expr (.Call (.Name x p) (e :: es) [] pos) apos) (tDrop (tMakeS C (spOb K' mg' C n M) (WE W) ta)) (mNewD C M ma) := by
  subst hk
  subst hg'
  exact pms_newD Mk_ F gd hr hm hb hx ha hn hg hdb he hpl hs
theorem pm_fldK {X : Cx} {W : WX} {K' : PySem.W.Frag} {C : Addr} {f : Str} {o : Expr} {to : TE} {mo : Rho → Res Val} {pos : Pos} (hk : X.K = K') (c : Cls X.K C) (n : NoAttr X.K C f) (h : PM X W o to mo) (hb : attributeBase o f X.env (eval o X.env) = eval o X.env := by rfl) : PM X W (.Attribute o f pos) (tFld K' to f) (mFld C f mo) := by
  subst hk
  exact pm_fld c n h hb
section
variable {X : Cx} {W : WX} {K' : PySem.W.Frag} {mg' : Str → Option Value} {C p g f : Addr} {k n : Nat} {m : Str} {fd : FuncData} {ps : List Str} {M : List Val → Res Val} {o e : Expr} {es : List Expr} {to : TE} {mo : Rho → Res Val} {ta : TA} {ma : Rho → Res (List Val)} {pos apos : Pos} {pl : Sem Bool}
theorem pm_propK (hk : X.K = K') (hg' : X.mg = mg') (c : Cls X.K C) (hp : PropOf X.K C m p g) (F : FnG X.prog X.w X.K X.mg X.base k g fd ps (spM X.K X.mg 1 M)) (gd : X.A.guards = some []) (hr : Room (k + 1) X.A) (hb : Binds X.K fd ps []) (h : PM X W o to mo)
    (hab : attributeBase o m X.env (eval o X.env) = eval o X.env := by rfl) : PM X W (.Attribute o m pos) (tPropS C (spM K' mg' 1 M) (fun _ _ _ _ => False) to) (mProp C M mo) := by
  subst hk
  subst hg'
  exact pm_prop c hp F gd hr hb h hab
theorem pm_propCK (hk : X.K = K') (hg' : X.mg = mg') (c : Cls X.K C) (hp : PropOf X.K C m p g) (F : FnC X.prog X.w X.K X.mg X.base k g fd ps (spM X.K X.mg 1 (noX M))) (gd : X.A.guards = some []) (hr : RoomC (k + 1) X.A) (hb : Binds X.K fd ps []) (h : PM X W o to mo)
    (hab : attributeBase o m X.env (eval o X.env) = eval o X.env := by rfl) : PM X W (.Attribute o m pos) (tPropS C (spM K' mg' 1 (noX M)) (fun _ _ _ _ => False) to) (mProp C M mo) := by
  subst hk
  subst hg'
  exact pm_propC c hp F gd hr hb h hab
theorem pm_methPK (hk : X.K = K') (hg' : X.mg = mg') (c : Cls X.K C) (hm : Meth X.K C m f) (F : FnG X.prog X.w X.K X.mg X.base k f fd ps (spM X.K X.mg n M)) (gd : X.A.guards = some []) (hr : Room k X.A) (hb : Binds X.K fd ps [])
    (hx : ∀ σ, PassesAt (L2.CX X.prog X.w) X σ (WE W σ)) (h : PM X W o to mo) (ha : PMA X W (e :: es) ta ma) (hn : ∀ ρ as, ma ρ = .ok as → as.length + 1 = n)
    (hst : starEach (e :: es) X.env = (false, eval e X.env) :: starEach es X.env := by rfl) (hpl : (backTo pos (starEach es X.env)).any (·.1) = false := by rfl)
    (ht : eval (.Call (.Attribute o m apos) (e :: es) [] pos) X.env = (do
      let ov ← eval o X.env
      standAt apos.atName
      let (f, first) ← holding [ov] (getMethod ov m pl)
      callWith pos f first (backTo pos (starEach (e :: es) X.env)) (backToKw pos (keywordEach [] X.env))) := by rfl) :
    PM X W (.Call (.Attribute o m apos) (e :: es) [] pos) (tMethS C m (spM K' mg' n M) (WE W) to ta) (mMethP C m M mo ma) := by
  subst hk
  subst hg'
  exact pm_methP c hm F gd hr hb hx h ha hn hst hpl ht
end
end Mi

/-! zip in comprehensions and loops, K by name. -/
namespace Mi
open PySem PySem.Spec PyProof.Rows L2 RZ
theorem pmi_zK {X : Cx} {W : WX} {K : PySem.W.Frag} {a b : Expr} {ta : TA} {ma : Rho → Res (List Val)} {p pos tpos : Pos} {elts : List Expr} {kk : Nat} (hk : X.K = K) (hm : X.mg "zip" = none) (h : PMA X W [a, b] ta ma) (hg : Gl X "zip" := by rfl)
    (hs : starEach [a, b] X.env = (false, eval a X.env) :: starEach [b] X.env := by rfl) (hpl : (backTo pos (starEach [b] X.env)).any (·.1) = false := by rfl) : PMI X W (.Tuple elts kk tpos) (.Call (.Name "zip" p) [a, b] [] pos) (iZipA K ta) (mIterZ ma) := by
  subst hk
  exact pmi_z hm h hg hs hpl
/-! ### list(range(a, b, -1)) -/
def PRg3 (X : Cx) (e : Expr) (t : L2.St → Hp → (Int → Int → Int → Hp → Prop) → Prop) : Prop :=
  ∀ (pins : List (Addr × Obj)) (s : Shared) (σ : L2.St) (H : Hp) (Q : Int → Int → Int → Hp → Prop), Inv X pins σ H s → t σ H Q →
    wpAny (model X.prog X.w) X.A (eval e X.env) (fun x s' => ∃ r a b c t u v H', x = .ref r ∧ IsRange s'.heap r a b c t u v ∧ Inv X pins σ H' s' ∧ Q a b c H') X.xe s
def tRg3 (ta : TA) : L2.St → Hp → (Int → Int → Int → Hp → Prop) → Prop := fun σ H Q => ta σ H fun vs H1 => ∃ i j k n, vs = [.int i, .int j, .int k] ∧ RgC i j k n ∧ Q i j k H1
def rgV3 (a c : Int) (n : Nat) : List V := (List.range n).map fun i => V.int (a + (i : Nat) * c)
def tLst3 (te : L2.St → Hp → (Int → Int → Int → Hp → Prop) → Prop) : TE := fun σ H Q => te σ H fun a b c H1 => ∃ n, RgC a b c n ∧ n ≤ 2 ^ 24 ∧ ∀ q, H1 q = none → Q (.ref q) (upd H1 q (.lst (rgV3 a c n)))
section
variable {X : Cx} {W : WX} {a b c e : Expr} {ta : TA} {ma : Rho → Res (List Val)} {te : L2.St → Hp → (Int → Int → Int → Hp → Prop) → Prop} {p pos p' pos' : Pos}
theorem prg_3 (hg : Gl X "range") (hm : X.mg "range" = none) (ha : PA X [a, b, c] ta) (hs : starEach [a, b, c] X.env = (false, eval a X.env) :: starEach [b, c] X.env := by rfl) (hpl : (backTo pos (starEach [b, c] X.env)).any (·.1) = false := by rfl) :
    PRg3 X (.Call (.Name "range" p) [a, b, c] [] pos) (tRg3 ta) := by
  intro pins s σ H Q I h
  refine Call_ (ld_blt I hg hm boot_range (PyProof.Rows.callWith_type1 (thn (ha.run pos pins s σ H _ I h) fun us s1 ⟨vs, H1, I1, r1, q1⟩ => ?_) hs hpl))
  obtain ⟨i, j, k, n, e, ⟨c0, c1, c2, c3⟩, q⟩ := q1
  subst e
  cases r1 with
  | cons r rr =>
    cases rr with
    | cons r' rr =>
      cases rr with
      | cons r'' rr =>
        cases rr
        obtain ⟨t, rfl⟩ := r
        obtain ⟨t', rfl⟩ := r'
        obtain ⟨t'', rfl⟩ := r''
        refine call_range_3 c0 ?_ (.inl (PyProof.noPylong_small c1))
        exact ⟨_, i, j, k, _, _, _, H1, rfl, IsRange.new _ _ _ _ _ _ _, I1.kept (t' := s1.toks) fun b u e => Heap.get?_push_of_some _ e, q⟩
theorem vals_rg3 {a c : Int} {n : Nat} {acc : Array Value} (h : ItemsOf (fun i v => ∃ t, v = .int (a + i * c) t) acc n) : Vals (rgV3 a c n) acc.toList := by
  have e : acc.toList.length = n := by rw [Array.length_toList]; exact h.1
  unfold rgV3
  rw [← e]
  refine vals_of_get acc.toList _ fun j u hj => ?_
  obtain ⟨t, rfl⟩ := h.2 j u (by rw [← hj, Array.getElem?_toList])
  exact ⟨t, rfl⟩
theorem pe_list3 (hc : X.calm = true) (hg : Gl X "list") (hm : X.mg "list" = none) (he : PRg3 X e te) (na : starEach [e] X.env = (false, eval e X.env) :: starEach [] X.env := by rfl) : PE X (.Call (.Name "list" p) [e] [] pos) (tLst3 te) := by
  refine ⟨fun pins s σ H Q I h => ?_⟩
  refine Call_ (ld_blt I hg hm boot_list (PyProof.Rows.callWith_type1 (args_cons (thn (he pins s σ H _ I h) fun x s1 ⟨r, a, b, c, t, u, v, H1, ex, hr, I1, ok⟩ => args_nil ?_) na) na))
  subst ex
  obtain ⟨n, ⟨c0, c1, c2, c3⟩, hn, q⟩ := ok
  refine call_list_range (n := n) (I1.ok.hd hc) hr c2 c3 hn fun h' tk acc c' hk e' hi => ?_
  refine ⟨.ref s1.heap.objs.size, upd H1 s1.heap.objs.size (.lst (rgV3 a c n)), I1.laid hk (Nat.le_refl _) (show ObjOk X.prog X.w _ _ _ (.lst (rgV3 a c n)) from ⟨?_, acc.toList, c', vals_rg3 hi, ?_⟩), rfl, q _ (I1.hok.fresh (Nat.le_refl _))⟩
  · unfold rgV3
    rw [List.length_map, List.length_range, sizeLine_eq]
    omega
  · rw [Array.toArray_toList]; exact e'
def mListR3 (ma : Rho → Res (List Val)) : Rho → Res Val := fun ρ => (ma ρ).bind fun as => lift (match as with
  | [.sh (.int i), .sh (.int j), .sh (.int c)] => if i.natAbs ≤ 1000000 ∧ j.natAbs ≤ 1000000 ∧ c = -1 then some (.ow (downD i (i - j).toNat)) else none
  | _ => none)
theorem rpa_down {K : PySem.W.Frag} {G : Hp} {a : Int} {n : Nat} : RpA K G (rgV3 a (-1) n) (downD a n) := by
  unfold rgV3 downD
  generalize (List.range n) = l
  induction l with
  | nil => exact .nil
  | cons m l ih =>
    refine .cons ?_ ih
    have z : a + (m : Nat) * (-1) = a - (m : Nat) := by omega
    show Rp K G (V.int (a + (m : Nat) * (-1))) (.int (a - (m : Nat)))
    rw [z]
    exact .int _
theorem snd_listR3 {K : PySem.W.Frag} {mg : Str → Option Value} (ha : SndA K mg W ta ma) : Snd K mg W (tLst3 (tRg3 ta)) (mListR3 ma) := by
  intro G0 H0 σ G H ρ Q I h
  refine ha G0 H0 σ G H ρ _ I (RR.bnd (Ext.refl I.s) h fun as G1 H1 vs ea e1 r1 h1 => ?_)
  obtain ⟨xs, ex, q1⟩ := h1.lift
  split at ex
  · split at ex
    · rename_i i j c hc
      cases ex
      obtain ⟨v, u, w, rfl, z1, z2, z3⟩ := vrs3 r1
      cases z1.int_
      cases z2.int_
      cases z3.int_
      obtain ⟨_, _, rfl⟩ := hc
      have rg : RgC i j (-1) (i - j).toNat := RgC.neg (by omega) (by omega) (by omega) (by omega)
      refine ⟨i, j, -1, _, rfl, rg, (i - j).toNat, rg, by omega, fun p hp => ?_⟩
      exact q1 G1 _ (.ref p) (e1.trans (Ext.newO e1.s hp)) ⟨p, rgV3 i (-1) (i - j).toNat, rfl, upd_same, e1.s.free hp, e1.h.free hp, rpa_down⟩
    · cases ex
  · cases ex
theorem pm_listR3 (hc : X.calm = true) (ml : X.mg "list" = none) (mr : X.mg "range" = none) (ha : PMA X W [a, b, c] ta ma) (gl : Gl X "list" := by rfl) (gr : Gl X "range" := by rfl) (na : starEach [a, b, c] X.env = (false, eval a X.env) :: starEach [b, c] X.env := by rfl)
    (hp : (backTo pos' (starEach [b, c] X.env)).any (·.1) = false := by rfl)
    (nc : starEach [Expr.Call (.Name "range" p') [a, b, c] [] pos'] X.env = (false, eval (Expr.Call (.Name "range" p') [a, b, c] [] pos') X.env) :: starEach [] X.env := by rfl) :
    PM X W (.Call (.Name "list" p) [.Call (.Name "range" p') [a, b, c] [] pos'] [] pos) (tLst3 (tRg3 ta)) (mListR3 ma) := ⟨pe_list3 hc gl ml (prg_3 gr mr ha.p na hp) nc, snd_listR3 ha.s⟩
end
end Mi

namespace Mi
open PySem PySem.Spec PyProof.Rows L2

/-! ### d[k] of a dict that nothing changes -/
def mGetI (md mk : Rho → Res Val) : Rho → Res Val := fun ρ => (md ρ).bind fun o => match o with
  | .sh (.dict ds) => (mk ρ).bind fun rk => lift (match keyOf rk with
    | some k => (getD2 ds k).map Val.sh
    | none => none)
  | _ => .no
theorem snd_getI {K : PySem.W.Frag} {mg : Str → Option Value} {W : WX} {td tk : TE} {md mk : Rho → Res Val} (hd : Snd K mg W td md) (hk : Snd K mg W tk mk) : Snd K mg W (tDGet td tk) (mGetI md mk) := by
  intro G0 H0 σ G H ρ Q I h
  refine hd G0 H0 σ G H ρ _ I (RR.bnd (Ext.refl I.s) h fun o G1 H1 x eo e1 r1 h1 => ?_)
  split at h1
  · rename_i ds
    cases (show Rp K G1 x (.dict ds) from r1) with
    | @dct a kvs _ ha kf =>
      refine hk G0 H0 σ G1 H1 ρ _ (I.ext' e1) (RR.bnd e1 h1 fun rk G2 H2 y ek e2 r2 h2 => ?_)
      obtain ⟨c, ec, q⟩ := h2.lift
      split at ec
      · rename_i k ek2
        have hk2 : H2 a = some (.dK kvs) := e2.s _ _ (e2.g _ _ ha)
        rcases get_ok k kf with ⟨n1, n2⟩ | ⟨d, v, s1, s2, f⟩
        · rw [n1] at ec
          cases ec
        · rw [s1] at ec
          cases ec
          refine ⟨a, v, rfl, ?_, q G2 H2 _ (e1.trans e2) (show Rp K G2 v d from f.rp)⟩
          have z := DGet.k (k := k) hk2
          rw [s2] at z
          rw [keyOf_ok r2 ek2]
          exact z
      · cases ec
  · exact h1.elim
theorem pm_getIK {X : Cx} {W : WX} {o i : Expr} {td tk : TE} {md mk : Rho → Res Val} {pos : Pos} (hu : X.A.units + 64 < cLine) (ho : PM X W o td md) (hk : PM X W i tk mk) (hs : NoSl i := by exact fun _ _ => rfl) : PM X W (.Subscript o i pos) (tDGet td tk) (mGetI md mk) :=
  ⟨pe_dget (by omega) ho.p hk.p hs, snd_getI ho.s hk.s⟩

/-! ### a dict of one's own: made by a comprehension, changed by the loop behind it, steady from there -/
def putA (acc : List (Key × D)) (k : Key) (d : D) : List (Key × D) :=
  if (acc.any fun p => decide (p.1 = k)) = true then acc.map (fun p => if p.1 = k then (p.1, d) else p) else acc ++ [(k, d)]
theorem FlatA.repl {kvs : List (Key × V)} {ds : List (Key × D)} (k : Key) {v : V} {d : D} (h : FlatA kvs ds) (f : FlatV v d) : FlatA (kvs.map fun p => if p.1 = k then (p.1, v) else p) (ds.map fun p => if p.1 = k then (p.1, d) else p) := by
  induction h with
  | nil => exact .nil
  | @cons k' v' d' kvs ds g _ ih =>
    rw [List.map_cons, List.map_cons]
    by_cases e : k' = k
    · rw [if_pos e, if_pos e]
      exact .cons f ih
    · rw [if_neg e, if_neg e]
      exact .cons g ih
theorem FlatA.put {kvs : List (Key × V)} {ds : List (Key × D)} (k : Key) {v : V} {d : D} (h : FlatA kvs ds) (f : FlatV v d) : FlatA (putK kvs k v) (putA ds k d) := by
  unfold putK putA
  rw [h.has k]
  split
  · exact h.repl k f
  · exact h.push f
/-- what is shared among the slots -/
def keepSh (ρ : Rho) : Rho := ρ.map fun o => match o with
  | some (.sh d) => some (.sh d)
  | _ => none
def dstep (x : Nat) (mk mv : Rho → Res Val) (acc : List (Key × D)) (ρ : Rho) : Option (List (Key × D)) :=
  match mv ((keepSh ρ).set x (some (.sh (dictD acc)))) with
  | .ok rv => match flatOf rv with
    | some d => match mk ((keepSh ρ).set x (some (.sh (dictD acc)))) with
      | .ok rk => match keyOf rk with
        | some k => if acc.length < 100000 then some (putA acc k d) else none
        | none => none
      | _ => none
    | none => none
  | _ => none
def dloop (x : Nat) (bp : BP) (mk mv : Rho → Res Val) : List D → List (Key × D) → Rho → Option (List (Key × D) × Rho)
  | [], acc, ρ => some (acc, ρ)
  | d :: ds, acc, ρ => match bp d ρ with
    | none => none
    | some ρ1 => match dstep x mk mv acc ρ1 with
      | none => none
      | some acc' => dloop x bp mk mv ds acc' ρ1
def mDL (x : Nat) (mi : Rho → Res (List D)) (bp : BP) (mt : Rho → Res Bool) (mk mv : Rho → Res Val) (vs : List Nat) (mi2 : Rho → Res (List D)) (bp2 : BP) (mk2 mv2 : Rho → Res Val) : Rho → Out := fun ρ => match mi ρ with
  | .ok xs => match dcomp bp mt mk mv (wipeR ρ vs) xs [] with
    | .ok acc => match mi2 (ρ.set x none) with
      | .ok ys => match dloop x bp2 mk2 mv2 ys acc (ρ.set x none) with
        | some (acc', ρ') => if x < ρ.length then .nx (ρ'.set x (some (.sh (dictD acc')))) else .no
        | none => .no
      | _ => .no
    | _ => .no
  | _ => .no
section
variable {K : PySem.W.Frag} {mg : Str → Option Value} {W : WX}
theorem dc_own {wi : TI} {mi : Rho → Res (List D)} {g : TG} {bp : BP} {ts : List Nat} {tt : TT} {mt : Rho → Res Bool} {tk tv : TE} {mk mv : Rho → Res Val} {vs : List Nat} (hi : SndI K mg W wi mi) (hg : SndG K g bp ts) (hts : ∀ t ∈ ts, t ∈ vs)
    (ht : SndT K mg W0 tt mt) (hk : Snd K mg W0 tk mk) (hv : Snd K mg W0 tv mv) {G0 : Bs} {H0 : Hp} {σ : L2.St} {G H : Hp} {ρ : Rho} {Q : VK} (I : EnvS K G0 H0 σ G H ρ) {xs : List D} (exs : mi ρ = .ok xs) {ys : List (Key × D)} (eys : dcomp bp mt mk mv (wipeR ρ vs) xs [] = .ok ys)
    (q : ∀ G' H' p av, Ext G H G' H' → H p = none → G' p = none → H' p = some (.dK av) → FlatA av ys → Q (.ref p) H') : tDc wi g tt tk tv vs σ H Q := by
  refine hi G0 H0 σ G H ρ _ I ?_
  rw [exs]
  intro G1 H1 J e1 hJ
  have hJ : ItS K G1 H1 J xs := hJ
  intro Dl nD
  have hD : H Dl = none := e1.h.free nD
  have gD : G1 Dl = none := e1.s.free nD
  have I1 := (I.ext' e1).wipe vs
  refine ⟨fun i m H2 => ∃ G2 acc av, Ext G1 H1 G2 H2 ∧ G2 Dl = none ∧ H2 Dl = some (.dK av) ∧ FlatA av acc ∧ i ≤ xs.length ∧ m = xs.length - i ∧ dcomp bp mt mk mv (wipeR ρ vs) (xs.drop i) acc = .ok ys,
      ⟨xs.length, G1, [], [], Ext.newO e1.s nD, gD, upd_same, .nil, Nat.zero_le _, rfl, eys⟩, ?_⟩
  rintro i m H2 ⟨G2, acc, av, e2, g2, h2, ka, hi2, rfl, ec⟩
  by_cases hlt : i < xs.length
  · refine .inr ⟨hJ.go i G2 H2 e2.g e2.s hlt, fun H' => ∃ G2 acc av, Ext G1 H1 G2 H' ∧ G2 Dl = none ∧ H' Dl = some (.dK av) ∧ FlatA av acc ∧ dcomp bp mt mk mv (wipeR ρ vs) (xs.drop (i + 1)) acc = .ok ys,
        fun H' ⟨G3, acc3, av3, z1, z2, z3, z4, z5⟩ => ⟨xs.length - (i + 1), by omega, G3, acc3, av3, z1, z2, z3, z4, hlt, rfl, z5⟩, fun x H' y => ?_⟩
    obtain ⟨d, G3, ed, e3, rd⟩ := hJ.yld i G2 H2 x H' e2.g e2.s hlt y
    have hd : xs.drop i = d :: xs.drop (i + 1) := by
      rw [List.drop_eq_getElem_cons hlt]
      congr 1
      rw [List.getElem?_eq_getElem hlt] at ed
      exact Option.some.inj ed
    rw [hd] at ec
    unfold dcomp at ec
    split at ec
    · cases ec
    · rename_i ρ4 eb
      have e13 := e2.trans e3
      refine hg G0 H0 _ G3 H' (wipeR ρ vs) x d ρ4 _ (I1.ext' e13) rd eb fun σ4 I4 oa => ⟨?_, ?_⟩
      · exact (oa vs hts).trans (onlyAt_wipe vs σ vs fun t q => q)
      · split at ec
        · rename_i b et
          refine ht G0 H0 σ4 G3 H' ρ4 _ I4 ?_
          rw [et]
          intro G4 H4 b' e4 eb'
          cases (show b' = b from eb')
          cases b with
          | false =>
            have ne34 := e3.trans e4
            refine iteF ⟨G4, acc, av, e13.trans e4, ?_, ne34.h _ _ h2, ka, ec⟩
            exact ne34.n Dl (by rw [h2]; exact Option.some_ne_none _) g2
          | true =>
            refine iteT (hk G0 H0 σ4 G4 H4 ρ4 _ (I4.ext' e4) ?_)
            have ec : (match mk ρ4 with
              | .ok rk => match keyOf rk with
                | some k => match mv ρ4 with
                  | .ok rv => match flatOf rv with
                    | some x => if acc.length < 100000 ∧ (acc.any fun p => decide (p.1 = k)) = false then dcomp bp mt mk mv (wipeR ρ vs) (xs.drop (i + 1)) (acc ++ [(k, x)]) else .no
                    | none => .no
                  | _ => .no
                | none => .no
              | _ => .no) = .ok ys := ec
            split at ec
            · rename_i rk erk
              rw [erk]
              split at ec
              · rename_i k ek
                split at ec
                · rename_i rv erv
                  split at ec
                  · rename_i x' ex'
                    split at ec
                    · rename_i hl
                      intro G5 H5 y5 e5 r5
                      refine hv G0 H0 σ4 G5 H5 ρ4 _ ((I4.ext' e4).ext' e5) ?_
                      rw [erv]
                      intro G6 H6 v6 e6 r6
                      have e26 := ((e3.trans e4).trans e5).trans e6
                      have g6 : G6 Dl = none := e26.n Dl (by rw [h2]; exact Option.some_ne_none _) g2
                      have hp : putK av k v6 = av ++ [(k, v6)] := by
                        unfold putK
                        rw [if_neg]
                        rw [ka.has k, hl.2]
                        exact Bool.false_ne_true
                      refine ⟨av, k, keyOf_ok r5 ek, e26.h _ _ h2, by rw [ka.len]; exact sz_lt hl.1, G6, acc ++ [(k, x')], av ++ [(k, v6)], ((e2.trans e26).mutN nD g6), g6, by rw [hp]; exact upd_same, ka.push (flatOf_ok r6 ex'), ec⟩
                    · cases ec
                  · cases ec
                · cases ec
              · cases ec
            · cases ec
        · cases ec
  · have e : i = xs.length := by omega
    subst e
    rw [List.drop_length] at ec
    have ec : Res.ok acc = Res.ok ys := ec
    cases ec
    exact .inl ⟨hJ.stop _ G2 H2 e2.g e2.s (Nat.le_refl _), q G2 H2 Dl av (e1.trans e2) hD g2 h2 ka⟩
variable {G0 : Bs} {H0 G H : Hp} {σ : L2.St} {ρ : Rho} {p : Addr} {av : List (Key × V)}
theorem dk_ne {H : Hp} {p q : Addr} {av : List (Key × V)} {vs : List V} (h : H p = some (.dK av)) (g : H q = some (.lst vs)) : q ≠ p := fun z => by
  rw [z, h] at g
  cases g
theorem dk_ni {H : Hp} {p q C dx : Addr} {av : List (Key × V)} {fv : List (Str × V)} (h : H p = some (.dK av)) (g : H q = some (.ins C dx fv)) : q ≠ p := fun z => by
  rw [z, h] at g
  cases g
/-- the dict changes, the slots stand -/
theorem EnvS.mutD (I : EnvS K G0 H0 σ G H ρ) (hp : H p = some (.dK av)) (g : G p = none) (h0 : H0 p = none) (bv : List (Key × V)) : EnvS K G0 H0 σ G (upd H p (.dK bv)) ρ := by
  refine ⟨I.ext.mutN h0 g, I.pin, I.len, fun i r e => ?_, I.apart⟩
  obtain ⟨v, hv, z⟩ := I.slot i r e
  refine ⟨v, hv, ?_⟩
  cases r with
  | sh d => exact z
  | ow xs =>
    obtain ⟨q, vs, a, b, c, d, k⟩ := z
    exact ⟨q, vs, a, by rw [upd_ne (dk_ne hp b)]; exact b, c, d, k⟩
  | bw xs => exact z
  | fz xs => exact z
  | io xs =>
    obtain ⟨q, vs, a, b, c, d, k⟩ := z
    exact ⟨q, vs, a, by rw [upd_ne (dk_ne hp b)]; exact b, c, d, k⟩
  | ob o q C fs => exact ObR.up (fun _ z => z) (fun _ _ z => by rw [upd_ne (dk_ni hp z)]; exact z) (Same.refl _) (fun _ _ _ _ g => g) z
/-- a look at the dict, from where nothing is one's own -/
theorem EnvS.lookD {x : Nat} {ds : List (Key × D)} (I : EnvS K G0 H0 σ G H ρ) (hp : H p = some (.dK av)) (g : G p = none) (hx : σ[x]? = some (some (.ref p))) (ka : FlatA av ds) :
    EnvS K ⟨upd G p (.dK av), 0⟩ H σ (upd G p (.dK av)) H ((keepSh ρ).set x (some (.sh (dictD ds)))) := by
  have s1 : Same G (upd G p (.dK av)) := same_new g
  have s2 : Same (upd G p (.dK av)) H := fun b u z => by
    by_cases e : b = p
    · subst e
      rw [upd_same] at z
      cases z
      exact hp
    · rw [upd_ne e] at z
      exact I.s _ _ z
  have key : ∀ (i : Nat) (r : Val), ((keepSh ρ).set x (some (.sh (dictD ds))))[i]? = some (some r) → ∃ d, r = .sh d ∧ ((i = x ∧ d = dictD ds) ∨ ρ[i]? = some (some (.sh d))) := fun i r e => by
    rcases set_get e with ⟨rfl, e2, _⟩ | ⟨ne, e2⟩
    · cases e2
      exact ⟨_, rfl, .inl ⟨rfl, rfl⟩⟩
    · unfold keepSh at e2
      rw [List.getElem?_map] at e2
      cases er : ρ[i]? with
      | none =>
        rw [er] at e2
        cases e2
      | some o =>
        rw [er] at e2
        cases o with
        | none => cases e2
        | some s =>
          cases s with
          | sh d =>
            cases e2
            exact ⟨d, rfl, .inr rfl⟩
          | ow _ => cases e2
          | bw _ => cases e2
          | fz _ => cases e2
          | io _ => cases e2
          | ob _ _ _ _ => cases e2
  refine ⟨Ext.refl s2, fun i xs e => ?_, ?_, fun i r e => ?_, fun i j q r s e1 e2 o1 o2 _ _ => ?_⟩
  · obtain ⟨d, z, _⟩ := key i _ e
    cases z
  · rw [List.length_set]
    unfold keepSh
    rw [List.length_map]
    exact I.len
  · obtain ⟨d, rfl, ⟨rfl, rfl⟩ | z⟩ := key i r e
    · exact ⟨_, hx, show Rp K _ (.ref p) (dictD ds) from .dct upd_same ka.kv⟩
    · obtain ⟨v, hv, k⟩ := I.slot i _ z
      exact ⟨v, hv, Rp.mono s1 k⟩
  · obtain ⟨d, rfl, _⟩ := key i r e1
    cases o1
theorem back_ext {G' H' : Hp} (s : Same G H) (s1 : Same G (upd G p (.dK av))) (e : Ext (upd G p (.dK av)) H G' H') : Ext G H G H' :=
  ⟨e.h, Same.refl _, s.trans e.h, fun _ _ g => g⟩
theorem dstep_inv {x : Nat} {mk mv : Rho → Res Val} {acc acc' : List (Key × D)} (h : dstep x mk mv acc ρ = some acc') : ∃ rv d rk k, mv ((keepSh ρ).set x (some (.sh (dictD acc)))) = .ok rv ∧ flatOf rv = some d ∧ mk ((keepSh ρ).set x (some (.sh (dictD acc)))) = .ok rk ∧ keyOf rk = some k ∧ acc.length < 100000 ∧ acc' = putA acc k d := by
  unfold dstep at h
  split at h
  · rename_i rv e1
    split at h
    · rename_i d e2
      split at h
      · rename_i rk e3
        split at h
        · rename_i k e4
          split at h
          · rename_i hl
            cases h
            exact ⟨rv, d, rk, k, e1, e2, e3, e4, hl, rfl⟩
          · cases h
        · cases h
      · cases h
    · cases h
  · cases h
theorem dput_run {x : Nat} {tk tv : TE} {mk mv : Rho → Res Val} (hk : Snd K mg W tk mk) (hv : Snd K mg W tv mv) {acc acc' : List (Key × D)} (I : EnvS K G0 H0 σ G H ρ) (hp : H p = some (.dK av)) (g : G p = none) (h0 : H0 p = none) (hx : σ[x]? = some (some (.ref p))) (ka : FlatA av acc) (h : dstep x mk mv acc ρ = some acc') {D : Ends}
    (q : ∀ H' av', EnvS K G0 H0 σ G H' ρ → H' p = some (.dK av') → FlatA av' acc' → D.nx σ H') : sDPut (tVar x) tk tv D σ H := by
  obtain ⟨rv, d, rk, k, e1, e2, e3, e4, hl, rfl⟩ := dstep_inv h
  have J := I.lookD hp g hx ka
  refine hv _ _ σ _ H _ _ J ?_
  rw [e1]
  intro G1 H1 v x1 r1
  have f1 := flatOf_ok r1 e2
  have y1 : Ext G H G H1 := back_ext I.s (same_new g) x1
  refine ⟨.ref p, hx, ?_⟩
  have hp1 : H1 p = some (.dK av) := x1.h _ _ hp
  have J1 := (I.ext' y1).lookD hp1 g hx ka
  refine hk _ _ σ _ H1 _ _ J1 ?_
  rw [e3]
  intro G2 H2 y x2 r2
  have y2 : Ext G H1 G H2 := back_ext y1.s (same_new g) x2
  have hp2 : H2 p = some (.dK av) := x2.h _ _ hp1
  refine ⟨p, _, rfl, ?_, q _ (putK av k v) (((I.ext' y1).ext' y2).mutD hp2 g h0 _) upd_same (ka.put k f1)⟩
  rw [keyOf_ok r2 e4]
  exact DPut.k hp2 (by rw [ka.len]; exact sz_lt hl)
theorem onlyAt_get {ts : List Nat} {σ σ' : L2.St} {x : Nat} (h : OnlyAt ts σ σ') (hx : x ∉ ts) (hs : σ[x]? = some (some (.ref p))) : σ'[x]? = some (some (.ref p)) := by
  have e := h ts fun _ z => z
  have key : ∀ (us : List Nat) (τ : L2.St), x ∉ us → (wipe τ us)[x]? = τ[x]? := fun us => by
    induction us with
    | nil => exact fun _ _ => rfl
    | cons u us ih =>
      intro τ hu
      show ((wipe τ us).set u none)[x]? = _
      rw [List.getElem?_set, if_neg (fun z => hu (by rw [z]; exact List.mem_cons_self))]
      exact ih τ fun z => hu (List.mem_cons_of_mem _ z)
  rw [← key ts σ' hx, e, key ts σ hx]
  exact hs
/-- the dict becomes shared -/
theorem EnvS.shD {x : Nat} {ds : List (Key × D)} (I : EnvS K G0 H0 σ G H ρ) (hp : H p = some (.dK av)) (g : G p = none) (h0 : H0 p = none) (hx : σ[x]? = some (some (.ref p))) (ka : FlatA av ds) :
    EnvS K G0 H0 σ (upd G p (.dK av)) H (ρ.set x (some (.sh (dictD ds)))) := by
  have s1 : Same G (upd G p (.dK av)) := same_new g
  refine ⟨I.ext.frz hp h0 g, fun i xs e => ?_, by rw [List.length_set]; exact I.len, fun i r e => ?_, fun i j q r s e1 e2 o1 o2 s1 s2 => ?_⟩
  · rcases set_get e with ⟨_, e2, _⟩ | ⟨_, e2⟩
    · cases e2
    · exact I.pin i xs e2
  · rcases set_get e with ⟨rfl, e2, _⟩ | ⟨_, e2⟩
    · cases e2
      exact ⟨_, hx, show Rp K _ (.ref p) (dictD ds) from .dct upd_same ka.kv⟩
    · obtain ⟨v, hv, z⟩ := I.slot i r e2
      refine ⟨v, hv, ?_⟩
      cases r with
      | sh d => exact Rp.mono s1 z
      | ow xs =>
        obtain ⟨q, vs, a, b, c, d, k⟩ := z
        exact ⟨q, vs, a, b, by rw [upd_ne (dk_ne hp b)]; exact c, d, k.mono s1⟩
      | bw xs =>
        obtain ⟨q, vs, a, b, k⟩ := z
        exact ⟨q, vs, a, b, k.mono s1⟩
      | fz xs =>
        obtain ⟨q, vs, a, b, k⟩ := z
        exact ⟨q, vs, a, s1.seq b, k.mono s1⟩
      | io xs =>
        obtain ⟨q, vs, a, b, c, d, k⟩ := z
        exact ⟨q, vs, a, b, by rw [upd_ne (dk_ne hp b)]; exact c, d, k.mono s1⟩
      | ob o q C fs => exact ObR.up (fun _ z => z) (fun _ _ z => z) s1 (fun _ _ _ z g => by rw [upd_ne (dk_ni hp z)]; exact g) z
  · rcases set_get e1 with ⟨_, e3, _⟩ | ⟨_, e3⟩
    · cases e3
      cases o1
    · rcases set_get e2 with ⟨_, e4, _⟩ | ⟨_, e4⟩
      · cases e4
        cases o2
      · exact I.apart i j q r s e3 e4 o1 o2 s1 s2
theorem snd_dl {x : Nat} {wi wi2 : TI} {mi mi2 : Rho → Res (List D)} {g g2 : TG} {bp bp2 : BP} {ts ts2 : List Nat} {tt : TT} {mt : Rho → Res Bool} {tk tv tk2 tv2 : TE} {mk mv mk2 mv2 : Rho → Res Val} {vs : List Nat} (hi : SndI K mg W wi mi) (hg : SndG K g bp ts) (hts : ∀ t ∈ ts, t ∈ vs)
    (ht : SndT K mg W0 tt mt) (hk : Snd K mg W0 tk mk) (hv : Snd K mg W0 tv mv) (hi2 : SndI K mg W wi2 mi2) (hg2 : SndG K g2 bp2 ts2) (hx : x ∉ ts2) (hk2 : Snd K mg W tk2 mk2) (hv2 : Snd K mg W tv2 mv2) :
    SndS K mg W (tSeq (tAsg (tDc wi g tt tk tv vs) (gName x)) (tFor wi2 g2 (sDPut (tVar x) tk2 tv2))) (mDL x mi bp mt mk mv vs mi2 bp2 mk2 mv2) := by
  intro G0 H0 σ G H ρ D I q
  unfold mDL at q
  split at q
  · rename_i xs exs
    split at q
    · rename_i acc eacc
      split at q
      · rename_i ys eys
        split at q
        · rename_i acc' ρ' el
          split at q
          · rename_i hlen
            show tDc wi g tt tk tv vs σ H (fun v H1 => tFor wi2 g2 (sDPut (tVar x) tk2 tv2) D (σ.set x (some v)) H1)
            refine dc_own hi hg hts ht hk hv I exs eacc fun G1 H1 p av e1 hp0 g1 hp1 ka => ?_
            show tFor wi2 g2 (sDPut (tVar x) tk2 tv2) D (σ.set x (some (.ref p))) H1
            have h0 : H0 p = none := I.ext.h.free hp0
            have I1 : EnvS K G0 H0 (σ.set x (some (.ref p))) G1 H1 (ρ.set x none) := (I.ext' e1).drop x (some (.ref p))
            have hx1 : (σ.set x (some (V.ref p)))[x]? = some (some (.ref p)) := by
              rw [List.getElem?_set, if_pos rfl, if_pos (by rw [I.len]; exact hlen)]
            refine hi2 G0 H0 _ G1 H1 _ _ I1 ?_
            rw [eys]
            intro G2 H2 J e2 hJ
            have hJ : ItS K G2 H2 J ys := hJ
            have ne2 : H1 p ≠ none := by rw [hp1]; exact Option.some_ne_none _
            refine ⟨fun i m σ' H' => ∃ G3 ρ3 acc3 av3, EnvS K G0 H0 σ' G3 H' ρ3 ∧ Same G2 G3 ∧ G3 p = none ∧ H' p = some (.dK av3) ∧ FlatA av3 acc3 ∧ σ'[x]? = some (some (.ref p)) ∧ i ≤ ys.length ∧ m = ys.length - i ∧ dloop x bp2 mk2 mv2 (ys.drop i) acc3 ρ3 = some (acc', ρ'),
              ⟨ys.length, G2, _, acc, av, I1.ext' e2, Same.refl _, e2.n p ne2 g1, e2.h _ _ hp1, ka, hx1, Nat.zero_le _, rfl, el⟩, ?_⟩
            rintro i m σ' H' ⟨G3, ρ3, acc3, av3, I3, s3, g3, hp3, ka3, hx3, hi3, rfl, el3⟩
            by_cases hlt : i < ys.length
            · refine .inr ⟨hJ.go i G3 H' s3 I3.s hlt, fun σ' H' => ∃ G3 ρ3 acc3 av3, EnvS K G0 H0 σ' G3 H' ρ3 ∧ Same G2 G3 ∧ G3 p = none ∧ H' p = some (.dK av3) ∧ FlatA av3 acc3 ∧ σ'[x]? = some (some (.ref p)) ∧ dloop x bp2 mk2 mv2 (ys.drop (i + 1)) acc3 ρ3 = some (acc', ρ'),
                fun σ' H' ⟨G4, ρ4, acc4, av4, z1, z2, z3, z4, z5, z6, z7⟩ => ⟨ys.length - (i + 1), by omega, G4, ρ4, acc4, av4, z1, z2, z3, z4, z5, z6, hlt, rfl, z7⟩, fun y H'' hy => ?_⟩
              obtain ⟨d, G4, ed, e4, rd⟩ := hJ.yld i G3 H' y H'' s3 I3.s hlt hy
              have I4 := I3.ext' e4
              have hd : ys.drop i = d :: ys.drop (i + 1) := by
                rw [List.drop_eq_getElem_cons hlt]
                congr 1
                rw [List.getElem?_eq_getElem hlt] at ed
                exact Option.some.inj ed
              rw [hd] at el3
              unfold dloop at el3
              split at el3
              · cases el3
              · rename_i ρ5 eb
                split at el3
                · cases el3
                · rename_i acc5 es
                  have ne3 : H' p ≠ none := by rw [hp3]; exact Option.some_ne_none _
                  have g4 : G4 p = none := e4.n p ne3 g3
                  refine hg2 G0 H0 σ' G4 H'' ρ3 y d ρ5 _ I4 rd eb fun σ5 I5 oa => ?_
                  have hx5 := onlyAt_get oa hx hx3
                  refine dput_run hk2 hv2 I5 (e4.h _ _ hp3) g4 h0 hx5 ka3 es fun H6 av6 I6 hp6 ka6 => ?_
                  exact ⟨G4, ρ5, acc5, av6, I6, s3.trans e4.g, g4, hp6, ka6, hx5, el3⟩
            · have e : i = ys.length := by omega
              subst e
              rw [List.drop_length] at el3
              have el3 : some (acc3, ρ3) = some (acc', ρ') := el3
              cases el3
              refine .inl ⟨hJ.stop _ G3 H' s3 I3.s (Nat.le_refl _), ?_⟩
              have I6 := I3.shD hp3 g3 h0 hx3 ka3
              exact q σ' _ H' I6 (e1.g.trans (e2.g.trans (s3.trans (same_new g3))))
          · exact q.elim
        · exact q.elim
      · exact q.elim
    · exact q.elim
  · exact q.elim
end
section
variable {X : Cx} {W : WX} {kx vx tg iter : Expr} {ifs : List Expr} {scope : Scope} {pos : Pos} {wi : TI} {mi : Rho → Res (List D)} {g : TG} {bp : BP} {ts : List Nat} {tt : TT} {mt : Rho → Res Bool} {tk tv : TE} {mk mv : Rho → Res Val}
theorem pmss_dl (x : Nat) (own : List (Str × Nat)) {y : Str} {py spos : Pos} (hc : X.calm = true) (hN : X.N.Nodup) (hy : X.N[x]? = some y) (hyl : X.env.scope.names.lookup y = some .local)
    (hsw : swapsWith (.DictComp kx vx [⟨tg, iter, ifs, 0⟩] scope pos) (some (.Name y py)) spos.line X.env = pure true) (hi : PMI X W tg iter wi mi) (ok : BlkOk X.N X.env.scope scope own) (hts : ∀ t ∈ ts, t ∈ own.map (·.2))
    (hg : ∀ (s : Shared) (H : Hp) (C : Addr) (cl : List (Str × Addr)) (fp : List Addr), PMG (X.blk s H scope (compEnvC scope cl C X.env) fp) tg g bp ts)
    (ht : ∀ (s : Shared) (H : Hp) (C : Addr) (cl : List (Str × Addr)) (fp : List Addr), PMTs (X.blk s H scope (compEnvC scope cl C X.env) fp) W0 ifs tt mt)
    (hk : ∀ (s : Shared) (H : Hp) (C : Addr) (cl : List (Str × Addr)) (fp : List Addr), PM (X.blk s H scope (compEnvC scope cl C X.env) fp) W0 kx tk mk)
    (hv : ∀ (s : Shared) (H : Hp) (C : Addr) (cl : List (Str × Addr)) (fp : List Addr), PM (X.blk s H scope (compEnvC scope cl C X.env) fp) W0 vx tv mv)
    {tg2 iter2 i value : Expr} {pos2 p2 p3 p4 : Pos} {rest : List Stmt} {wi2 : TI} {mi2 : Rho → Res (List D)} {g2 : TG} {bp2 : BP} {ts2 : List Nat} {tk2 tv2 : TE} {mk2 mv2 : Rho → Res Val} {u : TS} {b : Rho → Out}
    (hp : PassesOwn (model X.prog X.w) X.A X.env X.xe) (hu : X.A.units + 64 < cLine) (hi2 : PMI X W tg2 iter2 wi2 mi2) (hg2 : PMG X tg2 g2 bp2 ts2) (hx : x ∉ ts2) (hk2 : PM X W i tk2 mk2) (hv2 : PM X W value tv2 mv2) (hr : PMSs X W rest u b)
    (hs : ∀ x, foldedSetIterable iter X.env x = pure x := by intro _; rfl) (hs2 : ∀ x, foldedSetIterable iter2 X.env x = pure x := by intro _; rfl) (hw : swapsWith value (some (.Subscript (.Name y p4) i p2)) p3.line X.env = pure false := by rfl)
    (hvi : Vis X.env.scope y := by first | exact Or.inl rfl | exact Or.inr (Or.inl rfl) | exact Or.inr (Or.inr rfl)) (hd : (y == ("__debug__" : Str)) = false := by decide) (hcd : (y == ("__classdict__" : Str)) = false := by decide) :
    PMSs X W (.Assign [.Name y py] (.DictComp kx vx [⟨tg, iter, ifs, 0⟩] scope pos) spos :: .For tg2 iter2 [.Assign [.Subscript (.Name y p4) i p2] value p3] [] pos2 :: rest) (tSeq (tAsg (tDc wi g tt tk tv (own.map (·.2))) (gName x)) (tSeq (tFor wi2 g2 (sDPut (tVar x) tk2 tv2)) u))
      (mSeq (mDL x mi bp mt mk mv (own.map (·.2)) mi2 bp2 mk2 mv2) b) := by
  have S : SndS X.K X.mg W (tSeq (tAsg (tDc wi g tt tk tv (own.map (·.2))) (gName x)) (tFor wi2 g2 (sDPut (tVar x) tk2 tv2))) (mDL x mi bp mt mk mv (own.map (·.2)) mi2 bp2 mk2 mv2) :=
    snd_dl hi.s (hg X.s_0 X.H_0 0 [] []).s hts (ht X.s_0 X.H_0 0 [] []).s (hk X.s_0 X.H_0 0 [] []).s (hv X.s_0 X.H_0 0 [] []).s hi2.s hg2.s hx hk2.s hv2.s
  have T := snd_seq S hr.s
  exact ⟨pss_cons (pms_setDc x own hc hN hy hyl hsw hi ok hts hg ht hk hv hs).p (pss_cons (ps_for hp hc hi2.p hg2.p (pss_one (ps_dput (by omega) (pe_var hy hvi hd hcd) hk2.p hv2.p hw)) hs2) hr.p), T⟩
end
end Mi

/-! Calls that borrow their lists; a suite that ends the def, seen from where nothing is shared yet: what it makes is new. -/
namespace Mi
open PySem PySem.Spec PyProof.Rows L2

/-! ### a call that borrows -/
def pasB : Val → Val
  | .sh d => .sh d
  | .ow xs => .bw xs
  | .bw xs => .bw xs
  | .fz xs => .fz xs
  | .io xs => .bw xs
  | .ob _ p C fs => .ob false p C fs
def mDefB (M : List Val → Res Val) (mr : Rho → Res (List Val)) : Rho → Res Val := fun ρ => (mr ρ).bind fun as => M (as.map pasB)
theorem pasB_arg (as : List Val) : (as.map pasB).all isArg = true := by
  rw [List.all_map, List.all_eq_true]
  intro r _
  cases r <;> rfl
theorem pasB_vr {K : PySem.W.Frag} {B G H : Hp} {v : V} {r : Val} (h : VR K B G H v r) : VR K H G H v (pasB r) := by
  cases r with
  | sh d => exact h
  | ow xs =>
    obtain ⟨p, vs, a, b, _, _, k⟩ := h
    exact ⟨p, vs, a, b, k⟩
  | bw xs => exact h
  | fz xs => exact h
  | io xs => exact h
  | ob o p C fs =>
    obtain ⟨dx, fv, a, b, _, e, k⟩ := h
    exact ⟨dx, fv, a, b, (fun z => nomatch z), e, k⟩
theorem pasB_all {K : PySem.W.Frag} {B G H : Hp} : ∀ {as : List Val} {vs : List V}, VRs K B G H vs as → VRs K H G H vs (as.map pasB)
  | [], _, .nil => .nil
  | _ :: _, _, .cons h t => .cons (pasB_vr h) (pasB_all t)
theorem snd_defB {K : PySem.W.Frag} {mg : Str → Option Value} {W : WX} {n : Nat} {M : List Val → Res Val} {ta : TA} {ma : Rho → Res (List Val)} (hn : ∀ ρ as, ma ρ = .ok as → as.length = n) (ha : SndA K mg W ta ma) : Snd K mg W (tCallS (spM K mg n M) (WE W) ta) (mDefB M ma) := by
  intro G0 H0 σ G H ρ Q I h
  refine ha G0 H0 σ G H ρ _ I (RR.bnd (Ext.refl I.s) h fun as G1 H1 vs ea e1 r1 h1 => ?_)
  have r1 : VRs K H G1 H1 vs as := r1
  refine ⟨G1, as.map pasB, e1.s, pasB_all r1, pasB_arg as, r1.len.trans (hn ρ as ea), ?_⟩
  cases em : M (as.map pasB) with
  | no =>
    rw [em] at h1
    exact h1.elim
  | ok r =>
    rw [em] at h1
    exact fun G' H' v e z => h1 G' H' v (e1.trans e) (z.back e1.h)
  | ex x fs =>
    rw [em] at h1
    exact fun G' H' C d e a b => h1 G' H' C d (e1.trans e) a b
theorem pm_defBK {X : Cx} {K : PySem.W.Frag} {W : WX} {e : Expr} {es : List Expr} {pos p : Pos} {k n : Nat} {P : Program} {w : World} {mg : Str → Option Value} {base : Heap} {f : Addr} {fd : FuncData} {ps : List Str} {M : List Val → Res Val} {x : Str} {tr : TA} {mr : Rho → Res (List Val)} (F : FnG P w K mg base k f fd ps (spM K mg n M)) (gd : X.A.guards = some []) (hr : Room k X.A) (gm : mg x = some (.ref f)) (kp : PySem.W.keepIn K (.ref f) = true) (hb : Binds K fd ps [])
    (hx : ∀ σ, PassesAt (L2.CX X.prog X.w) X σ (WE W σ)) (ha : PMA X W (e :: es) tr mr) (hn : ∀ ρ as, mr ρ = .ok as → as.length = n) (gl : Gl X x := by rfl) (h1 : X.prog = P := by rfl) (h2 : X.w = w := by rfl) (h3 : X.K = K := by rfl) (h4 : X.mg = mg := by rfl) (h5 : X.base = base := by rfl)
    (db : (x == ("__debug__" : Str)) = false := by decide) (st : starEach (e :: es) X.env = (false, eval e X.env) :: starEach es X.env := by rfl) (pl : (backTo pos (starEach es X.env)).any (·.1) = false := by rfl) :
    PM X W (.Call (.Name x p) (e :: es) [] pos) (tCallS (spM K mg n M) (WE W) tr) (mDefB M mr) := by
  subst h1 h2 h3 h4 h5
  exact ⟨(pm_def F gd hr gm kp hb hx ha hn gl db st pl).p, snd_defB hn ha.s⟩

/-! ### a flat value, seen from where a borrowed list is shared -/
def mLook (i : Nat) (me : Rho → Res Val) : Rho → Res Val := fun ρ => match ρ[i]? with
  | some (some (.bw xs)) => (match me ((keepSh ρ).set i (some (.sh (.list xs)))) with
    | .ok (.sh d) => if flatD d = true then .ok (.sh d) else .no
    | .ok (.ow ys) => if ys.all flatD = true then .ok (.ow ys) else .no
    | _ => .no)
  | _ => me ρ
theorem EnvS.lookB {K : PySem.W.Frag} {G0 : Bs} {H0 G H : Hp} {σ : L2.St} {ρ : Rho} {i : Nat} {xs : List D} {p : Addr} {vs : List V} (I : EnvS K G0 H0 σ G H ρ) (hx : σ[i]? = some (some (.ref p))) (hp : H p = some (.lst vs)) (k : RpA K G vs xs) :
    ∃ G1, Same G G1 ∧ EnvS K ⟨G1, 0⟩ H σ G1 H ((keepSh ρ).set i (some (.sh (.list xs)))) := by
  obtain ⟨G1, a1, a2, a3, _⟩ := cell_in I.s hp k
  have key : ∀ (j : Nat) (r : Val), ((keepSh ρ).set i (some (.sh (.list xs))))[j]? = some (some r) → ∃ d, r = .sh d ∧ ((j = i ∧ d = .list xs) ∨ ρ[j]? = some (some (.sh d))) := fun j r e => by
    rcases set_get e with ⟨rfl, e2, _⟩ | ⟨ne, e2⟩
    · cases e2
      exact ⟨_, rfl, .inl ⟨rfl, rfl⟩⟩
    · unfold keepSh at e2
      rw [List.getElem?_map] at e2
      cases er : ρ[j]? with
      | none =>
        rw [er] at e2
        cases e2
      | some o =>
        rw [er] at e2
        cases o with
        | none => cases e2
        | some s =>
          cases s with
          | sh d =>
            cases e2
            exact ⟨d, rfl, .inr rfl⟩
          | ow _ => cases e2
          | bw _ => cases e2
          | fz _ => cases e2
          | io _ => cases e2
          | ob _ _ _ _ => cases e2
  refine ⟨G1, a1, Ext.refl a2, fun j ys e => ?_, ?_, fun j r e => ?_, fun j l q r s e1 e2 o1 o2 _ _ => ?_⟩
  · obtain ⟨d, z, _⟩ := key j _ e
    cases z
  · rw [List.length_set]
    unfold keepSh
    rw [List.length_map]
    exact I.len
  · obtain ⟨d, rfl, ⟨rfl, rfl⟩ | z⟩ := key j r e
    · exact ⟨_, hx, a3⟩
    · obtain ⟨v, hv, k⟩ := I.slot j _ z
      exact ⟨v, hv, Rp.mono a1 k⟩
  · obtain ⟨d, rfl, _⟩ := key j r e1
    cases o1
theorem snd_look {K : PySem.W.Frag} {mg : Str → Option Value} {W : WX} {te : TE} {me : Rho → Res Val} (i : Nat) (h : Snd K mg W te me) : Snd K mg W te (mLook i me) := by
  intro G0 H0 σ G H ρ Q I q
  unfold mLook at q
  split at q
  · rename_i xs e
    obtain ⟨v, hv, p, vs, rfl, hp0, k⟩ := I.slot i _ e
    obtain ⟨G1, s1, J⟩ := I.lookB hv (I.ext.h _ _ hp0) k
    refine h _ _ σ G1 H _ _ J ?_
    split at q
    · rename_i d em
      split at q
      · rename_i f
        rw [em]
        intro G' H' v' x z
        exact q G H' v' ⟨x.h, Same.refl _, I.s.trans x.h, fun _ _ g => g⟩ (flat_rp f z)
      · exact q.elim
    · rename_i ys em
      split at q
      · rename_i f
        rw [em]
        intro G' H' v' x z
        obtain ⟨c, us, rfl, b, _, d, kk⟩ := z
        exact q G H' _ ⟨x.h, Same.refl _, I.s.trans x.h, fun _ _ g => g⟩ ⟨c, us, rfl, b, I.s.free d, d, flat_rpa f kk⟩
      · exact q.elim
    · exact q.elim
  · exact h G0 H0 σ G H ρ Q I q
theorem pm_look {X : Cx} {W : WX} {e : Expr} {te : TE} {me : Rho → Res Val} (i : Nat) (h : PM X W e te me) : PM X W e te (mLook i me) := ⟨h.p, snd_look i h.s⟩

/-! ### the end of a def, where nothing is shared yet -/
def SndZ (K : PySem.W.Frag) (mg : Str → Option Value) (W : WX) (ts : TS) (ms : Rho → Out) : Prop :=
  ∀ (q : Addr) (H0 : Hp) (σ : L2.St) (G H : Hp) (ρ : Rho) (D : Ends), EnvS K ⟨hp0, q⟩ H0 σ G H ρ → OutR K mg W ⟨hp0, q⟩ H0 G D (ms ρ) → ts D σ H
structure PMZs (X : Cx) (W : WX) (st : List Stmt) (ts : TS) (ms : Rho → Out) : Prop where
  p : PSs X st ts
  s : SndZ X.K X.mg W ts ms
/-- lists of flat data are borrowed, flat data stand, the rest is forgotten -/
def bwZ : Option Val → Option Val
  | some (.ow xs) => if xs.all flatD = true then some (.bw xs) else none
  | some (.io xs) => if xs.all flatD = true then some (.bw xs) else none
  | some (.sh (.list xs)) => if xs.all flatD = true then some (.bw xs) else none
  | some (.sh d) => if flatD d = true then some (.sh d) else none
  | _ => none
def bwAll (ρ : Rho) : Rho := ρ.map bwZ
def rtZ : Out → Out
  | .rt (.sh d) => if flatD d = true then .rt (.sh d) else .no
  | _ => .no
def mTail (ms : Rho → Out) : Rho → Out := fun ρ => rtZ (ms (bwAll ρ))
section
variable {K : PySem.W.Frag} {mg : Str → Option Value} {W : WX} {G0 : Bs} {H0 G H : Hp} {σ : L2.St} {ρ : Rho} {t u : TS} {a b : Rho → Out}
theorem SndS.z (h : SndS K mg W t a) : SndZ K mg W t a := fun q H0 σ G H ρ D I o => h _ H0 σ G H ρ D I o
theorem bwZ_inv {j : Nat} {r : Val} (h : (bwAll ρ)[j]? = some (some r)) : (∃ xs, r = .bw xs ∧ xs.all flatD = true ∧ (ρ[j]? = some (some (.ow xs)) ∨ ρ[j]? = some (some (.io xs)) ∨ ρ[j]? = some (some (.sh (.list xs))))) ∨ ∃ d, r = .sh d ∧ flatD d = true ∧ ρ[j]? = some (some (.sh d)) := by
  unfold bwAll at h
  rw [List.getElem?_map] at h
  cases e : ρ[j]? with
  | none =>
    rw [e] at h
    cases h
  | some o =>
    rw [e] at h
    have h : bwZ o = some r := Option.some.inj h
    unfold bwZ at h
    split at h
    · split at h
      · rename_i f
        cases h
        exact .inl ⟨_, rfl, f, .inl rfl⟩
      · cases h
    · split at h
      · rename_i f
        cases h
        exact .inl ⟨_, rfl, f, .inr (.inl rfl)⟩
      · cases h
    · split at h
      · rename_i f
        cases h
        exact .inl ⟨_, rfl, f, .inr (.inr rfl)⟩
      · cases h
    · split at h
      · rename_i f
        cases h
        exact .inr ⟨_, rfl, f, rfl⟩
      · cases h
    · cases h
theorem EnvS.tail (I : EnvS K G0 H0 σ G H ρ) : EnvS K ⟨hp0, 0⟩ H σ hp0 H (bwAll ρ) := by
  have s0 : Same hp0 H := fun _ _ z => nomatch z
  refine ⟨Ext.refl s0, fun i xs e => ?_, ?_, fun i r e => ?_, fun i j q r s e1 e2 o1 o2 _ _ => ?_⟩
  · rcases bwZ_inv e with ⟨_, z, _⟩ | ⟨_, z, _⟩ <;> cases z
  · unfold bwAll
    rw [List.length_map]
    exact I.len
  · rcases bwZ_inv e with ⟨xs, rfl, f, z | z | z⟩ | ⟨d, rfl, f, z⟩
    · obtain ⟨v, hv, p, vs, a, b, _, _, k⟩ := I.slot i _ z
      exact ⟨v, hv, p, vs, a, b, flat_rpa f k⟩
    · obtain ⟨v, hv, p, vs, a, b, _, _, k⟩ := I.slot i _ z
      exact ⟨v, hv, p, vs, a, b, flat_rpa f k⟩
    · obtain ⟨v, hv, k⟩ := I.slot i _ z
      cases (show Rp K G v (.list xs) from k) with
      | lst ha ka => exact ⟨_, hv, _, _, rfl, I.s _ _ ha, flat_rpa f ka⟩
    · obtain ⟨v, hv, k⟩ := I.slot i _ z
      exact ⟨v, hv, flat_rp f k⟩
  · rcases bwZ_inv e1 with ⟨_, rfl, _⟩ | ⟨_, rfl, _⟩ <;> cases o1
theorem snd_tail (h : SndZ K mg W t a) : SndS K mg W t (mTail a) := by
  intro G0 H0 σ G H ρ D I q
  refine h 0 H σ hp0 H (bwAll ρ) D I.tail ?_
  unfold mTail rtZ at q
  split at q
  · rename_i d e
    split at q
    · rename_i f
      rw [e]
      intro G' H' v x z
      exact q G H' v (I.ext.trans ⟨x.h, Same.refl _, I.s.trans x.h, fun _ _ g => g⟩) (flat_rp f z)
    · exact q.elim
  · exact q.elim
theorem sndZ_seq (ha : SndS K mg W t a) (hb : SndZ K mg W u b) : SndZ K mg W (tSeq t u) (mSeq a b) := by
  intro q0 H0 σ G H ρ D I q
  refine ha ⟨hp0, q0⟩ H0 σ G H ρ _ I ?_
  unfold mSeq at q
  cases ea : a ρ with
  | nx ρ' =>
    rw [ea] at q
    exact fun σ' G' H' I' s' => hb q0 H0 σ' G' H' ρ' D I' (OutR.up s' q)
  | rt r =>
    rw [ea] at q
    exact q
  | rx r ρ' =>
    rw [ea] at q
    exact q
  | bk ρ' =>
    rw [ea] at q
    exact q
  | ct ρ' =>
    rw [ea] at q
    exact q
  | ex n fs ρ' =>
    rw [ea] at q
    exact q
  | no =>
    rw [ea] at q
    exact q.elim
theorem sndZ_frz {i : Nat} (ha : SndZ K mg W t a) : SndZ K mg W t (mFrz i a) := by
  intro q0 H0 σ G H ρ D I q
  obtain ⟨G', I', s'⟩ := I.frz i
  exact ha q0 H0 σ G' H _ D I' (OutR.up s' q)
/-- what does not hang on new data -/
def keepZ : Option Val → Option Val
  | some (.bw xs) => if xs.all flatD = true then some (.bw xs) else none
  | some (.sh d) => if flatD d = true then some (.sh d) else none
  | _ => none
def rtO : Out → Out
  | .rt r => .rt r
  | _ => .no
def zApp2 (i j : Nat) (ms : Rho → Out) : Rho → Out := fun ρ => match ρ[i]?, ρ[j]? with
  | some (some (.sh (.list (.list ys :: ds)))), some (some (.sh (.list zs))) => if ys.length < 99999 ∧ zs.length < 99998 then rtO (ms (ρ.map keepZ)) else .no
  | _, _ => .no
theorem keepZ_inv {j : Nat} {r : Val} (h : (ρ.map keepZ)[j]? = some (some r)) : (∃ xs, r = .bw xs ∧ xs.all flatD = true ∧ ρ[j]? = some (some (.bw xs))) ∨ ∃ d, r = .sh d ∧ flatD d = true ∧ ρ[j]? = some (some (.sh d)) := by
  rw [List.getElem?_map] at h
  cases e : ρ[j]? with
  | none =>
    rw [e] at h
    cases h
  | some o =>
    rw [e] at h
    have h : keepZ o = some r := Option.some.inj h
    unfold keepZ at h
    split at h
    · split at h
      · rename_i f
        cases h
        exact .inl ⟨_, rfl, f, rfl⟩
      · cases h
    · split at h
      · rename_i f
        cases h
        exact .inr ⟨_, rfl, f, rfl⟩
      · cases h
    · cases h
theorem EnvS.outZ {q : Addr} {H' : Hp} (I : EnvS K ⟨hp0, q⟩ H0 σ G H ρ) (s : Same H0 H') : EnvS K ⟨hp0, q⟩ H0 σ hp0 H' (ρ.map keepZ) := by
  refine ⟨⟨s, Same.refl _, fun _ _ z => (by cases z), fun _ _ z => z⟩, fun i xs e => ?_, ?_, fun i r e => ?_, fun i j q r s e1 e2 o1 o2 _ _ => ?_⟩
  · rcases keepZ_inv e with ⟨_, z, _⟩ | ⟨_, z, _⟩ <;> cases z
  · rw [List.length_map]
    exact I.len
  · rcases keepZ_inv e with ⟨xs, rfl, f, z⟩ | ⟨d, rfl, f, z⟩
    · obtain ⟨v, hv, p, vs, a, b, k⟩ := I.slot i _ z
      exact ⟨v, hv, p, vs, a, b, flat_rpa f k⟩
    · obtain ⟨v, hv, k⟩ := I.slot i _ z
      exact ⟨v, hv, flat_rp f k⟩
  · rcases keepZ_inv e1 with ⟨_, rfl, _⟩ | ⟨_, rfl, _⟩ <;> cases o1
/-- x[0].append(c), y.append(c') of new data, and then no more of them -/
def tAppZ (K : PySem.W.Frag) (i j : Nat) (v w : V) : TS := tSeq (tDrop (tBM K "list" rAppend (tOp (rIx K) (tVar i) (tC (.int 0))) (tCons (tC v) tNil))) (tDrop (tBM K "list" rAppend (tVar j) (tCons (tC w) tNil)))
theorem sndZ_app2 {i j : Nat} {v0 w0 : V} (hr : SndZ K mg W u b) : SndZ K mg W (tSeq (tAppZ K i j v0 w0) u) (zApp2 i j b) := by
  intro q0 H0 σ G H ρ D I q
  unfold zApp2 at q
  split at q
  · rename_i ys ds zs e1 e2
    split at q
    · rename_i hl
      obtain ⟨v, hv, hd⟩ := I.slot i _ e1
      obtain ⟨w, hw, hz⟩ := I.slot j _ e2
      have new : ∀ p, G p ≠ none → H0 p = none := fun p h => none_of_not fun z => h (I.ext.n p z rfl)
      cases (show Rp K G v (.list (.list ys :: ds)) from hd) with
      | lst ha ka =>
        rename_i a vs
        cases ka with
        | cons hu ku =>
          rename_i x vs'
          cases hu with
          | lst hb kb =>
            rename_i b' us
            cases (show Rp K G w (.list zs) from hz) with
            | lst hc kc =>
              rename_i c ws
              have Ha := I.s _ _ ha
              have Hb := I.s _ _ hb
              have Hc := I.s _ _ hc
              have nb : H0 b' = none := new b' (by rw [hb]; exact Option.some_ne_none _)
              have nc : H0 c = none := new c (by rw [hc]; exact Option.some_ne_none _)
              have ix0 : atI (.ref b' :: vs') (0 : Int) = some (V.ref b') := by
                unfold atI ixN
                simp
              refine ⟨.ref a, hv, .inl ⟨a, _, 0, .ref b', rfl, rfl, SqL.of Ha, ix0, .inl ⟨rfl, us, SqL.of Hb⟩, b', us, v0, rfl, rfl, Hb, ?_, ?_⟩⟩
              · rw [kb.length]
                exact sz_lt (by omega)
              obtain ⟨zs', hz', hzl⟩ : ∃ zs', (upd H b' (.lst (us ++ [v0]))) c = some (.lst zs') ∧ zs'.length < 100000 := by
                by_cases eb : c = b'
                · subst eb
                  refine ⟨_, upd_same, ?_⟩
                  rw [List.length_append, kb.length]
                  show ys.length + 1 < 100000
                  omega
                · refine ⟨_, (upd_ne eb).trans Hc, ?_⟩
                  have := kc.length
                  omega
              refine ⟨.ref c, hw, .inl ⟨rfl, zs', SqL.of hz'⟩, c, zs', w0, rfl, rfl, hz', sz_lt hzl, ?_⟩
              have q' : OutR K mg W ⟨hp0, q0⟩ H0 hp0 D (b (ρ.map keepZ)) := by
                cases eo : b (ρ.map keepZ) with
                | rt r =>
                  rw [eo] at q
                  exact q
                | _ =>
                  rw [eo] at q
                  exact q.elim
              refine hr q0 H0 σ hp0 _ _ D (I.outZ fun p x z => ?_) q'
              rw [upd_ne (fun y => by rw [y, nc] at z; cases z), upd_ne (fun y => by rw [y, nb] at z; cases z)]
              exact I.ext.h _ _ z
    · exact q.elim
  · exact q.elim
end
section
variable {X : Cx} {W : WX} {st : Stmt} {rest : List Stmt} {t u : TS} {a b : Rho → Out}
theorem pmz_one (h : PMS X W st t a) : PMZs X W [st] t a := ⟨pss_one h.p, h.s.z⟩
theorem pmz_cons (h : PMS X W st t a) (r : PMZs X W rest u b) : PMZs X W (st :: rest) (tSeq t u) (mSeq a b) := ⟨pss_cons h.p r.p, sndZ_seq h.s r.s⟩
theorem pmz_frz (i : Nat) (h : PMZs X W rest t a) : PMZs X W rest t (mFrz i a) := ⟨h.p, sndZ_frz h.s⟩
theorem pmz_of (h : PMSs X W rest t a) : PMZs X W rest t a := ⟨h.p, h.s.z⟩
theorem pmss_tail (h : PMZs X W rest t a) : PMSs X W rest t (mTail a) := ⟨h.p, snd_tail h.s⟩
theorem pmz_app2 {i j : Nat} {x y : Str} {p2 p3 p4 a1 a2 c1 c2 pos pos2 spos : Pos} {jj : Nat} {e0 e1 : Expr} {v0 w0 : V} {d0 d1 : D} (h0 : PM X W e0 (tC v0) (mC d0)) (h1 : PM X W e1 (tC w0) (mC d1)) (hr : PMZs X W rest u b)
    (hN : X.N[i]? = some x := by rfl) (hv : Vis X.env.scope x := by first | exact Or.inl rfl | exact Or.inr (Or.inl rfl) | exact Or.inr (Or.inr rfl)) (hd : (x == ("__debug__" : Str)) = false := by decide) (hcd : (x == ("__classdict__" : Str)) = false := by decide)
    (hM : X.N[j]? = some y := by rfl) (hv2 : Vis X.env.scope y := by first | exact Or.inl rfl | exact Or.inr (Or.inl rfl) | exact Or.inr (Or.inr rfl)) (hd2 : (y == ("__debug__" : Str)) = false := by decide) (hcd2 : (y == ("__classdict__" : Str)) = false := by decide)
    (hx : PlainIx (.Constant (.int 0) jj p3) := by exact fun _ _ => rfl)
    (hst : starEach [e0] X.env = (false, eval e0 X.env) :: starEach [] X.env := by rfl)
    (hbase : attributeBase (.Subscript (.Name x p2) (.Constant (.int 0) jj p3) spos) "append" X.env (eval (.Subscript (.Name x p2) (.Constant (.int 0) jj p3) spos) X.env) = eval (.Subscript (.Name x p2) (.Constant (.int 0) jj p3) spos) X.env := by rfl)
    (hfew : ((backTo c1 (starEach [e0] X.env)).all (fun x => !x.1) && (backToKw c1 (keywordEach [] X.env)).all (fun x => x.1.isSome) && decide ([e0].length + ([] : List Keyword).length + (if ([] : List Keyword).isEmpty then 0 else 1) < 30)) = true := by rfl)
    (hline : (a1.endLine == c1.line) = true := by rfl) (hplain : (backTo c1 (starEach [] X.env)).any (·.1) = false := by rfl)
    (hs : swapsWith (.Call (.Attribute (.Subscript (.Name x p2) (.Constant (.int 0) jj p3) spos) "append" a1) [e0] [] c1) none pos.line X.env = pure false := by rfl)
    (hst2 : starEach [e1] X.env = (false, eval e1 X.env) :: starEach [] X.env := by rfl)
    (hbase2 : attributeBase (.Name y p4) "append" X.env (eval (.Name y p4) X.env) = eval (.Name y p4) X.env := by rfl)
    (hfew2 : ((backTo c2 (starEach [e1] X.env)).all (fun x => !x.1) && (backToKw c2 (keywordEach [] X.env)).all (fun x => x.1.isSome) && decide ([e1].length + ([] : List Keyword).length + (if ([] : List Keyword).isEmpty then 0 else 1) < 30)) = true := by rfl)
    (hline2 : (a2.endLine == c2.line) = true := by rfl) (hplain2 : (backTo c2 (starEach [] X.env)).any (·.1) = false := by rfl)
    (hs2 : swapsWith (.Call (.Attribute (.Name y p4) "append" a2) [e1] [] c2) none pos2.line X.env = pure false := by rfl) :
    PMZs X W (.Expr (.Call (.Attribute (.Subscript (.Name x p2) (.Constant (.int 0) jj p3) spos) "append" a1) [e0] [] c1) pos :: .Expr (.Call (.Attribute (.Name y p4) "append" a2) [e1] [] c2) pos2 :: rest)
      (tSeq (tDrop (tBM X.K "list" rAppend (tOp (rIx X.K) (tVar i) (tC (.int 0))) (tCons (tC v0) tNil))) (tSeq (tDrop (tBM X.K "list" rAppend (tVar j) (tCons (tC w0) tNil))) u)) (zApp2 i j b) := by
  have S : SndZ X.K X.mg W (tSeq (tAppZ X.K i j v0 w0) u) (zApp2 i j b) := sndZ_app2 hr.s
  exact ⟨pss_cons (ps_expr (pe_bm PySem.F.plainAttrs_list PySem.F.slot_list_append PySem.F.type_list_append mt_append (pe_ix ix_seq (pe_var hN hv hd hcd) pe_int hx) (pa_cons h0.p pa_nil hst) hbase hfew hline hst hplain) hs)
    (pss_cons (ps_expr (pe_bm PySem.F.plainAttrs_list PySem.F.slot_list_append PySem.F.type_list_append mt_append (pe_var hM hv2 hd2 hcd2) (pa_cons h1.p pa_nil hst2) hbase2 hfew2 hline2 hst2 hplain2) hs2) hr.p), S⟩
end
end Mi

/-! Dicts of the module with text keys: x in D, D[x]. -/
namespace Mi
open PySem PySem.Spec PyProof.Rows L2
def KTab (K : PySem.W.Frag) (P : Params) : List DictEntry → List (Str × D) → Prop
  | [], [] => True
  | e :: r, (x, d) :: q => ((∃ t, e.key = .str x t) ∧ e.hash = PyData.keyHash P x) ∧ (∃ v, (∀ G, Rp K G v d) ∧ RelV v e.val) ∧ KTab K P r q
  | _, _ => False
/-- nm names the dict at d, with these entries -/
structure KDOf (K : PySem.W.Frag) (P : Params) (mg : Str → Option Value) (nm : Str) (d : Addr) (tab : List (Str × D)) : Prop where
  g : mg nm = some (.ref d)
  low : (d == sysModules) = false
  ex : ∃ es n, K.lookup d = some ⟨.type "dict", none, .dict es n, #[]⟩ ∧ KTab K P es.toList tab
theorem ktab_lit {K : PySem.W.Frag} {P : Params} : ∀ {es : List DictEntry} {tab : List (Str × D)}, KTab K P es tab → PySem.W.KeysLit P es
  | [], _, _ => trivial
  | e :: r, [], h => h.elim
  | e :: r, (x, d) :: q, h => by
    obtain ⟨⟨⟨t, h1⟩, h2⟩, _, h3⟩ := h
    exact ⟨⟨x, t, h1, h2⟩, ktab_lit h3⟩
theorem ktab_find {K : PySem.W.Frag} {P : Params} (z : Str) : ∀ {es : List DictEntry} {tab : List (Str × D)}, KTab K P es tab → (tab.lookup z = none ∧ es.find? (fun e => e.key.isStr z) = none ∧ es.any (·.refKey) = false) ∨ ∃ x e v, tab.lookup z = some x ∧ es.find? (fun e => e.key.isStr z) = some e ∧ (∀ G, Rp K G v x) ∧ RelV v e.val
  | [], [], _ => .inl ⟨rfl, rfl, rfl⟩
  | [], _ :: _, h => h.elim
  | e :: r, [], h => h.elim
  | e :: r, (x, d) :: q, h => by
    obtain ⟨⟨⟨t, h1⟩, h2⟩, ⟨v, hv, ru⟩, h3⟩ := h
    have ek : e.key.isStr z = (x == z) := by rw [h1]; rfl
    have er : e.refKey = false := by unfold DictEntry.refKey; rw [h1]
    by_cases c : x = z
    · subst c
      refine .inr ⟨d, e, v, ?_, ?_, hv, ru⟩
      · rw [List.lookup_cons, beq_self_eq_true]
      · rw [List.find?_cons, ek, beq_self_eq_true]
    · have c1 : (x == z) = false := by simpa using c
      have c2 : (z == x) = false := by simpa using fun w => c w.symm
      rcases ktab_find z h3 with ⟨a, b, k⟩ | ⟨x', e', v', a, b, k⟩
      · refine .inl ⟨?_, ?_, ?_⟩
        · rw [List.lookup_cons, c2]
          exact a
        · rw [List.find?_cons, ek, c1]
          exact b
        · rw [List.any_cons, er, k]
          rfl
      · refine .inr ⟨x', e', v', ?_, ?_, k⟩
        · rw [List.lookup_cons, c2]
          exact a
        · rw [List.find?_cons, ek, c1]
          exact b
section
variable {K : PySem.W.Frag} {P : Params} {mg : Str → Option Value} {nm : Str} {d : Addr} {tab : List (Str × D)}
theorem KDOf.find (T : KDOf K P mg nm d tab) (z : Str) : (tab.lookup z = none ∧ PySem.W.nsIn K d z = some none) ∨ ∃ x u v, tab.lookup z = some x ∧ PySem.W.nsIn K d z = some (some u) ∧ (∀ G, Rp K G v x) ∧ RelV v u := by
  obtain ⟨es, n, hl, ht⟩ := T.ex
  unfold PySem.W.nsIn
  rw [hl]
  rcases ktab_find z ht with ⟨a, b, c⟩ | ⟨x, e, v, a, b, c, r⟩
  · refine .inl ⟨a, ?_⟩
    show (match es.toList.find? (fun e => e.key.isStr z) with
      | some e => some (some e.val)
      | none => if es.toList.any (·.refKey) then none else some none) = _
    rw [b, c]
    rfl
  · refine .inr ⟨x, e.val, v, a, ?_, c, r⟩
    show (match es.toList.find? (fun e => e.key.isStr z) with
      | some e => some (some e.val)
      | none => if es.toList.any (·.refKey) then none else some none) = _
    rw [b]
theorem KDOf.kd {w : World} (T : KDOf K w.params mg nm d tab) : ∃ es n, KDict K w d es n := by
  obtain ⟨es, n, hl, ht⟩ := T.ex
  exact ⟨es, n, hl, ktab_lit ht, T.low⟩
end
/-- x in D, x not in D -/
def mInK (tab : List (Str × D)) (neg : Bool) (ma : Rho → Res Val) : Rho → Res Val := fun ρ => (ma ρ).bind fun a => lift (match a with
  | .sh (.str z) => some (.sh (.bool (neg != (tab.lookup z).isSome)))
  | _ => none)
/-- D[x] -/
def mIxK (tab : List (Str × D)) (ma : Rho → Res Val) : Rho → Res Val := fun ρ => (ma ρ).bind fun a => lift (match a with
  | .sh (.str z) => (tab.lookup z).map Val.sh
  | _ => none)
def tInK (neg : Bool) (d : Addr) (K : PySem.W.Frag) (ta : TE) : TE := tOp (fun x y H Q => ∃ (z : Str) (r : Option Value), x = .str z ∧ y = .ref d ∧ PySem.W.nsIn K d z = some r ∧ Q (.bl (neg != r.isSome)) H) ta (tC (.ref d))
section
variable {X : Cx} {W : WX} {nm : Str} {d : Addr} {tab : List (Str × D)} {e : Expr} {te : TE} {me : Rho → Res Val} {p pos : Pos}
theorem snd_inK {K : PySem.W.Frag} {P : Params} {mg : Str → Option Value} (neg : Bool) (T : KDOf K P mg nm d tab) (h : Snd K mg W te me) : Snd K mg W (tInK neg d K te) (mInK tab neg me) := by
  intro G0 H0 σ G H ρ Q I q
  refine h G0 H0 σ G H ρ _ I (RR.bnd (Ext.refl I.s) q fun a G1 H1 x ea e1 r1 h1 => ?_)
  obtain ⟨c, ec, q1⟩ := h1.lift
  split at ec
  · rename_i z
    cases ec
    have r1 : Rp K G1 x (.str z) := r1
    cases r1
    rcases T.find z with ⟨a, b⟩ | ⟨y, u, v, a, b, _, _⟩
    · refine ⟨z, none, rfl, rfl, b, ?_⟩
      rw [a] at q1
      exact q1 G1 H1 _ e1 (.bl _)
    · refine ⟨z, some u, rfl, rfl, b, ?_⟩
      rw [a] at q1
      exact q1 G1 H1 _ e1 (.bl _)
  · cases ec
theorem pm_inK {K : PySem.W.Frag} {mg : Str → Option Value} {w : World} (T : KDOf K w.params mg nm d tab) (h : PM X W e te me) (hg : Gl X nm := by rfl) (h1 : X.K = K := by rfl) (h2 : X.mg = mg := by rfl) (h3 : X.w = w := by rfl) (db : (nm == ("__debug__" : Str)) = false := by decide) :
    PM X W (.Compare e [.In] [.Name nm p] pos) (tInK false d K te) (mInK tab false me) := by
  subst h1 h2 h3
  obtain ⟨es, n, D⟩ := T.kd
  have o : OpR X (compareOp .In) (fun x y H Q => ∃ (z : Str) (r : Option Value), x = .str z ∧ y = .ref d ∧ PySem.W.nsIn X.K d z = some r ∧ Q (.bl (false != r.isSome)) H) := by
    have k := op_in_kd (X := X) D
    intro pins s σ H x y v u Q I rx ry ⟨z, r, a, b, c, q⟩
    refine k pins s σ H x y v u Q I rx ry ⟨z, r, a, b, c, ?_⟩
    cases r <;> exact q
  exact ⟨pe_cmpR o h.p (pe_glob hg T.g rfl db) rfl, snd_inK false T h.s⟩
theorem pm_notInK {K : PySem.W.Frag} {mg : Str → Option Value} {w : World} (T : KDOf K w.params mg nm d tab) (h : PM X W e te me) (hg : Gl X nm := by rfl) (h1 : X.K = K := by rfl) (h2 : X.mg = mg := by rfl) (h3 : X.w = w := by rfl) (db : (nm == ("__debug__" : Str)) = false := by decide) :
    PM X W (.Compare e [.NotIn] [.Name nm p] pos) (tInK true d K te) (mInK tab true me) := by
  subst h1 h2 h3
  obtain ⟨es, n, D⟩ := T.kd
  have o : OpR X (compareOp .NotIn) (fun x y H Q => ∃ (z : Str) (r : Option Value), x = .str z ∧ y = .ref d ∧ PySem.W.nsIn X.K d z = some r ∧ Q (.bl (true != r.isSome)) H) := by
    have k := op_notIn_kd (X := X) D
    intro pins s σ H x y v u Q I rx ry ⟨z, r, a, b, c, q⟩
    refine k pins s σ H x y v u Q I rx ry ⟨z, r, a, b, c, ?_⟩
    cases r <;> exact q
  exact ⟨pe_cmpR o h.p (pe_glob hg T.g rfl db) rfl, snd_inK true T h.s⟩
theorem pmt_inK {K : PySem.W.Frag} {mg : Str → Option Value} {w : World} (T : KDOf K w.params mg nm d tab) (h : PM X W e te me) (hg : Gl X nm := by rfl) (h1 : X.K = K := by rfl) (h2 : X.mg = mg := by rfl) (h3 : X.w = w := by rfl) (db : (nm == ("__debug__" : Str)) = false := by decide) :
    PMT X W (.Compare e [.In] [.Name nm p] pos) (tTest (tInK false d K te)) (mTest (mInK tab false me)) := by
  subst h1 h2 h3
  obtain ⟨es, n, D⟩ := T.kd
  have o : OpR X (compareOp .In) (fun x y H Q => ∃ (z : Str) (r : Option Value), x = .str z ∧ y = .ref d ∧ PySem.W.nsIn X.K d z = some r ∧ Q (.bl (false != r.isSome)) H) := by
    have k := op_in_kd (X := X) D
    intro pins s σ H x y v u Q I rx ry ⟨z, r, a, b, c, q⟩
    refine k pins s σ H x y v u Q I rx ry ⟨z, r, a, b, c, ?_⟩
    cases r <;> exact q
  exact ⟨pt_cmpR o h.p (pe_glob hg T.g rfl db) rfl, snd_test (snd_inK false T h.s)⟩
theorem pmt_notInK {K : PySem.W.Frag} {mg : Str → Option Value} {w : World} (T : KDOf K w.params mg nm d tab) (h : PM X W e te me) (hg : Gl X nm := by rfl) (h1 : X.K = K := by rfl) (h2 : X.mg = mg := by rfl) (h3 : X.w = w := by rfl) (db : (nm == ("__debug__" : Str)) = false := by decide) :
    PMT X W (.Compare e [.NotIn] [.Name nm p] pos) (tTest (tInK true d K te)) (mTest (mInK tab true me)) := by
  subst h1 h2 h3
  obtain ⟨es, n, D⟩ := T.kd
  have o : OpR X (compareOp .NotIn) (fun x y H Q => ∃ (z : Str) (r : Option Value), x = .str z ∧ y = .ref d ∧ PySem.W.nsIn X.K d z = some r ∧ Q (.bl (true != r.isSome)) H) := by
    have k := op_notIn_kd (X := X) D
    intro pins s σ H x y v u Q I rx ry ⟨z, r, a, b, c, q⟩
    refine k pins s σ H x y v u Q I rx ry ⟨z, r, a, b, c, ?_⟩
    cases r <;> exact q
  exact ⟨pt_cmpR o h.p (pe_glob hg T.g rfl db) rfl, snd_test (snd_inK true T h.s)⟩
theorem snd_ixK {K : PySem.W.Frag} {w : World} {mg : Str → Option Value} (T : KDOf K w.params mg nm d tab) (h : Snd K mg W te me) : Snd K mg W (tOp (rIxD K w) (tC (.ref d)) te) (mIxK tab me) := by
  intro G0 H0 σ G H ρ Q I q
  refine h G0 H0 σ G H ρ _ I (RR.bnd (Ext.refl I.s) q fun a G1 H1 x ea e1 r1 h1 => ?_)
  obtain ⟨c, ec, q1⟩ := h1.lift
  split at ec
  · rename_i z
    have r1 : Rp K G1 x (.str z) := r1
    cases r1
    rcases T.find z with ⟨a, b⟩ | ⟨y, u, v, a, b, hv, ru⟩
    · rw [a] at ec
      cases ec
    · rw [a] at ec
      cases ec
      obtain ⟨es, n, hl, ht⟩ := T.ex
      exact ⟨d, z, v, rfl, rfl, ⟨es, n, u, hl, ktab_lit ht, b, ru⟩, q1 G1 H1 v e1 (hv G1)⟩
  · cases ec
theorem pm_ixK {K : PySem.W.Frag} {mg : Str → Option Value} {w : World} (T : KDOf K w.params mg nm d tab) (h : PM X W e te me) (hx : PlainIx e := by exact fun _ _ => rfl) (hg : Gl X nm := by rfl) (h1 : X.K = K := by rfl) (h2 : X.mg = mg := by rfl) (h3 : X.w = w := by rfl) (db : (nm == ("__debug__" : Str)) = false := by decide) :
    PM X W (.Subscript (.Name nm p) e pos) (tOp (rIxD K w) (tC (.ref d)) te) (mIxK tab me) := by
  subst h1 h2 h3
  exact ⟨pe_ix ix_kdict (pe_glob hg T.g rfl db) h.p hx, snd_ixK T h.s⟩
end
end Mi

/-! head, *rest = a list; own exceptions with one field. -/
namespace Mi
open PySem PySem.Spec PyProof.Rows L2

/-! ### x, *y = xs -/
theorem walks_up {prog : Program} {w : World} {A : Around} {I : Addr} {fp wr : List Addr} {G : Array GenState → Array GenState → Prop} {n : Nat} {P : Nat → Value → Prop} {St : Nat → Shared → Prop} (W : WalksS prog w A I fp wr G (n + 1) P St) :
    WalksS prog w A I fp wr G n (fun i => P (i + 1)) (fun i => St (i + 1)) :=
  ⟨W.sub, W.grefl, W.gtrans, fun i => W.frame (i + 1), fun i s Q E h => W.item (i + 1) s Q E (Nat.succ_lt_succ h), W.done, fun i => W.self (i + 1)⟩
def gStar (K : PySem.W.Frag) (t : TGs) : TG := fun v σ H Q => ∃ a v0 vr, v = .ref a ∧ SqL K H a (v0 :: vr) ∧ ∀ p, H p = none → t [v0, .ref p] σ (upd H p (.lst vr)) Q
theorem items_tail {us : List Value} {u0 : Value} {acc : Array Value} (h : ItemsOf (fun i v => (u0 :: us).toArray[i + 1]? = some v) acc us.length) : acc.toList = us := by
  obtain ⟨h1, h2⟩ := h
  apply List.ext_getElem?
  intro j
  by_cases hj : j < us.length
  · have q : acc[j]? = some (acc[j]'(by rw [h1]; exact hj)) := Array.getElem?_eq_getElem _
    have z := h2 j _ q
    simp at z
    rw [Array.getElem?_toList, q, z]
  · rw [List.getElem?_eq_none (by simpa using Nat.le_trans (Nat.le_of_eq h1) (Nat.le_of_not_lt hj)), List.getElem?_eq_none (Nat.le_of_not_lt hj)]
theorem pg_star {X : Cx} {tx ty : Expr} {p1 pos : Pos} {k : Nat} {t : TGs} (hc : X.calm = true) (h : PGs X [tx, ty] t) (hst : (assignEach [tx, .Starred ty p1] X.env).findIdx? (·.1) = some 1 := by rfl)
    (hm : (assignEach [tx, .Starred ty p1] X.env).map (·.2) = (assignEach [tx, ty] X.env).map (·.2) := by rfl) (hn : (assignEach [tx, .Starred ty p1] X.env).length = 2 := by rfl) : PG X (.Tuple [tx, .Starred ty p1] k pos) (gStar X.K t) := by
  refine ⟨fun pins s σ H v u Q I r hw => ?_⟩
  obtain ⟨a, v0, vr, rfl, hq, hw⟩ := hw
  cases r
  obtain ⟨its, rv, pl, hz⟩ := I.list hq
  cases rv with
  | @cons _ u0 _ us ra rr =>
  have hh := I.ok.hd hc
  rw [assign_Tuple]
  refine wpAny_bind (wpAny_standAt ?_)
  unfold unpack
  rw [hst, hm, hn]
  refine wpAny_bind (wpAny_holding ?_)
  unfold unpackItems
  refine wpAny_bind ?_
  unfold notIterableAtAll
  refine wpAny_bind (wpAny_specialOf pl.isList.typeIs slot_list_iter.lookup ?_)
  refine wpAny_pure ?_
  simp only [Bool.false_eq_true, if_false]
  obtain ⟨hp, g, d, tk, os⟩ := s
  have hlt : a < hp.objs.size := by obtain ⟨_, e, _⟩ := pl.isList; exact Heap.lt_size e
  refine wpAny_bind (wpAny_holding (wpAny_pyIter_list pl.isList ?_))
  have W0 := (Walks.list (prog := X.prog) (w := X.w) (A := X.A) hh hp.objs.size a (Nat.ne_of_lt hlt) (u0 :: us).toArray).toS
  have W1 := (Walks.list (prog := X.prog) (w := X.w) (A := X.A.in1) hh hp.objs.size a (Nat.ne_of_lt hlt) (u0 :: us).toArray).toS
  dsimp only
  refine wpAny_bind (wpAny_holding ?_)
  show wpAny _ _ (pyNext (.ref hp.objs.size) >>= _) _ _ _
  refine wpAny_bind (W0.item 0 _ _ _ (by simp) ⟨⟨_, Heap.get?_push_size _ rfl, rfl, rfl⟩, pl.isList.push _⟩ fun v s1 hv st mv => ?_)
  have hv : (u0 :: us).toArray[0]? = some v := hv
  simp at hv
  subst hv
  refine wpAny_bind (wpAny_holding (wpAny_pure (wpAny_pure ?_)))
  simp only [List.length_cons, List.length_nil, Nat.lt_irrefl, if_false]
  have hfp : ∀ b ∈ [hp.objs.size, a], b < s1.heap.objs.size := fun b hb => by
    have key : ∀ {c : Addr} {o : Obj}, s1.heap.get? c = some o → c < s1.heap.objs.size := fun e => Heap.lt_size e
    rcases List.mem_cons.mp hb with rfl | hb
    · obtain ⟨⟨o, e, _⟩, _⟩ := st
      exact key e
    · rcases List.mem_cons.mp hb with rfl | hb
      · obtain ⟨_, ⟨o, e, _⟩⟩ := st
        exact key e
      · cases hb
  refine wpAny_bind (wpAny_holding (wpAny_collect_iter (T := "list_iterator") (.inr (.inr (.inl rfl))) (walks_up (n := us.length) W1) (fun i s hs => let ⟨⟨o, e, c, _⟩, _⟩ := hs; ⟨o, e, c⟩) st hfp (by simp) (fun s2 acc mv2 ha => ?_) (by
    have := rr.length
    simp only [List.length_cons] at hz
    omega)))
  have hacc := items_tail ha
  rw [hacc]
  rw [if_neg (by omega)]
  show wpAny _ _ (newList (us.take us.length) >>= fun l => pure (([u0] ++ [l] ++ us.drop us.length))) _ _ _
  rw [List.take_length, List.drop_length]
  have hk : ∀ b o, hp.get? b = some o → s2.heap.get? b = some o := fun b o e => by
    have nb : b ∉ [hp.objs.size] := fun z => by
      rw [List.mem_singleton] at z
      exact Nat.lt_irrefl _ (z ▸ Heap.lt_size e)
    exact mv2.heap b o nb (mv.heap b o nb (Heap.get?_push_of_some _ e))
  obtain ⟨hp2, g2, d2, tk2, os2⟩ := s2
  have e1 : g2 = g := (show g2 = s1.gens from mv2.gens).trans (show s1.gens = g from mv.gens)
  have e2 : d2 = d := (show d2 = s1.drawn from mv2.drawn).trans (show s1.drawn = d from mv.drawn)
  have e3 : os2 = os := (show os2 = s1.os from mv2.os).trans (show s1.os = os from mv.os)
  subst e1 e2 e3
  have I2 : Inv X pins σ H ⟨hp2, g2, d2, tk2, os2⟩ := I.kept (t' := tk2) hk
  refine wpAny_bind (wpAny_newObj_type ?_ (by
    have := rr.length
    simp only [List.length_cons] at hz
    show us.length ≤ sizeLine
    omega))
  refine wpAny_pure ?_
  have I3 := I2.lnew (t' := tk2) rr (by
    simp only [List.length_cons] at hz
    omega)
  exact h.run pins _ σ _ [v0, .ref hp2.objs.size] [u0, .ref hp2.objs.size] Q I3 (.cons ra (.cons rfl .nil)) (hw _ I2.fresh)
def mStar (i j : Nat) (me : Rho → Res Val) : Rho → Out := fun ρ => sRes (me ρ) ρ fun r => match lit r with
  | some (d :: ds) => .nx ((ρ.set i (some (.sh d))).set j (some (.sh (.list ds))))
  | _ => .no
theorem snd_star {K : PySem.W.Frag} {mg : Str → Option Value} {W : WX} {te : TE} {me : Rho → Res Val} {i j : Nat} (h : Snd K mg W te me) : SndS K mg W (tAsg te (gStar K (gCons (gName i) (gCons (gName j) gNil)))) (mStar i j me) := by
  intro G0 H0 σ G H ρ D I q
  refine h G0 H0 σ G H ρ _ I (RR.out I q fun r G1 H1 v er e1 r1 q1 => ?_)
  split at q1
  · rename_i d ds el
    obtain ⟨p, vs, rfl, sq, ra⟩ := r1.list e1.s el
    cases ra with
    | @cons v0 vr _ _ r0 rr =>
    have I1 := I.ext' e1
    refine ⟨p, v0, vr, rfl, sq, fun a ha => ⟨v0, [.ref a], rfl, .ref a, [], rfl, rfl, ?_⟩⟩
    have x : Ext G1 H1 (upd G1 a (.lst vr)) (upd H1 a (.lst vr)) := Ext.newS e1.s ha
    have y := (I1.put (i := i) (r := .sh d) (Ext.refl I1.s) r0 rfl).put (i := j) (r := .sh (.list ds)) x (show Rp K _ _ _ from .lst upd_same (rr.mono x.g)) rfl
    exact q1 _ _ _ y x.g
  · exact q1.elim
theorem pms_star {X : Cx} {W : WX} (i j : Nat) {x y : Str} {e : Expr} {te : TE} {me : Rho → Res Val} {px py p1 pt pos : Pos} {k : Nat} (hc : X.calm = true) (hN : X.N.Nodup) (h : PM X W e te me) (hi : X.N[i]? = some x := by rfl) (hj : X.N[j]? = some y := by rfl)
    (hx : Loc X.env.scope x := by first | exact Or.inl rfl | exact Or.inr rfl) (hy : Loc X.env.scope y := by first | exact Or.inl rfl | exact Or.inr rfl)
    (fx : X.fn x = true ∨ X.env.scope.names.lookup x = some .local := by first | exact .inl rfl | exact .inr rfl | assumption) (fy : X.fn y = true ∨ X.env.scope.names.lookup y = some .local := by first | exact .inl rfl | exact .inr rfl | assumption)
    (hst : (assignEach [.Name x px, .Starred (.Name y py) p1] X.env).findIdx? (·.1) = some 1 := by rfl) (hm : (assignEach [.Name x px, .Starred (.Name y py) p1] X.env).map (·.2) = (assignEach [.Name x px, .Name y py] X.env).map (·.2) := by rfl) (hn : (assignEach [.Name x px, .Starred (.Name y py) p1] X.env).length = 2 := by rfl)
    (hs : swapsWithSole [.Tuple [.Name x px, .Starred (.Name y py) p1] k pt] e pos.line X.env = pure false := by rfl) (hw : swappedStores [.Tuple [.Name x px, .Starred (.Name y py) p1] k pt] e X.env = pure none := by rfl)
    (h1 : (assignEach [.Tuple [.Name x px, .Starred (.Name y py) p1] k pt] X.env).map (·.2) = [assign (.Tuple [.Name x px, .Starred (.Name y py) p1] k pt) X.env] := by rfl)
    (hs1 : (assignEach [.Name x px, .Name y py] X.env).map (·.2) = assign (.Name x px) X.env :: (assignEach [.Name y py] X.env).map (·.2) := by rfl) (hs2 : (assignEach [.Name y py] X.env).map (·.2) = assign (.Name y py) X.env :: (assignEach [] X.env).map (·.2) := by rfl) :
    PMS X W (.Assign [.Tuple [.Name x px, .Starred (.Name y py) p1] k pt] e pos) (tAsg te (gStar X.K (gCons (gName i) (gCons (gName j) gNil)))) (mStar i j me) :=
  ⟨ps_asg h.p (pg_star hc (pgs_cons (pg_name hN hi hx fx) (pgs_cons (pg_name hN hj hy fy) pgs_nil hs2) hs1) hst hm hn) hs hw h1, snd_star h.s⟩
end Mi

/-! raise X(e), X an own exception whose __init__ keeps its argument in a field; what is caught of it. -/
namespace Mi
open PySem PySem.Spec PyProof.Rows L2

/-! ### __init__: self.f = x -/
def spXI (C : Addr) (f : Str) : Sp := fun vs H Q E => ∃ a y, vs = [.ref a, y] ∧ H a = some (exo a C none) ∧ ∀ dx, H dx = none → dx ≠ a → Q .non (upd (upd H dx (exd dx [(f, y)])) a (exo a C (some dx)))
section
variable {P : Program} {w : World} {K : PySem.W.Frag} {mg : Str → Option Value} {base : Heap}
theorem xinit_ok {x qual : Str} {st : Stmt} {f C : Addr} {fd : FuncData} {k : Nat} {fld xs xa : Str} (F : Fun K x qual st f fd) (S : FnScope [xs, xa] [xs, xa] (defScope st)) (T : OexC K C) (hno : PySem.W.findIn K (.ref C) fld = some none)
    (hb : ∀ (cdv : Value) (A : Around) (outer : List Env) (s : Shared) (H : Hp) (E : XK), PSs (cxOf (L2.CX P w) P w K mg base [xs, xa] qual (defScope st) f cdv A outer s H E) (defBody st) (tOst K fld (tVar 0) (tVar 1))) :
    FnOk P w K mg base (L2.CX P w) (k + 1) f fd [xs, xa] (spXI C fld) := by
  obtain ⟨oc, od, kV, doc, pm, an, cdv, ct, osl, rfl, lk, hcd⟩ := F.ex
  refine fn_of lk hcd S (fun vs H Q E ⟨a, y, e, _⟩ => by rw [e]; rfl) fun A outer s H vs Q E hr hsp => ?_
  refine ⟨_, hb cdv A outer s H E, ?_⟩
  obtain ⟨a, y, rfl, ea, q⟩ := hsp
  exact ⟨y, rfl, .ref a, rfl, a, C, rfl, T, hno, .inl ⟨ea, fun dx n ne => q dx n ne⟩⟩
end
def mRaiseX (x f : Str) (me : Rho → Res Val) : Rho → Out := fun ρ => match me ρ with
  | .ok (.sh d) => .ex x [(f, d)] ρ
  | .ok _ => .no
  | .ex n fs => .ex n fs ρ
  | .no => .no
theorem upd_xd {H : Hp} {a dx : Addr} {u v w : HO} {xd : HO} (ha : H a = none) (hd : dx ≠ a) : upd (del (upd (upd (upd H a u) dx v) a w) a) dx xd = upd H dx xd := by
  funext b
  by_cases hb : b = dx
  · rw [hb, upd_same, upd_same]
  · rw [upd_ne hb, upd_ne hb]
    by_cases hc : b = a
    · rw [hc, del_same, ha]
    · rw [del_ne hc, upd_ne hc, upd_ne hb, upd_ne hc]
theorem snd_raiseX {K : PySem.W.Frag} {mg : Str → Option Value} {W : WX} {te : TE} {me : Rho → Res Val} {x f : Str} {C : Addr} (gC : mg x = some (.ref C)) (h : Snd K mg W te me) :
    SndS K mg W (fun _ σ H => tMkO C (spXI C f) [] (tCons te tNil) σ H fun cls d H' => W cls d σ H') (mRaiseX x f me) := by
  intro G0 H0 σ G H ρ D I q
  unfold mRaiseX at q
  refine h G0 H0 σ G H ρ _ I ?_
  cases eo : me ρ with
  | no =>
    rw [eo] at q
    exact q.elim
  | ex n fs =>
    rw [eo] at q
    exact fun G' H' C' d e1 a b => q σ G' H' C' d (I.ext' e1) e1.g a b
  | ok r =>
    rw [eo] at q
    cases r with
    | sh d =>
      intro G1 H1 v e1 r1
      refine ⟨(by show 1 ≤ 1000; decide), fun a ha => ⟨a, v, rfl, upd_same, fun dx hdx hne => ⟨rfl, dx, [(f, v)], upd_same, ?_, ?_, ?_⟩⟩⟩
      · rw [upd_ne hne, upd_same]
      · rw [upd_ne hne] at hdx
        exact hdx
      · rw [upd_ne hne] at hdx
        rw [upd_xd ha hne]
        have x : Ext G1 H1 G1 (upd H1 dx (.xd [(f, v)])) := Ext.newO e1.s hdx
        exact q σ G1 _ C (some dx) ((I.ext' e1).ext' x) e1.g gC (.inr ⟨dx, [(f, v)], rfl, (fun z => nomatch z), upd_same, rfl, .cons r1 .nil⟩)
    | ow _ => exact q.elim
    | bw _ => exact q.elim
    | fz _ => exact q.elim
    | io _ => exact q.elim
    | ob _ _ _ _ => exact q.elim
theorem passF {X : Cx} : Passes (L2.CX X.prog X.w) X (fun _ _ _ => False) := fun _ _ _ _ _ _ _ h => by
  obtain ⟨_, _, _, _, _, _, _, _, _, _, _, _, z⟩ := h
  exact z.elim
theorem pms_raiseX {X : Cx} {W : WX} {x f : Str} {C fI : Addr} {k : Nat} {fd : FuncData} {ps : List Str} {e : Expr} {te : TE} {me : Rho → Res Val} {p pos pos2 : Pos} (hc : X.calm = true) (tk : Takes X W) (T : OexC X.K C) (iC : PySem.W.findIn X.K (.ref C) "__init__" = some (some (.ref fI))) (tI : PySem.W.typeIn X.K (.ref fI) = some (.type "function"))
    (F1 : FnOk X.prog X.w X.K X.mg X.base (L2.CX X.prog X.w) k fI fd ps (spXI C f)) (hr : Room (k + 1) X.A) (hb : Binds X.K fd ps []) (gC : X.mg x = some (.ref C)) (h : PM X W e te me) (hg : Gl X x := by rfl) (hdb : (x == ("__debug__" : Str)) = false := by decide)
    (he : starEach [e] X.env = (false, eval e X.env) :: starEach [] X.env := by rfl) (hpl : (backTo pos (starEach [] X.env)).any (·.1) = false := by rfl) :
    PMS X W (.Raise (some (.Call (.Name x p) [e] [] pos)) none pos2) (fun _ σ H => tMkO C (spXI C f) [] (tCons te tNil) σ H fun cls d H' => W cls d σ H') (mRaiseX x f me) :=
  ⟨ps_raise hc tk (pmk_oex T iC tI F1 hr hb .nil passF hg gC (pa_cons h.p pa_nil he) hdb he hpl), snd_raiseX gC h.s⟩
end Mi

/-! except X as e: .. isinstance(e, C) .. e.f .., e with or without fields. -/
namespace Mi
open PySem PySem.Spec PyProof.Rows L2
abbrev FsD := List (Str × D)
theorem XR.up {K : PySem.W.Frag} {fs : FsD} {d : Option Addr} {G H G' H' : Hp} (e : Ext G H G' H') (h : XR fs K d G H) : XR fs K d G' H' := by
  rcases h with h | ⟨dd, fv, a, b, c, n, k⟩
  · exact .inl h
  · exact .inr ⟨dd, fv, a, b, e.h _ _ c, n, k.mono e.g⟩
/-- the error has no dict, or one that is tracked -/
def DOk (d : Option Addr) (H : Hp) : Prop := d = none ∨ ∃ dd fv, d = some dd ∧ H dd = some (.xd fv)
theorem XR.dok {K : PySem.W.Frag} {fs : FsD} {d : Option Addr} {G H : Hp} (h : XR fs K d G H) : DOk d H := by
  rcases h with h | ⟨dd, fv, a, _, c, _⟩
  · exact .inl h.2
  · exact .inr ⟨dd, fv, a, c⟩
def rIsF (K : PySem.W.Frag) (a : Addr) (cls : Value) (d : Option Addr) : List V → Hp → VK → Prop := fun xs H Q => ∃ D, cls = .ref D ∧ DOk d H ∧ ExcC K D ∧ rIsE K D a xs H Q
theorem call_isF {X : Cx} {a : Addr} {oe : Obj} {pn : List (Addr × Obj)} {cls : Value} {d : Option Addr} (hz : Zc cls d oe) (hf : ∃ vs, oe.data = .fields vs) : CallR (X.suite a ((a, oe) :: pn)) (.builtin "isinstance") (rIsF X.K a cls d) := by
  intro pins s σ H xs us Q I r h
  obtain ⟨D, rfl, hd, C, h⟩ := h
  rcases hd with rfl | ⟨dd, fv, rfl, ea⟩
  · exact call_isE C hz hf pins s σ H xs us Q I r h
  · obtain ⟨c, cv, b, rfl, hcv, e, q⟩ := h
    cases r with
    | cons rx rr =>
      cases rr with
      | cons rt rr =>
        cases rr
        cases rx
        have ec := hcv _ rt
        subst ec
        obtain ⟨ha, _⟩ := I.pin (a, oe) (List.mem_append_left _ List.mem_cons_self)
        obtain ⟨vs, hv⟩ := hf
        have hx : ObjOk X.prog X.w H s.heap dd (.xd fv) := I.hok dd _ ea
        obtain ⟨mA, hns, _⟩ := hx
        obtain ⟨od, ho, _⟩ := lookIn_ns hns
        have J : PySem.W.InstAt s.heap a oe D (some od) := ⟨ha, hz.1, by unfold PySem.W.notCls; rw [hv] <;> rfl, by rw [hz.2]; exact ho⟩
        obtain ⟨cd, hc, _⟩ := PySem.W.any_some C.hd
        exact PySem.W.kia_one (PySem.W.kitx_exc (by rw [hc]; rfl) C.hg C.hk C.hs C.ha C.hn C.ht C.hm) I.kIn J e (fun z => nomatch z) fun tk => ⟨.bl b, H, I.kept (t' := tk) fun _ _ z => z, rfl, q⟩

/-! ### expressions, tests, suites of the handler; m: the error's class, fs: its fields -/
def ExsF (i : Nat) (a : Addr) (d : Option Addr) (te : TE) (b : Bool) : Prop := ∀ (σ : L2.St) (H : Hp) (Q : VK), σ[i]? = some (some (.ref a)) → DOk d H → Q (.bl b) H → te σ H Q
def TstF (i : Nat) (a : Addr) (d : Option Addr) (tt : TT) (b : Bool) : Prop := ∀ (σ : L2.St) (H : Hp) (Q : Bool → Hp → Prop), σ[i]? = some (some (.ref a)) → DOk d H → Q b H → tt σ H Q
section
variable {X : Cx} {i : Nat} {a : Addr} {cls : Value} {d : Option Addr} {e e1 e2 : Expr} {te : TE} {tt tA tB : TT} {mt m1 m2 : Str → Option Bool} {pos : Pos} {rest : List Expr} {b : Expr}
structure PFE (X : Cx) (i : Nat) (a : Addr) (cls : Value) (d : Option Addr) (e : Expr) (te : TE) (mt : Str → Option Bool) : Prop where
  p : PE X e te
  s : ∀ m C b, cls = .ref C → X.mg m = some (.ref C) → mt m = some b → ExsF i a d te b
structure PFT (X : Cx) (i : Nat) (a : Addr) (cls : Value) (d : Option Addr) (e : Expr) (tt : TT) (mt : Str → Option Bool) : Prop where
  p : PT X e tt
  s : ∀ m C b, cls = .ref C → X.mg m = some (.ref C) → mt m = some b → TstF i a d tt b
structure PFW (X : Cx) (i : Nat) (a : Addr) (cls : Value) (d : Option Addr) (e : Expr) (tt : TT) (mt : Str → Option Bool) : Prop where
  p : PW X e tt
  s : ∀ m C b, cls = .ref C → X.mg m = some (.ref C) → mt m = some b → TstF i a d tt b
theorem pfe_is {K : PySem.W.Frag} {x y : Str} {p p1 p2 : Pos} {v : V} {u : Value} (hk : X.K = K) (hc : CallR X (.builtin "isinstance") (rIsF K a cls d)) (hy : X.mg y = some u) (rv : RelV v u) (hu : ∀ w, RelV v w → w = u) (hd' : IsD K X.mg u mt) (hm : X.mg "isinstance" = none) (hN : X.N[i]? = some x := by rfl)
    (hv : Vis X.env.scope x := by first | exact Or.inl rfl | exact Or.inr (Or.inl rfl) | exact Or.inr (Or.inr rfl)) (hd : (x == ("__debug__" : Str)) = false := by decide) (hcd : (x == ("__classdict__" : Str)) = false := by decide)
    (gy : Gl X y := by rfl) (dy : (y == ("__debug__" : Str)) = false := by decide) (hg : Gl X "isinstance" := by rfl)
    (he : starEach (.Name x p1 :: [.Name y p2]) X.env = (false, eval (.Name x p1) X.env) :: starEach [.Name y p2] X.env := by rfl) (hs2 : starEach (.Name y p2 :: []) X.env = (false, eval (.Name y p2) X.env) :: starEach [] X.env := by rfl) (hpl : (backTo pos (starEach [.Name y p2] X.env)).any (·.1) = false := by rfl) :
    PFE X i a cls d (.Call (.Name "isinstance" p) [.Name x p1, .Name y p2] [] pos) (tCB (rIsF K a cls d) (tCons (tVar i) (tCons (tC v) tNil))) mt := by
  subst hk
  exact ⟨pe_callB hc hg hm rfl (pa_cons (pe_var hN hv hd hcd) (pa_cons (pe_glob gy hy rv dy) pa_nil hs2) he) (by decide) (by decide) he hpl, fun m C b hC hmC hb σ H Q hσ dk q => by
    obtain ⟨EC, ek⟩ := hd' m b C hb hmC
    exact ⟨_, hσ, C, hC, dk, EC, v, u, b, rfl, hu, ek, q⟩⟩
theorem pft_tru {K : PySem.W.Frag} (hk : X.K = K) (h : PFE X i a cls d e te mt) (he : ∀ whole, isTrue e X.env whole = (do let v ← whole; standAt e.pos; holding [v] (truthy v)) := by intro _; rfl) : PFT X i a cls d e (fun σ H Q => te σ H fun x H' => ∃ k, TruV K x H' k ∧ Q k H') mt := by
  subst hk
  exact ⟨pt_truth h.p he, fun m C b h1 h3 h4 σ H Q hσ dk q => h.s m C b h1 h3 h4 σ H _ hσ dk ⟨b, rfl, q⟩⟩
theorem pft_not (h : PFT X i a cls d e tA mt) : PFT X i a cls d (.UnaryOp .Not e pos) (tNot tA) (fun m => (mt m).map (!·)) :=
  ⟨pt_not h.p, fun m C b h1 h3 h4 σ H Q hσ dk q => by
    cases e0 : mt m with
    | none =>
      rw [e0] at h4
      cases h4
    | some k =>
      rw [e0] at h4
      cases h4
      exact h.s m C k h1 h3 e0 σ H _ hσ dk q⟩
theorem pfw_and1 (h : PFT X i a cls d e tA mt) : PFW X i a cls d (.BoolOp .And [e] pos) tA mt := ⟨pw_and1 h.p, h.s⟩
theorem pfw_and (h : PFT X i a cls d e tA m1) (h2 : PFW X i a cls d (.BoolOp .And (b :: rest) pos) tB m2) : PFW X i a cls d (.BoolOp .And (e :: b :: rest) pos) (tAnd tA tB) (fun m => (m1 m).bind fun k => if k = true then m2 m else some false) :=
  ⟨pw_and h.p h2.p, fun m C k h1 h3 h4 σ H Q hσ dk q => by
    cases e0 : m1 m with
    | none =>
      rw [e0] at h4
      cases h4
    | some k0 =>
      rw [e0] at h4
      have h4 : (if k0 = true then m2 m else some false) = some k := h4
      refine h.s m C k0 h1 h3 e0 σ H _ hσ dk ?_
      cases k0 with
      | false =>
        cases h4
        exact iteF q
      | true => exact iteT (h2.s m C k h1 h3 h4 σ H _ hσ dk q)⟩
theorem PFW.t (h : PFW X i a cls d e tA mt) : PFT X i a cls d e tA mt := ⟨h.p.pt, h.s⟩
end
/-- arguments, e.f among them -/
structure PFA (X : Cx) (i : Nat) (a : Addr) (cls : Value) (d : Option Addr) (es : List Expr) (ta : TA) (mv : Str → FsD → Rho → Res (List Val)) : Prop where
  p : PA X es ta
  s : ∀ m fs C, cls = .ref C → X.mg m = some (.ref C) → ∀ (G0 : Bs) (H0 : Hp) (σ : L2.St) (G H : Hp) (ρ : Rho) (Q : List V → Hp → Prop), EnvS X.K G0 H0 σ G H ρ → σ[i]? = some (some (.ref a)) → XR fs X.K d G H → RR X.K X.mg W0 (RA X.K) σ G H Q (mv m fs ρ) → ta σ H Q
structure PFV (X : Cx) (i : Nat) (a : Addr) (cls : Value) (d : Option Addr) (e : Expr) (te : TE) (mv : Str → FsD → Rho → Res Val) : Prop where
  p : PE X e te
  s : ∀ m fs C, cls = .ref C → X.mg m = some (.ref C) → ∀ (G0 : Bs) (H0 : Hp) (σ : L2.St) (G H : Hp) (ρ : Rho) (Q : VK), EnvS X.K G0 H0 σ G H ρ → σ[i]? = some (some (.ref a)) → XR fs X.K d G H → RR X.K X.mg W0 (RV X.K) σ G H Q (mv m fs ρ) → te σ H Q
def mFN : Str → FsD → Rho → Res (List Val) := fun _ _ _ => .ok []
def mFC (mv : Str → FsD → Rho → Res Val) (ma : Str → FsD → Rho → Res (List Val)) : Str → FsD → Rho → Res (List Val) := fun m fs ρ => (mv m fs ρ).bind fun a => (ma m fs ρ).bind fun as => .ok (a :: as)
def mFP (me : Rho → Res Val) : Str → FsD → Rho → Res Val := fun _ _ => me
def mFT (ma : Str → FsD → Rho → Res (List Val)) : Str → FsD → Rho → Res Val := fun m fs => mTup (ma m fs)
def mFF (x f : Str) : Str → FsD → Rho → Res Val := fun m fs _ => if m = x then lift ((fs.lookup f).map Val.sh) else .no
theorem look_fs {K : PySem.W.Frag} {G : Hp} {f : Str} : ∀ {fv : List (Str × V)} {fs : FsD} {dt : D}, fv.map (·.1) = fs.map (·.1) → RpA K G (fv.map (·.2)) (fs.map (·.2)) → fs.lookup f = some dt → ∃ v, fv.lookup f = some v ∧ Rp K G v dt
  | [], [], _, _, _, h => by cases h
  | [], _ :: _, _, n, _, _ => by cases n
  | _ :: _, [], _, n, _, _ => by cases n
  | (g, v) :: fv, (g', dt') :: fs, dt, n, k, h => by
    simp only [List.map_cons, List.cons.injEq] at n
    obtain ⟨rfl, n⟩ := n
    cases k with
    | cons k1 k2 =>
      rw [lookup_put]
      simp only [List.lookup] at h
      by_cases e : f = g
      · subst e
        simp only [beq_self_eq_true] at h
        cases h
        exact ⟨v, by rw [if_pos rfl], k1⟩
      · have e' : (f == g) = false := by simpa using e
        rw [e'] at h
        rw [if_neg e]
        exact look_fs n k2 h
section
variable {X : Cx} {i : Nat} {a : Addr} {cls : Value} {d : Option Addr} {e : Expr} {te : TE} {tr : TA} {es : List Expr} {pos : Pos} {me : Rho → Res Val} {ma : Str → FsD → Rho → Res (List Val)} {mv : Str → FsD → Rho → Res Val}
theorem pfv_pure (h : PM X W0 e te me) : PFV X i a cls d e te (mFP me) := ⟨h.p, fun m fs C h1 h3 G0 H0 σ G H ρ Q I hσ x q => h.s G0 H0 σ G H ρ Q I q⟩
theorem pfv_fld {oe : Obj} {pn : List (Addr × Obj)} {C : Addr} {x n y : Str} {p1 : Pos} (T : XfC X.K C) (gC : X.mg x = some (.ref C)) (hno : PySem.W.findIn X.K (.ref C) n = some none) (hz : Zc cls d oe) (hf : ∃ vs, oe.data = .fields vs)
    (hN : X.N[i]? = some y := by rfl) (hv : Vis X.env.scope y := by first | exact Or.inl rfl | exact Or.inr (Or.inl rfl) | exact Or.inr (Or.inr rfl)) (hd : (y == ("__debug__" : Str)) = false := by decide) (hcd : (y == ("__classdict__" : Str)) = false := by decide)
    (hb : attributeBase (.Name y p1) n X.env (eval (.Name y p1) X.env) = eval (.Name y p1) X.env := by rfl) :
    PFV (X.suite a ((a, oe) :: pn)) i a cls d (.Attribute (.Name y p1) n pos) (tXf a cls d C n (tVar i)) (mFF x n) :=
  ⟨pe_xf T hno hz hf (pe_var (X := X.suite a ((a, oe) :: pn)) hN hv hd hcd) hb, fun m fs C' h1 h3 G0 H0 σ G H ρ Q I hσ xr q => by
    unfold mFF at q
    split at q
    · rename_i em
      subst em
      cases el : fs.lookup n with
      | none =>
        rw [el] at q
        exact q.elim
      | some dt =>
        rw [el] at q
        rcases xr with ⟨rfl, _⟩ | ⟨dd, fv, rfl, _, hh, nm, k⟩
        · cases el
        · obtain ⟨v, e1, e2⟩ := look_fs nm k el
          have ec : C' = C := by
            have z := (show X.mg m = some (.ref C') from h3).symm.trans gC
            cases z
            rfl
          subst ec
          exact ⟨_, hσ, rfl, h1, dd, fv, v, rfl, hh, e1, q G H v (Ext.refl I.s) e2⟩
    · exact q.elim⟩
theorem pfa_nil : PFA X i a cls d [] tNil mFN := ⟨pa_nil, fun m fs C h1 h3 G0 H0 σ G H ρ Q I hσ x q => q G H [] (Ext.refl I.s) .nil⟩
theorem pfa_cons (h1 : PFV X i a cls d e te mv) (h2 : PFA X i a cls d es tr ma) (hs : starEach (e :: es) X.env = (false, eval e X.env) :: starEach es X.env := by rfl) : PFA X i a cls d (e :: es) (tCons te tr) (mFC mv ma) :=
  ⟨pa_cons h1.p h2.p hs, fun m fs C hc h3 G0 H0 σ G H ρ Q I hσ x h => by
    refine h1.s m fs C hc h3 G0 H0 σ G H ρ _ I hσ x (RR.bnd (Ext.refl I.s) h fun a G1 H1 v ea e1 r1 h1' => ?_)
    exact h2.s m fs C hc h3 G0 H0 σ G1 H1 ρ _ (I.ext' e1) hσ (x.up e1) (RR.bnd e1 h1' fun as G2 H2 vs eas e2 r2 h2' => h2' G2 H2 (v :: vs) (e1.trans e2) (.cons (r1.ext e2) (r2.back e1.h)))⟩
theorem pfv_tup {x1} (h : PFA X i a cls d es tr ma) : PFV X i a cls d (.Tuple es x1 pos) (tTup tr) (mFT ma) :=
  ⟨pe_tup h.p, fun m fs C hc h3 G0 H0 σ G H ρ Q I hσ xr q => by
    refine h.s m fs C hc h3 G0 H0 σ G H ρ _ I hσ xr (RR.bnd (Ext.refl I.s) q fun a G1 H1 x ea e1 r1 h1 => ?_)
    obtain ⟨c, ec, q⟩ := h1.lift
    split at ec
    · split at ec
      · rename_i ds e2 hl
        cases ec
        obtain ⟨G2, x2, s2, k2⟩ := esc_all e1 r1 e2
        refine ⟨?_, fun p hp => ?_⟩
        · rw [k2.length]
          exact sz_le hl
        · exact q _ _ _ (x2.trans (Ext.newS x2.s hp)) (Rp.tup (.inl (.inl upd_same)) (k2.mono (same_new (x2.s.free hp))))
      · cases ec
    · cases ec⟩
end
/-! ### suites -/
structure PFS (X : Cx) (i : Nat) (a : Addr) (cls : Value) (d : Option Addr) (st : List Stmt) (ts : TS) (mh : Str → FsD → Rho → Out) : Prop where
  p : PSs X st ts
  s : ∀ m fs C, cls = .ref C → X.mg m = some (.ref C) → ∀ (G0 : Bs) (H0 : Hp) (σ : L2.St) (G H : Hp) (ρ : Rho) (D : Ends), EnvS X.K G0 H0 σ G H ρ → σ[i]? = some (some (.ref a)) → XR fs X.K d G H → OutR X.K X.mg W0 G0 H0 G D (mh m fs ρ) → ts D σ H
def mFVal (mv : Str → FsD → Rho → Res Val) : Str → FsD → Rho → Out := fun m fs ρ => match mv m fs ρ with
  | .ok r => .rt r
  | _ => .no
def mFIfs (mt : Str → Option Bool) (a : Str → FsD → Rho → Out) (r : Str → FsD → Rho → Out) : Str → FsD → Rho → Out := fun m fs ρ => match mt m with
  | some true => noNx (a m fs ρ)
  | some false => r m fs ρ
  | none => .no
section
variable {X : Cx} {i : Nat} {a : Addr} {cls : Value} {d : Option Addr} {e : Expr} {te : TE} {tt : TT} {mt : Str → Option Bool} {mv : Str → FsD → Rho → Res Val} {pos : Pos} {sts rest : List Stmt} {st : Stmt} {t u : TS} {mp : Rho → Out} {ma mr : Str → FsD → Rho → Out}
theorem pfs_val (h : PFV X i a cls d e te mv) : PFS X i a cls d [.Return (some e) pos] (tRet te) (mFVal mv) :=
  ⟨pss_one (ps_ret h.p), fun m fs C h1 h3 G0 H0 σ G H ρ D I hσ x q => by
    unfold mFVal at q
    refine h.s m fs C h1 h3 G0 H0 σ G H ρ _ I hσ x ?_
    cases e0 : mv m fs ρ with
    | no =>
      simp only [e0] at q
      exact q.elim
    | ex n fs =>
      simp only [e0] at q
      exact q.elim
    | ok r =>
      simp only [e0] at q
      exact fun G' H' v e1 z => q G' H' v (I.ext.trans e1) (z.back I.ext.h)⟩
theorem pfs_pure (h : PMSs X W0 sts t mp) : PFS X i a cls d sts t (fun _ _ => mp) := ⟨h.p, fun m fs C h1 h3 G0 H0 σ G H ρ D I hσ x q => h.s G0 H0 σ G H ρ D I q⟩
theorem pfs_ifs (h : PFT X i a cls d e tt mt) (ha : PFS X i a cls d sts t ma) (hr : PFS X i a cls d (st :: rest) u mr) : PFS X i a cls d (.If e sts [] pos :: st :: rest) (tSeq (tIfS tt t tNext) u) (mFIfs mt ma mr) :=
  ⟨pss_cons (ps_if h.p ha.p pss_nil) hr.p, fun m fs C h1 h3 G0 H0 σ G H ρ D I hσ x q => by
    unfold mFIfs at q
    cases e0 : mt m with
    | none =>
      rw [e0] at q
      exact q.elim
    | some k =>
      rw [e0] at q
      refine h.s m C k h1 h3 e0 σ H _ hσ x.dok ?_
      cases k with
      | true =>
        refine iteT (ha.s m fs C h1 h3 G0 H0 σ G H ρ _ I hσ x ?_)
        have q : OutR X.K X.mg W0 G0 H0 G D (noNx (ma m fs ρ)) := q
        cases eo : ma m fs ρ with
        | nx ρ' =>
          rw [eo] at q
          exact q.elim
        | rt r =>
          rw [eo] at q
          exact q
        | rx r ρ' =>
          rw [eo] at q
          exact q
        | bk ρ' =>
          rw [eo] at q
          exact q
        | ct ρ' =>
          rw [eo] at q
          exact q
        | ex n fs ρ' =>
          rw [eo] at q
          exact q
        | no =>
          rw [eo] at q
          exact q
      | false => exact iteF (hr.s m fs C h1 h3 G0 H0 σ G H ρ D I hσ x q)⟩
end
def mTryF (body : Rho → Out) (dec : Str → Option Bool) (i : Nat) (h : Str → FsD → Rho → Out) : Rho → Out := fun ρ => match body ρ with
  | .ex m fs ρ' => match dec m with
    | some true => if i < ρ'.length then offX i (h m fs (ρ'.set i none)) else .no
    | some false => .ex m fs ρ'
    | none => .no
  | o => o
theorem snd_tryF {K : PySem.W.Frag} {mg : Str → Option Value} {Wout : WX} {c : Value} {dec : Str → Option Bool} {i : Nat} {tb : WX → TS} {mb : Rho → Out} {ts : Addr → Value → Option Addr → TS} {mh : Str → FsD → Rho → Out} (hd : Decs K mg c dec)
    (hb : ∀ W, SndS K mg W (tb W) mb) (hh : ∀ a cls d m fs C, cls = .ref C → mg m = some (.ref C) → ∀ (G0 : Bs) (H0 : Hp) (σ : L2.St) (G H : Hp) (ρ : Rho) (D : Ends), EnvS K G0 H0 σ G H ρ → σ[i]? = some (some (.ref a)) → XR fs K d G H → OutR K mg W0 G0 H0 G D (mh m fs ρ) → ts a cls d D σ H) :
    SndS K mg Wout (fun D σ H => tb (wAs K c i ts Wout D) D σ H) (mTryF mb dec i mh) := by
  intro G0 H0 σ G H ρ D I q
  refine hb _ G0 H0 σ G H ρ D I ?_
  unfold mTryF at q
  cases eo : mb ρ with
  | nx ρ' =>
    rw [eo] at q
    exact q
  | rt r =>
    rw [eo] at q
    exact q
  | rx r ρx =>
    rw [eo] at q
    exact q
  | bk ρ' =>
    rw [eo] at q
    exact q
  | ct ρ' =>
    rw [eo] at q
    exact q
  | no =>
    rw [eo] at q
    exact q
  | ex m fs ρ' =>
    rw [eo] at q
    have q : OutR K mg Wout G0 H0 G D (match dec m with
      | some true => if i < ρ'.length then offX i (mh m fs (ρ'.set i none)) else .no
      | some false => .ex m fs ρ'
      | none => .no) := q
    intro σ' G' H' C d I' s' hC hx
    cases ed : dec m with
    | none =>
      rw [ed] at q
      exact q.elim
    | some b =>
      refine ⟨b, hd m b C ed hC, fun eb a ha => ?_, fun eb => ?_⟩
      · subst eb
        rw [ed] at q
        have q : OutR K mg Wout G0 H0 G D (if i < ρ'.length then offX i (mh m fs (ρ'.set i none)) else .no) := q
        split at q
        · rename_i hc
          refine hh a (.ref C) d m fs C rfl hC G0 H0 _ G' H' (ρ'.set i none) _ (I'.drop i (some (.ref a))) (by rw [List.getElem?_set_self (by rw [I'.len]; exact hc)]) hx ?_
          have q := OutR.up s' q
          cases eh : mh m fs (ρ'.set i none) with
          | nx ρ2 =>
            rw [eh] at q
            exact fun σ2 G2 H2 I2 s2 => q (σ2.set i none) G2 H2 (I2.drop i none) s2
          | rt r =>
            rw [eh] at q
            exact q
          | rx r ρx =>
            rw [eh] at q
            exact q
          | bk ρ2 =>
            rw [eh] at q
            exact fun σ2 G2 H2 I2 s2 => q (σ2.set i none) G2 H2 (I2.drop i none) s2
          | ct ρ2 =>
            rw [eh] at q
            exact fun σ2 G2 H2 I2 s2 => q (σ2.set i none) G2 H2 (I2.drop i none) s2
          | no =>
            rw [eh] at q
            exact q
          | ex m2 fs2 ρ2 =>
            rw [eh] at q
            exact q.elim
        · exact q.elim
      · subst eb
        rw [ed] at q
        exact q σ' G' H' C d I' s' hC hx
section
variable {X : Cx} {Wout : WX} {x n : Str} {c : Value} {i : Nat} {body suite : List Stmt} {b₀ : Stmt} {np pos pos' : Pos} {tb : WX → TS} {mb : Rho → Out} {ts : Addr → Value → Option Addr → TS} {mh : Str → FsD → Rho → Out} {dec : Str → Option Bool}
theorem pms_tryF (hs : X.stack = X.env :: X.outer) (hf : X.env.frame = some X.env.locals) (hN : X.N.Nodup) (hi : X.N[i]? = some n) (hln : X.env.kindOf n = some .local) (gc : X.mg x = some c) (tk : Takes X Wout) (hd : Decs X.K X.mg c dec)
    (hb : ∀ (W : WX) (pn : List (Addr × Obj)) (xe : Value → Shared → Prop), Takes (X.tr pn xe) W → PMSs (X.tr pn xe) W body (tb W) mb)
    (hh : ∀ (a : Addr) (oe : Obj) (cls : Value) (d : Option Addr) (pn : List (Addr × Obj)), Zc cls d oe → (∃ vs, oe.data = .fields vs) → CallR (X.suite a ((a, oe) :: pn)) (.builtin "isinstance") (rIsF X.K a cls d) → PFS (X.suite a ((a, oe) :: pn)) i a cls d (b₀ :: suite) (ts a cls d) mh) (gl : Gl X x := by rfl) (db : (x == ("__debug__" : Str)) = false := by decide) :
    PMS X Wout (.Try body [.ExceptHandler (some (.Name x np)) (some n) (b₀ :: suite) pos'] [] [] pos) (fun D σ H => tb (wAs X.K c i ts Wout D) D σ H) (mTryF mb dec i mh) := by
  refine ⟨ps_try_as hs hf hN hi hln ⟨gl, db, .inl gc⟩ tk (fun W pn xe t _ => (hb W pn xe t).p) (fun a oe cls d pn hz hf => (hh a oe cls d pn hz hf (call_isF hz hf)).p), snd_tryF hd (fun W => ?_) fun a cls d m fs C h1 h3 => ?_⟩
  · exact (hb W [] (fun u s' => XE (X.tr [] fun _ _ => False) W u s') fun u s' ⟨a, B, sI, pins, σ, H, cls, d, e, J, rest⟩ => ⟨a, B, sI, pins, σ, H, cls, d, e, J.wish (fun _ _ => False), rest⟩).s
  · exact (hh a { cls := cls, dict := d, data := .fields #[] } cls d [] ⟨rfl, rfl⟩ ⟨_, rfl⟩ (call_isF ⟨rfl, rfl⟩ ⟨_, rfl⟩)).s m fs C h1 h3
end
end Mi

/-! enumerate(l, start=k) over a list; k in d; a dict of one's own that gets one more pair. -/
namespace L2
open PySem PySem.Spec PyProof.Rows
/-- the list at a, numbered from c -/
def Itel (K : PySem.W.Frag) (c : Int) (a : Addr) : It :=
  ⟨fun i H => ∃ (xs : List V) (x : V), SqL K H a xs ∧ xs[i]? = some x, fun i H v H' => ∃ T x, v = .ref T ∧ H T = none ∧ H' = upd H T (.tup [.int (c + (i : Nat)), x]) ∧ ∀ xs, SqL K H a xs → xs[i]? = some x, fun i H => ∃ xs : List V, SqL K H a xs ∧ xs.length ≤ i⟩
theorem turn_enuml {P : Program} {w : World} {K : PySem.W.Frag} {elts : List Expr} {kk : Nat} {tpos : Pos} (c : Int) (a e it : Addr) :
    Turn P w K (.Tuple elts kk tpos) (Itel K c a) [e, it] e (fun i h => (∃ old, IsEnum h e it (c + ((i : Nat) : Int)) old) ∧ h.IsListIter it a i ∧ e ≠ it ∧ a ≠ it ∧ e ≠ a) where
  mem := by simp
  obj := fun i h st b hb => by
    obtain ⟨⟨old, he⟩, ⟨o, ho, hc, hd⟩, _⟩ := st
    have e' : b = e ∨ b = it := by simpa using hb
    rcases e' with z | z
    · rw [z]; exact ⟨_, he, fun v q => nomatch q⟩
    · rw [z]; exact ⟨o, ho, fun v q => by rw [hd] at q; cases q⟩
  keep := fun i h h' st k => let ⟨⟨old, he⟩, hi, hne⟩ := st; ⟨⟨old, k e (by simp) _ he⟩, hi.at fun o q => k it (by simp) o q, hne⟩
  item := by
    intro X hP hw hK hc i pins s σ H E I hf st hg
    subst hP hw hK
    obtain ⟨⟨old, he⟩, hit, hne, hai, hea⟩ := st
    obtain ⟨xs, x, hq, hx⟩ := hg
    obtain ⟨its, rv, p, hz⟩ := I.list hq
    obtain ⟨u, hu, ru⟩ := rv.get hx
    have hel : e < s.heap.objs.size := Heap.lt_size he
    have hil : it < s.heap.objs.size := by obtain ⟨_, q, _⟩ := hit; exact Heap.lt_size q
    have hil2 : i < its.toArray.size := by
      have q := List.getElem?_eq_some_iff.mp hu
      obtain ⟨q, _⟩ := q
      simpa using q
    refine wpAny_pyNext_enum_itemC (Draws.list (A := X.A.in1) (I.ok.hd hc) it a hai its.toArray) he (St := _) ⟨hit, p.isList⟩ hil2 hne (by simp [hne, hea]) fun y h' tk hy ho hit' hT hsz hk => ?_
    have eyu : y = u := by
      have q : its[i]? = some y := by simpa using hy
      rw [hu] at q
      cases q
      rfl
    subst eyu
    refine ⟨_, rfl, wpAny_letOwnedTupleGo_enum (s := { s with heap := h', toks := tk + 1 }) ho fun h'' he' sb => ?_⟩
    have hT2 : h''.get? s.heap.objs.size = some { cls := .type "tuple", data := .seq #[.int (c + ((i : Nat) : Int)) tk, y] } := (sb.2 _ (Nat.ne_of_gt hel)).trans hT
    have new : ObjOk X.prog X.w (upd H s.heap.objs.size (.tup [.int (c + ((i : Nat) : Int)), x])) h'' s.heap.objs.size (.tup [.int (c + ((i : Nat) : Int)), x]) :=
      ⟨by show 2 ≤ sizeLine; decide, [.int (c + ((i : Nat) : Int)) tk, y], .cons ⟨_, rfl⟩ (.cons ru .nil), ⟨_, hT2, rfl, _, rfl⟩⟩
    have I1 : Inv X pins σ (upd H s.heap.objs.size (.tup [.int (c + ((i : Nat) : Int)), x])) { s with heap := h'', toks := tk + 1 } :=
      I.turnedNew (ch := [e, it]) (fun b ob hb q => (sb.2 b (fun z => hb (by simp [z]))).trans (hk b ob (fun z => hb (by simp [z])) (fun z => hb (by simp [z])) q)) hf (Nat.le_refl _) new
    refine ⟨.ref s.heap.objs.size, _, I1, rfl, ⟨_, x, rfl, I.hok.fresh (Nat.le_refl _), rfl, fun ys hy => by rw [I.list_inj hy hq]; exact hx⟩, ⟨⟨y, ?_⟩, hit'.1.at fun o q => (sb.2 it (Ne.symm hne)).trans q, hne, hai, hea⟩, fun b hb => ?_⟩
    · have e1 : c + ((i + 1 : Nat) : Int) = c + (i : Int) + 1 := by omega
      rw [e1]; exact he'
    · have hb' : b < s.heap.objs.size := by
        have e' : b = e ∨ b = it := by simpa using hb
        rcases e' with z | z
        · rw [z]; exact hel
        · rw [z]; exact hil
      rw [upd_ne (Nat.ne_of_lt hb')]
      exact (hf b hb).1
  done := by
    intro X hP hw hK hc i pins s σ H E I hf st hg
    subst hP hw hK
    obtain ⟨⟨old, he⟩, hit, hne, hai, hea⟩ := st
    obtain ⟨xs, hq, hx⟩ := hg
    obtain ⟨its, rv, p, hz⟩ := I.list hq
    obtain ⟨f0, f1, f2, f3, f4, f5⟩ := hf it (by simp)
    have hl := rv.length
    have hn : its.toArray[i]? = none := by simp; omega
    have D : Draws X.prog X.w X.A.in1 it [it, a] i (fun _ _ => False) (fun j h => j = i ∧ h.IsListIter it a i ∧ h.IsList a its.toArray) :=
      { live := fun _ _ st => let ⟨o, ho, _⟩ := st.2.1; ⟨o, ho⟩
        frame := fun _ _ _ st hk => ⟨st.1, st.2.1.at fun o e => hk it (by simp) o e, st.2.2.at fun o e => hk a (by simp) o e⟩
        item := fun j s Q E hj st _ => by
          have q := st.1
          omega
        done := fun s Q E st hE => wpAny_nextOf_list_end (I.ok.hd hc) st.2.1 st.2.2 hn hE }
    exact wpAny_pyNext_enum_endD D he ⟨rfl, hit, p.isList⟩ fun h' eb => ⟨rfl, I.turned (t' := s.toks) (fun b o hb q => eb b o hb q) f0 f1 f3 f4 f5⟩
  self := fun A i s Q E st h => let ⟨⟨_, he⟩, _⟩ := st; wpAny_pyIter_enum he h
def iEnuml (K : PySem.W.Frag) (ta : TA) (tk : TE) : TI := fun σ H R => ta σ H fun vs H1 => tk σ H1 fun x H2 => ∃ a xs c, vs = [.ref a] ∧ x = .int c ∧ -(2 ^ 63) ≤ c ∧ c < 2 ^ 63 ∧ SqL K H2 a xs ∧ R (Itel K c a) H2
theorem pi_enuml {X : Cx} {e ke : Expr} {ta : TA} {tk : TE} {p pos tpos kp : Pos} {elts : List Expr} {kk : Nat} (hg : Gl X "enumerate") (hm : X.mg "enumerate" = none) (ha : PA X [e] ta) (hk : PE X ke tk) (hs : backTo pos (starEach [e] X.env) = [(false, eval e X.env)] := by rfl) :
    PI X (.Tuple elts kk tpos) (.Call (.Name "enumerate" p) [e] [⟨some "start", ke, kp⟩] pos) (iEnuml X.K ta tk) := by
  refine ⟨fun pins s σ H R I h => ?_⟩
  refine wpAny_Call_Name_kw (ld_blt I hg hm boot_enumerate (callWith_type1kw (thn (ha.run pos pins s σ H _ I h) fun us s1 ⟨vs, H1, I1, r1, q1⟩ => ?_) hs))
  have sv := I1
  refine thn (hk.run pins s1 σ H1 _ I1 q1) fun kv s2 ⟨x, H2, I2, rx, q2⟩ => ?_
  obtain ⟨a, xs, c, ex, rfl, c0, c1, hq, q⟩ := q2
  subst ex
  cases r1 with
  | cons r rr =>
    cases rr
    cases r
    obtain ⟨t, rfl⟩ := rx
    obtain ⟨its, rv, p', hz⟩ := I2.list hq
    refine enum_begins_start (begins_list a its.toArray) p'.isList c0 c1 fun h' he hit hsz hk => wpAny_pyIter_enum he ?_
    have I3 : Inv X pins σ H2 { s2 with heap := h' } := I2.kept (t' := s2.toks) hk
    have hal : a < s2.heap.objs.size := by obtain ⟨_, q, _⟩ := p'.isList; exact Heap.lt_size q
    refine ⟨s2.heap.objs.size + 1, [s2.heap.objs.size + 1, s2.heap.objs.size], _, _, H2, rfl, I3, turn_enuml c a (s2.heap.objs.size + 1) s2.heap.objs.size, ⟨⟨.none, by simpa using he⟩, ⟨_, hit, rfl, rfl⟩, Nat.succ_ne_self _, Nat.ne_of_lt hal, fun z => ?_⟩, fun b hb => ?_, q⟩
    · have z : (s2.heap.objs.size + 1 : Nat) = a := z
      exact absurd (z ▸ hal : s2.heap.objs.size + 1 < s2.heap.objs.size) (Nat.not_lt.mpr (Nat.le_succ _))
    · have e' : b = s2.heap.objs.size + 1 ∨ b = s2.heap.objs.size := by simpa using hb
      have hle : s2.heap.objs.size ≤ b := by
        rcases e' with z | z
        · rw [z]; exact Nat.le_add_right _ _
        · rw [z]; exact Nat.le_refl _
      exact I2.fpOk hle (I2.hok.fresh hle)
end L2
namespace Mi
open PySem PySem.Spec PyProof.Rows L2
def mIterEl (ma : Rho → Res (List Val)) (mk : Rho → Res Val) : Rho → Res (List D) := fun ρ => (ma ρ).bind fun as => (mk ρ).bind fun k => lift (match as, k with
  | [a], .sh (.int c) => if Nat.ble c.natAbs 1000000 then (fix a).map (numberedI c) else none
  | _, _ => none)
theorem its_enuml {K : PySem.W.Frag} {Ga Ha : Hp} {a : Addr} {vs : List V} {xs : List D} {c : Int} (h : SqL K Ga a vs) (k : RpA K Ga vs xs) : ItS K Ga Ha (Itel K c a) (numberedI c xs) := by
  have hv : ∀ {G H : Hp}, Same Ga G → Same G H → SqL K H a vs := fun e1 e2 => e2.seq (e1.seq h)
  refine ⟨fun i G H e1 e2 hi => ?_, fun i G H e1 e2 hi => ⟨vs, hv e1 e2, by rw [k.length, ← numberedI_len c xs]; exact hi⟩, fun i G H x H' e1 e2 hi y => ?_⟩
  · have hi' : i < vs.length := by rw [k.length, ← numberedI_len c xs]; exact hi
    exact ⟨vs, vs[i], hv e1 e2, List.getElem?_eq_getElem hi'⟩
  · obtain ⟨T, z, rfl, nT, rfl, f⟩ := y
    obtain ⟨d, ed, rd⟩ := k.getV (f vs (hv e1 e2))
    refine ⟨_, _, numberedI_get c xs i d ed, Ext.newS e2 nT, ?_⟩
    exact Rp.tup (.inl (.inl upd_same)) (.cons (.int _) (.cons (Rp.mono (e1.trans (same_new (e2.free nT))) rd) .nil))
theorem sndi_el {K : PySem.W.Frag} {mg : Str → Option Value} {W : WX} {ta : TA} {ma : Rho → Res (List Val)} {te : TE} {me : Rho → Res Val} (h : SndA K mg W ta ma) (h2 : Snd K mg W te me) : SndI K mg W (iEnuml K ta te) (mIterEl ma me) := by
  intro G0 H0 σ G H ρ R I q
  refine h G0 H0 σ G H ρ _ I (RR.bnd (Ext.refl I.s) q fun as G1 H1 vs ea e1 r1 h1 => ?_)
  refine h2 G0 H0 σ G1 H1 ρ _ (I.ext' e1) (RR.bnd e1 h1 fun kv G2 H2 y eb e2 r2 q2 => ?_)
  obtain ⟨xs, ex, q3⟩ := q2.lift
  split at ex
  · rename_i r c
    split at ex
    · rename_i hc
      obtain ⟨v, rfl, z⟩ := vrs1 r1
      have hb := Nat.le_of_ble_eq_true hc
      cases (show Rp K G2 y _ from r2) with
      | int =>
        cases ef : fix r with
        | none =>
          rw [ef] at ex
          cases ex
        | some ys =>
          rw [ef] at ex
          cases ex
          obtain ⟨p, vs, G3, rfl, e3, hs, k⟩ := fix_ok (e1.trans e2) (z.ext e2) ef
          exact ⟨p, vs, _, rfl, rfl, by omega, by omega, e3.s.seq hs, q3 G3 H2 _ e3 (its_enuml hs k)⟩
    · cases ex
  · cases ex
theorem pmi_el {X : Cx} {W : WX} {a ke : Expr} {ta : TA} {ma : Rho → Res (List Val)} {te : TE} {me : Rho → Res Val} {p pos tpos kp : Pos} {elts : List Expr} {kk : Nat} (hm : X.mg "enumerate" = none) (h : PMA X W [a] ta ma) (h2 : PM X W ke te me) (hg : Gl X "enumerate" := by rfl) (hs : backTo pos (starEach [a] X.env) = [(false, eval a X.env)] := by rfl) : PMI X W (.Tuple elts kk tpos) (.Call (.Name "enumerate" p) [a] [⟨some "start", ke, kp⟩] pos) (iEnuml X.K ta te) (mIterEl ma me) := ⟨pi_enuml hg hm h.p h2.p hs, sndi_el h.s h2.s⟩

/-! ### k in d, d shared -/
def mInI (neg : Bool) (mk md : Rho → Res Val) : Rho → Res Val := fun ρ => (mk ρ).bind fun rk => (md ρ).bind fun o => lift (match o, keyOf rk with
  | .sh (.dict ds), some k => some (.sh (.bool (neg != (getD2 ds k).isSome)))
  | _, _ => none)
def tInI (neg : Bool) (ty td : TE) : TE := fun σ H Q => ty σ H fun y H1 => td σ H1 fun x H2 => ∃ a o, x = .ref a ∧ DGet H2 a y o ∧ Q (.bl (neg != o.isSome)) H2
theorem snd_inI {K : PySem.W.Frag} {mg : Str → Option Value} {W : WX} {tk td : TE} {mk md : Rho → Res Val} (neg : Bool) (hk : Snd K mg W tk mk) (hd : Snd K mg W td md) : Snd K mg W (tInI neg tk td) (mInI neg mk md) := by
  intro G0 H0 σ G H ρ Q I h
  refine hk G0 H0 σ G H ρ _ I (RR.bnd (Ext.refl I.s) h fun rk G1 H1 y ek e1 r1 h1 => ?_)
  refine hd G0 H0 σ G1 H1 ρ _ (I.ext' e1) (RR.bnd e1 h1 fun o G2 H2 x eo e2 r2 h2 => ?_)
  obtain ⟨c, ec, q⟩ := h2.lift
  split at ec
  · rename_i ds k hk2
    cases ec
    cases (show Rp K G2 x (.dict ds) from r2) with
    | @dct a kvs _ ha kf =>
      have hk3 : H2 a = some (.dK kvs) := e2.s _ _ ha
      have z := DGet.k (k := k) hk3
      have ky := keyOf_ok (r1.ext e2) hk2
      rcases get_ok k kf with ⟨n1, n2⟩ | ⟨d, v, s1, s2, f⟩
      · rw [n1] at q
        refine ⟨a, none, rfl, ?_, q G2 H2 _ (e1.trans e2) (.bl _)⟩
        rw [n2] at z
        rw [ky]
        exact z
      · rw [s1] at q
        refine ⟨a, some v, rfl, ?_, q G2 H2 _ (e1.trans e2) (.bl _)⟩
        rw [s2] at z
        rw [ky]
        exact z
  · cases ec
section
variable {X : Cx} {W : WX} {o i : Expr} {td tk : TE} {md mk : Rho → Res Val} {pos : Pos}
theorem pc_inI (hu : X.A.units + 64 < cLine) (hk : PE X i tk) (hd : PE X o td) : PC X .In i o (tInI false tk td) := by
  have k := pc_din (by omega) hk hd
  refine ⟨fun pins s σ H Q I h => k.run pins s σ H Q I ?_⟩
  have e : ∀ o : Option V, (false != o.isSome) = o.isSome := fun o => by cases o <;> rfl
  unfold tInI at h
  simp only [e] at h
  exact h
theorem pc_ninI (hu : X.A.units + 64 < cLine) (hk : PE X i tk) (hd : PE X o td) : PC X .NotIn i o (tInI true tk td) := by
  have k := pc_dnotin (by omega) hk hd
  refine ⟨fun pins s σ H Q I h => k.run pins s σ H Q I ?_⟩
  have e : ∀ o : Option V, (true != o.isSome) = (!o.isSome) := fun o => by cases o <;> rfl
  unfold tInI at h
  simp only [e] at h
  exact h
theorem pm_inI (hu : X.A.units + 64 < cLine) (hk : PM X W i tk mk) (hd : PM X W o td md) (h1 : behindInMarks .In o = false := by first | exact nobehind _ (by decide) (by decide) | rfl) : PM X W (.Compare i [.In] [o] pos) (tInI false tk td) (mInI false mk md) :=
  ⟨pe_cmp (pc_inI hu hk.p hd.p) h1, snd_inI false hk.s hd.s⟩
theorem pm_ninI (hu : X.A.units + 64 < cLine) (hk : PM X W i tk mk) (hd : PM X W o td md) (h1 : behindInMarks .NotIn o = false := by first | exact nobehind _ (by decide) (by decide) | rfl) : PM X W (.Compare i [.NotIn] [o] pos) (tInI true tk td) (mInI true mk md) :=
  ⟨pe_cmp (pc_ninI hu hk.p hd.p) h1, snd_inI true hk.s hd.s⟩
end

/-! ### x = {k: v for ..}; x[k] = v -/
def mDP (x : Nat) (mi : Rho → Res (List D)) (bp : BP) (mt : Rho → Res Bool) (mk mv : Rho → Res Val) (vs : List Nat) (mk2 mv2 : Rho → Res Val) : Rho → Out := fun ρ => match mi ρ with
  | .ok xs => match dcomp bp mt mk mv (wipeR ρ vs) xs [] with
    | .ok acc => match dstep x mk2 mv2 acc (ρ.set x none) with
      | some acc' => if x < ρ.length then .nx ((ρ.set x none).set x (some (.sh (dictD acc')))) else .no
      | none => .no
    | _ => .no
  | _ => .no
theorem snd_dp {K : PySem.W.Frag} {mg : Str → Option Value} {W : WX} {x : Nat} {wi : TI} {mi : Rho → Res (List D)} {g : TG} {bp : BP} {ts : List Nat} {tt : TT} {mt : Rho → Res Bool} {tk tv tk2 tv2 : TE} {mk mv mk2 mv2 : Rho → Res Val} {vs : List Nat} (hi : SndI K mg W wi mi) (hg : SndG K g bp ts) (hts : ∀ t ∈ ts, t ∈ vs)
    (ht : SndT K mg W0 tt mt) (hk : Snd K mg W0 tk mk) (hv : Snd K mg W0 tv mv) (hk2 : Snd K mg W tk2 mk2) (hv2 : Snd K mg W tv2 mv2) :
    SndS K mg W (tSeq (tAsg (tDc wi g tt tk tv vs) (gName x)) (sDPut (tVar x) tk2 tv2)) (mDP x mi bp mt mk mv vs mk2 mv2) := by
  intro G0 H0 σ G H ρ D I q
  unfold mDP at q
  split at q
  · rename_i xs exs
    split at q
    · rename_i acc eacc
      split at q
      · rename_i acc' es
        split at q
        · rename_i hlen
          show tDc wi g tt tk tv vs σ H (fun v H1 => sDPut (tVar x) tk2 tv2 D (σ.set x (some v)) H1)
          refine dc_own hi hg hts ht hk hv I exs eacc fun G1 H1 p av e1 hp0 g1 hp1 ka => ?_
          show sDPut (tVar x) tk2 tv2 D (σ.set x (some (.ref p))) H1
          have h0 : H0 p = none := I.ext.h.free hp0
          have I1 : EnvS K G0 H0 (σ.set x (some (.ref p))) G1 H1 (ρ.set x none) := (I.ext' e1).drop x (some (.ref p))
          have hx1 : (σ.set x (some (V.ref p)))[x]? = some (some (.ref p)) := by
            rw [List.getElem?_set, if_pos rfl, if_pos (by rw [I.len]; exact hlen)]
          refine dput_run hk2 hv2 I1 hp1 g1 h0 hx1 ka es fun H2 av2 I2 hp2 ka2 => ?_
          exact q _ _ H2 (I2.shD hp2 g1 h0 hx1 ka2) (e1.g.trans (same_new g1))
        · exact q.elim
      · exact q.elim
    · exact q.elim
  · exact q.elim
section
variable {X : Cx} {W : WX} {kx vx tg iter : Expr} {ifs : List Expr} {scope : Scope} {pos : Pos} {wi : TI} {mi : Rho → Res (List D)} {g : TG} {bp : BP} {ts : List Nat} {tt : TT} {mt : Rho → Res Bool} {tk tv : TE} {mk mv : Rho → Res Val}
theorem pmss_dp (x : Nat) (own : List (Str × Nat)) {y : Str} {py spos : Pos} (hc : X.calm = true) (hN : X.N.Nodup) (hy : X.N[x]? = some y) (hyl : X.env.scope.names.lookup y = some .local)
    (hsw : swapsWith (.DictComp kx vx [⟨tg, iter, ifs, 0⟩] scope pos) (some (.Name y py)) spos.line X.env = pure true) (hi : PMI X W tg iter wi mi) (ok : BlkOk X.N X.env.scope scope own) (hts : ∀ t ∈ ts, t ∈ own.map (·.2))
    (hg : ∀ (s : Shared) (H : Hp) (C : Addr) (cl : List (Str × Addr)) (fp : List Addr), PMG (X.blk s H scope (compEnvC scope cl C X.env) fp) tg g bp ts)
    (ht : ∀ (s : Shared) (H : Hp) (C : Addr) (cl : List (Str × Addr)) (fp : List Addr), PMTs (X.blk s H scope (compEnvC scope cl C X.env) fp) W0 ifs tt mt)
    (hk : ∀ (s : Shared) (H : Hp) (C : Addr) (cl : List (Str × Addr)) (fp : List Addr), PM (X.blk s H scope (compEnvC scope cl C X.env) fp) W0 kx tk mk)
    (hv : ∀ (s : Shared) (H : Hp) (C : Addr) (cl : List (Str × Addr)) (fp : List Addr), PM (X.blk s H scope (compEnvC scope cl C X.env) fp) W0 vx tv mv)
    {i value : Expr} {p2 p3 p4 : Pos} {rest : List Stmt} {tk2 tv2 : TE} {mk2 mv2 : Rho → Res Val} {u : TS} {b : Rho → Out}
    (hu : X.A.units + 64 < cLine) (hk2 : PM X W i tk2 mk2) (hv2 : PM X W value tv2 mv2) (hr : PMSs X W rest u b)
    (hs : ∀ x, foldedSetIterable iter X.env x = pure x := by intro _; rfl) (hw : swapsWith value (some (.Subscript (.Name y p4) i p2)) p3.line X.env = pure false := by rfl)
    (hvi : Vis X.env.scope y := by first | exact Or.inl rfl | exact Or.inr (Or.inl rfl) | exact Or.inr (Or.inr rfl)) (hd : (y == ("__debug__" : Str)) = false := by decide) (hcd : (y == ("__classdict__" : Str)) = false := by decide) :
    PMSs X W (.Assign [.Name y py] (.DictComp kx vx [⟨tg, iter, ifs, 0⟩] scope pos) spos :: .Assign [.Subscript (.Name y p4) i p2] value p3 :: rest) (tSeq (tAsg (tDc wi g tt tk tv (own.map (·.2))) (gName x)) (tSeq (sDPut (tVar x) tk2 tv2) u))
      (mSeq (mDP x mi bp mt mk mv (own.map (·.2)) mk2 mv2) b) := by
  have S : SndS X.K X.mg W (tSeq (tAsg (tDc wi g tt tk tv (own.map (·.2))) (gName x)) (sDPut (tVar x) tk2 tv2)) (mDP x mi bp mt mk mv (own.map (·.2)) mk2 mv2) :=
    snd_dp hi.s (hg X.s_0 X.H_0 0 [] []).s hts (ht X.s_0 X.H_0 0 [] []).s (hk X.s_0 X.H_0 0 [] []).s (hv X.s_0 X.H_0 0 [] []).s hk2.s hv2.s
  have T := snd_seq S hr.s
  exact ⟨pss_cons (pms_setDc x own hc hN hy hyl hsw hi ok hts hg ht hk hv hs).p (pss_cons (ps_dput (by omega) (pe_var hy hvi hd hcd) hk2.p hv2.p hw) hr.p), T⟩
end
end Mi

/-! Mirrors evaluated: lists of ints. -/
namespace Mi
open PySem PySem.Spec PyProof.Rows L2
abbrev iL (ns : List Int) : D := .list (ns.map .int)
abbrev I (i : Int) : Option Val := some (.sh (.int i))
abbrev SL (ns : List Int) : Option Val := some (.sh (iL ns))
abbrev OL (ns : List Int) : Option Val := some (.ow (ns.map .int))
theorem eqv_int (a b : Int) : PyData.eqv (.int a) (.int b) = decide (a = b) := by
  rw [PyData.eqv]
  rfl
theorem eqv_str (a b : Str) : PyData.eqv (.str a) (.str b) = (a == b) := by
  rw [PyData.eqv]
theorem eqvAll_iL : ∀ a b : List Int, PyData.eqvAll (a.map .int) (b.map .int) = decide (a = b)
  | [], [] => rfl
  | [], _ :: _ => rfl
  | _ :: _, [] => rfl
  | x :: a, y :: b => by
    rw [List.map_cons, List.map_cons, PyData.eqvAll, eqvAll_iL a b, eqv_int]
    by_cases h1 : x = y <;> by_cases h2 : a = b <;> simp [h1, h2]
theorem eqv_iL (a b : List Int) : PyData.eqv (iL a) (iL b) = decide (a = b) := by
  rw [PyData.eqv]
  exact eqvAll_iL a b
theorem canLay_iL : ∀ a : List Int, PyData.canLayAll0 (a.map .int) = true
  | [] => by simp [PyData.canLayAll0]
  | x :: a => by
    rw [List.map_cons, PyData.canLayAll0, canLay_iL a]
    rfl
theorem depth_iL : ∀ a : List Int, PyData.depthAll (a.map .int) = 0
  | [] => by simp [PyData.depthAll]
  | x :: a => by
    rw [List.map_cons, PyData.depthAll, depth_iL a]
    rfl
theorem shaped_iL (a : List Int) : SeqAt.shaped (iL a) = true := by
  unfold SeqAt.shaped
  have h1 : PyData.canLay0 (iL a) = true := by
    rw [PyData.canLay0]
    exact canLay_iL a
  have h2 : PyData.depth (iL a) = 1 := by
    rw [PyData.depth, depth_iL a]
  rw [h1, h2]
  rfl
theorem shaped_int (a : Int) : SeqAt.shaped (.int a) = true := rfl
/-- lo, lo + 1, .. -/
def upto (lo : Int) (n : Nat) : List Int := (List.range n).map fun (i : Nat) => lo + (i : Int)
theorem rangeD_upto (lo : Int) (n : Nat) : rangeD lo n = (upto lo n).map .int := by
  unfold rangeD upto
  rw [List.map_map]
  rfl
theorem upto_len (lo : Int) (n : Nat) : (upto lo n).length = n := by
  unfold upto
  rw [List.length_map, List.length_range]
theorem upto_mem {lo : Int} {n : Nat} {v : Int} : v ∈ upto lo n ↔ lo ≤ v ∧ v < lo + n := by
  unfold upto
  rw [List.mem_map]
  constructor
  · rintro ⟨i, hi, rfl⟩
    have := List.mem_range.mp hi
    omega
  · rintro ⟨h1, h2⟩
    exact ⟨(v - lo).toNat, List.mem_range.mpr (by omega), by omega⟩
theorem upto_get {lo : Int} {n i : Nat} (h : i < n) : (upto lo n)[i]? = some (lo + i) := by
  unfold upto
  rw [List.getElem?_map, List.getElem?_range h]
  rfl
theorem upto_succ (lo : Int) (n : Nat) : upto lo (n + 1) = lo :: upto (lo + 1) n := by
  unfold upto
  rw [List.range_succ_eq_map, List.map_cons, List.map_map]
  congr 1
  · simp
  · apply List.map_congr_left
    intro i _
    simp
    omega
theorem upto_sorted : ∀ (n : Nat) (lo : Int), (upto lo n).Pairwise (· ≤ ·)
  | 0, lo => .nil
  | n + 1, lo => by
    rw [upto_succ]
    refine List.pairwise_cons.mpr ⟨fun v hv => ?_, upto_sorted n (lo + 1)⟩
    have := upto_mem.mp hv
    omega
theorem upto_nodup : ∀ (n : Nat) (lo : Int), (upto lo n).Nodup
  | 0, lo => .nil
  | n + 1, lo => by
    rw [upto_succ]
    refine List.nodup_cons.mpr ⟨fun hv => ?_, upto_nodup n (lo + 1)⟩
    have := upto_mem.mp hv
    omega
theorem isort_of_perm {ns ms : List Int} (h : ns.Perm ms) (s : ms.Pairwise (· ≤ ·)) : isort ns = ms := sorted_uniq ((isort_perm ns).trans h) (isort_sorted ns) s
theorem mpush (acc : List Int) (v : Int) : acc.map PyData.int ++ [.int v] = (acc ++ [v]).map .int := by
  rw [List.map_append]
  rfl
theorem mcat (a b : List Int) : a.map PyData.int ++ b.map .int = (a ++ b).map .int := (List.map_append).symm
theorem mrev (a : List Int) : (a.map PyData.int).reverse = a.reverse.map .int := (List.map_reverse).symm
theorem mset (a : List Int) (j : Nat) (v : Int) : (a.map PyData.int).set j (.int v) = (a.set j v).map .int := by rw [List.map_set]
theorem mrep (n : Nat) (v : Int) : List.replicate n (PyData.int v) = (List.replicate n v).map .int := by rw [List.map_replicate]
theorem mcut (a : List Int) (lo hi : Option Int) : cutD (a.map .int) lo hi = ((a.drop (HT.sIx a.length 0 lo)).take (HT.sIx a.length a.length hi - HT.sIx a.length 0 lo)).map .int := by
  unfold cutD
  rw [List.length_map, List.map_take, List.map_drop]
theorem mat (a : List Int) (i : Int) : atI (a.map PyData.int) i = (atI a i).map .int := by
  unfold atI
  rw [List.length_map]
  cases ixN a.length i with
  | none => rfl
  | some j => exact List.getElem?_map
theorem ixN_in {n : Nat} {i : Int} (h0 : 0 ≤ i) (h1 : i < n) : ixN n i = some i.toNat := by
  unfold ixN
  rw [if_pos h0, if_pos h1]
theorem atI_in {a : List Int} {i : Int} (h0 : 0 ≤ i) (h1 : i < a.length) : ∃ v, a[i.toNat]? = some v ∧ atI a i = some v := by
  have h : i.toNat < a.length := by omega
  refine ⟨a[i.toNat], List.getElem?_eq_getElem h, ?_⟩
  unfold atI
  rw [ixN_in h0 h1]
  exact List.getElem?_eq_getElem h
theorem cutL {a : List Int} {i : Int} (h0 : 0 ≤ i) (h1 : i ≤ a.length) : (a.drop (HT.sIx a.length 0 none)).take (HT.sIx a.length a.length (some i) - HT.sIx a.length 0 none) = a.take i.toNat := by
  have e : HT.sIx a.length a.length (some i) = i.toNat := by
    obtain ⟨k, rfl⟩ := Int.eq_ofNat_of_zero_le h0
    rw [HT.sIx_nat]
    have : k ≤ a.length := by omega
    rw [Nat.min_eq_left this]
    rfl
  rw [e, HT.sIx_none, List.drop_zero, Nat.sub_zero]
theorem cutR {a : List Int} {i : Int} (h0 : 0 ≤ i) (h1 : i ≤ a.length) : (a.drop (HT.sIx a.length 0 (some i))).take (HT.sIx a.length a.length none - HT.sIx a.length 0 (some i)) = a.drop i.toNat := by
  have e : HT.sIx a.length 0 (some i) = i.toNat := by
    obtain ⟨k, rfl⟩ := Int.eq_ofNat_of_zero_le h0
    rw [HT.sIx_nat]
    have : k ≤ a.length := by omega
    rw [Nat.min_eq_left this]
    rfl
  rw [e, HT.sIx_none]
  exact List.take_of_length_le (by rw [List.length_drop]; omega)
theorem loop_nil {bp : BP} {body : Rho → Out} {ρ : Rho} : loop bp body [] ρ = .nx ρ := rfl
theorem loop_cons {bp : BP} {body : Rho → Out} {d : D} {ds : List D} {ρ ρ1 ρ2 : Rho} (h1 : bp d ρ = some ρ1) (h2 : body ρ1 = .nx ρ2) : loop bp body (d :: ds) ρ = loop bp body ds ρ2 := by
  simp only [loop, h1, h2]
theorem shownAll_len : ∀ {x : List Int}, (∀ v ∈ x, v.natAbs < 10 ^ 7) → ((PyData.shownAll (x.map .int)).map (·.length)).sum ≤ 8 * x.length ∧ (PyData.shownAll (x.map .int)).length = x.length
  | [], _ => by
    rw [List.map_nil, PyData.shownAll]
    exact ⟨Nat.le_refl _, rfl⟩
  | v :: x, h => by
    have ih := shownAll_len (x := x) fun u hu => h u (List.mem_cons_of_mem _ hu)
    rw [List.map_cons, PyData.shownAll, List.map_cons, List.sum_cons, List.length_cons, List.length_cons, PyData.shown]
    have z : (PySem.Str.ofString (toString v)).length ≤ 8 := by
      rw [PySem.ofString_length]
      exact int_text_length_le10 (k := 7) (by decide) (h v List.mem_cons_self)
    exact ⟨by show (PySem.Str.ofString (toString v)).length + _ ≤ _; omega, by omega⟩
theorem showable_iL : ∀ {x : List Int}, (∀ v ∈ x, v.natAbs < 10 ^ 7) → PyData.showableAll (x.map .int) = true ∧ PyData.hasDictAll (x.map .int) = false
  | [], _ => by
    rw [List.map_nil, PyData.showableAll, PyData.hasDictAll]
    exact ⟨rfl, rfl⟩
  | v :: x, h => by
    have ih := showable_iL (x := x) fun u hu => h u (List.mem_cons_of_mem _ hu)
    have hv := h v List.mem_cons_self
    have z : v.natAbs.log2 < 1920 := by
      by_cases z : v.natAbs = 0
      · rw [z]
        decide
      · have h2 : v.natAbs.log2 < 24 := (Nat.log2_lt z).mpr (Nat.lt_of_lt_of_le hv (by decide))
        omega
    rw [List.map_cons, PyData.showableAll, PyData.hasDictAll, ih.1, ih.2, PyData.showable, PyData.hasDict, decide_eq_true z]
    exact ⟨rfl, rfl⟩
theorem shows_iL {x : List Int} (h : ∀ v ∈ x, v.natAbs < 10 ^ 7) (hl : x.length ≤ 1000) : shows (iL x) = true := by
  obtain ⟨h1, h2⟩ := showable_iL h
  obtain ⟨h3, h4⟩ := shownAll_len h
  have e1 : PyData.showable (iL x) = true := by rw [PyData.showable]; exact h1
  have e2 : PyData.hasDict (iL x) = false := by rw [PyData.hasDict]; exact h2
  have e3 : PyData.depth (iL x) ≤ 60 := by rw [PyData.depth, depth_iL]; decide
  have e4 : (PyData.shown (iL x)).length ≤ 100000 := by
    rw [PyData.shown]
    have z := listText_len_le (PyData.shownAll (x.map .int))
    omega
  unfold shows
  rw [e1, e2, decide_eq_true e3, decide_eq_true e4]
  rfl
theorem oEqS_str (a b : Str) : oEqS (.sh (.str a)) (.sh (.str b)) = some (.sh (.bool (decide (a = b)))) := rfl
theorem cRepr_D {a : Val} {d : D} (h : dat a = some d) (hs : shows d = true) : cRepr [a] = some (.sh (.str d.shown)) := by
  simp only [cRepr, h, hs, if_true]
theorem cRepr_sh {x : List Int} (hs : shows (iL x) = true) : cRepr [.sh (iL x)] = some (.sh (.str (iL x).shown)) := cRepr_D rfl hs
theorem cRepr_ow {x : List Int} (hs : shows (iL x) = true) : cRepr [.ow (x.map .int)] = some (.sh (.str (iL x).shown)) := cRepr_D rfl hs
theorem cRepr_bw {x : List Int} (hs : shows (iL x) = true) : cRepr [.bw (x.map .int)] = some (.sh (.str (iL x).shown)) := cRepr_D rfl hs
theorem comp_map {bp : BP} {mt : Rho → Res Bool} {me : Rho → Res Val} {ρ : Rho} {g : Int → Int} : ∀ {ns acc : List Int}, (∀ v ∈ ns, ∃ ρ1, bp (.int v) ρ = some ρ1 ∧ mt ρ1 = .ok true ∧ me ρ1 = .ok (.sh (.int (g v)))) → acc.length + ns.length ≤ 100000 →
    comp bp mt me ρ (ns.map .int) (acc.map .int) = .ok ((acc ++ ns.map g).map .int)
  | [], acc, _, _ => by
    rw [List.map_nil, List.map_nil, List.append_nil]
    rfl
  | v :: ns, acc, h, hl => by
    rw [List.length_cons] at hl
    obtain ⟨ρ1, h1, h2, h3⟩ := h v List.mem_cons_self
    have ih := comp_map (ns := ns) (acc := acc ++ [g v]) (fun u hu => h u (List.mem_cons_of_mem _ hu)) (by rw [List.length_append, List.length_singleton]; omega)
    have ha : acc.length < 100000 := by omega
    rw [List.map_cons]
    simp only [comp, h1, h2, h3, esc, if_true, List.length_map, ha]
    rw [mpush, ih, List.append_assoc]
    rfl
theorem comp_map0 {bp : BP} {mt : Rho → Res Bool} {me : Rho → Res Val} {ρ : Rho} {g : Int → Int} {ns : List Int} (h : ∀ v ∈ ns, ∃ ρ1, bp (.int v) ρ = some ρ1 ∧ mt ρ1 = .ok true ∧ me ρ1 = .ok (.sh (.int (g v)))) (hl : ns.length ≤ 100000) : comp bp mt me ρ (ns.map .int) [] = .ok ((ns.map g).map .int) :=
  comp_map (acc := []) h (by simpa using hl)
theorem seq_step {a b : Rho → Out} {ρ ρ' : Rho} {x : Res Val} (h : a ρ = .nx ρ') (k : fin (b ρ') = x) : fin (mSeq a b ρ) = x := by
  unfold mSeq
  rw [h]
  exact k
theorem frz_step {i : Nat} {a : Rho → Out} {ρ : Rho} {x : Res Val} (k : fin (a (frz i ρ)) = x) : fin (mFrz i a ρ) = x := k
theorem seq_ret {a b : Rho → Out} {ρ : Rho} {r : Val} (h : a ρ = .rt r) : fin (mSeq a b ρ) = .ok r := by
  unfold mSeq
  rw [h]
  rfl
theorem comp_filt {bp : BP} {mt : Rho → Res Bool} {me : Rho → Res Val} {ρ : Rho} {t : Int → Bool} {g : Int → Int} : ∀ {ns acc : List Int}, (∀ v ∈ ns, ∃ ρ1, bp (.int v) ρ = some ρ1 ∧ mt ρ1 = .ok (t v) ∧ (t v = true → me ρ1 = .ok (.sh (.int (g v))))) → acc.length + ns.length ≤ 100000 →
    comp bp mt me ρ (ns.map .int) (acc.map .int) = .ok ((acc ++ (ns.filter t).map g).map .int)
  | [], acc, _, _ => by
    rw [List.map_nil, List.filter_nil, List.map_nil, List.append_nil]
    rfl
  | v :: ns, acc, h, hl => by
    rw [List.length_cons] at hl
    obtain ⟨ρ1, h1, h2, h3⟩ := h v List.mem_cons_self
    have hr : ∀ u ∈ ns, ∃ ρ1, bp (.int u) ρ = some ρ1 ∧ mt ρ1 = .ok (t u) ∧ (t u = true → me ρ1 = .ok (.sh (.int (g u)))) := fun u hu => h u (List.mem_cons_of_mem _ hu)
    have ha : acc.length < 100000 := by omega
    rw [List.map_cons]
    cases c : t v with
    | true =>
      have ih := comp_filt (ns := ns) (acc := acc ++ [g v]) hr (by rw [List.length_append, List.length_singleton]; omega)
      rw [c] at h2
      simp only [comp, h1, h2, h3 c, esc, if_true, List.length_map, ha]
      rw [mpush, ih, List.append_assoc, List.filter_cons_of_pos c]
      rfl
    | false =>
      have ih := comp_filt (ns := ns) (acc := acc) hr (by omega)
      rw [c] at h2
      simp only [comp, h1, h2]
      rw [List.filter_cons_of_neg (by rw [c]; exact Bool.false_ne_true)]
      exact ih
theorem comp_filt0 {bp : BP} {mt : Rho → Res Bool} {me : Rho → Res Val} {ρ : Rho} {t : Int → Bool} {g : Int → Int} {ns : List Int} (h : ∀ v ∈ ns, ∃ ρ1, bp (.int v) ρ = some ρ1 ∧ mt ρ1 = .ok (t v) ∧ (t v = true → me ρ1 = .ok (.sh (.int (g v))))) (hl : ns.length ≤ 100000) :
    comp bp mt me ρ (ns.map .int) [] = .ok (((ns.filter t).map g).map .int) := comp_filt (acc := []) h (by simpa using hl)
theorem all_flat (x : List Int) : (x.map PyData.int).all flatD = true := by
  rw [List.all_map, List.all_eq_true]
  intro v _
  rfl
theorem firstAt_int : ∀ {row : List Int} {p : Nat} {v : Int}, row.Nodup → row[p]? = some v → firstAt (.int v) (row.map .int) = some p
  | [], _, _, _, h => by simp at h
  | u :: row, 0, v, _, h => by
    have e : u = v := by simpa using h
    subst e
    rw [List.map_cons]
    unfold firstAt
    rw [eqv_int, decide_eq_true rfl]
    rfl
  | u :: row, p + 1, v, nd, h => by
    have nd' := List.nodup_cons.mp nd
    have h : row[p]? = some v := by simpa using h
    have ne : ¬ u = v := fun e => nd'.1 (e ▸ List.mem_of_getElem? h)
    rw [List.map_cons]
    unfold firstAt
    rw [eqv_int, decide_eq_false ne, firstAt_int nd'.2 h]
    rfl
theorem kIndex_L {o : Val} {row : List Int} {p : Nat} {v : Int} (e : lit o = some (row.map .int)) (nd : row.Nodup) (h : row[p]? = some v) : kIndex o [.sh (.int v)] = some (.sh (.int (p : Nat))) := by
  unfold kIndex
  rw [e]
  show (if (flatD (.int v) && (row.map PyData.int).all flatD) = true then (firstAt (.int v) (row.map .int)).map fun j => Val.sh (.int (j : Nat)) else none) = _
  rw [all_flat, firstAt_int nd h]
  rfl
theorem inD_iL (v : Int) (ns : List Int) : inD (.int v) (ns.map .int) = decide (v ∈ ns) := by
  unfold inD
  rw [List.any_map]
  induction ns with
  | nil => rfl
  | cons u ns ih =>
    rw [List.any_cons, ih]
    show (PyData.eqv (.int u) (.int v) || _) = _
    rw [eqv_int]
    by_cases h : u = v
    · have z : v ∈ u :: ns := by rw [h]; exact List.mem_cons_self
      rw [decide_eq_true h, decide_eq_true z]
      rfl
    · rw [decide_eq_false h]
      have : (v ∈ u :: ns) ↔ v ∈ ns := by
        constructor
        · intro z
          rcases List.mem_cons.mp z with z | z
          · exact absurd z.symm h
          · exact z
        · exact List.mem_cons_of_mem _
      simp only [this, Bool.false_or]
end Mi

/-! Mirrors evaluated: data of any kind. -/
namespace Mi
open PySem PySem.Spec PyProof.Rows L2
/-! ### operators applied -/
section
variable (i j : Int) (x y : List D) (s t : Str)
theorem oLe_ii : oLe (.sh (.int i)) (.sh (.int j)) = some (.sh (.bool (decide (i ≤ j)))) := rfl
theorem oLt_ii : oLt (.sh (.int i)) (.sh (.int j)) = some (.sh (.bool (decide (i < j)))) := rfl
theorem oGe_ii : oGe (.sh (.int i)) (.sh (.int j)) = some (.sh (.bool (decide (j ≤ i)))) := rfl
theorem oGt_ii : oGt (.sh (.int i)) (.sh (.int j)) = some (.sh (.bool (decide (j < i)))) := rfl
theorem oSub_ii : oSub (.sh (.int i)) (.sh (.int j)) = some (.sh (.int (i - j))) := rfl
theorem oAddI_ii : oAddI (.sh (.int i)) (.sh (.int j)) = some (.sh (.int (i + j))) := rfl
theorem oAddT_ii : oAddT (.sh (.int i)) (.sh (.int j)) = some (.sh (.int (i + j))) := rfl
theorem oAddT_ss : oAddT (.sh (.str s)) (.sh (.str t)) = if s.length + t.length ≤ 100000 then some (.sh (.str (s ++ t))) else none := by
  show (match (if s.length + t.length ≤ 100000 then some (Val.sh (.str (s ++ t))) else none) with | some c => some c | none => (none : Option Val)) = _
  split <;> simp_all
theorem oAddT_tt : oAddT (.sh (.tuple x)) (.sh (.tuple y)) = if x.length + y.length ≤ 100000 then some (.sh (.tuple (x ++ y))) else none := by
  show (match (if x.length + y.length ≤ 100000 then some (Val.sh (.tuple (x ++ y))) else none) with | some c => some c | none => (none : Option Val)) = _
  split <;> simp_all
theorem oAddT_lolo : oAddT (.ow x) (.ow y) = if x.length + y.length ≤ 100000 then some (.ow (x ++ y)) else none := rfl
theorem oAddT_lobw : oAddT (.ow x) (.bw y) = if x.length + y.length ≤ 100000 then some (.ow (x ++ y)) else none := rfl
theorem oAddT_losh : oAddT (.ow x) (.sh (.list y)) = if x.length + y.length ≤ 100000 then some (.ow (x ++ y)) else none := rfl
theorem oAddT_bwlo : oAddT (.bw x) (.ow y) = if x.length + y.length ≤ 100000 then some (.ow (x ++ y)) else none := rfl
theorem oAddT_bwbw : oAddT (.bw x) (.bw y) = if x.length + y.length ≤ 100000 then some (.ow (x ++ y)) else none := rfl
theorem oAddT_bwsh : oAddT (.bw x) (.sh (.list y)) = if x.length + y.length ≤ 100000 then some (.ow (x ++ y)) else none := rfl
theorem oAddT_shlo : oAddT (.sh (.list x)) (.ow y) = if x.length + y.length ≤ 100000 then some (.ow (x ++ y)) else none := rfl
theorem oAddT_shbw : oAddT (.sh (.list x)) (.bw y) = if x.length + y.length ≤ 100000 then some (.ow (x ++ y)) else none := rfl
theorem oAddT_shsh : oAddT (.sh (.list x)) (.sh (.list y)) = if x.length + y.length ≤ 100000 then some (.ow (x ++ y)) else none := rfl
theorem oMulI_ii : oMulI (.sh (.int i)) (.sh (.int j)) = if (-(2 ^ 64) < i ∧ i < 2 ^ 64) ∨ (-(2 ^ 64) < j ∧ j < 2 ^ 64) then some (.sh (.int (i * j))) else none := by
  show (if decide _ = true then _ else _) = _
  simp only [decide_eq_true_eq]
theorem oMul_ii : oMul (.sh (.int i)) (.sh (.int j)) = if (-(2 ^ 64) < i ∧ i < 2 ^ 64) ∨ (-(2 ^ 64) < j ∧ j < 2 ^ 64) then some (.sh (.int (i * j))) else none := by
  show (match oMulI (.sh (.int i)) (.sh (.int j)) with | some c => some c | none => (none : Option Val)) = _
  rw [oMulI_ii]
  split <;> simp_all
theorem oMod_ii : oMod (.sh (.int i)) (.sh (.int j)) = if 0 < j then some (.sh (.int (i % j))) else none := by
  show (if decide _ = true then _ else _) = _
  simp only [decide_eq_true_eq]
theorem oDiv_ii : oDiv (.sh (.int i)) (.sh (.int j)) = if 0 < j ∧ j < 1073741824 then some (.sh (.int (i / j))) else none := by
  show (if decide _ = true then _ else _) = _
  simp only [decide_eq_true_eq]
theorem oPow_ii : oPow (.sh (.int i)) (.sh (.int j)) = if 0 ≤ j ∧ j ≤ 1000000 ∧ i.natAbs < 2 ^ 64 then some (.sh (.int (i ^ j.toNat))) else none := by
  show (if decide _ = true then _ else _) = _
  simp only [decide_eq_true_eq]
theorem oMul_rep (d : D) : oMul (.ow [d]) (.sh (.int j)) = if 0 ≤ j ∧ j ≤ 100000 then some (.ow (List.replicate j.toNat d)) else none := rfl
theorem oIx_t : oIx (.sh (.tuple x)) (.sh (.int i)) = (atI x i).map .sh := rfl
theorem oIx_l : oIx (.sh (.list x)) (.sh (.int i)) = (atI x i).map .sh := rfl
theorem oIx_b : oIx (.bw x) (.sh (.int i)) = (atI x i).map .sh := rfl
theorem oIx_o : oIx (.ow x) (.sh (.int i)) = (atI x i).map .sh := rfl
theorem oIx_f : oIx (.fz x) (.sh (.int i)) = (atI x i).map .sh := rfl
theorem atI_cons0 (d : D) (ds : List D) (n : Nat) (i : Int) (hi : i = (n : Int)) (h : n < (d :: ds).length) : atI (d :: ds) i = (d :: ds)[n]? := by
  subst hi
  unfold atI ixN
  rw [if_pos (by omega), if_pos (by omega)]
  rfl
theorem atI_0 (d : D) (ds : List D) : atI (d :: ds) 0 = some d := atI_cons0 d ds 0 0 rfl (by simp)
theorem atI_1 (d e : D) (ds : List D) : atI (d :: e :: ds) 1 = some e := atI_cons0 d _ 1 1 rfl (by simp)
theorem atI_2 (d e f : D) (ds : List D) : atI (d :: e :: f :: ds) 2 = some f := atI_cons0 d _ 2 2 rfl (by simp)
theorem atI_3 (d e f g : D) (ds : List D) : atI (d :: e :: f :: g :: ds) 3 = some g := atI_cons0 d _ 3 3 rfl (by simp)
end
theorem seqx {a b : Rho → Out} {ρ ρ' : Rho} (h : a ρ = .nx ρ') : mSeq a b ρ = b ρ' := by
  unfold mSeq
  rw [h]
theorem seqr {a b : Rho → Out} {ρ : Rho} {r : Val} (h : a ρ = .rt r) : mSeq a b ρ = .rt r := by
  unfold mSeq
  rw [h]
theorem seqe {a b : Rho → Out} {ρ ρ' : Rho} {n : Str} {fs : List (Str × D)} (h : a ρ = .ex n fs ρ') : mSeq a b ρ = .ex n fs ρ' := by
  unfold mSeq
  rw [h]
theorem comp_go {α : Type} {bp : BP} {mt : Rho → Res Bool} {me : Rho → Res Val} {ρ : Rho} (f g : α → D) (p : α → Bool) : ∀ {xs : List α} {acc : List D},
    (∀ a ∈ xs, ∃ ρ1, bp (f a) ρ = some ρ1 ∧ mt ρ1 = .ok (p a) ∧ (p a = true → ∃ r, me ρ1 = .ok r ∧ esc r = some (g a))) → acc.length + xs.length ≤ 100000 →
    comp bp mt me ρ (xs.map f) acc = .ok (acc ++ (xs.filter p).map g)
  | [], acc, _, _ => by
    rw [List.map_nil, List.filter_nil, List.map_nil, List.append_nil]
    rfl
  | a :: xs, acc, h, hl => by
    rw [List.length_cons] at hl
    obtain ⟨ρ1, h1, h2, h3⟩ := h a List.mem_cons_self
    have hr := fun u hu => h u (List.mem_cons_of_mem a hu)
    have ha : acc.length < 100000 := by omega
    rw [List.map_cons]
    cases c : p a with
    | true =>
      obtain ⟨r, h4, h5⟩ := h3 c
      have ih := comp_go f g p (xs := xs) (acc := acc ++ [g a]) hr (by rw [List.length_append, List.length_singleton]; omega)
      rw [c] at h2
      simp only [comp, h1, h2, h4, h5, if_true, ha]
      rw [ih, List.append_assoc, List.filter_cons_of_pos c]
      rfl
    | false =>
      have ih := comp_go f g p (xs := xs) (acc := acc) hr (by omega)
      rw [c] at h2
      simp only [comp, h1, h2]
      rw [List.filter_cons_of_neg (by rw [c]; exact Bool.false_ne_true)]
      exact ih
theorem comp_gen {α : Type} {bp : BP} {mt : Rho → Res Bool} {me : Rho → Res Val} {ρ : Rho} (f g : α → D) (p : α → Bool) {xs : List α} (h : ∀ a ∈ xs, ∃ ρ1, bp (f a) ρ = some ρ1 ∧ mt ρ1 = .ok (p a) ∧ (p a = true → ∃ r, me ρ1 = .ok r ∧ esc r = some (g a))) (hl : xs.length ≤ 100000) :
    comp bp mt me ρ (xs.map f) [] = .ok ((xs.filter p).map g) := comp_go (acc := []) f g p h (by simpa using hl)
/-- without a condition -/
theorem comp_all {α : Type} {bp : BP} {me : Rho → Res Val} {ρ : Rho} (f g : α → D) {xs : List α} (h : ∀ a ∈ xs, ∃ ρ1, bp (f a) ρ = some ρ1 ∧ ∃ r, me ρ1 = .ok r ∧ esc r = some (g a)) (hl : xs.length ≤ 100000) :
    comp bp mYes me ρ (xs.map f) [] = .ok (xs.map g) := by
  have z := comp_gen (bp := bp) (mt := mYes) (me := me) (ρ := ρ) f g (fun _ => true) (xs := xs) (fun a ha => by
    obtain ⟨ρ1, h1, h2⟩ := h a ha
    exact ⟨ρ1, h1, rfl, fun _ => h2⟩) hl
  rw [z, List.filter_eq_self.mpr fun _ _ => rfl]
theorem loop_fold {α β : Type} {bp : BP} {body : Rho → Out} (f : α → D) (st : β → Rho) (step : β → α → β) (P : β → Prop) : ∀ {xs : List α} {b : β}, P b →
    (∀ b a, a ∈ xs → P b → ∃ ρ1, bp (f a) (st b) = some ρ1 ∧ body ρ1 = .nx (st (step b a)) ∧ P (step b a)) → loop bp body (xs.map f) (st b) = .nx (st (xs.foldl step b)) ∧ P (xs.foldl step b)
  | [], b, hb, _ => ⟨rfl, hb⟩
  | a :: xs, b, hb, h => by
    obtain ⟨ρ1, h1, h2, h3⟩ := h b a List.mem_cons_self hb
    have ih := loop_fold f st step P (xs := xs) (b := step b a) h3 fun b' a' ha' => h b' a' (List.mem_cons_of_mem _ ha')
    rw [List.map_cons, loop_cons h1 h2]
    exact ih
/-- as loop_fold, the number of turns so far known -/
theorem loop_foldN {α β : Type} {bp : BP} {body : Rho → Out} (f : α → D) (st : β → Rho) (step : β → α → β) (P : Nat → β → Prop) : ∀ {xs : List α} {b : β} {n : Nat}, P n b →
    (∀ k b a, xs[k]? = some a → P (n + k) b → ∃ ρ1, bp (f a) (st b) = some ρ1 ∧ body ρ1 = .nx (st (step b a)) ∧ P (n + k + 1) (step b a)) → loop bp body (xs.map f) (st b) = .nx (st (xs.foldl step b)) ∧ P (n + xs.length) (xs.foldl step b)
  | [], b, n, hb, _ => ⟨rfl, hb⟩
  | a :: xs, b, n, hb, h => by
    obtain ⟨ρ1, h1, h2, h3⟩ := h 0 b a rfl hb
    have ih := loop_foldN f st step P (xs := xs) (b := step b a) (n := n + 1) h3 fun k b' a' ha' hp => by
      have e1 : n + 1 + k = n + (k + 1) := by omega
      rw [e1] at hp ⊢
      exact h (k + 1) b' a' (by simpa using ha') hp
    rw [List.map_cons, loop_cons h1 h2, List.length_cons]
    have e2 : n + (xs.length + 1) = n + 1 + xs.length := by omega
    rw [e2]
    exact ih
theorem boolsOf_map : ∀ bs : List Bool, boolsOf (bs.map .bool) = some bs
  | [] => rfl
  | b :: bs => by
    rw [List.map_cons]
    unfold boolsOf
    rw [boolsOf_map bs]
theorem cAll_map {α : Type} {f : List Bool → Bool} {g : α → Bool} {xs : List α} : cAll f [.ow (xs.map fun a => .bool (g a))] = some (.sh (.bool (f (xs.map g)))) := by
  have e : (xs.map fun a => PyData.bool (g a)) = (xs.map g).map .bool := by rw [List.map_map]; rfl
  unfold cAll
  rw [e]
  simp only [lit, boolsOf_map]
theorem intsOf_mapg {α : Type} {g : α → Int} {xs : List α} : intsOf (xs.map fun a => .int (g a)) = some (xs.map g) := by
  have e : (xs.map fun a => PyData.int (g a)) = (xs.map g).map .int := by rw [List.map_map]; rfl
  rw [e, intsOf_map]
theorem atI_map {α β : Type} (f : α → β) (xs : List α) (i : Int) : atI (xs.map f) i = (atI xs i).map f := by
  unfold atI
  rw [List.length_map]
  cases ixN xs.length i with
  | none => rfl
  | some j => exact List.getElem?_map
theorem mulok {i : Int} (j : Int) (h0 : -1000000000000 ≤ i) (h1 : i ≤ 1000000000000) : (Nat.blt i.natAbs 18446744073709551616 || Nat.blt j.natAbs 18446744073709551616) = true := by
  have h : i.natAbs ≤ 1000000000000 := by omega
  have z : Nat.blt i.natAbs 18446744073709551616 = true := Nat.ble_eq_true_of_le (Nat.le_trans (Nat.succ_le_succ h) (by decide))
  rw [z]
  rfl
theorem mulokR (i : Int) {j : Int} (h0 : -1000000000000 ≤ j) (h1 : j ≤ 1000000000000) : (Nat.blt i.natAbs 18446744073709551616 || Nat.blt j.natAbs 18446744073709551616) = true := by
  rw [Bool.or_comm]
  exact mulok i h0 h1
theorem divok {j : Int} (h0 : 0 < j) (h1 : j ≤ 1000000000) : (Nat.blt 0 j.toNat && Nat.blt j.toNat 1073741824) = true := by
  have z1 : Nat.blt 0 j.toNat = true := Nat.ble_eq_true_of_le (by omega)
  have z2 : Nat.blt j.toNat 1073741824 = true := Nat.ble_eq_true_of_le (Nat.le_trans (show j.toNat + 1 ≤ 1000000001 by omega) (by decide))
  rw [z1, z2]
  rfl
theorem oMulN_ii (i j : Int) : oMulN (.sh (.int i)) (.sh (.int j)) = if (Nat.blt i.natAbs 18446744073709551616 || Nat.blt j.natAbs 18446744073709551616) = true then some (.sh (.int (i * j))) else none := rfl
theorem oMul2_ii (i j : Int) : oMul2 (.sh (.int i)) (.sh (.int j)) = if (Nat.blt i.natAbs 18446744073709551616 || Nat.blt j.natAbs 18446744073709551616) = true then some (.sh (.int (i * j))) else none := by
  show (match oMulN (.sh (.int i)) (.sh (.int j)) with | some c => some c | none => (none : Option Val)) = _
  rw [oMulN_ii]
  split <;> simp_all
theorem oMul2_rep (j : Int) (d : D) : oMul2 (.ow [d]) (.sh (.int j)) = if 0 ≤ j ∧ j ≤ 100000 then some (.ow (List.replicate j.toNat d)) else none := rfl
theorem oDivN_ii (i j : Int) : oDivN (.sh (.int i)) (.sh (.int j)) = if (Nat.blt 0 j.toNat && Nat.blt j.toNat 1073741824) = true then some (.sh (.int (i / j))) else none := rfl
theorem cutQ {a : List Int} {i j : Nat} (h1 : i ≤ j) (h2 : j ≤ a.length) : (a.drop (HT.sIx a.length 0 (some (i : Int)))).take (HT.sIx a.length a.length (some (j : Int)) - HT.sIx a.length 0 (some (i : Int))) = (a.drop i).take (j - i) := by
  rw [HT.sIx_nat, HT.sIx_nat, Nat.min_eq_left h2, Nat.min_eq_left (Nat.le_trans h1 h2)]
theorem atI_some {α : Type} {xs : List α} {i : Int} (h0 : 0 ≤ i) (h1 : i < xs.length) : ∃ h : i.toNat < xs.length, atI xs i = some xs[i.toNat] := by
  have h : i.toNat < xs.length := by omega
  refine ⟨h, ?_⟩
  unfold atI
  rw [ixN_in h0 h1]
  exact List.getElem?_eq_getElem h
end Mi

/-! Mirrors evaluated: loops that stop, effects. -/
namespace Mi
open PySem PySem.Spec PyProof.Rows L2
abbrev IOL (ns : List Int) : Option Val := some (.io (ns.map .int))
theorem loop_brk {bp : BP} {body : Rho → Out} {d : D} {ds : List D} {ρ ρ1 ρ2 : Rho} (h1 : bp d ρ = some ρ1) (h2 : body ρ1 = .bk ρ2) : loop bp body (d :: ds) ρ = .nx ρ2 := by
  rw [loop, h1]
  simp only [h2]
theorem loop_ret {bp : BP} {body : Rho → Out} {d : D} {ds : List D} {ρ ρ1 : Rho} {r : Val} (h1 : bp d ρ = some ρ1) (h2 : body ρ1 = .rt r) : loop bp body (d :: ds) ρ = .rt r := by
  rw [loop, h1]
  simp only [h2]
theorem loop_retX {bp : BP} {body : Rho → Out} {d : D} {ds : List D} {ρ ρ1 ρ2 : Rho} {r : Val} (h1 : bp d ρ = some ρ1) (h2 : body ρ1 = .rx r ρ2) : loop bp body (d :: ds) ρ = .rx r ρ2 := by
  rw [loop, h1]
  simp only [h2]
theorem loop_cnt {bp : BP} {body : Rho → Out} {d : D} {ds : List D} {ρ ρ1 ρ2 : Rho} (h1 : bp d ρ = some ρ1) (h2 : body ρ1 = .ct ρ2) : loop bp body (d :: ds) ρ = loop bp body ds ρ2 := by
  rw [loop, h1]
  simp only [h2]
theorem map_dropLastI (xs : List Int) : (xs.map PyData.int).dropLast = xs.dropLast.map .int := by
  rw [List.dropLast_eq_take, List.dropLast_eq_take, List.length_map, List.map_take]
theorem blt_0 : Nat.blt 48271 18446744073709551616 = true := by decide
theorem blt_1 : Nat.blt 69621 18446744073709551616 = true := by decide
theorem blt_2 : Nat.blt 16807 18446744073709551616 = true := by decide
theorem blt_3 : Nat.blt 0 1000 = true := by decide
theorem blt_4 : Nat.blt 1000 1073741824 = true := by decide
theorem blt_5 : Nat.blt 0 7 = true := by decide
theorem blt_6 : Nat.blt 7 1073741824 = true := by decide
theorem blt_7 : Nat.blt 0 2 = true := by decide
theorem blt_8 : Nat.blt 2 1073741824 = true := by decide
theorem blt_9 : Nat.blt 2 18446744073709551616 = true := by decide
theorem blt_10 : Nat.blt 0 3 = true := by decide
theorem blt_11 : Nat.blt 3 1073741824 = true := by decide
theorem fin_seq {a b : Rho → Out} {ρ : Rho} {X : Res Val} (P : Rho → Prop) (ha : (∃ r, a ρ = .rt r ∧ .ok r = X) ∨ ∃ ρ', a ρ = .nx ρ' ∧ P ρ') (hb : ∀ ρ', P ρ' → fin (b ρ') = X) : fin (mSeq a b ρ) = X := by
  unfold mSeq
  rcases ha with ⟨r, e, h⟩ | ⟨ρ', e, h⟩
  · rw [e]
    exact h
  · rw [e]
    exact hb ρ' h
theorem tyB_bool (b : Bool) : tyB "bool" (.sh (.bool b)) = some true := rfl
theorem tyB_bool_i (i : Int) : tyB "bool" (.sh (.int i)) = some false := rfl
theorem tyB_int (i : Int) : tyB "int" (.sh (.int i)) = some true := rfl
theorem tyB_int_b (b : Bool) : tyB "int" (.sh (.bool b)) = some true := rfl
theorem tyB_list_l (l : List D) : tyB "list" (.sh (.list l)) = some true := rfl
theorem tyB_list_o (l : List D) : tyB "list" (.ow l) = some true := rfl
theorem tyB_list_b (l : List D) : tyB "list" (.bw l) = some true := rfl
theorem eqv_bool (a b : Bool) : PyData.eqv (.bool a) (.bool b) = (a == b) := by
  cases a <;> cases b <;> simp [PyData.eqv]
theorem shaped_bool (b : Bool) : SeqAt.shaped (.bool b) = true := rfl
theorem mFrz_at (i : Nat) (a : Rho → Out) (ρ : Rho) : mFrz i a ρ = a (frz i ρ) := rfl
end Mi

namespace Law
open PySem PySem.Spec PyProof.Rows L2 Mi
def dec_YardsortError (m : Str) : Option Bool := if m = "YardsortError" then some true else if m = "NotMachine" then some true else if m = "Malformed" then some true else none
def isd_NotMachine (m : Str) : Option Bool := if m = "YardsortError" then some false else if m = "NotMachine" then some true else if m = "Malformed" then some false else none
def dec_NotMachine (m : Str) : Option Bool := if m = "YardsortError" then some false else if m = "NotMachine" then some true else if m = "Malformed" then some false else none
def isd_Malformed (m : Str) : Option Bool := if m = "YardsortError" then some false else if m = "NotMachine" then some false else if m = "Malformed" then some true else none
def dec_Malformed (m : Str) : Option Bool := if m = "YardsortError" then some false else if m = "NotMachine" then some false else if m = "Malformed" then some true else none
def tab_NUMBERS_OF_LETTERS : List (Str × PyData) := [("1", .int (1)), ("2", .int (2)), ("3", .int (3)), ("4", .int (4)), ("5", .int (5)), ("6", .int (6))]
def tab_FLAGS : List (Str × PyData) := [("+", .bool true), ("-", .bool false)]
def ms__law_number : Rho → Out := (mSeq (mIf (mTest (mOp oLt (mVar 0) (mC (.int 0))))
  (mRet (mOp oSub (mC (.int 0)) (mVar 0)))
  mSkip)
  (mRetV 0))
def M__law_number : List Val → Res Val := mFn 1 ms__law_number
theorem M__law_number_eq (v0 : Val) : M__law_number [v0] = fin (ms__law_number [some v0]) := rfl
def lp__law_draws_0 : Rho → Out := (mSeq (mIf (mTest (mOp (oOr oEqS oEq) (mVar 4) (mC (.int 0))))
  mBrk
  mSkip)
  (mSeq (mApp 1 (mOp oMod (mCall cIntB (mCons (mVar 4) mNil)) (mC (.int 1000))))
  (mSet 4 (mOp oDivN (mVar 4) (mC (.int 1000))))))
def lp__law_draws_1 : Rho → Out := (mSeq (mSet 4 (mDef M__law_number (mCons (mVar 3) mNil)))
  (mSeq (mSet 2 (mOp oMod (mCall cIntB (mCons (mOp oAddT (mOp oMul2 (mVar 2) (mC (.int 48271))) (mVar 4)) mNil)) (mC (.int 2147483647))))
  (mIf (mTest (mOp oGe (mVar 4) (mC (.int 1000000000000000000))))
  (mFor (mIter1 (mCons (mC (.int 60)) mNil)) (bName 5)
  lp__law_draws_0)
  (mSeq (mSet 6 (mOp oMod (mCall cIntB (mCons (mOp oAddT (mOp oMul2 (mVar 4) (mC (.int 48271))) (mC (.int 11))) mNil)) (mC (.int 2147483647))))
  (mSeq (mSet 7 (mOp oMod (mCall cIntB (mCons (mOp oAddT (mOp oMul2 (mVar 6) (mC (.int 69621))) (mVar 4)) mNil)) (mC (.int 2147483629))))
  (mExt 1 (mLst (mCons (mOp oMod (mCall cIntB (mCons (mVar 4) mNil)) (mC (.int 1000))) (mCons (mOp oMod (mCall cIntB (mCons (mVar 6) mNil)) (mC (.int 1000))) (mCons (mOp oMod (mCall cIntB (mCons (mVar 7) mNil)) (mC (.int 1000))) mNil))))))))))
def lp__law_draws_2 : Rho → Out := (mSeq (mSet 2 (mOp oMod (mCall cIntB (mCons (mOp oAddT (mOp oMul2 (mVar 2) (mC (.int 48271))) (mC (.int 12345))) mNil)) (mC (.int 2147483647))))
  (mApp 1 (mOp oMod (mCall cIntB (mCons (mOp oDivN (mVar 2) (mC (.int 7))) mNil)) (mC (.int 1000)))))
def ms__law_draws : Rho → Out := (mSeq (mSet 1 (mLst mNil))
  (mSeq (mSet 2 (mC (.int 7)))
  (mSeq (mFor (mIterS (mVar 0)) (bName 3)
  lp__law_draws_1)
  (mSeq (mFor (mIter1 (mCons (mC (.int 200)) mNil)) (bName 5)
  lp__law_draws_2)
  (mSeq (mRevS 1)
  (mRetV 1))))))
def M__law_draws : List Val → Res Val := mFn 8 ms__law_draws
theorem M__law_draws_eq (v0 : Val) : M__law_draws [v0] = fin (ms__law_draws [some v0, none, none, none, none, none, none, none]) := rfl
def lp__law_entry_0 : Rho → Out := (mIf (mTest (mOp (oOr oEqS oEq) (mVar 0) (mCall cStrI (mCons (mVar 2) mNil))))
  (mRetV 2)
  mSkip)
def ms__law_entry : Rho → Out := (mSeq (mIf (mTest (mOp (oOr oEqS oEq) (mVar 0) (mC (.str "."))))
  (mRet (mNeg (mC (.int 1))))
  mSkip)
  (mSeq (mFor (mIter1 (mCons (mVar 1) mNil)) (bName 2)
  lp__law_entry_0)
  (mRet (mNeg (mC (.int 2))))))
def M__law_entry : List Val → Res Val := mFn 3 ms__law_entry
theorem M__law_entry_eq (v0 v1 : Val) : M__law_entry [v0, v1] = fin (ms__law_entry [some v0, some v1, none]) := rfl
def lp__law_due_0 : Rho → Out := (mSeq (mSet 6 (mM1 oSplit (mOp oIx (mVar 1) (mVar 5)) (mC (.str " "))))
  (mSeq (mSet 7 (mComp (mIterS (mSlU (mVar 6) (mPart (mC (.int 1))) mNoPart)) (bName 8) mYes (mDef M__law_entry (mCons (mVar 8) (mCons (mOp oSub (mCall cLen (mCons (mVar 1) mNil)) (mC (.int 1))) mNil))) [8]))
  (mSeq (mIf (mOr (mTest (mOp (oOr (oIn true) (oInS true)) (mOp oIx (mVar 6) (mC (.int 0))) (mLst (mCons (mC (.str "+")) (mCons (mC (.str "-")) mNil))))) (mOr (mTest (mOp (oOr oNeS oNe) (mCall cLen (mCons (mVar 7) mNil)) (mVar 2))) (mTest (mOp (oOr (oIn false) (oInS false)) (mNeg (mC (.int 2))) (mVar 7)))))
  (mRet (mTup (mCons (mC (.str "fault")) (mCons (mVar 5) mNil))))
  mSkip)
  (mSeq (mApp 3 (mOp (oOr oEqS oEq) (mOp oIx (mVar 6) (mC (.int 0))) (mC (.str "+"))))
  (mApp 4 (mCall cTuple (mCons (mVar 7) mNil)))))))
def ms__law_due : Rho → Out := (mSeq (mSet 1 (mM1 oSplit (mVar 0) (mC (.str "\n"))))
  (mSeq (mIf (mTest (mOp (oOr (oIn true) (oInS true)) (mOp oIx (mVar 1) (mC (.int 0))) (mLst (mCons (mC (.str "1")) (mCons (mC (.str "2")) (mCons (mC (.str "3")) (mCons (mC (.str "4")) (mCons (mC (.str "5")) (mCons (mC (.str "6")) mNil)))))))))
  (mRet (mTup (mCons (mC (.str "fault")) (mCons (mC (.int 0)) mNil))))
  mSkip)
  (mSeq (mSet 2 (mCall (cOr cInt1 cIntS) (mCons (mOp oIx (mVar 1) (mC (.int 0))) mNil)))
  (mSeq (mSet 3 (mLst mNil))
  (mSeq (mSet 4 (mLst mNil))
  (mSeq (mFor (mIter2 (mCons (mC (.int 1)) (mCons (mCall cLen (mCons (mVar 1) mNil)) mNil))) (bName 5)
  lp__law_due_0)
  (mFrz 2 (mRet (mTup (mCons (mC (.str "machine")) (mCons (mTup (mCons (mVar 2) (mCons (mCall cTuple (mCons (mVar 3) mNil)) (mCons (mCall cTuple (mCons (mVar 4) mNil)) mNil)))) mNil)))))))))))
def M__law_due : List Val → Res Val := mFn 9 ms__law_due
theorem M__law_due_eq (v0 : Val) : M__law_due [v0] = fin (ms__law_due [some v0, none, none, none, none, none, none, none, none]) := rfl
def ms__law_draw : Rho → Out := (mSeq (mIf (mTru (mVar 0))
  (mRetX 0 (mPopE 0))
  mSkip)
  (mRetX 0 (toE 0 (mC (.int 0)))))
def M__law_draw : List Val → RE Val := mFnIO 0 1 ms__law_draw
theorem M__law_draw_eq (xs : List D) : M__law_draw [.io xs] = finIO 0 (ms__law_draw [some (.io xs)]) := rfl
def ms__law_pick : Rho → Out := (mRetX 0 (mOpE 0 oMod (mCallE cIntB (mConsE 0 (mIoE 1 0 M__law_draw (mConsV (mNilI 0))) (mNilE 0))) (toE 0 (mVar 1))))
def M__law_pick : List Val → RE Val := mFnIO 0 2 ms__law_pick
theorem M__law_pick_eq (v1 : Val)(xs : List D) : M__law_pick [.io xs, v1] = finIO 0 (ms__law_pick [some (.io xs), some v1]) := rfl
def lp__law_machine_0 : Rho → Out := (mFrz 3 (mSeq (mSetE 9 0 (mIoE 2 0 M__law_pick (mConsV (mConsI 0 (toE 0 (mVar 3)) (mNilI 0)))))
  (mSeq (mIfSE 0 (mTestE (mOpE 0 (oOr oEqS oEq) (mIoE 2 0 M__law_pick (mConsV (mConsI 0 (toE 0 (mC (.int 5))) (mNilI 0)))) (toE 0 (mC (.int 0)))))
  (mSet 9 (mNeg (mC (.int 1))))
  mSkip)
  (mFrz 9 (mApp 7 (mVar 9))))))
def lp__law_machine_1 : Rho → Out := (mSeq (mAppE 4 0 (mOpE 0 (oOr oEqS oEq) (mIoE 2 0 M__law_pick (mConsV (mConsI 0 (toE 0 (mC (.int 3))) (mNilI 0)))) (toE 0 (mC (.int 0)))))
  (mSeq (mSet 7 (mLst mNil))
  (mFrz 9 (mFrz 3 (mSeq (mFor (mIter1 (mCons (mVar 1) mNil)) (bName 8)
  lp__law_machine_0)
  (mApp 5 (mCall cTuple (mCons (mVar 7) mNil))))))))
def ms__law_machine : Rho → Out := (mSeq (mSetE 3 0 (mIoE 2 0 M__law_pick (mConsV (mConsI 0 (toE 0 (mOp oAddT (mVar 2) (mC (.int 1)))) (mNilI 0)))))
  (mSeq (mSet 4 (mLst mNil))
  (mSeq (mSet 5 (mLst mNil))
  (mFrz 9 (mFrz 3 (mSeq (mFor (mIter1 (mCons (mVar 3) mNil)) (bName 6)
  lp__law_machine_1)
  (mRetX 0 (toE 0 (mTup (mCons (mVar 1) (mCons (mCall cTuple (mCons (mVar 4) mNil)) (mCons (mCall cTuple (mCons (mVar 5) mNil)) mNil))))))))))))
def M__law_machine : List Val → RE Val := mFnIO 0 10 ms__law_machine
theorem M__law_machine_eq (v1 v2 : Val)(xs : List D) : M__law_machine [.io xs, v1, v2] = finIO 0 (ms__law_machine [some (.io xs), some v1, some v2, none, none, none, none, none, none, none]) := rfl
def ms__line_of : Rho → Out := (mSeq (mSet 2 (mIfE (mTru (mVar 0)) (mC (.str "+")) (mC (.str "-"))))
  (mFrz 2 (mRet (mM1 oJoin (mC (.str " ")) (mOp oAddT (mLst (mCons (mVar 2) mNil)) (mComp (mIterS (mVar 1)) (bName 3) mYes (mIfE (mTest (mOp (oOr oEqS oEq) (mVar 3) (mC (.int (-1))))) (mC (.str ".")) (mCall cStrI (mCons (mVar 3) mNil))) [3]))))))
def M__line_of : List Val → Res Val := mFn 4 ms__line_of
theorem M__line_of_eq (v0 v1 : Val) : M__line_of [v0, v1] = fin (ms__line_of [some v0, some v1, none, none]) := rfl
def lp_is_machine_0 : Rho → Out := (mIf (mOr (mTest (mOp (oOr oNeS oNe) (mCall cLen (mCons (mVar 5) mNil)) (mVar 1))) (mNot (mTru (mCall (cAll fun bs => bs.all id) (mCons (mComp (mIterS (mVar 5)) (bName 6) mYes (mChain oLe oLt (mC (.int (-1))) (mVar 6) (mVar 4)) [6]) mNil)))))
  (mRet (mC (.bool false)))
  mSkip)
def ms_is_machine : Rho → Out := (mSeq (mAsg (bTup (bCons (bName 1) (bCons (bName 2) (bCons (bName 3) bNil)))) (mVar 0))
  (mSeq (mSet 4 (mCall cLen (mCons (mVar 2) mNil)))
  (mSeq (mIf (mOr (mNot (mTest (mChain oLe oLe (mC (.int 1)) (mVar 1) (mC (.int (6)))))) (mOr (mTest (mOp oGt (mVar 4) (mC (.int (2000))))) (mTest (mOp (oOr oNeS oNe) (mCall cLen (mCons (mVar 3) mNil)) (mVar 4)))))
  (mRet (mC (.bool false)))
  mSkip)
  (mSeq (mFor (mIterS (mVar 3)) (bName 5)
  lp_is_machine_0)
  (mRet (mC (.bool true)))))))
def M_is_machine : List Val → Res Val := mFn 7 ms_is_machine
theorem M_is_machine_eq (v0 : Val) : M_is_machine [v0] = fin (ms_is_machine [some v0, none, none, none, none, none, none]) := rfl
def ms_check_machine : Rho → Out := (mIf (mNot (mTru (mDef M_is_machine (mCons (mVar 0) mNil))))
  (mRaise "NotMachine")
  mSkip)
def M_check_machine : List Val → Res Val := mFn 1 ms_check_machine
theorem M_check_machine_eq (v0 : Val) : M_check_machine [v0] = fin (ms_check_machine [some v0]) := rfl
def ms_machine_text : Rho → Out := (mSeq (mDrop (mDef M_check_machine (mCons (mVar 0) mNil)))
  (mSeq (mAsg (bTup (bCons (bName 1) (bCons (bName 2) (bCons (bName 3) bNil)))) (mVar 0))
  (mSeq (mSet 4 (mComp (mIterZ (mCons (mVar 2) (mCons (mVar 3) mNil))) (bTup (bCons (bName 5) (bCons (bName 6) bNil))) mYes (mDef M__line_of (mCons (mVar 5) (mCons (mVar 6) mNil))) [5, 6]))
  (mRet (mM1 oJoin (mC (.str "\n")) (mOp oAddT (mLst (mCons (mCall cStrI (mCons (mVar 1) mNil)) mNil)) (mVar 4)))))))
def M_machine_text : List Val → Res Val := mFn 7 ms_machine_text
theorem M_machine_text_eq (v0 : Val) : M_machine_text [v0] = fin (ms_machine_text [some v0, none, none, none, none, none, none]) := rfl
def ms__law_refuses : Rho → Out := (mSeq (mTryAs (mDrop (mDef M_machine_text (mCons (mVar 0) mNil))) dec_NotMachine 1 (mHRet (fun m => (isd_Malformed m).map (!·))))
  (mRet (mC (.bool false))))
def M__law_refuses : List Val → Res Val := mFn 2 ms__law_refuses
theorem M__law_refuses_eq (v0 : Val) : M__law_refuses [v0] = fin (ms__law_refuses [some v0, none]) := rfl
def ms__law_spoilt : Rho → Out := (mSeq (mSet 2 (mM1 oSplit (mVar 1) (mC (.str "\n"))))
  (mSeq (mSetE 3 0 (mIoE 2 0 M__law_pick (mConsV (mConsI 0 (toE 0 (mC (.int 7))) (mNilI 0)))))
  (mSeq (mSetE 4 0 (mIoE 2 0 M__law_pick (mConsV (mConsI 0 (toE 0 (mCall cLen (mCons (mVar 1) mNil))) (mNilI 0)))))
  (mSeq (mSetE 5 0 (mOpE 0 oIx (toE 0 (mC (.str " +-.019a\n7"))) (mIoE 2 0 M__law_pick (mConsV (mConsI 0 (toE 0 (mC (.int 10))) (mNilI 0))))))
  (mSeq (mIf (mTest (mOp (oOr oEqS oEq) (mVar 3) (mC (.int 0))))
  (mRetX 0 (toE 0 (mOp oAddT (mOp oAddT (mSlU (mVar 1) mNoPart (mPart (mVar 4))) (mVar 5)) (mSlU (mVar 1) (mPart (mOp oAddT (mVar 4) (mC (.int 1)))) mNoPart))))
  mSkip)
  (mSeq (mIf (mTest (mOp (oOr oEqS oEq) (mVar 3) (mC (.int 1))))
  (mRetX 0 (toE 0 (mOp oAddT (mOp oAddT (mSlU (mVar 1) mNoPart (mPart (mVar 4))) (mVar 5)) (mSlU (mVar 1) (mPart (mVar 4)) mNoPart))))
  mSkip)
  (mSeq (mIf (mTest (mOp (oOr oEqS oEq) (mVar 3) (mC (.int 2))))
  (mRetX 0 (toE 0 (mOp oAddT (mSlU (mVar 1) mNoPart (mPart (mVar 4))) (mSlU (mVar 1) (mPart (mOp oAddT (mVar 4) (mC (.int 1)))) mNoPart))))
  mSkip)
  (mSeq (mSetE 6 0 (mIoE 2 0 M__law_pick (mConsV (mConsI 0 (toE 0 (mCall cLen (mCons (mVar 2) mNil))) (mNilI 0)))))
  (mSeq (mIf (mTest (mOp (oOr oEqS oEq) (mVar 3) (mC (.int 3))))
  (mRetX 0 (toE 0 (mM1 oJoin (mC (.str "\n")) (mOp oAddT (mSlU (mVar 2) mNoPart (mPart (mVar 6))) (mSlU (mVar 2) (mPart (mOp oAddT (mVar 6) (mC (.int 1)))) mNoPart)))))
  mSkip)
  (mSeq (mIf (mTest (mOp (oOr oEqS oEq) (mVar 3) (mC (.int 4))))
  (mRetX 0 (toE 0 (mM1 oJoin (mC (.str "\n")) (mOp oAddT (mVar 2) (mLst (mCons (mOp oIx (mVar 2) (mVar 6)) mNil))))))
  mSkip)
  (mSeq (mIf (mTest (mOp (oOr oEqS oEq) (mVar 3) (mC (.int 5))))
  (mRetX 0 (toE 0 (mOp oAddT (mVar 1) (mVar 5))))
  mSkip)
  (mRetX 0 (toE 0 (mM1 oJoin (mC (.str "\n")) (mOp oAddT (mSlU (mVar 2) (mPart (mVar 6)) mNoPart) (mSlU (mVar 2) mNoPart (mPart (mVar 6))))))))))))))))))
def M__law_spoilt : List Val → RE Val := mFnIO 0 7 ms__law_spoilt
theorem M__law_spoilt_eq (v1 : Val)(xs : List D) : M__law_spoilt [.io xs, v1] = finIO 0 (ms__law_spoilt [some (.io xs), some v1, none, none, none, none, none]) := rfl
def lp__law_text_0 : Rho → Out := (mIf (mTest (mOp oLt (mVar 4) (mC (.int 0))))
  (mSet 3 (mOp oAddT (mVar 3) (mC (.str " ."))))
  (mSet 3 (mOp oAddT (mOp oAddT (mVar 3) (mC (.str " "))) (mCall cStrI (mCons (mVar 4) mNil)))))
def lp__law_text_1 : Rho → Out := (mSeq (mSet 3 (mC (.str "-")))
  (mSeq (mIf (mTru (mOp oIx (mOp oIx (mVar 0) (mC (.int 1))) (mVar 2)))
  (mSet 3 (mC (.str "+")))
  mSkip)
  (mSeq (mFor (mIterS (mOp oIx (mOp oIx (mVar 0) (mC (.int 2))) (mVar 2))) (bName 4)
  lp__law_text_0)
  (mFrz 3 (mApp 1 (mVar 3))))))
def ms__law_text : Rho → Out := (mSeq (mSet 1 (mLst (mCons (mCall cStrI (mCons (mOp oIx (mVar 0) (mC (.int 0))) mNil)) mNil)))
  (mFrz 3 (mSeq (mFor (mIter1 (mCons (mCall cLen (mCons (mOp oIx (mVar 0) (mC (.int 1))) mNil)) mNil)) (bName 2)
  lp__law_text_1)
  (mRet (mM1 oJoin (mC (.str "\n")) (mVar 1))))))
def M__law_text : List Val → Res Val := mFn 5 ms__law_text
theorem M__law_text_eq (v0 : Val) : M__law_text [v0] = fin (ms__law_text [some v0, none, none, none, none]) := rfl
def ms__targets_in : Rho → Out := (mSeq (mSet 3 (mM1 oSplit (mVar 0) (mC (.str " "))))
  (mSeq (mIf (mOr (mTest (mOp (oOr oNeS oNe) (mCall cLen (mCons (mVar 3) mNil)) (mOp oAddT (mVar 1) (mC (.int 1))))) (mTest (mInK tab_FLAGS true (mOp oIx (mVar 3) (mC (.int 0))))))
  (mRet (mC .none))
  mSkip)
  (mSeq (mIf (mNot (mTru (mCall (cAll fun bs => bs.all id) (mCons (mComp (mIterS (mSlU (mVar 3) (mPart (mC (.int 1))) mNoPart)) (bName 4) mYes (mInI false (mVar 4) (mVar 2)) [4]) mNil))))
  (mRet (mC .none))
  mSkip)
  (mRet (mCall cTuple (mCons (mComp (mIterS (mSlU (mVar 3) (mPart (mC (.int 1))) mNoPart)) (bName 4) mYes (mGetI (mVar 2) (mVar 4)) [4]) mNil))))))
def M__targets_in : List Val → Res Val := mFn 5 ms__targets_in
theorem M__targets_in_eq (v0 v1 v2 : Val) : M__targets_in [v0, v1, v2] = fin (ms__targets_in [some v0, some v1, some v2, none, none]) := rfl
def lp_read_machine_0 : Rho → Out := (mFrz 3 (mSeq (mSet 8 (mDef M__targets_in (mCons (mVar 7) (mCons (mVar 3) (mCons (mVar 4) mNil)))))
  (mSeq (mIf (mTest (mOp (oIsN false) (mVar 8) (mC .none)))
  (mRaiseX "Malformed" "at" (mVar 6))
  mSkip)
  (mFrz 8 (mApp 5 (mVar 8))))))
def ms_read_machine : Rho → Out := (mSeq (mStar 1 2 (mM1 oSplit (mVar 0) (mC (.str "\n"))))
  (mSeq (mIf (mTest (mInK tab_NUMBERS_OF_LETTERS true (mVar 1)))
  (mRaiseX "Malformed" "at" (mC (.int 0)))
  mSkip)
  (mSeq (mSet 3 (mIxK tab_NUMBERS_OF_LETTERS (mVar 1)))
  (mSeq (mDP 4 (mIter1 (mCons (mCall cLen (mCons (mVar 2) mNil)) mNil)) (bName 9) mYes (mCall cStrI (mCons (mVar 9) mNil)) (mVar 9) [9] (mC (.str ".")) (mC (.int (-1))))
  (mSeq (mSet 5 (mLst mNil))
  (mFrz 8 (mFrz 3 (mSeq (mFor (mIterEl (mCons (mVar 2) mNil) (mC (.int 1))) (bTup (bCons (bName 6) (bCons (bName 7) bNil)))
  lp_read_machine_0)
  (mSeq (mIf (mTest (mOp oGt (mCall cLen (mCons (mVar 2) mNil)) (mC (.int (2000)))))
  (mRaiseX "Malformed" "at" (mOp oAddT (mC (.int (2000))) (mC (.int 1))))
  mSkip)
  (mFrz 3 (mRet (mTup (mCons (mVar 3) (mCons (mCall cTuple (mCons (mComp (mIterS (mVar 2)) (bName 7) mYes (mIxK tab_FLAGS (mOp oIx (mVar 7) (mC (.int 0)))) [7]) mNil)) (mCons (mCall cTuple (mCons (mVar 5) mNil)) mNil)))))))))))))))
def M_read_machine : List Val → Res Val := mFn 10 ms_read_machine
theorem M_read_machine_eq (v0 : Val) : M_read_machine [v0] = fin (ms_read_machine [some v0, none, none, none, none, none, none, none, none, none]) := rfl
def ms__law_told : Rho → Out := (mTryF (mRet (mTup (mCons (mC (.str "machine")) (mCons (mDef M_read_machine (mCons (mVar 0) mNil)) mNil)))) dec_YardsortError 1 (mFIfs (fun m => (isd_Malformed m).bind fun k => if k = true then (fun m => (isd_NotMachine m).map (!·)) m else some false) (mFVal (mFT (mFC (mFP (mC (.str "fault"))) (mFC (mFF "Malformed" "at") mFN)))) (mFVal (mFP (mTup (mCons (mC (.str "other")) (mCons (mC (.int 0)) mNil)))))))
def M__law_told : List Val → Res Val := mFn 2 ms__law_told
theorem M__law_told_eq (v0 : Val) : M__law_told [v0] = fin (ms__law_told [some v0, none]) := rfl
def ms_law : Rho → Out := (mSeq (mSet 1 (mDef M__law_draws (mCons (mVar 0) mNil)))
  (mSeq (mSetE 2 1 (mIoE 3 0 M__law_machine (mConsV (mConsI 1 (mOpE 1 oAddT (toE 1 (mC (.int 1))) (mIoE 2 0 M__law_pick (mConsV (mConsI 1 (toE 1 (mC (.int 6))) (mNilI 1))))) (mConsI 1 (toE 1 (mC (.int 12))) (mNilI 1))))))
  (mFrz 2 (mSeq (mSet 3 (mDef M_machine_text (mCons (mVar 2) mNil)))
  (mFrz 3 (mFrz 2 (mSeq (mIf (mOr (mTest (mOp (oOr oNeS oNe) (mVar 3) (mDef M__law_text (mCons (mVar 2) mNil)))) (mTest (mOp (oOr oNeS oNe) (mDef M__law_told (mCons (mVar 3) mNil)) (mTup (mCons (mC (.str "machine")) (mCons (mVar 2) mNil))))))
  (mRet (mC (.bool false)))
  mSkip)
  (mFrz 3 (mSeq (mIf (mOr (mTest (mOp (oOr oNeS oNe) (mCall cRepr (mCons (mDef M_read_machine (mCons (mVar 3) mNil)) mNil)) (mCall cRepr (mCons (mVar 2) mNil)))) (mNot (mTru (mDef M__law_refuses (mCons (mTup (mCons (mC (.int 7)) (mCons (mOp oIx (mVar 2) (mC (.int 1))) (mCons (mOp oIx (mVar 2) (mC (.int 2))) mNil)))) mNil)))))
  (mRet (mC (.bool false)))
  mSkip)
  (mFrz 3 (mSeq (mIfSE 1 (mTestE (mOpE 1 (oOr oEqS oEq) (mIoE 2 0 M__law_pick (mConsV (mConsI 1 (toE 1 (mC (.int 2))) (mNilI 1)))) (toE 1 (mC (.int 0)))))
  (mFrz 3 (mSetE 3 1 (mIoE 2 0 M__law_spoilt (mConsV (mConsI 1 (toE 1 (mVar 3)) (mNilI 1))))))
  mSkip)
  (mFrz 3 (mRet (mOp (oOr oEqS oEq) (mCall cRepr (mCons (mDef M__law_told (mCons (mVar 3) mNil)) mNil)) (mCall cRepr (mCons (mDef M__law_due (mCons (mVar 3) mNil)) mNil))))))))))))))))
def M_law : List Val → Res Val := mFn 4 ms_law
theorem M_law_eq (v0 : Val) : M_law [v0] = fin (ms_law [some v0, none, none, none]) := rfl
end Law

namespace Law
open PySem PySem.Spec PyProof.Rows L2 Mi
set_option maxHeartbeats 4000000
def topS (i : Nat) : Stmt := PySem.Challenge.pw_yardsort_k35_texts_of_machines.main.body.getD i (.Pass ⟨0, 0, 0, 0⟩)
abbrev s__law_number : Stmt := topS 19
abbrev N__law_number : List Str := ["cell"]
abbrev P__law_number : List Str := ["cell"]
theorem sc__law_number : FnScope N__law_number P__law_number (defScope s__law_number) := ⟨rfl, rfl, rfl, by decide +kernel, rfl, by decide +kernel, by decide +kernel⟩
abbrev s__law_draws : Stmt := topS 20
abbrev N__law_draws : List Str := ["script", "draws", "seed", "cell", "rest", "k", "once", "twice"]
abbrev P__law_draws : List Str := ["script"]
theorem sc__law_draws : FnScope N__law_draws P__law_draws (defScope s__law_draws) := ⟨rfl, rfl, rfl, by decide +kernel, rfl, by decide +kernel, by decide +kernel⟩
abbrev s__law_entry : Stmt := topS 30
abbrev N__law_entry : List Str := ["word", "count", "number"]
abbrev P__law_entry : List Str := ["word", "count"]
theorem sc__law_entry : FnScope N__law_entry P__law_entry (defScope s__law_entry) := ⟨rfl, rfl, rfl, by decide +kernel, rfl, by decide +kernel, by decide +kernel⟩
abbrev s__law_due : Stmt := topS 31
abbrev N__law_due : List Str := ["text", "lines", "letters", "accepting", "table", "at", "words", "row", "word"]
abbrev P__law_due : List Str := ["text"]
theorem sc__law_due : FnScope N__law_due P__law_due (defScope s__law_due) := ⟨rfl, rfl, rfl, by decide +kernel, rfl, by decide +kernel, by decide +kernel⟩
abbrev s__law_draw : Stmt := topS 21
abbrev N__law_draw : List Str := ["draws"]
abbrev P__law_draw : List Str := ["draws"]
theorem sc__law_draw : FnScope N__law_draw P__law_draw (defScope s__law_draw) := ⟨rfl, rfl, rfl, by decide +kernel, rfl, by decide +kernel, by decide +kernel⟩
abbrev s__law_pick : Stmt := topS 22
abbrev N__law_pick : List Str := ["draws", "many"]
abbrev P__law_pick : List Str := ["draws", "many"]
theorem sc__law_pick : FnScope N__law_pick P__law_pick (defScope s__law_pick) := ⟨rfl, rfl, rfl, by decide +kernel, rfl, by decide +kernel, by decide +kernel⟩
abbrev s__law_machine : Stmt := topS 23
abbrev N__law_machine : List Str := ["draws", "letters", "many", "size", "accepting", "table", "k", "row", "j", "state"]
abbrev P__law_machine : List Str := ["draws", "letters", "many"]
theorem sc__law_machine : FnScope N__law_machine P__law_machine (defScope s__law_machine) := ⟨rfl, rfl, rfl, by decide +kernel, rfl, by decide +kernel, by decide +kernel⟩
abbrev s__line_of : Stmt := topS 14
abbrev N__line_of : List Str := ["flag", "targets", "sign", "target"]
abbrev P__line_of : List Str := ["flag", "targets"]
theorem sc__line_of : FnScope N__line_of P__line_of (defScope s__line_of) := ⟨rfl, rfl, rfl, by decide +kernel, rfl, by decide +kernel, by decide +kernel⟩
abbrev s_is_machine : Stmt := topS 8
abbrev N_is_machine : List Str := ["machine", "letters", "accepting", "table", "states", "row", "target"]
abbrev P_is_machine : List Str := ["machine"]
theorem sc_is_machine : FnScope N_is_machine P_is_machine (defScope s_is_machine) := ⟨rfl, rfl, rfl, by decide +kernel, rfl, by decide +kernel, by decide +kernel⟩
abbrev s_check_machine : Stmt := topS 9
abbrev N_check_machine : List Str := ["machine"]
abbrev P_check_machine : List Str := ["machine"]
theorem sc_check_machine : FnScope N_check_machine P_check_machine (defScope s_check_machine) := ⟨rfl, rfl, rfl, by decide +kernel, rfl, by decide +kernel, by decide +kernel⟩
abbrev s_machine_text : Stmt := topS 15
abbrev N_machine_text : List Str := ["machine", "letters", "accepting", "table", "lines", "flag", "targets"]
abbrev P_machine_text : List Str := ["machine"]
theorem sc_machine_text : FnScope N_machine_text P_machine_text (defScope s_machine_text) := ⟨rfl, rfl, rfl, by decide +kernel, rfl, by decide +kernel, by decide +kernel⟩
abbrev s__law_refuses : Stmt := topS 33
abbrev N__law_refuses : List Str := ["machine", "e"]
abbrev P__law_refuses : List Str := ["machine"]
theorem sc__law_refuses : FnScope N__law_refuses P__law_refuses (defScope s__law_refuses) := ⟨rfl, rfl, rfl, by decide +kernel, rfl, by decide +kernel, by decide +kernel⟩
abbrev s__law_spoilt : Stmt := topS 29
abbrev N__law_spoilt : List Str := ["draws", "text", "lines", "kind", "at", "char", "place"]
abbrev P__law_spoilt : List Str := ["draws", "text"]
theorem sc__law_spoilt : FnScope N__law_spoilt P__law_spoilt (defScope s__law_spoilt) := ⟨rfl, rfl, rfl, by decide +kernel, rfl, by decide +kernel, by decide +kernel⟩
abbrev s__law_text : Stmt := topS 28
abbrev N__law_text : List Str := ["machine", "lines", "state", "line", "following"]
abbrev P__law_text : List Str := ["machine"]
theorem sc__law_text : FnScope N__law_text P__law_text (defScope s__law_text) := ⟨rfl, rfl, rfl, by decide +kernel, rfl, by decide +kernel, by decide +kernel⟩
abbrev s__targets_in : Stmt := topS 16
abbrev N__targets_in : List Str := ["line", "letters", "numbers", "words", "word"]
abbrev P__targets_in : List Str := ["line", "letters", "numbers"]
theorem sc__targets_in : FnScope N__targets_in P__targets_in (defScope s__targets_in) := ⟨rfl, rfl, rfl, by decide +kernel, rfl, by decide +kernel, by decide +kernel⟩
abbrev s_read_machine : Stmt := topS 17
abbrev N_read_machine : List Str := ["text", "head", "lines", "letters", "numbers", "table", "at", "line", "targets", "state"]
abbrev P_read_machine : List Str := ["text"]
theorem sc_read_machine : FnScope N_read_machine P_read_machine (defScope s_read_machine) := ⟨rfl, rfl, rfl, by decide +kernel, rfl, by decide +kernel, by decide +kernel⟩
abbrev s__law_told : Stmt := topS 32
abbrev N__law_told : List Str := ["text", "e"]
abbrev P__law_told : List Str := ["text"]
theorem sc__law_told : FnScope N__law_told P__law_told (defScope s__law_told) := ⟨rfl, rfl, rfl, by decide +kernel, rfl, by decide +kernel, by decide +kernel⟩
abbrev s_law : Stmt := topS 34
abbrev N_law : List Str := ["script", "draws", "machine", "text"]
abbrev P_law : List Str := ["script"]
theorem sc_law : FnScope N_law P_law (defScope s_law) := ⟨rfl, rfl, rfl, by decide +kernel, rfl, by decide +kernel, by decide +kernel⟩
abbrev s_Malformed_init : Stmt := inClass (topS 3) 0
abbrev N_Malformed_init : List Str := ["self", "at"]
theorem sc_Malformed_init : FnScope N_Malformed_init N_Malformed_init (defScope s_Malformed_init) := ⟨rfl, rfl, rfl, by decide +kernel, rfl, by decide +kernel, by decide +kernel⟩
structure Fx (K : PySem.W.Frag) (mg : Str → Option Value) (a__law_number a__law_draws a__law_entry a__law_due a__law_draw a__law_pick a__law_machine a__line_of a_is_machine a_check_machine a_machine_text a__law_refuses a__law_spoilt a__law_text a__targets_in a_read_machine a__law_told a_law a_Malformed_init : Addr) (d__law_number d__law_draws d__law_entry d__law_due d__law_draw d__law_pick d__law_machine d__line_of d_is_machine d_check_machine d_machine_text d__law_refuses d__law_spoilt d__law_text d__targets_in d_read_machine d__law_told d_law d_Malformed_init : FuncData) (C_Malformed C_NotMachine C_YardsortError D_FLAGS D_NUMBERS_OF_LETTERS : Addr) (pms : PySem.Params) : Prop where
  g__law_number : mg "_law_number" = some (.ref a__law_number)
  f__law_number : Fun K "_law_number" "_law_number" s__law_number a__law_number d__law_number
  b__law_number : Binds K d__law_number P__law_number []
  g__law_draws : mg "_law_draws" = some (.ref a__law_draws)
  f__law_draws : Fun K "_law_draws" "_law_draws" s__law_draws a__law_draws d__law_draws
  b__law_draws : Binds K d__law_draws P__law_draws []
  g__law_entry : mg "_law_entry" = some (.ref a__law_entry)
  f__law_entry : Fun K "_law_entry" "_law_entry" s__law_entry a__law_entry d__law_entry
  b__law_entry : Binds K d__law_entry P__law_entry []
  g__law_due : mg "_law_due" = some (.ref a__law_due)
  f__law_due : Fun K "_law_due" "_law_due" s__law_due a__law_due d__law_due
  b__law_due : Binds K d__law_due P__law_due []
  g__law_draw : mg "_law_draw" = some (.ref a__law_draw)
  f__law_draw : Fun K "_law_draw" "_law_draw" s__law_draw a__law_draw d__law_draw
  b__law_draw : Binds K d__law_draw P__law_draw []
  g__law_pick : mg "_law_pick" = some (.ref a__law_pick)
  f__law_pick : Fun K "_law_pick" "_law_pick" s__law_pick a__law_pick d__law_pick
  b__law_pick : Binds K d__law_pick P__law_pick []
  g__law_machine : mg "_law_machine" = some (.ref a__law_machine)
  f__law_machine : Fun K "_law_machine" "_law_machine" s__law_machine a__law_machine d__law_machine
  b__law_machine : Binds K d__law_machine P__law_machine []
  g__line_of : mg "_line_of" = some (.ref a__line_of)
  f__line_of : Fun K "_line_of" "_line_of" s__line_of a__line_of d__line_of
  b__line_of : Binds K d__line_of P__line_of []
  g_is_machine : mg "is_machine" = some (.ref a_is_machine)
  f_is_machine : Fun K "is_machine" "is_machine" s_is_machine a_is_machine d_is_machine
  b_is_machine : Binds K d_is_machine P_is_machine []
  g_check_machine : mg "check_machine" = some (.ref a_check_machine)
  f_check_machine : Fun K "check_machine" "check_machine" s_check_machine a_check_machine d_check_machine
  b_check_machine : Binds K d_check_machine P_check_machine []
  g_machine_text : mg "machine_text" = some (.ref a_machine_text)
  f_machine_text : Fun K "machine_text" "machine_text" s_machine_text a_machine_text d_machine_text
  b_machine_text : Binds K d_machine_text P_machine_text []
  g__law_refuses : mg "_law_refuses" = some (.ref a__law_refuses)
  f__law_refuses : Fun K "_law_refuses" "_law_refuses" s__law_refuses a__law_refuses d__law_refuses
  b__law_refuses : Binds K d__law_refuses P__law_refuses []
  g__law_spoilt : mg "_law_spoilt" = some (.ref a__law_spoilt)
  f__law_spoilt : Fun K "_law_spoilt" "_law_spoilt" s__law_spoilt a__law_spoilt d__law_spoilt
  b__law_spoilt : Binds K d__law_spoilt P__law_spoilt []
  g__law_text : mg "_law_text" = some (.ref a__law_text)
  f__law_text : Fun K "_law_text" "_law_text" s__law_text a__law_text d__law_text
  b__law_text : Binds K d__law_text P__law_text []
  g__targets_in : mg "_targets_in" = some (.ref a__targets_in)
  f__targets_in : Fun K "_targets_in" "_targets_in" s__targets_in a__targets_in d__targets_in
  b__targets_in : Binds K d__targets_in P__targets_in []
  g_read_machine : mg "read_machine" = some (.ref a_read_machine)
  f_read_machine : Fun K "read_machine" "read_machine" s_read_machine a_read_machine d_read_machine
  b_read_machine : Binds K d_read_machine P_read_machine []
  g__law_told : mg "_law_told" = some (.ref a__law_told)
  f__law_told : Fun K "_law_told" "_law_told" s__law_told a__law_told d__law_told
  b__law_told : Binds K d__law_told P__law_told []
  g_law : mg "law" = some (.ref a_law)
  f_law : Fun K "law" "law" s_law a_law d_law
  b_law : Binds K d_law P_law []
  n_all : mg "all" = none
  n_enumerate : mg "enumerate" = none
  n_int : mg "int" = none
  n_isinstance : mg "isinstance" = none
  n_len : mg "len" = none
  n_range : mg "range" = none
  n_repr : mg "repr" = none
  n_str : mg "str" = none
  n_tuple : mg "tuple" = none
  n_zip : mg "zip" = none
  c_DEAD : ∃ t, mg "DEAD" = some (.int (-1) t)
  c_MOST_LETTERS : ∃ t, mg "MOST_LETTERS" = some (.int (6) t)
  c_MOST_STATES : ∃ t, mg "MOST_STATES" = some (.int (2000) t)
  c_NOWHERE : ∃ t, mg "NOWHERE" = some (.str "." t)
  kd_FLAGS : KDOf K pms mg "FLAGS" D_FLAGS tab_FLAGS
  kd_NUMBERS_OF_LETTERS : KDOf K pms mg "NUMBERS_OF_LETTERS" D_NUMBERS_OF_LETTERS tab_NUMBERS_OF_LETTERS
  e_Malformed : mg "Malformed" = some (.ref C_Malformed)
  k_Malformed : PySem.W.keepIn K (.ref C_Malformed) = true
  r_Malformed : PySem.W.subIn K (.ref C_Malformed) (.type "BaseException") = some true
  t_Malformed : PySem.W.typeIn K (.ref C_Malformed) = some (.type "type")
  e_NotMachine : mg "NotMachine" = some (.ref C_NotMachine)
  x_NotMachine : PySem.W.excIn K C_NotMachine [.type "ValueError", .type "Exception", .type "BaseException", .type "object"] "ValueError.__new__" = true
  k_NotMachine : PySem.W.keepIn K (.ref C_NotMachine) = true
  r_NotMachine : PySem.W.subIn K (.ref C_NotMachine) (.type "BaseException") = some true
  t_NotMachine : PySem.W.typeIn K (.ref C_NotMachine) = some (.type "type")
  e_YardsortError : mg "YardsortError" = some (.ref C_YardsortError)
  x_YardsortError : PySem.W.excIn K C_YardsortError [.type "ValueError", .type "Exception", .type "BaseException", .type "object"] "ValueError.__new__" = true
  k_YardsortError : PySem.W.keepIn K (.ref C_YardsortError) = true
  r_YardsortError : PySem.W.subIn K (.ref C_YardsortError) (.type "BaseException") = some true
  t_YardsortError : PySem.W.typeIn K (.ref C_YardsortError) = some (.type "type")
  d_Malformed : Decs K mg (.ref C_Malformed) dec_Malformed
  d_NotMachine : Decs K mg (.ref C_NotMachine) dec_NotMachine
  d_YardsortError : Decs K mg (.ref C_YardsortError) dec_YardsortError
  j_Malformed : IsD K mg (.ref C_Malformed) isd_Malformed
  j_NotMachine : IsD K mg (.ref C_NotMachine) isd_NotMachine
  xf_Malformed : Fun K "__init__" "Malformed.__init__" s_Malformed_init a_Malformed_init d_Malformed_init
  xb_Malformed : Binds K d_Malformed_init N_Malformed_init []
  xo_Malformed : OexC K C_Malformed
  xi_Malformed : PySem.W.findIn K (.ref C_Malformed) "__init__" = some (some (.ref a_Malformed_init))
  xt_Malformed : PySem.W.typeIn K (.ref a_Malformed_init) = some (.type "function")
  xn_Malformed : PySem.W.findIn K (.ref C_Malformed) "at" = some none
  xx_Malformed : XfC K C_Malformed
section
variable {P : Program} {w : World} {K : PySem.W.Frag} {mg : Str → Option Value} {base : Heap} {a__law_number a__law_draws a__law_entry a__law_due a__law_draw a__law_pick a__law_machine a__line_of a_is_machine a_check_machine a_machine_text a__law_refuses a__law_spoilt a__law_text a__targets_in a_read_machine a__law_told a_law a_Malformed_init : Addr} {d__law_number d__law_draws d__law_entry d__law_due d__law_draw d__law_pick d__law_machine d__line_of d_is_machine d_check_machine d_machine_text d__law_refuses d__law_spoilt d__law_text d__targets_in d_read_machine d__law_told d_law d_Malformed_init : FuncData} {C_Malformed C_NotMachine C_YardsortError D_FLAGS D_NUMBERS_OF_LETTERS : Addr}
theorem okX_Malformed (T : Fx K mg a__law_number a__law_draws a__law_entry a__law_due a__law_draw a__law_pick a__law_machine a__line_of a_is_machine a_check_machine a_machine_text a__law_refuses a__law_spoilt a__law_text a__targets_in a_read_machine a__law_told a_law a_Malformed_init d__law_number d__law_draws d__law_entry d__law_due d__law_draw d__law_pick d__law_machine d__line_of d_is_machine d_check_machine d_machine_text d__law_refuses d__law_spoilt d__law_text d__targets_in d_read_machine d__law_told d_law d_Malformed_init C_Malformed C_NotMachine C_YardsortError D_FLAGS D_NUMBERS_OF_LETTERS w.params) : FnOk P w K mg base (L2.CX P w) 1 a_Malformed_init d_Malformed_init N_Malformed_init (spXI C_Malformed "at") := xinit_ok (k := 0) T.xf_Malformed sc_Malformed_init T.xo_Malformed T.xn_Malformed fun cdv A outer s H E => pss_one (ps_ost (pe_var (i := 0) (x := "self") rfl (Or.inl rfl)) (pe_var (i := 1) (x := "at") rfl (Or.inl rfl)))
theorem ok__law_number (T : Fx K mg a__law_number a__law_draws a__law_entry a__law_due a__law_draw a__law_pick a__law_machine a__line_of a_is_machine a_check_machine a_machine_text a__law_refuses a__law_spoilt a__law_text a__targets_in a_read_machine a__law_told a_law a_Malformed_init d__law_number d__law_draws d__law_entry d__law_due d__law_draw d__law_pick d__law_machine d__line_of d_is_machine d_check_machine d_machine_text d__law_refuses d__law_spoilt d__law_text d__targets_in d_read_machine d__law_told d_law d_Malformed_init C_Malformed C_NotMachine C_YardsortError D_FLAGS D_NUMBERS_OF_LETTERS w.params) : FnG P w K mg base 1 a__law_number d__law_number P__law_number (spM K mg 1 M__law_number) := by
  refine def_ok (N := N__law_number) (ps := P__law_number) (k := 0) (ms := ms__law_number) T.f__law_number sc__law_number fun cdv A outer s H E gd hr => ?_
  have tk : Takes (cxOf (L2.CX P w) P w K mg base N__law_number "_law_number" (defScope s__law_number) a__law_number cdv A outer s H E) (wOf E) := takes_of rfl rfl rfl rfl
  exact ⟨_, (pmss_cons (pms_if (pmt_cmp op_lt (os_lt (K := K)) (pm_var 0) pm_int)
    (pmss_one (pms_ret (pm_op op_sub (os_sub (K := K)) pm_int (pm_var 0))))
    pmss_nil)
    (pmss_one (pms_retV 0)))⟩
theorem ok__law_draws (T : Fx K mg a__law_number a__law_draws a__law_entry a__law_due a__law_draw a__law_pick a__law_machine a__line_of a_is_machine a_check_machine a_machine_text a__law_refuses a__law_spoilt a__law_text a__targets_in a_read_machine a__law_told a_law a_Malformed_init d__law_number d__law_draws d__law_entry d__law_due d__law_draw d__law_pick d__law_machine d__line_of d_is_machine d_check_machine d_machine_text d__law_refuses d__law_spoilt d__law_text d__targets_in d_read_machine d__law_told d_law d_Malformed_init C_Malformed C_NotMachine C_YardsortError D_FLAGS D_NUMBERS_OF_LETTERS w.params) : FnG P w K mg base 2 a__law_draws d__law_draws P__law_draws (spM K mg 1 M__law_draws) := by
  have F__law_number : FnG P w K mg base 1 a__law_number d__law_number P__law_number (spM K mg 1 M__law_number) := ok__law_number T
  refine def_ok (N := N__law_draws) (ps := P__law_draws) (k := 1) (ms := ms__law_draws) T.f__law_draws sc__law_draws fun cdv A outer s H E gd hr => ?_
  have tk : Takes (cxOf (L2.CX P w) P w K mg base N__law_draws "_law_draws" (defScope s__law_draws) a__law_draws cdv A outer s H E) (wOf E) := takes_of rfl rfl rfl rfl
  exact ⟨_, (pmss_cons (pms_set 1 sc__law_draws.nd (pm_lst pma_nil))
    (pmss_cons (pms_set 2 sc__law_draws.nd pm_int)
    (pmss_cons (pms_for (passes_of rfl) rfl (pmi_s (K := K) (pm_var 0)) (pmg_name 3 sc__law_draws.nd)
    (pmss_cons (pms_set 4 sc__law_draws.nd (pm_defK F__law_number gd (hr.mono (by decide)) T.g__law_number T.f__law_number.kp T.b__law_number (fun σ => passAt tk σ) (pma_cons (pm_var 3) pma_nil) (mCons_len mNil_len)))
    (pmss_cons (pms_set 2 sc__law_draws.nd (pm_op op_mod (os_mod (K := K)) (pm_callTy call_int1 (cs_intB (K := K)) T.n_int (by decide +kernel) (pma_cons (pm_op (or_op op_add (or_op (op_catAK (K := K)) (or_op op_add_str op_cat))) (os_or (os_addI (K := K)) (os_or (os_catT (K := K)) (os_or (os_strcat (K := K)) (os_cat (K := K))))) (pm_op (or_op op_mul op_rep) (os_or (os_mulN (K := K)) (os_rep (K := K))) (pm_var 2) pm_int) (pm_var 4)) pma_nil)) pm_int))
    (pmss_one (pms_if (pmt_cmp op_ge (os_ge (K := K)) (pm_var 4) pm_int)
    (pmss_one (pms_for (passes_of rfl) rfl (pmi_1 T.n_range (pma_cons pm_int pma_nil)) (pmg_name 5 sc__law_draws.nd)
    (pmss_cons (pms_if (pmt_cmp (or_op op_eq (op_eqDK (K := K) hr.units)) (os_or (os_eqS (K := K)) (os_eq (K := K))) (pm_var 4) pm_int)
    (pmss_one pms_brk)
    pmss_nil)
    (pmss_cons (pms_app 1 (pm_op op_mod (os_mod (K := K)) (pm_callTy call_int1 (cs_intB (K := K)) T.n_int (by decide +kernel) (pma_cons (pm_var 4) pma_nil)) pm_int))
    (pmss_one (pms_set 4 sc__law_draws.nd (pm_op op_fdiv (os_divN (K := K)) (pm_var 4) pm_int)))))))
    (pmss_cons (pms_set 6 sc__law_draws.nd (pm_op op_mod (os_mod (K := K)) (pm_callTy call_int1 (cs_intB (K := K)) T.n_int (by decide +kernel) (pma_cons (pm_op (or_op op_add (or_op (op_catAK (K := K)) (or_op op_add_str op_cat))) (os_or (os_addI (K := K)) (os_or (os_catT (K := K)) (os_or (os_strcat (K := K)) (os_cat (K := K))))) (pm_op (or_op op_mul op_rep) (os_or (os_mulN (K := K)) (os_rep (K := K))) (pm_var 4) pm_int) pm_int) pma_nil)) pm_int))
    (pmss_cons (pms_set 7 sc__law_draws.nd (pm_op op_mod (os_mod (K := K)) (pm_callTy call_int1 (cs_intB (K := K)) T.n_int (by decide +kernel) (pma_cons (pm_op (or_op op_add (or_op (op_catAK (K := K)) (or_op op_add_str op_cat))) (os_or (os_addI (K := K)) (os_or (os_catT (K := K)) (os_or (os_strcat (K := K)) (os_cat (K := K))))) (pm_op (or_op op_mul op_rep) (os_or (os_mulN (K := K)) (os_rep (K := K))) (pm_var 6) pm_int) (pm_var 4)) pma_nil)) pm_int))
    (pmss_one (pms_ext 1 (pm_lst (pma_cons (pm_op op_mod (os_mod (K := K)) (pm_callTy call_int1 (cs_intB (K := K)) T.n_int (by decide +kernel) (pma_cons (pm_var 4) pma_nil)) pm_int) (pma_cons (pm_op op_mod (os_mod (K := K)) (pm_callTy call_int1 (cs_intB (K := K)) T.n_int (by decide +kernel) (pma_cons (pm_var 6) pma_nil)) pm_int) (pma_cons (pm_op op_mod (os_mod (K := K)) (pm_callTy call_int1 (cs_intB (K := K)) T.n_int (by decide +kernel) (pma_cons (pm_var 7) pma_nil)) pm_int) pma_nil)))))))))))))
    (pmss_cons (pms_for (passes_of rfl) rfl (pmi_1 T.n_range (pma_cons pm_int pma_nil)) (pmg_name 5 sc__law_draws.nd)
    (pmss_cons (pms_set 2 sc__law_draws.nd (pm_op op_mod (os_mod (K := K)) (pm_callTy call_int1 (cs_intB (K := K)) T.n_int (by decide +kernel) (pma_cons (pm_op (or_op op_add (or_op (op_catAK (K := K)) (or_op op_add_str op_cat))) (os_or (os_addI (K := K)) (os_or (os_catT (K := K)) (os_or (os_strcat (K := K)) (os_cat (K := K))))) (pm_op (or_op op_mul op_rep) (os_or (os_mulN (K := K)) (os_rep (K := K))) (pm_var 2) pm_int) pm_int) pma_nil)) pm_int))
    (pmss_one (pms_app 1 (pm_op op_mod (os_mod (K := K)) (pm_callTy call_int1 (cs_intB (K := K)) T.n_int (by decide +kernel) (pma_cons (pm_op op_fdiv (os_divN (K := K)) (pm_var 2) pm_int) pma_nil)) pm_int)))))
    (pmss_cons (pms_rev 1)
    (pmss_one (pms_retV 1)))))))⟩
theorem ok__law_entry (T : Fx K mg a__law_number a__law_draws a__law_entry a__law_due a__law_draw a__law_pick a__law_machine a__line_of a_is_machine a_check_machine a_machine_text a__law_refuses a__law_spoilt a__law_text a__targets_in a_read_machine a__law_told a_law a_Malformed_init d__law_number d__law_draws d__law_entry d__law_due d__law_draw d__law_pick d__law_machine d__line_of d_is_machine d_check_machine d_machine_text d__law_refuses d__law_spoilt d__law_text d__targets_in d_read_machine d__law_told d_law d_Malformed_init C_Malformed C_NotMachine C_YardsortError D_FLAGS D_NUMBERS_OF_LETTERS w.params) : FnG P w K mg base 1 a__law_entry d__law_entry P__law_entry (spM K mg 2 M__law_entry) := by
  refine def_ok (N := N__law_entry) (ps := P__law_entry) (k := 0) (ms := ms__law_entry) T.f__law_entry sc__law_entry fun cdv A outer s H E gd hr => ?_
  have tk : Takes (cxOf (L2.CX P w) P w K mg base N__law_entry "_law_entry" (defScope s__law_entry) a__law_entry cdv A outer s H E) (wOf E) := takes_of rfl rfl rfl rfl
  exact ⟨_, (pmss_cons (pms_if (pmt_cmp (or_op op_eq (op_eqDK (K := K) hr.units)) (os_or (os_eqS (K := K)) (os_eq (K := K))) (pm_var 0) pm_str)
    (pmss_one (pms_ret (pm_neg pm_int)))
    pmss_nil)
    (pmss_cons (pms_for (passes_of rfl) rfl (pmi_1 T.n_range (pma_cons (pm_var 1) pma_nil)) (pmg_name 2 sc__law_entry.nd)
    (pmss_one (pms_if (pmt_cmp (or_op op_eq (op_eqDK (K := K) hr.units)) (os_or (os_eqS (K := K)) (os_eq (K := K))) (pm_var 0) (pm_callTy call_str_int (cs_strI (K := K)) T.n_str (by decide +kernel) (pma_cons (pm_var 2) pma_nil)))
    (pmss_one (pms_retV 2))
    pmss_nil)))
    (pmss_one (pms_ret (pm_neg pm_int)))))⟩
theorem ok__law_due (T : Fx K mg a__law_number a__law_draws a__law_entry a__law_due a__law_draw a__law_pick a__law_machine a__line_of a_is_machine a_check_machine a_machine_text a__law_refuses a__law_spoilt a__law_text a__targets_in a_read_machine a__law_told a_law a_Malformed_init d__law_number d__law_draws d__law_entry d__law_due d__law_draw d__law_pick d__law_machine d__line_of d_is_machine d_check_machine d_machine_text d__law_refuses d__law_spoilt d__law_text d__targets_in d_read_machine d__law_told d_law d_Malformed_init C_Malformed C_NotMachine C_YardsortError D_FLAGS D_NUMBERS_OF_LETTERS w.params) : FnG P w K mg base 2 a__law_due d__law_due P__law_due (spM K mg 1 M__law_due) := by
  have F__law_entry : FnG P w K mg base 1 a__law_entry d__law_entry P__law_entry (spM K mg 2 M__law_entry) := ok__law_entry T
  refine def_ok (N := N__law_due) (ps := P__law_due) (k := 1) (ms := ms__law_due) T.f__law_due sc__law_due fun cdv A outer s H E gd hr => ?_
  have tk : Takes (cxOf (L2.CX P w) P w K mg base N__law_due "_law_due" (defScope s__law_due) a__law_due cdv A outer s H E) (wOf E) := takes_of rfl rfl rfl rfl
  exact ⟨_, (pmss_cons (pms_set 1 sc__law_due.nd (pm_splitK (pm_var 0) pm_str))
    (pmss_cons (pms_if (pmt_cmp (or_op (op_notIn_seqK (K := K)) op_notIn_str) (os_or (os_in (K := K)) (os_notInS (K := K))) (pm_ix (ix_seqK (K := K)) (os_ix (K := K)) (pm_var 1) pm_int) (pm_lst (pma_cons pm_str (pma_cons pm_str (pma_cons pm_str (pma_cons pm_str (pma_cons pm_str (pma_cons pm_str pma_nil))))))) (by rfl))
    (pmss_one (pms_ret (pm_tup (pma_cons pm_str (pma_cons pm_int pma_nil)))))
    pmss_nil)
    (pmss_cons (pms_set 2 sc__law_due.nd (pm_callTy (cr_or call_int1 call_int_str) (cs_or (cs_int1 (K := K)) (cs_intS (K := K))) T.n_int (by decide +kernel) (pma_cons (pm_ix (ix_seqK (K := K)) (os_ix (K := K)) (pm_var 1) pm_int) pma_nil)))
    (pmss_cons (pms_set 3 sc__law_due.nd (pm_lst pma_nil))
    (pmss_cons (pms_set 4 sc__law_due.nd (pm_lst pma_nil))
    (pmss_cons (pms_for (passes_of rfl) rfl (pmi_2 T.n_range (pma_cons pm_int (pma_cons (pm_callB (call_lenK (K := K)) (cs_len (K := K)) T.n_len (by decide +kernel) (pma_cons (pm_var 1) pma_nil)) pma_nil))) (pmg_name 5 sc__law_due.nd)
    (pmss_cons (pms_set 6 sc__law_due.nd (pm_splitK (pm_ix (ix_seqK (K := K)) (os_ix (K := K)) (pm_var 1) (pm_var 5)) pm_str))
    (pmss_cons (pms_setLc 7 [("word", 8)] rfl sc__law_due.nd rfl rfl (sw_true rfl rfl rfl (by decide +kernel)) (pmi_s (K := K) (pm_sliceUK (K := K) (pm_var 6) (pmo_some pm_int) pmo_none)) (blkOk_by (own := [("word", 8)]) (N := N__law_due) (sc := defScope s__law_due) (by decide +kernel)) (by decide) (fun _ _ _ _ _ => (pmg_name 8 sc__law_due.nd)) (fun _ _ _ _ _ => pmts_nil) (fun _ _ _ _ _ => (pm_defK F__law_entry gd (hr.mono (by decide)) T.g__law_entry T.f__law_entry.kp T.b__law_entry (fun σ => passB) (pma_cons (pm_var 8) (pma_cons (pm_op op_sub (os_sub (K := K)) (pm_callB (call_lenK (K := K)) (cs_len (K := K)) T.n_len (by decide +kernel) (pma_cons (pm_var 1) pma_nil)) pm_int) pma_nil)) (mCons_len (mCons_len mNil_len)))))
    (pmss_cons (pms_if (PMW.t (pmw_or (pmt_cmp (or_op (op_notIn_seqK (K := K)) op_notIn_str) (os_or (os_in (K := K)) (os_notInS (K := K))) (pm_ix (ix_seqK (K := K)) (os_ix (K := K)) (pm_var 6) pm_int) (pm_lst (pma_cons pm_str (pma_cons pm_str pma_nil))) (by rfl)) (pmw_or (pmt_cmp (or_op op_ne (op_neDK (K := K) hr.units)) (os_or (os_neS (K := K)) (os_ne (K := K))) (pm_callB (call_lenK (K := K)) (cs_len (K := K)) T.n_len (by decide +kernel) (pma_cons (pm_var 7) pma_nil)) (pm_var 2)) (pmw_or1 (pmt_cmp (or_op (op_in_seqK (K := K)) op_in_str) (os_or (os_in (K := K)) (os_inS (K := K))) (pm_neg pm_int) (pm_var 7) (by rfl))))))
    (pmss_one (pms_ret (pm_tup (pma_cons pm_str (pma_cons (pm_var 5) pma_nil)))))
    pmss_nil)
    (pmss_cons (pms_app 3 (pm_cmp (or_op op_eq (op_eqDK (K := K) hr.units)) (os_or (os_eqS (K := K)) (os_eq (K := K))) (pm_ix (ix_seqK (K := K)) (os_ix (K := K)) (pm_var 6) pm_int) pm_str))
    (pmss_one (pms_app 4 (pm_callTy (call_tupleK (K := K)) (cs_tuple (K := K)) T.n_tuple (by decide +kernel) (pma_cons (pm_var 7) pma_nil)))))))))
    (pmss_frz 2 (pmss_one (pms_ret (pm_tup (pma_cons pm_str (pma_cons (pm_tup (pma_cons (pm_var 2) (pma_cons (pm_callTy (call_tupleK (K := K)) (cs_tuple (K := K)) T.n_tuple (by decide +kernel) (pma_cons (pm_var 3) pma_nil)) (pma_cons (pm_callTy (call_tupleK (K := K)) (cs_tuple (K := K)) T.n_tuple (by decide +kernel) (pma_cons (pm_var 4) pma_nil)) pma_nil)))) pma_nil))))))))))))⟩
theorem ok__law_draw (T : Fx K mg a__law_number a__law_draws a__law_entry a__law_due a__law_draw a__law_pick a__law_machine a__line_of a_is_machine a_check_machine a_machine_text a__law_refuses a__law_spoilt a__law_text a__targets_in a_read_machine a__law_told a_law a_Malformed_init d__law_number d__law_draws d__law_entry d__law_due d__law_draw d__law_pick d__law_machine d__line_of d_is_machine d_check_machine d_machine_text d__law_refuses d__law_spoilt d__law_text d__targets_in d_read_machine d__law_told d_law d_Malformed_init C_Malformed C_NotMachine C_YardsortError D_FLAGS D_NUMBERS_OF_LETTERS w.params) : FnG P w K mg base 1 a__law_draw d__law_draw P__law_draw (spIO K mg 1 0 M__law_draw) := by
  refine def_okIO (c := 0) (N := N__law_draw) (ps := P__law_draw) (k := 0) (ms := ms__law_draw) T.f__law_draw sc__law_draw fun cdv A outer s H E gd hr => ?_
  have tk : Takes (cxOf (L2.CX P w) P w K mg base N__law_draw "_law_draw" (defScope s__law_draw) a__law_draw cdv A outer s H E) (wOf E) := takes_of rfl rfl rfl rfl
  exact ⟨_, (pmss_cons (pms_if (pmt_truK (K := K) (pm_var 0))
    (pmss_one (pms_retX pme_pop))
    pmss_nil)
    (pmss_one (pms_retX (pme_pure pm_int))))⟩
theorem ok__law_pick (T : Fx K mg a__law_number a__law_draws a__law_entry a__law_due a__law_draw a__law_pick a__law_machine a__line_of a_is_machine a_check_machine a_machine_text a__law_refuses a__law_spoilt a__law_text a__targets_in a_read_machine a__law_told a_law a_Malformed_init d__law_number d__law_draws d__law_entry d__law_due d__law_draw d__law_pick d__law_machine d__line_of d_is_machine d_check_machine d_machine_text d__law_refuses d__law_spoilt d__law_text d__targets_in d_read_machine d__law_told d_law d_Malformed_init C_Malformed C_NotMachine C_YardsortError D_FLAGS D_NUMBERS_OF_LETTERS w.params) : FnG P w K mg base 2 a__law_pick d__law_pick P__law_pick (spIO K mg 2 0 M__law_pick) := by
  have F__law_draw : FnG P w K mg base 1 a__law_draw d__law_draw P__law_draw (spIO K mg 1 0 M__law_draw) := ok__law_draw T
  refine def_okIO (c := 0) (N := N__law_pick) (ps := P__law_pick) (k := 1) (ms := ms__law_pick) T.f__law_pick sc__law_pick fun cdv A outer s H E gd hr => ?_
  have tk : Takes (cxOf (L2.CX P w) P w K mg base N__law_pick "_law_pick" (defScope s__law_pick) a__law_pick cdv A outer s H E) (wOf E) := takes_of rfl rfl rfl rfl
  exact ⟨_, (pmss_one (pms_retX (pme_op op_mod (os_mod (K := K)) (pme_callTy call_int1 (cs_intB (K := K)) T.n_int (by decide +kernel) (pmae_cons (pme_io F__law_draw gd (hr.mono (by decide)) T.g__law_draw T.f__law_draw.kp T.b__law_draw (fun σ => passAt tk σ) (pmio_v pmio_nil)) pmae_nil)) (pme_pure (pm_var 1)))))⟩
theorem ok__law_machine (T : Fx K mg a__law_number a__law_draws a__law_entry a__law_due a__law_draw a__law_pick a__law_machine a__line_of a_is_machine a_check_machine a_machine_text a__law_refuses a__law_spoilt a__law_text a__targets_in a_read_machine a__law_told a_law a_Malformed_init d__law_number d__law_draws d__law_entry d__law_due d__law_draw d__law_pick d__law_machine d__line_of d_is_machine d_check_machine d_machine_text d__law_refuses d__law_spoilt d__law_text d__targets_in d_read_machine d__law_told d_law d_Malformed_init C_Malformed C_NotMachine C_YardsortError D_FLAGS D_NUMBERS_OF_LETTERS w.params) : FnG P w K mg base 3 a__law_machine d__law_machine P__law_machine (spIO K mg 3 0 M__law_machine) := by
  have F__law_pick : FnG P w K mg base 2 a__law_pick d__law_pick P__law_pick (spIO K mg 2 0 M__law_pick) := ok__law_pick T
  refine def_okIO (c := 0) (N := N__law_machine) (ps := P__law_machine) (k := 2) (ms := ms__law_machine) T.f__law_machine sc__law_machine fun cdv A outer s H E gd hr => ?_
  have tk : Takes (cxOf (L2.CX P w) P w K mg base N__law_machine "_law_machine" (defScope s__law_machine) a__law_machine cdv A outer s H E) (wOf E) := takes_of rfl rfl rfl rfl
  exact ⟨_, (pmss_cons (pms_setE 3 sc__law_machine.nd (pme_io F__law_pick gd (hr.mono (by decide)) T.g__law_pick T.f__law_pick.kp T.b__law_pick (fun σ => passAt tk σ) (pmio_v (pmio_cons (pme_pure (pm_op (or_op op_add (or_op (op_catAK (K := K)) (or_op op_add_str op_cat))) (os_or (os_addI (K := K)) (os_or (os_catT (K := K)) (os_or (os_strcat (K := K)) (os_cat (K := K))))) (pm_var 2) pm_int)) pmio_nil))))
    (pmss_cons (pms_set 4 sc__law_machine.nd (pm_lst pma_nil))
    (pmss_cons (pms_set 5 sc__law_machine.nd (pm_lst pma_nil))
    (pmss_frz 9 (pmss_frz 3 (pmss_cons (pms_for (passes_of rfl) rfl (pmi_1 T.n_range (pma_cons (pm_var 3) pma_nil)) (pmg_name 6 sc__law_machine.nd)
    (pmss_cons (pms_appE 4 (pme_cmp (or_op op_eq (op_eqDK (K := K) hr.units)) (os_or (os_eqS (K := K)) (os_eq (K := K))) (pme_io F__law_pick gd (hr.mono (by decide)) T.g__law_pick T.f__law_pick.kp T.b__law_pick (fun σ => passAt tk σ) (pmio_v (pmio_cons (pme_pure pm_int) pmio_nil))) (pme_pure pm_int)))
    (pmss_cons (pms_set 7 sc__law_machine.nd (pm_lst pma_nil))
    (pmss_frz 9 (pmss_frz 3 (pmss_cons (pms_for (passes_of rfl) rfl (pmi_1 T.n_range (pma_cons (pm_var 1) pma_nil)) (pmg_name 8 sc__law_machine.nd)
    (pmss_frz 3 (pmss_cons (pms_setE 9 sc__law_machine.nd (pme_io F__law_pick gd (hr.mono (by decide)) T.g__law_pick T.f__law_pick.kp T.b__law_pick (fun σ => passAt tk σ) (pmio_v (pmio_cons (pme_pure (pm_var 3)) pmio_nil))))
    (pmss_cons (pms_ifSE (pmte_cmp (or_op op_eq (op_eqDK (K := K) hr.units)) (os_or (os_eqS (K := K)) (os_eq (K := K))) (pme_io F__law_pick gd (hr.mono (by decide)) T.g__law_pick T.f__law_pick.kp T.b__law_pick (fun σ => passAt tk σ) (pmio_v (pmio_cons (pme_pure pm_int) pmio_nil))) (pme_pure pm_int))
    (pmss_one (pms_set 9 sc__law_machine.nd (pm_neg pm_int)))
    pmss_nil)
    (pmss_frz 9 (pmss_one (pms_app 7 (pm_var 9))))))))
    (pmss_one (pms_app 5 (pm_callTy (call_tupleK (K := K)) (cs_tuple (K := K)) T.n_tuple (by decide +kernel) (pma_cons (pm_var 7) pma_nil))))))))))
    (pmss_one (pms_retX (pme_pure (pm_tup (pma_cons (pm_var 1) (pma_cons (pm_callTy (call_tupleK (K := K)) (cs_tuple (K := K)) T.n_tuple (by decide +kernel) (pma_cons (pm_var 4) pma_nil)) (pma_cons (pm_callTy (call_tupleK (K := K)) (cs_tuple (K := K)) T.n_tuple (by decide +kernel) (pma_cons (pm_var 5) pma_nil)) pma_nil)))))))))))))⟩
theorem ok__line_of (T : Fx K mg a__law_number a__law_draws a__law_entry a__law_due a__law_draw a__law_pick a__law_machine a__line_of a_is_machine a_check_machine a_machine_text a__law_refuses a__law_spoilt a__law_text a__targets_in a_read_machine a__law_told a_law a_Malformed_init d__law_number d__law_draws d__law_entry d__law_due d__law_draw d__law_pick d__law_machine d__line_of d_is_machine d_check_machine d_machine_text d__law_refuses d__law_spoilt d__law_text d__targets_in d_read_machine d__law_told d_law d_Malformed_init C_Malformed C_NotMachine C_YardsortError D_FLAGS D_NUMBERS_OF_LETTERS w.params) : FnG P w K mg base 1 a__line_of d__line_of P__line_of (spM K mg 2 M__line_of) := by
  refine def_ok (N := N__line_of) (ps := P__line_of) (k := 0) (ms := ms__line_of) T.f__line_of sc__line_of fun cdv A outer s H E gd hr => ?_
  have tk : Takes (cxOf (L2.CX P w) P w K mg base N__line_of "_line_of" (defScope s__line_of) a__line_of cdv A outer s H E) (wOf E) := takes_of rfl rfl rfl rfl
  exact ⟨_, (pmss_cons (pms_set 2 sc__line_of.nd (pm_ifE (pmt_truK (K := K) (pm_var 0)) pm_str pm_str))
    (pmss_frz 2 (pmss_one (pms_ret (pm_joinK (K := K) pm_str (pm_op (or_op op_add (or_op (op_catAK (K := K)) (or_op op_add_str op_cat))) (os_or (os_addI (K := K)) (os_or (os_catT (K := K)) (os_or (os_strcat (K := K)) (os_cat (K := K))))) (pm_lst (pma_cons (pm_var 2) pma_nil)) (pm_lc [("target", 3)] rfl sc__line_of.nd (pmi_s (K := K) (pm_var 1)) (blkOk_by (own := [("target", 3)]) (N := N__line_of) (sc := defScope s__line_of) (by decide +kernel)) (by decide) (fun _ _ _ _ _ => (pmg_name 3 sc__line_of.nd)) (fun _ _ _ _ _ => pmts_nil) (fun _ _ _ _ _ => (pm_ifE (pmt_cmp (or_op op_eq (op_eqDK (K := K) hr.units)) (os_or (os_eqS (K := K)) (os_eq (K := K))) (pm_var 3) (pm_globI T.c_DEAD)) (pm_globS T.c_NOWHERE) (pm_callTy call_str_int (cs_strI (K := K)) T.n_str (by decide +kernel) (pma_cons (pm_var 3) pma_nil)))))))))))⟩
theorem ok_is_machine (T : Fx K mg a__law_number a__law_draws a__law_entry a__law_due a__law_draw a__law_pick a__law_machine a__line_of a_is_machine a_check_machine a_machine_text a__law_refuses a__law_spoilt a__law_text a__targets_in a_read_machine a__law_told a_law a_Malformed_init d__law_number d__law_draws d__law_entry d__law_due d__law_draw d__law_pick d__law_machine d__line_of d_is_machine d_check_machine d_machine_text d__law_refuses d__law_spoilt d__law_text d__targets_in d_read_machine d__law_told d_law d_Malformed_init C_Malformed C_NotMachine C_YardsortError D_FLAGS D_NUMBERS_OF_LETTERS w.params) : FnG P w K mg base 1 a_is_machine d_is_machine P_is_machine (spM K mg 1 M_is_machine) := by
  refine def_ok (N := N_is_machine) (ps := P_is_machine) (k := 0) (ms := ms_is_machine) T.f_is_machine sc_is_machine fun cdv A outer s H E gd hr => ?_
  have tk : Takes (cxOf (L2.CX P w) P w K mg base N_is_machine "is_machine" (defScope s_is_machine) a_is_machine cdv A outer s H E) (wOf E) := takes_of rfl rfl rfl rfl
  exact ⟨_, (pmss_cons (pms_asg (pm_var 0) (pmg_tup rfl (pmg_cons (pmg_name 1 sc_is_machine.nd) (pmg_cons (pmg_name 2 sc_is_machine.nd) (pmg_cons (pmg_name 3 sc_is_machine.nd) pmg_nil)))))
    (pmss_cons (pms_set 4 sc_is_machine.nd (pm_callB (call_lenK (K := K)) (cs_len (K := K)) T.n_len (by decide +kernel) (pma_cons (pm_var 2) pma_nil)))
    (pmss_cons (pms_if (PMW.t (pmw_or (pmt_not (pmt_chain op_le op_le (os_le (K := K)) (os_le (K := K)) pm_int (pm_var 1) (pm_globI T.c_MOST_LETTERS))) (pmw_or (pmt_cmp op_gt (os_gt (K := K)) (pm_var 4) (pm_globI T.c_MOST_STATES)) (pmw_or1 (pmt_cmp (or_op op_ne (op_neDK (K := K) hr.units)) (os_or (os_neS (K := K)) (os_ne (K := K))) (pm_callB (call_lenK (K := K)) (cs_len (K := K)) T.n_len (by decide +kernel) (pma_cons (pm_var 3) pma_nil)) (pm_var 4))))))
    (pmss_one (pms_ret pm_bl))
    pmss_nil)
    (pmss_cons (pms_for (passes_of rfl) rfl (pmi_s (K := K) (pm_var 3)) (pmg_name 5 sc_is_machine.nd)
    (pmss_one (pms_if (PMW.t (pmw_or (pmt_cmp (or_op op_ne (op_neDK (K := K) hr.units)) (os_or (os_neS (K := K)) (os_ne (K := K))) (pm_callB (call_lenK (K := K)) (cs_len (K := K)) T.n_len (by decide +kernel) (pma_cons (pm_var 5) pma_nil)) (pm_var 1)) (pmw_or1 (pmt_not (pmt_truK (K := K) (pm_callB (cr_allK (K := K)) (cs_all (K := K)) T.n_all (by decide +kernel) (pma_cons (pm_lc [("target", 6)] rfl sc_is_machine.nd (pmi_s (K := K) (pm_var 5)) (blkOk_by (own := [("target", 6)]) (N := N_is_machine) (sc := defScope s_is_machine) (by decide +kernel)) (by decide) (fun _ _ _ _ _ => (pmg_name 6 sc_is_machine.nd)) (fun _ _ _ _ _ => pmts_nil) (fun _ _ _ _ _ => (pm_chain op_le op_lt (os_le (K := K)) (os_lt (K := K)) (pm_globI T.c_DEAD) (pm_var 6) (pm_var 4)))) pma_nil)))))))
    (pmss_one (pms_ret pm_bl))
    pmss_nil)))
    (pmss_one (pms_ret pm_bl))))))⟩
theorem ok_check_machine (T : Fx K mg a__law_number a__law_draws a__law_entry a__law_due a__law_draw a__law_pick a__law_machine a__line_of a_is_machine a_check_machine a_machine_text a__law_refuses a__law_spoilt a__law_text a__targets_in a_read_machine a__law_told a_law a_Malformed_init d__law_number d__law_draws d__law_entry d__law_due d__law_draw d__law_pick d__law_machine d__line_of d_is_machine d_check_machine d_machine_text d__law_refuses d__law_spoilt d__law_text d__targets_in d_read_machine d__law_told d_law d_Malformed_init C_Malformed C_NotMachine C_YardsortError D_FLAGS D_NUMBERS_OF_LETTERS w.params) : FnG P w K mg base 2 a_check_machine d_check_machine P_check_machine (spM K mg 1 M_check_machine) := by
  have F_is_machine : FnG P w K mg base 1 a_is_machine d_is_machine P_is_machine (spM K mg 1 M_is_machine) := ok_is_machine T
  refine def_ok (N := N_check_machine) (ps := P_check_machine) (k := 1) (ms := ms_check_machine) T.f_check_machine sc_check_machine fun cdv A outer s H E gd hr => ?_
  have tk : Takes (cxOf (L2.CX P w) P w K mg base N_check_machine "check_machine" (defScope s_check_machine) a_check_machine cdv A outer s H E) (wOf E) := takes_of rfl rfl rfl rfl
  exact ⟨_, (pmss_one (pms_if (pmt_not (pmt_truK (K := K) (pm_defK F_is_machine gd (hr.mono (by decide)) T.g_is_machine T.f_is_machine.kp T.b_is_machine (fun σ => passAt tk σ) (pma_cons (pm_var 0) pma_nil) (mCons_len mNil_len))))
    (pmss_one (pms_raise rfl tk PySem.F.excBase_ValueError T.x_NotMachine T.e_NotMachine T.k_NotMachine (raises_own T.r_NotMachine T.t_NotMachine)))
    pmss_nil))⟩
theorem ok_machine_text (T : Fx K mg a__law_number a__law_draws a__law_entry a__law_due a__law_draw a__law_pick a__law_machine a__line_of a_is_machine a_check_machine a_machine_text a__law_refuses a__law_spoilt a__law_text a__targets_in a_read_machine a__law_told a_law a_Malformed_init d__law_number d__law_draws d__law_entry d__law_due d__law_draw d__law_pick d__law_machine d__line_of d_is_machine d_check_machine d_machine_text d__law_refuses d__law_spoilt d__law_text d__targets_in d_read_machine d__law_told d_law d_Malformed_init C_Malformed C_NotMachine C_YardsortError D_FLAGS D_NUMBERS_OF_LETTERS w.params) : FnG P w K mg base 3 a_machine_text d_machine_text P_machine_text (spM K mg 1 M_machine_text) := by
  have F__line_of : FnG P w K mg base 1 a__line_of d__line_of P__line_of (spM K mg 2 M__line_of) := ok__line_of T
  have F_check_machine : FnG P w K mg base 2 a_check_machine d_check_machine P_check_machine (spM K mg 1 M_check_machine) := ok_check_machine T
  refine def_ok (N := N_machine_text) (ps := P_machine_text) (k := 2) (ms := ms_machine_text) T.f_machine_text sc_machine_text fun cdv A outer s H E gd hr => ?_
  have tk : Takes (cxOf (L2.CX P w) P w K mg base N_machine_text "machine_text" (defScope s_machine_text) a_machine_text cdv A outer s H E) (wOf E) := takes_of rfl rfl rfl rfl
  exact ⟨_, (pmss_cons (pms_drop (pm_defK F_check_machine gd (hr.mono (by decide)) T.g_check_machine T.f_check_machine.kp T.b_check_machine (fun σ => passAt tk σ) (pma_cons (pm_var 0) pma_nil) (mCons_len mNil_len)))
    (pmss_cons (pms_asg (pm_var 0) (pmg_tup rfl (pmg_cons (pmg_name 1 sc_machine_text.nd) (pmg_cons (pmg_name 2 sc_machine_text.nd) (pmg_cons (pmg_name 3 sc_machine_text.nd) pmg_nil)))))
    (pmss_cons (pms_setLc 4 [("flag", 5), ("targets", 6)] rfl sc_machine_text.nd rfl rfl (sw_true rfl rfl rfl (by decide +kernel)) (pmi_zK (K := K) rfl T.n_zip (pma_cons (pm_var 2) (pma_cons (pm_var 3) pma_nil))) (blkOk_by (own := [("flag", 5), ("targets", 6)]) (N := N_machine_text) (sc := defScope s_machine_text) (by decide +kernel)) (by decide) (fun _ _ _ _ _ => (pmg_tupK (K := K) rfl rfl (pmg_cons (pmg_name 5 sc_machine_text.nd) (pmg_cons (pmg_name 6 sc_machine_text.nd) pmg_nil)))) (fun _ _ _ _ _ => pmts_nil) (fun _ _ _ _ _ => (pm_defK F__line_of gd (hr.mono (by decide)) T.g__line_of T.f__line_of.kp T.b__line_of (fun σ => passB) (pma_cons (pm_var 5) (pma_cons (pm_var 6) pma_nil)) (mCons_len (mCons_len mNil_len)))))
    (pmss_one (pms_ret (pm_joinK (K := K) pm_str (pm_op (or_op op_add (or_op (op_catAK (K := K)) (or_op op_add_str op_cat))) (os_or (os_addI (K := K)) (os_or (os_catT (K := K)) (os_or (os_strcat (K := K)) (os_cat (K := K))))) (pm_lst (pma_cons (pm_callTy call_str_int (cs_strI (K := K)) T.n_str (by decide +kernel) (pma_cons (pm_var 1) pma_nil)) pma_nil)) (pm_var 4))))))))⟩
theorem ok__law_refuses (T : Fx K mg a__law_number a__law_draws a__law_entry a__law_due a__law_draw a__law_pick a__law_machine a__line_of a_is_machine a_check_machine a_machine_text a__law_refuses a__law_spoilt a__law_text a__targets_in a_read_machine a__law_told a_law a_Malformed_init d__law_number d__law_draws d__law_entry d__law_due d__law_draw d__law_pick d__law_machine d__line_of d_is_machine d_check_machine d_machine_text d__law_refuses d__law_spoilt d__law_text d__targets_in d_read_machine d__law_told d_law d_Malformed_init C_Malformed C_NotMachine C_YardsortError D_FLAGS D_NUMBERS_OF_LETTERS w.params) : FnG P w K mg base 4 a__law_refuses d__law_refuses P__law_refuses (spM K mg 1 M__law_refuses) := by
  have F_machine_text : FnG P w K mg base 3 a_machine_text d_machine_text P_machine_text (spM K mg 1 M_machine_text) := ok_machine_text T
  refine def_ok (N := N__law_refuses) (ps := P__law_refuses) (k := 3) (ms := ms__law_refuses) T.f__law_refuses sc__law_refuses fun cdv A outer s H E gd hr => ?_
  have tk : Takes (cxOf (L2.CX P w) P w K mg base N__law_refuses "_law_refuses" (defScope s__law_refuses) a__law_refuses cdv A outer s H E) (wOf E) := takes_of rfl rfl rfl rfl
  exact ⟨_, (pmss_cons (pms_tryAs (i := 1) rfl rfl sc__law_refuses.nd rfl rfl T.e_NotMachine tk T.d_NotMachine (fun W pn xe tk => (pmss_one (pms_drop (pm_defK F_machine_text gd (hr.mono (by decide)) T.g_machine_text T.f_machine_text.kp T.b_machine_text (fun σ => passAt tk σ) (pma_cons (pm_var 0) pma_nil) (mCons_len mNil_len))))) (fun _ _ _ _ _ hc => (phs_ret (phe_not (phe_is (i := 1) (v := .ref C_Malformed) (K := K) rfl hc T.e_Malformed rfl (fun _ z => z) T.j_Malformed T.n_isinstance)))))
    (pmss_one (pms_ret pm_bl)))⟩
theorem ok__law_spoilt (T : Fx K mg a__law_number a__law_draws a__law_entry a__law_due a__law_draw a__law_pick a__law_machine a__line_of a_is_machine a_check_machine a_machine_text a__law_refuses a__law_spoilt a__law_text a__targets_in a_read_machine a__law_told a_law a_Malformed_init d__law_number d__law_draws d__law_entry d__law_due d__law_draw d__law_pick d__law_machine d__line_of d_is_machine d_check_machine d_machine_text d__law_refuses d__law_spoilt d__law_text d__targets_in d_read_machine d__law_told d_law d_Malformed_init C_Malformed C_NotMachine C_YardsortError D_FLAGS D_NUMBERS_OF_LETTERS w.params) : FnG P w K mg base 3 a__law_spoilt d__law_spoilt P__law_spoilt (spIO K mg 2 0 M__law_spoilt) := by
  have F__law_pick : FnG P w K mg base 2 a__law_pick d__law_pick P__law_pick (spIO K mg 2 0 M__law_pick) := ok__law_pick T
  refine def_okIO (c := 0) (N := N__law_spoilt) (ps := P__law_spoilt) (k := 2) (ms := ms__law_spoilt) T.f__law_spoilt sc__law_spoilt fun cdv A outer s H E gd hr => ?_
  have tk : Takes (cxOf (L2.CX P w) P w K mg base N__law_spoilt "_law_spoilt" (defScope s__law_spoilt) a__law_spoilt cdv A outer s H E) (wOf E) := takes_of rfl rfl rfl rfl
  exact ⟨_, (pmss_cons (pms_set 2 sc__law_spoilt.nd (pm_splitK (pm_var 1) pm_str))
    (pmss_cons (pms_setE 3 sc__law_spoilt.nd (pme_io F__law_pick gd (hr.mono (by decide)) T.g__law_pick T.f__law_pick.kp T.b__law_pick (fun σ => passAt tk σ) (pmio_v (pmio_cons (pme_pure pm_int) pmio_nil))))
    (pmss_cons (pms_setE 4 sc__law_spoilt.nd (pme_io F__law_pick gd (hr.mono (by decide)) T.g__law_pick T.f__law_pick.kp T.b__law_pick (fun σ => passAt tk σ) (pmio_v (pmio_cons (pme_pure (pm_callB (call_lenK (K := K)) (cs_len (K := K)) T.n_len (by decide +kernel) (pma_cons (pm_var 1) pma_nil))) pmio_nil))))
    (pmss_cons (pms_setE 5 sc__law_spoilt.nd (pme_ix (ix_seqK (K := K)) (os_ix (K := K)) (pme_pure pm_str) (pme_io F__law_pick gd (hr.mono (by decide)) T.g__law_pick T.f__law_pick.kp T.b__law_pick (fun σ => passAt tk σ) (pmio_v (pmio_cons (pme_pure pm_int) pmio_nil)))))
    (pmss_cons (pms_if (pmt_cmp (or_op op_eq (op_eqDK (K := K) hr.units)) (os_or (os_eqS (K := K)) (os_eq (K := K))) (pm_var 3) pm_int)
    (pmss_one (pms_retX (pme_pure (pm_op (or_op op_add (or_op (op_catAK (K := K)) (or_op op_add_str op_cat))) (os_or (os_addI (K := K)) (os_or (os_catT (K := K)) (os_or (os_strcat (K := K)) (os_cat (K := K))))) (pm_op (or_op op_add (or_op (op_catAK (K := K)) (or_op op_add_str op_cat))) (os_or (os_addI (K := K)) (os_or (os_catT (K := K)) (os_or (os_strcat (K := K)) (os_cat (K := K))))) (pm_sliceUK (K := K) (pm_var 1) pmo_none (pmo_some (pm_var 4))) (pm_var 5)) (pm_sliceUK (K := K) (pm_var 1) (pmo_some (pm_op (or_op op_add (or_op (op_catAK (K := K)) (or_op op_add_str op_cat))) (os_or (os_addI (K := K)) (os_or (os_catT (K := K)) (os_or (os_strcat (K := K)) (os_cat (K := K))))) (pm_var 4) pm_int)) pmo_none)))))
    pmss_nil)
    (pmss_cons (pms_if (pmt_cmp (or_op op_eq (op_eqDK (K := K) hr.units)) (os_or (os_eqS (K := K)) (os_eq (K := K))) (pm_var 3) pm_int)
    (pmss_one (pms_retX (pme_pure (pm_op (or_op op_add (or_op (op_catAK (K := K)) (or_op op_add_str op_cat))) (os_or (os_addI (K := K)) (os_or (os_catT (K := K)) (os_or (os_strcat (K := K)) (os_cat (K := K))))) (pm_op (or_op op_add (or_op (op_catAK (K := K)) (or_op op_add_str op_cat))) (os_or (os_addI (K := K)) (os_or (os_catT (K := K)) (os_or (os_strcat (K := K)) (os_cat (K := K))))) (pm_sliceUK (K := K) (pm_var 1) pmo_none (pmo_some (pm_var 4))) (pm_var 5)) (pm_sliceUK (K := K) (pm_var 1) (pmo_some (pm_var 4)) pmo_none)))))
    pmss_nil)
    (pmss_cons (pms_if (pmt_cmp (or_op op_eq (op_eqDK (K := K) hr.units)) (os_or (os_eqS (K := K)) (os_eq (K := K))) (pm_var 3) pm_int)
    (pmss_one (pms_retX (pme_pure (pm_op (or_op op_add (or_op (op_catAK (K := K)) (or_op op_add_str op_cat))) (os_or (os_addI (K := K)) (os_or (os_catT (K := K)) (os_or (os_strcat (K := K)) (os_cat (K := K))))) (pm_sliceUK (K := K) (pm_var 1) pmo_none (pmo_some (pm_var 4))) (pm_sliceUK (K := K) (pm_var 1) (pmo_some (pm_op (or_op op_add (or_op (op_catAK (K := K)) (or_op op_add_str op_cat))) (os_or (os_addI (K := K)) (os_or (os_catT (K := K)) (os_or (os_strcat (K := K)) (os_cat (K := K))))) (pm_var 4) pm_int)) pmo_none)))))
    pmss_nil)
    (pmss_cons (pms_setE 6 sc__law_spoilt.nd (pme_io F__law_pick gd (hr.mono (by decide)) T.g__law_pick T.f__law_pick.kp T.b__law_pick (fun σ => passAt tk σ) (pmio_v (pmio_cons (pme_pure (pm_callB (call_lenK (K := K)) (cs_len (K := K)) T.n_len (by decide +kernel) (pma_cons (pm_var 2) pma_nil))) pmio_nil))))
    (pmss_cons (pms_if (pmt_cmp (or_op op_eq (op_eqDK (K := K) hr.units)) (os_or (os_eqS (K := K)) (os_eq (K := K))) (pm_var 3) pm_int)
    (pmss_one (pms_retX (pme_pure (pm_joinK (K := K) pm_str (pm_op (or_op op_add (or_op (op_catAK (K := K)) (or_op op_add_str op_cat))) (os_or (os_addI (K := K)) (os_or (os_catT (K := K)) (os_or (os_strcat (K := K)) (os_cat (K := K))))) (pm_sliceUK (K := K) (pm_var 2) pmo_none (pmo_some (pm_var 6))) (pm_sliceUK (K := K) (pm_var 2) (pmo_some (pm_op (or_op op_add (or_op (op_catAK (K := K)) (or_op op_add_str op_cat))) (os_or (os_addI (K := K)) (os_or (os_catT (K := K)) (os_or (os_strcat (K := K)) (os_cat (K := K))))) (pm_var 6) pm_int)) pmo_none))))))
    pmss_nil)
    (pmss_cons (pms_if (pmt_cmp (or_op op_eq (op_eqDK (K := K) hr.units)) (os_or (os_eqS (K := K)) (os_eq (K := K))) (pm_var 3) pm_int)
    (pmss_one (pms_retX (pme_pure (pm_joinK (K := K) pm_str (pm_op (or_op op_add (or_op (op_catAK (K := K)) (or_op op_add_str op_cat))) (os_or (os_addI (K := K)) (os_or (os_catT (K := K)) (os_or (os_strcat (K := K)) (os_cat (K := K))))) (pm_var 2) (pm_lst (pma_cons (pm_ix (ix_seqK (K := K)) (os_ix (K := K)) (pm_var 2) (pm_var 6)) pma_nil)))))))
    pmss_nil)
    (pmss_cons (pms_if (pmt_cmp (or_op op_eq (op_eqDK (K := K) hr.units)) (os_or (os_eqS (K := K)) (os_eq (K := K))) (pm_var 3) pm_int)
    (pmss_one (pms_retX (pme_pure (pm_op (or_op op_add (or_op (op_catAK (K := K)) (or_op op_add_str op_cat))) (os_or (os_addI (K := K)) (os_or (os_catT (K := K)) (os_or (os_strcat (K := K)) (os_cat (K := K))))) (pm_var 1) (pm_var 5)))))
    pmss_nil)
    (pmss_one (pms_retX (pme_pure (pm_joinK (K := K) pm_str (pm_op (or_op op_add (or_op (op_catAK (K := K)) (or_op op_add_str op_cat))) (os_or (os_addI (K := K)) (os_or (os_catT (K := K)) (os_or (os_strcat (K := K)) (os_cat (K := K))))) (pm_sliceUK (K := K) (pm_var 2) (pmo_some (pm_var 6)) pmo_none) (pm_sliceUK (K := K) (pm_var 2) pmo_none (pmo_some (pm_var 6)))))))))))))))))))⟩
theorem ok__law_text (T : Fx K mg a__law_number a__law_draws a__law_entry a__law_due a__law_draw a__law_pick a__law_machine a__line_of a_is_machine a_check_machine a_machine_text a__law_refuses a__law_spoilt a__law_text a__targets_in a_read_machine a__law_told a_law a_Malformed_init d__law_number d__law_draws d__law_entry d__law_due d__law_draw d__law_pick d__law_machine d__line_of d_is_machine d_check_machine d_machine_text d__law_refuses d__law_spoilt d__law_text d__targets_in d_read_machine d__law_told d_law d_Malformed_init C_Malformed C_NotMachine C_YardsortError D_FLAGS D_NUMBERS_OF_LETTERS w.params) : FnG P w K mg base 1 a__law_text d__law_text P__law_text (spM K mg 1 M__law_text) := by
  refine def_ok (N := N__law_text) (ps := P__law_text) (k := 0) (ms := ms__law_text) T.f__law_text sc__law_text fun cdv A outer s H E gd hr => ?_
  have tk : Takes (cxOf (L2.CX P w) P w K mg base N__law_text "_law_text" (defScope s__law_text) a__law_text cdv A outer s H E) (wOf E) := takes_of rfl rfl rfl rfl
  exact ⟨_, (pmss_cons (pms_set 1 sc__law_text.nd (pm_lst (pma_cons (pm_callTy call_str_int (cs_strI (K := K)) T.n_str (by decide +kernel) (pma_cons (pm_ix (ix_seqK (K := K)) (os_ix (K := K)) (pm_var 0) pm_int) pma_nil)) pma_nil)))
    (pmss_frz 3 (pmss_cons (pms_for (passes_of rfl) rfl (pmi_1 T.n_range (pma_cons (pm_callB (call_lenK (K := K)) (cs_len (K := K)) T.n_len (by decide +kernel) (pma_cons (pm_ix (ix_seqK (K := K)) (os_ix (K := K)) (pm_var 0) pm_int) pma_nil)) pma_nil)) (pmg_name 2 sc__law_text.nd)
    (pmss_cons (pms_set 3 sc__law_text.nd pm_str)
    (pmss_cons (pms_if (pmt_truK (K := K) (pm_ix (ix_seqK (K := K)) (os_ix (K := K)) (pm_ix (ix_seqK (K := K)) (os_ix (K := K)) (pm_var 0) pm_int) (pm_var 2)))
    (pmss_one (pms_set 3 sc__law_text.nd pm_str))
    pmss_nil)
    (pmss_cons (pms_for (passes_of rfl) rfl (pmi_s (K := K) (pm_ix (ix_seqK (K := K)) (os_ix (K := K)) (pm_ix (ix_seqK (K := K)) (os_ix (K := K)) (pm_var 0) pm_int) (pm_var 2))) (pmg_name 4 sc__law_text.nd)
    (pmss_one (pms_if (pmt_cmp op_lt (os_lt (K := K)) (pm_var 4) pm_int)
    (pmss_one (pms_set 3 sc__law_text.nd (pm_op (or_op op_add (or_op (op_catAK (K := K)) (or_op op_add_str op_cat))) (os_or (os_addI (K := K)) (os_or (os_catT (K := K)) (os_or (os_strcat (K := K)) (os_cat (K := K))))) (pm_var 3) pm_str)))
    (pmss_one (pms_set 3 sc__law_text.nd (pm_op (or_op op_add (or_op (op_catAK (K := K)) (or_op op_add_str op_cat))) (os_or (os_addI (K := K)) (os_or (os_catT (K := K)) (os_or (os_strcat (K := K)) (os_cat (K := K))))) (pm_op (or_op op_add (or_op (op_catAK (K := K)) (or_op op_add_str op_cat))) (os_or (os_addI (K := K)) (os_or (os_catT (K := K)) (os_or (os_strcat (K := K)) (os_cat (K := K))))) (pm_var 3) pm_str) (pm_callTy call_str_int (cs_strI (K := K)) T.n_str (by decide +kernel) (pma_cons (pm_var 4) pma_nil))))))))
    (pmss_frz 3 (pmss_one (pms_app 1 (pm_var 3))))))))
    (pmss_one (pms_ret (pm_joinK (K := K) pm_str (pm_var 1)))))))⟩
theorem ok__targets_in (T : Fx K mg a__law_number a__law_draws a__law_entry a__law_due a__law_draw a__law_pick a__law_machine a__line_of a_is_machine a_check_machine a_machine_text a__law_refuses a__law_spoilt a__law_text a__targets_in a_read_machine a__law_told a_law a_Malformed_init d__law_number d__law_draws d__law_entry d__law_due d__law_draw d__law_pick d__law_machine d__line_of d_is_machine d_check_machine d_machine_text d__law_refuses d__law_spoilt d__law_text d__targets_in d_read_machine d__law_told d_law d_Malformed_init C_Malformed C_NotMachine C_YardsortError D_FLAGS D_NUMBERS_OF_LETTERS w.params) : FnG P w K mg base 1 a__targets_in d__targets_in P__targets_in (spM K mg 3 M__targets_in) := by
  refine def_ok (N := N__targets_in) (ps := P__targets_in) (k := 0) (ms := ms__targets_in) T.f__targets_in sc__targets_in fun cdv A outer s H E gd hr => ?_
  have tk : Takes (cxOf (L2.CX P w) P w K mg base N__targets_in "_targets_in" (defScope s__targets_in) a__targets_in cdv A outer s H E) (wOf E) := takes_of rfl rfl rfl rfl
  exact ⟨_, (pmss_cons (pms_set 3 sc__targets_in.nd (pm_splitK (pm_var 0) pm_str))
    (pmss_cons (pms_if (PMW.t (pmw_or (pmt_cmp (or_op op_ne (op_neDK (K := K) hr.units)) (os_or (os_neS (K := K)) (os_ne (K := K))) (pm_callB (call_lenK (K := K)) (cs_len (K := K)) T.n_len (by decide +kernel) (pma_cons (pm_var 3) pma_nil)) (pm_op (or_op op_add (or_op (op_catAK (K := K)) (or_op op_add_str op_cat))) (os_or (os_addI (K := K)) (os_or (os_catT (K := K)) (os_or (os_strcat (K := K)) (os_cat (K := K))))) (pm_var 1) pm_int)) (pmw_or1 (pmt_notInK T.kd_FLAGS (pm_ix (ix_seqK (K := K)) (os_ix (K := K)) (pm_var 3) pm_int)))))
    (pmss_one (pms_ret pm_non))
    pmss_nil)
    (pmss_cons (pms_if (pmt_not (pmt_truK (K := K) (pm_callB (cr_allK (K := K)) (cs_all (K := K)) T.n_all (by decide +kernel) (pma_cons (pm_lc [("word", 4)] rfl sc__targets_in.nd (pmi_s (K := K) (pm_sliceUK (K := K) (pm_var 3) (pmo_some pm_int) pmo_none)) (blkOk_by (own := [("word", 4)]) (N := N__targets_in) (sc := defScope s__targets_in) (by decide +kernel)) (by decide) (fun _ _ _ _ _ => (pmg_name 4 sc__targets_in.nd)) (fun _ _ _ _ _ => pmts_nil) (fun _ _ _ _ _ => (pm_inI hr.units (pm_var 4) (pm_var 2)))) pma_nil))))
    (pmss_one (pms_ret pm_non))
    pmss_nil)
    (pmss_one (pms_ret (pm_callTy (call_tupleK (K := K)) (cs_tuple (K := K)) T.n_tuple (by decide +kernel) (pma_cons (pm_lc [("word", 4)] rfl sc__targets_in.nd (pmi_s (K := K) (pm_sliceUK (K := K) (pm_var 3) (pmo_some pm_int) pmo_none)) (blkOk_by (own := [("word", 4)]) (N := N__targets_in) (sc := defScope s__targets_in) (by decide +kernel)) (by decide) (fun _ _ _ _ _ => (pmg_name 4 sc__targets_in.nd)) (fun _ _ _ _ _ => pmts_nil) (fun _ _ _ _ _ => (pm_getIK hr.units (pm_var 2) (pm_var 4)))) pma_nil)))))))⟩
theorem ok_read_machine (T : Fx K mg a__law_number a__law_draws a__law_entry a__law_due a__law_draw a__law_pick a__law_machine a__line_of a_is_machine a_check_machine a_machine_text a__law_refuses a__law_spoilt a__law_text a__targets_in a_read_machine a__law_told a_law a_Malformed_init d__law_number d__law_draws d__law_entry d__law_due d__law_draw d__law_pick d__law_machine d__line_of d_is_machine d_check_machine d_machine_text d__law_refuses d__law_spoilt d__law_text d__targets_in d_read_machine d__law_told d_law d_Malformed_init C_Malformed C_NotMachine C_YardsortError D_FLAGS D_NUMBERS_OF_LETTERS w.params) : FnG P w K mg base 3 a_read_machine d_read_machine P_read_machine (spM K mg 1 M_read_machine) := by
  have F__targets_in : FnG P w K mg base 1 a__targets_in d__targets_in P__targets_in (spM K mg 3 M__targets_in) := ok__targets_in T
  have FX_Malformed : FnOk P w K mg base (L2.CX P w) 1 a_Malformed_init d_Malformed_init N_Malformed_init (spXI C_Malformed "at") := okX_Malformed T
  refine def_ok (N := N_read_machine) (ps := P_read_machine) (k := 2) (ms := ms_read_machine) T.f_read_machine sc_read_machine fun cdv A outer s H E gd hr => ?_
  have tk : Takes (cxOf (L2.CX P w) P w K mg base N_read_machine "read_machine" (defScope s_read_machine) a_read_machine cdv A outer s H E) (wOf E) := takes_of rfl rfl rfl rfl
  exact ⟨_, (pmss_cons (pms_star 1 2 rfl sc_read_machine.nd (pm_splitK (pm_var 0) pm_str))
    (pmss_cons (pms_if (pmt_notInK T.kd_NUMBERS_OF_LETTERS (pm_var 1))
    (pmss_one (pms_raiseX rfl tk T.xo_Malformed T.xi_Malformed T.xt_Malformed FX_Malformed (hr.mono (by decide)) T.xb_Malformed T.e_Malformed pm_int))
    pmss_nil)
    (pmss_cons (pms_set 3 sc_read_machine.nd (pm_ixK T.kd_NUMBERS_OF_LETTERS (pm_var 1)))
    (pmss_dp 4 [("state", 9)] rfl sc_read_machine.nd rfl rfl (swD_true rfl rfl rfl (by decide +kernel)) (pmi_1 T.n_range (pma_cons (pm_callB (call_lenK (K := K)) (cs_len (K := K)) T.n_len (by decide +kernel) (pma_cons (pm_var 2) pma_nil)) pma_nil)) (blkOk_by (own := [("state", 9)]) (N := N_read_machine) (sc := defScope s_read_machine) (by decide +kernel)) (by decide) (fun _ _ _ _ _ => (pmg_name 9 sc_read_machine.nd)) (fun _ _ _ _ _ => pmts_nil) (fun _ _ _ _ _ => (pm_callTy call_str_int (cs_strI (K := K)) T.n_str (by decide +kernel) (pma_cons (pm_var 9) pma_nil))) (fun _ _ _ _ _ => (pm_var 9)) hr.units (pm_globS T.c_NOWHERE) (pm_globI T.c_DEAD)
    (pmss_cons (pms_set 5 sc_read_machine.nd (pm_lst pma_nil))
    (pmss_frz 8 (pmss_frz 3 (pmss_cons (pms_for (passes_of rfl) rfl (pmi_el T.n_enumerate (pma_cons (pm_var 2) pma_nil) pm_int) (pmg_tup rfl (pmg_cons (pmg_name 6 sc_read_machine.nd) (pmg_cons (pmg_name 7 sc_read_machine.nd) pmg_nil)))
    (pmss_frz 3 (pmss_cons (pms_set 8 sc_read_machine.nd (pm_defK F__targets_in gd (hr.mono (by decide)) T.g__targets_in T.f__targets_in.kp T.b__targets_in (fun σ => passAt tk σ) (pma_cons (pm_var 7) (pma_cons (pm_var 3) (pma_cons (pm_var 4) pma_nil))) (mCons_len (mCons_len (mCons_len mNil_len)))))
    (pmss_cons (pms_if (pmt_cmp op_isN (os_isN (K := K)) (pm_var 8) pm_non)
    (pmss_one (pms_raiseX rfl tk T.xo_Malformed T.xi_Malformed T.xt_Malformed FX_Malformed (hr.mono (by decide)) T.xb_Malformed T.e_Malformed (pm_var 6)))
    pmss_nil)
    (pmss_frz 8 (pmss_one (pms_app 5 (pm_var 8))))))))
    (pmss_cons (pms_if (pmt_cmp op_gt (os_gt (K := K)) (pm_callB (call_lenK (K := K)) (cs_len (K := K)) T.n_len (by decide +kernel) (pma_cons (pm_var 2) pma_nil)) (pm_globI T.c_MOST_STATES))
    (pmss_one (pms_raiseX rfl tk T.xo_Malformed T.xi_Malformed T.xt_Malformed FX_Malformed (hr.mono (by decide)) T.xb_Malformed T.e_Malformed (pm_op (or_op op_add (or_op (op_catAK (K := K)) (or_op op_add_str op_cat))) (os_or (os_addI (K := K)) (os_or (os_catT (K := K)) (os_or (os_strcat (K := K)) (os_cat (K := K))))) (pm_globI T.c_MOST_STATES) pm_int)))
    pmss_nil)
    (pmss_frz 3 (pmss_one (pms_ret (pm_tup (pma_cons (pm_var 3) (pma_cons (pm_callTy (call_tupleK (K := K)) (cs_tuple (K := K)) T.n_tuple (by decide +kernel) (pma_cons (pm_lc [("line", 7)] rfl sc_read_machine.nd (pmi_s (K := K) (pm_var 2)) (blkOk_by (own := [("line", 7)]) (N := N_read_machine) (sc := defScope s_read_machine) (by decide +kernel)) (by decide) (fun _ _ _ _ _ => (pmg_name 7 sc_read_machine.nd)) (fun _ _ _ _ _ => pmts_nil) (fun _ _ _ _ _ => (pm_ixK T.kd_FLAGS (pm_ix (ix_seqK (K := K)) (os_ix (K := K)) (pm_var 7) pm_int)))) pma_nil)) (pma_cons (pm_callTy (call_tupleK (K := K)) (cs_tuple (K := K)) T.n_tuple (by decide +kernel) (pma_cons (pm_var 5) pma_nil)) pma_nil))))))))))))))))⟩
theorem ok__law_told (T : Fx K mg a__law_number a__law_draws a__law_entry a__law_due a__law_draw a__law_pick a__law_machine a__line_of a_is_machine a_check_machine a_machine_text a__law_refuses a__law_spoilt a__law_text a__targets_in a_read_machine a__law_told a_law a_Malformed_init d__law_number d__law_draws d__law_entry d__law_due d__law_draw d__law_pick d__law_machine d__line_of d_is_machine d_check_machine d_machine_text d__law_refuses d__law_spoilt d__law_text d__targets_in d_read_machine d__law_told d_law d_Malformed_init C_Malformed C_NotMachine C_YardsortError D_FLAGS D_NUMBERS_OF_LETTERS w.params) : FnG P w K mg base 4 a__law_told d__law_told P__law_told (spM K mg 1 M__law_told) := by
  have F_read_machine : FnG P w K mg base 3 a_read_machine d_read_machine P_read_machine (spM K mg 1 M_read_machine) := ok_read_machine T
  refine def_ok (N := N__law_told) (ps := P__law_told) (k := 3) (ms := ms__law_told) T.f__law_told sc__law_told fun cdv A outer s H E gd hr => ?_
  have tk : Takes (cxOf (L2.CX P w) P w K mg base N__law_told "_law_told" (defScope s__law_told) a__law_told cdv A outer s H E) (wOf E) := takes_of rfl rfl rfl rfl
  exact ⟨_, (pmss_one (pms_tryF (i := 1) rfl rfl sc__law_told.nd rfl rfl T.e_YardsortError tk T.d_YardsortError (fun W pn xe tk => (pmss_one (pms_ret (pm_tup (pma_cons pm_str (pma_cons (pm_defK F_read_machine gd (hr.mono (by decide)) T.g_read_machine T.f_read_machine.kp T.b_read_machine (fun σ => passAt tk σ) (pma_cons (pm_var 0) pma_nil) (mCons_len mNil_len)) pma_nil)))))) (fun _ _ _ _ _ hz hf hc => (pfs_ifs (PFW.t (pfw_and (pft_tru (K := K) rfl (pfe_is (i := 1) (v := .ref C_Malformed) (K := K) rfl hc T.e_Malformed rfl (fun _ z => z) T.j_Malformed T.n_isinstance)) (pfw_and1 (pft_not (pft_tru (K := K) rfl (pfe_is (i := 1) (v := .ref C_NotMachine) (K := K) rfl hc T.e_NotMachine rfl (fun _ z => z) T.j_NotMachine T.n_isinstance)))))) (pfs_val (pfv_tup (pfa_cons (pfv_pure pm_str) (pfa_cons (pfv_fld T.xx_Malformed T.e_Malformed T.xn_Malformed hz hf) pfa_nil)))) (pfs_val (pfv_pure (pm_tup (pma_cons pm_str (pma_cons pm_int pma_nil)))))))))⟩
theorem ok_law (T : Fx K mg a__law_number a__law_draws a__law_entry a__law_due a__law_draw a__law_pick a__law_machine a__line_of a_is_machine a_check_machine a_machine_text a__law_refuses a__law_spoilt a__law_text a__targets_in a_read_machine a__law_told a_law a_Malformed_init d__law_number d__law_draws d__law_entry d__law_due d__law_draw d__law_pick d__law_machine d__line_of d_is_machine d_check_machine d_machine_text d__law_refuses d__law_spoilt d__law_text d__targets_in d_read_machine d__law_told d_law d_Malformed_init C_Malformed C_NotMachine C_YardsortError D_FLAGS D_NUMBERS_OF_LETTERS w.params) : FnG P w K mg base 5 a_law d_law P_law (spM K mg 1 M_law) := by
  have F__law_draws : FnG P w K mg base 2 a__law_draws d__law_draws P__law_draws (spM K mg 1 M__law_draws) := ok__law_draws T
  have F__law_due : FnG P w K mg base 2 a__law_due d__law_due P__law_due (spM K mg 1 M__law_due) := ok__law_due T
  have F__law_machine : FnG P w K mg base 3 a__law_machine d__law_machine P__law_machine (spIO K mg 3 0 M__law_machine) := ok__law_machine T
  have F__law_pick : FnG P w K mg base 2 a__law_pick d__law_pick P__law_pick (spIO K mg 2 0 M__law_pick) := ok__law_pick T
  have F__law_refuses : FnG P w K mg base 4 a__law_refuses d__law_refuses P__law_refuses (spM K mg 1 M__law_refuses) := ok__law_refuses T
  have F__law_spoilt : FnG P w K mg base 3 a__law_spoilt d__law_spoilt P__law_spoilt (spIO K mg 2 0 M__law_spoilt) := ok__law_spoilt T
  have F__law_text : FnG P w K mg base 1 a__law_text d__law_text P__law_text (spM K mg 1 M__law_text) := ok__law_text T
  have F__law_told : FnG P w K mg base 4 a__law_told d__law_told P__law_told (spM K mg 1 M__law_told) := ok__law_told T
  have F_machine_text : FnG P w K mg base 3 a_machine_text d_machine_text P_machine_text (spM K mg 1 M_machine_text) := ok_machine_text T
  have F_read_machine : FnG P w K mg base 3 a_read_machine d_read_machine P_read_machine (spM K mg 1 M_read_machine) := ok_read_machine T
  refine def_ok (N := N_law) (ps := P_law) (k := 4) (ms := ms_law) T.f_law sc_law fun cdv A outer s H E gd hr => ?_
  have tk : Takes (cxOf (L2.CX P w) P w K mg base N_law "law" (defScope s_law) a_law cdv A outer s H E) (wOf E) := takes_of rfl rfl rfl rfl
  exact ⟨_, (pmss_cons (pms_set 1 sc_law.nd (pm_defK F__law_draws gd (hr.mono (by decide)) T.g__law_draws T.f__law_draws.kp T.b__law_draws (fun σ => passAt tk σ) (pma_cons (pm_var 0) pma_nil) (mCons_len mNil_len)))
    (pmss_cons (pms_setE 2 sc_law.nd (pme_io F__law_machine gd (hr.mono (by decide)) T.g__law_machine T.f__law_machine.kp T.b__law_machine (fun σ => passAt tk σ) (pmio_v (pmio_cons (pme_op (or_op op_add (or_op (op_catAK (K := K)) (or_op op_add_str op_cat))) (os_or (os_addI (K := K)) (os_or (os_catT (K := K)) (os_or (os_strcat (K := K)) (os_cat (K := K))))) (pme_pure pm_int) (pme_io F__law_pick gd (hr.mono (by decide)) T.g__law_pick T.f__law_pick.kp T.b__law_pick (fun σ => passAt tk σ) (pmio_v (pmio_cons (pme_pure pm_int) pmio_nil)))) (pmio_cons (pme_pure pm_int) pmio_nil)))))
    (pmss_frz 2 (pmss_cons (pms_set 3 sc_law.nd (pm_defK F_machine_text gd (hr.mono (by decide)) T.g_machine_text T.f_machine_text.kp T.b_machine_text (fun σ => passAt tk σ) (pma_cons (pm_var 2) pma_nil) (mCons_len mNil_len)))
    (pmss_frz 3 (pmss_frz 2 (pmss_cons (pms_if (PMW.t (pmw_or (pmt_cmp (or_op op_ne (op_neDK (K := K) hr.units)) (os_or (os_neS (K := K)) (os_ne (K := K))) (pm_var 3) (pm_defK F__law_text gd (hr.mono (by decide)) T.g__law_text T.f__law_text.kp T.b__law_text (fun σ => passAt tk σ) (pma_cons (pm_var 2) pma_nil) (mCons_len mNil_len))) (pmw_or1 (pmt_cmp (or_op op_ne (op_neDK (K := K) hr.units)) (os_or (os_neS (K := K)) (os_ne (K := K))) (pm_defK F__law_told gd (hr.mono (by decide)) T.g__law_told T.f__law_told.kp T.b__law_told (fun σ => passAt tk σ) (pma_cons (pm_var 3) pma_nil) (mCons_len mNil_len)) (pm_tup (pma_cons pm_str (pma_cons (pm_var 2) pma_nil)))))))
    (pmss_one (pms_ret pm_bl))
    pmss_nil)
    (pmss_frz 3 (pmss_cons (pms_if (PMW.t (pmw_or (pmt_cmp (or_op op_ne (op_neDK (K := K) hr.units)) (os_or (os_neS (K := K)) (os_ne (K := K))) (pm_callB (call_reprDK (K := K) gd hr.units) (cs_repr (K := K)) T.n_repr (by decide +kernel) (pma_cons (pm_defK F_read_machine gd (hr.mono (by decide)) T.g_read_machine T.f_read_machine.kp T.b_read_machine (fun σ => passAt tk σ) (pma_cons (pm_var 3) pma_nil) (mCons_len mNil_len)) pma_nil)) (pm_callB (call_reprDK (K := K) gd hr.units) (cs_repr (K := K)) T.n_repr (by decide +kernel) (pma_cons (pm_var 2) pma_nil))) (pmw_or1 (pmt_not (pmt_truK (K := K) (pm_defK F__law_refuses gd (hr.mono (by decide)) T.g__law_refuses T.f__law_refuses.kp T.b__law_refuses (fun σ => passAt tk σ) (pma_cons (pm_tup (pma_cons pm_int (pma_cons (pm_ix (ix_seqK (K := K)) (os_ix (K := K)) (pm_var 2) pm_int) (pma_cons (pm_ix (ix_seqK (K := K)) (os_ix (K := K)) (pm_var 2) pm_int) pma_nil)))) pma_nil) (mCons_len mNil_len)))))))
    (pmss_one (pms_ret pm_bl))
    pmss_nil)
    (pmss_frz 3 (pmss_cons (pms_ifSE (pmte_cmp (or_op op_eq (op_eqDK (K := K) hr.units)) (os_or (os_eqS (K := K)) (os_eq (K := K))) (pme_io F__law_pick gd (hr.mono (by decide)) T.g__law_pick T.f__law_pick.kp T.b__law_pick (fun σ => passAt tk σ) (pmio_v (pmio_cons (pme_pure pm_int) pmio_nil))) (pme_pure pm_int))
    (pmss_frz 3 (pmss_one (pms_setE 3 sc_law.nd (pme_io F__law_spoilt gd (hr.mono (by decide)) T.g__law_spoilt T.f__law_spoilt.kp T.b__law_spoilt (fun σ => passAt tk σ) (pmio_v (pmio_cons (pme_pure (pm_var 3)) pmio_nil))))))
    pmss_nil)
    (pmss_frz 3 (pmss_one (pms_ret (pm_cmp (or_op op_eq (op_eqDK (K := K) hr.units)) (os_or (os_eqS (K := K)) (os_eq (K := K))) (pm_callB (call_reprDK (K := K) gd hr.units) (cs_repr (K := K)) T.n_repr (by decide +kernel) (pma_cons (pm_defK F__law_told gd (hr.mono (by decide)) T.g__law_told T.f__law_told.kp T.b__law_told (fun σ => passAt tk σ) (pma_cons (pm_var 3) pma_nil) (mCons_len mNil_len)) pma_nil)) (pm_callB (call_reprDK (K := K) gd hr.units) (cs_repr (K := K)) T.n_repr (by decide +kernel) (pma_cons (pm_defK F__law_due gd (hr.mono (by decide)) T.g__law_due T.f__law_due.kp T.b__law_due (fun σ => passAt tk σ) (pma_cons (pm_var 3) pma_nil) (mCons_len mNil_len)) pma_nil)))))))))))))))))⟩
end
theorem all_mk {l : PySem.W.OpenLaw} {w : World} {K : PySem.W.Frag} {h : Heap} {mg : Str → Option Value} {fa : Addr} (X : K.In h) (G : h.Ns mainGlobals mg) (hfa : mg "law" = some (.ref fa))
    {a__law_number a__law_draws a__law_entry a__law_due a__law_draw a__law_pick a__law_machine a__line_of a_is_machine a_check_machine a_machine_text a__law_refuses a__law_spoilt a__law_text a__targets_in a_read_machine a__law_told a_law a_Malformed_init : Addr} {C_Malformed C_NotMachine C_YardsortError D_FLAGS D_NUMBERS_OF_LETTERS : Addr}
    {od__law_number an__law_number : Option Addr} {sl__law_number : Array (Option Value)} {oc__law_number kV__law_number dc__law_number pm__law_number cd__law_number ct__law_number : Value}
    {od__law_draws an__law_draws : Option Addr} {sl__law_draws : Array (Option Value)} {oc__law_draws kV__law_draws dc__law_draws pm__law_draws cd__law_draws ct__law_draws : Value}
    {od__law_entry an__law_entry : Option Addr} {sl__law_entry : Array (Option Value)} {oc__law_entry kV__law_entry dc__law_entry pm__law_entry cd__law_entry ct__law_entry : Value}
    {od__law_due an__law_due : Option Addr} {sl__law_due : Array (Option Value)} {oc__law_due kV__law_due dc__law_due pm__law_due cd__law_due ct__law_due : Value}
    {od__law_draw an__law_draw : Option Addr} {sl__law_draw : Array (Option Value)} {oc__law_draw kV__law_draw dc__law_draw pm__law_draw cd__law_draw ct__law_draw : Value}
    {od__law_pick an__law_pick : Option Addr} {sl__law_pick : Array (Option Value)} {oc__law_pick kV__law_pick dc__law_pick pm__law_pick cd__law_pick ct__law_pick : Value}
    {od__law_machine an__law_machine : Option Addr} {sl__law_machine : Array (Option Value)} {oc__law_machine kV__law_machine dc__law_machine pm__law_machine cd__law_machine ct__law_machine : Value}
    {od__line_of an__line_of : Option Addr} {sl__line_of : Array (Option Value)} {oc__line_of kV__line_of dc__line_of pm__line_of cd__line_of ct__line_of : Value}
    {od_is_machine an_is_machine : Option Addr} {sl_is_machine : Array (Option Value)} {oc_is_machine kV_is_machine dc_is_machine pm_is_machine cd_is_machine ct_is_machine : Value}
    {od_check_machine an_check_machine : Option Addr} {sl_check_machine : Array (Option Value)} {oc_check_machine kV_check_machine dc_check_machine pm_check_machine cd_check_machine ct_check_machine : Value}
    {od_machine_text an_machine_text : Option Addr} {sl_machine_text : Array (Option Value)} {oc_machine_text kV_machine_text dc_machine_text pm_machine_text cd_machine_text ct_machine_text : Value}
    {od__law_refuses an__law_refuses : Option Addr} {sl__law_refuses : Array (Option Value)} {oc__law_refuses kV__law_refuses dc__law_refuses pm__law_refuses cd__law_refuses ct__law_refuses : Value}
    {od__law_spoilt an__law_spoilt : Option Addr} {sl__law_spoilt : Array (Option Value)} {oc__law_spoilt kV__law_spoilt dc__law_spoilt pm__law_spoilt cd__law_spoilt ct__law_spoilt : Value}
    {od__law_text an__law_text : Option Addr} {sl__law_text : Array (Option Value)} {oc__law_text kV__law_text dc__law_text pm__law_text cd__law_text ct__law_text : Value}
    {od__targets_in an__targets_in : Option Addr} {sl__targets_in : Array (Option Value)} {oc__targets_in kV__targets_in dc__targets_in pm__targets_in cd__targets_in ct__targets_in : Value}
    {od_read_machine an_read_machine : Option Addr} {sl_read_machine : Array (Option Value)} {oc_read_machine kV_read_machine dc_read_machine pm_read_machine cd_read_machine ct_read_machine : Value}
    {od__law_told an__law_told : Option Addr} {sl__law_told : Array (Option Value)} {oc__law_told kV__law_told dc__law_told pm__law_told cd__law_told ct__law_told : Value}
    {od_law an_law : Option Addr} {sl_law : Array (Option Value)} {oc_law kV_law dc_law pm_law cd_law ct_law : Value}
    {tk_DEAD : Tok}
    {tk_MOST_LETTERS : Tok}
    {tk_MOST_STATES : Tok}
    {tk_NOWHERE : Tok}
    (a1__law_number : PySem.W.nsIn K mainGlobals "_law_number" = some (some (.ref a__law_number))) (l1__law_number : K.lookup a__law_number = some ⟨oc__law_number, od__law_number, .func (PySem.W.fnOf "_law_number" "_law_number" (defArgs s__law_number) (defBody s__law_number) (defScope s__law_number) .none kV__law_number dc__law_number pm__law_number an__law_number cd__law_number ct__law_number), sl__law_number⟩) (c1__law_number : PySem.W.codeIn K cd__law_number "_law_number" = true) (k1__law_number : PySem.W.keepIn K (.ref a__law_number) = true)
    (a1__law_draws : PySem.W.nsIn K mainGlobals "_law_draws" = some (some (.ref a__law_draws))) (l1__law_draws : K.lookup a__law_draws = some ⟨oc__law_draws, od__law_draws, .func (PySem.W.fnOf "_law_draws" "_law_draws" (defArgs s__law_draws) (defBody s__law_draws) (defScope s__law_draws) .none kV__law_draws dc__law_draws pm__law_draws an__law_draws cd__law_draws ct__law_draws), sl__law_draws⟩) (c1__law_draws : PySem.W.codeIn K cd__law_draws "_law_draws" = true) (k1__law_draws : PySem.W.keepIn K (.ref a__law_draws) = true)
    (a1__law_entry : PySem.W.nsIn K mainGlobals "_law_entry" = some (some (.ref a__law_entry))) (l1__law_entry : K.lookup a__law_entry = some ⟨oc__law_entry, od__law_entry, .func (PySem.W.fnOf "_law_entry" "_law_entry" (defArgs s__law_entry) (defBody s__law_entry) (defScope s__law_entry) .none kV__law_entry dc__law_entry pm__law_entry an__law_entry cd__law_entry ct__law_entry), sl__law_entry⟩) (c1__law_entry : PySem.W.codeIn K cd__law_entry "_law_entry" = true) (k1__law_entry : PySem.W.keepIn K (.ref a__law_entry) = true)
    (a1__law_due : PySem.W.nsIn K mainGlobals "_law_due" = some (some (.ref a__law_due))) (l1__law_due : K.lookup a__law_due = some ⟨oc__law_due, od__law_due, .func (PySem.W.fnOf "_law_due" "_law_due" (defArgs s__law_due) (defBody s__law_due) (defScope s__law_due) .none kV__law_due dc__law_due pm__law_due an__law_due cd__law_due ct__law_due), sl__law_due⟩) (c1__law_due : PySem.W.codeIn K cd__law_due "_law_due" = true) (k1__law_due : PySem.W.keepIn K (.ref a__law_due) = true)
    (a1__law_draw : PySem.W.nsIn K mainGlobals "_law_draw" = some (some (.ref a__law_draw))) (l1__law_draw : K.lookup a__law_draw = some ⟨oc__law_draw, od__law_draw, .func (PySem.W.fnOf "_law_draw" "_law_draw" (defArgs s__law_draw) (defBody s__law_draw) (defScope s__law_draw) .none kV__law_draw dc__law_draw pm__law_draw an__law_draw cd__law_draw ct__law_draw), sl__law_draw⟩) (c1__law_draw : PySem.W.codeIn K cd__law_draw "_law_draw" = true) (k1__law_draw : PySem.W.keepIn K (.ref a__law_draw) = true)
    (a1__law_pick : PySem.W.nsIn K mainGlobals "_law_pick" = some (some (.ref a__law_pick))) (l1__law_pick : K.lookup a__law_pick = some ⟨oc__law_pick, od__law_pick, .func (PySem.W.fnOf "_law_pick" "_law_pick" (defArgs s__law_pick) (defBody s__law_pick) (defScope s__law_pick) .none kV__law_pick dc__law_pick pm__law_pick an__law_pick cd__law_pick ct__law_pick), sl__law_pick⟩) (c1__law_pick : PySem.W.codeIn K cd__law_pick "_law_pick" = true) (k1__law_pick : PySem.W.keepIn K (.ref a__law_pick) = true)
    (a1__law_machine : PySem.W.nsIn K mainGlobals "_law_machine" = some (some (.ref a__law_machine))) (l1__law_machine : K.lookup a__law_machine = some ⟨oc__law_machine, od__law_machine, .func (PySem.W.fnOf "_law_machine" "_law_machine" (defArgs s__law_machine) (defBody s__law_machine) (defScope s__law_machine) .none kV__law_machine dc__law_machine pm__law_machine an__law_machine cd__law_machine ct__law_machine), sl__law_machine⟩) (c1__law_machine : PySem.W.codeIn K cd__law_machine "_law_machine" = true) (k1__law_machine : PySem.W.keepIn K (.ref a__law_machine) = true)
    (a1__line_of : PySem.W.nsIn K mainGlobals "_line_of" = some (some (.ref a__line_of))) (l1__line_of : K.lookup a__line_of = some ⟨oc__line_of, od__line_of, .func (PySem.W.fnOf "_line_of" "_line_of" (defArgs s__line_of) (defBody s__line_of) (defScope s__line_of) .none kV__line_of dc__line_of pm__line_of an__line_of cd__line_of ct__line_of), sl__line_of⟩) (c1__line_of : PySem.W.codeIn K cd__line_of "_line_of" = true) (k1__line_of : PySem.W.keepIn K (.ref a__line_of) = true)
    (a1_is_machine : PySem.W.nsIn K mainGlobals "is_machine" = some (some (.ref a_is_machine))) (l1_is_machine : K.lookup a_is_machine = some ⟨oc_is_machine, od_is_machine, .func (PySem.W.fnOf "is_machine" "is_machine" (defArgs s_is_machine) (defBody s_is_machine) (defScope s_is_machine) .none kV_is_machine dc_is_machine pm_is_machine an_is_machine cd_is_machine ct_is_machine), sl_is_machine⟩) (c1_is_machine : PySem.W.codeIn K cd_is_machine "is_machine" = true) (k1_is_machine : PySem.W.keepIn K (.ref a_is_machine) = true)
    (a1_check_machine : PySem.W.nsIn K mainGlobals "check_machine" = some (some (.ref a_check_machine))) (l1_check_machine : K.lookup a_check_machine = some ⟨oc_check_machine, od_check_machine, .func (PySem.W.fnOf "check_machine" "check_machine" (defArgs s_check_machine) (defBody s_check_machine) (defScope s_check_machine) .none kV_check_machine dc_check_machine pm_check_machine an_check_machine cd_check_machine ct_check_machine), sl_check_machine⟩) (c1_check_machine : PySem.W.codeIn K cd_check_machine "check_machine" = true) (k1_check_machine : PySem.W.keepIn K (.ref a_check_machine) = true)
    (a1_machine_text : PySem.W.nsIn K mainGlobals "machine_text" = some (some (.ref a_machine_text))) (l1_machine_text : K.lookup a_machine_text = some ⟨oc_machine_text, od_machine_text, .func (PySem.W.fnOf "machine_text" "machine_text" (defArgs s_machine_text) (defBody s_machine_text) (defScope s_machine_text) .none kV_machine_text dc_machine_text pm_machine_text an_machine_text cd_machine_text ct_machine_text), sl_machine_text⟩) (c1_machine_text : PySem.W.codeIn K cd_machine_text "machine_text" = true) (k1_machine_text : PySem.W.keepIn K (.ref a_machine_text) = true)
    (a1__law_refuses : PySem.W.nsIn K mainGlobals "_law_refuses" = some (some (.ref a__law_refuses))) (l1__law_refuses : K.lookup a__law_refuses = some ⟨oc__law_refuses, od__law_refuses, .func (PySem.W.fnOf "_law_refuses" "_law_refuses" (defArgs s__law_refuses) (defBody s__law_refuses) (defScope s__law_refuses) .none kV__law_refuses dc__law_refuses pm__law_refuses an__law_refuses cd__law_refuses ct__law_refuses), sl__law_refuses⟩) (c1__law_refuses : PySem.W.codeIn K cd__law_refuses "_law_refuses" = true) (k1__law_refuses : PySem.W.keepIn K (.ref a__law_refuses) = true)
    (a1__law_spoilt : PySem.W.nsIn K mainGlobals "_law_spoilt" = some (some (.ref a__law_spoilt))) (l1__law_spoilt : K.lookup a__law_spoilt = some ⟨oc__law_spoilt, od__law_spoilt, .func (PySem.W.fnOf "_law_spoilt" "_law_spoilt" (defArgs s__law_spoilt) (defBody s__law_spoilt) (defScope s__law_spoilt) .none kV__law_spoilt dc__law_spoilt pm__law_spoilt an__law_spoilt cd__law_spoilt ct__law_spoilt), sl__law_spoilt⟩) (c1__law_spoilt : PySem.W.codeIn K cd__law_spoilt "_law_spoilt" = true) (k1__law_spoilt : PySem.W.keepIn K (.ref a__law_spoilt) = true)
    (a1__law_text : PySem.W.nsIn K mainGlobals "_law_text" = some (some (.ref a__law_text))) (l1__law_text : K.lookup a__law_text = some ⟨oc__law_text, od__law_text, .func (PySem.W.fnOf "_law_text" "_law_text" (defArgs s__law_text) (defBody s__law_text) (defScope s__law_text) .none kV__law_text dc__law_text pm__law_text an__law_text cd__law_text ct__law_text), sl__law_text⟩) (c1__law_text : PySem.W.codeIn K cd__law_text "_law_text" = true) (k1__law_text : PySem.W.keepIn K (.ref a__law_text) = true)
    (a1__targets_in : PySem.W.nsIn K mainGlobals "_targets_in" = some (some (.ref a__targets_in))) (l1__targets_in : K.lookup a__targets_in = some ⟨oc__targets_in, od__targets_in, .func (PySem.W.fnOf "_targets_in" "_targets_in" (defArgs s__targets_in) (defBody s__targets_in) (defScope s__targets_in) .none kV__targets_in dc__targets_in pm__targets_in an__targets_in cd__targets_in ct__targets_in), sl__targets_in⟩) (c1__targets_in : PySem.W.codeIn K cd__targets_in "_targets_in" = true) (k1__targets_in : PySem.W.keepIn K (.ref a__targets_in) = true)
    (a1_read_machine : PySem.W.nsIn K mainGlobals "read_machine" = some (some (.ref a_read_machine))) (l1_read_machine : K.lookup a_read_machine = some ⟨oc_read_machine, od_read_machine, .func (PySem.W.fnOf "read_machine" "read_machine" (defArgs s_read_machine) (defBody s_read_machine) (defScope s_read_machine) .none kV_read_machine dc_read_machine pm_read_machine an_read_machine cd_read_machine ct_read_machine), sl_read_machine⟩) (c1_read_machine : PySem.W.codeIn K cd_read_machine "read_machine" = true) (k1_read_machine : PySem.W.keepIn K (.ref a_read_machine) = true)
    (a1__law_told : PySem.W.nsIn K mainGlobals "_law_told" = some (some (.ref a__law_told))) (l1__law_told : K.lookup a__law_told = some ⟨oc__law_told, od__law_told, .func (PySem.W.fnOf "_law_told" "_law_told" (defArgs s__law_told) (defBody s__law_told) (defScope s__law_told) .none kV__law_told dc__law_told pm__law_told an__law_told cd__law_told ct__law_told), sl__law_told⟩) (c1__law_told : PySem.W.codeIn K cd__law_told "_law_told" = true) (k1__law_told : PySem.W.keepIn K (.ref a__law_told) = true)
    (a1_law : PySem.W.nsIn K mainGlobals "law" = some (some (.ref a_law))) (l1_law : K.lookup a_law = some ⟨oc_law, od_law, .func (PySem.W.fnOf "law" "law" (defArgs s_law) (defBody s_law) (defScope s_law) .none kV_law dc_law pm_law an_law cd_law ct_law), sl_law⟩) (c1_law : PySem.W.codeIn K cd_law "law" = true) (k1_law : PySem.W.keepIn K (.ref a_law) = true)
    (z_all : PySem.W.nsIn K mainGlobals "all" = some none)
    (z_enumerate : PySem.W.nsIn K mainGlobals "enumerate" = some none)
    (z_int : PySem.W.nsIn K mainGlobals "int" = some none)
    (z_isinstance : PySem.W.nsIn K mainGlobals "isinstance" = some none)
    (z_len : PySem.W.nsIn K mainGlobals "len" = some none)
    (z_range : PySem.W.nsIn K mainGlobals "range" = some none)
    (z_repr : PySem.W.nsIn K mainGlobals "repr" = some none)
    (z_str : PySem.W.nsIn K mainGlobals "str" = some none)
    (z_tuple : PySem.W.nsIn K mainGlobals "tuple" = some none)
    (z_zip : PySem.W.nsIn K mainGlobals "zip" = some none)
    {es_FLAGS : Array DictEntry} {en_FLAGS : Nat} (dg_FLAGS : PySem.W.nsIn K mainGlobals "FLAGS" = some (some (.ref D_FLAGS))) (dk_FLAGS : K.lookup D_FLAGS = some ⟨.type "dict", none, .dict es_FLAGS en_FLAGS, #[]⟩) (dl_FLAGS : (D_FLAGS == sysModules) = false) (dt_FLAGS : KTab K w.params es_FLAGS.toList tab_FLAGS)
    {es_NUMBERS_OF_LETTERS : Array DictEntry} {en_NUMBERS_OF_LETTERS : Nat} (dg_NUMBERS_OF_LETTERS : PySem.W.nsIn K mainGlobals "NUMBERS_OF_LETTERS" = some (some (.ref D_NUMBERS_OF_LETTERS))) (dk_NUMBERS_OF_LETTERS : K.lookup D_NUMBERS_OF_LETTERS = some ⟨.type "dict", none, .dict es_NUMBERS_OF_LETTERS en_NUMBERS_OF_LETTERS, #[]⟩) (dl_NUMBERS_OF_LETTERS : (D_NUMBERS_OF_LETTERS == sysModules) = false) (dt_NUMBERS_OF_LETTERS : KTab K w.params es_NUMBERS_OF_LETTERS.toList tab_NUMBERS_OF_LETTERS)
    (v_DEAD : PySem.W.nsIn K mainGlobals "DEAD" = some (some (.int (-1) tk_DEAD)))
    (v_MOST_LETTERS : PySem.W.nsIn K mainGlobals "MOST_LETTERS" = some (some (.int (6) tk_MOST_LETTERS)))
    (v_MOST_STATES : PySem.W.nsIn K mainGlobals "MOST_STATES" = some (some (.int (2000) tk_MOST_STATES)))
    (v_NOWHERE : PySem.W.nsIn K mainGlobals "NOWHERE" = some (some (.str "." tk_NOWHERE)))
    (e_Malformed : PySem.W.nsIn K mainGlobals "Malformed" = some (some (.ref C_Malformed))) (k_Malformed : PySem.W.keepIn K (.ref C_Malformed) = true) (r_Malformed : PySem.W.subIn K (.ref C_Malformed) (.type "BaseException") = some true) (t_Malformed : PySem.W.typeIn K (.ref C_Malformed) = some (.type "type"))
    (e_NotMachine : PySem.W.nsIn K mainGlobals "NotMachine" = some (some (.ref C_NotMachine))) (x_NotMachine : PySem.W.excIn K C_NotMachine [.type "ValueError", .type "Exception", .type "BaseException", .type "object"] "ValueError.__new__" = true) (k_NotMachine : PySem.W.keepIn K (.ref C_NotMachine) = true) (r_NotMachine : PySem.W.subIn K (.ref C_NotMachine) (.type "BaseException") = some true) (t_NotMachine : PySem.W.typeIn K (.ref C_NotMachine) = some (.type "type"))
    (e_YardsortError : PySem.W.nsIn K mainGlobals "YardsortError" = some (some (.ref C_YardsortError))) (x_YardsortError : PySem.W.excIn K C_YardsortError [.type "ValueError", .type "Exception", .type "BaseException", .type "object"] "ValueError.__new__" = true) (k_YardsortError : PySem.W.keepIn K (.ref C_YardsortError) = true) (r_YardsortError : PySem.W.subIn K (.ref C_YardsortError) (.type "BaseException") = some true) (t_YardsortError : PySem.W.typeIn K (.ref C_YardsortError) = some (.type "type"))
    {od_Malformed_init an_Malformed_init : Option Addr} {sl_Malformed_init : Array (Option Value)} {oc_Malformed_init kV_Malformed_init dc_Malformed_init pm_Malformed_init cd_Malformed_init ct_Malformed_init : Value} {xa_Malformed xq_Malformed : Str} {xN_Malformed : Addr} {xbs_Malformed xbm_Malformed xsub_Malformed : List Value} {xsn_Malformed : List Str} {xab_Malformed : Bool} {xcol_Malformed : Option Bool} {xdd_Malformed : Option Addr} {xk0_Malformed xk1_Malformed xk2_Malformed xk3_Malformed xk5_Malformed : Option Value}
    (ox_Malformed : K.lookup C_Malformed = some (excClassObj xa_Malformed xq_Malformed C_Malformed xN_Malformed xbs_Malformed xbm_Malformed true xsn_Malformed xsub_Malformed xab_Malformed xcol_Malformed xdd_Malformed xk0_Malformed xk1_Malformed xk2_Malformed xk3_Malformed xk5_Malformed "ValueError.__new__")) (oy_Malformed : PySem.HandSPX.refsVE xbm_Malformed = true) (oz_Malformed : PySem.W.findIn K (.ref C_Malformed) "__setattr__" = some (some (.builtin "object.__setattr__"))) (oi_Malformed : PySem.W.findIn K (.ref C_Malformed) "__init__" = some (some (.ref a_Malformed_init))) (ot_Malformed : PySem.W.typeIn K (.ref a_Malformed_init) = some (.type "function")) (on_Malformed : PySem.W.findIn K (.ref C_Malformed) "at" = some none)
    (l1_Malformed_init : K.lookup a_Malformed_init = some ⟨oc_Malformed_init, od_Malformed_init, .func (PySem.W.fnOf "__init__" "Malformed.__init__" (defArgs s_Malformed_init) (defBody s_Malformed_init) (defScope s_Malformed_init) .none kV_Malformed_init dc_Malformed_init pm_Malformed_init an_Malformed_init cd_Malformed_init ct_Malformed_init), sl_Malformed_init⟩) (c1_Malformed_init : PySem.W.codeIn K cd_Malformed_init "Malformed.__init__" = true) (k1_Malformed_init : PySem.W.keepIn K (.ref a_Malformed_init) = true)
    (i_Malformed : PySem.W.isClsIn K C_Malformed = true)
    (i_NotMachine : PySem.W.isClsIn K C_NotMachine = true)
    (i_YardsortError : PySem.W.isClsIn K C_YardsortError = true)
    (s_YardsortError_Malformed : PySem.W.subIn K (.ref C_YardsortError) (.ref C_Malformed) = some false)
    (s_NotMachine_Malformed : PySem.W.subIn K (.ref C_NotMachine) (.ref C_Malformed) = some false)
    (s_Malformed_Malformed : PySem.W.subIn K (.ref C_Malformed) (.ref C_Malformed) = some true)
    (s_YardsortError_NotMachine : PySem.W.subIn K (.ref C_YardsortError) (.ref C_NotMachine) = some false)
    (s_NotMachine_NotMachine : PySem.W.subIn K (.ref C_NotMachine) (.ref C_NotMachine) = some true)
    (s_Malformed_NotMachine : PySem.W.subIn K (.ref C_Malformed) (.ref C_NotMachine) = some false)
    (s_YardsortError_YardsortError : PySem.W.subIn K (.ref C_YardsortError) (.ref C_YardsortError) = some true)
    (s_NotMachine_YardsortError : PySem.W.subIn K (.ref C_NotMachine) (.ref C_YardsortError) = some true)
    (s_Malformed_YardsortError : PySem.W.subIn K (.ref C_Malformed) (.ref C_YardsortError) = some true)
    (q5 : PySem.W.specialIn K (.builtin "object.__class__") "__get__" = some (some (.builtin "getset_descriptor.__get__"))) (q6 : PySem.W.takesIn K (.builtin "object.__class__") = some true)
    (q0_YardsortError : PySem.W.findIn K (.ref C_YardsortError) "__getattribute__" = some (some (.builtin "BaseException.__getattribute__"))) (q1_YardsortError : PySem.W.findIn K (.ref C_YardsortError) "__getattr__" = some none) (q2_YardsortError : PySem.W.hasDictIn K C_YardsortError = true) (q3_YardsortError : PySem.W.findIn K (.ref C_YardsortError) "__class__" = some (some (.builtin "object.__class__"))) (q4_YardsortError : PySem.W.mroIn K C_YardsortError (.type "object") = some true)
    (q0_NotMachine : PySem.W.findIn K (.ref C_NotMachine) "__getattribute__" = some (some (.builtin "BaseException.__getattribute__"))) (q1_NotMachine : PySem.W.findIn K (.ref C_NotMachine) "__getattr__" = some none) (q2_NotMachine : PySem.W.hasDictIn K C_NotMachine = true) (q3_NotMachine : PySem.W.findIn K (.ref C_NotMachine) "__class__" = some (some (.builtin "object.__class__"))) (q4_NotMachine : PySem.W.mroIn K C_NotMachine (.type "object") = some true)
    (q0_Malformed : PySem.W.findIn K (.ref C_Malformed) "__getattribute__" = some (some (.builtin "BaseException.__getattribute__"))) (q1_Malformed : PySem.W.findIn K (.ref C_Malformed) "__getattr__" = some none) (q2_Malformed : PySem.W.hasDictIn K C_Malformed = true) (q3_Malformed : PySem.W.findIn K (.ref C_Malformed) "__class__" = some (some (.builtin "object.__class__"))) (q4_Malformed : PySem.W.mroIn K C_Malformed (.type "object") = some true)
    (o_YardsortError_Malformed : PySem.W.kitOne K (.ref C_YardsortError) (.ref C_Malformed) = some false)
    (o_NotMachine_Malformed : PySem.W.kitOne K (.ref C_NotMachine) (.ref C_Malformed) = some false)
    (o_Malformed_Malformed : PySem.W.kitOne K (.ref C_Malformed) (.ref C_Malformed) = some true)
    (o_YardsortError_NotMachine : PySem.W.kitOne K (.ref C_YardsortError) (.ref C_NotMachine) = some false)
    (o_NotMachine_NotMachine : PySem.W.kitOne K (.ref C_NotMachine) (.ref C_NotMachine) = some true)
    (o_Malformed_NotMachine : PySem.W.kitOne K (.ref C_Malformed) (.ref C_NotMachine) = some false)
    : ∃ fd : FuncData, (∀ (s : Shared) (v : Value), BindsTo s fd ⟨[v], []⟩ [("script", v)]) ∧ ∀ base : Heap, K.In base → base.Ns mainGlobals mg → FnG l.prog w K mg base 5 fa fd ["script"] (spM K mg 1 M_law) := by
  have e := hfa.symm.trans (PySem.W.mg_of X G a1_law)
  cases e
  have F__law_number := fun_mk (st := s__law_number) l1__law_number c1__law_number k1__law_number
  have B__law_number := F__law_number.binds (ps := P__law_number) fun _ _ _ _ _ _ us hl => match us, hl with | [_], _ => rfl
  have F__law_draws := fun_mk (st := s__law_draws) l1__law_draws c1__law_draws k1__law_draws
  have B__law_draws := F__law_draws.binds (ps := P__law_draws) fun _ _ _ _ _ _ us hl => match us, hl with | [_], _ => rfl
  have F__law_entry := fun_mk (st := s__law_entry) l1__law_entry c1__law_entry k1__law_entry
  have B__law_entry := F__law_entry.binds (ps := P__law_entry) fun _ _ _ _ _ _ us hl => match us, hl with | [_, _], _ => rfl
  have F__law_due := fun_mk (st := s__law_due) l1__law_due c1__law_due k1__law_due
  have B__law_due := F__law_due.binds (ps := P__law_due) fun _ _ _ _ _ _ us hl => match us, hl with | [_], _ => rfl
  have F__law_draw := fun_mk (st := s__law_draw) l1__law_draw c1__law_draw k1__law_draw
  have B__law_draw := F__law_draw.binds (ps := P__law_draw) fun _ _ _ _ _ _ us hl => match us, hl with | [_], _ => rfl
  have F__law_pick := fun_mk (st := s__law_pick) l1__law_pick c1__law_pick k1__law_pick
  have B__law_pick := F__law_pick.binds (ps := P__law_pick) fun _ _ _ _ _ _ us hl => match us, hl with | [_, _], _ => rfl
  have F__law_machine := fun_mk (st := s__law_machine) l1__law_machine c1__law_machine k1__law_machine
  have B__law_machine := F__law_machine.binds (ps := P__law_machine) fun _ _ _ _ _ _ us hl => match us, hl with | [_, _, _], _ => rfl
  have F__line_of := fun_mk (st := s__line_of) l1__line_of c1__line_of k1__line_of
  have B__line_of := F__line_of.binds (ps := P__line_of) fun _ _ _ _ _ _ us hl => match us, hl with | [_, _], _ => rfl
  have F_is_machine := fun_mk (st := s_is_machine) l1_is_machine c1_is_machine k1_is_machine
  have B_is_machine := F_is_machine.binds (ps := P_is_machine) fun _ _ _ _ _ _ us hl => match us, hl with | [_], _ => rfl
  have F_check_machine := fun_mk (st := s_check_machine) l1_check_machine c1_check_machine k1_check_machine
  have B_check_machine := F_check_machine.binds (ps := P_check_machine) fun _ _ _ _ _ _ us hl => match us, hl with | [_], _ => rfl
  have F_machine_text := fun_mk (st := s_machine_text) l1_machine_text c1_machine_text k1_machine_text
  have B_machine_text := F_machine_text.binds (ps := P_machine_text) fun _ _ _ _ _ _ us hl => match us, hl with | [_], _ => rfl
  have F__law_refuses := fun_mk (st := s__law_refuses) l1__law_refuses c1__law_refuses k1__law_refuses
  have B__law_refuses := F__law_refuses.binds (ps := P__law_refuses) fun _ _ _ _ _ _ us hl => match us, hl with | [_], _ => rfl
  have F__law_spoilt := fun_mk (st := s__law_spoilt) l1__law_spoilt c1__law_spoilt k1__law_spoilt
  have B__law_spoilt := F__law_spoilt.binds (ps := P__law_spoilt) fun _ _ _ _ _ _ us hl => match us, hl with | [_, _], _ => rfl
  have F__law_text := fun_mk (st := s__law_text) l1__law_text c1__law_text k1__law_text
  have B__law_text := F__law_text.binds (ps := P__law_text) fun _ _ _ _ _ _ us hl => match us, hl with | [_], _ => rfl
  have F__targets_in := fun_mk (st := s__targets_in) l1__targets_in c1__targets_in k1__targets_in
  have B__targets_in := F__targets_in.binds (ps := P__targets_in) fun _ _ _ _ _ _ us hl => match us, hl with | [_, _, _], _ => rfl
  have F_read_machine := fun_mk (st := s_read_machine) l1_read_machine c1_read_machine k1_read_machine
  have B_read_machine := F_read_machine.binds (ps := P_read_machine) fun _ _ _ _ _ _ us hl => match us, hl with | [_], _ => rfl
  have F__law_told := fun_mk (st := s__law_told) l1__law_told c1__law_told k1__law_told
  have B__law_told := F__law_told.binds (ps := P__law_told) fun _ _ _ _ _ _ us hl => match us, hl with | [_], _ => rfl
  have F_law := fun_mk (st := s_law) l1_law c1_law k1_law
  have B_law := F_law.binds (ps := P_law) fun _ _ _ _ _ _ us hl => match us, hl with | [_], _ => rfl
  have F_Malformed_init := fun_mk (st := s_Malformed_init) l1_Malformed_init c1_Malformed_init k1_Malformed_init
  have B_Malformed_init := F_Malformed_init.binds (ps := N_Malformed_init) fun _ _ _ _ _ _ us hl => match us, hl with | [_, _], _ => rfl
  have D_Malformed : Decs K mg (.ref C_Malformed) dec_Malformed := by
    intro m b C hm hC
    unfold dec_Malformed at hm
    split at hm
    · rename_i z
      subst z
      cases hm
      cases (PySem.W.mg_of X G e_YardsortError).symm.trans hC
      exact exm_own r_Malformed i_Malformed t_Malformed s_YardsortError_Malformed
    split at hm
    · rename_i z
      subst z
      cases hm
      cases (PySem.W.mg_of X G e_NotMachine).symm.trans hC
      exact exm_own r_Malformed i_Malformed t_Malformed s_NotMachine_Malformed
    split at hm
    · rename_i z
      subst z
      cases hm
      cases (PySem.W.mg_of X G e_Malformed).symm.trans hC
      exact exm_own r_Malformed i_Malformed t_Malformed s_Malformed_Malformed
    cases hm
  have D_NotMachine : Decs K mg (.ref C_NotMachine) dec_NotMachine := by
    intro m b C hm hC
    unfold dec_NotMachine at hm
    split at hm
    · rename_i z
      subst z
      cases hm
      cases (PySem.W.mg_of X G e_YardsortError).symm.trans hC
      exact exm_own r_NotMachine i_NotMachine t_NotMachine s_YardsortError_NotMachine
    split at hm
    · rename_i z
      subst z
      cases hm
      cases (PySem.W.mg_of X G e_NotMachine).symm.trans hC
      exact exm_own r_NotMachine i_NotMachine t_NotMachine s_NotMachine_NotMachine
    split at hm
    · rename_i z
      subst z
      cases hm
      cases (PySem.W.mg_of X G e_Malformed).symm.trans hC
      exact exm_own r_NotMachine i_NotMachine t_NotMachine s_Malformed_NotMachine
    cases hm
  have D_YardsortError : Decs K mg (.ref C_YardsortError) dec_YardsortError := by
    intro m b C hm hC
    unfold dec_YardsortError at hm
    split at hm
    · rename_i z
      subst z
      cases hm
      cases (PySem.W.mg_of X G e_YardsortError).symm.trans hC
      exact exm_own r_YardsortError i_YardsortError t_YardsortError s_YardsortError_YardsortError
    split at hm
    · rename_i z
      subst z
      cases hm
      cases (PySem.W.mg_of X G e_NotMachine).symm.trans hC
      exact exm_own r_YardsortError i_YardsortError t_YardsortError s_NotMachine_YardsortError
    split at hm
    · rename_i z
      subst z
      cases hm
      cases (PySem.W.mg_of X G e_Malformed).symm.trans hC
      exact exm_own r_YardsortError i_YardsortError t_YardsortError s_Malformed_YardsortError
    cases hm
  have J_Malformed : IsD K mg (.ref C_Malformed) isd_Malformed := by
    intro m b C hm hC
    unfold isd_Malformed at hm
    split at hm
    · rename_i z
      subst z
      cases hm
      cases (PySem.W.mg_of X G e_YardsortError).symm.trans hC
      exact ⟨⟨q0_YardsortError, q1_YardsortError, r_YardsortError, q2_YardsortError, q3_YardsortError, q5, q6, q4_YardsortError⟩, o_YardsortError_Malformed⟩
    split at hm
    · rename_i z
      subst z
      cases hm
      cases (PySem.W.mg_of X G e_NotMachine).symm.trans hC
      exact ⟨⟨q0_NotMachine, q1_NotMachine, r_NotMachine, q2_NotMachine, q3_NotMachine, q5, q6, q4_NotMachine⟩, o_NotMachine_Malformed⟩
    split at hm
    · rename_i z
      subst z
      cases hm
      cases (PySem.W.mg_of X G e_Malformed).symm.trans hC
      exact ⟨⟨q0_Malformed, q1_Malformed, r_Malformed, q2_Malformed, q3_Malformed, q5, q6, q4_Malformed⟩, o_Malformed_Malformed⟩
    cases hm
  have J_NotMachine : IsD K mg (.ref C_NotMachine) isd_NotMachine := by
    intro m b C hm hC
    unfold isd_NotMachine at hm
    split at hm
    · rename_i z
      subst z
      cases hm
      cases (PySem.W.mg_of X G e_YardsortError).symm.trans hC
      exact ⟨⟨q0_YardsortError, q1_YardsortError, r_YardsortError, q2_YardsortError, q3_YardsortError, q5, q6, q4_YardsortError⟩, o_YardsortError_NotMachine⟩
    split at hm
    · rename_i z
      subst z
      cases hm
      cases (PySem.W.mg_of X G e_NotMachine).symm.trans hC
      exact ⟨⟨q0_NotMachine, q1_NotMachine, r_NotMachine, q2_NotMachine, q3_NotMachine, q5, q6, q4_NotMachine⟩, o_NotMachine_NotMachine⟩
    split at hm
    · rename_i z
      subst z
      cases hm
      cases (PySem.W.mg_of X G e_Malformed).symm.trans hC
      exact ⟨⟨q0_Malformed, q1_Malformed, r_Malformed, q2_Malformed, q3_Malformed, q5, q6, q4_Malformed⟩, o_Malformed_NotMachine⟩
    cases hm
  have T : Fx K mg a__law_number a__law_draws a__law_entry a__law_due a__law_draw a__law_pick a__law_machine a__line_of a_is_machine a_check_machine a_machine_text a__law_refuses a__law_spoilt a__law_text a__targets_in a_read_machine a__law_told fa a_Malformed_init _ _ _ _ _ _ _ _ _ _ _ _ _ _ _ _ _ _ _ C_Malformed C_NotMachine C_YardsortError D_FLAGS D_NUMBERS_OF_LETTERS w.params :=
    ⟨PySem.W.mg_of X G a1__law_number, F__law_number, B__law_number, PySem.W.mg_of X G a1__law_draws, F__law_draws, B__law_draws, PySem.W.mg_of X G a1__law_entry, F__law_entry, B__law_entry, PySem.W.mg_of X G a1__law_due, F__law_due, B__law_due, PySem.W.mg_of X G a1__law_draw, F__law_draw, B__law_draw, PySem.W.mg_of X G a1__law_pick, F__law_pick, B__law_pick, PySem.W.mg_of X G a1__law_machine, F__law_machine, B__law_machine, PySem.W.mg_of X G a1__line_of, F__line_of, B__line_of, PySem.W.mg_of X G a1_is_machine, F_is_machine, B_is_machine, PySem.W.mg_of X G a1_check_machine, F_check_machine, B_check_machine, PySem.W.mg_of X G a1_machine_text, F_machine_text, B_machine_text, PySem.W.mg_of X G a1__law_refuses, F__law_refuses, B__law_refuses, PySem.W.mg_of X G a1__law_spoilt, F__law_spoilt, B__law_spoilt, PySem.W.mg_of X G a1__law_text, F__law_text, B__law_text, PySem.W.mg_of X G a1__targets_in, F__targets_in, B__targets_in, PySem.W.mg_of X G a1_read_machine, F_read_machine, B_read_machine, PySem.W.mg_of X G a1__law_told, F__law_told, B__law_told, PySem.W.mg_of X G a1_law, F_law, B_law, PySem.W.mg_none_of X G z_all, PySem.W.mg_none_of X G z_enumerate, PySem.W.mg_none_of X G z_int, PySem.W.mg_none_of X G z_isinstance, PySem.W.mg_none_of X G z_len, PySem.W.mg_none_of X G z_range, PySem.W.mg_none_of X G z_repr, PySem.W.mg_none_of X G z_str, PySem.W.mg_none_of X G z_tuple, PySem.W.mg_none_of X G z_zip, ⟨_, PySem.W.mg_of X G v_DEAD⟩, ⟨_, PySem.W.mg_of X G v_MOST_LETTERS⟩, ⟨_, PySem.W.mg_of X G v_MOST_STATES⟩, ⟨_, PySem.W.mg_of X G v_NOWHERE⟩, ⟨PySem.W.mg_of X G dg_FLAGS, dl_FLAGS, _, _, dk_FLAGS, dt_FLAGS⟩, ⟨PySem.W.mg_of X G dg_NUMBERS_OF_LETTERS, dl_NUMBERS_OF_LETTERS, _, _, dk_NUMBERS_OF_LETTERS, dt_NUMBERS_OF_LETTERS⟩, PySem.W.mg_of X G e_Malformed, k_Malformed, r_Malformed, t_Malformed, PySem.W.mg_of X G e_NotMachine, x_NotMachine, k_NotMachine, r_NotMachine, t_NotMachine, PySem.W.mg_of X G e_YardsortError, x_YardsortError, k_YardsortError, r_YardsortError, t_YardsortError, D_Malformed, D_NotMachine, D_YardsortError, J_Malformed, J_NotMachine, F_Malformed_init, B_Malformed_init, ⟨⟨_, _, _, _, _, _, _, _, _, _, _, _, _, _, _, ox_Malformed, oy_Malformed⟩, oz_Malformed, r_Malformed, t_Malformed, k_Malformed⟩, oi_Malformed, ot_Malformed, on_Malformed, ⟨q0_Malformed, q1_Malformed, r_Malformed, q2_Malformed⟩⟩
  exact ⟨PySem.W.fnOf "law" "law" (defArgs s_law) (defBody s_law) (defScope s_law) .none kV_law dc_law pm_law an_law cd_law ct_law, fun s v => .of_eq rfl, fun base _ _ => ok_law T⟩
end Law

namespace Law
open PySem PySem.Spec PyProof.Rows L2 Mi
local macro_rules | `(tactic| walk_at "ev") => `(tactic| try simp only [mNotT, mIsT, tyB_bool, tyB_bool_i, tyB_int, tyB_int_b, tyB_list_l, tyB_list_o, tyB_list_b, eqv_bool, shaped_bool, mBrk, mCnt, mRetN, Int.reduceAbs, Int.reduceToNat, blt_0, blt_1, blt_2, blt_3, blt_4, blt_5, blt_6, blt_7, blt_8, blt_9, blt_10, blt_11, toE, mOpE, mOpV, mTestE, mTruE, mAndE, mOrE, mNotE, mIfEE, mNegE, mNilE, mConsE, mLstE, mTupE, mCallE, mDefE, mNilI, mConsI, mConsV, mIoE, ioAt, owned, putIo, RE.bind, liftE, ioGet, ioPut, eRes, mSetE, mDropE, mIfSE, mRetE, mRetX, mRetXV, mAppE, mInsE, mPutE, mAsgE, mForE, mIter1E, mIter2E, mIterLE, mPopE, mPopAtE, finIO, ioIn, mExt, mRevS, mCompE, BEq.rfl, beq_self_eq_true, reduceCtorEq, List.all_cons, mSeq, cTuple, cIntB, mIterS, walkD, mAsg, mSlU, mPar, mTryM, clauses, mAug, mSet, mCall, mCons, mNil, mVar, look, Res.bind, sRes, lift, cLen, cList, seqOf, lit, store, mRet, mRetV, mAndV, mOrV, mNotV, mOp, mC, oLe_ii, oLt_ii, oGe_ii, oGt_ii, oSub_ii, oAddI_ii, oAddT_ii, oAddT_ss, oAddT_tt, oAddT_lolo, oAddT_lobw, oAddT_losh, oAddT_bwlo, oAddT_bwbw, oAddT_bwsh, oAddT_shlo, oAddT_shbw, oAddT_shsh, oMulN_ii, oMul2_ii, oMul2_rep, oDivN_ii, oMulI_ii, oMul_ii, oMod_ii, oDiv_ii, oPow_ii, oMul_rep, oIx_t, oIx_l, oIx_b, oIx_o, oIx_f, atI_0, atI_1, atI_2, atI_3, boolOf, oEq, oNe, oEqS, oNeS, cSorted, cSum, mListR1, mListR2, oOr, dat, fin, mIf, mIfE, mNot, mTru, mTest, truth, mRaise, mSkip, mDrop, mDef, mDefB, pasB, mApp, mPut, mRev, esc, cInt1, cInt2, mFor, mIter1, mIter2, mIterL, mIterE, fix, bName, bTup, bCons, bNil, mSl, mPart, mNoPart, mLst, mTup, escs, mComp, mYes, wipeR, mFrz, frz, mAnd, mOr, mNeg, mChain, isNone, oIsN, mTry, noEx, mMeth,
  List.getElem?_cons_succ, List.getElem?_cons_zero, List.set_cons_succ, List.set_cons_zero, intsOf_map, rangeD_upto, shaped_iL, eqv_iL, eqv_int, shaped_int, Bool.and_self, if_true, List.length_map, Option.map, Option.bind, tlit, pas, isBw, flatR, flatD, List.map_cons, List.map_nil, List.any_cons, List.any_nil, List.all_nil, List.length_cons, List.length_nil, Bool.or_false, Bool.not_false, Bool.true_or, mpush, mcat, mat, mcut, mrev, mset, mrep, decide_eq_true_eq, Int.reduceLT, Int.reduceLE, Int.reduceNeg, Int.reduceAdd, Int.reduceSub, Nat.reduceLeDiff, and_self, true_and, and_true, ↓reduceIte, ite_self, decide_true, decide_false, Bool.true_and, Bool.false_and, Bool.and_true, Bool.and_false, Bool.not_true, Bool.false_eq_true, Bool.or_true, Bool.or_self, Bool.and_eq_true, Int.toNat_natCast, Int.natAbs_one, Int.natAbs_zero, Int.natAbs_natCast, Int.add_sub_cancel, Nat.reduceAdd, List.cons_append, List.nil_append, List.length_singleton, Nat.reduceMul])
local macro_rules | `(tactic| walk_at "eva") => `(tactic| try simp only [*, mNotT, mIsT, tyB_bool, tyB_bool_i, tyB_int, tyB_int_b, tyB_list_l, tyB_list_o, tyB_list_b, eqv_bool, shaped_bool, mBrk, mCnt, mRetN, Int.reduceAbs, Int.reduceToNat, blt_0, blt_1, blt_2, blt_3, blt_4, blt_5, blt_6, blt_7, blt_8, blt_9, blt_10, blt_11, toE, mOpE, mOpV, mTestE, mTruE, mAndE, mOrE, mNotE, mIfEE, mNegE, mNilE, mConsE, mLstE, mTupE, mCallE, mDefE, mNilI, mConsI, mConsV, mIoE, ioAt, owned, putIo, RE.bind, liftE, ioGet, ioPut, eRes, mSetE, mDropE, mIfSE, mRetE, mRetX, mRetXV, mAppE, mInsE, mPutE, mAsgE, mForE, mIter1E, mIter2E, mIterLE, mPopE, mPopAtE, finIO, ioIn, mExt, mRevS, mCompE, BEq.rfl, beq_self_eq_true, reduceCtorEq, List.all_cons, mSeq, cTuple, cIntB, mIterS, walkD, mAsg, mSlU, mPar, mTryM, clauses, mAug, mSet, mCall, mCons, mNil, mVar, look, Res.bind, sRes, lift, cLen, cList, seqOf, lit, store, mRet, mRetV, mAndV, mOrV, mNotV, mOp, mC, oLe_ii, oLt_ii, oGe_ii, oGt_ii, oSub_ii, oAddI_ii, oAddT_ii, oAddT_ss, oAddT_tt, oAddT_lolo, oAddT_lobw, oAddT_losh, oAddT_bwlo, oAddT_bwbw, oAddT_bwsh, oAddT_shlo, oAddT_shbw, oAddT_shsh, oMulN_ii, oMul2_ii, oMul2_rep, oDivN_ii, oMulI_ii, oMul_ii, oMod_ii, oDiv_ii, oPow_ii, oMul_rep, oIx_t, oIx_l, oIx_b, oIx_o, oIx_f, atI_0, atI_1, atI_2, atI_3, boolOf, oEq, oNe, oEqS, oNeS, cSorted, cSum, mListR1, mListR2, oOr, dat, fin, mIf, mIfE, mNot, mTru, mTest, truth, mRaise, mSkip, mDrop, mDef, mDefB, pasB, mApp, mPut, mRev, esc, cInt1, cInt2, mFor, mIter1, mIter2, mIterL, mIterE, fix, bName, bTup, bCons, bNil, mSl, mPart, mNoPart, mLst, mTup, escs, mComp, mYes, wipeR, mFrz, frz, mAnd, mOr, mNeg, mChain, isNone, oIsN, mTry, noEx, mMeth,
  List.getElem?_cons_succ, List.getElem?_cons_zero, List.set_cons_succ, List.set_cons_zero, intsOf_map, rangeD_upto, shaped_iL, eqv_iL, eqv_int, shaped_int, Bool.and_self, if_true, List.length_map, Option.map, Option.bind, tlit, pas, isBw, flatR, flatD, List.map_cons, List.map_nil, List.any_cons, List.any_nil, List.all_nil, List.length_cons, List.length_nil, Bool.or_false, Bool.not_false, Bool.true_or, mpush, mcat, mat, mcut, mrev, mset, mrep, decide_eq_true_eq, Int.reduceLT, Int.reduceLE, Int.reduceNeg, Int.reduceAdd, Int.reduceSub, Nat.reduceLeDiff, and_self, true_and, and_true, ↓reduceIte, ite_self, decide_true, decide_false, Bool.true_and, Bool.false_and, Bool.and_true, Bool.and_false, Bool.not_true, Bool.false_eq_true, Bool.or_true, Bool.or_self, Bool.and_eq_true, Int.toNat_natCast, Int.natAbs_one, Int.natAbs_zero, Int.natAbs_natCast, Int.add_sub_cancel, Nat.reduceAdd, List.cons_append, List.nil_append, List.length_singleton, Nat.reduceMul])
/-- the next draw -/
def dr (xs : List Int) : Int := xs.getLast?.getD 0
def pk (xs : List Int) (m : Int) : Int := dr xs % m
theorem pk_lt {xs : List Int} {m : Int} (h : 0 < m) : 0 ≤ pk xs m ∧ pk xs m < m := ⟨Int.emod_nonneg _ (by omega), Int.emod_lt_of_pos _ h⟩
theorem e_draw (xs : List Int) : M__law_draw [.io (xs.map .int)] = .ok (.sh (.int (dr xs))) (xs.dropLast.map .int) := by
  rw [M__law_draw_eq]
  unfold ms__law_draw
  cases e : xs.getLast? with
  | none =>
    rw [List.getLast?_eq_none_iff] at e
    subst e
    rfl
  | some d =>
    have hn : xs ≠ [] := fun z => by rw [z] at e; cases e
    have h1 : (xs.map PyData.int).isEmpty = false := by
      cases xs with
      | nil => exact absurd rfl hn
      | cons a l => rfl
    have h2 : (xs.map PyData.int).getLast? = some (.int d) := by rw [List.getLast?_map, e]; rfl
    walk_at "ev"
    simp only [h1, h2, map_dropLastI, dr, e]
    walk_at "ev"
    rfl
theorem e_pick (xs : List Int) (m : Int) (h : 0 < m) : M__law_pick [.io (xs.map .int), .sh (.int m)] = .ok (.sh (.int (pk xs m))) (xs.dropLast.map .int) := by
  rw [M__law_pick_eq]
  unfold ms__law_pick
  walk_at "ev"
  simp only [e_draw]
  walk_at "ev"
  simp only [h]
  walk_at "ev"
  rfl
theorem e_number (c : Int) : ∃ r : Int, 0 ≤ r ∧ M__law_number [.sh (.int c)] = .ok (.sh (.int r)) := by
  rw [M__law_number_eq]
  unfold ms__law_number
  walk_at "ev"
  by_cases h : c < 0
  · simp only [h]
    walk_at "ev"
    exact ⟨0 - c, by omega, rfl⟩
  · simp only [h]
    walk_at "ev"
    exact ⟨c, by omega, rfl⟩
theorem m1000 (x : Int) : 0 ≤ x % 1000 ∧ x % 1000 < 1000 := ⟨Int.emod_nonneg x (by decide), Int.emod_lt_of_pos x (by decide)⟩
theorem ev_d0 (S sd cl a6 a7 : Option Val) : ∀ (ks acc : List Int) (rest : Int) (a5 : Option Val), acc.length + ks.length ≤ 90000 → ∃ (vs : List Int) (rest' : Int) (b5 : Option Val),
    loop (bName 5) lp__law_draws_0 (ks.map .int) [S, OL acc, sd, cl, I rest, a5, a6, a7] = .nx [S, OL (acc ++ vs), sd, cl, I rest', b5, a6, a7] ∧ vs.length ≤ ks.length ∧ ∀ v ∈ vs, 0 ≤ v ∧ v < 1000
  | [], acc, rest, a5, _ => ⟨[], rest, a5, by rw [List.append_nil]; rfl, Nat.le_refl _, fun _ h => nomatch h⟩
  | k :: ks, acc, rest, a5, hl => by
    rw [List.length_cons] at hl
    by_cases hr : rest = 0
    · have step : lp__law_draws_0 [S, OL acc, sd, cl, I rest, I k, a6, a7] = .bk [S, OL acc, sd, cl, I rest, I k, a6, a7] := by
        unfold lp__law_draws_0
        walk_at "ev"
        simp only [hr, decide_true]
        walk_at "ev"
      refine ⟨[], rest, I k, ?_, Nat.zero_le _, fun _ h => nomatch h⟩
      rw [List.map_cons, loop_brk (ρ1 := [S, OL acc, sd, cl, I rest, I k, a6, a7]) rfl step, List.append_nil]
    · have step : lp__law_draws_0 [S, OL acc, sd, cl, I rest, I k, a6, a7] = .nx [S, OL (acc ++ [rest % 1000]), sd, cl, I (rest / 1000), I k, a6, a7] := by
        unfold lp__law_draws_0
        walk_at "ev"
        simp only [hr, decide_false]
        walk_at "ev"
        have ha : acc.length < 100000 := by omega
        walk_at "eva"
      obtain ⟨vs, rest', b5, e2, hl2, hv2⟩ := ev_d0 S sd cl a6 a7 ks (acc ++ [rest % 1000]) (rest / 1000) (I k) (by rw [List.length_append, List.length_singleton]; omega)
      refine ⟨rest % 1000 :: vs, rest', b5, ?_, Nat.succ_le_succ hl2, fun x hx => ?_⟩
      · rw [List.map_cons, loop_cons (ρ1 := [S, OL acc, sd, cl, I rest, I k, a6, a7]) rfl step, e2, List.append_assoc]
        rfl
      · rcases List.mem_cons.mp hx with rfl | hx
        · exact m1000 _
        · exact hv2 x hx

theorem ev_d1 (S : Option Val) : ∀ (cs acc : List Int) (seed : Int) (a3 a4 a5 a6 a7 : Option Val), acc.length + 60 * cs.length ≤ 80000 → (∀ d ∈ acc, 0 ≤ d ∧ d < 1000) → ∃ (vs : List Int) (seed' : Int) (b3 b4 b5 b6 b7 : Option Val),
    loop (bName 3) lp__law_draws_1 (cs.map .int) [S, OL acc, I seed, a3, a4, a5, a6, a7] = .nx [S, OL vs, I seed', b3, b4, b5, b6, b7] ∧ vs.length ≤ acc.length + 60 * cs.length ∧ ∀ v ∈ vs, 0 ≤ v ∧ v < 1000
  | [], acc, seed, a3, a4, a5, a6, a7, _, ha => ⟨acc, seed, a3, a4, a5, a6, a7, rfl, by simp, ha⟩
  | c :: cs, acc, seed, a3, a4, a5, a6, a7, hl, ha => by
    rw [List.length_cons] at hl
    obtain ⟨r, hr, er⟩ := e_number c
    have step : ∃ (vs : List Int) (seed' : Int) (b4 b5 b6 b7 : Option Val), lp__law_draws_1 [S, OL acc, I seed, I c, a4, a5, a6, a7] = .nx [S, OL vs, I seed', I c, b4, b5, b6, b7] ∧ vs.length ≤ acc.length + 60 ∧ ∀ v ∈ vs, 0 ≤ v ∧ v < 1000 := by
      unfold lp__law_draws_1
      walk_at "ev"
      simp only [er, all_flat]
      walk_at "ev"
      by_cases h : 1000000000000000000 ≤ r
      · simp only [h]
        walk_at "ev"
        obtain ⟨vs, rest', b5, e2, hl2, hv2⟩ := ev_d0 S (I ((seed * 48271 + r) % 2147483647)) (I c) a6 a7 (upto 0 60) acc r a5 (by rw [upto_len]; omega)
        rw [upto_len] at hl2
        refine ⟨acc ++ vs, _, _, _, _, _, e2, by rw [List.length_append]; omega, fun v hv => ?_⟩
        rcases List.mem_append.mp hv with hv | hv
        · exact ha v hv
        · exact hv2 v hv
      · simp only [h]
        walk_at "ev"
        generalize ez : (r * 48271 + 11) % 2147483647 = once
        have h3 : acc.length ≤ 99997 := by omega
        rw [if_pos h3]
        refine ⟨acc ++ [r % 1000, once % 1000, (once * 69621 + r) % 2147483629 % 1000], _, _, _, _, _, by unfold OL; rw [List.map_append]; rfl, by rw [List.length_append]; show _ + 3 ≤ _; omega, fun v hv => ?_⟩
        rcases List.mem_append.mp hv with hv | hv
        · exact ha v hv
        · rcases List.mem_cons.mp hv with rfl | hv
          · exact m1000 _
          · rcases List.mem_cons.mp hv with rfl | hv
            · exact m1000 _
            · rw [List.mem_singleton.mp hv]
              exact m1000 _
    obtain ⟨vs, seed', b4, b5, b6, b7, e1, l1, v1⟩ := step
    obtain ⟨ws, seed2, c3, c4, c5, c6, c7, e2, l2, v2⟩ := ev_d1 S cs vs seed' (I c) b4 b5 b6 b7 (by omega) v1
    refine ⟨ws, seed2, c3, c4, c5, c6, c7, ?_, by rw [List.length_cons]; omega, v2⟩
    rw [List.map_cons, loop_cons (ρ1 := [S, OL acc, I seed, I c, a4, a5, a6, a7]) rfl e1, e2]
theorem ev_d2 (S a3 a4 a6 a7 : Option Val) : ∀ (ks acc : List Int) (seed : Int) (a5 : Option Val), acc.length + ks.length ≤ 90000 → (∀ d ∈ acc, 0 ≤ d ∧ d < 1000) → ∃ (vs : List Int) (seed' : Int) (b5 : Option Val),
    loop (bName 5) lp__law_draws_2 (ks.map .int) [S, OL acc, I seed, a3, a4, a5, a6, a7] = .nx [S, OL vs, I seed', a3, a4, b5, a6, a7] ∧ vs.length = acc.length + ks.length ∧ ∀ v ∈ vs, 0 ≤ v ∧ v < 1000
  | [], acc, seed, a5, _, ha => ⟨acc, seed, a5, rfl, rfl, ha⟩
  | k :: ks, acc, seed, a5, hl, ha => by
    rw [List.length_cons] at hl
    have step : ∃ s' : Int, lp__law_draws_2 [S, OL acc, I seed, a3, a4, I k, a6, a7] = .nx [S, OL (acc ++ [s' / 7 % 1000]), I s', a3, a4, I k, a6, a7] := by
      unfold lp__law_draws_2
      walk_at "ev"
      generalize (seed * 48271 + 12345) % 2147483647 = s'
      have h1 : acc.length < 100000 := by omega
      walk_at "eva"
      exact ⟨s', rfl⟩
    obtain ⟨s', e1⟩ := step
    obtain ⟨vs, s2, b5, e2, l2, v2⟩ := ev_d2 S a3 a4 a6 a7 ks (acc ++ [s' / 7 % 1000]) s' (I k) (by rw [List.length_append, List.length_singleton]; omega) (fun d hd => by
      rcases List.mem_append.mp hd with hd | hd
      · exact ha d hd
      · rw [List.mem_singleton.mp hd]
        exact m1000 _)
    refine ⟨vs, s2, b5, ?_, ?_, v2⟩
    · rw [List.map_cons, loop_cons (ρ1 := [S, OL acc, I seed, a3, a4, I k, a6, a7]) rfl e1, e2]
    · rw [l2, List.length_append, List.length_singleton, List.length_cons]
      omega
/-- the draws of a script: 200 or more, from 0 to 999 -/
theorem e_draws (ns : List Int) (h : ns.length ≤ 63) : ∃ ds : List Int, M__law_draws [.fz (ns.map .int)] = .ok (.ow (ds.map .int)) ∧ 200 ≤ ds.length ∧ ∀ d ∈ ds, 0 ≤ d ∧ d < 1000 := by
  obtain ⟨vs, s1, b3, b4, b5, b6, b7, e1, l1, v1⟩ := ev_d1 (some (.fz (ns.map .int))) ns [] 7 none none none none none (by rw [List.length_nil]; omega) (fun d hd => nomatch hd)
  rw [List.length_nil] at l1
  obtain ⟨ws, s2, c5, e2, l2, v2⟩ := ev_d2 (some (.fz (ns.map .int))) b3 b4 b6 b7 (upto 0 200) vs s1 b5 (by rw [upto_len]; omega) v1
  rw [upto_len] at l2
  refine ⟨ws.reverse, ?_, by rw [List.length_reverse]; omega, fun d hd => v2 d (List.mem_reverse.mp hd)⟩
  rw [M__law_draws_eq]
  unfold ms__law_draws
  walk_at "ev"
  rw [show ([some (Val.fz (ns.map .int)), some (Val.ow []), some (Val.sh (.int 7)), none, none, none, none, none] : Rho) = [some (.fz (ns.map .int)), OL [], I 7, none, none, none, none, none] from rfl, e1]
  walk_at "ev"
  rw [e2]
  walk_at "ev"
/-! machines -/
abbrev tI (r : List Int) : D := .tuple (r.map .int)
abbrev aD (A : List Bool) : D := .tuple (A.map .bool)
abbrev tD (T : List (List Int)) : D := .tuple (T.map tI)
abbrev mD (L : Int) (A : List Bool) (T : List (List Int)) : D := .tuple [.int L, aD A, tD T]
structure Good (L : Int) (A : List Bool) (T : List (List Int)) : Prop where
  l1 : 1 ≤ L
  l6 : L ≤ 6
  a : A.length ≤ 2000
  t : T.length = A.length
  r : ∀ r ∈ T, (r.length : Int) = L
  e : ∀ r ∈ T, ∀ x ∈ r, -1 ≤ x ∧ x < (A.length : Int)
theorem all_true {α : Type} {g : α → Bool} {xs : List α} (h : ∀ a ∈ xs, g a = true) : (xs.map g).all id = true := by
  rw [List.all_map, List.all_eq_true]
  exact h
theorem e_is_machine {L : Int} {A : List Bool} {T : List (List Int)} (h : Good L A T) : M_is_machine [.sh (mD L A T)] = .ok (.sh (.bool true)) := by
  have h1 := h.l1
  have h2 := h.l6
  have h3 : ¬ (2000 : Int) < (A.length : Int) := by have := h.a; omega
  have h4 : ((T.length : Nat) : Int) = (A.length : Int) := by rw [h.t]
  have step : ∀ (b : Option Val) (r : List Int), r ∈ T → True → ∃ ρ1, bName 5 (tI r) [some (.sh (mD L A T)), I L, some (.sh (aD A)), some (.sh (tD T)), I A.length, b, none] = some ρ1 ∧ lp_is_machine_0 ρ1 = .nx [some (.sh (mD L A T)), I L, some (.sh (aD A)), some (.sh (tD T)), I A.length, some (.sh (tI r)), none] ∧ True := by
    intro b r hr _
    have c1 := h.r r hr
    refine ⟨_, rfl, ?_, trivial⟩
    unfold lp_is_machine_0
    have ec : ∀ σ2 : Rho, σ2 = [some (.sh (mD L A T)), I L, some (.sh (aD A)), some (.sh (tD T)), I A.length, some (.sh (tI r)), none] →
        comp (bName 6) mYes (mChain oLe oLt (mC (.int (-1))) (mVar 6) (mVar 4)) σ2 (r.map .int) [] = .ok (r.map fun x => .bool (decide (x < (A.length : Int)))) := by
      rintro σ2 rfl
      refine comp_all (fun x => PyData.int x) _ (fun x hx => ⟨_, rfl, ?_⟩) (by omega)
      have b := h.e r hr x hx
      walk_at "ev"
      simp only [b.1, decide_true]
      walk_at "ev"
      exact ⟨_, rfl, rfl⟩
    have eall : (r.map fun x => decide (x < (A.length : Int))).all id = true := all_true fun x hx => decide_eq_true (h.e r hr x hx).2
    walk_at "ev"
    rw [ec _ rfl]
    simp only [c1, cAll_map, eall]
    walk_at "ev"
  have el := (loop_fold tI (fun b => [some (.sh (mD L A T)), I L, some (.sh (aD A)), some (.sh (tD T)), I A.length, b, none]) (fun _ r => some (.sh (tI r))) (fun _ => True) (xs := T) (b := none) trivial step).1
  rw [M_is_machine_eq]
  unfold ms_is_machine
  walk_at "ev"
  simp only [h1, h2, h3, h4, decide_true]
  walk_at "ev"
  rw [el]
theorem e_check_machine {L : Int} {A : List Bool} {T : List (List Int)} (h : Good L A T) : M_check_machine [.sh (mD L A T)] = .ok (.sh .none) := by
  rw [M_check_machine_eq]
  unfold ms_check_machine
  walk_at "ev"
  simp only [e_is_machine h]
  walk_at "ev"
theorem e_not_machine_ne {L : Int} {A : List Bool} {T : List (List Int)} (h : 1 ≤ L) (h6 : L ≤ 6) (hA : A.length ≤ 2000) (ht : T.length ≠ A.length) : M_check_machine [.sh (mD L A T)] = .ex "NotMachine" [] := by
  have h4 : ¬ ((T.length : Nat) : Int) = (A.length : Int) := by omega
  have h3 : ¬ (2000 : Int) < (A.length : Int) := by omega
  have e : M_is_machine [.sh (mD L A T)] = .ok (.sh (.bool false)) := by
    rw [M_is_machine_eq]
    unfold ms_is_machine
    walk_at "ev"
    simp only [h, h6, h3, h4, decide_true]
    walk_at "ev"
  rw [M_check_machine_eq]
  unfold ms_check_machine
  walk_at "ev"
  simp only [e]
  walk_at "ev"
/-! a machine drawn -/
def rowOk (n : Nat) (r : List Int) : Prop := ∀ x ∈ r, -1 ≤ x ∧ x < (n : Int)
theorem ev_dm0 (r1 r2 r4 r5 r6 : Option Val) (n : Nat) (hn : 1 ≤ n) : ∀ (m k : Nat) (xs row : List Int) (a8 a9 : Option Val), row.length + m ≤ 1000 → rowOk n row → (a9 = none ∨ ∃ i, a9 = I i) → ∃ (ys row' : List Int) (c8 c9 : Option Val), loop (bName 8) lp__law_machine_0 ((upto (k : Int) m).map .int) [IOL xs, r1, r2, I n, r4, r5, r6, OL row, a8, a9] = .nx [IOL ys, r1, r2, I n, r4, r5, r6, OL row', c8, c9] ∧ row'.length = row.length + m ∧ rowOk n row' ∧ (c9 = none ∨ ∃ i, c9 = I i)
  | 0, k, xs, row, a8, a9, _, hr, h9 => ⟨xs, row, a8, a9, rfl, rfl, hr, h9⟩
  | m + 1, k, xs, row, a8, a9, hl, hr, h9 => by
    have hp := pk_lt (xs := xs) (m := (n : Int)) (by omega)
    have hx : row.length < 100000 := by omega
    have step : ∃ (ys : List Int) (x : Int), lp__law_machine_0 [IOL xs, r1, r2, I n, r4, r5, r6, OL row, I k, a9] = .nx [IOL ys, r1, r2, I n, r4, r5, r6, OL (row ++ [x]), I k, I x] ∧ -1 ≤ x ∧ x < (n : Int) := by
      unfold lp__law_machine_0
      walk_at "ev"
      simp only [e_pick _ _ (show (0 : Int) < (n : Int) by omega)]
      walk_at "ev"
      simp only [e_pick _ _ (show (0 : Int) < 5 by decide)]
      walk_at "ev"
      by_cases c : pk xs.dropLast 5 = 0
      · simp only [c]
        walk_at "ev"
        simp only [hx]
        walk_at "ev"
        exact ⟨_, _, rfl, by omega, by omega⟩
      · simp only [c]
        walk_at "ev"
        simp only [hx]
        walk_at "ev"
        exact ⟨_, _, rfl, by omega, by omega⟩
    obtain ⟨ys, x, e1, hx1, hx2⟩ := step
    obtain ⟨zs, row', c8, c9, e2, h1, h2, h3⟩ := ev_dm0 r1 r2 r4 r5 r6 n hn m (k + 1) ys (row ++ [x]) (I k) (I x) (by rw [List.length_append, List.length_singleton]; omega) (fun y hy => by
      rcases List.mem_append.mp hy with hy | hy
      · exact hr y hy
      · rw [List.mem_singleton.mp hy]
        exact ⟨hx1, hx2⟩) (.inr ⟨x, rfl⟩)
    refine ⟨zs, row', c8, c9, ?_, by rw [h1, List.length_append, List.length_singleton]; omega, h2, h3⟩
    rw [upto_succ, List.map_cons, loop_cons (ρ1 := [IOL xs, r1, r2, I n, r4, r5, r6, OL row, I k, a9]) rfl e1, show ((k : Int) + 1) = ((k + 1 : Nat) : Int) from rfl, e2]
theorem ev_dm1 (l n : Nat) (hl : l ≤ 6) (r2 : Option Val) (hn : 1 ≤ n) : ∀ (m k : Nat) (xs : List Int) (A : List Bool) (T : List (List Int)) (a6 a7 a8 a9 : Option Val), A.length + m ≤ 1000 → T.length = A.length → (∀ r ∈ T, r.length = l ∧ rowOk n r) → (a9 = none ∨ ∃ i, a9 = I i) →
    ∃ (ys : List Int) (B : List Bool) (U : List (List Int)) (c6 c7 c8 c9 : Option Val), loop (bName 6) lp__law_machine_1 ((upto (k : Int) m).map .int) [IOL xs, I l, r2, I n, some (.ow (A.map .bool)), some (.ow (T.map tI)), a6, a7, a8, a9] = .nx [IOL ys, I l, r2, I n, some (.ow (B.map .bool)), some (.ow (U.map tI)), c6, c7, c8, c9] ∧ B.length = A.length + m ∧ U.length = B.length ∧ ∀ r ∈ U, r.length = l ∧ rowOk n r
  | 0, k, xs, A, T, a6, a7, a8, a9, _, ht, hr, _ => ⟨xs, A, T, a6, a7, a8, a9, rfl, rfl, ht, hr⟩
  | m + 1, k, xs, A, T, a6, a7, a8, a9, hA, ht, hr, h9 => by
    obtain ⟨ys, row, c8, c9, e0, h1, h2, h3⟩ := ev_dm0 (I l) r2 (some (.ow ((A ++ [decide (pk xs 3 = 0)]).map .bool))) (some (.ow (T.map tI))) (I k) n hn l 0 xs.dropLast [] a8 a9 (by rw [List.length_nil]; omega) (fun x hx => nomatch hx) h9
    rw [List.length_nil, Nat.zero_add] at h1
    have step : lp__law_machine_1 [IOL xs, I l, r2, I n, some (.ow (A.map .bool)), some (.ow (T.map tI)), I k, a7, a8, a9] = .nx [IOL ys, I l, r2, I n, some (.ow ((A ++ [decide (pk xs 3 = 0)]).map .bool)), some (.ow ((T ++ [row]).map tI)), I k, OL row, c8, c9] := by
      unfold lp__law_machine_1
      have g1 : A.length < 100000 := by omega
      have g2 : T.length < 100000 := by omega
      have g3 : l ≤ 1000000 := by omega
      have e9 : frz 9 [IOL xs.dropLast, I l, r2, I n, some (.ow ((A ++ [decide (pk xs 3 = 0)]).map .bool)), some (.ow (T.map tI)), I k, OL [], a8, a9] = [IOL xs.dropLast, I l, r2, I n, some (.ow ((A ++ [decide (pk xs 3 = 0)]).map .bool)), some (.ow (T.map tI)), I k, OL [], a8, a9] := by
        rcases h9 with rfl | ⟨i, rfl⟩ <;> rfl
      rw [seqx (ρ' := [IOL xs.dropLast, I l, r2, I n, some (.ow ((A ++ [decide (pk xs 3 = 0)]).map .bool)), some (.ow (T.map tI)), I k, a7, a8, a9])]
      · rw [seqx (ρ' := [IOL xs.dropLast, I l, r2, I n, some (.ow ((A ++ [decide (pk xs 3 = 0)]).map .bool)), some (.ow (T.map tI)), I k, OL [], a8, a9])]
        · rw [mFrz_at, e9, mFrz_at]
          rw [show frz 3 [IOL xs.dropLast, I l, r2, I n, some (.ow ((A ++ [decide (pk xs 3 = 0)]).map .bool)), some (.ow (T.map tI)), I k, OL [], a8, a9] = [IOL xs.dropLast, I l, r2, I n, some (.ow ((A ++ [decide (pk xs 3 = 0)]).map .bool)), some (.ow (T.map tI)), I k, OL [], a8, a9] from rfl]
          walk_at "ev"
          simp only [g3]
          walk_at "ev"
          simp only [show ((0 : Nat) : Int) = 0 from rfl] at e0
          rw [e0]
          walk_at "ev"
          simp only [g2]
          walk_at "ev"
          rw [List.map_append (f := tI)]
          rfl
        · walk_at "ev"
          rfl
      · walk_at "ev"
        simp only [e_pick _ _ (show (0 : Int) < 3 by decide)]
        walk_at "ev"
        simp only [g1]
        walk_at "ev"
        rw [List.map_append]
        rfl
    obtain ⟨zs, B, U, d6, d7, d8, d9, e2, q1, q2, q3⟩ := ev_dm1 l n hl r2 hn m (k + 1) ys (A ++ [decide (pk xs 3 = 0)]) (T ++ [row]) (I k) (OL row) c8 c9 (by rw [List.length_append, List.length_singleton]; omega) (by rw [List.length_append, List.length_append, ht]; rfl) (fun r hr' => by
      rcases List.mem_append.mp hr' with hr' | hr'
      · exact hr r hr'
      · rw [List.mem_singleton.mp hr']
        exact ⟨h1, h2⟩) h3
    refine ⟨zs, B, U, d6, d7, d8, d9, ?_, by rw [q1, List.length_append, List.length_singleton]; omega, q2, q3⟩
    rw [upto_succ, List.map_cons, loop_cons (ρ1 := [IOL xs, I l, r2, I n, some (.ow (A.map .bool)), some (.ow (T.map tI)), I k, a7, a8, a9]) rfl step, show ((k : Int) + 1) = ((k + 1 : Nat) : Int) from rfl, e2]
theorem e_dmach (xs : List Int) (l many : Nat) (h1 : 1 ≤ l) (hl : l ≤ 6) (hm : many ≤ 900) : ∃ (A : List Bool) (T : List (List Int)) (ys : List Int), M__law_machine [.io (xs.map .int), .sh (.int l), .sh (.int many)] = .ok (.sh (mD l A T)) (ys.map .int) ∧ Good l A T ∧ A.length ≤ many := by
  have hp := pk_lt (xs := xs) (m := (many : Int) + 1) (by omega)
  obtain ⟨n, hn⟩ : ∃ n : Nat, pk xs ((many : Int) + 1) = n := ⟨(pk xs ((many : Int) + 1)).toNat, by omega⟩
  have key : ∃ (ys : List Int) (B : List Bool) (U : List (List Int)) (c6 c7 c8 c9 : Option Val), loop (bName 6) lp__law_machine_1 ((upto 0 n).map .int) [IOL xs.dropLast, I l, I many, I n, some (.ow []), some (.ow []), none, none, none, none] = .nx [IOL ys, I l, I many, I n, some (.ow (B.map .bool)), some (.ow (U.map tI)), c6, c7, c8, c9] ∧ B.length = n ∧ U.length = B.length ∧ ∀ r ∈ U, r.length = l ∧ rowOk n r := by
    by_cases h0 : n = 0
    · subst h0
      exact ⟨xs.dropLast, [], [], none, none, none, none, rfl, rfl, rfl, fun r hr => nomatch hr⟩
    · obtain ⟨ys, B, U, c6, c7, c8, c9, e, q1, q2, q3⟩ := ev_dm1 l n hl (I many) (by omega) n 0 xs.dropLast [] [] none none none none (by rw [List.length_nil]; omega) rfl (fun r hr => nomatch hr) (.inl rfl)
      rw [List.length_nil, Nat.zero_add] at q1
      exact ⟨ys, B, U, c6, c7, c8, c9, e, q1, q2, q3⟩
  obtain ⟨ys, B, U, c6, c7, c8, c9, e, q1, q2, q3⟩ := key
  refine ⟨B, U, ys, ?_, ⟨by omega, by omega, by omega, q2, fun r hr => by have := (q3 r hr).1; omega, fun r hr x hx => by rw [q1]; exact (q3 r hr).2 x hx⟩, by omega⟩
  rw [M__law_machine_eq]
  unfold ms__law_machine
  walk_at "ev"
  simp only [e_pick _ _ (show (0 : Int) < (many : Int) + 1 by omega)]
  walk_at "ev"
  rw [hn]
  have g3 : n ≤ 1000000 := by omega
  simp only [Int.natAbs_natCast, Int.toNat_natCast, g3]
  walk_at "ev"
  rw [show ([some (Val.io (xs.dropLast.map .int)), some (Val.sh (.int l)), some (Val.sh (.int many)), some (Val.sh (.int n)), some (Val.ow []), some (Val.ow []), none, none, none, none] : Rho) = [IOL xs.dropLast, I l, I many, I n, some (.ow []), some (.ow []), none, none, none, none] from rfl, e]
  walk_at "ev"
theorem if_t {c : Rho → Res Bool} {a b : Rho → Out} {ρ : Rho} (h : c ρ = .ok true) : mIf c a b ρ = a ρ := by
  unfold mIf
  rw [h]
  rfl
theorem if_f {c : Rho → Res Bool} {a b : Rho → Out} {ρ : Rho} (h : c ρ = .ok false) : mIf c a b ρ = b ρ := by
  unfold mIf
  rw [h]
  rfl
theorem or_t {a b : Rho → Res Bool} {ρ : Rho} (h : a ρ = .ok true) : mOr a b ρ = .ok true := by
  unfold mOr
  rw [h]
  rfl
theorem or_f {a b : Rho → Res Bool} {ρ : Rho} (h : a ρ = .ok false) : mOr a b ρ = b ρ := by
  unfold mOr
  rw [h]
  rfl
theorem not_b {a : Rho → Res Bool} {ρ : Rho} {b : Bool} (h : a ρ = .ok b) : mNot a ρ = .ok (!b) := by
  unfold mNot
  rw [h]
  rfl
theorem test_b {a : Rho → Res Val} {ρ : Rho} {b : Bool} (h : a ρ = .ok (.sh (.bool b))) : mTest a ρ = .ok b := by
  unfold mTest
  rw [h]
  rfl
theorem tru_b {a : Rho → Res Val} {ρ : Rho} {b : Bool} (h : a ρ = .ok (.sh (.bool b))) : mTru a ρ = .ok b := by
  unfold mTru
  rw [h]
  rfl
theorem set_s {i : Nat} {a : Rho → Res Val} {ρ : Rho} {d : D} (h : a ρ = .ok (.sh d)) : mSet i a ρ = .nx (ρ.set i (some (.sh d))) := by
  unfold mSet
  rw [h]
  rfl
theorem set_o {i : Nat} {a : Rho → Res Val} {ρ : Rho} {xs : List D} (h : a ρ = .ok (.ow xs)) : mSet i a ρ = .nx (ρ.set i (some (.ow xs))) := by
  unfold mSet
  rw [h]
  rfl
theorem inK_at {tab : List (Str × D)} {neg : Bool} {a : Rho → Res Val} {ρ : Rho} {z : Str} (h : a ρ = .ok (.sh (.str z))) : mInK tab neg a ρ = .ok (.sh (.bool (neg != (tab.lookup z).isSome))) := by
  unfold mInK
  rw [h]
  rfl
theorem ixK_at {tab : List (Str × D)} {a : Rho → Res Val} {ρ : Rho} {z : Str} {d : D} (h : a ρ = .ok (.sh (.str z))) (e : tab.lookup z = some d) : mIxK tab a ρ = .ok (.sh d) := by
  unfold mIxK
  rw [h]
  show lift ((tab.lookup z).map Val.sh) = _
  rw [e]
  rfl
theorem m1_at {mm : Val → Val → Option Val} {a b : Rho → Res Val} {ρ : Rho} {z : Str} {r v : Val} (h1 : a ρ = .ok (.sh (.str z))) (h2 : b ρ = .ok r) (e : mm (.sh (.str z)) r = some v) : mM1 mm a b ρ = .ok v := by
  unfold mM1
  rw [h1]
  show (b ρ).bind _ = _
  rw [h2]
  show lift (mm (.sh (.str z)) r) = _
  rw [e]
  rfl
theorem op_at {mo : Val → Val → Option Val} {a b : Rho → Res Val} {ρ : Rho} {x y v : Val} (h1 : a ρ = .ok x) (h2 : b ρ = .ok y) (e : mo x y = some v) : mOp mo a b ρ = .ok v := by
  unfold mOp
  rw [h1]
  show (b ρ).bind _ = _
  rw [h2]
  show lift (mo x y) = _
  rw [e]
  rfl
theorem call1 {m : List Val → Option Val} {a : Rho → Res Val} {ρ : Rho} {x v : Val} (h1 : a ρ = .ok x) (e : m [x] = some v) : mCall m (mCons a mNil) ρ = .ok v := by
  unfold mCall mCons mNil
  rw [h1]
  show lift (m [x]) = _
  rw [e]
  rfl
theorem comp_at {mi : Rho → Res (List D)} {bp : BP} {me : Rho → Res Val} {vs : List Nat} {ρ : Rho} {xs ys : List D} (h1 : mi ρ = .ok xs) (h2 : comp bp mYes me (wipeR ρ vs) xs [] = .ok ys) : mComp mi bp mYes me vs ρ = .ok (.ow ys) := by
  unfold mComp
  rw [h1]
  show (match comp bp mYes me (wipeR ρ vs) xs [] with
    | .ok ys => Res.ok (Val.ow ys)
    | _ => .no) = _
  rw [h2]
theorem ret_at {a : Rho → Res Val} {ρ : Rho} {d : D} (h : a ρ = .ok (.sh d)) : mRet a ρ = .rt (.sh d) := by
  unfold mRet
  rw [h]
  rfl
theorem cons_at {a : Rho → Res Val} {as : Rho → Res (List Val)} {ρ : Rho} {x : Val} {xs : List Val} (h1 : a ρ = .ok x) (h2 : as ρ = .ok xs) : mCons a as ρ = .ok (x :: xs) := by
  unfold mCons
  rw [h1]
  show (as ρ).bind _ = _
  rw [h2]
  rfl
theorem nil_at {ρ : Rho} : mNil ρ = .ok [] := rfl
theorem tup2 {a b : Rho → Res Val} {ρ : Rho} {d e : D} (h1 : a ρ = .ok (.sh d)) (h2 : b ρ = .ok (.sh e)) : mTup (mCons a (mCons b mNil)) ρ = .ok (.sh (.tuple [d, e])) := by
  unfold mTup
  rw [cons_at h1 (cons_at h2 nil_at)]
  rfl
theorem tup3 {a b c : Rho → Res Val} {ρ : Rho} {d e f : D} (h1 : a ρ = .ok (.sh d)) (h2 : b ρ = .ok (.sh e)) (h3 : c ρ = .ok (.sh f)) : mTup (mCons a (mCons b (mCons c mNil))) ρ = .ok (.sh (.tuple [d, e, f])) := by
  unfold mTup
  rw [cons_at h1 (cons_at h2 (cons_at h3 nil_at))]
  rfl
theorem def_at {M : List Val → Res Val} {a : Rho → Res Val} {ρ : Rho} {d e : D} (h1 : a ρ = .ok (.sh d)) (h2 : M [.sh d] = .ok (.sh e)) : mDef M (mCons a mNil) ρ = .ok (.sh e) := by
  unfold mDef
  rw [cons_at h1 nil_at]
  show (match M [.sh d] with
    | .ok r => if (!false || flatR r) = true then Res.ok r else .no
    | .ex n fs => if fs.all (fun p => flatD p.2) = true then .ex n fs else .no
    | .no => .no) = _
  rw [h2]
  rfl
theorem def_ex {M : List Val → Res Val} {a : Rho → Res Val} {ρ : Rho} {d : D} {n : Str} {fs : List (Str × D)} (h1 : a ρ = .ok (.sh d)) (h2 : M [.sh d] = .ex n fs) (h3 : fs.all (fun p => flatD p.2) = true) : mDef M (mCons a mNil) ρ = .ex n fs := by
  unfold mDef
  rw [cons_at h1 nil_at]
  show (match M [.sh d] with
    | .ok r => if (!false || flatR r) = true then Res.ok r else .no
    | .ex n fs => if fs.all (fun p => flatD p.2) = true then .ex n fs else .no
    | .no => .no) = _
  rw [h2]
  show (if fs.all (fun p => flatD p.2) = true then Res.ex n fs else .no) = _
  rw [if_pos h3]
/-! texts cut and joined -/
def LN (t : Str) : List Str := Txt.split t "\n"
def WD (t : Str) : List Str := Txt.split t " "
theorem tl_nl : TL.tl (Str.ofString "\n") = [10] := by decide +kernel
theorem tl_sp : TL.tl (Str.ofString " ") = [32] := by decide +kernel
theorem k_nl : (Str.ofString "\n").cps.all (· < 256) = true := by decide +kernel
theorem k_sp : (Str.ofString " ").cps.all (· < 256) = true := by decide +kernel
theorem spl_ne (S : List Nat) : ∀ (l : List Nat) (k : Nat) (acc : List Nat), TL.spl S k acc l ≠ []
  | [], k, acc => by cases k <;> simp [TL.spl]
  | c :: r, 0, acc => by
    unfold TL.spl
    split
    · simp
    · exact spl_ne S r 0 _
  | c :: r, k + 1, acc => by
    unfold TL.spl
    exact spl_ne S r k _
theorem spl_len (S : List Nat) : ∀ (l : List Nat) (k : Nat) (acc : List Nat), (TL.spl S k acc l).length ≤ l.length + 1
  | [], k, acc => by cases k <;> simp [TL.spl]
  | c :: r, 0, acc => by
    unfold TL.spl
    rw [List.length_cons]
    split
    · rw [List.length_cons]
      have := spl_len S r (S.length - 1) []
      omega
    · have := spl_len S r 0 (acc ++ [c])
      omega
  | c :: r, k + 1, acc => by
    unfold TL.spl
    rw [List.length_cons]
    have := spl_len S r k acc
    omega
theorem spl_each (S : List Nat) : ∀ (l : List Nat) (k : Nat) (acc : List Nat), ∀ p ∈ TL.spl S k acc l, p.length ≤ acc.length + l.length
  | [], k, acc, p, hp => by
    cases k <;> (simp [TL.spl] at hp; subst hp; simp)
  | c :: r, 0, acc, p, hp => by
    unfold TL.spl at hp
    rw [List.length_cons]
    split at hp
    · rcases List.mem_cons.mp hp with rfl | hp
      · omega
      · have := spl_each S r (S.length - 1) [] p hp
        rw [List.length_nil] at this
        omega
    · have := spl_each S r 0 (acc ++ [c]) p hp
      rw [List.length_append, List.length_singleton] at this
      omega
  | c :: r, k + 1, acc, p, hp => by
    unfold TL.spl at hp
    rw [List.length_cons]
    have := spl_each S r k acc p hp
    omega
theorem split_facts {x y : Str} (hy : TL.tl y ≠ []) (hk : y.cps.all (· < 256) = true) : Txt.split x y ≠ [] ∧ (Txt.split x y).length ≤ x.length + 1 ∧ ∀ p ∈ Txt.split x y, p.length ≤ x.length := by
  have e := TL.split_spl x y hy (TL.kind_ok hk)
  refine ⟨fun z => ?_, ?_, fun p hp => ?_⟩
  · rw [z] at e
    exact spl_ne _ _ _ _ e.symm
  · have := spl_len (TL.tl y) (TL.tl x) 0 []
    rw [← e, List.length_map] at this
    rw [TL.len_tl]
    exact this
  · have := spl_each (TL.tl y) (TL.tl x) 0 [] (TL.tl p) (by rw [← e]; exact List.mem_map_of_mem hp)
    rw [List.length_nil, Nat.zero_add] at this
    rw [TL.len_tl, TL.len_tl x]
    exact this
theorem LN_facts (t : Str) : LN t ≠ [] ∧ (LN t).length ≤ t.length + 1 ∧ ∀ p ∈ LN t, p.length ≤ t.length := split_facts (by rw [tl_nl]; simp) k_nl
theorem WD_facts (t : Str) : WD t ≠ [] ∧ (WD t).length ≤ t.length + 1 ∧ ∀ p ∈ WD t, p.length ≤ t.length := split_facts (by rw [tl_sp]; simp) k_sp
/-- the first sign of a line whose first word is one sign -/
theorem WD_head {l : Str} {c : Nat} {r : List Str} (h : WD l = ⟨#[c]⟩ :: r) : ∃ q, TL.tl l = c :: q := by
  have e := StrLaws.join_split l (Str.ofString " ")
  have h : Txt.split l (Str.ofString " ") = ⟨#[c]⟩ :: r := h
  rw [h] at e
  have z := TL.tl_join (Str.ofString " ") (⟨#[c]⟩ :: r)
  rw [e] at z
  rw [z]
  cases r with
  | nil => exact ⟨[], rfl⟩
  | cons a r => exact ⟨_, rfl⟩
def nS (i : Int) : Str := (toString i : String)
theorem nS_tl (n : Nat) : TL.tl (nS (n : Int)) = TL.numL n := TL.tl_num n
theorem nS_inj {a b : Int} (ha : 0 ≤ a) (hb : 0 ≤ b) (h : nS a = nS b) : a = b := by
  obtain ⟨m, rfl⟩ := Int.eq_ofNat_of_zero_le ha
  obtain ⟨n, rfl⟩ := Int.eq_ofNat_of_zero_le hb
  have e := congrArg TL.tl h
  rw [nS_tl, nS_tl] at e
  rw [TL.numL_inj e]
theorem nS_dot {a : Int} (ha : 0 ≤ a) : nS a ≠ "." := by
  obtain ⟨m, rfl⟩ := Int.eq_ofNat_of_zero_le ha
  intro h
  have e := congrArg TL.tl h
  rw [nS_tl, show TL.tl (Str.ofString ".") = [46] by decide +kernel] at e
  have := TL.numL_free (n := m) (s := 46) (by omega)
  rw [e] at this
  exact this List.mem_cons_self
/-- what a word tells of a following state -/
def entF : List Int → Str → Int
  | [], _ => -2
  | i :: is, w => if w = nS i then i else entF is w
def ent (n : Nat) (w : Str) : Int := if w = "." then -1 else entF (upto 0 n) w
theorem entF_rng : ∀ (is : List Int) (w : Str), entF is w = -2 ∨ entF is w ∈ is
  | [], w => .inl rfl
  | i :: is, w => by
    unfold entF
    split
    · exact .inr List.mem_cons_self
    · rcases entF_rng is w with h | h
      · exact .inl h
      · exact .inr (List.mem_cons_of_mem _ h)
theorem ent_rng (n : Nat) (w : Str) : ent n w = -2 ∨ (-1 ≤ ent n w ∧ ent n w < (n : Int)) := by
  unfold ent
  split
  · exact .inr (by omega)
  · rcases entF_rng (upto 0 n) w with h | h
    · exact .inl h
    · have := upto_mem.mp h
      exact .inr (by omega)
theorem entF_own : ∀ (is : List Int) (i : Int), (∀ k ∈ is, 0 ≤ k) → 0 ≤ i → i ∈ is → entF is (nS i) = i
  | [], i, _, _, h => by cases h
  | k :: is, i, h0, hi, h => by
    unfold entF
    by_cases c : nS i = nS k
    · rw [if_pos c]
      exact (nS_inj hi (h0 k List.mem_cons_self) c).symm
    · rw [if_neg c]
      rcases List.mem_cons.mp h with rfl | h
      · exact absurd rfl c
      · exact entF_own is i (fun k hk => h0 k (List.mem_cons_of_mem _ hk)) hi h
theorem ent_own {n : Nat} {i : Int} (h0 : 0 ≤ i) (h : i < (n : Int)) : ent n (nS i) = i := by
  unfold ent
  rw [if_neg (nS_dot h0)]
  exact entF_own _ i (fun k hk => (upto_mem.mp hk).1) h0 (upto_mem.mpr (by omega))
theorem ent_dot (n : Nat) : ent n "." = -1 := if_pos rfl
/-- a line read: its flag, its states -/
def lineOf (n L : Nat) (l : Str) : Option (Bool × List Int) := match WD l with
  | [] => none
  | h :: r => if (h = "+" ∨ h = "-") ∧ r.length = L ∧ ∀ w ∈ r, ent n w ≠ -2 then some (decide (h = "+"), r.map (ent n)) else none
/-- the number that the first line tells -/
def numOf (h : Str) : Option Nat := if h = "1" then some 1 else if h = "2" then some 2 else if h = "3" then some 3 else if h = "4" then some 4 else if h = "5" then some 5 else if h = "6" then some 6 else none
theorem numOf_le {h : Str} {L : Nat} (e : numOf h = some L) : 1 ≤ L ∧ L ≤ 6 := by
  unfold numOf at e
  repeat (split at e; (cases e; decide))
  cases e
theorem e_str {i : Int} (h : i.natAbs < 1000000) : cStrI [.sh (.int i)] = some (.sh (.str (nS i))) := by
  simp only [cStrI, h, if_true]
  rfl
theorem ev_entry (w : Str) (a1 : Option Val) : ∀ (is : List Int) (a2 : Option Val), (∀ i ∈ is, 0 ≤ i ∧ i < 100000) → (entF is w = -2 ∧ ∃ b2, loop (bName 2) lp__law_entry_0 (is.map .int) [some (.sh (.str w)), a1, a2] = .nx [some (.sh (.str w)), a1, b2]) ∨ loop (bName 2) lp__law_entry_0 (is.map .int) [some (.sh (.str w)), a1, a2] = .rt (.sh (.int (entF is w)))
  | [], a2, _ => .inl ⟨rfl, a2, rfl⟩
  | i :: is, a2, h => by
    obtain ⟨h0, h1⟩ := h i List.mem_cons_self
    have hz : i.natAbs < 1000000 := by omega
    rw [List.map_cons]
    unfold entF
    by_cases c : w = nS i
    · refine .inr ?_
      rw [if_pos c]
      refine loop_ret (ρ1 := [some (.sh (.str w)), a1, I i]) rfl ?_
      unfold lp__law_entry_0
      walk_at "ev"
      simp only [e_str hz]
      walk_at "ev"
      simp only [c]
      walk_at "ev"
    · have step : lp__law_entry_0 [some (.sh (.str w)), a1, I i] = .nx [some (.sh (.str w)), a1, I i] := by
        unfold lp__law_entry_0
        walk_at "ev"
        simp only [e_str hz]
        walk_at "ev"
        simp only [c]
        walk_at "ev"
      rw [loop_cons (ρ1 := [some (.sh (.str w)), a1, I i]) rfl step, if_neg c]
      exact ev_entry w a1 is _ fun k hk => h k (List.mem_cons_of_mem _ hk)
theorem e_entry (w : Str) {n : Nat} (h : n ≤ 2000) : M__law_entry [.sh (.str w), .sh (.int n)] = .ok (.sh (.int (ent n w))) := by
  have hn : (n : Int).natAbs ≤ 1000000 := by omega
  rw [M__law_entry_eq]
  unfold ms__law_entry ent
  by_cases c : w = "."
  · walk_at "ev"
    simp only [c]
    walk_at "ev"
  · have e2 : n ≤ 1000000 := by omega
    walk_at "ev"
    simp only [c]
    walk_at "ev"
    (try simp only [e2])
    walk_at "ev"
    rcases ev_entry w (I n) (upto 0 n) none (fun i hi => by have := upto_mem.mp hi; omega) with ⟨e1, b2, e⟩ | e
    · rw [e, e1]
    · rw [e]
/-- the numbers of the states, as a dict of the program's -/
def numsA (n : Nat) : List (Key × D) := ((upto 0 n).map fun i => ((.inr (nS i), .int i) : Key × D)) ++ [(.inr ".", .int (-1))]
def numsD (n : Nat) : D := dictD (numsA n)
theorem get_nums (w : Str) : ∀ is : List Int, (∀ i ∈ is, 0 ≤ i) → getD2 (((is.map fun i => ((.inr (nS i), .int i) : Key × D)) ++ [((.inr ".", .int (-1)) : Key × D)]).map fun (p : Key × D) => (keyD p.1, p.2)) (.inr w) = if (if w = "." then -1 else entF is w) = -2 then none else some (.int (if w = "." then -1 else entF is w))
  | [], _ => by
    show getD2 [(PyData.str ".", .int (-1))] (.inr w) = _
    unfold getD2
    rw [List.find?_cons]
    by_cases c : w = "."
    · rw [if_pos c, if_neg (by decide)]
      have : keyB (.inr w) (PyData.str ".") = true := by
        rw [c]
        decide
      rw [this]
      rfl
    · rw [if_neg c]
      have : keyB (.inr w) (PyData.str ".") = false := by
        show decide ((".": Str) = w) = false
        exact decide_eq_false fun z => c z.symm
      rw [this]
      rfl
  | i :: is, h => by
    have ih := get_nums w is fun k hk => h k (List.mem_cons_of_mem _ hk)
    have hi := h i List.mem_cons_self
    rw [List.map_cons, List.cons_append, List.map_cons]
    unfold getD2 at ih ⊢
    rw [List.find?_cons]
    by_cases c : w = nS i
    · have k : keyB (.inr w) (PyData.str (nS i)) = true := by
        show decide (nS i = w) = true
        exact decide_eq_true c.symm
      have nd : w ≠ "." := by
        rw [c]
        exact nS_dot hi
      have e1 : entF (i :: is) w = i := by
        unfold entF
        rw [if_pos c]
      rw [if_neg nd, e1, if_neg (by omega)]
      show Option.map _ (match keyB (.inr w) (PyData.str (nS i)) with | true => _ | false => _) = _
      rw [k]
      rfl
    · have k : keyB (.inr w) (PyData.str (nS i)) = false := by
        show decide (nS i = w) = false
        exact decide_eq_false fun z => c z.symm
      have e1 : entF (i :: is) w = entF is w := by
        show (if w = nS i then i else entF is w) = entF is w
        rw [if_neg c]
      rw [e1, ← ih]
      show Option.map _ (match keyB (.inr w) (PyData.str (nS i)) with | true => _ | false => _) = _
      rw [k]
theorem get_numsD (n : Nat) (w : Str) : getD2 ((numsA n).map fun p => (keyD p.1, p.2)) (.inr w) = if ent n w = -2 then none else some (.int (ent n w)) := get_nums w (upto 0 n) fun i hi => (upto_mem.mp hi).1
theorem dcomp_go {bp : BP} {mk mv : Rho → Res Val} {ρ : Rho} (h : ∀ v : Int, 0 ≤ v → v < 3000 → ∃ ρ1, bp (.int v) ρ = some ρ1 ∧ mk ρ1 = .ok (.sh (.str (nS v))) ∧ mv ρ1 = .ok (.sh (.int v))) :
    ∀ (m k : Nat), k + m ≤ 3000 → dcomp bp mYes mk mv ρ ((upto (k : Int) m).map .int) ((upto 0 k).map fun i => ((.inr (nS i), .int i) : Key × D)) = .ok ((upto 0 (k + m)).map fun i => ((.inr (nS i), .int i) : Key × D))
  | 0, k, _ => rfl
  | m + 1, k, hl => by
    obtain ⟨ρ1, h1, h2, h3⟩ := h (k : Int) (by omega) (by omega)
    have hn : (((upto 0 k).map fun i => ((.inr (nS i), .int i) : Key × D)).any fun p => decide (p.1 = .inr (nS (k : Int)))) = false := by
      rw [List.any_eq_false]
      intro p hp
      obtain ⟨i, hi, rfl⟩ := List.mem_map.mp hp
      have := upto_mem.mp hi
      have ne : nS i ≠ nS (k : Int) := fun z => by
        have := nS_inj this.1 (by omega) z
        omega
      simp [ne]
    have ha : ((upto 0 k).map fun i => ((.inr (nS i), .int i) : Key × D)).length < 100000 := by
      rw [List.length_map, upto_len]
      omega
    have ih := dcomp_go h m (k + 1) (by omega)
    rw [upto_succ, List.map_cons]
    unfold dcomp
    simp only [h1, h2, h3, mYes, keyOf, flatOf, flatD, if_true, hn, ha, and_self]
    have eu : (upto 0 k).map (fun i => ((.inr (nS i), .int i) : Key × D)) ++ [(.inr (nS (k : Int)), .int (k : Int))] = (upto 0 (k + 1)).map fun i => ((.inr (nS i), .int i) : Key × D) := by
      have : upto 0 (k + 1) = upto 0 k ++ [(k : Int)] := by
        unfold upto
        rw [List.range_succ, List.map_append]
        simp
      rw [this, List.map_append]
      rfl
    rw [eu, show ((k : Int) + 1) = ((k + 1 : Nat) : Int) from rfl, ih, show k + 1 + m = k + (m + 1) by omega]
theorem cut1 (d : D) (ds : List D) : Mi.cutD (d :: ds) (some 1) none = ds := by
  unfold Mi.cutD
  rw [show (some (1 : Int)) = some (((1 : Nat) : Int)) from rfl, HT.sIx_nat, HT.sIx_none, List.length_cons]
  rw [show min 1 (ds.length + 1) = 1 by omega]
  simp
theorem sp_len : ((Str.ofString " ").length == 0) = false := by decide +kernel
theorem nl_len : ((Str.ofString "\n").length == 0) = false := by decide +kernel
theorem e_splS {l : Str} (h : l.length ≤ 99000) : oSplit (.sh (.str l)) (.sh (.str " ")) = some (.ow ((WD l).map .str)) := by
  show (if ((Str.ofString " ").length == 0) = false ∧ l.length ≤ 99000 then _ else _) = _
  rw [if_pos ⟨sp_len, h⟩]
  rfl
theorem e_splN {l : Str} (h : l.length ≤ 99000) : oSplit (.sh (.str l)) (.sh (.str "\n")) = some (.ow ((LN l).map .str)) := by
  show (if ((Str.ofString "\n").length == 0) = false ∧ l.length ≤ 99000 then _ else _) = _
  rw [if_pos ⟨nl_len, h⟩]
  rfl
theorem look_cons (f g : Str) (y : D) (fs : List (Str × D)) : ((f, y) :: fs).lookup g = if g = f then some y else fs.lookup g := by
  by_cases h : g = f
  · subst h
    simp [List.lookup]
  · have e : (g == f) = false := by simpa using h
    rw [if_neg h]
    simp [List.lookup, e]
theorem flags_look (h : Str) : tab_FLAGS.lookup h = if h = "+" then some (.bool true) else if h = "-" then some (.bool false) else none := by
  unfold tab_FLAGS
  rw [look_cons, look_cons]
  rfl
theorem nums_look (h : Str) : tab_NUMBERS_OF_LETTERS.lookup h = (numOf h).map fun n => .int n := by
  unfold tab_NUMBERS_OF_LETTERS numOf
  rw [look_cons, look_cons, look_cons, look_cons, look_cons, look_cons]
  by_cases c1 : h = "1"
  · rw [if_pos c1, if_pos c1]
    rfl
  rw [if_neg c1, if_neg c1]
  by_cases c2 : h = "2"
  · rw [if_pos c2, if_pos c2]
    rfl
  rw [if_neg c2, if_neg c2]
  by_cases c3 : h = "3"
  · rw [if_pos c3, if_pos c3]
    rfl
  rw [if_neg c3, if_neg c3]
  by_cases c4 : h = "4"
  · rw [if_pos c4, if_pos c4]
    rfl
  rw [if_neg c4, if_neg c4]
  by_cases c5 : h = "5"
  · rw [if_pos c5, if_pos c5]
    rfl
  rw [if_neg c5, if_neg c5]
  by_cases c6 : h = "6"
  · rw [if_pos c6, if_pos c6]
    rfl
  rw [if_neg c6, if_neg c6]
  rfl
/-- the words' states, as the program tells them -/
def tgD (n L : Nat) (l : Str) : D := match lineOf n L l with
  | none => .none
  | some r => tI r.2
theorem tgD_no {n L : Nat} {l : Str} (h : lineOf n L l = none) : tgD n L l = .none := by
  unfold tgD
  rw [h]
theorem tgD_is {n L : Nat} {l : Str} {r : Bool × List Int} (h : lineOf n L l = some r) : tgD n L l = tI r.2 := by
  unfold tgD
  rw [h]
theorem e_targets {l : Str} {n L : Nat} (hl : l.length ≤ 2000) : M__targets_in [.sh (.str l), .sh (.int L), .sh (numsD n)] = .ok (.sh (tgD n L l)) := by
  obtain ⟨w1, w2, w3⟩ := WD_facts l
  rw [M__targets_in_eq]
  unfold ms__targets_in
  cases hw : WD l with
  | nil => exact absurd hw w1
  | cons h r =>
  rw [hw] at w2
  rw [List.length_cons] at w2
  obtain ⟨ρ, hρ⟩ : ∃ ρ : Rho, ρ = [some (.sh (.str l)), some (.sh (.int L)), some (.sh (numsD n)), some (.ow ((h :: r).map .str)), none] := ⟨_, rfl⟩
  have s1 : mSet 3 (mM1 oSplit (mVar 0) (mC (.str " "))) [some (.sh (.str l)), some (.sh (.int L)), some (.sh (numsD n)), none, none] = .nx ρ := by
    have e := e_splS (l := l) (by omega)
    rw [hw] at e
    rw [hρ]
    exact set_o (m1_at rfl rfl e)
  have x1 : mOp (oOr oNeS oNe) (mCall cLen (mCons (mVar 3) mNil)) (mOp oAddT (mVar 1) (mC (.int 1))) ρ = .ok (.sh (.bool (decide (r.length ≠ L)))) := by
    have c2 : (((r.length + 1 : Nat) : Int) = (L : Int) + 1) = (r.length = L) := propext (by omega)
    rw [hρ]
    walk_at "ev"
    simp only [c2]
    by_cases c : r.length = L <;> simp [c]
  have x2 : mInK tab_FLAGS true (mOp oIx (mVar 3) (mC (.int 0))) ρ = .ok (.sh (.bool (decide (¬ (h = "+" ∨ h = "-"))))) := by
    have e : mOp oIx (mVar 3) (mC (.int 0)) ρ = .ok (.sh (.str h)) := by
      rw [hρ]
      walk_at "ev"
    rw [inK_at e, flags_look]
    by_cases c : h = "+"
    · rw [if_pos c]
      simp [c]
    · rw [if_neg c]
      by_cases c' : h = "-"
      · rw [if_pos c']
        simp [c']
      · rw [if_neg c']
        simp [c, c']
  have cuts : mIterS (mSlU (mVar 3) (mPart (mC (.int 1))) mNoPart) ρ = .ok (r.map .str) := by
    rw [hρ]
    walk_at "ev"
    rw [show Mi.cutD (PyData.str h :: List.map PyData.str r) (some 1) none = r.map .str from cut1 _ _]
  have x3 : mComp (mIterS (mSlU (mVar 3) (mPart (mC (.int 1))) mNoPart)) (bName 4) mYes (mInI false (mVar 4) (mVar 2)) [4] ρ = .ok (.ow (r.map fun w => .bool (decide (ent n w ≠ -2)))) := by
    refine comp_at cuts (comp_all (fun w => PyData.str w) (fun w => .bool (decide (ent n w ≠ -2))) (fun w hw' => ⟨_, rfl, ?_⟩) (by omega))
    rw [hρ]
    refine ⟨.sh (.bool (decide (ent n w ≠ -2))), ?_, rfl⟩
    show lift (some (Val.sh (.bool (false != (getD2 ((numsA n).map fun p => (keyD p.1, p.2)) (.inr w)).isSome)))) = _
    rw [get_numsD]
    by_cases c : ent n w = -2
    · rw [if_pos c]
      simp [c, lift]
    · rw [if_neg c]
      simp [c, lift]
  have x4 : mCall (cAll fun bs => bs.all id) (mCons (mComp (mIterS (mSlU (mVar 3) (mPart (mC (.int 1))) mNoPart)) (bName 4) mYes (mInI false (mVar 4) (mVar 2)) [4]) mNil) ρ = .ok (.sh (.bool (r.all fun w => decide (ent n w ≠ -2)))) := by
    refine call1 x3 ?_
    rw [show (r.map fun w => PyData.bool (decide (ent n w ≠ -2))) = (r.map fun w => decide (ent n w ≠ -2)).map .bool by rw [List.map_map]; rfl, cAll_map, List.all_map, List.all_map]
    rfl
  have fall : lineOf n L l = none → fin (mSeq (mIf (mOr (mTest (mOp (oOr oNeS oNe) (mCall cLen (mCons (mVar 3) mNil)) (mOp oAddT (mVar 1) (mC (.int 1))))) (mTest (mInK tab_FLAGS true (mOp oIx (mVar 3) (mC (.int 0)))))) (mRet (mC .none)) mSkip)
      (mSeq (mIf (mNot (mTru (mCall (cAll fun bs => bs.all id) (mCons (mComp (mIterS (mSlU (mVar 3) (mPart (mC (.int 1))) mNoPart)) (bName 4) mYes (mInI false (mVar 4) (mVar 2)) [4]) mNil)))) (mRet (mC .none)) mSkip)
        (mRet (mCall cTuple (mCons (mComp (mIterS (mSlU (mVar 3) (mPart (mC (.int 1))) mNoPart)) (bName 4) mYes (mGetI (mVar 2) (mVar 4)) [4]) mNil)))) ρ) = .ok (.sh .none) := by
    intro hn
    by_cases c1 : r.length = L
    · by_cases c2 : h = "+" ∨ h = "-"
      · have c3 : (r.all fun w => decide (ent n w ≠ -2)) = false := by
          rw [← Bool.not_eq_true, List.all_eq_true]
          intro z
          unfold lineOf at hn
          rw [hw] at hn
          have hn : (if (h = "+" ∨ h = "-") ∧ r.length = L ∧ ∀ w ∈ r, ent n w ≠ -2 then some (decide (h = "+"), r.map (ent n)) else none) = none := hn
          rw [if_pos ⟨c2, c1, fun w hw => of_decide_eq_true (z w hw)⟩] at hn
          cases hn
        rw [seqx (ρ' := ρ)]
        · rw [seqr (r := .sh .none)]
          · rfl
          · rw [c3] at x4
            exact if_t (not_b (tru_b x4))
        · rw [decide_eq_false (fun z => z c1)] at x1
          rw [decide_eq_false (fun z => z c2)] at x2
          exact if_f ((or_f (test_b x1)).trans (test_b x2))
      · rw [seqr (r := .sh .none)]
        · rfl
        · rw [decide_eq_false (fun z => z c1)] at x1
          rw [decide_eq_true c2] at x2
          exact if_t ((or_f (test_b x1)).trans (test_b x2))
    · rw [seqr (r := .sh .none)]
      · rfl
      · rw [decide_eq_true c1] at x1
        exact if_t (or_t (test_b x1))
  refine (congrArg fin (seqx (ρ' := ρ) s1)).trans ?_
  cases hl : lineOf n L l with
  | none =>
    rw [tgD_no hl]
    exact fall hl
  | some q =>
    rw [tgD_is hl]
    unfold lineOf at hl
    rw [hw] at hl
    have hl : (if (h = "+" ∨ h = "-") ∧ r.length = L ∧ ∀ w ∈ r, ent n w ≠ -2 then some (decide (h = "+"), r.map (ent n)) else none) = some q := hl
    split at hl
    · rename_i cc
      obtain ⟨c2, c1, c3⟩ := cc
      cases hl
      have a3 : (r.all fun w => decide (ent n w ≠ -2)) = true := List.all_eq_true.mpr fun w hw => decide_eq_true (c3 w hw)
      rw [a3] at x4
      rw [decide_eq_false (fun z => z c1)] at x1
      rw [decide_eq_false (fun z => z c2)] at x2
      have y1 : mIf (mOr (mTest (mOp (oOr oNeS oNe) (mCall cLen (mCons (mVar 3) mNil)) (mOp oAddT (mVar 1) (mC (.int 1))))) (mTest (mInK tab_FLAGS true (mOp oIx (mVar 3) (mC (.int 0)))))) (mRet (mC .none)) mSkip ρ = .nx ρ := if_f ((or_f (test_b x1)).trans (test_b x2))
      have y2 : mIf (mNot (mTru (mCall (cAll fun bs => bs.all id) (mCons (mComp (mIterS (mSlU (mVar 3) (mPart (mC (.int 1))) mNoPart)) (bName 4) mYes (mInI false (mVar 4) (mVar 2)) [4]) mNil)))) (mRet (mC .none)) mSkip ρ = .nx ρ := if_f (not_b (tru_b x4))
      rw [seqx y1, seqx y2]
      have x5 : mComp (mIterS (mSlU (mVar 3) (mPart (mC (.int 1))) mNoPart)) (bName 4) mYes (mGetI (mVar 2) (mVar 4)) [4] ρ = .ok (.ow ((r.map (ent n)).map .int)) := by
        rw [List.map_map]
        refine comp_at cuts (comp_all (fun w => PyData.str w) (PyData.int ∘ ent n) (fun w hw' => ⟨_, rfl, ?_⟩) (by omega))
        rw [hρ]
        refine ⟨.sh (.int (ent n w)), ?_, rfl⟩
        show lift ((getD2 ((numsA n).map fun p => (keyD p.1, p.2)) (.inr w)).map Val.sh) = _
        rw [get_numsD, if_neg (c3 w hw')]
        rfl
      have x6 : mCall cTuple (mCons (mComp (mIterS (mSlU (mVar 3) (mPart (mC (.int 1))) mNoPart)) (bName 4) mYes (mGetI (mVar 2) (mVar 4)) [4]) mNil) ρ = .ok (.sh (tI (r.map (ent n)))) := call1 x5 rfl
      rw [ret_at x6]
      rfl
    · cases hl
/-- the lines read in their order, or the number of the first one that is none -/
def goL (n L : Nat) : Nat → List Str → Sum Nat (List (Bool × List Int))
  | _, [] => .inr []
  | k, l :: ls => match lineOf n L l with
    | none => .inl k
    | some p => match goL n L (k + 1) ls with
      | .inl j => .inl j
      | .inr ps => .inr (p :: ps)
theorem goL_no {n L k : Nat} {l : Str} {ls : List Str} (h : lineOf n L l = none) : goL n L k (l :: ls) = .inl k := by
  show (match lineOf n L l with
    | none => Sum.inl k
    | some p => match goL n L (k + 1) ls with
      | .inl j => Sum.inl j
      | .inr ps => Sum.inr (p :: ps)) = _
  rw [h]
theorem goL_is {n L k : Nat} {l : Str} {ls : List Str} {p : Bool × List Int} (h : lineOf n L l = some p) : goL n L k (l :: ls) = match goL n L (k + 1) ls with
      | .inl j => .inl j
      | .inr ps => .inr (p :: ps) := by
  show (match lineOf n L l with
    | none => Sum.inl k
    | some p => match goL n L (k + 1) ls with
      | .inl j => Sum.inl j
      | .inr ps => Sum.inr (p :: ps)) = _
  rw [h]
theorem goL_all {n L : Nat} : ∀ {ls : List Str} {k : Nat} {ps : List (Bool × List Int)}, goL n L k ls = .inr ps → ls.map (lineOf n L) = ps.map some
  | [], k, ps, h => by
    cases h
    rfl
  | l :: ls, k, ps, h => by
    cases e : lineOf n L l with
    | none =>
      rw [goL_no e] at h
      cases h
    | some p =>
      rw [goL_is e] at h
      cases e2 : goL n L (k + 1) ls with
      | inl j =>
        rw [e2] at h
        cases h
      | inr qs =>
        rw [e2] at h
        cases h
        rw [List.map_cons, List.map_cons, e, goL_all e2]
/-- what reading a text tells -/
def rdD (t : Str) : D := match LN t with
  | [] => .none
  | h :: ls => match numOf h with
    | none => .tuple [.str "fault", .int 0]
    | some L => match goL ls.length L 1 ls with
      | .inl j => .tuple [.str "fault", .int (j : Nat)]
      | .inr ps => .tuple [.str "machine", mD L (ps.map (·.1)) (ps.map (·.2))]
theorem loop_ex {bp : BP} {body : Rho → Out} {d : D} {ds : List D} {ρ ρ1 ρ2 : Rho} {n : Str} {fs : List (Str × D)} (h1 : bp d ρ = some ρ1) (h2 : body ρ1 = .ex n fs ρ2) : loop bp body (d :: ds) ρ = .ex n fs ρ2 := by
  rw [loop, h1]
  simp only [h2]
theorem ev_read (S H Ls : Option Val) (n L : Nat) : ∀ (ls : List Str) (k : Nat) (T : List (List Int)) (a6 a7 a8 a9 : Option Val), (∀ l ∈ ls, l.length ≤ 2000) → T.length + ls.length ≤ 3000 →
    (∃ j T' b6 b7 b8, goL n L k ls = .inl j ∧ loop (bTup (bCons (bName 6) (bCons (bName 7) bNil))) lp_read_machine_0 (numberedI (k : Int) (ls.map .str)) [S, H, Ls, I L, some (.sh (numsD n)), some (.ow (T.map tI)), a6, a7, a8, a9] = .ex "Malformed" [("at", .int (j : Nat))] [S, H, Ls, I L, some (.sh (numsD n)), some (.ow (T' : List D)), b6, b7, b8, a9]) ∨
    (∃ ps b6 b7 b8, goL n L k ls = .inr ps ∧ loop (bTup (bCons (bName 6) (bCons (bName 7) bNil))) lp_read_machine_0 (numberedI (k : Int) (ls.map .str)) [S, H, Ls, I L, some (.sh (numsD n)), some (.ow (T.map tI)), a6, a7, a8, a9] = .nx [S, H, Ls, I L, some (.sh (numsD n)), some (.ow ((T ++ ps.map (·.2)).map tI)), b6, b7, b8, a9])
  | [], k, T, a6, a7, a8, a9, _, _ => .inr ⟨[], a6, a7, a8, rfl, by rw [show ((([] : List (Bool × List Int)).map (·.2))) = [] from rfl, List.append_nil]; rfl⟩
  | l :: ls, k, T, a6, a7, a8, a9, hl, ht => by
    rw [List.length_cons] at ht
    have et := e_targets (n := n) (L := L) (hl l List.mem_cons_self)
    have b0 : bTup (bCons (bName 6) (bCons (bName 7) bNil)) (.tuple [.int (k : Int), .str l]) [S, H, Ls, I L, some (.sh (numsD n)), some (.ow (T.map tI)), a6, a7, a8, a9] = some [S, H, Ls, I L, some (.sh (numsD n)), some (.ow (T.map tI)), I k, some (.sh (.str l)), a8, a9] := rfl
    have nm : numberedI (k : Int) ((l :: ls).map .str) = .tuple [.int (k : Int), .str l] :: numberedI ((k + 1 : Nat) : Int) (ls.map .str) := rfl
    have call : mSet 8 (mDef M__targets_in (mCons (mVar 7) (mCons (mVar 3) (mCons (mVar 4) mNil)))) [S, H, Ls, I L, some (.sh (numsD n)), some (.ow (T.map tI)), I k, some (.sh (.str l)), a8, a9] = .nx [S, H, Ls, I L, some (.sh (numsD n)), some (.ow (T.map tI)), I k, some (.sh (.str l)), some (.sh (tgD n L l)), a9] := by
      refine set_s ?_
      walk_at "ev"
      rw [et]
    rw [nm]
    cases el : lineOf n L l with
    | none =>
      rw [tgD_no el] at call
      refine .inl ⟨k, T.map tI, I k, some (.sh (.str l)), some (.sh .none), goL_no el, ?_⟩
      have step : lp_read_machine_0 [S, H, Ls, I L, some (.sh (numsD n)), some (.ow (T.map tI)), I k, some (.sh (.str l)), a8, a9] = .ex "Malformed" [("at", .int (k : Nat))] [S, H, Ls, I L, some (.sh (numsD n)), some (.ow (T.map tI)), I k, some (.sh (.str l)), some (.sh .none), a9] := by
        unfold lp_read_machine_0
        rw [mFrz_at, show frz 3 [S, H, Ls, I L, some (.sh (numsD n)), some (.ow (T.map tI)), I k, some (.sh (.str l)), a8, a9] = [S, H, Ls, I L, some (.sh (numsD n)), some (.ow (T.map tI)), I k, some (.sh (.str l)), a8, a9] from rfl, seqx call]
        exact seqe (if_t rfl)
      exact loop_ex b0 step
    | some p =>
      rw [tgD_is el] at call
      have hT : T.length < 100000 := by omega
      have step : lp_read_machine_0 [S, H, Ls, I L, some (.sh (numsD n)), some (.ow (T.map tI)), I k, some (.sh (.str l)), a8, a9] = .nx [S, H, Ls, I L, some (.sh (numsD n)), some (.ow ((T ++ [p.2]).map tI)), I k, some (.sh (.str l)), some (.sh (tI p.2)), a9] := by
        unfold lp_read_machine_0
        rw [mFrz_at, show frz 3 [S, H, Ls, I L, some (.sh (numsD n)), some (.ow (T.map tI)), I k, some (.sh (.str l)), a8, a9] = [S, H, Ls, I L, some (.sh (numsD n)), some (.ow (T.map tI)), I k, some (.sh (.str l)), a8, a9] from rfl, seqx call]
        have y : mIf (mTest (mOp (oIsN false) (mVar 8) (mC .none))) (mRaiseX "Malformed" "at" (mVar 6)) mSkip [S, H, Ls, I L, some (.sh (numsD n)), some (.ow (T.map tI)), I k, some (.sh (.str l)), some (.sh (tI p.2)), a9] = .nx [S, H, Ls, I L, some (.sh (numsD n)), some (.ow (T.map tI)), I k, some (.sh (.str l)), some (.sh (tI p.2)), a9] := if_f rfl
        rw [seqx y, mFrz_at, show frz 8 [S, H, Ls, I L, some (.sh (numsD n)), some (.ow (T.map tI)), I k, some (.sh (.str l)), some (.sh (tI p.2)), a9] = [S, H, Ls, I L, some (.sh (numsD n)), some (.ow (T.map tI)), I k, some (.sh (.str l)), some (.sh (tI p.2)), a9] from rfl]
        walk_at "ev"
        simp only [hT]
        walk_at "ev"
        rw [List.map_append]
        rfl
      rw [loop_cons b0 step]
      have q := goL_is (k := k) (ls := ls) el
      rcases ev_read S H Ls n L ls (k + 1) (T ++ [p.2]) (I k) (some (.sh (.str l))) (some (.sh (tI p.2))) a9 (fun x hx => hl x (List.mem_cons_of_mem _ hx)) (by rw [List.length_append, List.length_singleton]; omega) with ⟨j, T', b6, b7, b8, e1, e2⟩ | ⟨ps, b6, b7, b8, e1, e2⟩
      · rw [e1] at q
        exact .inl ⟨j, T', b6, b7, b8, q, e2⟩
      · rw [e1] at q
        refine .inr ⟨p :: ps, b6, b7, b8, q, ?_⟩
        rw [e2, List.append_assoc]
        rfl
theorem line_flag {n L : Nat} {l : Str} {p : Bool × List Int} (hl : l.length ≤ 100000) (h : lineOf n L l = some p) : ∃ z : Str, oIx (.sh (.str l)) (.sh (.int 0)) = some (.sh (.str z)) ∧ tab_FLAGS.lookup z = some (.bool p.1) := by
  have one : ∀ (c : Nat) (r : List Str), WD l = ⟨#[c]⟩ :: r → oIx (.sh (.str l)) (.sh (.int 0)) = some (.sh (.str ⟨#[c]⟩)) := fun c r e => by
    obtain ⟨q, hq⟩ := WD_head e
    show (if l.length ≤ 100000 then (atI l.cps.toList 0).map fun c => Val.sh (.str ⟨#[c]⟩) else none) = _
    have hq : l.cps.toList = c :: q := hq
    have ea : atI (c :: q) (0 : Int) = some c := by
      unfold atI ixN
      rw [if_pos (by omega), if_pos (by simp)]
      rfl
    rw [if_pos hl, hq, ea]
    rfl
  unfold lineOf at h
  cases hw : WD l with
  | nil =>
    rw [hw] at h
    cases h
  | cons w r =>
    rw [hw] at h
    have h : (if (w = "+" ∨ w = "-") ∧ r.length = L ∧ ∀ w ∈ r, ent n w ≠ -2 then some (decide (w = "+"), r.map (ent n)) else none) = some p := h
    split at h
    · rename_i cc
      cases h
      rcases cc.1 with rfl | rfl
      · exact ⟨_, one 43 r hw, by
          rw [flags_look, if_pos (by decide +kernel)]
          rfl⟩
      · exact ⟨_, one 45 r hw, by
          rw [flags_look, if_neg (by decide +kernel), if_pos (by decide +kernel)]
          show some (PyData.bool false) = some (.bool (decide ((Str.ofString "-") = Str.ofString "+")))
          rw [decide_eq_false (by decide +kernel)]⟩
    · cases h
/-- the flag of a line -/
def flgD (n L : Nat) (l : Str) : D := match lineOf n L l with
  | some p => .bool p.1
  | none => .none
theorem e_star {t h : Str} {ls : List Str} {a1 a2 a3 a4 a5 a6 a7 a8 a9 : Option Val} (hl : t.length ≤ 99000) (e : LN t = h :: ls) : mStar 1 2 (mM1 oSplit (mVar 0) (mC (.str "\n"))) [some (.sh (.str t)), a1, a2, a3, a4, a5, a6, a7, a8, a9] = .nx [some (.sh (.str t)), some (.sh (.str h)), some (.sh (.list (ls.map .str))), a3, a4, a5, a6, a7, a8, a9] := by
  have k : mM1 oSplit (mVar 0) (mC (.str "\n")) [some (.sh (.str t)), a1, a2, a3, a4, a5, a6, a7, a8, a9] = .ok (.ow ((h :: ls).map .str)) := by
    rw [← e]
    exact m1_at rfl rfl (e_splN hl)
  unfold mStar
  rw [k]
  rfl
theorem any_dot (n : Nat) : (((upto 0 n).map fun i => ((.inr (nS i), .int i) : Key × D)).any fun p => decide (p.1 = .inr ".")) = false := by
  rw [List.any_eq_false]
  intro p hp
  obtain ⟨i, hi, rfl⟩ := List.mem_map.mp hp
  simp [nS_dot (upto_mem.mp hi).1]
theorem e_dp {S H a4 a5 a6 a7 a8 : Option Val} {ds : List D} {L : Option Val} (hl : ds.length ≤ 2000) : mDP 4 (mIter1 (mCons (mCall cLen (mCons (mVar 2) mNil)) mNil)) (bName 9) mYes (mCall cStrI (mCons (mVar 9) mNil)) (mVar 9) [9] (mC (.str ".")) (mC (.int (-1))) [S, H, some (.sh (.list ds)), L, a4, a5, a6, a7, a8, none] = .nx [S, H, some (.sh (.list ds)), L, some (.sh (numsD ds.length)), a5, a6, a7, a8, none] := by
  have g1 : mIter1 (mCons (mCall cLen (mCons (mVar 2) mNil)) mNil) [S, H, some (.sh (.list ds)), L, a4, a5, a6, a7, a8, none] = .ok ((upto 0 ds.length).map .int) := by
    have hz : ds.length ≤ 1000000 := by omega
    walk_at "ev"
    simp only [hz]
    walk_at "ev"
  have g2 := dcomp_go (bp := bName 9) (mk := mCall cStrI (mCons (mVar 9) mNil)) (mv := mVar 9) (ρ := wipeR [S, H, some (.sh (.list ds)), L, a4, a5, a6, a7, a8, none] [9]) (fun v h0 h1 => ⟨_, rfl, by
    have g : v.natAbs < 1000000 := by omega
    exact call1 (x := .sh (.int v)) rfl (e_str g), rfl⟩) ds.length 0 (by omega)
  rw [Nat.zero_add] at g2
  unfold mDP
  rw [g1]
  show (match dcomp (bName 9) mYes (mCall cStrI (mCons (mVar 9) mNil)) (mVar 9) (wipeR [S, H, some (.sh (.list ds)), L, a4, a5, a6, a7, a8, none] [9]) ((upto 0 ds.length).map .int) [] with
    | .ok acc => _
    | _ => Out.no) = _
  have g2 : dcomp (bName 9) mYes (mCall cStrI (mCons (mVar 9) mNil)) (mVar 9) (wipeR [S, H, some (.sh (.list ds)), L, a4, a5, a6, a7, a8, none] [9]) ((upto 0 ds.length).map .int) [] = .ok ((upto 0 ds.length).map fun i => ((.inr (nS i), .int i) : Key × D)) := g2
  rw [g2]
  have ha : ((upto 0 ds.length).map fun i => ((.inr (nS i), .int i) : Key × D)).length < 100000 := by
    rw [List.length_map, upto_len]
    omega
  have g3 : ∀ ρ : Rho, dstep 4 (mC (.str ".")) (mC (.int (-1))) ((upto 0 ds.length).map fun i => ((.inr (nS i), .int i) : Key × D)) ρ = some (numsA ds.length) := fun ρ => by
    show (if ((upto 0 ds.length).map fun i => ((.inr (nS i), .int i) : Key × D)).length < 100000 then some (putA ((upto 0 ds.length).map fun i => ((.inr (nS i), .int i) : Key × D)) (.inr ".") (.int (-1))) else none) = _
    rw [if_pos ha]
    unfold putA
    rw [any_dot]
    rfl
  show (match dstep 4 (mC (.str ".")) (mC (.int (-1))) ((upto 0 ds.length).map fun i => ((.inr (nS i), .int i) : Key × D)) _ with
    | some acc' => _
    | none => Out.no) = _
  rw [g3]
  rfl
theorem rdD_no {t h : Str} {ls : List Str} (e : LN t = h :: ls) (en : numOf h = none) : rdD t = .tuple [.str "fault", .int ((0 : Nat) : Int)] := by
  unfold rdD
  rw [e]
  show (match numOf h with
    | none => _
    | some L => _) = _
  rw [en]
  rfl
theorem rdD_bad {t h : Str} {ls : List Str} {L j : Nat} (e : LN t = h :: ls) (en : numOf h = some L) (g : goL ls.length L 1 ls = .inl j) : rdD t = .tuple [.str "fault", .int (j : Nat)] := by
  unfold rdD
  rw [e]
  show (match numOf h with
    | none => _
    | some L => _) = _
  rw [en]
  show (match goL ls.length L 1 ls with
    | .inl j => _
    | .inr ps => _) = _
  rw [g]
theorem rdD_ok {t h : Str} {ls : List Str} {L : Nat} {ps : List (Bool × List Int)} (e : LN t = h :: ls) (en : numOf h = some L) (g : goL ls.length L 1 ls = .inr ps) : rdD t = .tuple [.str "machine", mD L (ps.map (·.1)) (ps.map (·.2))] := by
  unfold rdD
  rw [e]
  show (match numOf h with
    | none => _
    | some L => _) = _
  rw [en]
  show (match goL ls.length L 1 ls with
    | .inl j => _
    | .inr ps => _) = _
  rw [g]
theorem e_read {t : Str} (hl : t.length ≤ 1500) : (∃ k, rdD t = .tuple [.str "fault", .int (k : Nat)] ∧ M_read_machine [.sh (.str t)] = .ex "Malformed" [("at", .int (k : Nat))]) ∨ (∃ m, rdD t = .tuple [.str "machine", m] ∧ M_read_machine [.sh (.str t)] = .ok (.sh m)) := by
  obtain ⟨n1, n2, n3⟩ := LN_facts t
  cases e : LN t with
  | nil => exact absurd e n1
  | cons h ls =>
  rw [e, List.length_cons] at n2
  rw [e] at n3
  have hls : ∀ l ∈ ls, l.length ≤ 2000 := fun l hl' => Nat.le_trans (n3 l (List.mem_cons_of_mem _ hl')) (by omega)
  have s1 := e_star (t := t) (a1 := none) (a2 := none) (a3 := none) (a4 := none) (a5 := none) (a6 := none) (a7 := none) (a8 := none) (a9 := none) (by omega) e
  have look : mInK tab_NUMBERS_OF_LETTERS true (mVar 1) [some (.sh (.str t)), some (.sh (.str h)), some (.sh (.list (ls.map .str))), none, none, none, none, none, none, none] = .ok (.sh (.bool (numOf h).isNone)) := by
    rw [inK_at (z := h) rfl, nums_look]
    cases numOf h <;> rfl
  rw [M_read_machine_eq]
  unfold ms_read_machine
  rw [seqx s1]
  cases en : numOf h with
  | none =>
    refine .inl ⟨0, rdD_no e en, ?_⟩
    rw [en] at look
    have y : mIf (mTest (mInK tab_NUMBERS_OF_LETTERS true (mVar 1))) (mRaiseX "Malformed" "at" (mC (.int 0))) mSkip [some (.sh (.str t)), some (.sh (.str h)), some (.sh (.list (ls.map .str))), none, none, none, none, none, none, none] = .ex "Malformed" [("at", .int ((0 : Nat) : Int))] [some (.sh (.str t)), some (.sh (.str h)), some (.sh (.list (ls.map .str))), none, none, none, none, none, none, none] := if_t (test_b look)
    rw [seqe y]
    rfl
  | some L =>
    rw [en] at look
    have y : mIf (mTest (mInK tab_NUMBERS_OF_LETTERS true (mVar 1))) (mRaiseX "Malformed" "at" (mC (.int 0))) mSkip [some (.sh (.str t)), some (.sh (.str h)), some (.sh (.list (ls.map .str))), none, none, none, none, none, none, none] = .nx [some (.sh (.str t)), some (.sh (.str h)), some (.sh (.list (ls.map .str))), none, none, none, none, none, none, none] := if_f (test_b look)
    have ixl : mIxK tab_NUMBERS_OF_LETTERS (mVar 1) [some (.sh (.str t)), some (.sh (.str h)), some (.sh (.list (ls.map .str))), none, none, none, none, none, none, none] = .ok (.sh (.int L)) := ixK_at (z := h) rfl (by rw [nums_look, en]; rfl)
    have dp := e_dp (S := some (.sh (.str t))) (H := some (.sh (.str h))) (a4 := none) (a5 := none) (a6 := none) (a7 := none) (a8 := none) (ds := ls.map .str) (L := I L) (by rw [List.length_map]; omega)
    rw [List.length_map] at dp
    rw [seqx y, seqx (set_s ixl)]
    rw [show ([some (.sh (.str t)), some (.sh (.str h)), some (.sh (.list (ls.map .str))), none, none, none, none, none, none, none] : Rho).set 3 (some (.sh (.int L))) = [some (.sh (.str t)), some (.sh (.str h)), some (.sh (.list (ls.map .str))), I L, none, none, none, none, none, none] from rfl, seqx dp]
    have s5 : mSet 5 (mLst mNil) [some (.sh (.str t)), some (.sh (.str h)), some (.sh (.list (ls.map .str))), I L, some (.sh (numsD ls.length)), none, none, none, none, none] = .nx [some (.sh (.str t)), some (.sh (.str h)), some (.sh (.list (ls.map .str))), I L, some (.sh (numsD ls.length)), some (.ow ((([] : List (List Int))).map tI)), none, none, none, none] := rfl
    rw [seqx s5, mFrz_at, mFrz_at, show frz 3 (frz 8 [some (.sh (.str t)), some (.sh (.str h)), some (.sh (.list (ls.map .str))), I L, some (.sh (numsD ls.length)), some (.ow ((([] : List (List Int))).map tI)), none, none, none, none]) = [some (.sh (.str t)), some (.sh (.str h)), some (.sh (.list (ls.map .str))), I L, some (.sh (numsD ls.length)), some (.ow ((([] : List (List Int))).map tI)), none, none, none, none] from rfl]
    have it : mIterEl (mCons (mVar 2) mNil) (mC (.int 1)) [some (.sh (.str t)), some (.sh (.str h)), some (.sh (.list (ls.map .str))), I L, some (.sh (numsD ls.length)), some (.ow ((([] : List (List Int))).map tI)), none, none, none, none] = .ok (numberedI ((1 : Nat) : Int) (ls.map .str)) := rfl
    have lp : ∀ o, loop (bTup (bCons (bName 6) (bCons (bName 7) bNil))) lp_read_machine_0 (numberedI ((1 : Nat) : Int) (ls.map .str)) [some (.sh (.str t)), some (.sh (.str h)), some (.sh (.list (ls.map .str))), I L, some (.sh (numsD ls.length)), some (.ow ((([] : List (List Int))).map tI)), none, none, none, none] = o → mFor (mIterEl (mCons (mVar 2) mNil) (mC (.int 1))) (bTup (bCons (bName 6) (bCons (bName 7) bNil))) lp_read_machine_0 [some (.sh (.str t)), some (.sh (.str h)), some (.sh (.list (ls.map .str))), I L, some (.sh (numsD ls.length)), some (.ow ((([] : List (List Int))).map tI)), none, none, none, none] = o := fun o ho => by
      unfold mFor
      rw [it]
      exact ho
    rcases ev_read (some (.sh (.str t))) (some (.sh (.str h))) (some (.sh (.list (ls.map .str)))) ls.length L ls 1 [] none none none none hls (by rw [List.length_nil]; omega) with ⟨j, T', b6, b7, b8, g, lo⟩ | ⟨ps, b6, b7, b8, g, lo⟩
    · refine .inl ⟨j, rdD_bad e en g, ?_⟩
      rw [seqe (lp _ lo)]
      rfl
    · refine .inr ⟨_, rdD_ok e en g, ?_⟩
      rw [seqx (lp _ lo), List.nil_append]
      obtain ⟨ρ, hρ⟩ : ∃ ρ : Rho, ρ = [some (.sh (.str t)), some (.sh (.str h)), some (.sh (.list (ls.map .str))), I L, some (.sh (numsD ls.length)), some (.ow ((ps.map (·.2)).map tI)), b6, b7, b8, none] := ⟨_, rfl⟩
      rw [← hρ]
      have c1 : mOp oGt (mCall cLen (mCons (mVar 2) mNil)) (mC (.int (2000))) ρ = .ok (.sh (.bool false)) := by
        have hz : ¬ (2000 : Int) < (ls.length : Int) := by omega
        rw [hρ]
        walk_at "ev"
        simp only [hz, decide_false]
      have y2 : mIf (mTest (mOp oGt (mCall cLen (mCons (mVar 2) mNil)) (mC (.int (2000))))) (mRaiseX "Malformed" "at" (mOp oAddT (mC (.int (2000))) (mC (.int 1)))) mSkip ρ = .nx ρ := if_f (test_b c1)
      have ga := goL_all g
      have efl : ls.map (flgD ls.length L) = (ps.map (·.1)).map .bool := by
        have z := congrArg (List.map fun o : Option (Bool × List Int) => match o with
          | some p => PyData.bool p.1
          | none => .none) ga
        rw [List.map_map, List.map_map] at z
        rw [List.map_map]
        exact z
      have hsome : ∀ l ∈ ls, ∃ p, lineOf ls.length L l = some p := fun l hl' => by
        have m := List.mem_map_of_mem (f := lineOf ls.length L) hl'
        rw [ga] at m
        obtain ⟨p, _, hp⟩ := List.mem_map.mp m
        exact ⟨p, hp.symm⟩
      have c2 : mComp (mIterS (mVar 2)) (bName 7) mYes (mIxK tab_FLAGS (mOp oIx (mVar 7) (mC (.int 0)))) [7] ρ = .ok (.ow ((ps.map (·.1)).map .bool)) := by
        rw [← efl]
        refine comp_at (xs := ls.map .str) (by rw [hρ]; rfl) (comp_all (fun w => PyData.str w) (flgD ls.length L) (fun l hl' => ⟨_, rfl, ?_⟩) (by omega))
        obtain ⟨p, hp⟩ := hsome l hl'
        obtain ⟨z, z1, z2⟩ := line_flag (Nat.le_trans (hls l hl') (by decide)) hp
        refine ⟨.sh (.bool p.1), ?_, ?_⟩
        · refine ixK_at (op_at (x := .sh (.str l)) (y := .sh (.int 0)) ?_ rfl z1) z2
          rw [hρ]
          rfl
        · unfold flgD
          rw [hp]
          rfl
      have c3 : mCall cTuple (mCons (mComp (mIterS (mVar 2)) (bName 7) mYes (mIxK tab_FLAGS (mOp oIx (mVar 7) (mC (.int 0)))) [7]) mNil) ρ = .ok (.sh (aD (ps.map (·.1)))) := call1 c2 rfl
      have c4 : mCall cTuple (mCons (mVar 5) mNil) ρ = .ok (.sh (tD (ps.map (·.2)))) := by
        rw [hρ]
        rfl
      rw [seqx y2, mFrz_at, show frz 3 ρ = ρ by rw [hρ]; rfl]
      have c5 : mTup (mCons (mVar 3) (mCons (mCall cTuple (mCons (mComp (mIterS (mVar 2)) (bName 7) mYes (mIxK tab_FLAGS (mOp oIx (mVar 7) (mC (.int 0)))) [7]) mNil)) (mCons (mCall cTuple (mCons (mVar 5) mNil)) mNil))) ρ = .ok (.sh (mD L (ps.map (·.1)) (ps.map (·.2)))) := by
        exact tup3 (by rw [hρ]; rfl) c3 c4
      rw [ret_at c5]
      rfl
theorem e_told {t : Str} (hl : t.length ≤ 1500) : M__law_told [.sh (.str t)] = .ok (.sh (rdD t)) := by
  rw [M__law_told_eq]
  unfold ms__law_told
  rcases e_read hl with ⟨k, e1, e2⟩ | ⟨m, e1, e2⟩
  · rw [e1]
    have b : mRet (mTup (mCons (mC (.str "machine")) (mCons (mDef M_read_machine (mCons (mVar 0) mNil)) mNil))) [some (.sh (.str t)), none] = .ex "Malformed" [("at", .int (k : Nat))] [some (.sh (.str t)), none] := by
      have d := def_ex (M := M_read_machine) (a := mVar 0) (ρ := [some (.sh (.str t)), none]) (d := .str t) rfl e2 rfl
      unfold mRet mTup mCons mNil mC
      simp only [Res.bind]
      have d : mDef M_read_machine (fun ρ => (mVar 0 ρ).bind fun a => (Res.ok []).bind fun as => .ok (a :: as)) [some (.sh (.str t)), none] = .ex "Malformed" [("at", .int (k : Nat))] := d
      simp only [Res.bind] at d
      rw [d]
      rfl
    unfold mTryF
    rw [b]
    rfl
  · rw [e1]
    have b : mRet (mTup (mCons (mC (.str "machine")) (mCons (mDef M_read_machine (mCons (mVar 0) mNil)) mNil))) [some (.sh (.str t)), none] = .rt (.sh (.tuple [.str "machine", m])) := ret_at (tup2 rfl (def_at rfl e2))
    unfold mTryF
    rw [b]
    rfl
theorem atI_nat {α : Type} {xs : List α} {k : Nat} {x : α} (h : xs[k]? = some x) : atI xs (k : Int) = some x := by
  obtain ⟨hk, _⟩ := List.getElem?_eq_some_iff.mp h
  unfold atI ixN
  rw [if_pos (by omega), if_pos (by omega)]
  exact h
theorem in_pm (w : Str) : oIn true (.sh (.str w)) (.ow [.str "+", .str "-"]) = some (.sh (.bool (decide (¬ (w = "+" ∨ w = "-"))))) := by
  show some (Val.sh (.bool (!(inD (.str w) [.str "+", .str "-"])))) = _
  unfold inD
  have e : ([PyData.str "+", PyData.str "-"].any fun z => PyData.eqv z (.str w)) = decide (w = "+" ∨ w = "-") := by
    simp only [List.any_cons, List.any_nil, Bool.or_false]
    have e1 : ∀ x : Str, PyData.eqv (.str x) (.str w) = decide (w = x) := fun x => by
      simp only [PyData.eqv]
      by_cases c : x = w
      · simp [c]
      · have c' : ¬ w = x := fun z => c z.symm
        simp [c, c']
    rw [e1, e1, Bool.decide_or]
  rw [e, decide_not]
theorem in_six (w : Str) : oIn true (.sh (.str w)) (.ow [.str "1", .str "2", .str "3", .str "4", .str "5", .str "6"]) = some (.sh (.bool (numOf w).isNone)) := by
  show some (Val.sh (.bool (!(inD (.str w) [.str "1", .str "2", .str "3", .str "4", .str "5", .str "6"])))) = _
  have e1 : ∀ x : Str, PyData.eqv (.str x) (.str w) = decide (w = x) := fun x => by
    simp only [PyData.eqv]
    by_cases c : x = w
    · simp [c]
    · have c' : ¬ w = x := fun z => c z.symm
      simp [c, c']
  unfold inD numOf
  simp only [List.any_cons, List.any_nil, Bool.or_false, e1]
  by_cases c1 : w = "1"
  · rw [if_pos c1, decide_eq_true c1]
    rfl
  rw [if_neg c1, decide_eq_false c1]
  by_cases c2 : w = "2"
  · rw [if_pos c2, decide_eq_true c2]
    rfl
  rw [if_neg c2, decide_eq_false c2]
  by_cases c3 : w = "3"
  · rw [if_pos c3, decide_eq_true c3]
    rfl
  rw [if_neg c3, decide_eq_false c3]
  by_cases c4 : w = "4"
  · rw [if_pos c4, decide_eq_true c4]
    rfl
  rw [if_neg c4, decide_eq_false c4]
  by_cases c5 : w = "5"
  · rw [if_pos c5, decide_eq_true c5]
    rfl
  rw [if_neg c5, decide_eq_false c5]
  by_cases c6 : w = "6"
  · rw [if_pos c6, decide_eq_true c6]
    rfl
  rw [if_neg c6, decide_eq_false c6]
  rfl
theorem int_six {w : Str} {L : Nat} (h : numOf w = some L) : (cOr cInt1 cIntS) [.sh (.str w)] = some (.sh (.int L)) := by
  have key : ∀ (s : Str) (k : Nat), s.length ≤ 640 → PySem.intText? s = some (k : Int) → (cOr cInt1 cIntS) [.sh (.str s)] = some (.sh (.int k)) := fun s k h1 h2 => by
    show (if s.length ≤ 640 then (PySem.intText? s).map fun n => Val.sh (.int n) else none) = _
    rw [if_pos h1, h2]
    rfl
  unfold numOf at h
  split at h
  · rename_i c
    cases h
    rw [c]
    exact key _ 1 (by decide +kernel) (by decide +kernel)
  split at h
  · rename_i c
    cases h
    rw [c]
    exact key _ 2 (by decide +kernel) (by decide +kernel)
  split at h
  · rename_i c
    cases h
    rw [c]
    exact key _ 3 (by decide +kernel) (by decide +kernel)
  split at h
  · rename_i c
    cases h
    rw [c]
    exact key _ 4 (by decide +kernel) (by decide +kernel)
  split at h
  · rename_i c
    cases h
    rw [c]
    exact key _ 5 (by decide +kernel) (by decide +kernel)
  split at h
  · rename_i c
    cases h
    rw [c]
    exact key _ 6 (by decide +kernel) (by decide +kernel)
  cases h
theorem in_m2 (xs : List Int) : oIn false (.sh (.int (-2))) (.ow (xs.map .int)) = some (.sh (.bool (decide (-2 ∈ xs)))) := by
  have f : (xs.map PyData.int).all flatD = true := by
    rw [List.all_map]
    exact List.all_eq_true.mpr fun _ _ => rfl
  show (if (true && (xs.map PyData.int).all flatD) = true then some (Val.sh (.bool (inD (.int (-2)) (xs.map .int)))) else none) = _
  rw [f]
  show some (Val.sh (.bool (inD (.int (-2)) (xs.map .int)))) = _
  have e : inD (.int (-2)) (xs.map .int) = decide (-2 ∈ xs) := by
    unfold inD
    rw [List.any_map]
    by_cases c : -2 ∈ xs
    · rw [decide_eq_true c, List.any_eq_true]
      exact ⟨-2, c, by simp [PyData.eqv]⟩
    · rw [decide_eq_false c, List.any_eq_false]
      intro x hx
      have : ¬ x = -2 := fun z => c (z ▸ hx)
      simp [PyData.eqv, this]
  rw [e]
/-- one line, looked at by the law -/
theorem due_step {t h0 l : Str} {ls0 : List Str} {L k : Nat} {A : List Bool} {T : List (List Int)} {a6 a7 a8 : Option Val} (hl : l.length ≤ 2000) (hn : ls0.length ≤ 2000) (hk : (h0 :: ls0)[k]? = some l) (hA : A.length < 90000) (hT : T.length < 90000) :
    (lineOf ls0.length L l = none ∧ lp__law_due_0 [some (.sh (.str t)), some (.ow ((h0 :: ls0).map .str)), I L, some (.ow (A.map .bool)), some (.ow (T.map tI)), I k, a6, a7, a8] = .rt (.sh (.tuple [.str "fault", .int (k : Nat)]))) ∨
    (∃ p b6 b7 b8, lineOf ls0.length L l = some p ∧ lp__law_due_0 [some (.sh (.str t)), some (.ow ((h0 :: ls0).map .str)), I L, some (.ow (A.map .bool)), some (.ow (T.map tI)), I k, a6, a7, a8] = .nx [some (.sh (.str t)), some (.ow ((h0 :: ls0).map .str)), I L, some (.ow ((A ++ [p.1]).map .bool)), some (.ow ((T ++ [p.2]).map tI)), I k, b6, b7, b8]) := by
  obtain ⟨w1, w2, w3⟩ := WD_facts l
  cases hw : WD l with
  | nil => exact absurd hw w1
  | cons w r =>
  rw [hw, List.length_cons] at w2
  have el : lineOf ls0.length L l = if (w = "+" ∨ w = "-") ∧ r.length = L ∧ ∀ w ∈ r, ent ls0.length w ≠ -2 then some (decide (w = "+"), r.map (ent ls0.length)) else none := by
    unfold lineOf
    rw [hw]
  have at_ : atI ((h0 :: ls0).map PyData.str) (k : Int) = some (.str l) := atI_nat (by rw [List.getElem?_map, hk]; rfl)
  unfold lp__law_due_0
  obtain ⟨ρ6, h6⟩ : ∃ ρ : Rho, ρ = [some (.sh (.str t)), some (.ow ((h0 :: ls0).map .str)), I L, some (.ow (A.map .bool)), some (.ow (T.map tI)), I k, some (.ow ((w :: r).map .str)), a7, a8] := ⟨_, rfl⟩
  have s6 : mSet 6 (mM1 oSplit (mOp oIx (mVar 1) (mVar 5)) (mC (.str " "))) [some (.sh (.str t)), some (.ow ((h0 :: ls0).map .str)), I L, some (.ow (A.map .bool)), some (.ow (T.map tI)), I k, a6, a7, a8] = .nx ρ6 := by
    have e := e_splS (l := l) (by omega)
    rw [hw] at e
    rw [h6]
    refine set_o (m1_at (z := l) (op_at (x := .bw ((h0 :: ls0).map .str)) (y := .sh (.int k)) rfl rfl ?_) rfl e)
    show (atI ((h0 :: ls0).map PyData.str) (k : Int)).map Val.sh = _
    rw [at_]
    rfl
  rw [seqx s6]
  obtain ⟨ρ7, h7⟩ : ∃ ρ : Rho, ρ = [some (.sh (.str t)), some (.ow ((h0 :: ls0).map .str)), I L, some (.ow (A.map .bool)), some (.ow (T.map tI)), I k, some (.ow ((w :: r).map .str)), some (.ow ((r.map (ent ls0.length)).map .int)), a8] := ⟨_, rfl⟩
  have s7 : mSet 7 (mComp (mIterS (mSlU (mVar 6) (mPart (mC (.int 1))) mNoPart)) (bName 8) mYes (mDef M__law_entry (mCons (mVar 8) (mCons (mOp oSub (mCall cLen (mCons (mVar 1) mNil)) (mC (.int 1))) mNil))) [8]) ρ6 = .nx ρ7 := by
    have cuts : mIterS (mSlU (mVar 6) (mPart (mC (.int 1))) mNoPart) ρ6 = .ok (r.map .str) := by
      rw [h6]
      walk_at "ev"
      rw [show Mi.cutD (PyData.str w :: List.map PyData.str r) (some 1) none = r.map .str from cut1 _ _]
    have c : mComp (mIterS (mSlU (mVar 6) (mPart (mC (.int 1))) mNoPart)) (bName 8) mYes (mDef M__law_entry (mCons (mVar 8) (mCons (mOp oSub (mCall cLen (mCons (mVar 1) mNil)) (mC (.int 1))) mNil))) [8] ρ6 = .ok (.ow ((r.map (ent ls0.length)).map .int)) := by
      rw [List.map_map]
      refine comp_at cuts (comp_all (fun w => PyData.str w) (PyData.int ∘ ent ls0.length) (fun v hv => ⟨_, rfl, .sh (.int (ent ls0.length v)), ?_, rfl⟩) (by omega))
      have ee := e_entry v hn
      have e1 : (((ls0.length + 1 : Nat) : Int) - 1) = (ls0.length : Int) := by omega
      rw [h6]
      walk_at "ev"
      simp only [e1, ee]
    rw [h7, h6]
    rw [h6] at c
    exact set_o c
  rw [seqx s7]
  have x1 : mOp (oOr (oIn true) (oInS true)) (mOp oIx (mVar 6) (mC (.int 0))) (mLst (mCons (mC (.str "+")) (mCons (mC (.str "-")) mNil))) ρ7 = .ok (.sh (.bool (decide (¬ (w = "+" ∨ w = "-"))))) := by
    refine op_at (x := .sh (.str w)) (y := .ow [.str "+", .str "-"]) ?_ rfl ?_
    · rw [h7]
      walk_at "ev"
    · unfold oOr
      rw [in_pm]
  have x2 : mOp (oOr oNeS oNe) (mCall cLen (mCons (mVar 7) mNil)) (mVar 2) ρ7 = .ok (.sh (.bool (decide (r.length ≠ L)))) := by
    have c2 : (((r.length : Nat) : Int) = (L : Int)) = (r.length = L) := propext (by omega)
    rw [h7]
    walk_at "ev"
    simp only [c2]
    by_cases c : r.length = L <;> simp [c]
  have x3 : mOp (oOr (oIn false) (oInS false)) (mNeg (mC (.int 2))) (mVar 7) ρ7 = .ok (.sh (.bool (decide (-2 ∈ r.map (ent ls0.length))))) := by
    refine op_at (x := .sh (.int (-2))) (y := .bw ((r.map (ent ls0.length)).map .int)) rfl (by rw [h7]; rfl) ?_
    unfold oOr
    have z := in_m2 (r.map (ent ls0.length))
    have z : oIn false (.sh (.int (-2))) (.bw ((r.map (ent ls0.length)).map .int)) = some (.sh (.bool (decide (-2 ∈ r.map (ent ls0.length))))) := z
    rw [z]
  have fall : mOr (mTest (mOp (oOr (oIn true) (oInS true)) (mOp oIx (mVar 6) (mC (.int 0))) (mLst (mCons (mC (.str "+")) (mCons (mC (.str "-")) mNil))))) (mOr (mTest (mOp (oOr oNeS oNe) (mCall cLen (mCons (mVar 7) mNil)) (mVar 2))) (mTest (mOp (oOr (oIn false) (oInS false)) (mNeg (mC (.int 2))) (mVar 7)))) ρ7 = .ok (lineOf ls0.length L l).isNone := by
    rw [el]
    by_cases c1 : w = "+" ∨ w = "-"
    · rw [decide_eq_false (fun z => z c1)] at x1
      rw [or_f (test_b x1)]
      by_cases c2 : r.length = L
      · rw [decide_eq_false (fun z => z c2)] at x2
        rw [or_f (test_b x2), test_b x3]
        by_cases c3 : ∀ w ∈ r, ent ls0.length w ≠ -2
        · rw [if_pos ⟨c1, c2, c3⟩, decide_eq_false]
          · rfl
          · intro z
            obtain ⟨v, hv, e⟩ := List.mem_map.mp z
            exact c3 v hv e
        · rw [if_neg fun z => c3 z.2.2, decide_eq_true]
          · rfl
          · have : ∃ v ∈ r, ent ls0.length v = -2 := by
              apply Classical.byContradiction
              intro z
              exact c3 fun v hv e => z ⟨v, hv, e⟩
            obtain ⟨v, hv, e⟩ := this
            exact List.mem_map.mpr ⟨v, hv, e⟩
      · rw [decide_eq_true c2] at x2
        rw [or_t (test_b x2), if_neg fun z => c2 z.2.1]
        rfl
    · rw [decide_eq_true c1] at x1
      rw [or_t (test_b x1), if_neg fun z => c1 z.1]
      rfl
  cases hp : lineOf ls0.length L l with
  | none =>
    refine .inl ⟨rfl, ?_⟩
    rw [hp] at fall
    refine seqr ((if_t fall).trans ?_)
    rw [h7]
    exact ret_at (tup2 rfl rfl)
  | some p =>
    rw [hp] at fall el
    have ep : p = (decide (w = "+"), r.map (ent ls0.length)) := by
      split at el
      · cases el
        rfl
      · cases el
    refine .inr ⟨p, some (.ow ((w :: r).map .str)), some (.ow ((r.map (ent ls0.length)).map .int)), a8, rfl, ?_⟩
    have y : mIf (mOr (mTest (mOp (oOr (oIn true) (oInS true)) (mOp oIx (mVar 6) (mC (.int 0))) (mLst (mCons (mC (.str "+")) (mCons (mC (.str "-")) mNil))))) (mOr (mTest (mOp (oOr oNeS oNe) (mCall cLen (mCons (mVar 7) mNil)) (mVar 2))) (mTest (mOp (oOr (oIn false) (oInS false)) (mNeg (mC (.int 2))) (mVar 7))))) (mRet (mTup (mCons (mC (.str "fault")) (mCons (mVar 5) mNil)))) mSkip ρ7 = .nx ρ7 := if_f fall
    rw [seqx y, ep, h7]
    have hA' : A.length < 100000 := by omega
    have hT' : T.length < 100000 := by omega
    walk_at "ev"
    simp only [hA', hT']
    walk_at "ev"
    simp only [hA', hT']
    walk_at "ev"
    rw [List.map_append, List.map_append]
    rfl
theorem ev_due {t h0 : Str} {ls0 : List Str} {L : Nat} (hn : ls0.length ≤ 2000) (hl0 : ∀ l ∈ ls0, l.length ≤ 2000) : ∀ (ls : List Str) (k : Nat) (A : List Bool) (T : List (List Int)) (a5 a6 a7 a8 : Option Val), (h0 :: ls0).drop k = ls → (∀ l ∈ ls, l.length ≤ 2000) → A.length + ls.length ≤ 3000 → T.length + ls.length ≤ 3000 →
    (∃ j, goL ls0.length L k ls = .inl j ∧ loop (bName 5) lp__law_due_0 ((upto (k : Int) ls.length).map .int) [some (.sh (.str t)), some (.ow ((h0 :: ls0).map .str)), I L, some (.ow (A.map .bool)), some (.ow (T.map tI)), a5, a6, a7, a8] = .rt (.sh (.tuple [.str "fault", .int (j : Nat)]))) ∨
    (∃ ps b5 b6 b7 b8, goL ls0.length L k ls = .inr ps ∧ loop (bName 5) lp__law_due_0 ((upto (k : Int) ls.length).map .int) [some (.sh (.str t)), some (.ow ((h0 :: ls0).map .str)), I L, some (.ow (A.map .bool)), some (.ow (T.map tI)), a5, a6, a7, a8] = .nx [some (.sh (.str t)), some (.ow ((h0 :: ls0).map .str)), I L, some (.ow ((A ++ ps.map (·.1)).map .bool)), some (.ow ((T ++ ps.map (·.2)).map tI)), b5, b6, b7, b8])
  | [], k, A, T, a5, a6, a7, a8, _, _, _, _ => .inr ⟨[], a5, a6, a7, a8, rfl, by rw [show ((([] : List (Bool × List Int)).map (·.2))) = [] from rfl, show ((([] : List (Bool × List Int)).map (·.1))) = [] from rfl, List.append_nil, List.append_nil]; rfl⟩
  | l :: ls, k, A, T, a5, a6, a7, a8, hd, hl, hA, hT => by
    rw [List.length_cons] at hA hT
    have hk : (h0 :: ls0)[k]? = some l := by
      have z := congrArg (fun q : List Str => q[0]?) hd
      simp only [List.getElem?_drop, Nat.add_zero, List.getElem?_cons_zero] at z
      exact z
    have hd' : (h0 :: ls0).drop (k + 1) = ls := by
      rw [← List.drop_drop, hd]
      rfl
    rw [List.length_cons, upto_succ, List.map_cons]
    rcases due_step (t := t) (h0 := h0) (ls0 := ls0) (L := L) (k := k) (A := A) (T := T) (a6 := a6) (a7 := a7) (a8 := a8) (hl l List.mem_cons_self) hn hk (by omega) (by omega) with ⟨e1, e2⟩ | ⟨p, b6, b7, b8, e1, e2⟩
    · exact .inl ⟨k, goL_no e1, loop_ret rfl e2⟩
    · have q := goL_is (k := k) (ls := ls) e1
      rw [loop_cons (ρ1 := [some (.sh (.str t)), some (.ow ((h0 :: ls0).map .str)), I L, some (.ow (A.map .bool)), some (.ow (T.map tI)), I k, a6, a7, a8]) rfl e2, show ((k : Int) + 1) = ((k + 1 : Nat) : Int) from rfl]
      rcases ev_due hn hl0 ls (k + 1) (A ++ [p.1]) (T ++ [p.2]) (I k) b6 b7 b8 hd' (fun x hx => hl x (List.mem_cons_of_mem _ hx)) (by rw [List.length_append, List.length_singleton]; omega) (by rw [List.length_append, List.length_singleton]; omega) with ⟨j, g1, g2⟩ | ⟨ps, c5, c6, c7, c8, g1, g2⟩
      · rw [g1] at q
        exact .inl ⟨j, q, g2⟩
      · rw [g1] at q
        refine .inr ⟨p :: ps, c5, c6, c7, c8, q, ?_⟩
        rw [g2, List.append_assoc, List.append_assoc]
        rfl
theorem e_due {t : Str} (hl : t.length ≤ 1500) : M__law_due [.sh (.str t)] = .ok (.sh (rdD t)) := by
  obtain ⟨n1, n2, n3⟩ := LN_facts t
  cases e : LN t with
  | nil => exact absurd e n1
  | cons h ls =>
  rw [e, List.length_cons] at n2
  rw [e] at n3
  have hls : ∀ l ∈ ls, l.length ≤ 2000 := fun l hl' => Nat.le_trans (n3 l (List.mem_cons_of_mem _ hl')) (by omega)
  rw [M__law_due_eq]
  unfold ms__law_due
  have s1 : mSet 1 (mM1 oSplit (mVar 0) (mC (.str "\n"))) [some (.sh (.str t)), none, none, none, none, none, none, none, none] = .nx [some (.sh (.str t)), some (.ow ((h :: ls).map .str)), none, none, none, none, none, none, none] := by
    have k := e_splN (l := t) (by omega)
    rw [e] at k
    exact set_o (m1_at rfl rfl k)
  rw [seqx s1]
  have hd0 : mOp oIx (mVar 1) (mC (.int 0)) [some (.sh (.str t)), some (.ow ((h :: ls).map .str)), none, none, none, none, none, none, none] = .ok (.sh (.str h)) := by
    walk_at "ev"
  have x1 : mOp (oOr (oIn true) (oInS true)) (mOp oIx (mVar 1) (mC (.int 0))) (mLst (mCons (mC (.str "1")) (mCons (mC (.str "2")) (mCons (mC (.str "3")) (mCons (mC (.str "4")) (mCons (mC (.str "5")) (mCons (mC (.str "6")) mNil))))))) [some (.sh (.str t)), some (.ow ((h :: ls).map .str)), none, none, none, none, none, none, none] = .ok (.sh (.bool (numOf h).isNone)) := by
    refine op_at (x := .sh (.str h)) (y := .ow [.str "1", .str "2", .str "3", .str "4", .str "5", .str "6"]) hd0 rfl ?_
    unfold oOr
    rw [in_six]
  cases en : numOf h with
  | none =>
    rw [en] at x1
    rw [rdD_no e en, seqr (r := .sh (.tuple [.str "fault", .int ((0 : Nat) : Int)])) ((if_t (test_b x1)).trans (ret_at (tup2 rfl rfl)))]
    rfl
  | some L =>
    rw [en] at x1
    have y : mIf (mTest (mOp (oOr (oIn true) (oInS true)) (mOp oIx (mVar 1) (mC (.int 0))) (mLst (mCons (mC (.str "1")) (mCons (mC (.str "2")) (mCons (mC (.str "3")) (mCons (mC (.str "4")) (mCons (mC (.str "5")) (mCons (mC (.str "6")) mNil))))))))) (mRet (mTup (mCons (mC (.str "fault")) (mCons (mC (.int 0)) mNil)))) mSkip [some (.sh (.str t)), some (.ow ((h :: ls).map .str)), none, none, none, none, none, none, none] = .nx [some (.sh (.str t)), some (.ow ((h :: ls).map .str)), none, none, none, none, none, none, none] := if_f (test_b x1)
    have s2 : mSet 2 (mCall (cOr cInt1 cIntS) (mCons (mOp oIx (mVar 1) (mC (.int 0))) mNil)) [some (.sh (.str t)), some (.ow ((h :: ls).map .str)), none, none, none, none, none, none, none] = .nx [some (.sh (.str t)), some (.ow ((h :: ls).map .str)), I L, none, none, none, none, none, none] := set_s (call1 hd0 (int_six en))
    have s3 : mSet 3 (mLst mNil) [some (.sh (.str t)), some (.ow ((h :: ls).map .str)), I L, none, none, none, none, none, none] = .nx [some (.sh (.str t)), some (.ow ((h :: ls).map .str)), I L, some (.ow (([] : List Bool).map .bool)), none, none, none, none, none] := rfl
    have s4 : mSet 4 (mLst mNil) [some (.sh (.str t)), some (.ow ((h :: ls).map .str)), I L, some (.ow (([] : List Bool).map .bool)), none, none, none, none, none] = .nx [some (.sh (.str t)), some (.ow ((h :: ls).map .str)), I L, some (.ow (([] : List Bool).map .bool)), some (.ow (([] : List (List Int)).map tI)), none, none, none, none] := rfl
    rw [seqx y, seqx s2, seqx s3, seqx s4]
    have it : mIter2 (mCons (mC (.int 1)) (mCons (mCall cLen (mCons (mVar 1) mNil)) mNil)) [some (.sh (.str t)), some (.ow ((h :: ls).map .str)), I L, some (.ow (([] : List Bool).map .bool)), some (.ow (([] : List (List Int)).map tI)), none, none, none, none] = .ok ((upto ((1 : Nat) : Int) ls.length).map .int) := by
      have hz : ls.length + 1 ≤ 1000000 := by omega
      have e1 : (((ls.length + 1 : Nat) : Int) - 1).toNat = ls.length := by omega
      walk_at "ev"
      have hz' : ls.length ≤ 999999 := by omega
      rw [if_pos hz', e1]
      rfl
    have lp : ∀ o, loop (bName 5) lp__law_due_0 ((upto ((1 : Nat) : Int) ls.length).map .int) [some (.sh (.str t)), some (.ow ((h :: ls).map .str)), I L, some (.ow (([] : List Bool).map .bool)), some (.ow (([] : List (List Int)).map tI)), none, none, none, none] = o → mFor (mIter2 (mCons (mC (.int 1)) (mCons (mCall cLen (mCons (mVar 1) mNil)) mNil))) (bName 5) lp__law_due_0 [some (.sh (.str t)), some (.ow ((h :: ls).map .str)), I L, some (.ow (([] : List Bool).map .bool)), some (.ow (([] : List (List Int)).map tI)), none, none, none, none] = o := fun o ho => by
      unfold mFor
      rw [it]
      exact ho
    rcases ev_due (t := t) (h0 := h) (L := L) (by omega) hls ls 1 [] [] none none none none rfl hls (by rw [List.length_nil]; omega) (by rw [List.length_nil]; omega) with ⟨j, g, lo⟩ | ⟨ps, b5, b6, b7, b8, g, lo⟩
    · rw [rdD_bad e en g, seqr (lp _ lo)]
      rfl
    · rw [rdD_ok e en g, seqx (lp _ lo), List.nil_append, List.nil_append]
      have c5 : mTup (mCons (mC (.str "machine")) (mCons (mTup (mCons (mVar 2) (mCons (mCall cTuple (mCons (mVar 3) mNil)) (mCons (mCall cTuple (mCons (mVar 4) mNil)) mNil)))) mNil)) [some (.sh (.str t)), some (.ow ((h :: ls).map .str)), I L, some (.ow ((ps.map (·.1)).map .bool)), some (.ow ((ps.map (·.2)).map tI)), b5, b6, b7, b8] = .ok (.sh (.tuple [.str "machine", mD L (ps.map (·.1)) (ps.map (·.2))])) := tup2 rfl (tup3 rfl rfl rfl)
      rw [mFrz_at, show frz 2 [some (.sh (.str t)), some (.ow ((h :: ls).map .str)), I L, some (.ow ((ps.map (·.1)).map .bool)), some (.ow ((ps.map (·.2)).map tI)), b5, b6, b7, b8] = [some (.sh (.str t)), some (.ow ((h :: ls).map .str)), I L, some (.ow ((ps.map (·.1)).map .bool)), some (.ow ((ps.map (·.2)).map tI)), b5, b6, b7, b8] from rfl, ret_at c5]
      rfl
/-! a machine's text -/
def wdS (x : Int) : Str := if x = -1 then "." else nS x
def flS (b : Bool) : Str := if b = true then "+" else "-"
def lineT (b : Bool) (r : List Int) : Str := Txt.join " " (flS b :: r.map wdS)
def mtext (L : Int) (A : List Bool) (T : List (List Int)) : Str := Txt.join "\n" (nS L :: List.zipWith lineT A T)
def okE (r : List Int) : Prop := ∀ x ∈ r, -1 ≤ x ∧ x < 100
theorem nS_len {x : Int} (h0 : 0 ≤ x) (h : x < 100) : (nS x).length ≤ 2 := by
  obtain ⟨n, rfl⟩ := Int.eq_ofNat_of_zero_le h0
  rw [TL.len_tl, nS_tl]
  exact TL.numL_len (k := 2) (by decide) (by omega)
theorem wdS_len {x : Int} (h : -1 ≤ x ∧ x < 100) : (wdS x).length ≤ 2 := by
  unfold wdS
  split
  · decide +kernel
  · exact nS_len (by omega) h.2
theorem flS_len (b : Bool) : (flS b).length = 1 := by cases b <;> decide +kernel
theorem wds_sum : ∀ {r : List Int}, okE r → ((r.map wdS).map (·.length)).sum ≤ 2 * r.length
  | [], _ => Nat.le_refl _
  | x :: r, h => by
    have h1 := wdS_len (h x List.mem_cons_self)
    have ih := wds_sum (r := r) fun y hy => h y (List.mem_cons_of_mem _ hy)
    rw [List.map_cons, List.map_cons, List.sum_cons, List.length_cons]
    omega
theorem spLen : (Str.ofString " ").length = 1 := by decide +kernel
theorem nlLen : (Str.ofString "\n").length = 1 := by decide +kernel
theorem lineT_len {b : Bool} {r : List Int} (h : okE r) : (lineT b r).length ≤ 2 + 3 * r.length := by
  have z := StrLaws.join_length_le (Str.ofString " ") (flS b :: r.map wdS)
  have s := wds_sum h
  have f := flS_len b
  rw [spLen, List.map_cons, List.sum_cons, List.length_cons, List.length_map] at z
  unfold lineT
  rw [TL.join_eq]
  omega
theorem lines_sum : ∀ {A : List Bool} {T : List (List Int)}, (∀ r ∈ T, okE r ∧ r.length ≤ 6) → ((List.zipWith lineT A T).map (·.length)).sum ≤ 20 * A.length ∧ (List.zipWith lineT A T).length ≤ A.length
  | [], T, _ => by simp
  | _ :: _, [], _ => by simp
  | a :: A, r :: T, h => by
    obtain ⟨h1, h2⟩ := h r List.mem_cons_self
    have l := lineT_len (b := a) h1
    obtain ⟨i1, i2⟩ := lines_sum (A := A) (T := T) fun r hr => h r (List.mem_cons_of_mem _ hr)
    rw [List.zipWith_cons_cons, List.map_cons, List.sum_cons, List.length_cons, List.length_cons]
    omega
theorem strsOf_map : ∀ ys : List Str, strsOf (ys.map PyData.str) = some ys
  | [] => rfl
  | y :: ys => by
    rw [List.map_cons]
    unfold strsOf
    rw [strsOf_map ys]
theorem join_ow {a : Str} {ys : List Str} (h : (ys.map (·.length)).sum + ys.length * a.length ≤ 100000) : oJoin (.sh (.str a)) (.ow (ys.map .str)) = some (.sh (.str (Txt.join a ys))) := by
  simp only [oJoin, lit, strsOf_map, h, if_true]
theorem e_line_of {b : Bool} {r : List Int} (h : okE r) (hl : r.length ≤ 100) : M__line_of [.sh (.bool b), .sh (tI r)] = .ok (.sh (.str (lineT b r))) := by
  rw [M__line_of_eq]
  unfold ms__line_of
  obtain ⟨ρ, hρ⟩ : ∃ ρ : Rho, ρ = [some (.sh (.bool b)), some (.sh (tI r)), some (.sh (.str (flS b))), none] := ⟨_, rfl⟩
  have s2 : mSet 2 (mIfE (mTru (mVar 0)) (mC (.str "+")) (mC (.str "-"))) [some (.sh (.bool b)), some (.sh (tI r)), none, none] = .nx ρ := by
    rw [hρ]
    cases b <;> rfl
  have c : mComp (mIterS (mVar 1)) (bName 3) mYes (mIfE (mTest (mOp (oOr oEqS oEq) (mVar 3) (mC (.int (-1))))) (mC (.str ".")) (mCall cStrI (mCons (mVar 3) mNil))) [3] ρ = .ok (.ow ((r.map wdS).map .str)) := by
    rw [List.map_map]
    refine comp_at (xs := r.map .int) (by rw [hρ]; rfl) (comp_all (fun x => PyData.int x) (PyData.str ∘ wdS) (fun x hx => ⟨_, rfl, .sh (.str (wdS x)), ?_, rfl⟩) (by omega))
    have hx' := h x hx
    have hz : x.natAbs < 1000000 := by omega
    rw [hρ]
    unfold wdS
    by_cases c : x = -1
    · walk_at "ev"
      simp only [c]
      walk_at "ev"
    · walk_at "ev"
      simp only [c]
      walk_at "ev"
      simp only [e_str hz]
  have j : mM1 oJoin (mC (.str " ")) (mOp oAddT (mLst (mCons (mVar 2) mNil)) (mComp (mIterS (mVar 1)) (bName 3) mYes (mIfE (mTest (mOp (oOr oEqS oEq) (mVar 3) (mC (.int (-1))))) (mC (.str ".")) (mCall cStrI (mCons (mVar 3) mNil))) [3])) ρ = .ok (.sh (.str (lineT b r))) := by
    have s := wds_sum h
    have f := flS_len b
    refine m1_at (z := " ") (r := .ow ((flS b :: r.map wdS).map .str)) rfl (op_at (x := .ow [.str (flS b)]) (by rw [hρ]; rfl) c ?_) (join_ow ?_)
    · rw [oAddT_lolo, if_pos (by rw [List.length_map, List.length_map, List.length_singleton]; omega)]
      rfl
    rw [List.map_cons, List.sum_cons, List.length_cons, List.length_map, spLen, f]
    omega
  rw [seqx s2, mFrz_at, show frz 2 ρ = ρ by rw [hρ]; rfl, ret_at j]
  rfl
theorem zip_lines : ∀ {A : List Bool} {T : List (List Int)}, zipD (A.map .bool) (T.map tI) = (A.zip T).map fun p => .tuple [.bool p.1, tI p.2]
  | [], T => by cases T <;> rfl
  | _ :: _, [] => rfl
  | a :: A, r :: T => by
    rw [List.map_cons, List.map_cons, List.zip_cons_cons, List.map_cons, ← zip_lines]
    rfl
theorem zipWith_zip {A : List Bool} {T : List (List Int)} : List.zipWith lineT A T = (A.zip T).map fun p => lineT p.1 p.2 := by
  rw [List.zip, List.map_zipWith]
theorem e_mtext {L : Int} {A : List Bool} {T : List (List Int)} (h : Good L A T) (hA : A.length ≤ 90) : M_machine_text [.sh (mD L A T)] = .ok (.sh (.str (mtext L A T))) := by
  have h1 := h.l1
  have h6 := h.l6
  have hr : ∀ r ∈ T, okE r ∧ r.length ≤ 6 := fun r hr => ⟨fun x hx => by have := h.e r hr x hx; omega, by have := h.r r hr; omega⟩
  have hz : L.natAbs < 1000000 := by omega
  rw [M_machine_text_eq]
  unfold ms_machine_text
  have s0 : mDrop (mDef M_check_machine (mCons (mVar 0) mNil)) [some (.sh (mD L A T)), none, none, none, none, none, none] = .nx [some (.sh (mD L A T)), none, none, none, none, none, none] := by
    unfold mDrop
    rw [def_at (d := mD L A T) rfl (e_check_machine h)]
    rfl
  have s1 : mAsg (bTup (bCons (bName 1) (bCons (bName 2) (bCons (bName 3) bNil)))) (mVar 0) [some (.sh (mD L A T)), none, none, none, none, none, none] = .nx [some (.sh (mD L A T)), I L, some (.sh (aD A)), some (.sh (tD T)), none, none, none] := rfl
  have c : mComp (mIterZ (mCons (mVar 2) (mCons (mVar 3) mNil))) (bTup (bCons (bName 5) (bCons (bName 6) bNil))) mYes (mDef M__line_of (mCons (mVar 5) (mCons (mVar 6) mNil))) [5, 6] [some (.sh (mD L A T)), I L, some (.sh (aD A)), some (.sh (tD T)), none, none, none] = .ok (.ow ((List.zipWith lineT A T).map .str)) := by
    rw [zipWith_zip, List.map_map]
    refine comp_at (xs := (A.zip T).map fun p => .tuple [.bool p.1, tI p.2]) ?_ (comp_all (fun p : Bool × List Int => PyData.tuple [.bool p.1, tI p.2]) (PyData.str ∘ fun p : Bool × List Int => lineT p.1 p.2) (fun p hp => ⟨_, rfl, .sh (.str (lineT p.1 p.2)), ?_, rfl⟩) ?_)
    · rw [← zip_lines]
      rfl
    · have hm := (List.of_mem_zip hp).2
      have e := e_line_of (b := p.1) (hr _ hm).1 (Nat.le_trans (hr _ hm).2 (by decide))
      walk_at "ev"
      rw [e]
    · rw [List.length_zip]
      omega
  have j : mM1 oJoin (mC (.str "\n")) (mOp oAddT (mLst (mCons (mCall cStrI (mCons (mVar 1) mNil)) mNil)) (mVar 4)) [some (.sh (mD L A T)), I L, some (.sh (aD A)), some (.sh (tD T)), some (.ow ((List.zipWith lineT A T).map .str)), none, none] = .ok (.sh (.str (mtext L A T))) := by
    obtain ⟨q1, q2⟩ := lines_sum (A := A) hr
    have q3 := nS_len (x := L) (by omega) (by omega)
    have l1 : mLst (mCons (mCall cStrI (mCons (mVar 1) mNil)) mNil) [some (.sh (mD L A T)), I L, some (.sh (aD A)), some (.sh (tD T)), some (.ow ((List.zipWith lineT A T).map .str)), none, none] = .ok (.ow [.str (nS L)]) := by
      unfold mLst
      rw [cons_at (call1 (x := .sh (.int L)) rfl (e_str hz)) nil_at]
      rfl
    refine m1_at (z := "\n") (r := .ow ((nS L :: List.zipWith lineT A T).map .str)) rfl (op_at (x := .ow [.str (nS L)]) (y := .bw ((List.zipWith lineT A T).map .str)) l1 rfl ?_) (join_ow ?_)
    · rw [oAddT_lobw, if_pos (by rw [List.length_map, List.length_singleton]; omega)]
      rfl
    rw [List.map_cons, List.sum_cons, List.length_cons, nlLen]
    omega
  rw [seqx s0, seqx s1, seqx (set_o c)]
  rw [show ([some (.sh (mD L A T)), I L, some (.sh (aD A)), some (.sh (tD T)), none, none, none] : Rho).set 4 (some (.ow ((List.zipWith lineT A T).map .str))) = [some (.sh (mD L A T)), I L, some (.sh (aD A)), some (.sh (tD T)), some (.ow ((List.zipWith lineT A T).map .str)), none, none] from rfl, ret_at j]
  rfl
theorem join_bw {a : Str} {ys : List Str} (h : (ys.map (·.length)).sum + ys.length * a.length ≤ 100000) : oJoin (.sh (.str a)) (.bw (ys.map .str)) = some (.sh (.str (Txt.join a ys))) := by
  simp only [oJoin, lit, strsOf_map, h, if_true]
def addW (t : Str) (x : Int) : Str := t ++ " " ++ wdS x
theorem dotS (t : Str) : t ++ (" ." : Str) = t ++ " " ++ "." := by
  apply TL.ext_tl
  rw [TL.tl_append, TL.tl_append, TL.tl_append, tl_sp, show TL.tl (Str.ofString " .") = [32, 46] by decide +kernel, show TL.tl (Str.ofString ".") = [46] by decide +kernel, List.append_assoc]
  rfl
theorem app_len (a b : Str) : (a ++ b).length = a.length + b.length := Array.size_append
theorem addW_len {t : Str} {x : Int} (h : -1 ≤ x ∧ x < 100) : (addW t x).length ≤ t.length + 3 := by
  have := wdS_len h
  unfold addW
  rw [app_len, app_len, spLen]
  omega
theorem ev_lt0 (m ls s : Option Val) : ∀ (r : List Int) (t : Str) (a4 : Option Val), okE r → t.length + 3 * r.length ≤ 1000 → ∃ b4, loop (bName 4) lp__law_text_0 (r.map .int) [m, ls, s, some (.sh (.str t)), a4] = .nx [m, ls, s, some (.sh (.str (r.foldl addW t))), b4]
  | [], t, a4, _, _ => ⟨a4, rfl⟩
  | x :: r, t, a4, h, hl => by
    rw [List.length_cons] at hl
    have hx := h x List.mem_cons_self
    have al := addW_len (t := t) hx
    have hz : x.natAbs < 1000000 := by omega
    have step : lp__law_text_0 [m, ls, s, some (.sh (.str t)), I x] = .nx [m, ls, s, some (.sh (.str (addW t x))), I x] := by
      unfold lp__law_text_0
      by_cases c : x = -1
      · have c0 : x < 0 := by omega
        have z1 : t.length + (Str.ofString " .").length ≤ 100000 := by
          rw [show (Str.ofString " .").length = 2 by decide +kernel]
          omega
        have ea : addW t x = t ++ " ." := by
          unfold addW wdS
          rw [if_pos c, dotS]
        rw [ea]
        walk_at "ev"
        simp only [c0]
        walk_at "ev"
        simp only [z1]
        walk_at "ev"
      · have c0 : ¬ x < 0 := by omega
        have z1 : t.length + (Str.ofString " ").length ≤ 100000 := by
          rw [spLen]
          omega
        have z2 : (t ++ (" " : Str)).length + (nS x).length ≤ 100000 := by
          have := nS_len (x := x) (by omega) hx.2
          rw [app_len, spLen]
          omega
        have ea : addW t x = t ++ " " ++ nS x := by
          unfold addW wdS
          rw [if_neg c]
        rw [ea]
        walk_at "ev"
        simp only [c0]
        walk_at "ev"
        simp only [z1, e_str hz]
        walk_at "ev"
        simp only [z2]
        walk_at "ev"
    obtain ⟨b4, e⟩ := ev_lt0 m ls s r (addW t x) (I x) (fun y hy => h y (List.mem_cons_of_mem _ hy)) (by omega)
    refine ⟨b4, ?_⟩
    rw [List.map_cons, loop_cons (ρ1 := [m, ls, s, some (.sh (.str t)), I x]) rfl step, e]
    rfl
theorem fold_tl : ∀ (r : List Int) (t : Str), TL.tl (r.foldl addW t) = TL.tl t ++ ((r.map wdS).map TL.tl).flatMap (fun w => 32 :: w)
  | [], t => by simp
  | x :: r, t => by
    rw [List.foldl_cons, fold_tl r (addW t x)]
    unfold addW
    rw [TL.tl_append, TL.tl_append, tl_sp, List.map_cons, List.map_cons, List.flatMap_cons, List.append_assoc, List.append_assoc]
    simp
theorem joinL_flat (p : List Nat) : ∀ ps : List (List Nat), TL.joinL [32] (p :: ps) = p ++ ps.flatMap (fun w => 32 :: w)
  | [] => by simp [TL.joinL]
  | q :: ps => by
    show p ++ ([32] ++ TL.joinL [32] (q :: ps)) = _
    rw [joinL_flat q ps, List.flatMap_cons]
    simp
theorem fold_line (b : Bool) (r : List Int) : r.foldl addW (flS b) = lineT b r := by
  apply TL.ext_tl
  unfold lineT
  rw [fold_tl, TL.join_eq, TL.tl_join, tl_sp, List.map_cons, joinL_flat]
theorem ev_lt1 {L : Int} {A : List Bool} {T : List (List Int)} (hr : ∀ r ∈ T, okE r ∧ r.length ≤ 6) : ∀ (As : List Bool) (Ts : List (List Int)) (k : Nat) (acc : List Str) (a2 a4 : Option Val) (s3 : Option D), A.drop k = As → T.drop k = Ts → As.length = Ts.length → acc.length + As.length ≤ 1000 →
    ∃ b2 b4 c3, loop (bName 2) lp__law_text_1 ((upto (k : Int) As.length).map .int) [some (.sh (mD L A T)), some (.ow (acc.map .str)), a2, s3.map Val.sh, a4] = .nx [some (.sh (mD L A T)), some (.ow ((acc ++ List.zipWith lineT As Ts).map .str)), b2, (c3 : Option D).map Val.sh, b4]
  | [], Ts, k, acc, a2, a4, s3, _, _, _, _ => ⟨a2, a4, s3, by simp [upto, loop]⟩
  | a :: As, [], k, acc, a2, a4, s3, _, _, h, _ => by simp at h
  | a :: As, r :: Ts, k, acc, a2, a4, s3, hA, hT, hl, hn => by
    rw [List.length_cons] at hn
    have kA : A[k]? = some a := by
      have z := congrArg (fun q : List Bool => q[0]?) hA
      simp only [List.getElem?_drop, Nat.add_zero, List.getElem?_cons_zero] at z
      exact z
    have kT : T[k]? = some r := by
      have z := congrArg (fun q : List (List Int) => q[0]?) hT
      simp only [List.getElem?_drop, Nat.add_zero, List.getElem?_cons_zero] at z
      exact z
    have hA' : A.drop (k + 1) = As := by
      rw [← List.drop_drop, hA]
      rfl
    have hT' : T.drop (k + 1) = Ts := by
      rw [← List.drop_drop, hT]
      rfl
    have at1 : atI (A.map PyData.bool) (k : Int) = some (.bool a) := by
      rw [atI_map]
      have : atI A (k : Int) = some a := by
        obtain ⟨hk, _⟩ := List.getElem?_eq_some_iff.mp kA
        unfold atI ixN
        rw [if_pos (by omega), if_pos (by omega)]
        exact kA
      rw [this]
      rfl
    have at2 : atI (T.map tI) (k : Int) = some (tI r) := by
      rw [atI_map]
      have : atI T (k : Int) = some r := by
        obtain ⟨hk, _⟩ := List.getElem?_eq_some_iff.mp kT
        unfold atI ixN
        rw [if_pos (by omega), if_pos (by omega)]
        exact kT
      rw [this]
      rfl
    have hm : r ∈ T := List.mem_of_getElem? kT
    obtain ⟨h1, h2⟩ := hr r hm
    have f1 := flS_len a
    obtain ⟨b4, e4⟩ := ev_lt0 (some (.sh (mD L A T))) (some (.ow (acc.map .str))) (I k) r (flS a) a4 h1 (by omega)
    rw [fold_line] at e4
    have step : lp__law_text_1 [some (.sh (mD L A T)), some (.ow (acc.map .str)), I k, s3.map Val.sh, a4] = .nx [some (.sh (mD L A T)), some (.ow ((acc ++ [lineT a r]).map .str)), I k, some (.sh (.str (lineT a r))), b4] := by
      unfold lp__law_text_1
      have t1 : mSet 3 (mC (.str "-")) [some (.sh (mD L A T)), some (.ow (acc.map .str)), I k, s3.map Val.sh, a4] = .nx [some (.sh (mD L A T)), some (.ow (acc.map .str)), I k, some (.sh (.str "-")), a4] := rfl
      have c : mTru (mOp oIx (mOp oIx (mVar 0) (mC (.int 1))) (mVar 2)) [some (.sh (mD L A T)), some (.ow (acc.map .str)), I k, some (.sh (.str "-")), a4] = .ok a := tru_b (op_at (x := .sh (aD A)) (y := .sh (.int k)) rfl rfl (by
        show (atI (A.map PyData.bool) (k : Int)).map Val.sh = _
        rw [at1]
        rfl))
      have t2 : mIf (mTru (mOp oIx (mOp oIx (mVar 0) (mC (.int 1))) (mVar 2))) (mSet 3 (mC (.str "+"))) mSkip [some (.sh (mD L A T)), some (.ow (acc.map .str)), I k, some (.sh (.str "-")), a4] = .nx [some (.sh (mD L A T)), some (.ow (acc.map .str)), I k, some (.sh (.str (flS a))), a4] := by
        cases a with
        | true => exact if_t c
        | false => exact if_f c
      have it : mIterS (mOp oIx (mOp oIx (mVar 0) (mC (.int 2))) (mVar 2)) [some (.sh (mD L A T)), some (.ow (acc.map .str)), I k, some (.sh (.str (flS a))), a4] = .ok (r.map .int) := by
        have z := op_at (mo := oIx) (a := mOp oIx (mVar 0) (mC (.int 2))) (b := mVar 2) (ρ := [some (.sh (mD L A T)), some (.ow (acc.map .str)), I k, some (.sh (.str (flS a))), a4]) (x := .sh (tD T)) (y := .sh (.int k)) (v := .sh (tI r)) rfl rfl (by
          show (atI (T.map tI) (k : Int)).map Val.sh = _
          rw [at2]
          rfl)
        unfold mIterS
        rw [z]
        rfl
      have t3 : mFor (mIterS (mOp oIx (mOp oIx (mVar 0) (mC (.int 2))) (mVar 2))) (bName 4) lp__law_text_0 [some (.sh (mD L A T)), some (.ow (acc.map .str)), I k, some (.sh (.str (flS a))), a4] = .nx [some (.sh (mD L A T)), some (.ow (acc.map .str)), I k, some (.sh (.str (lineT a r))), b4] := by
        unfold mFor
        rw [it]
        exact e4
      rw [seqx t1, seqx t2, seqx t3, mFrz_at, show frz 3 [some (.sh (mD L A T)), some (.ow (acc.map .str)), I k, some (.sh (.str (lineT a r))), b4] = [some (.sh (mD L A T)), some (.ow (acc.map .str)), I k, some (.sh (.str (lineT a r))), b4] from rfl]
      have ha : acc.length < 100000 := by omega
      walk_at "ev"
      simp only [ha]
      walk_at "ev"
      rw [List.map_append]
      rfl
    obtain ⟨b2, d4, c3, e⟩ := ev_lt1 (L := L) hr As Ts (k + 1) (acc ++ [lineT a r]) (I k) b4 (some (.str (lineT a r))) hA' hT' (by simpa using hl) (by rw [List.length_append, List.length_singleton]; omega)
    refine ⟨b2, d4, c3, ?_⟩
    rw [List.length_cons, upto_succ, List.map_cons, loop_cons (ρ1 := [some (.sh (mD L A T)), some (.ow (acc.map .str)), I k, s3.map Val.sh, a4]) rfl step, show ((k : Int) + 1) = ((k + 1 : Nat) : Int) from rfl]
    have e : loop (bName 2) lp__law_text_1 ((upto ((k + 1 : Nat) : Int) As.length).map .int) [some (.sh (mD L A T)), some (.ow ((acc ++ [lineT a r]).map .str)), I k, some (.sh (.str (lineT a r))), b4] = _ := e
    rw [e, List.zipWith_cons_cons, List.append_assoc]
    rfl
theorem e_ltext {L : Int} {A : List Bool} {T : List (List Int)} (h : Good L A T) (hA : A.length ≤ 90) : M__law_text [.sh (mD L A T)] = .ok (.sh (.str (mtext L A T))) := by
  have h1 := h.l1
  have h6 := h.l6
  have hr : ∀ r ∈ T, okE r ∧ r.length ≤ 6 := fun r hr => ⟨fun x hx => by have := h.e r hr x hx; omega, by have := h.r r hr; omega⟩
  have hz : L.natAbs < 1000000 := by omega
  rw [M__law_text_eq]
  unfold ms__law_text
  have s1 : mSet 1 (mLst (mCons (mCall cStrI (mCons (mOp oIx (mVar 0) (mC (.int 0))) mNil)) mNil)) [some (.sh (mD L A T)), none, none, none, none] = .nx [some (.sh (mD L A T)), some (.ow ([nS L].map .str)), none, none, none] := by
    refine set_o ?_
    unfold mLst
    rw [cons_at (call1 (x := .sh (.int L)) rfl (e_str hz)) nil_at]
    rfl
  obtain ⟨b2, b4, c3, e⟩ := ev_lt1 (L := L) hr A T 0 [nS L] none none none rfl rfl h.t.symm (by rw [List.length_singleton]; omega)
  have e : loop (bName 2) lp__law_text_1 ((upto 0 A.length).map .int) [some (.sh (mD L A T)), some (.ow ([nS L].map .str)), none, none, none] = .nx [some (.sh (mD L A T)), some (.ow ((nS L :: List.zipWith lineT A T).map .str)), b2, c3.map Val.sh, b4] := e
  have it : mIter1 (mCons (mCall cLen (mCons (mOp oIx (mVar 0) (mC (.int 1))) mNil)) mNil) [some (.sh (mD L A T)), some (.ow ([nS L].map .str)), none, none, none] = .ok ((upto 0 A.length).map .int) := by
    have g : A.length ≤ 1000000 := by omega
    walk_at "ev"
    simp only [g]
    walk_at "ev"
  have s2 : mFor (mIter1 (mCons (mCall cLen (mCons (mOp oIx (mVar 0) (mC (.int 1))) mNil)) mNil)) (bName 2) lp__law_text_1 [some (.sh (mD L A T)), some (.ow ([nS L].map .str)), none, none, none] = .nx [some (.sh (mD L A T)), some (.ow ((nS L :: List.zipWith lineT A T).map .str)), b2, c3.map Val.sh, b4] := by
    unfold mFor
    rw [it]
    exact e
  obtain ⟨q1, q2⟩ := lines_sum (A := A) hr
  have q3 := nS_len (x := L) (by omega) (by omega)
  have j : mM1 oJoin (mC (.str "\n")) (mVar 1) [some (.sh (mD L A T)), some (.ow ((nS L :: List.zipWith lineT A T).map .str)), b2, c3.map Val.sh, b4] = .ok (.sh (.str (mtext L A T))) := by
    refine m1_at (z := "\n") (r := .bw ((nS L :: List.zipWith lineT A T).map .str)) rfl rfl (join_bw ?_)
    rw [List.map_cons, List.sum_cons, List.length_cons, nlLen]
    omega
  rw [seqx s1, mFrz_at, show frz 3 [some (.sh (mD L A T)), some (.ow ([nS L].map .str)), none, none, none] = [some (.sh (mD L A T)), some (.ow ([nS L].map .str)), none, none, none] from rfl, seqx s2, ret_at j]
  rfl
/-! the text of a machine, read -/
theorem tl_fl (b : Bool) : TL.tl (flS b) = [if b = true then 43 else 45] := by cases b <;> decide +kernel
theorem tl_dot : TL.tl (Str.ofString ".") = [46] := by decide +kernel
theorem fl_is (b : Bool) : (flS b = "+" ∨ flS b = "-") ∧ decide (flS b = "+") = b := by cases b <;> decide +kernel
theorem wdS_free {x : Int} {s : Nat} (h : -1 ≤ x) (hs : s < 46) : s ∉ TL.tl (wdS x) := by
  unfold wdS
  split
  · rw [tl_dot, List.mem_singleton]
    omega
  · obtain ⟨n, rfl⟩ := Int.eq_ofNat_of_zero_le (show 0 ≤ x by omega)
    rw [nS_tl]
    exact TL.numL_free (by omega)
theorem fl_free {b : Bool} {s : Nat} (hs : s < 43) : s ∉ TL.tl (flS b) := by
  rw [tl_fl, List.mem_singleton]
  cases b
  · show ¬ s = 45
    omega
  · show ¬ s = 43
    omega
theorem WD_line {b : Bool} {r : List Int} (h : ∀ x ∈ r, -1 ≤ x) : WD (lineT b r) = flS b :: r.map wdS := by
  unfold WD lineT
  refine TL.split_join (s := 32) (S := []) tl_sp k_sp (by simp) fun p hp => ?_
  rcases List.mem_cons.mp hp with rfl | hp
  · exact fl_free (by decide)
  · obtain ⟨x, hx, rfl⟩ := List.mem_map.mp hp
    exact wdS_free (h x hx) (by decide)
theorem line_nl {b : Bool} {r : List Int} (h : ∀ x ∈ r, -1 ≤ x) : 10 ∉ TL.tl (lineT b r) := by
  unfold lineT
  rw [TL.join_eq, TL.tl_join, tl_sp, List.map_cons, joinL_flat, List.mem_append]
  rintro (q | q)
  · exact fl_free (by decide) q
  · obtain ⟨w, hw, q⟩ := List.mem_flatMap.mp q
    rcases List.mem_cons.mp q with q | q
    · cases q
    · obtain ⟨z, hz, rfl⟩ := List.mem_map.mp hw
      obtain ⟨x, hx, rfl⟩ := List.mem_map.mp hz
      exact wdS_free (h x hx) (by decide) q
theorem LN_mtext {L : Int} {A : List Bool} {T : List (List Int)} (h : Good L A T) : LN (mtext L A T) = nS L :: List.zipWith lineT A T := by
  have h1 := h.l1
  unfold LN mtext
  refine TL.split_join (s := 10) (S := []) tl_nl k_nl (by simp) fun p hp => ?_
  rcases List.mem_cons.mp hp with rfl | hp
  · obtain ⟨n, rfl⟩ := Int.eq_ofNat_of_zero_le (show 0 ≤ L by omega)
    rw [nS_tl]
    exact TL.numL_free (by omega)
  · rw [zipWith_zip] at hp
    obtain ⟨q, hq, rfl⟩ := List.mem_map.mp hp
    exact line_nl fun x hx => (h.e _ (List.of_mem_zip hq).2 x hx).1
theorem lineOf_line {n L : Nat} {b : Bool} {r : List Int} (hl : r.length = L) (h : ∀ x ∈ r, -1 ≤ x ∧ x < (n : Int)) : lineOf n L (lineT b r) = some (b, r) := by
  have e : ∀ x ∈ r, ent n (wdS x) = x := fun x hx => by
    have hx' := h x hx
    unfold wdS
    by_cases c : x = -1
    · rw [if_pos c, c]
      exact ent_dot n
    · rw [if_neg c]
      exact ent_own (by omega) hx'.2
  have em : (r.map wdS).map (ent n) = r := by
    rw [List.map_map]
    exact (List.map_congr_left (g := id) fun x hx => e x hx).trans (List.map_id r)
  unfold lineOf
  rw [WD_line fun x hx => (h x hx).1]
  show (if (flS b = "+" ∨ flS b = "-") ∧ (r.map wdS).length = L ∧ ∀ w ∈ r.map wdS, ent n w ≠ -2 then some (decide (flS b = "+"), (r.map wdS).map (ent n)) else none) = _
  rw [if_pos ⟨(fl_is b).1, by rw [List.length_map]; exact hl, fun w hw => by
    obtain ⟨x, hx, rfl⟩ := List.mem_map.mp hw
    rw [e x hx]
    have := h x hx
    omega⟩, em, (fl_is b).2]
theorem numOf_nS {L : Int} (h1 : 1 ≤ L) (h6 : L ≤ 6) : numOf (nS L) = some L.toNat := by
  have : L = 1 ∨ L = 2 ∨ L = 3 ∨ L = 4 ∨ L = 5 ∨ L = 6 := by omega
  rcases this with rfl | rfl | rfl | rfl | rfl | rfl <;> decide +kernel
theorem goL_lines {n L : Nat} : ∀ {A : List Bool} {T : List (List Int)} {k : Nat}, T.length = A.length → (∀ r ∈ T, r.length = L ∧ ∀ x ∈ r, -1 ≤ x ∧ x < (n : Int)) → goL n L k (List.zipWith lineT A T) = .inr (A.zip T)
  | [], T, k, _, _ => by cases T <;> rfl
  | a :: A, [], k, h, _ => by simp at h
  | a :: A, r :: T, k, h, hr => by
    obtain ⟨h1, h2⟩ := hr r List.mem_cons_self
    rw [List.zipWith_cons_cons, goL_is (lineOf_line h1 h2), goL_lines (A := A) (T := T) (by simpa using h) fun r hr' => hr r (List.mem_cons_of_mem _ hr')]
    rfl
theorem zip_fst : ∀ {A : List Bool} {T : List (List Int)}, T.length = A.length → (A.zip T).map (·.1) = A ∧ (A.zip T).map (·.2) = T
  | [], [], _ => ⟨rfl, rfl⟩
  | [], _ :: _, h => by simp at h
  | _ :: _, [], h => by simp at h
  | a :: A, r :: T, h => by
    obtain ⟨h1, h2⟩ := zip_fst (A := A) (T := T) (by simpa using h)
    rw [List.zip_cons_cons, List.map_cons, List.map_cons, h1, h2]
    exact ⟨rfl, rfl⟩
theorem rd_mtext {L : Int} {A : List Bool} {T : List (List Int)} (h : Good L A T) : rdD (mtext L A T) = .tuple [.str "machine", mD L A T] := by
  have h1 := h.l1
  have hl : (List.zipWith lineT A T).length = A.length := by
    rw [List.length_zipWith, h.t]
    exact Nat.min_self _
  have eL : ((L.toNat : Nat) : Int) = L := by omega
  obtain ⟨z1, z2⟩ := zip_fst h.t
  have g : goL (List.zipWith lineT A T).length L.toNat 1 (List.zipWith lineT A T) = .inr (A.zip T) := by
    rw [hl]
    exact goL_lines h.t fun r hr => ⟨by have := h.r r hr; omega, h.e r hr⟩
  have z := rdD_ok (LN_mtext h) (numOf_nS h.l1 h.l6) g
  rw [z1, z2, eL] at z
  exact z
theorem mtext_len {L : Int} {A : List Bool} {T : List (List Int)} (h : Good L A T) (hA : A.length ≤ 12) : (mtext L A T).length ≤ 260 ∧ 1 ≤ (mtext L A T).length := by
  have h1 := h.l1
  have h6 := h.l6
  have hr : ∀ r ∈ T, okE r ∧ r.length ≤ 6 := fun r hr => ⟨fun x hx => by have := h.e r hr x hx; omega, by have := h.r r hr; omega⟩
  obtain ⟨q1, q2⟩ := lines_sum (A := A) hr
  have q3 := nS_len (x := L) (by omega) (by omega)
  have z := StrLaws.join_length_le (Str.ofString "\n") (nS L :: List.zipWith lineT A T)
  rw [nlLen, List.map_cons, List.sum_cons, List.length_cons] at z
  constructor
  · unfold mtext
    rw [TL.join_eq]
    omega
  · have e := (LN_facts (mtext L A T)).2.2 (nS L) (by rw [LN_mtext h]; exact List.mem_cons_self)
    have p : 1 ≤ (nS L).length := by
      obtain ⟨n, rfl⟩ := Int.eq_ofNat_of_zero_le (show 0 ≤ L by omega)
      rw [TL.len_tl, nS_tl]
      exact List.length_pos_iff.mpr (TL.numL_ne n)
    omega
/-! spoilt texts; a machine with seven letters -/
theorem e_seven {A : List Bool} {T : List (List Int)} (hA : A.length ≤ 2000) : M_machine_text [.sh (mD 7 A T)] = .ex "NotMachine" [] := by
  have e : M_is_machine [.sh (mD 7 A T)] = .ok (.sh (.bool false)) := by
    rw [M_is_machine_eq]
    unfold ms_is_machine
    walk_at "ev"
  have c : M_check_machine [.sh (mD 7 A T)] = .ex "NotMachine" [] := by
    rw [M_check_machine_eq]
    unfold ms_check_machine
    walk_at "ev"
    simp only [e]
    walk_at "ev"
  rw [M_machine_text_eq]
  unfold ms_machine_text
  have s0 : mDrop (mDef M_check_machine (mCons (mVar 0) mNil)) [some (.sh (mD 7 A T)), none, none, none, none, none, none] = .ex "NotMachine" [] [some (.sh (mD 7 A T)), none, none, none, none, none, none] := by
    unfold mDrop
    rw [def_ex (d := mD 7 A T) rfl c rfl]
    rfl
  rw [seqe s0]
  rfl
theorem e_refuses {A : List Bool} {T : List (List Int)} (hA : A.length ≤ 2000) : M__law_refuses [.sh (mD 7 A T)] = .ok (.sh (.bool true)) := by
  rw [M__law_refuses_eq]
  unfold ms__law_refuses
  have b : mDrop (mDef M_machine_text (mCons (mVar 0) mNil)) [some (.sh (mD 7 A T)), none] = .ex "NotMachine" [] [some (.sh (mD 7 A T)), none] := by
    unfold mDrop
    rw [def_ex (d := mD 7 A T) rfl (e_seven hA) rfl]
    rfl
  have k : mTryAs (mDrop (mDef M_machine_text (mCons (mVar 0) mNil))) dec_NotMachine 1 (mHRet (fun m => (isd_Malformed m).map (!·))) [some (.sh (mD 7 A T)), none] = .rt (.sh (.bool true)) := by
    unfold mTryAs
    rw [b]
    rfl
  rw [seqr k]
  rfl
theorem cutS_len (z : Str) (lo hi : Option Int) : (cutS z lo hi).length ≤ z.length := by
  rw [TL.len_tl, TL.len_tl z]
  unfold cutS
  rw [TL.tl_mk, List.length_take, List.length_drop]
  have : (TL.tl z).length = z.cps.toList.length := rfl
  omega
/-- signs of texts, with one between two -/
def tot (ys : List Str) : Nat := (ys.map fun y => y.length).sum + ys.length
theorem tot_nil : tot [] = 0 := rfl
theorem tot_cons (y : Str) (ys : List Str) : tot (y :: ys) = y.length + 1 + tot ys := by
  unfold tot
  rw [List.map_cons, List.sum_cons, List.length_cons]
  omega
theorem tot_app : ∀ (xs ys : List Str), tot (xs ++ ys) = tot xs + tot ys
  | [], ys => by rw [List.nil_append, tot_nil, Nat.zero_add]
  | x :: xs, ys => by rw [List.cons_append, tot_cons, tot_cons, tot_app xs ys]; omega
theorem tot_take : ∀ (n : Nat) (xs : List Str), tot (xs.take n) ≤ tot xs
  | 0, xs => by rw [List.take_zero]; exact Nat.zero_le _
  | n + 1, [] => Nat.le_refl _
  | n + 1, x :: xs => by
    rw [List.take_succ_cons, tot_cons, tot_cons]
    have := tot_take n xs
    omega
theorem tot_drop : ∀ (n : Nat) (xs : List Str), tot (xs.drop n) ≤ tot xs
  | 0, xs => Nat.le_refl _
  | n + 1, [] => Nat.le_refl _
  | n + 1, x :: xs => by
    rw [List.drop_succ_cons, tot_cons]
    have := tot_drop n xs
    omega
theorem joinL_tot (c : Nat) : ∀ (ys : List Str), ys ≠ [] → (TL.joinL [c] (ys.map TL.tl)).length + 1 = tot ys
  | [], h => absurd rfl h
  | [y], _ => by
    show (TL.tl y).length + 1 = _
    rw [tot_cons, tot_nil, TL.len_tl]
  | y :: z :: ys, _ => by
    have ih := joinL_tot c (z :: ys) (by simp)
    show (TL.tl y ++ ([c] ++ TL.joinL [c] ((z :: ys).map TL.tl))).length + 1 = _
    rw [List.length_append, List.length_append, List.length_singleton, tot_cons, ← ih, TL.len_tl]
    omega
theorem tot_LN (t : Str) : tot (LN t) = t.length + 1 := by
  have e := StrLaws.join_split t (Str.ofString "\n")
  have z := TL.tl_join (Str.ofString "\n") (Txt.split t (Str.ofString "\n"))
  rw [e, tl_nl] at z
  have k := joinL_tot 10 (LN t) (LN_facts t).1
  rw [← k, TL.len_tl]
  show (TL.joinL [10] ((Txt.split t (Str.ofString "\n")).map TL.tl)).length + 1 = _
  rw [← z]
theorem tot_mem : ∀ {ys : List Str} {y : Str}, y ∈ ys → y.length + 1 ≤ tot ys
  | x :: ys, y, h => by
    rw [tot_cons]
    rcases List.mem_cons.mp h with rfl | h
    · omega
    · have := tot_mem h
      omega
theorem join_tot {ys : List Str} (h : tot ys ≤ 100000) : oJoin (.sh (.str "\n")) (.ow (ys.map .str)) = some (.sh (.str (Txt.join "\n" ys))) ∧ (Txt.join (Str.ofString "\n") ys).length ≤ tot ys := by
  have z := StrLaws.join_length_le (Str.ofString "\n") ys
  rw [nlLen, Nat.mul_one] at z
  refine ⟨join_ow ?_, ?_⟩
  · rw [nlLen, Nat.mul_one]
    exact h
  · rw [TL.join_eq]
    exact z
/-- part of a list of texts -/
def cutY (ys : List Str) (lo hi : Option Int) : List Str := (ys.drop (HT.sIx ys.length 0 lo)).take (HT.sIx ys.length ys.length hi - HT.sIx ys.length 0 lo)
theorem cut_map (ys : List Str) (lo hi : Option Int) : Mi.cutD (ys.map .str) lo hi = (cutY ys lo hi).map .str := by
  unfold Mi.cutD cutY
  rw [List.length_map, List.map_take, List.map_drop]
theorem tot_cut (ys : List Str) (lo hi : Option Int) : tot (cutY ys lo hi) ≤ tot ys := Nat.le_trans (tot_take _ _) (tot_drop _ _)
theorem retX {X : Rho → Res Val} {xs : List D} {ρ : Rho} {d : D} (h : X (some (.io xs) :: ρ) = .ok (.sh d)) : mRetX 0 (toE 0 X) (some (.io xs) :: ρ) = .rx (.sh d) (some (.io xs) :: ρ) := by
  have g : ioGet 0 (some (Val.io xs) :: ρ) = some xs := rfl
  unfold mRetX eRes toE
  rw [g]
  simp only [h]
  rfl
theorem seqrx {a b : Rho → Out} {ρ ρ' : Rho} {r : Val} (h : a ρ = .rx r ρ') : mSeq a b ρ = .rx r ρ' := by
  unfold mSeq
  rw [h]
theorem add_ss {s t : Str} (h : s.length + t.length ≤ 100000) : oAddT (.sh (.str s)) (.sh (.str t)) = some (.sh (.str (s ++ t))) := by
  rw [oAddT_ss, if_pos h]
theorem slS {a : Rho → Res Val} {ml mh : Rho → Res (Option Int)} {ρ : Rho} {z : Str} {l u : Option Int} (h : a ρ = .ok (.sh (.str z))) (h1 : ml ρ = .ok l) (h2 : mh ρ = .ok u) (hz : z.length ≤ 100000) : mSlU a ml mh ρ = .ok (.sh (.str (cutS z l u))) := by
  unfold mSlU
  rw [h]
  simp only [Res.bind]
  rw [h1]
  simp only []
  rw [h2]
  simp only [hz, if_true]
  rfl
theorem slY {a : Rho → Res Val} {ml mh : Rho → Res (Option Int)} {ρ : Rho} {ys : List Str} {l u : Option Int} (h : a ρ = .ok (.bw (ys.map .str))) (h1 : ml ρ = .ok l) (h2 : mh ρ = .ok u) : mSlU a ml mh ρ = .ok (.ow ((cutY ys l u).map .str)) := by
  rw [← cut_map]
  unfold mSlU
  rw [h]
  simp only [Res.bind]
  rw [h1]
  simp only []
  rw [h2]
  rfl
theorem eqi {a b : Rho → Res Val} {ρ : Rho} {i j : Int} (h1 : a ρ = .ok (.sh (.int i))) (h2 : b ρ = .ok (.sh (.int j))) : mTest (mOp (oOr oEqS oEq) a b) ρ = .ok (decide (i = j)) := by
  refine test_b (op_at h1 h2 ?_)
  simp only [oOr, oEqS, oEq, dat, eqv_int, shaped_int, Bool.and_self, if_true]
theorem cat_at {a b : Rho → Res Val} {ρ : Rho} {s t : Str} (h1 : a ρ = .ok (.sh (.str s))) (h2 : b ρ = .ok (.sh (.str t))) (h : s.length + t.length ≤ 100000) : mOp oAddT a b ρ = .ok (.sh (.str (s ++ t))) := op_at h1 h2 (add_ss h)
theorem atI_ex {α : Type} {xs : List α} {p : Int} (h0 : 0 ≤ p) (h1 : p < xs.length) : ∃ x ∈ xs, atI xs p = some x := by
  obtain ⟨h, e⟩ := atI_some h0 h1
  exact ⟨_, List.getElem_mem h, e⟩
def CHS : Str := " +-.019a\n7"
theorem e_spoilt (xs : List Int) {t : Str} (h1 : 1 ≤ t.length) (hl : t.length ≤ 300) : ∃ (t' : Str) (ys : List Int), M__law_spoilt [.io (xs.map .int), .sh (.str t)] = .ok (.sh (.str t')) (ys.map .int) ∧ t'.length ≤ 900 := by
  obtain ⟨n1, n2, n3⟩ := LN_facts t
  have tn := tot_LN t
  obtain ⟨kd, hkd⟩ : ∃ k : Int, k = pk xs 7 := ⟨_, rfl⟩
  obtain ⟨at_, hat⟩ : ∃ k : Int, k = pk xs.dropLast t.length := ⟨_, rfl⟩
  obtain ⟨ci, hci⟩ : ∃ k : Int, k = pk xs.dropLast.dropLast 10 := ⟨_, rfl⟩
  have ci0 := pk_lt (xs := xs.dropLast.dropLast) (m := 10) (by decide)
  rw [← hci] at ci0
  obtain ⟨c, _, hc⟩ := atI_ex (xs := CHS.cps.toList) (p := ci) ci0.1 (by
    have : CHS.cps.toList.length = 10 := by decide +kernel
    rw [this]
    exact ci0.2)
  obtain ⟨zs, hzs⟩ : ∃ z : List Int, z = xs.dropLast.dropLast.dropLast := ⟨_, rfl⟩
  obtain ⟨ch, hch⟩ : ∃ z : Str, z = ⟨#[c]⟩ := ⟨_, rfl⟩
  have chl : ch.length = 1 := by
    rw [hch]
    rfl
  rw [M__law_spoilt_eq]
  unfold ms__law_spoilt
  have s1 : mSet 2 (mM1 oSplit (mVar 1) (mC (.str "\n"))) [IOL xs, some (.sh (.str t)), none, none, none, none, none] = .nx [IOL xs, some (.sh (.str t)), some (.ow ((LN t).map .str)), none, none, none, none] := set_o (m1_at rfl rfl (e_splN (l := t) (by omega)))
  have s2 : mSetE 3 0 (mIoE 2 0 M__law_pick (mConsV (mConsI 0 (toE 0 (mC (.int 7))) (mNilI 0)))) [IOL xs, some (.sh (.str t)), some (.ow ((LN t).map .str)), none, none, none, none] = .nx [IOL xs.dropLast, some (.sh (.str t)), some (.ow ((LN t).map .str)), I kd, none, none, none] := by
    walk_at "ev"
    simp only [e_pick _ _ (show (0 : Int) < 7 by decide)]
    walk_at "ev"
    rw [hkd]
  have s3 : mSetE 4 0 (mIoE 2 0 M__law_pick (mConsV (mConsI 0 (toE 0 (mCall cLen (mCons (mVar 1) mNil))) (mNilI 0)))) [IOL xs.dropLast, some (.sh (.str t)), some (.ow ((LN t).map .str)), I kd, none, none, none] = .nx [IOL xs.dropLast.dropLast, some (.sh (.str t)), some (.ow ((LN t).map .str)), I kd, I at_, none, none] := by
    have g : t.length ≤ 100000 := by omega
    walk_at "ev"
    (try simp only [g])
    walk_at "ev"
    simp only [e_pick _ _ (show (0 : Int) < (t.length : Int) by omega)]
    walk_at "ev"
    rw [hat]
  have s4 : mSetE 5 0 (mOpE 0 oIx (toE 0 (mC (.str " +-.019a\n7"))) (mIoE 2 0 M__law_pick (mConsV (mConsI 0 (toE 0 (mC (.int 10))) (mNilI 0))))) [IOL xs.dropLast.dropLast, some (.sh (.str t)), some (.ow ((LN t).map .str)), I kd, I at_, none, none] = .nx [IOL zs, some (.sh (.str t)), some (.ow ((LN t).map .str)), I kd, I at_, some (.sh (.str ch)), none] := by
    have e : oIx (.sh (.str " +-.019a\n7")) (.sh (.int ci)) = some (.sh (.str ch)) := by
      show (if CHS.length ≤ 100000 then (atI CHS.cps.toList ci).map fun c => Val.sh (.str ⟨#[c]⟩) else none) = _
      rw [if_pos (by decide +kernel), hc, hch]
      rfl
    walk_at "ev"
    simp only [e_pick _ _ (show (0 : Int) < 10 by decide)]
    walk_at "ev"
    rw [← hci, e, hzs]
  rw [seqx s1, seqx s2, seqx s3, seqx s4]
  obtain ⟨R, hR⟩ : ∃ R : Rho, R = [some (.sh (.str t)), some (.ow ((LN t).map .str)), I kd, I at_, some (.sh (.str ch)), none] := ⟨_, rfl⟩
  rw [← show (IOL zs :: R) = [IOL zs, some (.sh (.str t)), some (.ow ((LN t).map .str)), I kd, I at_, some (.sh (.str ch)), none] by rw [hR]]
  have done : ∀ {a : Rho → Out} {b : Rho → Out} {t' : Str} {ρ' : Rho}, a (IOL zs :: R) = .rx (.sh (.str t')) (IOL zs :: ρ') → t'.length ≤ 900 → ∃ (t' : Str) (ys : List Int), finIO 0 (mSeq a b (IOL zs :: R)) = .ok (.sh (.str t')) (ys.map .int) ∧ t'.length ≤ 900 := fun h hl => ⟨_, zs, by rw [seqrx h]; rfl, hl⟩
  have vt : mVar 1 (IOL zs :: R) = .ok (.sh (.str t)) := by rw [hR]; rfl
  have va : mPart (mVar 4) (IOL zs :: R) = .ok (some at_) := by rw [hR]; rfl
  have va1 : mPart (mOp oAddT (mVar 4) (mC (.int 1))) (IOL zs :: R) = .ok (some (at_ + 1)) := by rw [hR]; rfl
  have vc : mVar 5 (IOL zs :: R) = .ok (.sh (.str ch)) := by rw [hR]; rfl
  have ek : ∀ j : Int, mTest (mOp (oOr oEqS oEq) (mVar 3) (mC (.int j))) (IOL zs :: R) = .ok (decide (kd = j)) := fun j => eqi (by rw [hR]; rfl) rfl
  have c1 := slS (ml := mNoPart) (l := none) vt rfl va (by omega)
  have c2 := slS (mh := mNoPart) (u := none) vt va1 rfl (by omega)
  have c3 := slS (mh := mNoPart) (u := none) vt va rfl (by omega)
  have l1 := cutS_len t none (some at_)
  have l2 := cutS_len t (some (at_ + 1)) none
  have l3 := cutS_len t (some at_) none
  by_cases k0 : kd = 0
  · have e := cat_at (cat_at c1 vc (by omega)) c2 (by rw [app_len]; omega)
    refine done ((if_t (by rw [ek, decide_eq_true k0])).trans (retX e)) ?_
    rw [app_len, app_len]
    omega
  have y0 : ∀ a : Rho → Out, mIf (mTest (mOp (oOr oEqS oEq) (mVar 3) (mC (.int 0)))) a mSkip (IOL zs :: R) = .nx (IOL zs :: R) := fun a => if_f (by rw [ek, decide_eq_false k0])
  rw [seqx (y0 _)]
  by_cases k1 : kd = 1
  · have e := cat_at (cat_at c1 vc (by omega)) c3 (by rw [app_len]; omega)
    refine done ((if_t (by rw [ek, decide_eq_true k1])).trans (retX e)) ?_
    rw [app_len, app_len]
    omega
  have y1 : ∀ a : Rho → Out, mIf (mTest (mOp (oOr oEqS oEq) (mVar 3) (mC (.int 1)))) a mSkip (IOL zs :: R) = .nx (IOL zs :: R) := fun a => if_f (by rw [ek, decide_eq_false k1])
  rw [seqx (y1 _)]
  by_cases k2 : kd = 2
  · have e := cat_at c1 c2 (by omega)
    refine done ((if_t (by rw [ek, decide_eq_true k2])).trans (retX e)) ?_
    rw [app_len]
    omega
  have y2 : ∀ a : Rho → Out, mIf (mTest (mOp (oOr oEqS oEq) (mVar 3) (mC (.int 2)))) a mSkip (IOL zs :: R) = .nx (IOL zs :: R) := fun a => if_f (by rw [ek, decide_eq_false k2])
  rw [seqx (y2 _)]
  have nl : 0 < (LN t).length := List.length_pos_iff.mpr n1
  obtain ⟨pl, hpl⟩ : ∃ k : Int, k = pk zs (LN t).length := ⟨_, rfl⟩
  have pl0 := pk_lt (xs := zs) (m := ((LN t).length : Int)) (by omega)
  rw [← hpl] at pl0
  have s5 : mSetE 6 0 (mIoE 2 0 M__law_pick (mConsV (mConsI 0 (toE 0 (mCall cLen (mCons (mVar 2) mNil))) (mNilI 0)))) (IOL zs :: R) = .nx [IOL zs.dropLast, some (.sh (.str t)), some (.ow ((LN t).map .str)), I kd, I at_, some (.sh (.str ch)), I pl] := by
    rw [hR]
    walk_at "ev"
    simp only [e_pick _ _ (show (0 : Int) < ((LN t).length : Int) by omega)]
    walk_at "ev"
    rw [hpl]
  rw [seqx s5]
  clear done vt va va1 vc ek c1 c2 c3 y0 y1 y2
  obtain ⟨ws, hws⟩ : ∃ z : List Int, z = zs.dropLast := ⟨_, rfl⟩
  rw [← hws]
  obtain ⟨S, hS⟩ : ∃ S : Rho, S = [some (.sh (.str t)), some (.ow ((LN t).map .str)), I kd, I at_, some (.sh (.str ch)), I pl] := ⟨_, rfl⟩
  rw [← show (IOL ws :: S) = [IOL ws, some (.sh (.str t)), some (.ow ((LN t).map .str)), I kd, I at_, some (.sh (.str ch)), I pl] by rw [hS]]
  have done : ∀ {a : Rho → Out} {b : Rho → Out} {t' : Str} {ρ' : Rho}, a (IOL ws :: S) = .rx (.sh (.str t')) (IOL ws :: ρ') → t'.length ≤ 900 → ∃ (t' : Str) (ys : List Int), finIO 0 (mSeq a b (IOL ws :: S)) = .ok (.sh (.str t')) (ys.map .int) ∧ t'.length ≤ 900 := fun h hl => ⟨_, ws, by rw [seqrx h]; rfl, hl⟩
  have ek : ∀ j : Int, mTest (mOp (oOr oEqS oEq) (mVar 3) (mC (.int j))) (IOL ws :: S) = .ok (decide (kd = j)) := fun j => eqi (by rw [hS]; rfl) rfl
  have vl : mVar 2 (IOL ws :: S) = .ok (.bw ((LN t).map .str)) := by rw [hS]; rfl
  have vp : mPart (mVar 6) (IOL ws :: S) = .ok (some pl) := by rw [hS]; rfl
  have vp1 : mPart (mOp oAddT (mVar 6) (mC (.int 1))) (IOL ws :: S) = .ok (some (pl + 1)) := by rw [hS]; rfl
  have b1 := slY (ml := mNoPart) (l := none) vl rfl vp
  have b2 := slY (mh := mNoPart) (u := none) vl vp1 rfl
  have b3 := slY (mh := mNoPart) (u := none) vl vp rfl
  have q1 := tot_cut (LN t) none (some pl)
  have q2 := tot_cut (LN t) (some (pl + 1)) none
  have q3 := tot_cut (LN t) (some pl) none
  have tl_ : ∀ ys : List Str, ys.length ≤ tot ys := fun ys => by
    unfold tot
    omega
  have two : ∀ {a b : Rho → Res Val} {ys zs : List Str}, a (IOL ws :: S) = .ok (.ow (ys.map .str)) → b (IOL ws :: S) = .ok (.ow (zs.map .str)) → tot ys ≤ 400 → tot zs ≤ 400 → mM1 oJoin (mC (.str "\n")) (mOp oAddT a b) (IOL ws :: S) = .ok (.sh (.str (Txt.join "\n" (ys ++ zs)))) ∧ (Txt.join (Str.ofString "\n") (ys ++ zs)).length ≤ 800 := fun {a b ys zs} ha hb h1 h2 => by
    have k1 := tl_ ys
    have k2 := tl_ zs
    obtain ⟨j1, j2⟩ := join_tot (ys := ys ++ zs) (by rw [tot_app]; omega)
    rw [tot_app] at j2
    refine ⟨m1_at (z := "\n") rfl (op_at ha hb ?_) j1, by omega⟩
    rw [oAddT_lolo, if_pos (by rw [List.length_map, List.length_map]; omega), List.map_append]
  by_cases k3 : kd = 3
  · obtain ⟨e, le⟩ := two b1 b2 (by omega) (by omega)
    exact done ((if_t (by rw [ek, decide_eq_true k3])).trans (retX e)) (by omega)
  have y3 : ∀ a : Rho → Out, mIf (mTest (mOp (oOr oEqS oEq) (mVar 3) (mC (.int 3)))) a mSkip (IOL ws :: S) = .nx (IOL ws :: S) := fun a => if_f (by rw [ek, decide_eq_false k3])
  rw [seqx (y3 _)]
  by_cases k4 : kd = 4
  · obtain ⟨l, hm, hl4⟩ := atI_ex (xs := LN t) pl0.1 pl0.2
    have one : mLst (mCons (mOp oIx (mVar 2) (mVar 6)) mNil) (IOL ws :: S) = .ok (.ow ([l].map .str)) := by
      have o : mOp oIx (mVar 2) (mVar 6) (IOL ws :: S) = .ok (.sh (.str l)) := by
        refine op_at vl (y := .sh (.int pl)) (by rw [hS]; rfl) ?_
        rw [oIx_b, atI_map, hl4]
        rfl
      unfold mLst
      rw [cons_at o nil_at]
      rfl
    have q4 : tot [l] ≤ 400 := by
      have := n3 l hm
      rw [tot_cons, tot_nil]
      omega
    have k1 := tl_ (LN t)
    obtain ⟨j1, j2⟩ := join_tot (ys := LN t ++ [l]) (by rw [tot_app]; omega)
    rw [tot_app] at j2
    have e : mM1 oJoin (mC (.str "\n")) (mOp oAddT (mVar 2) (mLst (mCons (mOp oIx (mVar 2) (mVar 6)) mNil))) (IOL ws :: S) = .ok (.sh (.str (Txt.join "\n" (LN t ++ [l])))) := by
      refine m1_at (z := "\n") rfl (op_at vl one ?_) j1
      rw [oAddT_bwlo, if_pos (by rw [List.length_map, List.length_map, List.length_singleton]; omega), List.map_append]
    exact done ((if_t (by rw [ek, decide_eq_true k4])).trans (retX e)) (by omega)
  have y4 : ∀ a : Rho → Out, mIf (mTest (mOp (oOr oEqS oEq) (mVar 3) (mC (.int 4)))) a mSkip (IOL ws :: S) = .nx (IOL ws :: S) := fun a => if_f (by rw [ek, decide_eq_false k4])
  rw [seqx (y4 _)]
  by_cases k5 : kd = 5
  · have e := cat_at (a := mVar 1) (b := mVar 5) (ρ := IOL ws :: S) (s := t) (t := ch) (by rw [hS]; rfl) (by rw [hS]; rfl) (by omega)
    refine done ((if_t (by rw [ek, decide_eq_true k5])).trans (retX e)) ?_
    rw [app_len]
    omega
  have y5 : ∀ a : Rho → Out, mIf (mTest (mOp (oOr oEqS oEq) (mVar 3) (mC (.int 5)))) a mSkip (IOL ws :: S) = .nx (IOL ws :: S) := fun a => if_f (by rw [ek, decide_eq_false k5])
  rw [seqx (y5 _)]
  obtain ⟨e, le⟩ := two b3 b1 (by omega) (by omega)
  refine ⟨_, ws, ?_, Nat.le_trans le (by decide)⟩
  rw [retX e]
  rfl
/-! data that may be compared and shown -/
theorem short_int {v : Int} (h : v.natAbs < 10 ^ 7) : PyData.leavesShort 10 (.int v) = true ∧ PyData.showable (.int v) = true := by
  constructor
  · have z : (PySem.Str.ofString (toString v)).length ≤ 8 := by
      rw [PySem.ofString_length]
      exact int_text_length_le10 (k := 7) (by decide) h
    have e : (PyData.shown (.int v)).length ≤ 10 := by
      rw [PyData.shown]
      exact Nat.le_trans z (by decide)
    simpa only [PyData.leavesShort, decide_eq_true_eq] using e
  · have z : v.natAbs.log2 < 1920 := by
      by_cases z : v.natAbs = 0
      · rw [z]
        decide
      · have h2 : v.natAbs.log2 < 24 := (Nat.log2_lt z).mpr (Nat.lt_of_lt_of_le h (by decide))
        omega
    rw [PyData.showable]
    exact decide_eq_true z
structure OkD (d : D) (B P : Nat) : Prop where
  ll : PyData.leavesShort 10 d = true
  sh : d.showable = true
  hd : d.hasDict = false
  dp : d.depth ≤ P
  bk : d.bulk ≤ B
  cl : d.canLay0 = true
structure OkA (ds : List D) (B P : Nat) : Prop where
  ll : PyData.leavesShortAll 10 ds = true
  sh : PyData.showableAll ds = true
  hd : PyData.hasDictAll ds = false
  dp : PyData.depthAll ds ≤ P
  bk : PyData.bulkAll ds ≤ B
  cl : PyData.canLayAll0 ds = true
theorem OkA.nil {P : Nat} : OkA [] 0 P := ⟨by rw [PyData.leavesShortAll], by rw [PyData.showableAll], by rw [PyData.hasDictAll], by rw [PyData.depthAll]; omega, by rw [PyData.bulkAll]; omega, by rw [PyData.canLayAll0]⟩
theorem OkA.cons {d : D} {ds : List D} {B B' P : Nat} (h : OkD d B P) (k : OkA ds B' P) : OkA (d :: ds) (B + 1 + B') P := by
  refine ⟨?_, ?_, ?_, ?_, ?_, ?_⟩
  · rw [PyData.leavesShortAll, h.ll, k.ll]
    rfl
  · rw [PyData.showableAll, h.sh, k.sh]
    rfl
  · rw [PyData.hasDictAll, h.hd, k.hd]
    rfl
  · rw [PyData.depthAll]
    have := h.dp
    have := k.dp
    omega
  · rw [PyData.bulkAll]
    have := h.bk
    have := k.bk
    omega
  · rw [PyData.canLayAll0, h.cl, k.cl]
    rfl
theorem OkA.tup {ds : List D} {B P : Nat} (k : OkA ds B P) : OkD (.tuple ds) B (P + 1) := by
  refine ⟨?_, ?_, ?_, ?_, ?_, ?_⟩
  · rw [PyData.leavesShort, k.ll]
  · rw [PyData.showable, k.sh]
  · rw [PyData.hasDict, k.hd]
  · rw [PyData.depth]
    have := k.dp
    omega
  · rw [PyData.bulk]
    exact k.bk
  · rw [PyData.canLay0, k.cl]
theorem OkD.weak {d : D} {B B' P P' : Nat} (h : OkD d B P) (hb : B ≤ B') (hp : P ≤ P') : OkD d B' P' := ⟨h.ll, h.sh, h.hd, Nat.le_trans h.dp hp, Nat.le_trans h.bk hb, h.cl⟩
theorem OkA.weak {d : List D} {B B' P : Nat} (h : OkA d B P) (hb : B ≤ B') : OkA d B' P := ⟨h.ll, h.sh, h.hd, h.dp, Nat.le_trans h.bk hb, h.cl⟩
theorem OkA.all {B P : Nat} : ∀ {ds : List D}, (∀ d ∈ ds, OkD d B P) → OkA ds (ds.length * (B + 1)) P
  | [], _ => by
    rw [List.length_nil, Nat.zero_mul]
    exact OkA.nil
  | d :: ds, h => by
    rw [List.length_cons, Nat.succ_mul, Nat.add_comm]
    exact OkA.cons (h d List.mem_cons_self) (OkA.all fun x hx => h x (List.mem_cons_of_mem _ hx))
theorem OkD.int {v : Int} (h : v.natAbs < 10 ^ 7) (P : Nat) : OkD (.int v) 0 P := ⟨(short_int h).1, (short_int h).2, by rw [PyData.hasDict], by rw [PyData.depth]; omega, by rw [PyData.bulk]; omega, by simp [PyData.canLay0]⟩
theorem OkD.bool (b : Bool) (P : Nat) : OkD (.bool b) 0 P := by
  refine ⟨by cases b <;> decide, by simp [PyData.showable], by rw [PyData.hasDict], by rw [PyData.depth]; omega, by rw [PyData.bulk]; omega, by simp [PyData.canLay0]⟩
theorem OkD.shows {d : D} {B P : Nat} (h : OkD d B P) (hb : B ≤ 8000) (hp : P ≤ 60) : shows d = true := by
  have z := PyData.shown_le_bulk 10 (by decide) d h.ll
  have e4 : d.shown.length ≤ 100000 := by
    have := h.bk
    omega
  have e3 : d.depth ≤ 60 := Nat.le_trans h.dp hp
  unfold Mi.shows
  rw [h.sh, h.hd, decide_eq_true e3, decide_eq_true e4]
  rfl
theorem OkD.shaped {d : D} {B P : Nat} (h : OkD d B P) (hp : P ≤ 64) : SeqAt.shaped d = true := by
  unfold SeqAt.shaped
  rw [h.cl, decide_eq_true (Nat.le_trans h.dp hp)]
  rfl
theorem OkD.mach (P : Nat) : OkD (.str "machine") 20 P := ⟨by decide +kernel, by decide +kernel, by rw [PyData.hasDict], by rw [PyData.depth]; omega, by decide +kernel, by decide +kernel⟩
theorem OkD.fault (P : Nat) : OkD (.str "fault") 20 P := ⟨by decide +kernel, by decide +kernel, by rw [PyData.hasDict], by rw [PyData.depth]; omega, by decide +kernel, by decide +kernel⟩
theorem ok_mD {L : Int} {A : List Bool} {T : List (List Int)} (h0 : 0 ≤ L) (h6 : L ≤ 6) (hA : A.length ≤ 905) (hT : T.length ≤ 905) (hr : ∀ r ∈ T, r.length ≤ 6 ∧ ∀ x ∈ r, x.natAbs < 10 ^ 7) : OkD (mD L A T) 7260 3 := by
  have a : OkA (A.map PyData.bool) 905 1 := (OkA.all (B := 0) fun d hd => by
    obtain ⟨b, _, rfl⟩ := List.mem_map.mp hd
    exact OkD.bool b 1).weak (by rw [List.length_map]; omega)
  have t : OkA (T.map tI) 6335 1 := (OkA.all (B := 6) (P := 1) fun d hd => by
    obtain ⟨r, hm, rfl⟩ := List.mem_map.mp hd
    obtain ⟨h1, h2⟩ := hr r hm
    have z : OkA (r.map PyData.int) 6 0 := (OkA.all (B := 0) fun d hd => by
      obtain ⟨x, hx, rfl⟩ := List.mem_map.mp hd
      exact OkD.int (h2 x hx) 0).weak (by rw [List.length_map]; omega)
    exact z.tup).weak (by rw [List.length_map]; omega)
  exact ((OkA.cons (OkD.int (by omega) 2) (OkA.cons a.tup (OkA.cons t.tup OkA.nil))).tup).weak (by omega) (by omega)
theorem ok_pair {s : Str} {d : D} {B : Nat} (hs : OkD (.str s) 20 3) (h : OkD d B 3) : OkD (.tuple [.str s, d]) (B + 22) 4 := ((OkA.cons hs (OkA.cons h OkA.nil)).tup).weak (by omega) (by omega)
theorem lineOf_inv {n L : Nat} {l : Str} {p : Bool × List Int} (h : lineOf n L l = some p) : p.2.length = L ∧ ∀ x ∈ p.2, -1 ≤ x ∧ x < (n : Int) := by
  unfold lineOf at h
  split at h
  · cases h
  · rename_i w r hw
    split at h
    · rename_i cc
      cases h
      refine ⟨by rw [List.length_map]; exact cc.2.1, fun x hx => ?_⟩
      obtain ⟨v, hv, rfl⟩ := List.mem_map.mp hx
      rcases ent_rng n v with z | z
      · exact absurd z (cc.2.2 v hv)
      · exact z
    · cases h
theorem goL_le {n L : Nat} : ∀ {ls : List Str} {k j : Nat}, goL n L k ls = .inl j → j < k + ls.length
  | [], k, j, h => by cases h
  | l :: ls, k, j, h => by
    rw [List.length_cons]
    cases e : lineOf n L l with
    | none =>
      rw [goL_no e] at h
      cases h
      omega
    | some p =>
      rw [goL_is e] at h
      cases e2 : goL n L (k + 1) ls with
      | inl i =>
        rw [e2] at h
        cases h
        have := goL_le e2
        omega
      | inr qs =>
        rw [e2] at h
        cases h
/-- what is told of a text may be shown -/
theorem rd_ok {t : Str} (hl : t.length ≤ 900) : OkD (rdD t) 7300 4 := by
  obtain ⟨n1, n2, n3⟩ := LN_facts t
  cases e : LN t with
  | nil => exact absurd e n1
  | cons h ls =>
  rw [e, List.length_cons] at n2
  have fk : ∀ k : Nat, k ≤ 2000 → OkD (.tuple [.str "fault", .int (k : Nat)]) 7300 4 := fun k hk => (ok_pair (OkD.fault 3) (OkD.int (v := (k : Int)) (by omega) 3)).weak (by omega) (by omega)
  cases en : numOf h with
  | none =>
    rw [rdD_no e en]
    exact fk 0 (by decide)
  | some L =>
    have hL := numOf_le en
    cases g : goL ls.length L 1 ls with
    | inl j =>
      rw [rdD_bad e en g]
      have := goL_le g
      exact fk j (by omega)
    | inr ps =>
      rw [rdD_ok e en g]
      have ga := goL_all g
      have pl : ps.length = ls.length := by
        have z := congrArg List.length ga
        rw [List.length_map, List.length_map] at z
        exact z.symm
      have hm : ∀ p ∈ ps, ∃ l, lineOf ls.length L l = some p := fun p hp => by
        have m := List.mem_map_of_mem (f := some) hp
        rw [← ga] at m
        obtain ⟨l, _, hp⟩ := List.mem_map.mp m
        exact ⟨l, hp⟩
      refine (ok_pair (OkD.mach 3) (ok_mD (L := L) (by omega) (by omega) ?_ ?_ fun r hr => ?_)).weak (by omega) (by omega)
      · rw [List.length_map]
        omega
      · rw [List.length_map]
        omega
      · obtain ⟨p, hp, rfl⟩ := List.mem_map.mp hr
        obtain ⟨l, hl'⟩ := hm p hp
        obtain ⟨z1, z2⟩ := lineOf_inv hl'
        refine ⟨by omega, fun x hx => ?_⟩
        have := z2 x hx
        omega
theorem ne_str (s : Str) : oOr oNeS oNe (.sh (.str s)) (.sh (.str s)) = some (.sh (.bool false)) := by
  simp only [oOr, oNeS, bne_self_eq_false, ne_eq, not_true_eq_false, decide_false, decide_true, Bool.not_true]
theorem eq_str (s : Str) : oOr oEqS oEq (.sh (.str s)) (.sh (.str s)) = some (.sh (.bool true)) := by
  simp only [oOr, oEqS, beq_self_eq_true, decide_true]
theorem ne_self {d : D} (h : SeqAt.shaped d = true) (hs : ∀ z, d ≠ .str z) : oOr oNeS oNe (.sh d) (.sh d) = some (.sh (.bool false)) := by
  have r : PyData.eqv d d = true := SeqAt.eqv_refl _ (SeqAt.canLay_of_shaped h)
  have e : oNe (.sh d) (.sh d) = some (.sh (.bool false)) := by
    unfold oNe
    simp only [dat, h, r, Bool.and_self, if_true, Bool.not_true]
  unfold oOr
  have k : oNeS (.sh d) (.sh d) = none := by
    cases d <;> first | rfl | exact absurd rfl (hs _)
  rw [k]
  exact e
theorem says (ns : List Int) (hn : ns.length ≤ 63) : M_law [.fz (ns.map .int)] = .ok (.sh (.bool true)) := by
  obtain ⟨ds, e1, _, _⟩ := e_draws ns hn
  have hp6 := pk_lt (xs := ds) (m := 6) (by decide)
  obtain ⟨l, hl⟩ : ∃ l : Nat, 1 + pk ds 6 = l := ⟨(1 + pk ds 6).toNat, by omega⟩
  obtain ⟨A, T, d2, e2, h, hA⟩ := e_dmach ds.dropLast l 12 (by omega) (by omega) (by omega)
  have e2 : M__law_machine [.io (ds.dropLast.map .int), .sh (.int l), .sh (.int 12)] = .ok (.sh (mD l A T)) (d2.map .int) := e2
  obtain ⟨t, ht⟩ : ∃ t : Str, t = mtext l A T := ⟨_, rfl⟩
  obtain ⟨tl1, tl2⟩ := mtext_len h hA
  rw [← ht] at tl1 tl2
  have rd := rd_mtext h
  rw [← ht] at rd
  have okm : OkD (mD l A T) 7260 3 := ok_mD (by have := h.l1; omega) h.l6 (by omega) (by have := h.t; omega) fun r hr => ⟨by have := h.r r hr; have := h.l6; omega, fun x hx => by have := h.e r hr x hx; omega⟩
  have okp : OkD (.tuple [.str "machine", mD l A T]) 7300 4 := (ok_pair (OkD.mach 3) okm).weak (by omega) (by omega)
  rw [M_law_eq]
  unfold ms_law
  refine (congrArg fin (seqx (ρ' := [some (.fz (ns.map .int)), OL ds, none, none]) ?_)).trans ?_
  · walk_at "ev"
    simp only [e1]
    walk_at "ev"
  refine (congrArg fin (seqx (ρ' := [some (.fz (ns.map .int)), OL d2, some (.sh (mD l A T)), none]) ?_)).trans ?_
  · walk_at "ev"
    simp only [e_pick _ _ (show (0 : Int) < 6 by decide)]
    walk_at "ev"
    rw [hl]
    simp only [e2]
    walk_at "ev"
  rw [mFrz_at, show frz 2 [some (Val.fz (ns.map .int)), OL d2, some (.sh (mD l A T)), none] = [some (.fz (ns.map .int)), OL d2, some (.sh (mD l A T)), none] from rfl]
  have s3 : mSet 3 (mDef M_machine_text (mCons (mVar 2) mNil)) [some (Val.fz (ns.map .int)), OL d2, some (.sh (mD l A T)), none] = .nx [some (.fz (ns.map .int)), OL d2, some (.sh (mD l A T)), some (.sh (.str t))] := by
    have e := e_mtext h (by omega)
    rw [← ht] at e
    exact set_s (def_at rfl e)
  rw [seqx s3, mFrz_at, mFrz_at, show frz 2 (frz 3 [some (Val.fz (ns.map .int)), OL d2, some (.sh (mD l A T)), some (.sh (.str t))]) = [some (.fz (ns.map .int)), OL d2, some (.sh (mD l A T)), some (.sh (.str t))] from rfl]
  obtain ⟨ρ, hρ⟩ : ∃ ρ : Rho, ρ = [some (.fz (ns.map .int)), OL d2, some (.sh (mD l A T)), some (.sh (.str t))] := ⟨_, rfl⟩
  rw [← hρ]
  have vm : mVar 2 ρ = .ok (.sh (mD l A T)) := by rw [hρ]; rfl
  have vt : mVar 3 ρ = .ok (.sh (.str t)) := by rw [hρ]; rfl
  have told := e_told (t := t) (by omega)
  rw [rd] at told
  have c1 : mOr (mTest (mOp (oOr oNeS oNe) (mVar 3) (mDef M__law_text (mCons (mVar 2) mNil)))) (mTest (mOp (oOr oNeS oNe) (mDef M__law_told (mCons (mVar 3) mNil)) (mTup (mCons (mC (.str "machine")) (mCons (mVar 2) mNil))))) ρ = .ok false := by
    have e := e_ltext h (by omega)
    rw [← ht] at e
    rw [or_f (test_b (op_at vt (def_at vm e) (ne_str t)))]
    exact test_b (op_at (def_at vt told) (tup2 rfl vm) (ne_self (okp.shaped (by decide)) fun z hz => by cases hz))
  have read : M_read_machine [.sh (.str t)] = .ok (.sh (mD l A T)) := by
    rcases e_read (t := t) (by omega) with ⟨k, z1, z2⟩ | ⟨m, z1, z2⟩
    · rw [rd] at z1
      exact absurd z1 (by
        intro z
        have z := congrArg (fun d : D => match d with
          | .tuple (.str s :: _) => s
          | _ => "") z
        exact absurd (show (Str.ofString "machine") = Str.ofString "fault" from z) (by decide +kernel))
    · rw [rd] at z1
      cases z1
      exact z2
  have hsm := okm.shows (by decide) (by decide)
  have c2 : mOr (mTest (mOp (oOr oNeS oNe) (mCall cRepr (mCons (mDef M_read_machine (mCons (mVar 3) mNil)) mNil)) (mCall cRepr (mCons (mVar 2) mNil)))) (mNot (mTru (mDef M__law_refuses (mCons (mTup (mCons (mC (.int 7)) (mCons (mOp oIx (mVar 2) (mC (.int 1))) (mCons (mOp oIx (mVar 2) (mC (.int 2))) mNil)))) mNil)))) ρ = .ok false := by
    rw [or_f (test_b (op_at (call1 (def_at vt read) (cRepr_D rfl hsm)) (call1 vm (cRepr_D rfl hsm)) (ne_str _)))]
    have r := e_refuses (A := A) (T := T) (by omega)
    have tp : mTup (mCons (mC (.int 7)) (mCons (mOp oIx (mVar 2) (mC (.int 1))) (mCons (mOp oIx (mVar 2) (mC (.int 2))) mNil))) ρ = .ok (.sh (mD 7 A T)) := tup3 rfl (op_at vm rfl rfl) (op_at vm rfl rfl)
    exact not_b (tru_b (def_at tp r))
  have y1 : mIf (mOr (mTest (mOp (oOr oNeS oNe) (mVar 3) (mDef M__law_text (mCons (mVar 2) mNil)))) (mTest (mOp (oOr oNeS oNe) (mDef M__law_told (mCons (mVar 3) mNil)) (mTup (mCons (mC (.str "machine")) (mCons (mVar 2) mNil)))))) (mRet (mC (.bool false))) mSkip ρ = .nx ρ := if_f c1
  have y2 : mIf (mOr (mTest (mOp (oOr oNeS oNe) (mCall cRepr (mCons (mDef M_read_machine (mCons (mVar 3) mNil)) mNil)) (mCall cRepr (mCons (mVar 2) mNil)))) (mNot (mTru (mDef M__law_refuses (mCons (mTup (mCons (mC (.int 7)) (mCons (mOp oIx (mVar 2) (mC (.int 1))) (mCons (mOp oIx (mVar 2) (mC (.int 2))) mNil)))) mNil))))) (mRet (mC (.bool false))) mSkip ρ = .nx ρ := if_f c2
  have f3 : frz 3 ρ = ρ := by rw [hρ]; rfl
  rw [seqx y1, mFrz_at, f3, seqx y2, mFrz_at, f3, hρ]
  have fin_ : ∀ (d3 : List Int) (u : Str), u.length ≤ 900 → fin (mFrz 3 (mRet (mOp (oOr oEqS oEq) (mCall cRepr (mCons (mDef M__law_told (mCons (mVar 3) mNil)) mNil)) (mCall cRepr (mCons (mDef M__law_due (mCons (mVar 3) mNil)) mNil)))) [some (.fz (ns.map .int)), OL d3, some (.sh (mD l A T)), some (.sh (.str u))]) = .ok (.sh (.bool true)) := fun d3 u hu => by
    have hs := (rd_ok hu).shows (by decide) (by decide)
    rw [mFrz_at, show frz 3 [some (Val.fz (ns.map .int)), OL d3, some (.sh (mD l A T)), some (.sh (.str u))] = [some (.fz (ns.map .int)), OL d3, some (.sh (mD l A T)), some (.sh (.str u))] from rfl, ret_at (op_at (call1 (def_at rfl (e_told (t := u) (by omega))) (cRepr_D rfl hs)) (call1 (def_at rfl (e_due (t := u) (by omega))) (cRepr_D rfl hs)) (eq_str _))]
    rfl
  by_cases c : pk d2 2 = 0
  · obtain ⟨u, zs, eu, hu⟩ := e_spoilt d2.dropLast (t := t) tl2 (by omega)
    refine (congrArg fin (seqx (ρ' := [some (.fz (ns.map .int)), OL zs, some (.sh (mD l A T)), some (.sh (.str u))]) ?_)).trans (fin_ zs u hu)
    walk_at "ev"
    simp only [e_pick _ _ (show (0 : Int) < 2 by decide)]
    walk_at "ev"
    simp only [c]
    walk_at "ev"
    simp only [eu]
    walk_at "ev"
  · refine (congrArg fin (seqx (ρ' := [some (.fz (ns.map .int)), OL d2.dropLast, some (.sh (mD l A T)), some (.sh (.str t))]) ?_)).trans (fin_ d2.dropLast t (by omega))
    walk_at "ev"
    simp only [e_pick _ _ (show (0 : Int) < 2 by decide)]
    walk_at "ev"
    simp only [c]
    walk_at "ev"
end Law

open PySem PySem.W PyProof.Rows
set_option maxHeartbeats 0 in
theorem PySem.Challenge.cw_yardsort_k35_texts_of_machines_holds : PySem.Challenge.rw_yardsort_k35_texts_of_machines.Holds := by
  w_on; o_law; k_head; (case hw => w_witness2)
  k_fill
  refine Mi.law_end (l := PySem.Challenge.rw_yardsort_k35_texts_of_machines) (n := 63) (k := 5) (x := "script") (M := Law.M_law) rfl (by decide) rfl ⟨rfl, by decide, by decide⟩ (fun w h Y => PySem.W.kIn_of Y) ?F (Law.says)
  case F =>
    intro w mg fa h KX G hmg
    refine' Law.all_mk KX G hmg ?a1__law_number ?l1__law_number ?c1__law_number ?k1__law_number ?a1__law_draws ?l1__law_draws ?c1__law_draws ?k1__law_draws ?a1__law_entry ?l1__law_entry ?c1__law_entry ?k1__law_entry ?a1__law_due ?l1__law_due ?c1__law_due ?k1__law_due ?a1__law_draw ?l1__law_draw ?c1__law_draw ?k1__law_draw ?a1__law_pick ?l1__law_pick ?c1__law_pick ?k1__law_pick ?a1__law_machine ?l1__law_machine ?c1__law_machine ?k1__law_machine ?a1__line_of ?l1__line_of ?c1__line_of ?k1__line_of ?a1_is_machine ?l1_is_machine ?c1_is_machine ?k1_is_machine ?a1_check_machine ?l1_check_machine ?c1_check_machine ?k1_check_machine ?a1_machine_text ?l1_machine_text ?c1_machine_text ?k1_machine_text ?a1__law_refuses ?l1__law_refuses ?c1__law_refuses ?k1__law_refuses ?a1__law_spoilt ?l1__law_spoilt ?c1__law_spoilt ?k1__law_spoilt ?a1__law_text ?l1__law_text ?c1__law_text ?k1__law_text ?a1__targets_in ?l1__targets_in ?c1__targets_in ?k1__targets_in ?a1_read_machine ?l1_read_machine ?c1_read_machine ?k1_read_machine ?a1__law_told ?l1__law_told ?c1__law_told ?k1__law_told ?a1_law ?l1_law ?c1_law ?k1_law ?z_all ?z_enumerate ?z_int ?z_isinstance ?z_len ?z_range ?z_repr ?z_str ?z_tuple ?z_zip ?dg_FLAGS ?dk_FLAGS ?dl_FLAGS ?dt_FLAGS ?dg_NUMBERS_OF_LETTERS ?dk_NUMBERS_OF_LETTERS ?dl_NUMBERS_OF_LETTERS ?dt_NUMBERS_OF_LETTERS ?v_DEAD ?v_MOST_LETTERS ?v_MOST_STATES ?v_NOWHERE ?e_Malformed ?k_Malformed ?r_Malformed ?t_Malformed ?e_NotMachine ?x_NotMachine ?k_NotMachine ?r_NotMachine ?t_NotMachine ?e_YardsortError ?x_YardsortError ?k_YardsortError ?r_YardsortError ?t_YardsortError ?ox_Malformed ?oy_Malformed ?oz_Malformed ?oi_Malformed ?ot_Malformed ?on_Malformed ?l1_Malformed_init ?c1_Malformed_init ?k1_Malformed_init ?i_Malformed ?i_NotMachine ?i_YardsortError ?s_YardsortError_Malformed ?s_NotMachine_Malformed ?s_Malformed_Malformed ?s_YardsortError_NotMachine ?s_NotMachine_NotMachine ?s_Malformed_NotMachine ?s_YardsortError_YardsortError ?s_NotMachine_YardsortError ?s_Malformed_YardsortError ?q5 ?q6 ?q0_YardsortError ?q1_YardsortError ?q2_YardsortError ?q3_YardsortError ?q4_YardsortError ?q0_NotMachine ?q1_NotMachine ?q2_NotMachine ?q3_NotMachine ?q4_NotMachine ?q0_Malformed ?q1_Malformed ?q2_Malformed ?q3_Malformed ?q4_Malformed ?o_YardsortError_Malformed ?o_NotMachine_Malformed ?o_Malformed_Malformed ?o_YardsortError_NotMachine ?o_NotMachine_NotMachine ?o_Malformed_NotMachine
    (case a1__law_number => k_is)
    (case l1__law_number => k_is)
    (case c1__law_number => k_is)
    (case k1__law_number => k_is)
    (case a1__law_draws => k_is)
    (case l1__law_draws => k_is)
    (case c1__law_draws => k_is)
    (case k1__law_draws => k_is)
    (case a1__law_entry => k_is)
    (case l1__law_entry => k_is)
    (case c1__law_entry => k_is)
    (case k1__law_entry => k_is)
    (case a1__law_due => k_is)
    (case l1__law_due => k_is)
    (case c1__law_due => k_is)
    (case k1__law_due => k_is)
    (case a1__law_draw => k_is)
    (case l1__law_draw => k_is)
    (case c1__law_draw => k_is)
    (case k1__law_draw => k_is)
    (case a1__law_pick => k_is)
    (case l1__law_pick => k_is)
    (case c1__law_pick => k_is)
    (case k1__law_pick => k_is)
    (case a1__law_machine => k_is)
    (case l1__law_machine => k_is)
    (case c1__law_machine => k_is)
    (case k1__law_machine => k_is)
    (case a1__line_of => k_is)
    (case l1__line_of => k_is)
    (case c1__line_of => k_is)
    (case k1__line_of => k_is)
    (case a1_is_machine => k_is)
    (case l1_is_machine => k_is)
    (case c1_is_machine => k_is)
    (case k1_is_machine => k_is)
    (case a1_check_machine => k_is)
    (case l1_check_machine => k_is)
    (case c1_check_machine => k_is)
    (case k1_check_machine => k_is)
    (case a1_machine_text => k_is)
    (case l1_machine_text => k_is)
    (case c1_machine_text => k_is)
    (case k1_machine_text => k_is)
    (case a1__law_refuses => k_is)
    (case l1__law_refuses => k_is)
    (case c1__law_refuses => k_is)
    (case k1__law_refuses => k_is)
    (case a1__law_spoilt => k_is)
    (case l1__law_spoilt => k_is)
    (case c1__law_spoilt => k_is)
    (case k1__law_spoilt => k_is)
    (case a1__law_text => k_is)
    (case l1__law_text => k_is)
    (case c1__law_text => k_is)
    (case k1__law_text => k_is)
    (case a1__targets_in => k_is)
    (case l1__targets_in => k_is)
    (case c1__targets_in => k_is)
    (case k1__targets_in => k_is)
    (case a1_read_machine => k_is)
    (case l1_read_machine => k_is)
    (case c1_read_machine => k_is)
    (case k1_read_machine => k_is)
    (case a1__law_told => k_is)
    (case l1__law_told => k_is)
    (case c1__law_told => k_is)
    (case k1__law_told => k_is)
    (case a1_law => k_is)
    (case l1_law => k_is)
    (case c1_law => k_is)
    (case k1_law => k_is)
    (case z_all => k_is)
    (case z_enumerate => k_is)
    (case z_int => k_is)
    (case z_isinstance => k_is)
    (case z_len => k_is)
    (case z_range => k_is)
    (case z_repr => k_is)
    (case z_str => k_is)
    (case z_tuple => k_is)
    (case z_zip => k_is)
    (case dg_FLAGS => k_is)
    (case dk_FLAGS => k_is)
    (case dl_FLAGS => first | rfl | decide)
    (case dt_FLAGS => repeat (first | exact True.intro | refine And.intro ⟨⟨_, rfl⟩, rfl⟩ (And.intro (by first | exact ⟨.int _, fun _ => .int _, _, rfl⟩ | exact ⟨.bl _, fun _ => .bl _, rfl⟩ | exact ⟨.str _, fun _ => .str _, _, rfl⟩ | exact ⟨.non, fun _ => .non, rfl⟩) ?_)))
    (case dg_NUMBERS_OF_LETTERS => k_is)
    (case dk_NUMBERS_OF_LETTERS => k_is)
    (case dl_NUMBERS_OF_LETTERS => first | rfl | decide)
    (case dt_NUMBERS_OF_LETTERS => repeat (first | exact True.intro | refine And.intro ⟨⟨_, rfl⟩, rfl⟩ (And.intro (by first | exact ⟨.int _, fun _ => .int _, _, rfl⟩ | exact ⟨.bl _, fun _ => .bl _, rfl⟩ | exact ⟨.str _, fun _ => .str _, _, rfl⟩ | exact ⟨.non, fun _ => .non, rfl⟩) ?_)))
    (case v_DEAD => k_is)
    (case v_MOST_LETTERS => k_is)
    (case v_MOST_STATES => k_is)
    (case v_NOWHERE => k_is)
    (case e_Malformed => k_is)
    (case k_Malformed => k_is)
    (case r_Malformed => k_is)
    (case t_Malformed => k_is)
    (case e_NotMachine => k_is)
    (case x_NotMachine => k_exc)
    (case k_NotMachine => k_is)
    (case r_NotMachine => k_is)
    (case t_NotMachine => k_is)
    (case e_YardsortError => k_is)
    (case x_YardsortError => k_exc)
    (case k_YardsortError => k_is)
    (case r_YardsortError => k_is)
    (case t_YardsortError => k_is)
    (case ox_Malformed => k_is)
    (case oy_Malformed => first | rfl | decide)
    (case oz_Malformed => k_is)
    (case oi_Malformed => k_is)
    (case ot_Malformed => k_is)
    (case on_Malformed => k_is)
    (case l1_Malformed_init => k_is)
    (case c1_Malformed_init => k_is)
    (case k1_Malformed_init => k_is)
    (case i_Malformed => k_is)
    (case i_NotMachine => k_is)
    (case i_YardsortError => k_is)
    (case s_YardsortError_Malformed => first | rfl | k_is)
    (case s_NotMachine_Malformed => first | rfl | k_is)
    (case s_Malformed_Malformed => first | rfl | k_is)
    (case s_YardsortError_NotMachine => first | rfl | k_is)
    (case s_NotMachine_NotMachine => first | rfl | k_is)
    (case s_Malformed_NotMachine => first | rfl | k_is)
    (case s_YardsortError_YardsortError => first | rfl | k_is)
    (case s_NotMachine_YardsortError => first | rfl | k_is)
    (case s_Malformed_YardsortError => first | rfl | k_is)
    (case q5 => k_is)
    (case q6 => k_is)
    (case q0_YardsortError => k_is)
    (case q1_YardsortError => k_is)
    (case q2_YardsortError => k_is)
    (case q3_YardsortError => k_is)
    (case q4_YardsortError => k_is)
    (case q0_NotMachine => k_is)
    (case q1_NotMachine => k_is)
    (case q2_NotMachine => k_is)
    (case q3_NotMachine => k_is)
    (case q4_NotMachine => k_is)
    (case q0_Malformed => k_is)
    (case q1_Malformed => k_is)
    (case q2_Malformed => k_is)
    (case q3_Malformed => k_is)
    (case q4_Malformed => k_is)
    (case o_YardsortError_Malformed => first | kit_is | rfl | k_is)
    (case o_NotMachine_Malformed => first | kit_is | rfl | k_is)
    (case o_Malformed_Malformed => first | kit_is | rfl | k_is)
    (case o_YardsortError_NotMachine => first | kit_is | rfl | k_is)
    (case o_NotMachine_NotMachine => first | kit_is | rfl | k_is)
    (case o_Malformed_NotMachine => first | kit_is | rfl | k_is)
