import PyProof.Rows.All
import HandS.ForExc
import HandS.Evl
import HandS.CallSlots
import HandS.Defaults
import HandS.Walk
import HandS.Zip
import HandS.Rev
import HandS.Star
import HandS.TupAny
import HandS.Style
import HandS.Wide
import HandS.IsInst
import HandS.SortInts
import HandS.ForMost
import HandS.Conv
import HandS.MakeKwOnly
import HandS.ExcInit
import HandS.ExcField
import HandS.TryMany
import KE.KExcIs
import HandS.HeadEnd
import HandS.HeadHook1
import HandS.HeadHook2
import PyProof.ReprLen
import Wide.All
import OpenK.AllK
import Wide.FinOn
import KE.KStateDown
import Lean
import HandS.Head0
import HandS.Head1
import HandS.Head2
import HandS.HeadHook3
import HandS.HeadHook4
import PySem.Challenge.RW_jumblepost_k60_stores
set_option Elab.async false
set_option linter.all false
set_option maxRecDepth 100000
set_option maxHeartbeats 2000000
/-! Data, the objects that change, transitions between worlds, frames of data, and the judgements. -/
namespace JQ
open PySem PySem.Spec PyProof.Rows L2
open Evl (Ex ex_l ex_t)
/-! ### data -/
inductive D where
  | non | bl (b : Bool) | int (i : Int) | str (x : Str) | tup (ds : List D) | lst (ds : List D) | obj (C : Addr) (fs : List (Str × D)) | adr (v : V) | scr (ds : List D)
/-- a reference to an object that may change -/
abbrev D.rf (a : Addr) : D := .adr (.ref a)
mutual
inductive Is (K : PySem.W.Frag) (G : Hp) : V → D → Prop
  | non : Is K G .non .non
  | bl (b : Bool) : Is K G (.bl b) (.bl b)
  | int (i : Int) : Is K G (.int i) (.int i)
  | str (x : Str) : Is K G (.str x) (.str x)
  | tup {a : Addr} {xs : List V} {ds : List D} : SqT K G a xs → Iss K G xs ds → Is K G (.ref a) (.tup ds)
  | lst {a : Addr} {xs : List V} {ds : List D} : G a = some (.lst xs) → Iss K G xs ds → Is K G (.ref a) (.lst ds)
  | obj {a C dx : Addr} {fs : List (Str × V)} {gs : List (Str × D)} : G a = some (.ins C dx fs) → IsF K G fs gs → Is K G (.ref a) (.obj C gs)
  | adr (v : V) : Is K G v (.adr v)
  | scr {a : Addr} {xs : List V} {ds : List D} : SqL K G a xs → Iss K G xs ds → Is K G (.ref a) (.scr ds)
inductive Iss (K : PySem.W.Frag) (G : Hp) : List V → List D → Prop
  | nil : Iss K G [] []
  | cons {x : V} {d : D} {xs : List V} {ds : List D} : Is K G x d → Iss K G xs ds → Iss K G (x :: xs) (d :: ds)
inductive IsF (K : PySem.W.Frag) (G : Hp) : List (Str × V) → List (Str × D) → Prop
  | nil : IsF K G [] []
  | cons {f : Str} {x : V} {d : D} {xs : List (Str × V)} {ds : List (Str × D)} : Is K G x d → IsF K G xs ds → IsF K G ((f, x) :: xs) ((f, d) :: ds)
end
section
variable {K : PySem.W.Frag} {G G' : Hp}
mutual
theorem Is.mono (e : Ex G G') : ∀ {v : V} {d : D}, Is K G v d → Is K G' v d
  | _, _, .non => .non
  | _, _, .bl b => .bl b
  | _, _, .int b => .int b
  | _, _, .str b => .str b
  | _, _, .tup h r => .tup (ex_t e h) (Iss.mono e r)
  | _, _, .lst h r => .lst (e _ _ h) (Iss.mono e r)
  | _, _, .obj h r => .obj (e _ _ h) (IsF.mono e r)
  | _, _, .adr v => .adr v
  | _, _, .scr h r => .scr (ex_l e h) (Iss.mono e r)
theorem Iss.mono (e : Ex G G') : ∀ {v : List V} {d : List D}, Iss K G v d → Iss K G' v d
  | _, _, .nil => .nil
  | _, _, .cons h r => .cons (Is.mono e h) (Iss.mono e r)
theorem IsF.mono (e : Ex G G') : ∀ {v : List (Str × V)} {d : List (Str × D)}, IsF K G v d → IsF K G' v d
  | _, _, .nil => .nil
  | _, _, .cons h r => .cons (Is.mono e h) (IsF.mono e r)
end
theorem Iss.length : ∀ {v : List V} {d : List D}, Iss K G v d → v.length = d.length
  | _, _, .nil => rfl
  | _, _, .cons _ r => by rw [List.length_cons, List.length_cons, r.length]
theorem Iss.get : ∀ {v : List V} {d : List D} {i : Nat} {x : V}, Iss K G v d → v[i]? = some x → ∃ y, d[i]? = some y ∧ Is K G x y
  | _, _, _, _, .nil, e => by simp at e
  | _, _, 0, _, .cons h _, e => by simp at e; subst e; exact ⟨_, rfl, h⟩
  | _, _, i + 1, x, .cons _ r, e => by simpa using r.get (i := i) (x := x) (by simpa using e)
theorem Iss.get' : ∀ {v : List V} {d : List D} {i : Nat} {y : D}, Iss K G v d → d[i]? = some y → ∃ x, v[i]? = some x ∧ Is K G x y
  | _, _, _, _, .nil, e => by simp at e
  | _, _, 0, _, .cons h _, e => by simp at e; subst e; exact ⟨_, rfl, h⟩
  | _, _, i + 1, x, .cons _ r, e => by simpa using r.get' (i := i) (y := x) (by simpa using e)
theorem Iss.append : ∀ {v w : List V} {d e : List D}, Iss K G v d → Iss K G w e → Iss K G (v ++ w) (d ++ e)
  | _, _, _, _, .nil, s => s
  | _, _, _, _, .cons h r, s => .cons h (r.append s)
theorem Iss.take (n : Nat) : ∀ {v : List V} {d : List D}, Iss K G v d → Iss K G (v.take n) (d.take n) := by
  induction n with
  | zero => intro v d _; simp only [List.take_zero]; exact .nil
  | succ n ih =>
    intro v d h
    cases h with
    | nil => exact .nil
    | cons h r => exact .cons h (ih r)
theorem Iss.drop (n : Nat) : ∀ {v : List V} {d : List D}, Iss K G v d → Iss K G (v.drop n) (d.drop n) := by
  induction n with
  | zero => intro v d h; exact h
  | succ n ih =>
    intro v d h
    cases h with
    | nil => exact .nil
    | cons h r => exact ih r
theorem Iss.rev : ∀ {v : List V} {d : List D}, Iss K G v d → Iss K G v.reverse d.reverse
  | _, _, .nil => .nil
  | _, _, .cons h r => by rw [List.reverse_cons, List.reverse_cons]; exact r.rev.append (.cons h .nil)
theorem Iss.set {x : V} {y : D} (q : Is K G x y) : ∀ {v : List V} {d : List D} (i : Nat), Iss K G v d → Iss K G (v.set i x) (d.set i y)
  | _, _, _, .nil => .nil
  | _, _, 0, .cons _ r => .cons q r
  | _, _, i + 1, .cons h r => .cons h (r.set q i)
theorem Iss.erase : ∀ {v : List V} {d : List D} (i : Nat), Iss K G v d → Iss K G (v.eraseIdx i) (d.eraseIdx i)
  | _, _, _, .nil => .nil
  | _, _, 0, .cons _ r => r
  | _, _, i + 1, .cons h r => .cons h (r.erase i)
theorem Iss.dropLast : ∀ {v : List V} {d : List D}, Iss K G v d → Iss K G v.dropLast d.dropLast
  | _, _, .nil => .nil
  | _, _, .cons _ .nil => .nil
  | _, _, .cons h (.cons h2 r) => .cons h (Iss.dropLast (.cons h2 r))
theorem IsF.look : ∀ {v : List (Str × V)} {d : List (Str × D)} {f : Str} {y : D}, IsF K G v d → d.lookup f = some y → ∃ x, v.lookup f = some x ∧ Is K G x y
  | _, _, _, _, .nil, e => by cases e
  | _, _, f, y, .cons (f := g) h r, e => by
    rw [List.lookup_cons] at e ⊢
    cases c : f == g with
    | true =>
      rw [c] at e
      cases e
      exact ⟨_, rfl, h⟩
    | false =>
      rw [c] at e
      exact r.look e
theorem IsF.lookN : ∀ {v : List (Str × V)} {d : List (Str × D)} {f : Str}, IsF K G v d → d.lookup f = none → v.lookup f = none
  | _, _, _, .nil, e => rfl
  | _, _, f, .cons (f := g) h r, e => by
    rw [List.lookup_cons] at e ⊢
    cases c : f == g with
    | true =>
      rw [c] at e
      cases e
    | false =>
      rw [c] at e
      exact r.lookN e
theorem IsF.length : ∀ {v : List (Str × V)} {d : List (Str × D)}, IsF K G v d → v.length = d.length
  | _, _, .nil => rfl
  | _, _, .cons _ r => by rw [List.length_cons, List.length_cons, r.length]
/-- a field is put -/
def putD (f : Str) (y : D) : List (Str × D) → List (Str × D)
  | [] => [(f, y)]
  | (g, x) :: r => if g = f then (g, y) :: r else (g, x) :: putD f y r
theorem IsF.put {f : Str} {x : V} {y : D} (q : Is K G x y) : ∀ {v : List (Str × V)} {d : List (Str × D)}, IsF K G v d → IsF K G (putF f x v) (putD f y d)
  | _, _, .nil => .cons q .nil
  | _, _, .cons (f := g) h r => by
    unfold putF putD
    by_cases c : g = f
    · rw [if_pos c, if_pos c]; exact .cons q r
    · rw [if_neg c, if_neg c]; exact .cons h (r.put q)
end
/-! ### what may change -/
inductive MO where
  | lst (ds : List D) | ins (C : Addr) (fs : List (Str × D)) | dT (es : List (List Key × D)) | dK (es : List (Key × D)) | xd (fs : List (Str × D)) | tp (ds : List D)
abbrev Mm := Addr → Option MO
def mup (M : Mm) (a : Addr) (o : MO) : Mm := fun b => if b = a then some o else M b
def mdel (M : Mm) (a : Addr) : Mm := fun b => if b = a then none else M b
def m0 : Mm := fun _ => none
def Msub (M M' : Mm) : Prop := ∀ a o, M a = some o → M' a = some o
theorem Msub.refl {M : Mm} : Msub M M := fun _ _ h => h
theorem mup_same {M : Mm} {a : Addr} {o : MO} : mup M a o a = some o := if_pos rfl
theorem mup_ne {M : Mm} {a b : Addr} {o : MO} (h : b ≠ a) : mup M a o b = M b := if_neg h
theorem mdel_same {M : Mm} {a : Addr} : mdel M a a = none := if_pos rfl
theorem mdel_ne {M : Mm} {a b : Addr} (h : b ≠ a) : mdel M a b = M b := if_neg h
theorem mup_mup {M : Mm} {a : Addr} {o o' : MO} : mup (mup M a o) a o' = mup M a o' := by
  funext b
  unfold mup
  by_cases h : b = a
  · rw [if_pos h, if_pos h]
  · rw [if_neg h, if_neg h, if_neg h]
theorem mup_comm {M : Mm} {a b : Addr} {o o' : MO} (h : a ≠ b) : mup (mup M a o) b o' = mup (mup M b o') a o := by
  funext c
  unfold mup
  by_cases h1 : c = b
  · rw [if_pos h1, if_neg (by rw [h1]; exact fun z => h z.symm), if_pos h1]
  · rw [if_neg h1, if_neg h1]
theorem mdel_mup {M : Mm} {a : Addr} {o : MO} (h : M a = none) : mdel (mup M a o) a = M := by
  funext b
  unfold mdel mup
  by_cases c : b = a
  · rw [if_pos c, c, h]
  · rw [if_neg c, if_neg c]
theorem mdel_mup_ne {M : Mm} {a b : Addr} {o : MO} (h : a ≠ b) : mdel (mup M a o) b = mup (mdel M b) a o := by
  funext c
  by_cases h1 : c = b
  · rw [h1, mdel_same, mup_ne (fun z => h z.symm), mdel_same]
  · rw [mdel_ne h1]
    unfold mup
    rw [mdel_ne h1]
theorem mdel_none {M : Mm} {a : Addr} (h : M a = none) : mdel M a = M := by
  funext b
  unfold mdel
  by_cases c : b = a
  · rw [if_pos c, c, h]
  · rw [if_neg c]
theorem mup_id {M : Mm} {a : Addr} {o : MO} (h : M a = some o) : mup M a o = M := by
  funext b
  unfold mup
  by_cases c : b = a
  · rw [if_pos c, c, h]
  · rw [if_neg c]
theorem msub_up {M : Mm} {a : Addr} {o : MO} (h : M a = none) : Msub M (mup M a o) := fun b u e => by
  by_cases c : b = a
  · rw [c, h] at e; cases e
  · rw [mup_ne c]; exact e
theorem msub_del {M : Mm} {a : Addr} : Msub (mdel M a) M := fun b u e => by
  by_cases c : b = a
  · rw [c, mdel_same] at e; cases e
  · rw [mdel_ne c] at e; exact e
def Ob (K : PySem.W.Frag) (G : Hp) : HO → MO → Prop
  | .lst vs, .lst ds => Iss K G vs ds
  | .ins C _ vs, .ins C' fs => C = C' ∧ IsF K G vs fs
  | .dT kvs, .dT es => Paired (fun p q => p.1 = q.1 ∧ Is K G p.2 q.2) kvs es
  | .dK kvs, .dK es => Paired (fun p q => p.1 = q.1 ∧ Is K G p.2 q.2) kvs es
  | .xd vs, .xd fs => IsF K G vs fs
  | .tup vs, .tp ds => Iss K G vs ds
  | _, _ => False
theorem Ob.mono {K : PySem.W.Frag} {G G' : Hp} (e : Ex G G') {o : HO} {b : MO} (h : Ob K G o b) : Ob K G' o b := by
  cases b with
  | lst ds => cases o <;> first | exact Iss.mono e h | exact h.elim
  | ins C fs => cases o <;> first | exact ⟨h.1, IsF.mono e h.2⟩ | exact h.elim
  | dT es => cases o <;> first | exact L2.Paired.mapP h (fun a b q => ⟨q.1, q.2.mono e⟩) | exact h.elim
  | dK es => cases o <;> first | exact L2.Paired.mapP h (fun a b q => ⟨q.1, q.2.mono e⟩) | exact h.elim
  | xd fs => cases o <;> first | exact IsF.mono e h | exact h.elim
  | tp ds => cases o <;> first | exact Iss.mono e h | exact h.elim
theorem Ob.lst {K : PySem.W.Frag} {G : Hp} {o : HO} {ds : List D} (h : Ob K G o (.lst ds)) : ∃ vs, o = .lst vs ∧ Iss K G vs ds := by
  cases o <;> first | exact ⟨_, rfl, h⟩ | exact h.elim
theorem Ob.ins {K : PySem.W.Frag} {G : Hp} {o : HO} {C : Addr} {fs : List (Str × D)} (h : Ob K G o (.ins C fs)) : ∃ dx vs, o = .ins C dx vs ∧ IsF K G vs fs := by
  cases o <;> first | (obtain ⟨rfl, h⟩ := h; exact ⟨_, _, rfl, h⟩) | exact h.elim
theorem Ob.xd {K : PySem.W.Frag} {G : Hp} {o : HO} {fs : List (Str × D)} (h : Ob K G o (.xd fs)) : ∃ vs, o = .xd vs ∧ IsF K G vs fs := by
  cases o <;> first | exact ⟨_, rfl, h⟩ | exact h.elim
theorem Ob.tp {K : PySem.W.Frag} {G : Hp} {o : HO} {ds : List D} (h : Ob K G o (.tp ds)) : ∃ vs, o = .tup vs ∧ Iss K G vs ds := by
  cases o <;> first | exact ⟨_, rfl, h⟩ | exact h.elim
theorem Ob.dT {K : PySem.W.Frag} {G : Hp} {o : HO} {es : List (List Key × D)} (h : Ob K G o (.dT es)) : ∃ vs, o = .dT vs ∧ Paired (fun p q => p.1 = q.1 ∧ Is K G p.2 q.2) vs es := by
  cases o <;> first | exact ⟨_, rfl, h⟩ | exact h.elim
/-! ### worlds and steps between them -/
structure Wd (K : PySem.W.Frag) (G H : Hp) (M : Mm) : Prop where
  gh : Ex G H
  mo : ∀ a o, M a = some o → G a = none ∧ ∃ u, H a = some u ∧ Ob K G u o
structure Tr (K : PySem.W.Frag) (G H : Hp) (M : Mm) (G' H' : Hp) (M' : Mm) : Prop where
  gg : Ex G G'
  wd : Wd K G' H' M'
  fr : ∀ a o, H a = some o → M a = none → H' a = some o ∧ M' a = none ∧ G' a = G a
  lv : ∀ a o, H a = some o → ∃ o', H' a = some o'
section
variable {K : PySem.W.Frag} {G H G' H' G2 H2 : Hp} {M M' M2 : Mm} {p : Addr} {o : HO} {b : MO}
theorem Tr.gh (t : Tr K G H M G' H' M') : Ex G' H' := t.wd.gh
theorem Tr.trans (a : Tr K G H M G' H' M') (b : Tr K G' H' M' G2 H2 M2) : Tr K G H M G2 H2 M2 where
  gg := a.gg.trans b.gg
  wd := b.wd
  fr := fun x o h m => by
    obtain ⟨h1, h2, h3⟩ := a.fr x o h m
    obtain ⟨h4, h5, h6⟩ := b.fr x o h1 h2
    exact ⟨h4, h5, h6.trans h3⟩
  lv := fun x o h => by
    obtain ⟨o', h'⟩ := a.lv x o h
    exact b.lv x o' h'
theorem Wd.refl (w : Wd K G H M) : Tr K G H M G H M := ⟨Ex.refl _, w, fun _ _ h m => ⟨h, m, rfl⟩, fun _ o h => ⟨o, h⟩⟩
theorem Wd.gnone (w : Wd K G H M) (n : H p = none) : G p = none := by
  cases e : G p with
  | none => rfl
  | some q => rw [w.gh p q e] at n; cases n
theorem Wd.mnone (w : Wd K G H M) (n : H p = none) : M p = none := by
  cases e : M p with
  | none => rfl
  | some q =>
    obtain ⟨_, u, h, _⟩ := w.mo p q e
    rw [h] at n; cases n
/-- a new object of data -/
theorem Wd.new (w : Wd K G H M) (n : H p = none) : Tr K G H M (upd G p o) (upd H p o) M where
  gg := Ex.new (w.gnone n)
  wd := ⟨fun a u e => by
    by_cases c : a = p
    · subst c; rw [upd_same] at e ⊢; exact e
    · rw [upd_ne c] at e ⊢; exact w.gh a u e, fun a u e => by
    obtain ⟨h1, v, h2, h3⟩ := w.mo a u e
    rw [upd_ne (ne_of_none h2 n), upd_ne (ne_of_none h2 n)]
    exact ⟨h1, v, h2, h3.mono (Ex.new (w.gnone n))⟩⟩
  fr := fun a u e m => ⟨by rw [upd_ne (ne_of_none e n)]; exact e, m, by rw [upd_ne (ne_of_none e n)]⟩
  lv := fun a u e => ⟨u, by rw [upd_ne (ne_of_none e n)]; exact e⟩
/-- a new object that is no data -/
theorem Wd.extra (w : Wd K G H M) (n : H p = none) : Tr K G H M G (upd H p o) M where
  gg := Ex.refl _
  wd := ⟨w.gh.trans (Ex.new n), fun a u e => by
    obtain ⟨h1, v, h2, h3⟩ := w.mo a u e
    rw [upd_ne (ne_of_none h2 n)]
    exact ⟨h1, v, h2, h3⟩⟩
  fr := fun a u e m => ⟨by rw [upd_ne (ne_of_none e n)]; exact e, m, rfl⟩
  lv := fun a u e => ⟨u, by rw [upd_ne (ne_of_none e n)]; exact e⟩
/-- a new object that may change -/
theorem Wd.newM (w : Wd K G H M) (n : H p = none) (hb : Ob K G o b) : Tr K G H M G (upd H p o) (mup M p b) where
  gg := Ex.refl _
  wd := ⟨w.gh.trans (Ex.new n), fun a u e => by
    by_cases c : a = p
    · subst c
      rw [mup_same] at e
      cases e
      exact ⟨w.gnone n, o, upd_same, hb⟩
    · rw [mup_ne c] at e
      obtain ⟨h1, v, h2, h3⟩ := w.mo a u e
      rw [upd_ne c]
      exact ⟨h1, v, h2, h3⟩⟩
  fr := fun a u e m => ⟨by rw [upd_ne (ne_of_none e n)]; exact e, by rw [mup_ne (ne_of_none e n)]; exact m, rfl⟩
  lv := fun a u e => ⟨u, by rw [upd_ne (ne_of_none e n)]; exact e⟩
/-- an object changes -/
theorem Wd.put {b0 : MO} (w : Wd K G H M) (m : M p = some b0) (hb : Ob K G o b) : Tr K G H M G (upd H p o) (mup M p b) where
  gg := Ex.refl _
  wd := ⟨fun a u e => by
    have ne : a ≠ p := fun z => by rw [z, (w.mo p b0 m).1] at e; cases e
    rw [upd_ne ne]
    exact w.gh a u e, fun a u e => by
    by_cases c : a = p
    · subst c
      rw [mup_same] at e
      cases e
      exact ⟨(w.mo _ _ m).1, o, upd_same, hb⟩
    · rw [mup_ne c] at e
      obtain ⟨h1, v, h2, h3⟩ := w.mo a u e
      rw [upd_ne c]
      exact ⟨h1, v, h2, h3⟩⟩
  fr := fun a u e n => by
    have ne : a ≠ p := fun z => by rw [z, m] at n; cases n
    rw [upd_ne ne, mup_ne ne]
    exact ⟨e, n, rfl⟩
  lv := fun a u e => by
    by_cases c : a = p
    · exact ⟨o, by rw [c, upd_same]⟩
    · exact ⟨u, by rw [upd_ne c]; exact e⟩
/-- an object becomes data -/
theorem Wd.frz (w : Wd K G H M) (m : M p = some b) (h : H p = some o) : Tr K G H M (upd G p o) H (mdel M p) where
  gg := Ex.new (w.mo p b m).1
  wd := ⟨fun a u e => by
    by_cases c : a = p
    · subst c; rw [upd_same] at e; cases e; exact h
    · rw [upd_ne c] at e; exact w.gh a u e, fun a u e => by
    by_cases c : a = p
    · subst c; rw [mdel_same] at e; cases e
    · rw [mdel_ne c] at e
      obtain ⟨h1, v, h2, h3⟩ := w.mo a u e
      rw [upd_ne c]
      exact ⟨h1, v, h2, h3.mono (Ex.new (w.mo p b m).1)⟩⟩
  fr := fun a u e n => by
    have ne : a ≠ p := fun z => by rw [z, m] at n; cases n
    rw [mdel_ne ne, upd_ne ne]
    exact ⟨e, n, rfl⟩
  lv := fun a u e => ⟨u, e⟩
/-- an object is forgotten -/
theorem Wd.drop (w : Wd K G H M) (s : Msub M' M) : Tr K G H M G H M' where
  gg := Ex.refl _
  wd := ⟨w.gh, fun a u e => w.mo a u (s a u e)⟩
  fr := fun a u e n => by
    refine ⟨e, ?_, rfl⟩
    cases c : M' a with
    | none => rfl
    | some z => rw [s a z c] at n; cases n
  lv := fun a u e => ⟨u, e⟩
end
/-! ### frames -/
/-- slots: none (unknown), or data -/
abbrev S := Option D
/-- a body: its context, what may be raised in it (class, fields, what changed, slots) -/
structure Bd where
  X : Cx
  EE : Addr → List (Str × D) → Mm → List S → Prop
/-- where a body began -/
structure Bs where
  G : Hp
  H : Hp
  M : Mm
structure Frm (K : PySem.W.Frag) (G : Hp) (σ : L2.St) (ss : List S) : Prop where
  len : σ.length = ss.length
  sl : ∀ (i : Nat) (x : Option V) (d : D), σ[i]? = some x → ss[i]? = some (some d) → ∃ v, x = some v ∧ Is K G v d
def ErrOk (Y : Bd) (B : Bs) : Prop := ∃ W : WX, Takes Y.X W ∧ ∀ C gs fs d σ G H M M' ss, Y.EE C gs M' ss → Msub M' M → Tr Y.X.K B.G B.H B.M G H M → Frm Y.X.K G σ ss → B.H d = none → G d = none → M d = none → H d = some (.xd fs) → IsF Y.X.K G fs gs → W (.ref C) (some d) σ H
structure StOk (Y : Bd) (B : Bs) (σ : L2.St) (G H : Hp) (M : Mm) (ss : List S) : Prop where
  t : Tr Y.X.K B.G B.H B.M G H M
  er : ErrOk Y B
  f : Frm Y.X.K G σ ss
section
variable {Y : Bd} {B : Bs} {G H G' H' : Hp} {M M' : Mm} {σ : L2.St} {ss : List S}
theorem StOk.w (h : StOk Y B σ G H M ss) : Wd Y.X.K G H M := h.t.wd
theorem StOk.gh (h : StOk Y B σ G H M ss) : Ex G H := h.t.wd.gh
theorem StOk.refl (h : StOk Y B σ G H M ss) : Tr Y.X.K G H M G H M := h.t.wd.refl
theorem Frm.mono {K : PySem.W.Frag} (h : Frm K G σ ss) (e : Ex G G') : Frm K G' σ ss := ⟨h.len, fun i x d a b => by
  obtain ⟨v, q, r⟩ := h.sl i x d a b
  exact ⟨v, q, r.mono e⟩⟩
theorem StOk.go (h : StOk Y B σ G H M ss) (e : Tr Y.X.K G H M G' H' M') : StOk Y B σ G' H' M' ss := ⟨h.t.trans e, h.er, h.f.mono e.gg⟩
theorem StOk.slot (h : StOk Y B σ G H M ss) {i : Nat} {d : D} (e : ss[i]? = some (some d)) : ∃ v, σ[i]? = some (some v) ∧ Is Y.X.K G v d := by
  have hi : i < σ.length := by
    rw [h.f.len]
    exact (List.getElem?_eq_some_iff.mp e).1
  obtain ⟨v, q, r⟩ := h.f.sl i σ[i] _ (by simp [hi]) e
  exact ⟨v, by simp [hi, q], r⟩
theorem getElem?_setx {α : Type} {l : List α} {i j : Nat} {a x : α} (h : (l.set i a)[j]? = some x) : (i = j ∧ x = a) ∨ (i ≠ j ∧ l[j]? = some x) := by
  by_cases c : i = j
  · subst c
    by_cases hi : i < l.length
    · rw [List.getElem?_set_self hi] at h
      cases h
      exact .inl ⟨rfl, rfl⟩
    · rw [List.getElem?_eq_none (by simpa using hi)] at h
      cases h
  · rw [List.getElem?_set_ne c] at h
    exact .inr ⟨c, h⟩
theorem Frm.set {K : PySem.W.Frag} (h : Frm K G σ ss) {v : V} {d : D} (r : Is K G v d) (i : Nat) : Frm K G (σ.set i (some v)) (ss.set i (some d)) := by
  refine ⟨by simp [h.len], fun j x s a b => ?_⟩
  rcases getElem?_setx a with ⟨ij, rfl⟩ | ⟨ij, a⟩
  · rcases getElem?_setx b with ⟨_, e⟩ | ⟨z, _⟩
    · cases e
      exact ⟨v, rfl, r⟩
    · exact absurd ij z
  · rcases getElem?_setx b with ⟨z, _⟩ | ⟨_, b⟩
    · exact absurd z ij
    · exact h.sl j x s a b
theorem Frm.forget {K : PySem.W.Frag} (h : Frm K G σ ss) (o : Option V) (i : Nat) : Frm K G (σ.set i o) (ss.set i none) := by
  refine ⟨by simp [h.len], fun j x s a b => ?_⟩
  rcases getElem?_setx b with ⟨_, e⟩ | ⟨z, b⟩
  · cases e
  · rcases getElem?_setx a with ⟨w, _⟩ | ⟨_, a⟩
    · exact absurd w z
    · exact h.sl j x s a b
/-- a slot is known by other words -/
theorem Frm.say {K : PySem.W.Frag} (h : Frm K G σ ss) {i : Nat} {d : D} (r : ∀ v, σ[i]? = some (some v) → Is K G v d) (e : ∃ v, σ[i]? = some (some v)) : Frm K G σ (ss.set i (some d)) := by
  refine ⟨by simp [h.len], fun j x s a b => ?_⟩
  rcases getElem?_setx b with ⟨ij, e2⟩ | ⟨_, b⟩
  · subst ij
    cases e2
    obtain ⟨v, ev⟩ := e
    rw [ev] at a
    cases a
    exact ⟨v, rfl, r v ev⟩
  · exact h.sl j x s a b
theorem StOk.set (h : StOk Y B σ G H M ss) {v : V} {d : D} (r : Is Y.X.K G v d) (i : Nat) : StOk Y B (σ.set i (some v)) G H M (ss.set i (some d)) := ⟨h.t, h.er, h.f.set r i⟩
theorem StOk.forget (h : StOk Y B σ G H M ss) (o : Option V) (i : Nat) : StOk Y B (σ.set i o) G H M (ss.set i none) := ⟨h.t, h.er, h.f.forget o i⟩
end
/-! ### the weakest readings -/
section
variable (X : Cx)
def wE (e : Expr) : TE := fun σ H Q => ∀ pins s, Inv X pins σ H s → wpAny (model X.prog X.w) X.A (eval e X.env) (EP X pins σ Q) X.xe s
def wT (e : Expr) : TT := fun σ H Q => ∀ pins s, Inv X pins σ H s → wpAny (model X.prog X.w) X.A (isTrue e X.env (eval e X.env)) (TP X pins σ Q) X.xe s
def wW (e : Expr) : TT := fun σ H Q => ∀ whole pins s, Inv X pins σ H s → wpAny (model X.prog X.w) X.A (isTrue e X.env whole) (TP X pins σ Q) X.xe s
def wA (es : List Expr) : TA := fun σ H Q => ∀ (pos : Pos) pins s, Inv X pins σ H s → wpAny (model X.prog X.w) X.A (spliced (backTo pos (starEach es X.env))) (AP X pins σ Q) X.xe s
def wK (ks : List Keyword) : TA := fun σ H Q => ∀ (pos : Pos) pins s, Inv X pins σ H s → wpAny (model X.prog X.w) X.A (evalAll ((backToKw pos (keywordEach ks X.env)).map (·.2))) (AP X pins σ Q) X.xe s
def wS (st : Stmt) : TS := fun D σ H => ∀ pins s, Inv X pins σ H s → wpAny (model X.prog X.w) X.A (exec st X.env) (SP X pins D) X.xe s
def wSs (st : List Stmt) : TS := fun D σ H => ∀ pins s, Inv X pins σ H s → wpAny (model X.prog X.w) X.A (execs st X.env) (SP X pins D) X.xe s
def wG (tg : Expr) : TG := fun v σ H Q => ∀ pins s u, Inv X pins σ H s → RelV v u → wpAny (model X.prog X.w) X.A (assign tg X.env u) (fun _ s' => ∃ σ' H', Inv X pins σ' H' s' ∧ Q σ' H') X.xe s
def wI (tg iter : Expr) : TI := fun σ H R => ∀ pins s, Inv X pins σ H s → wpAny (model X.prog X.w) X.A (eval iter X.env) (fun v s1 => wpAny (model X.prog X.w) X.A (pyIter v) (PIE X pins σ tg R) X.xe s1) X.xe s
def wTs (ifs : List Expr) : TT := fun σ H Q => ∀ pins s, Inv X pins σ H s →
    wpAny (model X.prog X.w) X.A (forIn ifs true fun c r => if r = true then do let ok ← isTrue c X.env (eval c X.env); pure (ForInStep.yield ok) else pure (ForInStep.yield r)) (TP X pins σ Q) X.xe s
end
section
variable {X : Cx} {e : Expr} {es : List Expr} {ks : List Keyword} {st : Stmt} {sts : List Stmt} {tg iter : Expr}
theorem pe_w : PE X e (wE X e) := ⟨fun pins s _ _ _ I h => h pins s I⟩
theorem pt_w : PT X e (wT X e) := ⟨fun pins s _ _ _ I h => h pins s I⟩
theorem pw_w : PW X e (wW X e) := ⟨fun wh pins s _ _ _ I h => h wh pins s I⟩
theorem pa_w : PA X es (wA X es) := ⟨fun pos pins s _ _ _ I h => h pos pins s I⟩
theorem pk_w : PK X ks (wK X ks) := ⟨fun pos pins s _ _ _ I h => h pos pins s I⟩
theorem ps_w : PS X st (wS X st) := ⟨fun pins s _ _ _ I h => h pins s I⟩
theorem pss_w : PSs X sts (wSs X sts) := ⟨fun pins s _ _ _ I h => h pins s I⟩
theorem pg_w : PG X tg (wG X tg) := ⟨fun pins s _ _ _ u _ I r h => h pins s u I r⟩
theorem pi_w : PI X tg iter (wI X tg iter) := ⟨fun pins s _ _ _ I h => h pins s I⟩
theorem pts_w : PTs X es (wTs X es) := ⟨fun pins s _ _ _ I h => h pins s I⟩
end
theorem ifT {A B : Prop} (h : if true = true then A else B) : A := h
theorem ifF {A B : Prop} (h : if false = true then A else B) : B := h
/-! ### the judgements -/
/-- the rest behind an expression -/
abbrev Kon (Y : Bd) (G H : Hp) (M : Mm) (P : D → Mm → Prop) (Q : VK) : Prop := ∀ v G' H' M' d, Tr Y.X.K G H M G' H' M' → Is Y.X.K G' v d → P d M' → Q v H'
abbrev KonB (Y : Bd) (G H : Hp) (M : Mm) (P : Bool → Mm → Prop) (Q : Bool → Hp → Prop) : Prop := ∀ b G' H' M', Tr Y.X.K G H M G' H' M' → P b M' → Q b H'
abbrev KonA (Y : Bd) (G H : Hp) (M : Mm) (P : List D → Mm → Prop) (Q : List V → Hp → Prop) : Prop := ∀ vs G' H' M' ds, Tr Y.X.K G H M G' H' M' → Iss Y.X.K G' vs ds → P ds M' → Q vs H'
structure WE (Y : Bd) (e : Expr) (ss : List S) (M : Mm) (P : D → Mm → Prop) : Prop where
  run : ∀ B σ G H Q, StOk Y B σ G H M ss → Kon Y G H M P Q → wE Y.X e σ H Q
instance {Y : Bd} {e : Expr} {ss : List S} {M : Mm} {P : D → Mm → Prop} : CoeFun (WE Y e ss M P) fun _ => ∀ B σ G H Q, StOk Y B σ G H M ss → Kon Y G H M P Q → wE Y.X e σ H Q := ⟨fun h => h.run⟩
structure WT (Y : Bd) (e : Expr) (ss : List S) (M : Mm) (P : Bool → Mm → Prop) : Prop where
  run : ∀ B σ G H Q, StOk Y B σ G H M ss → KonB Y G H M P Q → wT Y.X e σ H Q
instance {Y : Bd} {e : Expr} {ss : List S} {M : Mm} {P : Bool → Mm → Prop} : CoeFun (WT Y e ss M P) fun _ => ∀ B σ G H Q, StOk Y B σ G H M ss → KonB Y G H M P Q → wT Y.X e σ H Q := ⟨fun h => h.run⟩
structure WW (Y : Bd) (e : Expr) (ss : List S) (M : Mm) (P : Bool → Mm → Prop) : Prop where
  run : ∀ B σ G H Q, StOk Y B σ G H M ss → KonB Y G H M P Q → wW Y.X e σ H Q
instance {Y : Bd} {e : Expr} {ss : List S} {M : Mm} {P : Bool → Mm → Prop} : CoeFun (WW Y e ss M P) fun _ => ∀ B σ G H Q, StOk Y B σ G H M ss → KonB Y G H M P Q → wW Y.X e σ H Q := ⟨fun h => h.run⟩
structure WTs (Y : Bd) (e : List Expr) (ss : List S) (M : Mm) (P : Bool → Mm → Prop) : Prop where
  run : ∀ B σ G H Q, StOk Y B σ G H M ss → KonB Y G H M P Q → wTs Y.X e σ H Q
instance {Y : Bd} {e : List Expr} {ss : List S} {M : Mm} {P : Bool → Mm → Prop} : CoeFun (WTs Y e ss M P) fun _ => ∀ B σ G H Q, StOk Y B σ G H M ss → KonB Y G H M P Q → wTs Y.X e σ H Q := ⟨fun h => h.run⟩
structure WA (Y : Bd) (es : List Expr) (ss : List S) (M : Mm) (P : List D → Mm → Prop) : Prop where
  run : ∀ B σ G H Q, StOk Y B σ G H M ss → KonA Y G H M P Q → wA Y.X es σ H Q
instance {Y : Bd} {es : List Expr} {ss : List S} {M : Mm} {P : List D → Mm → Prop} : CoeFun (WA Y es ss M P) fun _ => ∀ B σ G H Q, StOk Y B σ G H M ss → KonA Y G H M P Q → wA Y.X es σ H Q := ⟨fun h => h.run⟩
structure WK (Y : Bd) (ks : List Keyword) (ss : List S) (M : Mm) (P : List D → Mm → Prop) : Prop where
  run : ∀ B σ G H Q, StOk Y B σ G H M ss → KonA Y G H M P Q → wK Y.X ks σ H Q
instance {Y : Bd} {ks : List Keyword} {ss : List S} {M : Mm} {P : List D → Mm → Prop} : CoeFun (WK Y ks ss M P) fun _ => ∀ B σ G H Q, StOk Y B σ G H M ss → KonA Y G H M P Q → wK Y.X ks σ H Q := ⟨fun h => h.run⟩
structure DE where
  nx : List S → Mm → Prop
  rt : D → Mm → Prop
  bk : List S → Mm → Prop := fun _ _ => False
  ct : List S → Mm → Prop := fun _ _ => False
structure EndsOk (Y : Bd) (B : Bs) (N : DE) (E : Ends) : Prop where
  nx : ∀ σ G H M ss, StOk Y B σ G H M ss → N.nx ss M → E.nx σ H
  rt : ∀ v G H M d, Tr Y.X.K B.G B.H B.M G H M → Is Y.X.K G v d → N.rt d M → E.rt v H
  bk : ∀ σ G H M ss, StOk Y B σ G H M ss → N.bk ss M → E.bk σ H
  ct : ∀ σ G H M ss, StOk Y B σ G H M ss → N.ct ss M → E.ct σ H
structure WS (Y : Bd) (st : Stmt) (ss : List S) (M : Mm) (N : DE) : Prop where
  run : ∀ B σ G H E, StOk Y B σ G H M ss → EndsOk Y B N E → wS Y.X st E σ H
instance {Y : Bd} {st : Stmt} {ss : List S} {M : Mm} {N : DE} : CoeFun (WS Y st ss M N) fun _ => ∀ B σ G H E, StOk Y B σ G H M ss → EndsOk Y B N E → wS Y.X st E σ H := ⟨fun h => h.run⟩
structure WSs (Y : Bd) (st : List Stmt) (ss : List S) (M : Mm) (N : DE) : Prop where
  run : ∀ B σ G H E, StOk Y B σ G H M ss → EndsOk Y B N E → wSs Y.X st E σ H
instance {Y : Bd} {st : List Stmt} {ss : List S} {M : Mm} {N : DE} : CoeFun (WSs Y st ss M N) fun _ => ∀ B σ G H E, StOk Y B σ G H M ss → EndsOk Y B N E → wSs Y.X st E σ H := ⟨fun h => h.run⟩
/-- but for the slots T -/
def But' (T : List Nat) (σ σ' : L2.St) : Prop := σ'.length = σ.length ∧ ∀ j, j ∉ T → σ'[j]? = σ[j]?
theorem But'.rfl {T : List Nat} {σ : L2.St} : But' T σ σ := ⟨Eq.refl _, fun _ _ => Eq.refl _⟩
/-- a target takes a value; its slots are T -/
structure WG (Y : Bd) (tg : Expr) (T : List Nat) (d : D) (ss : List S) (M : Mm) (P : List S → Mm → Prop) : Prop where
  run : ∀ B σ G H v Q, StOk Y B σ G H M ss → Is Y.X.K G v d → (∀ σ' G' H' M' ss', StOk Y B σ' G' H' M' ss' → Tr Y.X.K G H M G' H' M' → But' T σ σ' → P ss' M' → Q σ' H') → wG Y.X tg v σ H Q
instance {Y : Bd} {tg : Expr} {T : List Nat} {d : D} {ss : List S} {M : Mm} {P : List S → Mm → Prop} : CoeFun (WG Y tg T d ss M P) fun _ => ∀ B σ G H v Q, StOk Y B σ G H M ss → Is Y.X.K G v d → (∀ σ' G' H' M' ss', StOk Y B σ' G' H' M' ss' → Tr Y.X.K G H M G' H' M' → But' T σ σ' → P ss' M' → Q σ' H') → wG Y.X tg v σ H Q := ⟨fun h => h.run⟩
/-- an operation on two, on one, a call of a built-in -/
structure Op2 (Y : Bd) (f : Value → Value → Sem Value) (x y : D) (M : Mm) (P : D → Mm → Prop) : Prop where
  ex : ∃ r, OpR Y.X f r ∧ ∀ G H vx vy Q, Wd Y.X.K G H M → Is Y.X.K G vx x → Is Y.X.K G vy y → Kon Y G H M P Q → r vx vy H Q
structure Op1 (Y : Bd) (f : Value → Sem Value) (x : D) (M : Mm) (P : D → Mm → Prop) : Prop where
  ex : ∃ r, UnR Y.X f r ∧ ∀ G H vx Q, Wd Y.X.K G H M → Is Y.X.K G vx x → Kon Y G H M P Q → r vx H Q
structure OpC (Y : Bd) (f : Value) (xs : List D) (M : Mm) (P : D → Mm → Prop) : Prop where
  ex : ∃ r, CallR Y.X f r ∧ ∀ G H vs Q, Wd Y.X.K G H M → Iss Y.X.K G vs xs → Kon Y G H M P Q → r vs H Q
/-- any reading of an operation -/
def anyR (X : Cx) (f : Value → Value → Sem Value) : R2 := fun x y H Q => ∃ r, OpR X f r ∧ r x y H Q
theorem opr_any {X : Cx} {f : Value → Value → Sem Value} : OpR X f (anyR X f) := fun pins s σ H x y v u Q I rx ry h => by
  obtain ⟨r, hr, h⟩ := h
  exact hr pins s σ H x y v u Q I rx ry h
def anyU (X : Cx) (f : Value → Sem Value) : V → Hp → VK → Prop := fun x H Q => ∃ r, UnR X f r ∧ r x H Q
theorem unr_any {X : Cx} {f : Value → Sem Value} : UnR X f (anyU X f) := fun pins s σ H x v Q I rx h => by
  obtain ⟨r, hr, h⟩ := h
  exact hr pins s σ H x v Q I rx h
def anyC (X : Cx) (f : Value) : List V → Hp → VK → Prop := fun x H Q => ∃ r, CallR X f r ∧ r x H Q
theorem callr_any {X : Cx} {f : Value} : CallR X f (anyC X f) := fun pins s σ H x v Q I rx h => by
  obtain ⟨r, hr, h⟩ := h
  exact hr pins s σ H x v Q I rx h
end JQ

set_option Elab.async false
set_option linter.all false
set_option maxRecDepth 100000
set_option maxHeartbeats 2000000
/-! Expressions. -/
namespace JQ
open PySem PySem.Spec PyProof.Rows L2
open Evl (Ex ex_l ex_t)
open StX (pa_star)
section
variable {Y : Bd} {ss : List S} {M : Mm} {P : D → Mm → Prop} {PB : Bool → Mm → Prop} {e a b c : Expr} {es : List Expr} {pos : Pos}
theorem we_pe {te : TE} (h : PE Y.X e te) (q : ∀ B σ G H Q, StOk Y B σ G H M ss → Kon Y G H M P Q → te σ H Q) : WE Y e ss M P := .mk fun B σ G H Q st k pins s I => h.run pins s σ H Q I (q B σ G H Q st k)
theorem wt_pt {te : TT} (h : PT Y.X e te) (q : ∀ B σ G H Q, StOk Y B σ G H M ss → KonB Y G H M PB Q → te σ H Q) : WT Y e ss M PB := .mk fun B σ G H Q st k pins s I => h.run pins s σ H Q I (q B σ G H Q st k)
theorem ww_pw {te : TT} (h : PW Y.X e te) (q : ∀ B σ G H Q, StOk Y B σ G H M ss → KonB Y G H M PB Q → te σ H Q) : WW Y e ss M PB := .mk fun B σ G H Q st k wh pins s I => h.run wh pins s σ H Q I (q B σ G H Q st k)
theorem WE.mono {P' : D → Mm → Prop} (h : WE Y e ss M P) (q : ∀ d M', P d M' → P' d M') : WE Y e ss M P' := .mk fun B σ G H Q st k => h B σ G H Q st fun v G' H' M' d g r p => k v G' H' M' d g r (q d M' p)
theorem WT.mono {P' : Bool → Mm → Prop} (h : WT Y e ss M PB) (q : ∀ d M', PB d M' → P' d M') : WT Y e ss M P' := .mk fun B σ G H Q st k => h B σ G H Q st fun v G' H' M' g p => k v G' H' M' g (q v M' p)
/-- the end of an expression whose value is at hand -/
theorem kon_rf {B : Bs} {σ : L2.St} {G H : Hp} {Q : VK} {v : V} {d : D} (st : StOk Y B σ G H M ss) (k : Kon Y G H M P Q) (r : Is Y.X.K G v d) (q : P d M) : Q v H := k _ _ _ _ _ st.refl r q
/-! ### names, constants -/
theorem we_var (i : Nat) {x : Str} {d : D} (hs : ss[i]? = some (some d)) (q : P d M) (hN : Y.X.N[i]? = some x := by rfl) (hv : Vis Y.X.env.scope x := by first | exact Or.inl rfl | exact Or.inr (Or.inl rfl) | exact Or.inr (Or.inr rfl))
    (hd : (x == ("__debug__" : Str)) = false := by decide) (hcd : (x == ("__classdict__" : Str)) = false := by decide) : WE Y (.Name x pos) ss M P :=
  we_pe (pv i hN hv hd hcd) fun B σ G H Q st k => by
    obtain ⟨v, e, r⟩ := st.slot hs
    exact ⟨v, e, kon_rf st k r q⟩
theorem we_int {i : Int} {j : Nat} (q : P (.int i) M) : WE Y (.Constant (.int i) j pos) ss M P := we_pe pe_int fun B σ G H Q st k => kon_rf st k (.int i) q
theorem we_bl {i : Bool} {j : Nat} (q : P (.bl i) M) : WE Y (.Constant (.bool i) j pos) ss M P := we_pe pe_bl fun B σ G H Q st k => kon_rf st k (.bl i) q
theorem we_non {j : Nat} (q : P .non M) : WE Y (.Constant .none j pos) ss M P := we_pe pe_non fun B σ G H Q st k => kon_rf st k .non q
theorem we_str {x : Str} {j : Nat} (q : P (.str x) M) : WE Y (.Constant (.str x) j pos) ss M P := we_pe pe_str fun B σ G H Q st k => kon_rf st k (.str x) q
/-- a module's constant -/
theorem we_gint {x : Str} {i : Int} {t : Tok} (hm : Y.X.mg x = some (.int i t)) (q : P (.int i) M) (hg : Gl Y.X x := by rfl) (hd : (x == ("__debug__" : Str)) = false := by decide) : WE Y (.Name x pos) ss M P :=
  we_pe (pe_glob hg hm (v := .int i) ⟨t, rfl⟩ hd) fun B σ G H Q st k => kon_rf st k (.int i) q
theorem we_gstr {x : Str} {i : Str} {t : Tok} (hm : Y.X.mg x = some (.str i t)) (q : P (.str i) M) (hg : Gl Y.X x := by rfl) (hd : (x == ("__debug__" : Str)) = false := by decide) : WE Y (.Name x pos) ss M P :=
  we_pe (pe_glob hg hm (v := .str i) ⟨t, rfl⟩ hd) fun B σ G H Q st k => kon_rf st k (.str i) q
/-- a class of the module as a value -/
theorem we_gref {x : Str} {C : Addr} (hm : Y.X.mg x = some (.ref C)) (q : P (.adr (.ref C)) M) (hg : Gl Y.X x := by rfl) (hd : (x == ("__debug__" : Str)) = false := by decide) : WE Y (.Name x pos) ss M P :=
  we_pe (pe_glob hg hm (v := .ref C) rfl hd) fun B σ G H Q st k => kon_rf st k (.adr _) q
/-- a built-in class as a value -/
theorem we_bty {x : Str} {n : String} (hm : Y.X.mg x = none) (hv : bootBuiltins x = some (.type n)) (q : P (.adr (.ty n)) M) (hg : Gl Y.X x := by rfl) (hn : x ≠ "__name__" := by decide) (hd : (x == ("__debug__" : Str)) = false := by decide) : WE Y (.Name x pos) ss M P :=
  we_pe (pe_bltn hg hm hv (v := .ty n) rfl hn hd) fun B σ G H Q st k => kon_rf st k (.adr _) q
/-! ### operators -/
theorem we_bin {op : Operator} (h : WE Y a ss M fun x M => WE Y b ss M fun y M => Op2 Y (binaryOp op) x y M P) : WE Y (.BinOp a op b pos) ss M P :=
  we_pe (pe_op opr_any pe_w pe_w) fun B σ G H Q st k => by
    refine h _ _ _ _ _ st fun v1 G1 H1 M1 x g1 r1 h1 => ?_
    refine h1 _ _ _ _ _ (st.go g1) fun v2 G2 H2 M2 y g2 r2 ⟨r, hr, h2⟩ => ⟨r, hr, ?_⟩
    exact h2 _ _ _ _ _ ((st.go g1).go g2).w (r1.mono g2.gg) r2 fun v G' H' M' d g q p => k _ _ _ _ _ ((g1.trans g2).trans g) q p
theorem we_un {op : UnaryOp} (h : WE Y a ss M fun x M => Op1 Y (unaryOp op) x M P) : WE Y (.UnaryOp op a pos) ss M P :=
  we_pe (pe_un unr_any pe_w) fun B σ G H Q st k => by
    refine h _ _ _ _ _ st fun v1 G1 H1 M1 x g1 r1 ⟨r, hr, h1⟩ => ⟨r, hr, ?_⟩
    exact h1 _ _ _ _ (st.go g1).w r1 fun v G' H' M' d g q p => k _ _ _ _ _ (g1.trans g) q p
theorem we_cmp {op : CmpOp} (h : WE Y a ss M fun x M => WE Y b ss M fun y M => Op2 Y (compareOp op) x y M P) (hm : behindInMarks op b = false := by first | exact nomark _ | rfl) : WE Y (.Compare a [op] [b] pos) ss M P :=
  we_pe (pe_cmpR opr_any pe_w pe_w hm) fun B σ G H Q st k => by
    refine h _ _ _ _ _ st fun v1 G1 H1 M1 x g1 r1 h1 => ?_
    refine h1 _ _ _ _ _ (st.go g1) fun v2 G2 H2 M2 y g2 r2 ⟨r, hr, h2⟩ => ⟨r, hr, ?_⟩
    exact h2 _ _ _ _ _ ((st.go g1).go g2).w (r1.mono g2.gg) r2 fun v G' H' M' d g q p => k _ _ _ _ _ ((g1.trans g2).trans g) q p
abbrev isB (PB : Bool → Mm → Prop) : D → Mm → Prop := fun d M => ∃ k, d = .bl k ∧ PB k M
theorem wt_cmp {op : CmpOp} (h : WE Y a ss M fun x M => WE Y b ss M fun y M => Op2 Y (compareOp op) x y M (isB PB)) (hm : behindInMarks op b = false := by first | exact nomark _ | rfl) : WT Y (.Compare a [op] [b] pos) ss M PB :=
  wt_pt (pt_cmpR opr_any pe_w pe_w hm) fun B σ G H Q st k => by
    refine h _ _ _ _ _ st fun v1 G1 H1 M1 x g1 r1 h1 => ?_
    refine h1 _ _ _ _ _ (st.go g1) fun v2 G2 H2 M2 y g2 r2 ⟨r, hr, h2⟩ => ⟨r, hr, ?_⟩
    refine h2 _ _ _ _ _ ((st.go g1).go g2).w (r1.mono g2.gg) r2 fun v G' H' M' d g q ⟨kk, ed, p⟩ => ?_
    subst ed
    cases q
    exact ⟨kk, rfl, k _ _ _ _ ((g1.trans g2).trans g) p⟩
theorem we_chain {op op' : CmpOp} (h : WE Y a ss M fun x M => WE Y b ss M fun y M => Op2 Y (compareOp op) x y M (isB fun k M => if k = true then WE Y c ss M fun z M => Op2 Y (compareOp op') y z M P else P (.bl false) M))
    (hm : lastMarks [op, op'] [b, c] = false := by with_unfolding_all rfl) : WE Y (.Compare a [op, op'] [b, c] pos) ss M P :=
  we_pe (pe_chain opr_any opr_any pe_w pe_w pe_w hm) fun B σ G H Q st k => by
    refine h _ _ _ _ _ st fun v1 G1 H1 M1 x g1 r1 h1 => ?_
    refine h1 _ _ _ _ _ (st.go g1) fun v2 G2 H2 M2 y g2 r2 ⟨r, hr, h2⟩ => ⟨r, hr, ?_⟩
    have st2 := (st.go g1).go g2
    refine h2 _ _ _ _ _ st2.w (r1.mono g2.gg) r2 fun v G3 H3 M3 d g3 q ⟨kk, ed, p⟩ => ?_
    subst ed
    cases q
    refine ⟨kk, rfl, ?_⟩
    cases kk with
    | false =>
      rw [if_neg Bool.false_ne_true] at p ⊢
      exact k _ _ _ _ _ ((g1.trans g2).trans g3) (.bl false) p
    | true =>
      rw [if_pos rfl] at p ⊢
      refine p _ _ _ _ _ (st2.go g3) fun v4 G4 H4 M4 z g4 r4 ⟨r', hr', h4⟩ => ⟨r', hr', ?_⟩
      exact h4 _ _ _ _ _ ((st2.go g3).go g4).w (r2.mono (g3.gg.trans g4.gg)) r4 fun v G' H' M' d g q p => k _ _ _ _ _ ((((g1.trans g2).trans g3).trans g4).trans g) q p
theorem wt_chain {op op' : CmpOp} (h : WE Y a ss M fun x M => WE Y b ss M fun y M => Op2 Y (compareOp op) x y M (isB fun k M => if k = true then WE Y c ss M fun z M => Op2 Y (compareOp op') y z M (isB PB) else PB false M))
    (hm : lastMarks [op, op'] [b, c] = false := by with_unfolding_all rfl) : WT Y (.Compare a [op, op'] [b, c] pos) ss M PB :=
  wt_pt (pt_chain opr_any opr_any pe_w pe_w pe_w hm) fun B σ G H Q st k => by
    refine h _ _ _ _ _ st fun v1 G1 H1 M1 x g1 r1 h1 => ?_
    refine h1 _ _ _ _ _ (st.go g1) fun v2 G2 H2 M2 y g2 r2 ⟨r, hr, h2⟩ => ⟨r, hr, ?_⟩
    have st2 := (st.go g1).go g2
    refine h2 _ _ _ _ _ st2.w (r1.mono g2.gg) r2 fun v G3 H3 M3 d g3 q ⟨kk, ed, p⟩ => ?_
    subst ed
    cases q
    refine ⟨kk, rfl, ?_⟩
    cases kk with
    | false =>
      rw [if_neg Bool.false_ne_true] at p ⊢
      exact ⟨false, rfl, k _ _ _ _ ((g1.trans g2).trans g3) p⟩
    | true =>
      rw [if_pos rfl] at p ⊢
      refine p _ _ _ _ _ (st2.go g3) fun v4 G4 H4 M4 z g4 r4 ⟨r', hr', h4⟩ => ⟨r', hr', ?_⟩
      refine h4 _ _ _ _ _ ((st2.go g3).go g4).w (r2.mono (g3.gg.trans g4.gg)) r4 fun v G' H' M' d g q ⟨kk, ed, p⟩ => ?_
      subst ed
      cases q
      exact ⟨kk, rfl, k _ _ _ _ ((((g1.trans g2).trans g3).trans g4).trans g) p⟩
/-! ### and, or, not; if .. else -/
theorem wt_ww (h : WW Y e ss M PB) : WT Y e ss M PB := wt_pt (PW.pt pw_w) fun B σ G H Q st k => h _ _ _ _ _ st k
theorem ww_and1 (h : WT Y a ss M PB) : WW Y (.BoolOp .And [a] pos) ss M PB := ww_pw (pw_and1 pt_w) fun B σ G H Q st k => h _ _ _ _ _ st k
theorem ww_or1 (h : WT Y a ss M PB) : WW Y (.BoolOp .Or [a] pos) ss M PB := ww_pw (pw_or1 pt_w) fun B σ G H Q st k => h _ _ _ _ _ st k
theorem ww_and {rest : List Expr} (h : WT Y a ss M fun k M => if k = true then WW Y (.BoolOp .And (b :: rest) pos) ss M PB else PB false M) : WW Y (.BoolOp .And (a :: b :: rest) pos) ss M PB :=
  ww_pw (pw_and pt_w pw_w) fun B σ G H Q st k => by
    refine h _ _ _ _ _ st fun kk G1 H1 M1 g1 p => ?_
    cases kk with
    | true => exact (ifT p).run _ _ _ _ _ (st.go g1) fun b' G' H' M' g q => k _ _ _ _ (g1.trans g) q
    | false => exact k _ _ _ _ g1 p
theorem ww_or {rest : List Expr} (h : WT Y a ss M fun k M => if k = true then PB true M else WW Y (.BoolOp .Or (b :: rest) pos) ss M PB) : WW Y (.BoolOp .Or (a :: b :: rest) pos) ss M PB :=
  ww_pw (pw_or pt_w pw_w) fun B σ G H Q st k => by
    refine h _ _ _ _ _ st fun kk G1 H1 M1 g1 p => ?_
    cases kk with
    | true => exact k _ _ _ _ g1 p
    | false => exact (ifF p).run _ _ _ _ _ (st.go g1) fun b' G' H' M' g q => k _ _ _ _ (g1.trans g) q
theorem wt_and2 (h : WT Y a ss M fun k M => if k = true then WT Y b ss M PB else PB false M) : WT Y (.BoolOp .And [a, b] pos) ss M PB := wt_ww (ww_and (h.mono fun k M q => by
  cases k with
  | true => rw [if_pos rfl] at q ⊢; exact ww_and1 q
  | false => exact q))
theorem wt_or2 (h : WT Y a ss M fun k M => if k = true then PB true M else WT Y b ss M PB) : WT Y (.BoolOp .Or [a, b] pos) ss M PB := wt_ww (ww_or (h.mono fun k M q => by
  cases k with
  | true => exact q
  | false => rw [if_neg Bool.false_ne_true] at q ⊢; exact ww_or1 q))
theorem wt_not (h : WT Y a ss M fun k M => PB (!k) M) : WT Y (.UnaryOp .Not a pos) ss M PB :=
  wt_pt (pt_not pt_w) fun B σ G H Q st k => h _ _ _ _ _ st fun kk G1 H1 M1 g1 p => k _ _ _ _ g1 p
theorem we_ifx (h : WT Y c ss M fun k M => if k = true then WE Y a ss M P else WE Y b ss M P) : WE Y (.IfExp c a b pos) ss M P :=
  we_pe (pe_ifExp pt_w pe_w pe_w) fun B σ G H Q st k => by
    refine h _ _ _ _ _ st fun kk G1 H1 M1 g1 p => ?_
    cases kk with
    | true => exact (ifT p).run _ _ _ _ _ (st.go g1) fun v G' H' M' d g r q => k _ _ _ _ _ (g1.trans g) r q
    | false => exact (ifF p).run _ _ _ _ _ (st.go g1) fun v G' H' M' d g r q => k _ _ _ _ _ (g1.trans g) r q
/-- and, or, not as values: all items but the last are bools -/
theorem we_one {bop : BoolOp} (h : WE Y a ss M P) : WE Y (.BoolOp bop [a] pos) ss M P := we_pe (pe_one pe_w) fun B σ G H Q st k => h _ _ _ _ _ st k
theorem we_and {rest : List Expr} (h : WE Y a ss M (isB fun k M => if k = true then WE Y (.BoolOp .And (b :: rest) pos) ss M P else P (.bl false) M)) : WE Y (.BoolOp .And (a :: b :: rest) pos) ss M P :=
  we_pe (pe_and pe_w pe_w) fun B σ G H Q st k => by
    refine h _ _ _ _ _ st fun v G1 H1 M1 d g1 r ⟨kk, ed, p⟩ => ?_
    subst ed
    cases r
    refine ⟨kk, rfl, ?_⟩
    cases kk with
    | true => exact (ifT p).run _ _ _ _ _ (st.go g1) fun v G' H' M' d g r q => k _ _ _ _ _ (g1.trans g) r q
    | false => exact k _ _ _ _ _ g1 (.bl false) p
theorem we_or {rest : List Expr} (h : WE Y a ss M (isB fun k M => if k = true then P (.bl true) M else WE Y (.BoolOp .Or (b :: rest) pos) ss M P)) : WE Y (.BoolOp .Or (a :: b :: rest) pos) ss M P :=
  we_pe (pe_or pe_w pe_w) fun B σ G H Q st k => by
    refine h _ _ _ _ _ st fun v G1 H1 M1 d g1 r ⟨kk, ed, p⟩ => ?_
    subst ed
    cases r
    refine ⟨kk, rfl, ?_⟩
    cases kk with
    | true => exact k _ _ _ _ _ g1 (.bl true) p
    | false => exact (ifF p).run _ _ _ _ _ (st.go g1) fun v G' H' M' d g r q => k _ _ _ _ _ (g1.trans g) r q
theorem we_not (h : WE Y a ss M (isB fun k M => P (.bl (!k)) M)) : WE Y (.UnaryOp .Not a pos) ss M P :=
  we_pe (pe_not pe_w) fun B σ G H Q st k => by
    refine h _ _ _ _ _ st fun v G1 H1 M1 d g1 r ⟨kk, ed, p⟩ => ?_
    subst ed
    cases r
    exact ⟨kk, rfl, k _ _ _ _ _ g1 (.bl _) p⟩
/-- a value that is a bool, as a test; any value's truth -/
theorem wt_val (h : WE Y e ss M (isB PB)) (he : ∀ whole, isTrue e Y.X.env whole = (do let v ← whole; standAt e.pos; holding [v] (truthy v)) := by intro _; rfl) : WT Y e ss M PB :=
  wt_pt (pt_val pe_w he) fun B σ G H Q st k => by
    refine h _ _ _ _ _ st fun v G1 H1 M1 d g1 r ⟨kk, ed, p⟩ => ?_
    subst ed
    cases r
    exact ⟨kk, rfl, k _ _ _ _ g1 p⟩
/-! ### reading lists and instances, data or not -/
def LAt (M : Mm) : D → List D → Prop
  | .lst ds', ds => ds' = ds
  | .adr (.ref a), ds => M a = some (.lst ds)
  | _, _ => False
theorem LAt.get {K : PySem.W.Frag} {G H : Hp} {x : D} {ds : List D} {v : V} (w : Wd K G H M) (l : LAt M x ds) (r : Is K G v x) : ∃ a vs, v = .ref a ∧ H a = some (.lst vs) ∧ Iss K G vs ds := by
  cases r with
  | lst h r =>
    cases l
    exact ⟨_, _, rfl, w.gh _ _ h, r⟩
  | adr v =>
    cases v with
    | ref a =>
      obtain ⟨_, u, hu, ob⟩ := w.mo _ _ (show M a = some (.lst ds) from l)
      obtain ⟨vs, rfl, r⟩ := ob.lst
      exact ⟨a, vs, rfl, hu, r⟩
    | _ => exact False.elim l
  | _ => exact False.elim l
def OAt (M : Mm) : D → Addr → List (Str × D) → Prop
  | .obj C' fs', C, fs => C' = C ∧ fs' = fs
  | .adr (.ref a), C, fs => M a = some (.ins C fs)
  | _, _, _ => False
theorem OAt.get {K : PySem.W.Frag} {G H : Hp} {x : D} {C : Addr} {fs : List (Str × D)} {v : V} (w : Wd K G H M) (l : OAt M x C fs) (r : Is K G v x) : ∃ a dx vs, v = .ref a ∧ H a = some (.ins C dx vs) ∧ IsF K G vs fs := by
  cases r with
  | obj h r =>
    obtain ⟨e1, e2⟩ := l
    subst e1 e2
    exact ⟨_, _, _, rfl, w.gh _ _ h, r⟩
  | adr v =>
    cases v with
    | ref a =>
      obtain ⟨_, u, hu, ob⟩ := w.mo _ _ (show M a = some (.ins C fs) from l)
      obtain ⟨dx, vs, rfl, r⟩ := ob.ins
      exact ⟨a, dx, vs, rfl, hu, r⟩
    | _ => exact False.elim l
  | _ => exact False.elim l
def TruD (M : Mm) : D → Bool → Prop
  | .non, k => k = false
  | .bl b, k => k = b
  | .int i, k => k = (i != 0)
  | .tup ds, k => k = !ds.isEmpty
  | .lst ds, k => k = !ds.isEmpty
  | .adr (.ref a), k => ∃ ds, M a = some (.lst ds) ∧ k = !ds.isEmpty
  | _, _ => False
theorem isEmpty_iss {K : PySem.W.Frag} {G : Hp} {xs : List V} {ds : List D} (r : Iss K G xs ds) : (!ds.isEmpty) = !xs.isEmpty := by
  cases r <;> rfl
theorem wt_tru (h : WE Y e ss M fun x M => ∃ k, TruD M x k ∧ PB k M) (he : ∀ whole, isTrue e Y.X.env whole = (do let v ← whole; standAt e.pos; holding [v] (truthy v)) := by intro _; rfl) : WT Y e ss M PB :=
  wt_pt (pt_truth pe_w he) fun B σ G H Q st k => by
    refine h _ _ _ _ _ st fun v G1 H1 M1 d g1 r ⟨kk, t, p⟩ => ⟨kk, ?_, k _ _ _ _ g1 p⟩
    cases r with
    | non => exact t
    | bl b => exact t
    | int i => exact t
    | str x => exact t.elim
    | tup h r =>
      refine .inr (.inl ⟨_, ex_t g1.gh h, ?_⟩)
      rw [← isEmpty_iss r]
      exact t
    | lst h r =>
      refine .inl ⟨_, SqL.of (g1.gh _ _ h), ?_⟩
      rw [← isEmpty_iss r]
      exact t
    | obj h r => exact t.elim
    | scr h r => exact t.elim
    | adr v =>
      cases v with
      | ref a =>
        obtain ⟨ds, em, t⟩ := t
        obtain ⟨_, u, hu, ob⟩ := g1.wd.mo _ _ em
        obtain ⟨vs, rfl, r⟩ := ob.lst
        refine .inl ⟨_, SqL.of hu, ?_⟩
        rw [← isEmpty_iss r]
        exact t
      | _ => exact t.elim
/-! ### argument lists, displays -/
theorem wa_nil {Q : List D → Mm → Prop} (q : Q [] M) : WA Y [] ss M Q := .mk fun B σ G H R st k pos pins s I => pa_nil.run pos pins s σ H R I (k _ _ _ _ _ st.refl .nil q)
theorem wa_cons {Q : List D → Mm → Prop} (h : WE Y e ss M fun x M => WA Y es ss M fun xs M => Q (x :: xs) M) (hs : starEach (e :: es) Y.X.env = (false, eval e Y.X.env) :: starEach es Y.X.env := by rfl) : WA Y (e :: es) ss M Q := .mk fun B σ G H R st k pos pins s I =>
  (pa_cons pe_w pa_w hs).run pos pins s σ H R I (by
    refine h _ _ _ _ _ st fun v1 G1 H1 M1 x g1 r1 h1 => ?_
    exact h1 _ _ _ _ _ (st.go g1) fun vs G2 H2 M2 ds g2 r2 q => k _ _ _ _ _ (g1.trans g2) (.cons (r1.mono g2.gg) r2) q)
/-- *xs in a display -/
def SqAt (M : Mm) (x : D) (ds : List D) : Prop := x = .tup ds ∨ LAt M x ds
theorem wa_star {p : Pos} {Q : List D → Mm → Prop} (h : WE Y e ss M fun x M1 => ∃ xs, SqAt M1 x xs ∧ WA Y es ss M1 fun ys M => Q (xs ++ ys) M) (hs : starEach (.Starred e p :: es) Y.X.env = (true, eval e Y.X.env) :: starEach es Y.X.env := by rfl) : WA Y (.Starred e p :: es) ss M Q := .mk fun B σ G H R st k pos pins s I =>
  (pa_star pe_w pa_w hs).run pos pins s σ H R I (by
    refine h _ _ _ _ _ st fun v1 G1 H1 M1 x g1 r1 ⟨xs, hx, h1⟩ => ?_
    rcases hx with rfl | hx
    · cases r1 with
      | @tup a vs _ ht r =>
        refine ⟨a, vs, rfl, .inl (ex_t g1.gh ht), ?_⟩
        exact h1 _ _ _ _ _ (st.go g1) fun ws G2 H2 M2 ds g2 r2 q => k _ _ _ _ _ (g1.trans g2) ((r.mono g2.gg).append r2) q
    · obtain ⟨a, vs, rfl, hl, r⟩ := hx.get g1.wd r1
      refine ⟨a, vs, rfl, .inr (SqL.of hl), ?_⟩
      exact h1 _ _ _ _ _ (st.go g1) fun ws G2 H2 M2 ds g2 r2 q => k _ _ _ _ _ (g1.trans g2) ((r.mono g2.gg).append r2) q)
theorem we_tup {k1} (h : WA Y es ss M fun xs M => xs.length ≤ sizeLine ∧ P (.tup xs) M) : WE Y (.Tuple es k1 pos) ss M P :=
  we_pe (pe_tup pa_w) fun B σ G H Q st k => by
    refine h _ _ _ _ _ st fun vs G1 H1 M1 ds g1 r ⟨z, p⟩ => ⟨by rw [r.length]; exact z, fun q hq => ?_⟩
    have g2 := g1.wd.new (o := .tup vs) hq
    exact k _ _ _ _ _ (g1.trans g2) (.tup (SqT.of upd_same) (r.mono g2.gg)) p
/-- a new list: data, or one that may change -/
def NewL (P : D → Mm → Prop) (M : Mm) (ds : List D) : Prop := P (.lst ds) M ∨ ∀ p, M p = none → P (.rf p) (mup M p (.lst ds))
theorem NewL.k {G0 H0 G H : Hp} {M0 : Mm} {vs : List V} {ds : List D} {p : Addr} {Q : VK} (h : NewL P M ds) (g : Tr Y.X.K G0 H0 M0 G H M) (hq : H p = none) (r : Iss Y.X.K G vs ds) (k : Kon Y G0 H0 M0 P Q) : Q (.ref p) (upd H p (.lst vs)) := by
  rcases h with h | h
  · have g2 := g.wd.new (o := .lst vs) hq
    exact k _ _ _ _ _ (g.trans g2) (.lst upd_same (r.mono g2.gg)) h
  · exact k _ _ _ _ _ (g.trans (g.wd.newM (o := .lst vs) (b := .lst ds) hq r)) (.adr _) (h p (g.wd.mnone hq))
theorem we_lst (h : WA Y es ss M fun xs M => xs.length ≤ sizeLine ∧ NewL P M xs) : WE Y (.List es pos) ss M P :=
  we_pe (pe_lst pa_w) fun B σ G H Q st k => by
    refine h _ _ _ _ _ st fun vs G1 H1 M1 ds g1 r ⟨z, p⟩ => ⟨by rw [r.length]; exact z, fun q hq => p.k g1 hq r k⟩
/-- data from now on: a list, an instance -/
theorem we_frz (h : WE Y e ss M fun x M => ∃ a, x = .rf a ∧ ∃ ds, M a = some (.lst ds) ∧ P (.lst ds) (mdel M a)) : WE Y e ss M P := .mk fun B σ G H Q st k => h _ _ _ _ _ st fun v G1 H1 M1 x g1 r1 ⟨a, ex, ds, em, p⟩ => by
  subst ex
  cases r1
  obtain ⟨_, u, hu, ob⟩ := g1.wd.mo _ _ em
  obtain ⟨vs, rfl, r⟩ := ob.lst
  have g2 := g1.wd.frz em hu
  exact k _ _ _ _ _ (g1.trans g2) (.lst upd_same (r.mono g2.gg)) p
theorem we_frzO (h : WE Y e ss M fun x M => ∃ a, x = .rf a ∧ ∃ C fs, M a = some (.ins C fs) ∧ P (.obj C fs) (mdel M a)) : WE Y e ss M P := .mk fun B σ G H Q st k => h _ _ _ _ _ st fun v G1 H1 M1 x g1 r1 ⟨a, ex, C, fs, em, p⟩ => by
  subst ex
  cases r1
  obtain ⟨_, u, hu, ob⟩ := g1.wd.mo _ _ em
  obtain ⟨dx, vs, rfl, r⟩ := ob.ins
  have g2 := g1.wd.frz em hu
  exact k _ _ _ _ _ (g1.trans g2) (.obj upd_same (r.mono g2.gg)) p
/-! ### fields, places, slices -/
theorem we_fld {f : Str} (h : WE Y e ss M fun x M => ∃ C fs d, OAt M x C fs ∧ Cls Y.X.K C ∧ NoAttr Y.X.K C f ∧ fs.lookup f = some d ∧ P d M) (hb : attributeBase e f Y.X.env (eval e Y.X.env) = eval e Y.X.env := by rfl) : WE Y (.Attribute e f pos) ss M P :=
  we_pe (pe_fld pe_w hb) fun B σ G H Q st k => by
    refine h _ _ _ _ _ st fun v G1 H1 M1 x g1 r ⟨C, fs, d, ex, cl, na, lk, p⟩ => ?_
    obtain ⟨a, dx, vs, rfl, hx, rf⟩ := ex.get g1.wd r
    obtain ⟨y, l2, r2⟩ := rf.look lk
    exact ⟨_, C, _, _, y, rfl, hx, cl, na, l2, k _ _ _ _ _ g1 r2 p⟩
/-- what an index finds -/
def IxD (M : Mm) : D → Int → D → Prop
  | .tup ds, i, d => atI ds i = some d
  | .lst ds, i, d => atI ds i = some d
  | .adr (.ref a), i, d => ∃ ds, M a = some (.lst ds) ∧ atI ds i = some d
  | _, _, _ => False
theorem Iss.atI {K : PySem.W.Frag} {G : Hp} {xs : List V} {ds : List D} {i : Int} {d : D} (r : Iss K G xs ds) (h : L2.atI ds i = some d) : ∃ x, L2.atI xs i = some x ∧ Is K G x d := by
  unfold L2.atI at h ⊢
  rw [r.length]
  cases e : ixN ds.length i with
  | none => rw [e] at h; cases h
  | some j =>
    rw [e] at h
    exact r.get' h
theorem ixN_nat {n i : Nat} (h : i < n) : ixN n (i : Int) = some i := by
  unfold ixN
  rw [if_pos (Int.natCast_nonneg i), if_pos (by exact_mod_cast h)]
  rfl
theorem atI_of {ds : List D} {i : Nat} {d : D} (h : ds[i]? = some d) : L2.atI ds (i : Int) = some d := by
  unfold L2.atI
  rw [ixN_nat (List.getElem?_eq_some_iff.mp h).1]
  exact h
theorem ix0 {d : D} {ds : List D} : IxD M (.lst (d :: ds)) 0 d := atI_of (i := 0) rfl
theorem we_ix (h : WE Y a ss M fun x M => WE Y b ss M fun y M => ∃ i d, y = .int i ∧ IxD M x i d ∧ P d M) (hs : PlainIx b := by intro _ _; rfl) : WE Y (.Subscript a b pos) ss M P :=
  we_pe (pe_ix ix_seq pe_w pe_w hs) fun B σ G H Q st k => by
    refine h _ _ _ _ _ st fun v1 G1 H1 M1 x g1 r1 h1 => ?_
    refine h1 _ _ _ _ _ (st.go g1) fun v2 G2 H2 M2 y g2 r2 ⟨i, d, ey, ix, p⟩ => ?_
    subst ey
    cases r2
    cases r1 with
    | tup hx r =>
      obtain ⟨z, h2, r3⟩ := r.atI ix
      exact .inr (.inl ⟨_, _, i, z, rfl, rfl, ex_t (g2.gg.trans g2.gh) hx, h2, k _ _ _ _ _ (g1.trans g2) (r3.mono g2.gg) p⟩)
    | lst hx r =>
      obtain ⟨z, h2, r3⟩ := r.atI ix
      exact .inl ⟨_, _, i, z, rfl, rfl, SqL.of (g2.gh _ _ (g2.gg _ _ hx)), h2, k _ _ _ _ _ (g1.trans g2) (r3.mono g2.gg) p⟩
    | non => exact ix.elim
    | bl _ => exact ix.elim
    | int _ => exact ix.elim
    | str _ => exact ix.elim
    | obj _ _ => exact ix.elim
    | scr _ _ => exact ix.elim
    | adr _ =>
      cases v1 with
      | ref l =>
        obtain ⟨ds, em, ix⟩ := ix
        obtain ⟨_, u, hu, ob⟩ := g2.wd.mo _ _ em
        obtain ⟨vs, rfl, r⟩ := ob.lst
        obtain ⟨z, h2, r3⟩ := r.atI ix
        exact .inl ⟨_, _, i, z, rfl, rfl, SqL.of hu, h2, k _ _ _ _ _ (g1.trans g2) r3 p⟩
      | _ => exact ix.elim
end
end JQ

set_option Elab.async false
set_option linter.all false
set_option maxRecDepth 100000
set_option maxHeartbeats 2000000
/-! What operators and built-ins do to data. -/
namespace JQ
open PySem PySem.Spec PyProof.Rows L2
open Evl (Ex ex_l ex_t)
section
variable {Y : Bd} {M : Mm} {P : D → Mm → Prop} {i j : Int} {x y : D}
theorem o2_I0 {f : Value → Value → Sem Value} {g : Int → Int → V} {d : D} (h : OpR Y.X f (rI0 g)) (hd : ∀ K G, Is K G (g i j) d) (q : P d M) : Op2 Y f (.int i) (.int j) M P :=
  ⟨_, h, fun G H vx vy Q st rx ry k => by
    cases rx
    cases ry
    exact ⟨i, j, rfl, rfl, k _ _ _ _ _ st.refl (hd _ _) q⟩⟩
theorem o2_I {f : Value → Value → Sem Value} {C : Int → Int → Prop} {g : Int → Int → V} {d : D} (h : OpR Y.X f (rI C g)) (hc : C i j) (hd : ∀ K G, Is K G (g i j) d) (q : P d M) : Op2 Y f (.int i) (.int j) M P :=
  ⟨_, h, fun G H vx vy Q st rx ry k => by
    cases rx
    cases ry
    exact ⟨i, j, rfl, rfl, hc, k _ _ _ _ _ st.refl (hd _ _) q⟩⟩
theorem o_add (q : P (.int (i + j)) M) : Op2 Y (binaryOp .Add) (.int i) (.int j) M P := o2_I0 op_add (fun _ _ => .int _) q
theorem o_sub (q : P (.int (i - j)) M) : Op2 Y (binaryOp .Sub) (.int i) (.int j) M P := o2_I0 op_sub (fun _ _ => .int _) q
theorem o_mul (h : CMul i j) (q : P (.int (i * j)) M) : Op2 Y (binaryOp .Mult) (.int i) (.int j) M P := o2_I op_mul h (fun _ _ => .int _) q
theorem o_mulW (h : CMulW i j) (q : P (.int (i * j)) M) : Op2 Y (binaryOp .Mult) (.int i) (.int j) M P := o2_I op_mulW h (fun _ _ => .int _) q
theorem o_mod (h : 0 < j) (q : P (.int (i % j)) M) : Op2 Y (binaryOp .Mod) (.int i) (.int j) M P := o2_I op_mod h (fun _ _ => .int _) q
theorem o_fdiv (h : CDiv i j) (q : P (.int (i / j)) M) : Op2 Y (binaryOp .FloorDiv) (.int i) (.int j) M P := o2_I op_fdiv h (fun _ _ => .int _) q
theorem o_fdivW (h : CDivW i j) (q : P (.int (i / j)) M) : Op2 Y (binaryOp .FloorDiv) (.int i) (.int j) M P := o2_I op_fdivW h (fun _ _ => .int _) q
theorem o_pow (h : CPow i j) (q : P (.int (i ^ j.toNat)) M) : Op2 Y (binaryOp .Pow) (.int i) (.int j) M P := o2_I op_pow h (fun _ _ => .int _) q
theorem o_lt (q : P (.bl (decide (i < j))) M) : Op2 Y (compareOp .Lt) (.int i) (.int j) M P := o2_I0 op_lt (fun _ _ => .bl _) q
theorem o_le (q : P (.bl (decide (i ≤ j))) M) : Op2 Y (compareOp .LtE) (.int i) (.int j) M P := o2_I0 op_le (fun _ _ => .bl _) q
theorem o_gt (q : P (.bl (decide (j < i))) M) : Op2 Y (compareOp .Gt) (.int i) (.int j) M P := o2_I0 op_gt (fun _ _ => .bl _) q
theorem o_ge (q : P (.bl (decide (j ≤ i))) M) : Op2 Y (compareOp .GtE) (.int i) (.int j) M P := o2_I0 op_ge (fun _ _ => .bl _) q
theorem dec_i : decide (V.int i = V.int j) = decide (i = j) := by
  by_cases h : i = j
  · rw [h, decide_eq_true rfl, decide_eq_true rfl]
  · rw [decide_eq_false h, decide_eq_false (fun q => h (V.int.inj q))]
theorem dec_b {a b : Bool} : decide (V.bl a = V.bl b) = decide (a = b) := by cases a <;> cases b <;> rfl
theorem dec_s {a b : Str} : decide (V.str a = V.str b) = decide (a = b) := by
  by_cases h : a = b
  · rw [h, decide_eq_true rfl, decide_eq_true rfl]
  · rw [decide_eq_false h, decide_eq_false (fun q => h (V.str.inj q))]
theorem o_eqI (q : P (.bl (decide (i = j))) M) : Op2 Y (compareOp .Eq) (.int i) (.int j) M P :=
  ⟨_, op_eq, fun G H vx vy Q st rx ry k => by
    cases rx
    cases ry
    refine ⟨rfl, k _ _ _ _ _ st.refl (.bl _) ?_⟩
    rw [dec_i]
    exact q⟩
theorem o_neI (q : P (.bl (!decide (i = j))) M) : Op2 Y (compareOp .NotEq) (.int i) (.int j) M P :=
  ⟨_, op_ne, fun G H vx vy Q st rx ry k => by
    cases rx
    cases ry
    refine ⟨rfl, k _ _ _ _ _ st.refl (.bl _) ?_⟩
    rw [dec_i]
    exact q⟩
theorem o_eqB {a b : Bool} (q : P (.bl (decide (a = b))) M) : Op2 Y (compareOp .Eq) (.bl a) (.bl b) M P :=
  ⟨_, op_eq, fun G H vx vy Q st rx ry k => by
    cases rx
    cases ry
    refine ⟨rfl, k _ _ _ _ _ st.refl (.bl _) ?_⟩
    rw [dec_b]
    exact q⟩
theorem o_neB {a b : Bool} (q : P (.bl (!decide (a = b))) M) : Op2 Y (compareOp .NotEq) (.bl a) (.bl b) M P :=
  ⟨_, op_ne, fun G H vx vy Q st rx ry k => by
    cases rx
    cases ry
    refine ⟨rfl, k _ _ _ _ _ st.refl (.bl _) ?_⟩
    rw [dec_b]
    exact q⟩
theorem o_eqS {a b : Str} (q : P (.bl (decide (a = b))) M) : Op2 Y (compareOp .Eq) (.str a) (.str b) M P :=
  ⟨_, op_eq, fun G H vx vy Q st rx ry k => by
    cases rx
    cases ry
    refine ⟨rfl, k _ _ _ _ _ st.refl (.bl _) ?_⟩
    rw [dec_s]
    exact q⟩
theorem o_neS {a b : Str} (q : P (.bl (!decide (a = b))) M) : Op2 Y (compareOp .NotEq) (.str a) (.str b) M P :=
  ⟨_, op_ne, fun G H vx vy Q st rx ry k => by
    cases rx
    cases ry
    refine ⟨rfl, k _ _ _ _ _ st.refl (.bl _) ?_⟩
    rw [dec_s]
    exact q⟩
/-- is None, is not None: of anything but opaque data -/
def notNone : D → Bool
  | .non => false
  | .adr (.ref _) => true
  | .adr _ => false
  | _ => true
theorem notNone_ne {K : PySem.W.Frag} {G : Hp} {v : V} (h : notNone x = true) (r : Is K G v x) : v ≠ .non := by
  intro e
  subst e
  cases r <;> cases h
theorem o_isN (q : P (.bl true) M) : Op2 Y (compareOp .Is) .non .non M P :=
  ⟨_, op_isN, fun G H vx vy Q st rx ry k => by
    cases rx
    cases ry
    exact ⟨rfl, k _ _ _ _ _ st.refl (.bl _) q⟩⟩
theorem o_isN' (h : notNone x = true) (q : P (.bl false) M) : Op2 Y (compareOp .Is) x .non M P :=
  ⟨_, op_isN, fun G H vx vy Q st rx ry k => by
    cases ry
    refine ⟨rfl, k _ _ _ _ _ st.refl (.bl _) ?_⟩
    rw [decide_eq_false (notNone_ne h rx)]
    exact q⟩
theorem o_ntN (q : P (.bl false) M) : Op2 Y (compareOp .IsNot) .non .non M P :=
  ⟨_, op_notN, fun G H vx vy Q st rx ry k => by
    cases rx
    cases ry
    exact ⟨rfl, k _ _ _ _ _ st.refl (.bl _) q⟩⟩
theorem o_ntN' (h : notNone x = true) (q : P (.bl true) M) : Op2 Y (compareOp .IsNot) x .non M P :=
  ⟨_, op_notN, fun G H vx vy Q st rx ry k => by
    cases ry
    refine ⟨rfl, k _ _ _ _ _ st.refl (.bl _) ?_⟩
    rw [decide_eq_false (notNone_ne h rx)]
    exact q⟩
theorem o_ntB {a b : Bool} (q : P (.bl (!decide (a = b))) M) : Op2 Y (compareOp .IsNot) (.bl a) (.bl b) M P :=
  ⟨_, op_notBl, fun G H vx vy Q st rx ry k => by
    cases rx
    cases ry
    exact ⟨a, b, rfl, rfl, k _ _ _ _ _ st.refl (.bl _) q⟩⟩
theorem o_neg (q : P (.int (-i)) M) : Op1 Y (unaryOp .USub) (.int i) M P :=
  ⟨_, un_neg, fun G H vx Q st rx k => by
    cases rx
    exact ⟨i, rfl, k _ _ _ _ _ st.refl (.int _) q⟩⟩
/-! ### lists of ints -/
theorem iss_ints {K : PySem.W.Frag} {G : Hp} : ∀ {ns : List Int} {vs : List V}, Iss K G vs (ns.map D.int) → vs = ns.map V.int
  | [], _, h => by cases h; rfl
  | n :: ns, _, h => by
    rw [List.map_cons] at h
    cases h with
    | cons h r =>
      cases h
      rw [List.map_cons, iss_ints r]
theorem iss_of_ints {K : PySem.W.Frag} {G : Hp} : ∀ {ns : List Int}, Iss K G (ns.map V.int) (ns.map D.int)
  | [] => .nil
  | n :: ns => .cons (.int n) iss_of_ints
theorem flat_ints : ∀ ns : List Int, (ns.map V.int).all flatV = true
  | [] => rfl
  | n :: ns => by rw [List.map_cons, List.all_cons, flat_ints ns]; rfl
theorem inV_ints : ∀ (n : Int) (ns : List Int), inV (.int n) (ns.map V.int) = decide (n ∈ ns)
  | n, [] => rfl
  | n, m :: ns => by
    have ih := inV_ints n ns
    unfold inV at ih ⊢
    rw [List.map_cons, List.any_cons, ih]
    by_cases h : m = n
    · subst h
      have e : eqV (V.int m) (V.int m) = true := by unfold eqV; simp
      rw [e]
      simp
    · have e : eqV (V.int m) (V.int n) = false := by unfold eqV; simp [h]
      rw [e]
      have h2 : ¬ n = m := fun q => h q.symm
      simp [h2]
theorem SqAt.get {K : PySem.W.Frag} {G H : Hp} {ds : List D} {v : V} (w : Wd K G H M) (l : SqAt M x ds) (r : Is K G v x) : ∃ a vs, v = .ref a ∧ (SqT K H a vs ∨ H a = some (.lst vs)) ∧ Iss K G vs ds := by
  rcases l with rfl | l
  · cases r with
    | tup h r => exact ⟨_, _, rfl, .inl (ex_t w.gh h), r⟩
  · obtain ⟨a, vs, rfl, h, r⟩ := l.get w r
    exact ⟨a, vs, rfl, .inr h, r⟩
theorem SqAt.tup {ds : List D} : SqAt M (.tup ds) ds := .inl rfl
theorem SqAt.lst {ds : List D} : SqAt M (.lst ds) ds := .inr rfl
theorem SqAt.rf {ds : List D} {a : Addr} (h : M a = some (.lst ds)) : SqAt M (.rf a) ds := .inr h
theorem LAt.lst {ds : List D} : LAt M (.lst ds) ds := rfl
theorem LAt.rf {ds : List D} {a : Addr} (h : M a = some (.lst ds)) : LAt M (.rf a) ds := h
theorem OAt.obj {C : Addr} {fs : List (Str × D)} : OAt M (.obj C fs) C fs := ⟨rfl, rfl⟩
theorem OAt.rf {C : Addr} {fs : List (Str × D)} {a : Addr} (h : M a = some (.ins C fs)) : OAt M (.rf a) C fs := h
theorem o_in {n : Int} {ns : List Int} (hs : SqAt M y (ns.map D.int)) (q : P (.bl (decide (n ∈ ns))) M) : Op2 Y (compareOp .In) (.int n) y M P :=
  ⟨_, op_in_seq, fun G H vx vy Q st rx ry k => by
    cases rx
    obtain ⟨a, vs, rfl, h, r⟩ := hs.get st ry
    have e := iss_ints r
    subst e
    refine ⟨_, _, rfl, h.elim .inr (fun h => .inl (SqL.of h)), rfl, flat_ints ns, k _ _ _ _ _ st.refl (.bl _) ?_⟩
    rw [if_neg Bool.false_ne_true, inV_ints]
    exact q⟩
theorem o_notIn {n : Int} {ns : List Int} (hs : SqAt M y (ns.map D.int)) (q : P (.bl (!decide (n ∈ ns))) M) : Op2 Y (compareOp .NotIn) (.int n) y M P :=
  ⟨_, op_notIn_seq, fun G H vx vy Q st rx ry k => by
    cases rx
    obtain ⟨a, vs, rfl, h, r⟩ := hs.get st ry
    have e := iss_ints r
    subst e
    refine ⟨_, _, rfl, h.elim .inr (fun h => .inl (SqL.of h)), rfl, flat_ints ns, k _ _ _ _ _ st.refl (.bl _) ?_⟩
    rw [if_pos rfl, inV_ints]
    exact q⟩
/-! ### == of plain data -/
mutual
def pyD : D → PyData
  | .non => .none
  | .bl b => .bool b
  | .int i => .int i
  | .str x => .str x
  | .tup ds => .tuple (pyDs ds)
  | .lst ds => .list (pyDs ds)
  | _ => .none
def pyDs : List D → List PyData
  | [] => []
  | d :: ds => pyD d :: pyDs ds
end
mutual
def plainD : D → Bool
  | .non => true
  | .bl _ => true
  | .int _ => true
  | .str _ => true
  | .tup ds => plainDs ds
  | .lst ds => plainDs ds
  | _ => false
def plainDs : List D → Bool
  | [] => true
  | d :: ds => plainD d && plainDs ds
end
mutual
theorem Is.dp {K : PySem.W.Frag} {G H : Hp} (e : Ex G H) : ∀ {v : V} {d : D}, Is K G v d → plainD d = true → Dp K H v (pyD d)
  | _, _, .non, _ => .non
  | _, _, .bl b, _ => .bl b
  | _, _, .int b, _ => .int b
  | _, _, .str b, _ => .str b
  | _, _, .tup (ds := ds) h r, p => .tup (ex_t e h) (Iss.dp e r p)
  | _, _, .lst (ds := ds) h r, p => .lst (SqL.of (e _ _ h)) (Iss.dp e r p)
  | _, _, .obj h r, p => nomatch p
  | _, _, .adr v, p => nomatch p
  | _, _, .scr h r, p => nomatch p
theorem Iss.dp {K : PySem.W.Frag} {G H : Hp} (e : Ex G H) : ∀ {v : List V} {d : List D}, Iss K G v d → plainDs d = true → DpAll K H v (pyDs d)
  | _, _, .nil, _ => .nil
  | _, _, .cons h r, p => .cons (Is.dp e h (Bool.and_eq_true_iff.mp p).1) (Iss.dp e r (Bool.and_eq_true_iff.mp p).2)
end
/-- data, or a list that changes, of plain items -/
def PlAt (M : Mm) (x d : D) : Prop := plainD d = true ∧ (x = d ∨ ∃ ds, d = .lst ds ∧ LAt M x ds)
theorem PlAt.dp {K : PySem.W.Frag} {G H : Hp} {d : D} {v : V} (w : Wd K G H M) (h : PlAt M x d) (r : Is K G v x) : Dp K H v (pyD d) := by
  obtain ⟨p, rfl | ⟨ds, rfl, l⟩⟩ := h
  · exact r.dp w.gh p
  · obtain ⟨a, vs, rfl, h, r⟩ := l.get w r
    exact .lst (SqL.of h) (r.dp w.gh p)
theorem PlAt.self (h : plainD x = true) : PlAt M x x := ⟨h, .inl rfl⟩
theorem PlAt.rf {ds : List D} {a : Addr} (h : plainDs ds = true) (m : M a = some (.lst ds)) : PlAt M (.rf a) (.lst ds) := ⟨h, .inr ⟨ds, rfl, m⟩⟩
theorem plain_ints : ∀ ns : List Int, plainDs (ns.map D.int) = true
  | [] => rfl
  | n :: ns => by rw [List.map_cons]; exact plain_ints ns
theorem canLay_ints : ∀ ns : List Int, PyData.canLayAll0 (pyDs (ns.map D.int)) = true
  | [] => by simp only [List.map_nil, pyDs, PyData.canLayAll0]
  | n :: ns => by simpa only [List.map_cons, pyDs, pyD, PyData.canLayAll0, PyData.canLay0, Bool.true_and] using canLay_ints ns
theorem depth_ints : ∀ ns : List Int, PyData.depthAll (pyDs (ns.map D.int)) = 0
  | [] => by simp only [List.map_nil, pyDs, PyData.depthAll]
  | n :: ns => by simp only [List.map_cons, pyDs, pyD, PyData.depthAll, PyData.depth, depth_ints ns, Nat.max_self]
theorem shaped_ints (ns : List Int) : SeqAt.shaped (pyD (.lst (ns.map D.int))) = true := by
  unfold SeqAt.shaped
  rw [Bool.and_eq_true]
  refine ⟨?_, ?_⟩
  · simp only [pyD, PyData.canLay0]
    exact canLay_ints ns
  · simp only [pyD, PyData.depth, depth_ints]
    decide
theorem shapedT_ints (ns : List Int) : SeqAt.shaped (pyD (.tup (ns.map D.int))) = true := by
  unfold SeqAt.shaped
  rw [Bool.and_eq_true]
  refine ⟨?_, ?_⟩
  · simp only [pyD, PyData.canLay0]
    exact canLay_ints ns
  · simp only [pyD, PyData.depth, depth_ints]
    decide
theorem o_eqD {d e : D} (hu : Y.X.A.units + 64 < cLine) (hx : PlAt M x d) (hy : PlAt M y e) (sx : SeqAt.shaped (pyD d) = true) (sy : SeqAt.shaped (pyD e) = true) (q : P (.bl (PyData.eqv (pyD d) (pyD e))) M) : Op2 Y (compareOp .Eq) x y M P :=
  ⟨_, op_eqD hu, fun G H vx vy Q st rx ry k => ⟨_, _, hx.dp st rx, hy.dp st ry, sx, sy, k _ _ _ _ _ st.refl (.bl _) q⟩⟩
theorem o_neD {d e : D} (hu : Y.X.A.units + 64 < cLine) (hx : PlAt M x d) (hy : PlAt M y e) (sx : SeqAt.shaped (pyD d) = true) (sy : SeqAt.shaped (pyD e) = true) (q : P (.bl (!PyData.eqv (pyD d) (pyD e))) M) : Op2 Y (compareOp .NotEq) x y M P :=
  ⟨_, op_neD hu, fun G H vx vy Q st rx ry k => ⟨_, _, hx.dp st rx, hy.dp st ry, sx, sy, k _ _ _ _ _ st.refl (.bl _) q⟩⟩
/-! ### tuples and lists put together -/
theorem nil_iss {K : PySem.W.Frag} {G : Hp} {vs : List V} {ds : List D} (r : Iss K G vs ds) (e : vs = []) : ds = [] := by
  subst e
  cases r
  rfl
theorem o_catT {xs ys : List D} (hz : xs.length + ys.length ≤ sizeLine) (q : P (.tup (xs ++ ys)) M) : Op2 Y (binaryOp .Add) (.tup xs) (.tup ys) M P :=
  ⟨_, op_catA, fun G H vx vy Q st rx ry k => by
    cases rx with
    | @tup a vs _ h r =>
      cases ry with
      | @tup b ws _ h2 r2 =>
        refine ⟨a, b, vs, ws, rfl, rfl, ex_t st.gh h, ex_t st.gh h2, by rw [r.length, r2.length]; exact hz, fun e => ?_, fun _ e => ?_, fun _ _ p hp => ?_⟩
        · have e1 := nil_iss r e
          subst e1
          exact k _ _ _ _ _ st.refl (.tup h2 r2) q
        · have e1 := nil_iss r2 e
          subst e1
          rw [List.append_nil] at q
          exact k _ _ _ _ _ st.refl (.tup h r) q
        · have g := st.new (o := .tup (vs ++ ws)) hp
          exact k _ _ _ _ _ g (.tup (SqT.of upd_same) ((r.mono g.gg).append (r2.mono g.gg))) q⟩
theorem o_catL {xs ys : List D} (hx : LAt M x xs) (hy : LAt M y ys) (hz : xs.length + ys.length ≤ sizeLine) (q : NewL P M (xs ++ ys)) : Op2 Y (binaryOp .Add) x y M P :=
  ⟨_, op_cat, fun G H vx vy Q st rx ry k => by
    obtain ⟨a, vs, rfl, h, r⟩ := hx.get st rx
    obtain ⟨b, ws, rfl, h2, r2⟩ := hy.get st ry
    exact ⟨a, b, vs, ws, rfl, rfl, h, h2, by rw [r.length, r2.length]; exact hz, fun p hp => q.k st.refl hp (r.append r2) k⟩⟩
/-! ### slices -/
def cutL {α : Type} (xs : List α) (lo hi : Option Int) : List α := (xs.drop (HT.sIx xs.length 0 lo)).take (HT.sIx xs.length xs.length hi - HT.sIx xs.length 0 lo)
theorem Iss.cut {K : PySem.W.Frag} {G : Hp} {vs : List V} {ds : List D} (r : Iss K G vs ds) (lo hi : Option Int) : Iss K G (cutV vs lo hi) (cutL ds lo hi) := by
  unfold cutV cutL
  rw [r.length]
  exact (r.drop _).take _
variable {ss : List S} {e a : Expr} {lo hi : Option Expr} {pos p2 : Pos}
def wO (X : Cx) (e : Option Expr) : TO := fun σ H Q => ∀ pins s, Inv X pins σ H s → wpAny (model X.prog X.w) X.A (evalPart e X.env) (fun u s' => ∃ o H', Inv X pins σ H' s' ∧ IsPart u o ∧ Q o H') X.xe s
theorem po_w {X : Cx} {e : Option Expr} : PO X e (wO X e) := ⟨fun pins s _ _ _ I h => h pins s I⟩
structure WO (Y : Bd) (e : Option Expr) (ss : List S) (M : Mm) (P : Option Int → Mm → Prop) : Prop where
  run : ∀ B σ G H Q, StOk Y B σ G H M ss → (∀ o G' H' M', Tr Y.X.K G H M G' H' M' → P o M' → Q o H') → wO Y.X e σ H Q
instance {Y : Bd} {e : Option Expr} {ss : List S} {M : Mm} {P : Option Int → Mm → Prop} : CoeFun (WO Y e ss M P) fun _ => ∀ B σ G H Q, StOk Y B σ G H M ss → (∀ o G' H' M', Tr Y.X.K G H M G' H' M' → P o M' → Q o H') → wO Y.X e σ H Q := ⟨fun h => h.run⟩
theorem wo_no {R : Option Int → Mm → Prop} (q : R none M) : WO Y none ss M R := .mk fun B σ G H Q st k pins s I => po_none.run pins s σ H Q I (k _ _ _ _ st.refl q)
theorem wo_some {R : Option Int → Mm → Prop} (h : WE Y e ss M fun x M => ∃ i, x = .int i ∧ R (some i) M) : WO Y (some e) ss M R := .mk fun B σ G H Q st k pins s I => (po_some pe_w).run pins s σ H Q I (by
  refine h _ _ _ _ _ st fun v G1 H1 M1 d g r ⟨i, ed, q⟩ => ?_
  subst ed
  cases r
  exact ⟨i, rfl, k _ _ _ _ g q⟩)
theorem cut_whole {α : Type} {xs : List α} {l u : Option Int} (h : HT.sIx xs.length 0 l = 0 ∧ HT.sIx xs.length xs.length u = xs.length) : cutL xs l u = xs := by
  unfold cutL
  rw [h.1, h.2]
  simp
theorem we_slT (h : WE Y e ss M fun x M => WO Y lo ss M fun l M => WO Y hi ss M fun u M => ∃ xs, x = .tup xs ∧ P (.tup (cutL xs l u)) M) : WE Y (.Subscript e (.Slice lo hi none p2) pos) ss M P :=
  we_pe (pe_slice sl_tupA pe_w po_w po_w) fun B σ G H Q st k => by
    refine h _ _ _ _ _ st fun v1 G1 H1 M1 x g1 r1 h1 => ?_
    refine h1 _ _ _ _ _ (st.go g1) fun l G2 H2 M2 g2 h2 => ?_
    refine h2 _ _ _ _ _ ((st.go g1).go g2) fun u G3 H3 M3 g3 ⟨xs, ex, p⟩ => ?_
    subst ex
    cases r1 with
    | @tup b vs _ hx r =>
      have hx3 : SqT Y.X.K G3 b vs := ex_t (g2.gg.trans g3.gg) hx
      have r3 := r.mono (g2.gg.trans g3.gg)
      refine ⟨b, vs, rfl, ex_t g3.gh hx3, fun w => ?_, fun w q hq => ?_⟩
      · rw [r.length] at w
        rw [cut_whole w] at p
        exact k _ _ _ _ _ ((g1.trans g2).trans g3) (.tup hx3 r3) p
      · have g := g3.wd.new (o := .tup (cutV vs l u)) hq
        exact k _ _ _ _ _ (((g1.trans g2).trans g3).trans g) (.tup (SqT.of upd_same) ((r3.mono g.gg).cut l u)) p
theorem we_slL (h : WE Y e ss M fun x M => WO Y lo ss M fun l M => WO Y hi ss M fun u M => ∃ xs, LAt M x xs ∧ NewL P M (cutL xs l u)) : WE Y (.Subscript e (.Slice lo hi none p2) pos) ss M P :=
  we_pe (pe_slice sl_list pe_w po_w po_w) fun B σ G H Q st k => by
    refine h _ _ _ _ _ st fun v1 G1 H1 M1 x g1 r1 h1 => ?_
    refine h1 _ _ _ _ _ (st.go g1) fun l G2 H2 M2 g2 h2 => ?_
    refine h2 _ _ _ _ _ ((st.go g1).go g2) fun u G3 H3 M3 g3 ⟨xs, ex, p⟩ => ?_
    obtain ⟨b, vs, rfl, hx, r⟩ := ex.get g3.wd (r1.mono (g2.gg.trans g3.gg))
    exact ⟨b, vs, rfl, SqL.of hx, fun q hq => p.k ((g1.trans g2).trans g3) hq (r.cut l u) k⟩
/-- the script's slice -/
theorem we_slS (h : WE Y e ss M fun x M => WO Y lo ss M fun l M => WO Y hi ss M fun u M => ∃ xs, x = .scr xs ∧ NewL P M (cutL xs l u)) : WE Y (.Subscript e (.Slice lo hi none p2) pos) ss M P :=
  we_pe (pe_slice sl_list pe_w po_w po_w) fun B σ G H Q st k => by
    refine h _ _ _ _ _ st fun v1 G1 H1 M1 x g1 r1 h1 => ?_
    refine h1 _ _ _ _ _ (st.go g1) fun l G2 H2 M2 g2 h2 => ?_
    refine h2 _ _ _ _ _ ((st.go g1).go g2) fun u G3 H3 M3 g3 ⟨xs, ex, p⟩ => ?_
    subst ex
    cases r1 with
    | @scr b vs _ hx r =>
      have r3 := r.mono (g2.gg.trans g3.gg)
      exact ⟨b, vs, rfl, ex_l (g2.gg.trans (g3.gg.trans g3.gh)) hx, fun q hq => p.k ((g1.trans g2).trans g3) hq (r3.cut l u) k⟩
/-! ### built-ins called by name -/
variable {es : List Expr} {n : Str} {p : Pos}
theorem we_callB {id : String} (h : WA Y (e :: es) ss M fun ds M => OpC Y (.builtin id) ds M P) (hm : Y.X.mg n = none) (hv : bootBuiltins n = some (.builtin id) := by decide +kernel) (hg : Gl Y.X n := by rfl) (hn : n ≠ "__name__" := by decide) (hdb : (n == ("__debug__" : Str)) = false := by decide)
    (he : starEach (e :: es) Y.X.env = (false, eval e Y.X.env) :: starEach es Y.X.env := by rfl) (hpl : (backTo pos (starEach es Y.X.env)).any (·.1) = false := by rfl) : WE Y (.Call (.Name n p) (e :: es) [] pos) ss M P :=
  we_pe (pe_callB callr_any hg hm hv pa_w hn hdb he hpl) fun B σ G H Q st k => by
    refine h _ _ _ _ _ st fun vs G1 H1 M1 ds g1 r1 ⟨r, hr, h1⟩ => ⟨r, hr, ?_⟩
    exact h1 _ _ _ _ (st.go g1).w r1 fun v G' H' M' d g q p => k _ _ _ _ _ (g1.trans g) q p
theorem we_callTy {T : String} (h : WA Y (e :: es) ss M fun ds M => OpC Y (.type T) ds M P) (hm : Y.X.mg n = none) (hv : bootBuiltins n = some (.type T) := by decide +kernel) (hg : Gl Y.X n := by rfl) (hn : n ≠ "__name__" := by decide) (hdb : (n == ("__debug__" : Str)) = false := by decide)
    (he : starEach (e :: es) Y.X.env = (false, eval e Y.X.env) :: starEach es Y.X.env := by rfl) (hpl : (backTo pos (starEach es Y.X.env)).any (·.1) = false := by rfl) : WE Y (.Call (.Name n p) (e :: es) [] pos) ss M P :=
  we_pe (pe_callTy callr_any hg hm hv pa_w hn hdb he hpl) fun B σ G H Q st k => by
    refine h _ _ _ _ _ st fun vs G1 H1 M1 ds g1 r1 ⟨r, hr, h1⟩ => ⟨r, hr, ?_⟩
    exact h1 _ _ _ _ (st.go g1).w r1 fun v G' H' M' d g q p => k _ _ _ _ _ (g1.trans g) q p
theorem iss_one {K : PySem.W.Frag} {G : Hp} {vs : List V} {d : D} (r : Iss K G vs [d]) : ∃ v, vs = [v] ∧ Is K G v d := by
  cases r with
  | cons h r =>
    cases r
    exact ⟨_, rfl, h⟩
theorem iss_two {K : PySem.W.Frag} {G : Hp} {vs : List V} {d e : D} (r : Iss K G vs [d, e]) : ∃ v w, vs = [v, w] ∧ Is K G v d ∧ Is K G w e := by
  cases r with
  | cons h r =>
    obtain ⟨w, rfl, h2⟩ := iss_one r
    exact ⟨_, _, rfl, h, h2⟩
theorem c_len {ds : List D} (hs : SqAt M x ds) (q : P (.int ds.length) M) : OpC Y (.builtin "len") [x] M P :=
  ⟨_, call_len_seq, fun G H vs Q st r k => by
    obtain ⟨v, rfl, h⟩ := iss_one r
    obtain ⟨a, vs, rfl, h, r⟩ := hs.get st h
    exact ⟨_, _, rfl, h.elim .inr (fun h => .inl (SqL.of h)), by rw [r.length]; exact k _ _ _ _ _ st.refl (.int _) q⟩⟩
theorem c_max2 (hc : Y.X.calm = true) (q : P (.int (if j > i then j else i)) M) : OpC Y (.builtin "max") [.int i, .int j] M P :=
  ⟨_, call_max2 hc, fun G H vs Q st r k => by
    obtain ⟨v, w, rfl, h, h2⟩ := iss_two r
    cases h
    cases h2
    exact ⟨i, j, rfl, k _ _ _ _ _ st.refl (.int _) q⟩⟩
theorem c_min2 (hc : Y.X.calm = true) (q : P (.int (if j < i then j else i)) M) : OpC Y (.builtin "min") [.int i, .int j] M P :=
  ⟨_, call_min2 hc, fun G H vs Q st r k => by
    obtain ⟨v, w, rfl, h, h2⟩ := iss_two r
    cases h
    cases h2
    exact ⟨i, j, rfl, k _ _ _ _ _ st.refl (.int _) q⟩⟩
theorem c_maxL {ns : List Int} (hc : Y.X.calm = true) (hx : LAt M x (ns.map D.int)) (hne : 0 < ns.length) (q : ∀ m, m ∈ ns → (∀ y, y ∈ ns → y ≤ m) → P (.int m) M) : OpC Y (.builtin "max") [x] M P :=
  ⟨_, cr_max hc, fun G H vs Q st r k => by
    obtain ⟨v, rfl, h⟩ := iss_one r
    obtain ⟨a, vs, rfl, h, r⟩ := hx.get st h
    have e := iss_ints r
    subst e
    exact ⟨_, ns, rfl, SqL.of h, hne, fun m h1 h2 => k _ _ _ _ _ st.refl (.int m) (q m h1 h2)⟩⟩
theorem c_minL {ns : List Int} (hc : Y.X.calm = true) (hx : LAt M x (ns.map D.int)) (hne : 0 < ns.length) (q : ∀ m, m ∈ ns → (∀ y, y ∈ ns → m ≤ y) → P (.int m) M) : OpC Y (.builtin "min") [x] M P :=
  ⟨_, cr_min hc, fun G H vs Q st r k => by
    obtain ⟨v, rfl, h⟩ := iss_one r
    obtain ⟨a, vs, rfl, h, r⟩ := hx.get st h
    have e := iss_ints r
    subst e
    exact ⟨_, ns, rfl, SqL.of h, hne, fun m h1 h2 => k _ _ _ _ _ st.refl (.int m) (q m h1 h2)⟩⟩
theorem iss_bools {K : PySem.W.Frag} {G : Hp} : ∀ {ns : List Bool} {vs : List V}, Iss K G vs (ns.map D.bl) → vs = ns.map V.bl
  | [], _, h => by cases h; rfl
  | n :: ns, _, h => by
    rw [List.map_cons] at h
    cases h with
    | cons h r =>
      cases h
      rw [List.map_cons, iss_bools r]
theorem c_all {ns : List Bool} (hc : Y.X.calm = true) (hx : LAt M x (ns.map D.bl)) (q : P (.bl (ns.all id)) M) : OpC Y (.builtin "all") [x] M P :=
  ⟨_, cr_all hc, fun G H vs Q st r k => by
    obtain ⟨v, rfl, h⟩ := iss_one r
    obtain ⟨a, vs, rfl, h, r⟩ := hx.get st h
    have e := iss_bools r
    subst e
    exact ⟨_, ns, rfl, SqL.of h, k _ _ _ _ _ st.refl (.bl _) q⟩⟩
theorem c_any {ns : List Bool} (hc : Y.X.calm = true) (hx : LAt M x (ns.map D.bl)) (q : P (.bl (ns.any id)) M) : OpC Y (.builtin "any") [x] M P :=
  ⟨_, cr_any hc, fun G H vs Q st r k => by
    obtain ⟨v, rfl, h⟩ := iss_one r
    obtain ⟨a, vs, rfl, h, r⟩ := hx.get st h
    have e := iss_bools r
    subst e
    exact ⟨_, ns, rfl, SqL.of h, k _ _ _ _ _ st.refl (.bl _) q⟩⟩
theorem c_sum {ns : List Int} (hc : Y.X.calm = true) (hx : LAt M x (ns.map D.int)) (q : P (.int ns.sum) M) : OpC Y (.builtin "sum") [x] M P :=
  ⟨_, cr_sum hc, fun G H vs Q st r k => by
    obtain ⟨v, rfl, h⟩ := iss_one r
    obtain ⟨a, vs, rfl, h, r⟩ := hx.get st h
    have e := iss_ints r
    subst e
    exact ⟨_, ns, rfl, SqL.of h, k _ _ _ _ _ st.refl (.int _) q⟩⟩
theorem c_abs (q : P (.int (if i < 0 then -i else i)) M) : OpC Y (.builtin "abs") [.int i] M P :=
  ⟨_, call_abs, fun G H vs Q st r k => by
    obtain ⟨v, rfl, h⟩ := iss_one r
    cases h
    exact ⟨i, rfl, k _ _ _ _ _ st.refl (.int _) q⟩⟩
theorem c_int (q : P (.int i) M) : OpC Y (.type "int") [.int i] M P :=
  ⟨_, call_int1, fun G H vs Q st r k => by
    obtain ⟨v, rfl, h⟩ := iss_one r
    cases h
    exact .inl ⟨i, rfl, k _ _ _ _ _ st.refl (.int _) q⟩⟩
theorem c_intB {b : Bool} (q : P (.int (if b then 1 else 0)) M) : OpC Y (.type "int") [.bl b] M P :=
  ⟨_, call_int1, fun G H vs Q st r k => by
    obtain ⟨v, rfl, h⟩ := iss_one r
    cases h
    exact .inr ⟨b, rfl, k _ _ _ _ _ st.refl (.int _) q⟩⟩
theorem c_tup {ds : List D} (hs : SqAt M x ds) (q : P (.tup ds) M) : OpC Y (.type "tuple") [x] M P :=
  ⟨_, call_tuple_of, fun G H vs Q st r k => by
    obtain ⟨v, rfl, h⟩ := iss_one r
    rcases hs with rfl | hs
    · cases h with
      | @tup a ws _ h r => exact ⟨_, _, rfl, .inr ⟨ex_t st.gh h, k _ _ _ _ _ st.refl (.tup h r) q⟩⟩
    · obtain ⟨a, vs, rfl, h, r⟩ := hs.get st h
      refine ⟨_, _, rfl, .inl ⟨SqL.of h, fun l hl => ?_⟩⟩
      have g := st.new (o := .tup vs) hl
      exact k _ _ _ _ _ g (.tup (SqT.of upd_same) (r.mono g.gg)) q⟩
theorem c_lst {ds : List D} (hs : SqAt M x ds) (q : NewL P M ds) : OpC Y (.type "list") [x] M P :=
  ⟨_, call_list_of, fun G H vs Q st r k => by
    obtain ⟨v, rfl, h⟩ := iss_one r
    obtain ⟨a, vs, rfl, h, r⟩ := hs.get st h
    exact ⟨_, _, rfl, h.elim .inr (fun h => .inl (SqL.of h)), fun l hl => q.k st.refl hl r k⟩⟩
/-- sorted ints -/
def srtI (ns : List Int) : List Int := ns.mergeSort fun a b => decide (a ≤ b)
theorem srtI_perm (ns : List Int) : (srtI ns).Perm ns := List.mergeSort_perm ..
theorem srtI_pw (ns : List Int) : (srtI ns).Pairwise (· ≤ ·) := by
  have h := List.pairwise_mergeSort (le := fun a b : Int => decide (a ≤ b)) (fun a b c h1 h2 => by simp only [decide_eq_true_eq] at *; omega) (fun a b => by simp only [Bool.or_eq_true, decide_eq_true_eq]; omega) ns
  exact h.imp fun h => by simpa using h
theorem srt_unique {a b : List Int} (p : a.Perm b) (ha : a.Pairwise (· ≤ ·)) (hb : b.Pairwise (· ≤ ·)) : a = b := p.eq_of_pairwise (fun x y _ _ h1 h2 => Int.le_antisymm h1 h2) ha hb
theorem c_sorted {ns : List Int} (hx : LAt M x (ns.map D.int)) (q : NewL P M ((srtI ns).map D.int)) : OpC Y (.builtin "sorted") [x] M P :=
  ⟨_, cr_sortedI, fun G H vs Q st r k => by
    obtain ⟨v, rfl, h⟩ := iss_one r
    obtain ⟨a, vs, rfl, h, r⟩ := hx.get st h
    have e := iss_ints r
    subst e
    refine ⟨_, ns, rfl, SqL.of h, fun ns' p hp hs hn => ?_⟩
    have e : ns' = srtI ns := srt_unique (hp.trans (srtI_perm ns).symm) hs (srtI_pw ns)
    subst e
    exact q.k st.refl hn iss_of_ints k⟩
/-! ### isinstance -/
/-- an own class, as isinstance asks of its instances -/
structure ClsI (K : PySem.W.Frag) (C : Addr) : Prop where
  cl : Cls K C
  ha : PySem.W.findIn K (.ref C) "__class__" = some (some (.builtin "object.__class__"))
  hn : PySem.W.specialIn K (.builtin "object.__class__") "__get__" = some (some (.builtin "getset_descriptor.__get__"))
  htk : PySem.W.takesIn K (.builtin "object.__class__") = some true
  hm : PySem.W.mroIn K C (.type "object") = some true
/-- the class of data -/
def TyD (K : PySem.W.Frag) : D → Value → Prop
  | .non, t => t = .type "NoneType"
  | .bl _, t => t = .type "bool"
  | .int _, t => t = .type "int"
  | .str _, t => t = .type "str"
  | .tup _, t => t = .type "tuple"
  | .lst _, t => t = .type "list"
  | .obj C _, t => t = .ref C ∧ ClsI K C
  | .adr _, _ => False
  | .scr _, _ => False
theorem TyD.is {K : PySem.W.Frag} {G H : Hp} {v : V} {d : D} {t : Value} (e : Ex G H) (r : Is K G v d) (h : TyD K d t) : TyX K H v t := by
  cases r with
  | non => subst h; exact .base .non
  | bl b => subst h; exact .base (.bl b)
  | int b => subst h; exact .base (.int b)
  | str b => subst h; exact .base (.str b)
  | tup hx r =>
    subst h
    rcases ex_t e hx with (hx | ⟨o, hx⟩) | ⟨o, its, n, hk, hc, _⟩
    · exact .base (.tup hx)
    · exact .fTuple hx
    · exact .kTuple hk hc
  | lst hx r => subst h; exact .base (.lst (e _ _ hx))
  | obj hx r =>
    obtain ⟨rfl, c⟩ := h
    exact .base (.ins (e _ _ hx) c.cl c.ha c.hn c.htk c.hm)
  | adr v => exact h.elim
  | scr hx r => exact h.elim
theorem c_isi {d : D} {c : V} {t u : Value} {b : Bool} (hc : ClsV c u) (ht : TyD Y.X.K d t) (hk : PySem.W.kitOne Y.X.K t u = some b) (q : P (.bl b) M) : OpC Y (.builtin "isinstance") [d, .adr c] M P :=
  ⟨_, call_isi, fun G H vs Q st r k => by
    obtain ⟨v, w, rfl, h, h2⟩ := iss_two r
    cases h2
    exact ⟨v, c, t, u, b, rfl, hc, ht.is st.gh h, hk, k _ _ _ _ _ st.refl (.bl b) q⟩⟩
/-! ### repr, where no list is being shown around -/
theorem cr_repr {X : Cx} (hg : X.A.guards = some []) : CallR X (.builtin "repr") fun vs H Q => ∃ a d, vs = [.ref a] ∧ Dp X.K H (.ref a) d ∧ d.showable = true ∧ d.hasDict = false ∧ X.A.units + (d.depth + 1) < cLine ∧ d.shown.length ≤ sizeLine ∧ Q (.str d.shown) H := by
  intro pins s σ H vs us Q I r h
  obtain ⟨a, d, rfl, dp, sh, nd, hu, hz, q⟩ := h
  cases r with
  | @cons _ u _ us' h1 h2 =>
    cases h2
    obtain rfl : u = Value.ref a := h1
    obtain ⟨as, rd⟩ := Dp.reads I d _ _ dp rfl
    refine repr_of_reads' rd sh (fun z => by rw [nd] at z; cases z) hg hu (fun _ _ e => e) (fun h' u tk hk => ?_) hz
    exact ⟨V.str d.shown, H, I.kept (t' := tk) hk, ⟨u, rfl⟩, q⟩
theorem c_repr {d : D} (hg : Y.X.A.guards = some []) (hp : plainD d = true) (hk : (∃ ds, d = .tup ds) ∨ ∃ ds, d = .lst ds) (sh : (pyD d).showable = true) (nd : (pyD d).hasDict = false) (hu : Y.X.A.units + ((pyD d).depth + 1) < cLine) (hz : (pyD d).shown.length ≤ sizeLine) (q : P (.str (pyD d).shown) M) : OpC Y (.builtin "repr") [d] M P :=
  ⟨_, cr_repr hg, fun G H vs Q st r k => by
    obtain ⟨v, rfl, h⟩ := iss_one r
    have dp := h.dp st.gh hp
    have hv : ∃ a, v = .ref a := by
      rcases hk with ⟨ds, rfl⟩ | ⟨ds, rfl⟩ <;> cases h <;> exact ⟨_, rfl⟩
    obtain ⟨a, rfl⟩ := hv
    exact ⟨a, _, rfl, dp, sh, nd, hu, hz, k _ _ _ _ _ st.refl (.str _) q⟩⟩
end
end JQ

set_option Elab.async false
set_option linter.all false
set_option maxRecDepth 100000
set_option maxHeartbeats 2000000
/-! Statements. -/
namespace JQ
open PySem PySem.Spec PyProof.Rows L2
open Evl (Ex ex_l ex_t)
section
variable {Y : Bd} {ss : List S} {M : Mm} {N : DE} {P : D → Mm → Prop} {e a b c o : Expr} {es : List Expr} {st : Stmt} {rest sts : List Stmt} {pos : Pos}
theorem ws_ps {t : TS} (h : PS Y.X st t) (q : ∀ B σ G H E, StOk Y B σ G H M ss → EndsOk Y B N E → t E σ H) : WS Y st ss M N := .mk fun B σ G H E so eo pins s I => h.run pins s σ H E I (q B σ G H E so eo)
theorem wss_nil (q : N.nx ss M) : WSs Y [] ss M N := .mk fun B σ G H E so eo pins s I => pss_nil.run pins s σ H E I (eo.nx _ _ _ _ _ so q)
theorem wss_cons (h : WS Y st ss M { N with nx := fun ss' M' => WSs Y rest ss' M' N }) : WSs Y (st :: rest) ss M N := .mk fun B σ G H E so eo pins s I =>
  (pss_cons ps_w pss_w).run pins s σ H E I (h _ _ _ _ _ so ⟨fun σ' G' H' M' ss' so' q => q _ _ _ _ _ so' eo, eo.rt, eo.bk, eo.ct⟩)
theorem wss_one (h : WS Y st ss M N) : WSs Y [st] ss M N := .mk fun B σ G H E so eo pins s I => (pss_one ps_w).run pins s σ H E I (h _ _ _ _ _ so eo)
theorem WS.mono {N' : DE} (h : WS Y st ss M N) (h1 : ∀ s m, N.nx s m → N'.nx s m) (h2 : ∀ s m, N.rt s m → N'.rt s m) (h3 : ∀ s m, N.bk s m → N'.bk s m) (h4 : ∀ s m, N.ct s m → N'.ct s m) : WS Y st ss M N' := .mk fun B σ G H E so eo =>
  h B σ G H E so ⟨fun σ G H M s so q => eo.nx _ _ _ _ _ so (h1 _ _ q), fun v G H M d t r q => eo.rt _ _ _ _ _ t r (h2 _ _ q), fun σ G H M s so q => eo.bk _ _ _ _ _ so (h3 _ _ q), fun σ G H M s so q => eo.ct _ _ _ _ _ so (h4 _ _ q)⟩
theorem WSs.mono {N' : DE} (h : WSs Y sts ss M N) (h1 : ∀ s m, N.nx s m → N'.nx s m) (h2 : ∀ s m, N.rt s m → N'.rt s m) (h3 : ∀ s m, N.bk s m → N'.bk s m) (h4 : ∀ s m, N.ct s m → N'.ct s m) : WSs Y sts ss M N' := .mk fun B σ G H E so eo =>
  h B σ G H E so ⟨fun σ G H M s so q => eo.nx _ _ _ _ _ so (h1 _ _ q), fun v G H M d t r q => eo.rt _ _ _ _ _ t r (h2 _ _ q), fun σ G H M s so q => eo.bk _ _ _ _ _ so (h3 _ _ q), fun σ G H M s so q => eo.ct _ _ _ _ _ so (h4 _ _ q)⟩
theorem ws_pass (q : N.nx ss M) : WS Y (.Pass pos) ss M N := ws_ps ps_pass fun B σ G H E so eo => eo.nx _ _ _ _ _ so q
theorem ws_break (q : N.bk ss M) : WS Y (.Break pos) ss M N := ws_ps ps_break fun B σ G H E so eo => eo.bk _ _ _ _ _ so q
theorem ws_cont (q : N.ct ss M) : WS Y (.Continue pos) ss M N := ws_ps ps_continue fun B σ G H E so eo => eo.ct _ _ _ _ _ so q
theorem ws_ret (h : WE Y e ss M N.rt) : WS Y (.Return (some e) pos) ss M N := ws_ps (ps_ret pe_w) fun B σ G H E so eo => h _ _ _ _ _ so fun v G' H' M' d g r q => eo.rt _ _ _ _ _ (so.t.trans g) r q
theorem ws_retN (q : N.rt .non M) : WS Y (.Return none pos) ss M N := ws_ps ps_retN fun B σ G H E so eo => eo.rt _ _ _ _ _ so.t .non q
theorem ws_expr (h : WE Y e ss M fun _ M => N.nx ss M) (hs : swapsWith e none pos.line Y.X.env = pure false := by rfl) : WS Y (.Expr e pos) ss M N := ws_ps (ps_expr pe_w hs) fun B σ G H E so eo => h _ _ _ _ _ so fun v G' H' M' d g r q => eo.nx _ _ _ _ _ (so.go g) q
theorem ws_if {ts fs : List Stmt} (h : WT Y c ss M fun k M => if k = true then WSs Y ts ss M N else WSs Y fs ss M N) : WS Y (.If c ts fs pos) ss M N := ws_ps (ps_if pt_w pss_w pss_w) fun B σ G H E so eo => by
  refine h _ _ _ _ _ so fun kk G' H' M' g q => ?_
  cases kk with
  | true => exact (ifT q).run _ _ _ _ _ (so.go g) eo
  | false => exact (ifF q).run _ _ _ _ _ (so.go g) eo
/-- name = value -/
theorem ws_set (i : Nat) {x : Str} {pos' : Pos} (hN : Y.X.N.Nodup) (h : WE Y e ss M fun d M => N.nx (ss.set i (some d)) M) (hi : Y.X.N[i]? = some x := by rfl) (hx : Loc Y.X.env.scope x := by first | exact .inl rfl | exact .inr rfl) (hs : swapsWith e (some (.Name x pos')) pos.line Y.X.env = pure false := by rfl)
    (hf : Y.X.fn x = true ∨ Y.X.env.scope.names.lookup x = some .local := by first | exact .inl rfl | exact .inr rfl) : WS Y (.Assign [.Name x pos'] e pos) ss M N :=
  ws_ps (ps_set hN hi hx pe_w hs hf) fun B σ G H E so eo => h _ _ _ _ _ so fun v G' H' M' d g r q => eo.nx _ _ _ _ _ ((so.go g).set r i) q
/-- name op= value -/
theorem ws_aug (i : Nat) {x : Str} {op : Operator} {pos' : Pos} {d0 : D} (hN : Y.X.N.Nodup) (h0 : ss[i]? = some (some d0)) (h : WE Y e ss M fun d M => Op2 Y (inplaceOp op) d0 d M fun z M => N.nx (ss.set i (some z)) M) (hi : Y.X.N[i]? = some x := by rfl) (hx : Loc Y.X.env.scope x := by first | exact .inl rfl | exact .inr rfl)
    (hf : Y.X.fn x = true ∨ Y.X.env.scope.names.lookup x = some .local := by first | exact .inl rfl | exact .inr rfl) : WS Y (.AugAssign (.Name x pos') op e pos) ss M N :=
  ws_ps (ps_aug hN hi hx pe_w (ti := anyR Y.X (inplaceOp op)) (fun pins s σ H x y v u Q I rx ry h => opr_any pins s σ H x y v u Q I rx ry h) hf) fun B σ G H E so eo => by
    obtain ⟨v, ev, rv⟩ := so.slot h0
    refine ⟨v, ev, ?_⟩
    refine h _ _ _ _ _ so fun u G1 H1 M1 d g r ⟨rr, hr, h1⟩ => ⟨rr, hr, ?_⟩
    exact h1 _ _ _ _ _ (so.go g).w (rv.mono g.gg) r fun z G2 H2 M2 d2 g2 r2 q => eo.nx _ _ _ _ _ (((so.go g).go g2).set r2 i) q
theorem oi_add {i j : Int} (q : P (.int (i + j)) M) : Op2 Y (inplaceOp .Add) (.int i) (.int j) M P := o2_I0 iop_add (fun _ _ => .int _) q
theorem oi_sub {i j : Int} (q : P (.int (i - j)) M) : Op2 Y (inplaceOp .Sub) (.int i) (.int j) M P := o2_I0 iop_sub (fun _ _ => .int _) q
/-! ### targets -/
theorem wg_name (i : Nat) {x : Str} {d : D} {Q : List S → Mm → Prop} (hN : Y.X.N.Nodup) (q : Q (ss.set i (some d)) M) (hi : Y.X.N[i]? = some x := by rfl) (hx : Loc Y.X.env.scope x := by first | exact .inl rfl | exact .inr rfl) (hf : Y.X.fn x = true ∨ Y.X.env.scope.names.lookup x = some .local := by first | exact .inl rfl | exact .inr rfl) :
    WG Y (.Name x pos) [i] d ss M Q := .mk fun B σ G H v R so r k pins s u I rv => (pg_name hN hi hx hf).run pins s σ H v u R I rv (k _ _ _ _ _ (so.set r i) so.refl ⟨by simp, fun j hj => by
      rw [List.getElem?_set_ne]
      intro e
      exact hj (by simp [e])⟩ q)
/-- o[i] = value, o a list that may change -/
theorem wg_ix {d : D} {Q : List S → Mm → Prop} (h : WE Y o ss M fun x M => WE Y e ss M fun y M => ∃ p ds i j, x = .rf p ∧ y = .int i ∧ M p = some (.lst ds) ∧ ixN ds.length i = some j ∧ Q ss (mup M p (.lst (ds.set j d))))
    (ha : ∀ v, assign (.Subscript o e pos) Y.X.env v = (do
      let ov ← holding [v] (eval o Y.X.env)
      let iv ← holding [v, ov] (eval e Y.X.env)
      standAt pos
      holding [v, ov, iv] (setItem ov iv v)
      release [v, ov, iv] []) := by intro _; rfl) : WG Y (.Subscript o e pos) [] d ss M Q :=
  .mk fun B σ G H v R so r k pins s u I rv => (pg_sub pe_w pe_w set_list ha).run pins s σ H v u R I rv (by
    refine h _ _ _ _ _ so fun v1 G1 H1 M1 x g1 r1 h1 => ?_
    refine h1 _ _ _ _ _ (so.go g1) fun v2 G2 H2 M2 y g2 r2 ⟨p, ds, i, j, ex, ey, em, ix, q⟩ => ?_
    subst ex ey
    cases r1
    cases r2
    obtain ⟨_, u, hu, ob⟩ := g2.wd.mo _ _ em
    obtain ⟨vs, rfl, rl⟩ := ob.lst
    refine ⟨p, vs, i, j, rfl, rfl, hu, by rw [rl.length]; exact ix, ?_⟩
    have g12 := g1.trans g2
    have g3 := g2.wd.put em (o := .lst (vs.set j v)) (b := .lst (ds.set j d)) (rl.set (r.mono g12.gg) j)
    exact k _ _ _ _ _ (so.go (g12.trans g3)) (g12.trans g3) But'.rfl q)
/-- what several targets take -/
def wGs (X : Cx) (ts : List Expr) : TGs := fun vs σ H Q => ∀ pins s us, Inv X pins σ H s → Vals vs us → wpAny (model X.prog X.w) X.A (assignInOrder ((assignEach ts X.env).map (·.2)) us) (fun _ s' => ∃ σ' H', Inv X pins σ' H' s' ∧ Q σ' H') X.xe s
theorem pgs_w {X : Cx} {ts : List Expr} : PGs X ts (wGs X ts) := ⟨fun pins s _ _ _ us _ I r h => h pins s us I r⟩
structure WGs (Y : Bd) (ts : List Expr) (T : List Nat) (ds : List D) (ss : List S) (M : Mm) (P : List S → Mm → Prop) : Prop where
  run : ∀ B σ G H vs Q, StOk Y B σ G H M ss → Iss Y.X.K G vs ds → (∀ σ' G' H' M' ss', StOk Y B σ' G' H' M' ss' → Tr Y.X.K G H M G' H' M' → But' T σ σ' → P ss' M' → Q σ' H') → wGs Y.X ts vs σ H Q
instance {Y : Bd} {ts : List Expr} {T : List Nat} {ds : List D} {ss : List S} {M : Mm} {P : List S → Mm → Prop} : CoeFun (WGs Y ts T ds ss M P) fun _ => ∀ B σ G H vs Q, StOk Y B σ G H M ss → Iss Y.X.K G vs ds → (∀ σ' G' H' M' ss', StOk Y B σ' G' H' M' ss' → Tr Y.X.K G H M G' H' M' → But' T σ σ' → P ss' M' → Q σ' H') → wGs Y.X ts vs σ H Q := ⟨fun h => h.run⟩
theorem wgs_nil {Q : List S → Mm → Prop} (q : Q ss M) : WGs Y [] [] [] ss M Q := .mk fun B σ G H vs R so r k pins s us I rv => pgs_nil.run pins s σ H vs us R I rv (by
  cases r
  exact ⟨rfl, k _ _ _ _ _ so so.refl But'.rfl q⟩)
theorem wgs_cons {T T' : List Nat} {d : D} {ds : List D} {Q : List S → Mm → Prop} (h : WG Y e T d ss M fun ss' M' => WGs Y es T' ds ss' M' Q) (hs : (assignEach (e :: es) Y.X.env).map (·.2) = assign e Y.X.env :: (assignEach es Y.X.env).map (·.2) := by rfl) : WGs Y (e :: es) (T ++ T') (d :: ds) ss M Q := .mk fun B σ G H vs R so r k pins s us I rv =>
  (pgs_cons pg_w pgs_w hs).run pins s σ H vs us R I rv (by
    cases r with
    | cons r1 r2 =>
      refine ⟨_, _, rfl, ?_⟩
      refine h _ _ _ _ _ _ so r1 fun σ1 G1 H1 M1 ss1 so1 g1 b1 q1 => ?_
      exact q1 _ _ _ _ _ _ so1 (r2.mono g1.gg) fun σ' G' H' M' ss' so' g' b' q' => k _ _ _ _ _ so' (g1.trans g') ⟨b'.1.trans b1.1, fun j hj => by
        rw [b'.2 j (fun z => hj (List.mem_append_right _ z)), b1.2 j (fun z => hj (List.mem_append_left _ z))]⟩ q')
theorem wg_tup {T : List Nat} {kk : Nat} {ds : List D} {Q : List S → Mm → Prop} (hc : Y.X.calm = true) (h : WGs Y es T ds ss M Q) (hn : (assignEach es Y.X.env).length = ds.length := by rfl) (hst : (assignEach es Y.X.env).findIdx? (·.1) = none := by rfl) : WG Y (.Tuple es kk pos) T (.tup ds) ss M Q :=
  .mk fun B σ G H v R so r k pins s u I rv => (pg_tup (n := ds.length) hc pgs_w hn hst).run pins s σ H v u R I rv (by
    cases r with
    | tup hx r => exact ⟨_, _, rfl, ex_t so.gh hx, r.length, h _ _ _ _ _ _ so r k⟩)
/-- targets = e -/
theorem ws_asg {T : List Nat} {tg : Expr} (h : WE Y e ss M fun d M => WG Y tg T d ss M N.nx) (hs : swapsWithSole [tg] e pos.line Y.X.env = pure false := by rfl) (hw : swappedStores [tg] e Y.X.env = pure none := by rfl) (h1 : (assignEach [tg] Y.X.env).map (·.2) = [assign tg Y.X.env] := by rfl) : WS Y (.Assign [tg] e pos) ss M N :=
  ws_ps (ps_asg pe_w pg_w hs hw h1) fun B σ G H E so eo => h _ _ _ _ _ so fun v G1 H1 M1 d g r q => q _ _ _ _ _ _ (so.go g) r fun σ' G' H' M' ss' so' g' b' q' => eo.nx _ _ _ _ _ so' q'
/-- a, b = x, y, two local names -/
theorem ws_par (i j : Nat) {x y : Str} {px py pt : Pos} {kt k2 pt2} (hc : Y.X.calm = true) (hN : Y.X.N.Nodup) (h : WA Y [a, b] ss M fun ds M => ∃ d d', ds = [d, d'] ∧ N.nx ((ss.set i (some d)).set j (some d')) M) (hi : Y.X.N[i]? = some x := by rfl) (hj : Y.X.N[j]? = some y := by rfl) (hij : i ≠ j := by decide)
    (hx : Y.X.env.scope.names.lookup x = some .local := by rfl) (hy : Y.X.env.scope.names.lookup y = some .local := by rfl) (hw : swappedStores [.Tuple [.Name x px, .Name y py] kt pt] (.Tuple [a, b] k2 pt2) Y.X.env = pure (some [x, y]) := by rfl)
    (hs : swapsWithSole [.Tuple [.Name x px, .Name y py] kt pt] (.Tuple [a, b] k2 pt2) pos.line Y.X.env = pure false := by rfl) : WS Y (.Assign [.Tuple [.Name x px, .Name y py] kt pt] (.Tuple [a, b] k2 pt2) pos) ss M N :=
  ws_ps (ps_par hc hN hi hj hij hx hy pa_w hw hs) fun B σ G H E so eo => by
    refine h _ _ _ _ _ so fun vs G1 H1 M1 ds g r ⟨d, d', ed, q⟩ => ?_
    subst ed
    obtain ⟨v, w, rfl, r1, r2⟩ := iss_two r
    exact ⟨v, w, rfl, eo.nx _ _ _ _ _ (((so.go g).set r1 i).set r2 j) q⟩
/-! ### fields -/
/-- o.f = value -/
theorem ws_fld {f : Str} {pos' : Pos} (h : WE Y e ss M fun d M => WE Y o ss M fun x M => ∃ p C fs, x = .rf p ∧ M p = some (.ins C fs) ∧ Cls Y.X.K C ∧ NoAttr Y.X.K C f ∧ fs.length < 1000 ∧ N.nx ss (mup M p (.ins C (putD f d fs)))) (hs : swapsWith e (some (.Attribute o f pos')) pos.line Y.X.env = pure false := by rfl) :
    WS Y (.Assign [.Attribute o f pos'] e pos) ss M N := ws_ps (ps_fld pe_w pe_w hs) fun B σ G H E so eo => by
  refine h _ _ _ _ _ so fun v1 G1 H1 M1 d g1 r1 h1 => ?_
  refine h1 _ _ _ _ _ (so.go g1) fun v2 G2 H2 M2 x g2 r2 ⟨p, C, fs, ex, em, cl, na, hl, q⟩ => ?_
  subst ex
  cases r2
  obtain ⟨_, u, hu, ob⟩ := g2.wd.mo _ _ em
  obtain ⟨dx, vs, rfl, rf⟩ := ob.ins
  refine ⟨p, C, dx, vs, rfl, hu, cl, na, by rw [rf.length]; exact hl, ?_⟩
  have g3 := g2.wd.put em (o := .ins C dx (putF f v1 vs)) (b := .ins C (putD f d fs)) ⟨rfl, rf.put (r1.mono g2.gg)⟩
  exact eo.nx _ _ _ _ _ (so.go ((g1.trans g2).trans g3)) q
/-- o.f op= value -/
theorem ws_fldaug {f : Str} {op : Operator} {tpos : Pos} (h : WE Y o ss M fun x M => ∃ p C fs d0, x = .rf p ∧ M p = some (.ins C fs) ∧ Cls Y.X.K C ∧ NoAttr Y.X.K C f ∧ fs.lookup f = some d0 ∧ WE Y e ss M fun y M => Op2 Y (inplaceOp op) d0 y M fun z M => ∃ fs', M p = some (.ins C fs') ∧ fs'.length < 1000 ∧ N.nx ss (mup M p (.ins C (putD f z fs')))) :
    WS Y (.AugAssign (.Attribute o f tpos) op e pos) ss M N := ws_ps (ps_fldaug pe_w pe_w (rd := anyR Y.X (inplaceOp op)) (fun pins s σ H x y u v Q I rx ry h => opr_any pins s σ H x y u v Q I rx ry h)) fun B σ G H E so eo => by
  refine h _ _ _ _ _ so fun v1 G1 H1 M1 x g1 r1 ⟨p, C, fs, d0, ex, em, cl, na, lk, h1⟩ => ?_
  subst ex
  cases r1
  obtain ⟨_, u, hu, ob⟩ := g1.wd.mo _ _ em
  obtain ⟨dx, vs, rfl, rf⟩ := ob.ins
  obtain ⟨y, l2, r2⟩ := rf.look lk
  refine ⟨p, C, dx, vs, y, rfl, hu, cl, na, l2, ?_⟩
  refine h1 _ _ _ _ _ (so.go g1) fun v2 G2 H2 M2 d2 g2 r3 ⟨rr, hr, h2⟩ => ⟨rr, hr, ?_⟩
  refine h2 _ _ _ _ _ (so.go (g1.trans g2)).w (r2.mono g2.gg) r3 fun v3 G3 H3 M3 z g3 r4 ⟨fs', em3, hl, q⟩ => ?_
  obtain ⟨_, u3, hu3, ob3⟩ := g3.wd.mo _ _ em3
  obtain ⟨dx', vs', rfl, rf'⟩ := ob3.ins
  refine ⟨dx', vs', hu3, by rw [rf'.length]; exact hl, ?_⟩
  have g4 := g3.wd.put em3 (o := .ins C dx' (putF f v3 vs')) (b := .ins C (putD f z fs')) ⟨rfl, rf'.put r4⟩
  exact eo.nx _ _ _ _ _ (so.go (((g1.trans g2).trans g3).trans g4)) q
/-! ### methods of lists -/
/-- what a method of a list that may change does -/
structure OpM (Y : Bd) (id : String) (p : Addr) (ds : List D) (M : Mm) (P : D → Mm → Prop) : Prop where
  ex : ∃ r, MtR Y.X id r ∧ ∀ G H ws Q, Wd Y.X.K G H M → Iss Y.X.K G ws ds → Kon Y G H M P Q → r (.ref p) ws H Q
def anyM (X : Cx) (id : String) : V → List V → Hp → VK → Prop := fun x xs H Q => ∃ r, MtR X id r ∧ r x xs H Q
theorem mtr_any {X : Cx} {id : String} : MtR X id (anyM X id) := fun pins s σ H x xs v us Q I r1 r2 h => by
  obtain ⟨r, hr, h⟩ := h
  exact hr pins s σ H x xs v us Q I r1 r2 h
theorem we_lm {name : Str} {id : String} {apos cpos : Pos} (slot : Slot "list" name id) (hty : typeOf (.builtin id) = pure (.type "method_descriptor"))
    (h : WE Y o ss M fun x M => ∃ p, x = .rf p ∧ (∃ xs, M p = some (.lst xs)) ∧ WA Y (e :: es) ss M fun ds M => OpM Y id p ds M P)
    (hbase : attributeBase o name Y.X.env (eval o Y.X.env) = eval o Y.X.env := by rfl)
    (hfew : ((backTo cpos (starEach (e :: es) Y.X.env)).all (fun x => !x.1) && (backToKw cpos (keywordEach [] Y.X.env)).all (fun x => x.1.isSome) && decide ((e :: es).length + ([] : List Keyword).length + (if ([] : List Keyword).isEmpty then 0 else 1) < 30)) = true := by rfl)
    (hline : (apos.endLine == cpos.line) = true := by rfl) (hs : starEach (e :: es) Y.X.env = (false, eval e Y.X.env) :: starEach es Y.X.env := by rfl) (hplain : (backTo cpos (starEach es Y.X.env)).any (·.1) = false := by rfl) :
    WE Y (.Call (.Attribute o name apos) (e :: es) [] cpos) ss M P := we_pe (pe_bm PySem.F.plainAttrs_list slot hty mtr_any pe_w pa_w hbase hfew hline hs hplain) fun B σ G H Q st k => by
  refine h _ _ _ _ _ st fun v1 G1 H1 M1 x g1 r1 ⟨p, ex, ⟨xs, em⟩, h1⟩ => ?_
  subst ex
  cases r1
  obtain ⟨_, u, hu, ob⟩ := g1.wd.mo _ _ em
  obtain ⟨vs, rfl, rl⟩ := ob.lst
  refine ⟨.inl ⟨rfl, _, SqL.of hu⟩, ?_⟩
  refine h1 _ _ _ _ _ (st.go g1) fun ws G2 H2 M2 ds g2 r2 ⟨r, hr, h2⟩ => ⟨r, hr, ?_⟩
  exact h2 _ _ _ _ (st.go (g1.trans g2)).w r2 fun v G' H' M' d g r q => k _ _ _ _ _ ((g1.trans g2).trans g) r q
theorem we_lm0 {name : Str} {id : String} {apos cpos : Pos} (slot : Slot "list" name id) (hty : typeOf (.builtin id) = pure (.type "method_descriptor"))
    (h : WE Y o ss M fun x M => ∃ p, x = .rf p ∧ (∃ xs, M p = some (.lst xs)) ∧ OpM Y id p [] M P)
    (hbase : attributeBase o name Y.X.env (eval o Y.X.env) = eval o Y.X.env := by rfl) (hline : (apos.endLine == cpos.line) = true := by rfl) :
    WE Y (.Call (.Attribute o name apos) [] [] cpos) ss M P := we_pe (pe_bm0 PySem.F.plainAttrs_list slot hty mtr_any pe_w hbase hline) fun B σ G H Q st k => by
  refine h _ _ _ _ _ st fun v1 G1 H1 M1 x g1 r1 ⟨p, ex, ⟨xs, em⟩, r, hr, h1⟩ => ?_
  subst ex
  cases r1
  obtain ⟨_, u, hu, ob⟩ := g1.wd.mo _ _ em
  obtain ⟨vs, rfl, rl⟩ := ob.lst
  exact ⟨.inl ⟨rfl, _, SqL.of hu⟩, r, hr, h1 _ _ _ _ (st.go g1).w .nil fun v G' H' M' d g r q => k _ _ _ _ _ (g1.trans g) r q⟩
theorem m_append {p : Addr} {xs : List D} {d : D} (em : M p = some (.lst xs)) (hz : xs.length < sizeLine) (q : P .non (mup M p (.lst (xs ++ [d])))) : OpM Y "list.append" p [d] M P :=
  ⟨_, mt_append, fun G H ws Q w r k => by
    obtain ⟨v, rfl, h⟩ := iss_one r
    obtain ⟨_, u, hu, ob⟩ := w.mo _ _ em
    obtain ⟨vs, rfl, rl⟩ := ob.lst
    exact ⟨p, vs, v, rfl, rfl, hu, by rw [rl.length]; exact hz, k _ _ _ _ _ (w.put em (o := .lst (vs ++ [v])) (b := .lst (xs ++ [d])) (rl.append (.cons h .nil))) .non q⟩⟩
theorem m_pop {p : Addr} {xs : List D} {d : D} (em : M p = some (.lst xs)) (hd : xs[xs.length - 1]? = some d) (q : P d (mup M p (.lst xs.dropLast))) : OpM Y "list.pop" p [] M P :=
  ⟨_, mt_pop, fun G H ws Q w r k => by
    cases r
    obtain ⟨_, u, hu, ob⟩ := w.mo _ _ em
    obtain ⟨vs, rfl, rl⟩ := ob.lst
    obtain ⟨v, hv, rv⟩ := rl.get' hd
    exact ⟨p, vs, v, rfl, rfl, hu, by rw [rl.length]; exact hv, k _ _ _ _ _ (w.put em (o := .lst vs.dropLast) (b := .lst xs.dropLast) rl.dropLast) rv q⟩⟩
theorem m_popAt {p : Addr} {xs : List D} {d : D} {i : Int} {j : Nat} (em : M p = some (.lst xs)) (h1 : -(2 ^ 63) ≤ i) (h2 : i < 2 ^ 63) (hj : seqIndex? i xs.length = some j) (hd : xs[j]? = some d) (q : P d (mup M p (.lst (xs.eraseIdx j)))) : OpM Y "list.pop" p [.int i] M P :=
  ⟨_, mt_popAt, fun G H ws Q w r k => by
    obtain ⟨v, rfl, h⟩ := iss_one r
    cases h
    obtain ⟨_, u, hu, ob⟩ := w.mo _ _ em
    obtain ⟨vs, rfl, rl⟩ := ob.lst
    obtain ⟨v, hv, rv⟩ := rl.get' hd
    exact ⟨p, vs, i, j, v, rfl, rfl, hu, h1, h2, by rw [rl.length]; exact hj, hv, k _ _ _ _ _ (w.put em (o := .lst (vs.eraseIdx j)) (b := .lst (xs.eraseIdx j)) (rl.erase j)) rv q⟩⟩
theorem we_append {apos cpos : Pos} (h : WE Y o ss M fun x M => ∃ p, x = .rf p ∧ (∃ xs, M p = some (.lst xs)) ∧ WE Y e ss M fun d M => ∃ xs, M p = some (.lst xs) ∧ xs.length < sizeLine ∧ P .non (mup M p (.lst (xs ++ [d]))))
    (hbase : attributeBase o "append" Y.X.env (eval o Y.X.env) = eval o Y.X.env := by rfl)
    (hfew : ((backTo cpos (starEach [e] Y.X.env)).all (fun x => !x.1) && (backToKw cpos (keywordEach [] Y.X.env)).all (fun x => x.1.isSome) && decide (([e] : List Expr).length + ([] : List Keyword).length + (if ([] : List Keyword).isEmpty then 0 else 1) < 30)) = true := by rfl)
    (hline : (apos.endLine == cpos.line) = true := by rfl) (hs : starEach [e] Y.X.env = (false, eval e Y.X.env) :: starEach [] Y.X.env := by rfl) :
    WE Y (.Call (.Attribute o "append" apos) [e] [] cpos) ss M P := we_lm PySem.F.slot_list_append PySem.F.type_list_append (h.mono fun x M ⟨p, ex, hx, h1⟩ => ⟨p, ex, hx, wa_cons (h1.mono fun d M ⟨xs, em, hz, q⟩ => wa_nil (m_append em hz q)) hs⟩) hbase hfew hline hs rfl
theorem we_pop {apos cpos : Pos} (h : WE Y o ss M fun x M => ∃ p xs d, x = .rf p ∧ M p = some (.lst xs) ∧ xs[xs.length - 1]? = some d ∧ P d (mup M p (.lst xs.dropLast)))
    (hbase : attributeBase o "pop" Y.X.env (eval o Y.X.env) = eval o Y.X.env := by rfl) (hline : (apos.endLine == cpos.line) = true := by rfl) :
    WE Y (.Call (.Attribute o "pop" apos) [] [] cpos) ss M P := we_lm0 PySem.F.slot_list_pop PySem.F.type_list_pop (h.mono fun x M ⟨p, xs, d, ex, em, hd, q⟩ => ⟨p, ex, ⟨xs, em⟩, m_pop em hd q⟩) hbase hline
theorem we_popAt {apos cpos : Pos} (h : WE Y o ss M fun x M => ∃ p, x = .rf p ∧ (∃ xs, M p = some (.lst xs)) ∧ WE Y e ss M fun y M => ∃ i xs j d, y = .int i ∧ M p = some (.lst xs) ∧ (-(2 ^ 63) ≤ i ∧ i < 2 ^ 63) ∧ seqIndex? i xs.length = some j ∧ xs[j]? = some d ∧ P d (mup M p (.lst (xs.eraseIdx j))))
    (hbase : attributeBase o "pop" Y.X.env (eval o Y.X.env) = eval o Y.X.env := by rfl)
    (hfew : ((backTo cpos (starEach [e] Y.X.env)).all (fun x => !x.1) && (backToKw cpos (keywordEach [] Y.X.env)).all (fun x => x.1.isSome) && decide (([e] : List Expr).length + ([] : List Keyword).length + (if ([] : List Keyword).isEmpty then 0 else 1) < 30)) = true := by rfl)
    (hline : (apos.endLine == cpos.line) = true := by rfl) (hs : starEach [e] Y.X.env = (false, eval e Y.X.env) :: starEach [] Y.X.env := by rfl) :
    WE Y (.Call (.Attribute o "pop" apos) [e] [] cpos) ss M P := we_lm PySem.F.slot_list_pop PySem.F.type_list_pop (h.mono fun x M ⟨p, ex, hx, h1⟩ => ⟨p, ex, hx, wa_cons (h1.mono fun y M ⟨i, xs, j, d, ey, em, hb, hj, hd, q⟩ => wa_nil (by
      subst ey
      exact m_popAt em hb.1 hb.2 hj hd q)) hs⟩) hbase hfew hline hs rfl
/-! ### what is known of a slot, said anew -/
/-- a list in slot i becomes data -/
theorem wss_frz (i : Nat) {p : Addr} {ds : List D} (hs : ss[i]? = some (some (.rf p))) (em : M p = some (.lst ds)) (h : WSs Y sts (ss.set i (some (.lst ds))) (mdel M p) N) : WSs Y sts ss M N := .mk fun B σ G H E so eo => by
  obtain ⟨v, ev, rv⟩ := so.slot hs
  cases rv
  obtain ⟨_, u, hu, ob⟩ := so.w.mo _ _ em
  obtain ⟨vs, rfl, rl⟩ := ob.lst
  have g := so.w.frz em hu
  have so2 := so.go g
  refine h _ _ _ _ _ ⟨so2.t, so2.er, so2.f.say (fun w hw => ?_) ⟨_, ev⟩⟩ eo
  rw [ev] at hw
  cases hw
  exact .lst upd_same (rl.mono g.gg)
theorem wss_frzO (i : Nat) {p C : Addr} {fs : List (Str × D)} (hs : ss[i]? = some (some (.rf p))) (em : M p = some (.ins C fs)) (h : WSs Y sts (ss.set i (some (.obj C fs))) (mdel M p) N) : WSs Y sts ss M N := .mk fun B σ G H E so eo => by
  obtain ⟨v, ev, rv⟩ := so.slot hs
  cases rv
  obtain ⟨_, u, hu, ob⟩ := so.w.mo _ _ em
  obtain ⟨dx, vs, rfl, rl⟩ := ob.ins
  have g := so.w.frz em hu
  have so2 := so.go g
  refine h _ _ _ _ _ ⟨so2.t, so2.er, so2.f.say (fun w hw => ?_) ⟨_, ev⟩⟩ eo
  rw [ev] at hw
  cases hw
  exact .obj upd_same (rl.mono g.gg)
/-- objects are forgotten -/
theorem wss_drop {M' : Mm} (s : Msub M' M) (h : WSs Y sts ss M' N) : WSs Y sts ss M N := .mk fun B σ G H E so eo => h _ _ _ _ _ (so.go (so.w.drop s)) eo
theorem we_drop {M' : Mm} (s : Msub M' M) (h : WE Y e ss M' P) : WE Y e ss M P := .mk fun B σ G H Q so k => h _ _ _ _ _ (so.go (so.w.drop s)) fun v G' H' M2 d g r q => k _ _ _ _ _ ((so.w.drop s).trans g) r q
/-- .. behind an expression -/
theorem we_dropR (h : WE Y e ss M fun d M1 => ∃ M2, Msub M2 M1 ∧ P d M2) : WE Y e ss M P := .mk fun B σ G H Q so k => h _ _ _ _ _ so fun v G' H' M1 d g r ⟨M2, s, q⟩ => k _ _ _ _ _ (g.trans (g.wd.drop s)) r q
end
end JQ

set_option Elab.async false
set_option linter.all false
set_option maxRecDepth 100000
set_option maxHeartbeats 2000000
/-! Loops and comprehensions. -/
namespace JQ
open PySem PySem.Spec PyProof.Rows L2 RZ
open Evl (Ex ex_l ex_t)
/-- J walks the items ds, whatever grows behind G1 -/
structure Seq (Y : Bd) (J : It) (G1 : Hp) (ds : List D) (L : Mm → Prop) : Prop where
  go : ∀ i G H M, Ex G1 G → Wd Y.X.K G H M → L M → i < ds.length → J.go i H
  stop : ∀ G H M, Ex G1 G → Wd Y.X.K G H M → L M → J.stop ds.length H
  yld : ∀ i G H M x H' d, Ex G1 G → Wd Y.X.K G H M → L M → ds[i]? = some d → J.yld i H x H' → ∃ G', Tr Y.X.K G H M G' H' M ∧ Is Y.X.K G' x d
/-- nothing is locked -/
def L0 : Mm → Prop := fun _ => True
/-- the list at a stands as it is -/
def Lk (a : Addr) (ds : List D) : Mm → Prop := fun M => M a = some (.lst ds)
structure WI (Y : Bd) (tg iter : Expr) (ss : List S) (M : Mm) (R : List D → (Mm → Prop) → Mm → Prop) : Prop where
  run : ∀ B σ G H RR, StOk Y B σ G H M ss → (∀ J G1 H1 M1 ds L, Tr Y.X.K G H M G1 H1 M1 → Seq Y J G1 ds L → R ds L M1 → RR J H1) → wI Y.X tg iter σ H RR
instance {Y : Bd} {tg iter : Expr} {ss : List S} {M : Mm} {R : List D → (Mm → Prop) → Mm → Prop} : CoeFun (WI Y tg iter ss M R) fun _ => ∀ B σ G H RR, StOk Y B σ G H M ss → (∀ J G1 H1 M1 ds L, Tr Y.X.K G H M G1 H1 M1 → Seq Y J G1 ds L → R ds L M1 → RR J H1) → wI Y.X tg iter σ H RR := ⟨fun h => h.run⟩
section
variable {Y : Bd} {ss : List S} {M : Mm} {N : DE} {tg iter e a b c elt : Expr} {es ifs : List Expr} {pos p tpos : Pos} {R : List D → (Mm → Prop) → Mm → Prop} {elts : List Expr} {kk : Nat}
theorem wi_pi {wi : TI} (h : PI Y.X tg iter wi) (q : ∀ B σ G H RR, StOk Y B σ G H M ss → (∀ J G1 H1 M1 ds L, Tr Y.X.K G H M G1 H1 M1 → Seq Y J G1 ds L → R ds L M1 → RR J H1) → wi σ H RR) : WI Y tg iter ss M R := .mk fun B σ G H RR so k pins s I => h.run pins s σ H RR I (q _ _ _ _ _ so k)
theorem seq_list {G1 : Hp} {l : Addr} {vs : List V} {ds : List D} (h : G1 l = some (.lst vs)) (r : Iss Y.X.K G1 vs ds) : Seq Y (Itl Y.X.K l) G1 ds L0 where
  go := fun i G H M e1 w _ hi => ⟨vs, vs[i]'(by rw [r.length]; exact hi), SqL.of (w.gh _ _ (e1 _ _ h)), by simp⟩
  stop := fun G H M e1 w _ => ⟨vs, SqL.of (w.gh _ _ (e1 _ _ h)), by rw [r.length]; exact Nat.le_refl _⟩
  yld := fun i G H M x H' d e1 hs _ hd y => by
    obtain ⟨rfl, y⟩ := y
    obtain ⟨z, hz, rz⟩ := r.get' hd
    have q := y vs (SqL.of (hs.gh _ _ (e1 _ _ h)))
    rw [hz] at q
    cases q
    exact ⟨G, hs.refl, rz.mono e1⟩
theorem seq_tup {G1 : Hp} {l : Addr} {vs : List V} {ds : List D} (h : SqT Y.X.K G1 l vs) (r : Iss Y.X.K G1 vs ds) : Seq Y (Itt Y.X.K l) G1 ds L0 where
  go := fun i G H M e1 w _ hi => ⟨vs, vs[i]'(by rw [r.length]; exact hi), ex_t w.gh (ex_t e1 h), by simp⟩
  stop := fun G H M e1 w _ => ⟨vs, ex_t w.gh (ex_t e1 h), by rw [r.length]; exact Nat.le_refl _⟩
  yld := fun i G H M x H' d e1 hs _ hd y => by
    obtain ⟨rfl, y⟩ := y
    obtain ⟨z, hz, rz⟩ := r.get' hd
    have q := y vs (ex_t hs.gh (ex_t e1 h))
    rw [hz] at q
    cases q
    exact ⟨G, hs.refl, rz.mono e1⟩
theorem wi_list (h : WE Y e ss M fun x M => ∃ ds, x = .lst ds ∧ R ds L0 M) : WI Y tg e ss M R := wi_pi (pi_list pe_w) fun B σ G H RR so k => by
  refine h _ _ _ _ _ so fun v G1 H1 M1 d g r ⟨ds, ed, q⟩ => ?_
  subst ed
  cases r with
  | lst hx r => exact ⟨_, rfl, ⟨_, SqL.of (g.gh _ _ hx)⟩, k _ _ _ _ _ _ g (seq_list hx r) q⟩
/-- a list that may change, but does not in the walk -/
theorem seq_rf {G1 : Hp} {l : Addr} {ds : List D} : Seq Y (Itl Y.X.K l) G1 ds (Lk l ds) where
  go := fun i G H M e1 w lk hi => by
    obtain ⟨_, u, hu, ob⟩ := w.mo _ _ lk
    obtain ⟨vs, rfl, r⟩ := ob.lst
    exact ⟨vs, vs[i]'(by rw [r.length]; exact hi), SqL.of hu, by simp⟩
  stop := fun G H M e1 w lk => by
    obtain ⟨_, u, hu, ob⟩ := w.mo _ _ lk
    obtain ⟨vs, rfl, r⟩ := ob.lst
    exact ⟨vs, SqL.of hu, by rw [r.length]; exact Nat.le_refl _⟩
  yld := fun i G H M x H' d e1 w lk hd y => by
    obtain ⟨_, u, hu, ob⟩ := w.mo _ _ lk
    obtain ⟨vs, rfl, r⟩ := ob.lst
    obtain ⟨rfl, y⟩ := y
    obtain ⟨z, hz, rz⟩ := r.get' hd
    have q := y vs (SqL.of hu)
    rw [hz] at q
    cases q
    exact ⟨G, w.refl, rz⟩
theorem wi_rf (h : WE Y e ss M fun x M => ∃ a ds, x = .rf a ∧ M a = some (.lst ds) ∧ R ds (Lk a ds) M) : WI Y tg e ss M R := wi_pi (pi_list pe_w) fun B σ G H RR so k => by
  refine h _ _ _ _ _ so fun v G1 H1 M1 d g r ⟨a, ds, ed, em, q⟩ => ?_
  subst ed
  cases r
  obtain ⟨_, u, hu, ob⟩ := g.wd.mo _ _ em
  obtain ⟨vs, rfl, r⟩ := ob.lst
  exact ⟨a, rfl, ⟨_, SqL.of hu⟩, k _ _ _ _ _ _ g seq_rf q⟩
theorem wi_tup (h : WE Y e ss M fun x M => ∃ ds, x = .tup ds ∧ R ds L0 M) : WI Y tg e ss M R := wi_pi (pi_tup pe_w) fun B σ G H RR so k => by
  refine h _ _ _ _ _ so fun v G1 H1 M1 d g r ⟨ds, ed, q⟩ => ?_
  subst ed
  cases r with
  | tup hx r => exact ⟨_, rfl, ⟨_, ex_t g.gh hx⟩, k _ _ _ _ _ _ g (seq_tup hx r) q⟩
/-- lo, lo + 1, .. -/
def rngI (lo : Int) (n : Nat) : List Int := (List.range n).map fun (i : Nat) => lo + (i : Int)
def rngD (lo : Int) (n : Nat) : List D := (List.range n).map fun (i : Nat) => D.int (lo + (i : Int))
theorem rngD_eq {lo : Int} {n : Nat} : rngD lo n = (rngI lo n).map D.int := by unfold rngD rngI; rw [List.map_map]; rfl
theorem rngD_len {lo : Int} {n : Nat} : (rngD lo n).length = n := by simp [rngD]
theorem rngD_get {lo : Int} {n i : Nat} {d : D} (h : (rngD lo n)[i]? = some d) : i < n ∧ d = .int (lo + (i : Int)) := by
  unfold rngD at h
  rw [List.getElem?_map] at h
  by_cases c : i < n
  · rw [List.getElem?_range c] at h
    cases h
    exact ⟨c, rfl⟩
  · rw [List.getElem?_eq_none (by simpa using c)] at h
    cases h
theorem seq_rng {G1 : Hp} {lo : Int} {n : Nat} : Seq Y (Itr lo n) G1 (rngD lo n) L0 where
  go := fun i G H M e1 w _ hi => by
    show i < n
    simpa [rngD] using hi
  stop := fun G H M e1 w _ => by show n ≤ (rngD lo n).length; simp [rngD]
  yld := fun i G H M x H' d e1 hs _ hd y => by
    obtain ⟨rfl, rfl⟩ := y
    obtain ⟨_, rfl⟩ := rngD_get hd
    exact ⟨G, hs.refl, .int _⟩
theorem wi_rng1 (hm : Y.X.mg "range" = none) (h : WE Y a ss M fun x M => ∃ n : Int, x = .int n ∧ -(2 ^ 62) ≤ n ∧ n < 2 ^ 62 ∧ R (rngD 0 n.toNat) L0 M) (hg : Gl Y.X "range" := by rfl) (hs : starEach [a] Y.X.env = [(false, eval a Y.X.env)] := by rfl) (h1 : starEach (a :: []) Y.X.env = (false, eval a Y.X.env) :: starEach [] Y.X.env := by rfl) :
    WI Y tg (.Call (.Name "range" p) [a] [] pos) ss M R := wi_pi (pi_range1 hg hm (pa_cons pe_w pa_nil h1) hs) fun B σ G H RR so k => by
  refine h _ _ _ _ _ so fun v G1 H1 M1 d g r ⟨n, ed, h1, h2, q⟩ => ?_
  subst ed
  cases r
  exact ⟨n, rfl, h1, h2, k _ _ _ _ _ _ g seq_rng q⟩
theorem wi_rng2 (hm : Y.X.mg "range" = none) (h : WA Y [a, b] ss M fun xs M => ∃ i n : Int, xs = [.int i, .int n] ∧ (-(2 ^ 62) ≤ i ∧ i < 2 ^ 62 ∧ -(2 ^ 62) ≤ n ∧ n < 2 ^ 62) ∧ R (rngD i (n - i).toNat) L0 M) (hg : Gl Y.X "range" := by rfl)
    (hs : starEach [a, b] Y.X.env = [(false, eval a Y.X.env), (false, eval b Y.X.env)] := by rfl) (hs2 : starEach [b] Y.X.env = [(false, eval b Y.X.env)] := by rfl) :
    WI Y tg (.Call (.Name "range" p) [a, b] [] pos) ss M R := wi_pi (pi_range2 hg hm pa_w hs hs2) fun B σ G H RR so k => by
  refine h _ _ _ _ _ so fun vs G1 H1 M1 ds g r ⟨i, n, ed, hb, q⟩ => ?_
  subst ed
  obtain ⟨v, w, rfl, r1, r2⟩ := iss_two r
  cases r1
  cases r2
  exact ⟨i, n, rfl, hb, k _ _ _ _ _ _ g seq_rng q⟩
/-- a range with a step -/
def rngC (lo c : Int) (n : Nat) : List D := (List.range n).map fun (i : Nat) => D.int (lo + (i : Int) * c)
theorem seq_rngC {G1 : Hp} {lo c : Int} {n : Nat} : Seq Y (Itc lo c n) G1 (rngC lo c n) L0 where
  go := fun i G H M e1 w _ hi => by
    show i < n
    simpa [rngC] using hi
  stop := fun G H M e1 w _ => by show n ≤ (rngC lo c n).length; simp [rngC]
  yld := fun i G H M x H' d e1 hs _ hd y => by
    obtain ⟨rfl, rfl⟩ := y
    unfold rngC at hd
    rw [List.getElem?_map] at hd
    by_cases c : i < n
    · rw [List.getElem?_range c] at hd
      cases hd
      exact ⟨G, hs.refl, .int _⟩
    · rw [List.getElem?_eq_none (by simpa using c)] at hd
      cases hd
theorem wi_rngD (hm : Y.X.mg "range" = none) (h : WA Y [a, b, c] ss M fun xs M => ∃ i n : Int, xs = [.int i, .int n, .int (-1)] ∧ (-(2 ^ 62) ≤ i ∧ i < 2 ^ 62 ∧ -(2 ^ 62) ≤ n ∧ n < 2 ^ 62) ∧ R (rngC i (-1) (i - n).toNat) L0 M) (hg : Gl Y.X "range" := by rfl)
    (hs : starEach [a, b, c] Y.X.env = (false, eval a Y.X.env) :: starEach [b, c] Y.X.env := by rfl) (hs2 : (backTo pos (starEach [b, c] Y.X.env)).any (·.1) = false := by rfl) :
    WI Y tg (.Call (.Name "range" p) [a, b, c] [] pos) ss M R := wi_pi (pi_range3 hg hm pa_w hs hs2) fun B σ G H RR so k => by
  refine h _ _ _ _ _ so fun vs G1 H1 M1 ds g r ⟨i, n, ed, hb, q⟩ => ?_
  subst ed
  cases r with
  | cons r1 r =>
    obtain ⟨v, w, rfl, r2, r3⟩ := iss_two r
    cases r1
    cases r2
    cases r3
    exact ⟨i, n, -1, _, rfl, RgC.neg hb.1 hb.2.1 hb.2.2.1 hb.2.2.2, k _ _ _ _ _ _ g seq_rngC q⟩
/-- pairs: enumerate, zip -/
def enumD (ds : List D) : List D := (List.range ds.length).map fun (i : Nat) => D.tup [.int (i : Int), ds.getD i .non]
theorem getD_of {ds : List D} {i : Nat} {d : D} (h : ds[i]? = some d) : ds.getD i .non = d := by rw [List.getD_eq_getElem?_getD, h]; rfl
theorem enumD_len {ds : List D} : (enumD ds).length = ds.length := by simp [enumD]
theorem enumD_get {ds : List D} {i : Nat} {d : D} (h : (enumD ds)[i]? = some d) : ∃ x, ds[i]? = some x ∧ d = .tup [.int (i : Int), x] := by
  unfold enumD at h
  rw [List.getElem?_map] at h
  by_cases c : i < ds.length
  · rw [List.getElem?_range c] at h
    cases h
    refine ⟨ds[i], by simp [c], ?_⟩
    show D.tup [.int (i : Int), ds.getD i .non] = _
    rw [getD_of (d := ds[i]) (by simp [c])]
  · rw [List.getElem?_eq_none (by simpa using c)] at h
    cases h
theorem seq_enum {G1 : Hp} {l : Addr} {vs : List V} {ds : List D} (h : G1 l = some (.lst vs)) (r : Iss Y.X.K G1 vs ds) : Seq Y (Ite Y.X.K l) G1 (enumD ds) L0 := by
  have w : ∀ {H : Hp}, Walk (Ite Y.X.K l) vs.length (fun H => SqL Y.X.K H l vs) (YPair (fun i => some (.int (i : Nat))) (fun i => vs[i]?)) := fun {H} => walk_enum
  have hl : (enumD ds).length = vs.length := by simp [enumD, r.length]
  refine ⟨fun i G H M e1 w' _ hi => (w (H := H)).goes i H (by omega) (SqL.of (w'.gh _ _ (e1 _ _ h))), fun G H M e1 w' _ => by rw [hl]; exact (w (H := H)).stops H (SqL.of (w'.gh _ _ (e1 _ _ h))), fun i G H M x H' d e1 hs _ hd y => ?_⟩
  have hi : i < vs.length := by
    rw [← hl]
    exact (List.getElem?_eq_some_iff.mp hd).1
  obtain ⟨T, z1, z2, ev, hT, eH, e3, e4⟩ := (w (H := H)).yields i H x H' hi (SqL.of (hs.gh _ _ (e1 _ _ h))) y
  subst ev eH
  cases e3
  obtain ⟨d2, hd2, r2⟩ := r.get e4
  obtain ⟨d3, hd3, rfl⟩ := enumD_get hd
  rw [hd2] at hd3
  cases hd3
  have g := hs.new (o := .tup [.int (i : Int), z2]) hT
  exact ⟨_, g, .tup (SqT.of upd_same) (.cons (.int _) (.cons (r2.mono (e1.trans g.gg)) .nil))⟩
theorem wi_enum (hm : Y.X.mg "enumerate" = none) (h : WE Y e ss M fun x M => ∃ ds, x = .lst ds ∧ R (enumD ds) L0 M) (hg : Gl Y.X "enumerate" := by rfl) (hs : starEach [e] Y.X.env = [(false, eval e Y.X.env)] := by rfl) (h1 : starEach (e :: []) Y.X.env = (false, eval e Y.X.env) :: starEach [] Y.X.env := by rfl) :
    WI Y (.Tuple elts kk tpos) (.Call (.Name "enumerate" p) [e] [] pos) ss M R := wi_pi (pi_enum hg hm (pa_cons pe_w pa_nil h1) hs) fun B σ G H RR so k => by
  refine h _ _ _ _ _ so fun v G1 H1 M1 d g r ⟨ds, ed, q⟩ => ?_
  subst ed
  cases r with
  | lst hx r => exact ⟨_, _, rfl, SqL.of (g.gh _ _ hx), k _ _ _ _ _ _ g (seq_enum hx r) q⟩
def zipD (xs ys : List D) : List D := (List.range (min xs.length ys.length)).map fun (i : Nat) => D.tup [xs.getD i .non, ys.getD i .non]
theorem zip_item {xs ys : List D} {i : Nat} {d x y : D} (h : (zipD xs ys)[i]? = some d) (hx : xs[i]? = some x) (hy : ys[i]? = some y) : d = .tup [x, y] := by
  unfold zipD at h
  have h1 := (List.getElem?_eq_some_iff.mp hx).1
  have h2 := (List.getElem?_eq_some_iff.mp hy).1
  rw [List.getElem?_map, List.getElem?_range (by omega)] at h
  have q := Option.some.inj h
  rw [← q]
  show D.tup [xs.getD i .non, ys.getD i .non] = _
  rw [getD_of hx, getD_of hy]
theorem seq_zipT {G1 : Hp} {l m : Addr} {vs ws : List V} {ds es : List D} (h : SqT Y.X.K G1 l vs) (r : Iss Y.X.K G1 vs ds) (h2 : SqT Y.X.K G1 m ws) (r2 : Iss Y.X.K G1 ws es) : Seq Y (ItzT Y.X.K l m) G1 (zipD ds es) L0 := by
  have hl : (zipD ds es).length = min vs.length ws.length := by simp [zipD, r.length, r2.length]
  refine ⟨fun i G H M e1 w' _ hi => ?_, fun G H M e1 w' _ => ?_, fun i G H M x H' d e1 hs _ hd y => ?_⟩
  · rw [hl] at hi
    exact ⟨vs, ws, vs[i]'(by omega), ws[i]'(by omega), ex_t w'.gh (ex_t e1 h), ex_t w'.gh (ex_t e1 h2), by simp, by simp⟩
  · rw [hl]
    exact ⟨vs, ws, ex_t w'.gh (ex_t e1 h), ex_t w'.gh (ex_t e1 h2), by omega⟩
  · obtain ⟨T, z1, z2, ev, hT, eH, e3, e4⟩ := y
    subst ev eH
    have q3 := e3 vs (ex_t hs.gh (ex_t e1 h))
    have q4 := e4 ws (ex_t hs.gh (ex_t e1 h2))
    obtain ⟨d1, hd1, r3⟩ := r.get q3
    obtain ⟨d2, hd2, r4⟩ := r2.get q4
    have ed := zip_item hd hd1 hd2
    subst ed
    have g := hs.new (o := .tup [z1, z2]) hT
    exact ⟨_, g, .tup (SqT.of upd_same) (.cons (r3.mono (e1.trans g.gg)) (.cons (r4.mono (e1.trans g.gg)) .nil))⟩
theorem seq_zipL {G1 : Hp} {l m : Addr} {vs ws : List V} {ds es : List D} (h : G1 l = some (.lst vs)) (r : Iss Y.X.K G1 vs ds) (h2 : G1 m = some (.lst ws)) (r2 : Iss Y.X.K G1 ws es) : Seq Y (Itz Y.X.K l m) G1 (zipD ds es) L0 := by
  have w : ∀ {H : Hp}, Walk (Itz Y.X.K l m) (min vs.length ws.length) (fun H => SqL Y.X.K H l vs ∧ SqL Y.X.K H m ws) (YPair (fun i => vs[i]?) (fun i => ws[i]?)) := fun {H} => walk_zip rfl
  have hl : (zipD ds es).length = min vs.length ws.length := by simp [zipD, r.length, r2.length]
  have hq : ∀ {G H : Hp}, Ex G1 G → Ex G H → SqL Y.X.K H l vs ∧ SqL Y.X.K H m ws := fun e1 e2 => ⟨SqL.of (e2 _ _ (e1 _ _ h)), SqL.of (e2 _ _ (e1 _ _ h2))⟩
  refine ⟨fun i G H M e1 w' _ hi => (w (H := H)).goes i H (by omega) (hq e1 w'.gh), fun G H M e1 w' _ => by rw [hl]; exact (w (H := H)).stops H (hq e1 w'.gh), fun i G H M x H' d e1 hs _ hd y => ?_⟩
  have hi : i < min vs.length ws.length := by
    rw [← hl]
    exact (List.getElem?_eq_some_iff.mp hd).1
  obtain ⟨T, z1, z2, ev, hT, eH, e3, e4⟩ := (w (H := H)).yields i H x H' hi (hq e1 hs.gh) y
  subst ev eH
  obtain ⟨d1, hd1, r3⟩ := r.get e3
  obtain ⟨d2, hd2, r4⟩ := r2.get e4
  have ed := zip_item hd hd1 hd2
  subst ed
  have g := hs.new (o := .tup [z1, z2]) hT
  exact ⟨_, g, .tup (SqT.of upd_same) (.cons (r3.mono (e1.trans g.gg)) (.cons (r4.mono (e1.trans g.gg)) .nil))⟩
theorem wi_zipT (hm : Y.X.mg "zip" = none) (h : WA Y [a, b] ss M fun xs M => ∃ ds es, xs = [.tup ds, .tup es] ∧ R (zipD ds es) L0 M) (hg : Gl Y.X "zip" := by rfl) (hs : starEach [a, b] Y.X.env = (false, eval a Y.X.env) :: starEach [b] Y.X.env := by rfl) (hs2 : (backTo pos (starEach [b] Y.X.env)).any (·.1) = false := by rfl) :
    WI Y (.Tuple elts kk tpos) (.Call (.Name "zip" p) [a, b] [] pos) ss M R := wi_pi (pi_zipA hg hm pa_w hs hs2) fun B σ G H RR so k => by
  refine h _ _ _ _ _ so fun vs G1 H1 M1 ds g r ⟨xs, ys, ed, q⟩ => ?_
  subst ed
  obtain ⟨v, w, rfl, r1, r2⟩ := iss_two r
  cases r1 with
  | tup h1 r1 =>
    cases r2 with
    | tup h2 r2 => exact ⟨_, _, _, _, rfl, .inr ⟨ex_t g.gh h1, ex_t g.gh h2, k _ _ _ _ _ _ g (seq_zipT h1 r1 h2 r2) q⟩⟩
theorem wi_zipL (hm : Y.X.mg "zip" = none) (h : WA Y [a, b] ss M fun xs M => ∃ ds es, xs = [.lst ds, .lst es] ∧ R (zipD ds es) L0 M) (hg : Gl Y.X "zip" := by rfl) (hs : starEach [a, b] Y.X.env = (false, eval a Y.X.env) :: starEach [b] Y.X.env := by rfl) (hs2 : (backTo pos (starEach [b] Y.X.env)).any (·.1) = false := by rfl) :
    WI Y (.Tuple elts kk tpos) (.Call (.Name "zip" p) [a, b] [] pos) ss M R := wi_pi (pi_zipA hg hm pa_w hs hs2) fun B σ G H RR so k => by
  refine h _ _ _ _ _ so fun vs G1 H1 M1 ds g r ⟨xs, ys, ed, q⟩ => ?_
  subst ed
  obtain ⟨v, w, rfl, r1, r2⟩ := iss_two r
  cases r1 with
  | lst h1 r1 =>
    cases r2 with
    | lst h2 r2 => exact ⟨_, _, _, _, rfl, .inl ⟨SqL.of (g.gh _ _ h1), SqL.of (g.gh _ _ h2), k _ _ _ _ _ _ g (seq_zipL h1 r1 h2 r2) q⟩⟩
/-! ### the base of a body may be moved up -/
theorem ErrOk.base {B : Bs} {G H : Hp} (h : ErrOk Y B) (t : Tr Y.X.K B.G B.H B.M G H M) : ErrOk Y ⟨G, H, M⟩ := by
  obtain ⟨W, tk, q⟩ := h
  refine ⟨W, tk, fun C gs fs d σ G2 H2 M2 M' ss2 ee ms g f n ng nm hd r => q C gs fs d σ G2 H2 M2 M' ss2 ee ms (t.trans g) f ?_ ng nm hd r⟩
  cases c : B.H d with
  | none => rfl
  | some u =>
    obtain ⟨u', c'⟩ := t.lv d u c
    have n' : H d = none := n
    rw [n'] at c'
    cases c'
theorem StOk.base {B : Bs} {G H : Hp} {σ : L2.St} (h : StOk Y B σ G H M ss) : StOk Y ⟨G, H, M⟩ σ G H M ss := ⟨h.refl, h.er.base h.t, h.f⟩
theorem StOk.unbase {B : Bs} {G H G2 H2 : Hp} {M2 : Mm} {σ : L2.St} {ss2 : List S} (t : Tr Y.X.K B.G B.H B.M G H M) (er : ErrOk Y B) (h : StOk Y ⟨G, H, M⟩ σ G2 H2 M2 ss2) : StOk Y B σ G2 H2 M2 ss2 := ⟨t.trans h.t, er, h.f⟩
theorem EndsOk.base {B : Bs} {G H : Hp} {E : Ends} (t : Tr Y.X.K B.G B.H B.M G H M) (er : ErrOk Y B) (eo : EndsOk Y B N E) : EndsOk Y ⟨G, H, M⟩ N E :=
  ⟨fun σ G2 H2 M2 s so q => eo.nx _ _ _ _ _ (so.unbase t er) q, fun v G2 H2 M2 d g r q => eo.rt _ _ _ _ _ (t.trans g) r q, fun σ G2 H2 M2 s so q => eo.bk _ _ _ _ _ (so.unbase t er) q, fun σ G2 H2 M2 s so q => eo.ct _ _ _ _ _ (so.unbase t er) q⟩
/-- for tg in iter: body; Iv by the turn, the slots and what changed -/
theorem ws_for {T : List Nat} {body : List Stmt} (hp : PassesOwn (model Y.X.prog Y.X.w) Y.X.A Y.X.env Y.X.xe) (hc : Y.X.calm = true)
    (h : WI Y tg iter ss M fun ds L M => ∃ Iv : Nat → List S → Mm → Prop, Iv 0 ss M ∧ (∀ i s M, Iv i s M → L M) ∧ (∀ i d ss' M', ds[i]? = some d → Iv i ss' M' → WG Y tg T d ss' M' fun ss2 M2 => WSs Y body ss2 M2 { nx := Iv (i + 1), ct := Iv (i + 1), bk := N.nx, rt := N.rt }) ∧ ∀ ss' M', Iv ds.length ss' M' → N.nx ss' M')
    (hs : ∀ x, foldedSetIterable iter Y.X.env x = pure x := by intro _; rfl) : WS Y (.For tg iter body [] pos) ss M N :=
  ws_ps (L2.ps_for hp hc pi_w pg_w pss_w hs) fun B σ G H E so eo => by
    refine h _ _ _ _ _ so fun J G1 H1 M1 ds L g sq ⟨Iv, h0, hL, ht, he⟩ => ?_
    have so1 := so.go g
    have eo1 := eo.base so1.t so1.er
    refine ⟨fun i m σ' H' => m = ds.length - i ∧ i ≤ ds.length ∧ ∃ G' M' ss', StOk Y ⟨G1, H1, M1⟩ σ' G' H' M' ss' ∧ Iv i ss' M', ⟨_, rfl, Nat.zero_le _, G1, M1, ss, so1.base, h0⟩, ?_⟩
    rintro i m σ' H' ⟨rfl, hi, G', M', ss', so', iv⟩
    have ex : Ex G1 G' := so'.t.gg
    by_cases hlt : i < ds.length
    · refine .inr ⟨sq.go i G' H' M' ex so'.w (hL _ _ _ iv) hlt, fun σ2 H2 => ∃ G2 M2 ss2, StOk Y ⟨G1, H1, M1⟩ σ2 G2 H2 M2 ss2 ∧ Iv (i + 1) ss2 M2, fun σ2 H2 q => ⟨ds.length - (i + 1), by omega, rfl, hlt, q⟩, fun x H2 y => ?_⟩
      obtain ⟨G2, g2, r2⟩ := sq.yld i G' H' M' x H2 ds[i] ex so'.w (hL _ _ _ iv) (by simp) y
      refine ht i ds[i] ss' M' (by simp) iv _ _ _ _ _ _ (so'.go g2) r2 fun σ3 G3 H3 M3 ss3 so3 g3 _ q => ?_
      exact q _ _ _ _ _ so3 ⟨fun σ4 G4 H4 M4 ss4 so4 q4 => ⟨G4, M4, ss4, so4, q4⟩, eo1.rt, fun σ4 G4 H4 M4 ss4 so4 q4 => eo1.nx _ _ _ _ _ so4 q4, fun σ4 G4 H4 M4 ss4 so4 q4 => ⟨G4, M4, ss4, so4, q4⟩⟩
    · have e : i = ds.length := by omega
      subst e
      exact .inl ⟨sq.stop G' H' M' ex so'.w (hL _ _ _ iv), eo1.nx _ _ _ _ _ so' (he ss' M' iv)⟩
/-- while c: body; Iv by a measure, the slots and what changed -/
theorem ws_while {body : List Stmt} (hp : PassesOwn (model Y.X.prog Y.X.w) Y.X.A Y.X.env Y.X.xe) (Iv : Nat → List S → Mm → Prop) (m0 : Nat) (h0 : Iv m0 ss M)
    (ht : ∀ m ss' M', Iv m ss' M' → WT Y c ss' M' fun k M' => if k = true then WSs Y body ss' M' { nx := fun s2 M2 => ∃ m', m' < m ∧ Iv m' s2 M2, ct := fun s2 M2 => ∃ m', m' < m ∧ Iv m' s2 M2, bk := N.nx, rt := N.rt } else N.nx ss' M') : WS Y (.While c body [] pos) ss M N :=
  ws_ps (L2.ps_while hp pt_w pss_w) fun B σ G H E so eo => by
    refine ⟨fun m σ' H' => ∃ G' M' ss', StOk Y B σ' G' H' M' ss' ∧ Iv m ss' M', ⟨m0, G, M, ss, so, h0⟩, ?_⟩
    rintro m σ' H' ⟨G', M', ss', so', iv⟩
    refine ht m ss' M' iv _ _ _ _ _ so' fun kk G2 H2 M2 g q => ?_
    cases kk with
    | true =>
      rw [if_pos rfl] at q ⊢
      refine ⟨fun σ2 H2 => ∃ G2 M2 ss2, StOk Y B σ2 G2 H2 M2 ss2 ∧ ∃ m', m' < m ∧ Iv m' ss2 M2, fun σ2 H2 ⟨G2, M2, ss2, so2, m', hm, iv2⟩ => ⟨m', hm, G2, M2, ss2, so2, iv2⟩, ?_⟩
      exact q _ _ _ _ _ (so'.go g) ⟨fun σ4 G4 H4 M4 ss4 so4 q4 => ⟨G4, M4, ss4, so4, q4⟩, eo.rt, fun σ4 G4 H4 M4 ss4 so4 q4 => eo.nx _ _ _ _ _ so4 q4, fun σ4 G4 H4 M4 ss4 so4 q4 => ⟨G4, M4, ss4, so4, q4⟩⟩
    | false =>
      rw [if_neg Bool.false_ne_true] at q ⊢
      exact eo.nx _ _ _ _ _ (so'.go g) q
/-! ### comprehensions -/
def Bd.blk (Y : Bd) (s : Shared) (H : Hp) (scope : Scope) (C : Addr) (cl : List (Str × Addr)) (fp : List Addr) : Bd := ⟨Y.X.blk s H scope (compEnvC scope cl C Y.X.env) fp, fun _ _ _ _ => False⟩
def wipeS (ss : List S) : List Nat → List S
  | [] => ss
  | v :: vs => (wipeS ss vs).set v none
theorem StOk.wipe {B : Bs} {G H : Hp} {σ : L2.St} (h : StOk Y B σ G H M ss) : ∀ vs : List Nat, StOk Y B (L2.wipe σ vs) G H M (wipeS ss vs)
  | [] => h
  | v :: vs => (StOk.wipe h vs).forget none v
theorem StOk.toBlk {B : Bs} {G H : Hp} {σ : L2.St} (h : StOk Y B σ G H M ss) (s : Shared) (H2 : Hp) (scope : Scope) (C : Addr) (cl : List (Str × Addr)) (fp : List Addr) : StOk (Y.blk s H2 scope C cl fp) B σ G H M ss :=
  ⟨h.t, ⟨fun _ _ _ _ => False, takes0, fun C gs fs d σ G H M M' ss e => e.elim⟩, h.f⟩
theorem StOk.reBlk {B : Bs} {G H : Hp} {σ : L2.St} {s : Shared} {H2 : Hp} {scope : Scope} {C : Addr} {cl : List (Str × Addr)} {fp : List Addr} (h : StOk (Y.blk s H2 scope C cl fp) B σ G H M ss) (s' : Shared) (H2' : Hp) (scope' : Scope) (C' : Addr) (cl' : List (Str × Addr)) (fp' : List Addr) :
    StOk (Y.blk s' H2' scope' C' cl' fp') B σ G H M ss :=
  ⟨h.t, ⟨fun _ _ _ _ => False, takes0, fun C gs fs d σ G H M M' ss e => e.elim⟩, h.f⟩
section
variable {scope : Scope} {own : List (Str × Nat)} {P : D → Mm → Prop} {Qv : VK}
/-- the weakest readings within the block -/
def wEb (X : Cx) (scope : Scope) (e : Expr) : TE := fun σ H Q => ∀ s H2 C cl fp, wE (X.blk s H2 scope (compEnvC scope cl C X.env) fp) e σ H Q
def wGb (X : Cx) (scope : Scope) (e : Expr) : TG := fun v σ H Q => ∀ s H2 C cl fp, wG (X.blk s H2 scope (compEnvC scope cl C X.env) fp) e v σ H Q
def wTb (X : Cx) (scope : Scope) (e : List Expr) : TT := fun σ H Q => ∀ s H2 C cl fp, wTs (X.blk s H2 scope (compEnvC scope cl C X.env) fp) e σ H Q
theorem pe_wb {X : Cx} (s : Shared) (H2 : Hp) (C : Addr) (cl : List (Str × Addr)) (fp : List Addr) : PE (X.blk s H2 scope (compEnvC scope cl C X.env) fp) e (wEb X scope e) := ⟨fun pins s' _ _ _ I h => h s H2 C cl fp pins s' I⟩
theorem pg_wb {X : Cx} (s : Shared) (H2 : Hp) (C : Addr) (cl : List (Str × Addr)) (fp : List Addr) : PG (X.blk s H2 scope (compEnvC scope cl C X.env) fp) e (wGb X scope e) := ⟨fun pins s' _ _ _ u _ I r h => h s H2 C cl fp pins s' u I r⟩
theorem pts_wb {X : Cx} (s : Shared) (H2 : Hp) (C : Addr) (cl : List (Str × Addr)) (fp : List Addr) : PTs (X.blk s H2 scope (compEnvC scope cl C X.env) fp) es (wTb X scope es) := ⟨fun pins s' _ _ _ I h => h s H2 C cl fp pins s' I⟩
/-- what a comprehension asks: Acc tells what is made behind i items, and what changed -/
def WLc (Y : Bd) (elt tg : Expr) (ifs : List Expr) (scope : Scope) (vs : List Nat) (ss : List S) (M : Mm) (ds : List D) (L : Mm → Prop) (P : D → Mm → Prop) : Prop := ds.length ≤ 100000 ∧ ∃ Acc : Nat → List D → Mm → Prop, Acc 0 [] M ∧ (∀ i a M, Acc i a M → L M) ∧
  (∀ i d acc M, ds[i]? = some d → Acc i acc M → ∀ s H C cl fp, ∃ T, (∀ j ∈ T, j ∈ vs) ∧ WG (Y.blk s H scope C cl fp) tg T d (wipeS ss vs) M fun ss2 M =>
    ∀ s H C cl fp, WTs (Y.blk s H scope C cl fp) ifs ss2 M fun k M => if k = true then ∀ s H C cl fp, WE (Y.blk s H scope C cl fp) elt ss2 M fun y M => Acc (i + 1) (acc ++ [y]) M else Acc (i + 1) acc M) ∧ ∀ acc M, Acc ds.length acc M → NewL P M acc
theorem wipe_at {σ : L2.St} : ∀ {vs : List Nat} {j : Nat}, (L2.wipe σ vs)[j]? = if j ∈ vs then (if j < σ.length then some none else none) else σ[j]?
  | [], j => by simp [L2.wipe]
  | v :: vs, j => by
    unfold L2.wipe
    by_cases c : v = j
    · subst c
      rw [if_pos List.mem_cons_self]
      by_cases l : v < σ.length
      · rw [if_pos l, List.getElem?_set_self (by rw [wipe_length]; exact l)]
      · rw [if_neg l, List.getElem?_eq_none (by rw [List.length_set, wipe_length]; omega)]
    · rw [List.getElem?_set_ne c, wipe_at]
      by_cases m : j ∈ vs
      · rw [if_pos m, if_pos (List.mem_cons_of_mem _ m)]
      · rw [if_neg m, if_neg (by simp; exact ⟨fun z => c z.symm, m⟩)]
theorem wipe_but {σ σ' : L2.St} {vs T : List Nat} (hT : ∀ j ∈ T, j ∈ vs) (b : But' T (L2.wipe σ vs) σ') : L2.wipe σ' vs = L2.wipe σ vs := by
  apply List.ext_getElem?
  intro j
  have hl : σ'.length = σ.length := by rw [b.1, wipe_length]
  rw [wipe_at, wipe_at, hl]
  by_cases m : j ∈ vs
  · rw [if_pos m, if_pos m]
  · rw [if_neg m, if_neg m, b.2 j (fun z => m (hT j z)), wipe_at, if_neg m]
theorem lc_read (h : WI Y tg iter ss M fun ds L M => WLc Y elt tg ifs scope (own.map (·.2)) ss M ds L P) {B : Bs} {G H : Hp} {σ : L2.St} (so : StOk Y B σ G H M ss) (k : Kon Y G H M P Qv) :
    tLc (wI Y.X tg iter) (wGb Y.X scope tg) (wTb Y.X scope ifs) (wEb Y.X scope elt) (own.map (·.2)) σ H Qv := by
  refine h _ _ _ _ _ so fun J G1 H1 M1 ds Lq g sq ⟨hz, Acc, a0, aL, at_, ae⟩ => fun L hL => ?_
  have so1 := so.go g
  have gL := so1.w.gnone hL
  have mL := so1.w.mnone hL
  refine ⟨fun i m H' => m = ds.length - i ∧ i ≤ ds.length ∧ ∃ G' M' vs acc, Tr Y.X.K G1 H1 M1 G' H' M' ∧ H' L = some (.lst vs) ∧ Iss Y.X.K G' vs acc ∧ G' L = none ∧ M' L = none ∧ acc.length ≤ i ∧ Acc i acc M', ⟨_, rfl, Nat.zero_le _, G1, M1, [], [], so1.w.extra hL, upd_same, .nil, gL, mL, Nat.le_refl _, a0⟩, ?_⟩
  rintro i m H' ⟨rfl, hi, G', M', vs, acc, g', hL', r, gL', mL', hl, ac⟩
  have so' := so1.go g'
  by_cases hlt : i < ds.length
  · refine .inr ⟨sq.go i G' H' M' g'.gg so'.w (aL _ _ _ ac) hlt, fun H2 => i + 1 ≤ ds.length ∧ ∃ G2 M2 vs acc, Tr Y.X.K G1 H1 M1 G2 H2 M2 ∧ H2 L = some (.lst vs) ∧ Iss Y.X.K G2 vs acc ∧ G2 L = none ∧ M2 L = none ∧ acc.length ≤ i + 1 ∧ Acc (i + 1) acc M2, fun H2 q => ⟨ds.length - (i + 1), by omega, rfl, q.1, q.2⟩, fun x H2 y => ?_⟩
    obtain ⟨G2, g2, r2⟩ := sq.yld i G' H' M' x H2 ds[i] g'.gg so'.w (aL _ _ _ ac) (by simp) y
    intro s Hb C cl fp
    have so2 := ((so'.go g2).wipe (own.map (·.2))).toBlk s Hb scope C cl fp
    obtain ⟨T, hT, q⟩ := at_ i ds[i] acc M' (by simp) ac s Hb C cl fp
    refine q _ _ _ _ _ _ so2 r2 fun σ3 G3 H3 M3 ss3 so3 g3 b3 q3 => ⟨wipe_but hT b3, ?_⟩
    intro s' Hb' C' cl' fp'
    refine q3 s' Hb' C' cl' fp' _ _ _ _ _ (so3.reBlk s' Hb' scope C' cl' fp') fun kk G4 H4 M4 g4 q4 => ?_
    have gr : Tr Y.X.K G' H' M' G4 H4 M4 := g2.trans (Tr.trans g3 g4)
    have gg4 : Tr Y.X.K G1 H1 M1 G4 H4 M4 := g'.trans gr
    cases kk with
    | false =>
      rw [if_neg Bool.false_ne_true] at q4 ⊢
      obtain ⟨f1, f2, f3⟩ := gr.fr _ _ hL' mL'
      exact ⟨hlt, G4, M4, vs, acc, gg4, f1, r.mono gr.gg, by rw [f3]; exact gL', f2, by omega, q4⟩
    | true =>
      rw [if_pos rfl] at q4 ⊢
      intro s5 Hb5 C5 cl5 fp5
      refine q4 s5 Hb5 C5 cl5 fp5 _ _ _ _ _ (((so3.go g4).reBlk s5 Hb5 scope C5 cl5 fp5)) fun v G5 H5 M5 d g5 r5 q5 => ?_
      have gr5 : Tr Y.X.K G' H' M' G5 H5 M5 := gr.trans g5
      have g15 : Tr Y.X.K G1 H1 M1 G5 H5 M5 := gg4.trans g5
      obtain ⟨f1, f2, f3⟩ := gr5.fr _ _ hL' mL'
      have gL5 : G5 L = none := by rw [f3]; exact gL'
      refine ⟨vs, f1, by rw [r.length]; exact Nat.lt_of_le_of_lt (by omega : acc.length ≤ 100000) (by decide), hlt, G5, M5, vs ++ [v], acc ++ [d], ⟨g15.gg, ⟨fun a u hu => ?_, fun a u hu => ?_⟩, fun a u hu m => ?_, fun a u hu => ?_⟩, upd_same, (r.mono gr5.gg).append (.cons r5 .nil), gL5, f2, by rw [List.length_append]; exact Nat.succ_le_succ hl, q5⟩
      · rw [upd_ne (ne_of_none hu gL5)]
        exact g15.gh a u hu
      · have ne : a ≠ L := fun z => by rw [z, f2] at hu; cases hu
        rw [upd_ne ne]
        exact g15.wd.mo a u hu
      · rw [upd_ne (ne_of_none hu hL)]
        exact g15.fr a u hu m
      · rw [upd_ne (ne_of_none hu hL)]
        exact g15.lv a u hu
  · have e : i = ds.length := by omega
    subst e
    refine .inl ⟨sq.stop G' H' M' g'.gg so'.w (aL _ _ _ ac), ?_⟩
    rcases ae acc M' ac with p | p
    · have g3 : Tr Y.X.K G1 H1 M1 (upd G' L (.lst vs)) H' M' := ⟨g'.gg.trans (Ex.new gL'), ⟨fun a u hu => by
        by_cases c : a = L
        · subst c
          rw [upd_same] at hu
          cases hu
          exact hL'
        · rw [upd_ne c] at hu
          exact g'.gh a u hu, fun a u hu => by
        have ne : a ≠ L := fun z => by rw [z, mL'] at hu; cases hu
        obtain ⟨h1, v, h2, h3⟩ := g'.wd.mo a u hu
        rw [upd_ne ne]
        exact ⟨h1, v, h2, h3.mono (Ex.new gL')⟩⟩, fun a u hu m => by rw [upd_ne (ne_of_none hu hL)]; exact g'.fr a u hu m, g'.lv⟩
      exact k _ _ _ _ _ (g.trans g3) (.lst upd_same (r.mono (Ex.new gL'))) p
    · have g3 : Tr Y.X.K G1 H1 M1 G' H' (mup M' L (.lst acc)) := ⟨g'.gg, ⟨g'.gh, fun a u hu => by
        by_cases c : a = L
        · subst c
          rw [mup_same] at hu
          cases hu
          exact ⟨gL', _, hL', r⟩
        · rw [mup_ne c] at hu
          exact g'.wd.mo a u hu⟩, fun a u hu m => by
        rw [mup_ne (ne_of_none hu hL)]
        exact g'.fr a u hu m, g'.lv⟩
      exact k _ _ _ _ _ (g.trans g3) (.adr _) (p L mL')
theorem wts_nil {PB : Bool → Mm → Prop} (q : PB true M) : WTs Y [] ss M PB := .mk fun B σ G H Q so k pins s I => pts_nil.run pins s σ H Q I (k _ _ _ _ so.refl q)
theorem wts_one {PB : Bool → Mm → Prop} (h : WT Y c ss M PB) : WTs Y [c] ss M PB := .mk fun B σ G H Q so k pins s I => (pts_one pt_w).run pins s σ H Q I (h _ _ _ _ _ so k)
/-- [elt for tg in iter if ..] as a value; name = [..] on one line -/
theorem we_lc (own : List (Str × Nat)) (hc : Y.X.calm = true) (hN : Y.X.N.Nodup) (ok : BlkOk Y.X.N Y.X.env.scope scope own) (h : WI Y tg iter ss M fun ds L M => WLc Y elt tg ifs scope (own.map (·.2)) ss M ds L P) (hs : ∀ x, foldedSetIterable iter Y.X.env x = pure x := by intro _; rfl) : WE Y (.ListComp elt [⟨tg, iter, ifs, 0⟩] scope pos) ss M P :=
  we_pe (pe_lc hc hN pi_w ok pg_wb pts_wb pe_wb hs) fun B σ G H Q so k => lc_read h so k
theorem ws_lc (i : Nat) (own : List (Str × Nat)) {y : Str} {py spos : Pos} (hc : Y.X.calm = true) (hN : Y.X.N.Nodup) (ok : BlkOk Y.X.N Y.X.env.scope scope own) (hsw : swapsWith (.ListComp elt [⟨tg, iter, ifs, 0⟩] scope pos) (some (.Name y py)) spos.line Y.X.env = pure true)
    (h : WI Y tg iter ss M fun ds L M => WLc Y elt tg ifs scope (own.map (·.2)) ss M ds L fun d M => N.nx (ss.set i (some d)) M) (hy : Y.X.N[i]? = some y := by rfl) (hyl : Y.X.env.scope.names.lookup y = some .local := by rfl) (hs : ∀ x, foldedSetIterable iter Y.X.env x = pure x := by intro _; rfl) :
    WS Y (.Assign [.Name y py] (.ListComp elt [⟨tg, iter, ifs, 0⟩] scope pos) spos) ss M N :=
  ws_ps (ps_setLc hc hN hy hyl hsw pi_w ok pg_wb pts_wb pe_wb hs) fun B σ G H E so eo => lc_read h so fun v G' H' M' d g r q => eo.nx _ _ _ _ _ ((so.go g).set r i) q
/-- a map that changes nothing -/
theorem WLc.map {vs : List Nat} {ds : List D} {L : Mm → Prop} (f : D → D) (hL : L M) (hz : ds.length ≤ 100000) (T : List Nat) (hT : ∀ j ∈ T, j ∈ vs) (h : ∀ d, d ∈ ds → ∀ s H C cl fp, WG (Y.blk s H scope C cl fp) tg T d (wipeS ss vs) M fun ss2 M2 => ∀ s H C cl fp, WE (Y.blk s H scope C cl fp) elt ss2 M2 fun y M3 => y = f d ∧ M3 = M) (q : NewL P M (ds.map f)) :
    WLc Y elt tg [] scope vs ss M ds L P := by
  refine ⟨hz, fun i acc M' => acc = (ds.take i).map f ∧ M' = M, ⟨rfl, rfl⟩, fun i a M' ⟨_, em⟩ => by rw [em]; exact hL, fun i d acc M' hd ⟨ea, em⟩ s H C cl fp => ⟨T, hT, ?_⟩, fun acc M' ⟨ea, em⟩ => by rw [ea, em, List.take_length]; exact q⟩
  subst em
  have hm : d ∈ ds := List.mem_of_getElem? hd
  refine .mk ?_
  intro B σ G Hh v Q so r k
  refine h d hm s H C cl fp _ _ _ _ _ _ so r fun σ' G' H' M' ss' so' g' b' q' => k _ _ _ _ _ so' g' b' ?_
  intro s H C cl fp
  refine wts_nil ?_
  show ∀ s H C cl fp, WE _ elt ss' _ _
  intro s H C cl fp
  refine (q' s H C cl fp).mono fun y M3 ⟨ey, em⟩ => ?_
  subst ey
  refine ⟨?_, em⟩
  rw [ea, List.take_add_one, hd, List.map_append]
  rfl
/-- a filter and a map that change nothing -/
theorem WLc.filter {vs : List Nat} {ds : List D} {L : Mm → Prop} (p : D → Bool) (f : D → D) (hL : L M) (hz : ds.length ≤ 100000) (T : List Nat) (hT : ∀ j ∈ T, j ∈ vs) (h : ∀ d, d ∈ ds → ∀ s H C cl fp, WG (Y.blk s H scope C cl fp) tg T d (wipeS ss vs) M fun ss2 M2 => ∀ s H C cl fp, WT (Y.blk s H scope C cl fp) c ss2 M2 fun k M3 => k = p d ∧ M3 = M ∧ (k = true → ∀ s H C cl fp, WE (Y.blk s H scope C cl fp) elt ss2 M3 fun y M4 => y = f d ∧ M4 = M))
    (q : NewL P M ((ds.filter p).map f)) : WLc Y elt tg [c] scope vs ss M ds L P := by
  refine ⟨hz, fun i acc M' => acc = ((ds.take i).filter p).map f ∧ M' = M, ⟨rfl, rfl⟩, fun i a M' ⟨_, em⟩ => by rw [em]; exact hL, fun i d acc M' hd ⟨ea, em⟩ s H C cl fp => ⟨T, hT, ?_⟩, fun acc M' ⟨ea, em⟩ => by rw [ea, em, List.take_length]; exact q⟩
  subst em
  have hm : d ∈ ds := List.mem_of_getElem? hd
  refine .mk ?_
  intro B σ G Hh v Q so r k
  refine h d hm s H C cl fp _ _ _ _ _ _ so r fun σ' G' H' M' ss' so' g' b' q' => k _ _ _ _ _ so' g' b' ?_
  intro s H C cl fp
  refine wts_one ((q' s H C cl fp).mono fun kk M3 ⟨ek, em, hk⟩ => ?_)
  cases kk with
  | true =>
    show ∀ s H C cl fp, WE _ elt ss' _ _
    intro s H C cl fp
    refine (hk rfl s H C cl fp).mono fun y M4 ⟨ey, em4⟩ => ?_
    subst ey
    refine ⟨?_, em4⟩
    rw [ea, List.take_add_one, hd, List.filter_append, List.map_append]
    show _ = _ ++ List.map f (List.filter p [d])
    rw [List.filter_cons, if_pos ek.symm]
    rfl
  | false =>
    show acc = _ ∧ _
    refine ⟨?_, em⟩
    rw [ea, List.take_add_one, hd, List.filter_append, List.map_append]
    show _ = _ ++ List.map f (List.filter p [d])
    rw [List.filter_cons, if_neg (by rw [← ek]; exact Bool.false_ne_true)]
    simp
end
end
end JQ

set_option Elab.async false
set_option linter.all false
set_option maxRecDepth 100000
set_option maxHeartbeats 2000000
/-! Promises of defs, and calls, where no list is being shown around (guards). -/
namespace JQ
open PySem PySem.Spec PyProof.Rows L2
open Evl (Ex ex_l ex_t)
/-- a def keeps a promise -/
structure FnG (P : Program) (w : World) (K : PySem.W.Frag) (mg : Str → Option Value) (base : Heap) (k : Nat) (f : Addr) (fd : FuncData) (ps : List Str) (sp : Sp) : Prop where
  run : ∀ (A : Around) (outer : List Env) (s : Shared) (H : Hp) (args : Args) (us : List Value) (vs : List V) (Q : VK) (E : XK), A.guards = some [] → Room k A → Env0 P w K mg base A outer s H → BindsTo s fd args (ps.zip us) → Vals vs us → sp vs H Q E →
    codeAny (model P w) A (.call (.ref f) args) (CR (L2.CX P w) outer P w H s Q E) s
theorem FnG.up {P : Program} {w : World} {K : PySem.W.Frag} {mg : Str → Option Value} {base : Heap} {j k : Nat} {f : Addr} {fd : FuncData} {ps : List Str} {sp : Sp} (F : FnG P w K mg base j f fd ps sp) (h : j ≤ k) : FnG P w K mg base k f fd ps sp :=
  ⟨fun A outer s H args us vs Q E hg hr => F.run A outer s H args us vs Q E hg (hr.mono h)⟩
/-- by its body -/
theorem fnG_of {P : Program} {w : World} {K : PySem.W.Frag} {mg : Str → Option Value} {base : Heap} {k : Nat} {f : Addr} {name qual : Str} {params : Arguments} {body : List Stmt} {scope : Scope} {dV kV doc pm cdv ct oc : Value} {an od : Option Addr} {osl : Array (Option Value)} {N ps : List Str} {sp : Sp}
    (lk : K.lookup f = some ⟨oc, od, .func (PySem.W.fnOf name qual params body scope dV kV doc pm an cdv ct), osl⟩) (hcd : PySem.W.codeIn K cdv qual = true) (S : FnScope N ps scope) (len : ∀ vs H Q E, sp vs H Q E → vs.length = ps.length)
    (hb : ∀ (A : Around) (outer : List Env) (s : Shared) (H : Hp) (vs : List V) (Q : VK) (E : XK), A.guards = some [] → Room k (A.deeper (envOfC qual scope s.heap.objs.size f cdv)) → sp vs H Q E →
      wSs (cxOf (L2.CX P w) P w K mg base N qual scope f cdv A outer s H E) body { nx := fun _ H' => Q .non H', rt := Q } (L2.start N vs) H) :
    FnG P w K mg base (k + 1) f (PySem.W.fnOf name qual params body scope dV kV doc pm an cdv ct) ps sp := by
  constructor
  intro A outer s H args us vs Q E hg hr e0 bnd rv hsp
  have kin : K.In s.heap := e0.mod.kin.keeps fun b o e => (e0.bs b o e).1
  have nol : s.heap.NoLimit := e0.mod.nolimit.keeps fun b o e => (e0.bs b o e).1
  have kinds : ∀ y ∈ ps.zip us, scope.names.lookup y.1 = some .local ∨ (scope.names.lookup y.1 = some .cell ∧ ((cellsFrom (s.heap.objs.size + 1) scope.names []).lookup y.1).isSome = true) := by
    intro y hy
    have hy1 : y.1 ∈ ps := (List.of_mem_zip (show (y.1, y.2) ∈ ps.zip us from hy)).1
    cases S.par y.1 hy1 with
    | inl q => exact .inl q
    | inr q => exact .inr ⟨q, PySem.W.cellsFrom_some _ _ _ (.inl q)⟩
  have go := codeAny_call_function (R := CR (L2.CX P w) outer P w H s Q E) (prog := P) (w := w) hr.depth (kin _ _ lk) rfl S.co S.gen rfl (PySem.W.codeRec_of kin hcd) (bnd _ _ _ _ (wpAny_newFunctionEnv_cells S.kind kinds fun env he s1 x => by
    subst he
    have I := inv_start (CX := L2.CX P w) (N := N) (E := E) S hr.hd e0 (len _ _ _ _ hsp) rv x
    refine ⟨nol.keeps x.toInCall.keep, codeAny_func ?_⟩
    have body := hb A outer s H vs Q E hg (hr.deeper _) hsp [] s1 I
    refine wpAny_mono body (fun fl s2 h2 => ?_) fun _ _ h2 => h2
    have leave : ∀ {σ2 : L2.St} {H2 : Hp} {v : V} {u : Value}, Inv (cxOf (L2.CX P w) P w K mg base N qual scope f cdv A outer s H E) [] σ2 H2 s2 → RelV v u → Q v H2 → CE outer P w H s Q u s2 := by
      intro σ2 H2 v u J r q
      exact ⟨v, H2, J.os, J.bare, J.base, J.hok, r, q⟩
    match fl, h2 with
    | .ret u, ⟨v, σ2, H2, J, r, q⟩ => exact leave J r q
    | .next, ⟨σ2, H2, J, q⟩ => exact leave (v := .non) (u := .none) J rfl q
    | .brk, ⟨_, _, _, q⟩ => exact q.elim
    | .cont, ⟨_, _, _, q⟩ => exact q.elim))
  exact go
/-! ### promises on data -/
abbrev EEx := Addr → List (Str × D) → Mm → Prop
/-- args, what may change, what is wanted of the result, what is wanted of an error -/
abbrev Sd := List D → Mm → (D → Mm → Prop) → EEx → Prop
def spD (K : PySem.W.Frag) (S : Sd) : Sp := fun vs H Q E => ∃ (G : Hp) (M : Mm) (ds : List D) (P : D → Mm → Prop) (EE : EEx), Wd K G H M ∧ Iss K G vs ds ∧ S ds M P EE ∧
  (∀ v G' H' M' d, Tr K G H M G' H' M' → Is K G' v d → P d M' → Q v H') ∧ ∀ C gs fs d G' H' M' M2, EE C gs M2 → Msub M2 M' → Tr K G H M G' H' M' → H d = none → G' d = none → M' d = none → H' d = some (.xd fs) → IsF K G' fs gs → E (.ref C) (some d) H'
def startS (N : List Str) (ds : List D) : List S := ds.map some ++ List.replicate (N.length - ds.length) none
theorem start_frm {K : PySem.W.Frag} {G : Hp} {N : List Str} {vs : List V} {ds : List D} (r : Iss K G vs ds) : Frm K G (L2.start N vs) (startS N ds) := by
  have hl := r.length
  refine ⟨by simp [L2.start, startS, hl], fun i x d a b => ?_⟩
  unfold startS at b
  rw [List.getElem?_append] at b
  split at b
  · rw [List.getElem?_map] at b
    cases e : ds[i]? with
    | none => rw [e] at b; cases b
    | some d' =>
      rw [e] at b
      cases b
      obtain ⟨v, hv, rv⟩ := r.get' e
      refine ⟨v, ?_, rv⟩
      unfold L2.start at a
      have hi := (List.getElem?_eq_some_iff.mp hv).1
      rw [List.getElem?_append_left (by simpa using hi), List.getElem?_map, hv] at a
      exact (Option.some.inj a).symm
  · rw [List.getElem?_replicate] at b
    split at b <;> cases b
section
variable {P : Program} {w : World} {K : PySem.W.Frag} {mg : Str → Option Value} {base : Heap}
/-- what a body is shown for: its def's context -/
abbrev bdOf (P : Program) (w : World) (K : PySem.W.Frag) (mg : Str → Option Value) (base : Heap) (N : List Str) (qual : Str) (scope : Scope) (f : Addr) (cdv : Value) (A : Around) (outer : List Env) (s : Shared) (H : Hp) (E : XK) (EE : EEx) : Bd := ⟨cxOf (L2.CX P w) P w K mg base N qual scope f cdv A outer s H E, fun C gs M _ => EE C gs M⟩
theorem body_sp {N : List Str} {qual : Str} {scope : Scope} {f : Addr} {cdv : Value} {A : Around} {outer : List Env} {s : Shared} {H : Hp} {E : XK} {Q : VK} {vs : List V} {S : Sd} {body : List Stmt} (h : spD K S vs H Q E)
    (hb : ∀ ds M Pd EE, S ds M Pd EE → WSs (bdOf P w K mg base N qual scope f cdv A outer s H E EE) body (startS N ds) M { nx := fun _ => Pd .non, rt := Pd }) :
    wSs (cxOf (L2.CX P w) P w K mg base N qual scope f cdv A outer s H E) body { nx := fun _ H' => Q .non H', rt := Q } (L2.start N vs) H := by
  obtain ⟨G, M, ds, Pd, EE, wd, r, hS, kq, ke⟩ := h
  refine hb ds M Pd EE hS ⟨G, H, M⟩ _ _ _ _ ⟨wd.refl, ⟨fun cls d _ H' => E cls d H', takes_of rfl rfl rfl rfl, fun C gs fs d σ G2 H2 M2 M' ss ee ms g f n ng nm e rf => ke C gs fs d G2 H2 M2 M' ee ms g n ng nm e rf⟩, start_frm r⟩
    ⟨fun σ' G' H' M' ss' so q => kq .non G' H' M' .non so.t .non q, fun v G' H' M' d t r q => kq v G' H' M' d t r q, fun _ _ _ _ _ _ q => q.elim, fun _ _ _ _ _ _ q => q.elim⟩
theorem sp_len {ps : List Str} {S : Sd} (len : ∀ ds M P EE, S ds M P EE → ds.length = ps.length) : ∀ vs H Q E, spD K S vs H Q E → vs.length = ps.length := fun vs H Q E ⟨G, M, ds, Pd, EE, _, r, hS, _⟩ => by
  rw [r.length]
  exact len ds M Pd EE hS
/-- a def keeps its promise on data, by its body -/
theorem fnD {x qual : Str} {st : Stmt} {f : Addr} {fd : FuncData} {N ps : List Str} {k : Nat} {S : Sd} (F : Fun K x qual st f fd) (sc : FnScope N ps (defScope st)) (len : ∀ ds M P EE, S ds M P EE → ds.length = ps.length)
    (hb : ∀ (cdv : Value) (A : Around) (outer : List Env) (s : Shared) (H : Hp) (E : XK), (A.deeper (envOfC qual (defScope st) s.heap.objs.size f cdv)).guards = some [] → Room k (A.deeper (envOfC qual (defScope st) s.heap.objs.size f cdv)) → ∀ ds M Pd EE, S ds M Pd EE →
      WSs (bdOf P w K mg base N qual (defScope st) f cdv A outer s H E EE) (defBody st) (startS N ds) M { nx := fun _ => Pd .non, rt := Pd }) : FnG P w K mg base (k + 1) f fd ps (spD K S) := by
  obtain ⟨oc, od, kV, doc, pm, an, cdv, ct, osl, rfl, lk, hcd⟩ := F.ex
  exact fnG_of lk hcd sc (sp_len len) fun A outer s H vs Q E hg hr h => body_sp h fun ds M Pd EE hS => hb cdv A outer s H E hg hr ds M Pd EE hS
/-- .. where defaults stand -/
theorem fnDD {x qual : Str} {params : Arguments} {body : List Stmt} {scope : Scope} {dvs : List V} {kws : List (Str × V)} {f : Addr} {fd : FuncData} {N ps : List Str} {k : Nat} {S : Sd} (F : FunD K x qual params body scope dvs kws f fd) (sc : FnScope N ps scope) (len : ∀ ds M P EE, S ds M P EE → ds.length = ps.length)
    (hb : ∀ (cdv : Value) (A : Around) (outer : List Env) (s : Shared) (H : Hp) (E : XK), (A.deeper (envOfC qual scope s.heap.objs.size f cdv)).guards = some [] → Room k (A.deeper (envOfC qual scope s.heap.objs.size f cdv)) → ∀ ds M Pd EE, S ds M Pd EE →
      WSs (bdOf P w K mg base N qual scope f cdv A outer s H E EE) body (startS N ds) M { nx := fun _ => Pd .non, rt := Pd }) : FnG P w K mg base (k + 1) f fd ps (spD K S) := by
  obtain ⟨oc, od, dV, kV, doc, pm, an, cdv, ct, osl, rfl, lk, hcd, _, _⟩ := F.ex
  exact fnG_of lk hcd sc (sp_len len) fun A outer s H vs Q E hg hr h => body_sp h fun ds M Pd EE hS => hb cdv A outer s H E hg hr ds M Pd EE hS
/-- the same kept of all surroundings (for the hand layer's rules) -/
theorem fnO {x qual : Str} {st : Stmt} {f : Addr} {fd : FuncData} {N ps : List Str} {k : Nat} {S : Sd} (F : Fun K x qual st f fd) (sc : FnScope N ps (defScope st)) (len : ∀ ds M P EE, S ds M P EE → ds.length = ps.length)
    (hb : ∀ (cdv : Value) (A : Around) (outer : List Env) (s : Shared) (H : Hp) (E : XK), Room k (A.deeper (envOfC qual (defScope st) s.heap.objs.size f cdv)) → ∀ ds M Pd EE, S ds M Pd EE →
      WSs (bdOf P w K mg base N qual (defScope st) f cdv A outer s H E EE) (defBody st) (startS N ds) M { nx := fun _ => Pd .non, rt := Pd }) : FnOk P w K mg base (L2.CX P w) (k + 1) f fd ps (spD K S) :=
  F.okX sc (sp_len len) fun cdv A outer s H vs Q E hr h => ⟨_, pss_w, body_sp h fun ds M Pd EE hS => hb cdv A outer s H E hr ds M Pd EE hS⟩
end
/-! ### binding -/
/-- n values are written, and keywords ks; the parameters then hold g .. -/
structure Bnd (K : PySem.W.Frag) (fd : FuncData) (ps : List Str) (n : Nat) (ks : List Str) (g : List D → List D → List D) : Prop where
  ex : ∃ (gu : List Value → List Value → List Value) (gv : List V → List V → List V),
    (∀ (s : Shared) us ws, K.In s.heap → us.length = n → ws.length = ks.length → BindsTo s fd ⟨us, ks.zip ws⟩ (ps.zip (gu us ws))) ∧ (∀ vs us ys ws, Vals vs us → Vals ys ws → Vals (gv vs ys) (gu us ws)) ∧
    ∀ G vs ds ys zs, Iss K G vs ds → Iss K G ys zs → Iss K G (gv vs ys) (g ds zs)
/-- no default stands in for any parameter, the keywords are the last ones in their order -/
theorem bnd_all {K : PySem.W.Frag} {fd : FuncData} {ps ks : List Str} {n : Nat} (h : ∀ us ws : List Value, us.length = n → ws.length = ks.length → bindArgs fd ⟨us, ks.zip ws⟩ = pure (ps.zip (us ++ ws))) : Bnd K fd ps n ks (· ++ ·) :=
  ⟨fun us ws => us ++ ws, fun vs ys => vs ++ ys, fun s us ws _ h1 h2 => .of_eq (h us ws h1 h2), fun _ _ _ _ r1 r2 => r1.append r2, fun _ _ _ _ _ r1 r2 => r1.append r2⟩
/-- every parameter is written -/
theorem bnd_pos {K : PySem.W.Frag} {fd : FuncData} {ps : List Str} (h : ∀ us : List Value, us.length = ps.length → bindArgs fd ⟨us, []⟩ = pure (ps.zip us)) : Bnd K fd ps ps.length [] fun ds _ => ds :=
  ⟨fun us ws => us, fun vs ys => vs, fun s us ws _ h1 h2 => .of_eq (h us h1), fun _ _ _ _ r1 r2 => r1, fun _ _ _ _ _ r1 r2 => r1⟩
/-! ### what is called -/
/-- f is called with ds, and keywords ks of zs -/
structure Cal (Y : Bd) (f : Value) (ks : List Str) (ss : List S) (ds zs : List D) (M : Mm) (P : D → Mm → Prop) : Prop where
  run : ∀ pins (s : Shared) σ B G H Q vs us ys ws, StOk Y B σ G H M ss → Inv Y.X pins σ H s → Iss Y.X.K G vs ds → Vals vs us → Iss Y.X.K G ys zs → Vals ys ws → Kon Y G H M P Q →
  wpAny (model Y.X.prog Y.X.w) Y.X.A (call f us (ks.zip ws)) (EP Y.X pins σ Q) Y.X.xe s
instance {Y : Bd} {f : Value} {ks : List Str} {ss : List S} {ds zs : List D} {M : Mm} {P : D → Mm → Prop} : CoeFun (Cal Y f ks ss ds zs M P) fun _ => ∀ pins (s : Shared) σ B G H Q vs us ys ws, StOk Y B σ G H M ss → Inv Y.X pins σ H s → Iss Y.X.K G vs ds → Vals vs us → Iss Y.X.K G ys zs → Vals ys ws → Kon Y G H M P Q →
  wpAny (model Y.X.prog Y.X.w) Y.X.A (call f us (ks.zip ws)) (EP Y.X pins σ Q) Y.X.xe s := ⟨fun h => h.run⟩
section
variable {Y : Bd} {ss : List S} {M : Mm} {P : D → Mm → Prop} {k n : Nat} {f C : Addr} {fd : FuncData} {ps ks : List Str} {S : Sd} {g : List D → List D → List D} {ds zs : List D}
theorem under_guards {A : Around} {c : Code} (h : A.guards = some []) (hc : c.isGuard = false) : (A.under c).guards = some [] := by
  have e : (A.under c).guards = PySem.pushGuards c.guards A.guards := rfl
  rw [e, h, show c.guards = [] from by unfold Code.guards; rw [hc]; rfl]
  rfl
theorem sp_at {B : Bs} {σ : L2.St} {G H : Hp} {Q : VK} {vs : List V} {xs : List D} (so : StOk Y B σ G H M ss) (r : Iss Y.X.K G vs xs) (h : S xs M P fun C gs M' => Y.EE C gs M' ss) (kq : Kon Y G H M P Q) :
    ∃ W : WX, Takes Y.X W ∧ spD Y.X.K S vs H Q (fun cls d H' => W cls d σ H') := by
  obtain ⟨W, tk, hW⟩ := so.er
  refine ⟨W, tk, G, M, xs, P, _, so.w, r, h, kq, fun C gs fs d G' H' M' M2 ee ms t n ng nm e rf => hW C gs fs d σ G' H' M' M2 ss ee ms (so.t.trans t) (so.f.mono t.gg) ?_ ng nm e rf⟩
  cases c : B.H d with
  | none => rfl
  | some u =>
    obtain ⟨u', c'⟩ := so.t.lv d u c
    rw [c'] at n
    cases n
theorem end_call {pins : List (Addr × Obj)} {σ : L2.St} {H : Hp} {s : Shared} {Q : VK} {W : WX} (tk : Takes Y.X W) (I : Inv Y.X pins σ H s) {res : Result} {s2 : Shared} (hq : CR (L2.CX Y.X.prog Y.X.w) Y.X.stack Y.X.prog Y.X.w H s Q (fun cls d H' => W cls d σ H') res s2) :
    wants (EP Y.X pins σ Q) Y.X.xe res s2 := by
  match res, hq with
  | .error e, hq => exact passAt tk σ pins H s e s2 I hq
  | .ok (.ret u), hq => exact I.after hq
  | .ok .next, hq => exact hq.elim
  | .ok .brk, hq => exact hq.elim
  | .ok .cont, hq => exact hq.elim
/-- a def -/
theorem cal_fn (F : FnG Y.X.prog Y.X.w Y.X.K Y.X.mg Y.X.base k f fd ps (spD Y.X.K S)) (hg : Y.X.A.guards = some []) (hr : Room k Y.X.A) (hb : Bnd Y.X.K fd ps n ks g) (h : S (g ds zs) M P fun C gs M' => Y.EE C gs M' ss) (hn : ds.length = n := by rfl) (hk : zs.length = ks.length := by rfl) : Cal Y (.ref f) ks ss ds zs M P := by
  refine .mk ?_
  intro pins s σ B G H Q vs us ys ws so I r ru r2 ru2 kq
  obtain ⟨gu, gv, b1, b2, b3⟩ := hb.ex
  obtain ⟨W, tk, hsp⟩ := sp_at so (b3 G vs ds ys zs r r2) h kq
  refine wpAny_call (codeAny_mono (F.run Y.X.A Y.X.stack s H ⟨us, ks.zip ws⟩ (gu us ws) (gv vs ys) Q _ hg hr I.env0 (b1 s us ws I.kIn ?_ ?_) (b2 _ _ _ _ ru ru2) hsp) fun res s2 hq => end_call tk I hq)
  · rw [← ru.length, r.length, hn]
  · rw [← ru2.length, r2.length, hk]
/-- a class: a new instance is made -/
theorem cal_mk (mk : Mk Y.X.K C f) (F : FnG Y.X.prog Y.X.w Y.X.K Y.X.mg Y.X.base k f fd ps (spD Y.X.K S)) (hg : Y.X.A.guards = some []) (hr : Room (k + 1) Y.X.A) (hb : Bnd Y.X.K fd ps n ks g)
    (h : ∀ x, M x = none → S (g (.rf x :: ds) zs) (mup M x (.ins C [])) (fun v M' => v = .non ∧ P (.rf x) M') fun C gs M' => Y.EE C gs M' ss) (hn : ds.length + 1 = n := by rfl) (hk : zs.length = ks.length := by rfl) : Cal Y (.ref C) ks ss ds zs M P := by
  refine .mk ?_
  intro pins s σ B G H Q vs us ys ws so I r ru r2 ru2 kq
  obtain ⟨gu, gv, b1, b2, b3⟩ := hb.ex
  have n1 : H (s.heap.objs.size + 1) = none := I.hok.fresh (Nat.le_succ _)
  have n0 : H s.heap.objs.size = none := I.hok.fresh (Nat.le_refl _)
  have I2 := Inv.made (C := C) I
  have t1 := so.w.extra (o := .own (s.heap.objs.size + 1)) n0
  have n1' : (upd H s.heap.objs.size (.own (s.heap.objs.size + 1))) (s.heap.objs.size + 1) = none := by
    rw [upd_ne (Nat.ne_of_gt (Nat.lt_succ_self _))]
    exact n1
  have t2 := t1.wd.newM (o := .ins C s.heap.objs.size []) (b := .ins C []) n1' ⟨rfl, .nil⟩
  have so2 := (so.go t1).go t2
  have r' := r.mono (t1.trans t2).gg
  have r2' := r2.mono (t1.trans t2).gg
  obtain ⟨W, tk, hsp⟩ := sp_at so2 (b3 G (.ref (s.heap.objs.size + 1) :: vs) (.rf (s.heap.objs.size + 1) :: ds) ys zs (.cons (.adr _) r') r2') (h _ (so.w.mnone n1)) (Q := fun v H' => v = .non ∧ Q (.ref (s.heap.objs.size + 1)) H') (fun v G' H' M' d t ri ⟨e, q⟩ => by
    subst e
    cases ri
    exact ⟨rfl, kq _ _ _ _ _ ((t1.trans t2).trans t) (.adr _) q⟩)
  have rv : Vals (V.ref (s.heap.objs.size + 1) :: vs) (Value.ref (s.heap.objs.size + 1) :: us) := .cons rfl ru
  refine wpAny_call (make_map (f := f) I.kIn mk.makes mk.init (beq_iff_eq.mp mk.fn) (codeAny_mono (F.run _ Y.X.stack _ _ ⟨Value.ref (s.heap.objs.size + 1) :: us, ks.zip ws⟩ (gu (Value.ref (s.heap.objs.size + 1) :: us) ws) _ _ _ ?_ (hr.make C us (ks.zip ws))
    (I2.env0.make C us (ks.zip ws)) (b1 _ (Value.ref (s.heap.objs.size + 1) :: us) ws I2.kIn ?_ ?_) (b2 _ _ _ _ rv ru2) hsp) fun res s' hq => ?_))
  · exact under_guards hg rfl
  · rw [List.length_cons, ← ru.length, r.length, hn]
  · rw [← ru2.length, r2.length, hk]
  · match res, hq with
    | .error e, hq => exact passAt tk σ pins _ _ e s' I2 hq
    | .ok (.ret u), hq =>
      obtain ⟨v, H', I3, rv', ev, q3⟩ := I2.after hq
      subst ev
      exact ⟨rv', ⟨V.ref (s.heap.objs.size + 1), H', I3, rfl, q3⟩⟩
    | .ok .next, hq => exact False.elim hq
    | .ok .brk, hq => exact False.elim hq
    | .ok .cont, hq => exact False.elim hq
end
/-! ### calls in the text -/
section
variable {Y : Bd} {ss : List S} {M : Mm} {P : D → Mm → Prop} {e o : Expr} {es : List Expr} {kws : List Keyword} {pos p apos : Pos} {x m : Str} {f C : Addr} {ks : List Str}
theorem ep_mono {pins : List (Addr × Obj)} {σ : L2.St} {Q Q' : VK} {u : Value} {s : Shared} (h : EP Y.X pins σ Q u s) (q : ∀ v H, Q v H → Q' v H) : EP Y.X pins σ Q' u s := by
  obtain ⟨v, H, I, r, h⟩ := h
  exact ⟨v, H, I, r, q _ _ h⟩
theorem wk_nil {Q : List D → Mm → Prop} (q : Q [] M) : WK Y [] ss M Q := .mk fun B σ G H R st k pos pins s I => pk_nil.run pos pins s σ H R I (k _ _ _ _ _ st.refl .nil q)
theorem wk_cons {nm : Str} {kpos : Pos} {Q : List D → Mm → Prop} (h : WE Y e ss M fun d M => WK Y kws ss M fun ds M => Q (d :: ds) M) : WK Y (⟨nm, e, kpos⟩ :: kws) ss M Q := .mk fun B σ G H R st k pos pins s I =>
  (pk_cons pe_w pk_w).run pos pins s σ H R I (by
    refine h _ _ _ _ _ st fun v1 G1 H1 M1 d g1 r1 h1 => ?_
    exact h1 _ _ _ _ _ (st.go g1) fun vs G2 H2 M2 ds g2 r2 q => k _ _ _ _ _ (g1.trans g2) (.cons (r1.mono g2.gg) r2) q)
/-- f(e, ..), f a def or a class of the module -/
theorem we_call (hm : Y.X.mg x = some (.ref f)) (hk : PySem.W.keepIn Y.X.K (.ref f) = true) (h : WA Y (e :: es) ss M fun ds M => Cal Y (.ref f) [] ss ds [] M P)
    (gl : Gl Y.X x := by rfl) (hdb : (x == ("__debug__" : Str)) = false := by decide) (he : starEach (e :: es) Y.X.env = (false, eval e Y.X.env) :: starEach es Y.X.env := by rfl) (hpl : (backTo pos (starEach es Y.X.env)).any (·.1) = false := by rfl) : WE Y (.Call (.Name x p) (e :: es) [] pos) ss M P :=
  .mk fun B σ G H Q st kq pins s I => wpAny_Call_Name_kw (ld_glob I gl hm (PySem.W.callWith_K (h₀ := Y.X.base) I.ok.mod.kin hk (thn (pa_w.run pos pins s σ H (fun vs H1 => ∃ G1 M1 ds, Tr Y.X.K G H M G1 H1 M1 ∧ Iss Y.X.K G1 vs ds ∧ Cal Y (.ref f) [] ss ds [] M1 P) I
    (h _ _ _ _ _ st fun vs G1 H1 M1 ds g r c => ⟨G1, M1, ds, g, r, c⟩)) fun us s1 ⟨vs, H1, I1, rv, G1, M1, ds, g, r, c⟩ => ⟨I1.kIn, c pins s1 σ B G1 H1 Q vs us [] [] (st.go g) I1 r rv .nil .nil fun v G' H' M' d t ri q => kq _ _ _ _ _ (g.trans t) ri q⟩) he hpl) hdb)
theorem we_call0 (hm : Y.X.mg x = some (.ref f)) (hk : PySem.W.keepIn Y.X.K (.ref f) = true) (h : Cal Y (.ref f) [] ss [] [] M P) (gl : Gl Y.X x := by rfl) (hdb : (x == ("__debug__" : Str)) = false := by decide) : WE Y (.Call (.Name x p) [] [] pos) ss M P :=
  .mk fun B σ G H Q st kq pins s I => wpAny_Call_Name_kw (ld_glob I gl hm (PySem.W.callWith_K0 I.kIn hk (h pins s σ B G H Q [] [] [] [] st I .nil .nil .nil .nil kq)) hdb)
/-- f(.., k = v, ..) -/
theorem we_callK (hm : Y.X.mg x = some (.ref f)) (hk : PySem.W.keepIn Y.X.K (.ref f) = true) (h : WA Y (e :: es) ss M fun ds M => WK Y kws ss M fun zs M => Cal Y (.ref f) ks ss ds zs M P)
    (gl : Gl Y.X x := by rfl) (hall : (backToKw pos (keywordEach kws Y.X.env)).all (·.1.isSome) = true := by rfl) (hks : (backToKw pos (keywordEach kws Y.X.env)).filterMap (·.1) = ks := by rfl) (hdb : (x == ("__debug__" : Str)) = false := by decide)
    (he : starEach (e :: es) Y.X.env = (false, eval e Y.X.env) :: starEach es Y.X.env := by rfl) (hpl : ((backTo pos (starEach (e :: es) Y.X.env)).any (·.1) || (backToKw pos (keywordEach kws Y.X.env)).any (·.1.isNone)) = false := by rfl) : WE Y (.Call (.Name x p) (e :: es) kws pos) ss M P := by
  subst hks
  exact .mk fun B σ G H Q st kq pins s I => wpAny_Call_Name_kw (ld_glob I gl hm (PySem.W.callWith_KW (h₀ := Y.X.base) I.ok.mod.kin hk hall (thn (pa_w.run pos pins s σ H (fun vs H1 => ∃ G1 M1 ds, Tr Y.X.K G H M G1 H1 M1 ∧ Iss Y.X.K G1 vs ds ∧ WK Y kws ss M1 fun zs M => Cal Y (.ref f) _ ss ds zs M P) I
    (h _ _ _ _ _ st fun vs G1 H1 M1 ds g r c => ⟨G1, M1, ds, g, r, c⟩)) fun us s1 ⟨vs, H1, I1, rv, G1, M1, ds, g, r, c⟩ => thn (pk_w.run pos pins s1 σ H1 (fun ys H2 => ∃ G2 M2 zs, Tr Y.X.K G1 H1 M1 G2 H2 M2 ∧ Iss Y.X.K G2 ys zs ∧ Cal Y (.ref f) _ ss ds zs M2 P) I1
      (c _ _ _ _ _ (st.go g) fun ys G2 H2 M2 zs g2 r2 c2 => ⟨G2, M2, zs, g2, r2, c2⟩)) fun ws s2 ⟨ys, H2, I2, rv2, G2, M2, zs, g2, r2, c2⟩ => ⟨I2.kIn, c2 pins s2 σ B G2 H2 Q vs us ys ws ((st.go g).go g2) I2 (r.mono g2.gg) rv r2 rv2 fun v G' H' M' d t ri q => kq _ _ _ _ _ ((g.trans g2).trans t) ri q⟩) hpl he) hdb)
theorem we_callK0 (hm : Y.X.mg x = some (.ref f)) (hk : PySem.W.keepIn Y.X.K (.ref f) = true) (h : WK Y kws ss M fun zs M => Cal Y (.ref f) ks ss [] zs M P)
    (gl : Gl Y.X x := by rfl) (hall : (backToKw pos (keywordEach kws Y.X.env)).all (·.1.isSome) = true := by rfl) (hks : (backToKw pos (keywordEach kws Y.X.env)).filterMap (·.1) = ks := by rfl) (hdb : (x == ("__debug__" : Str)) = false := by decide)
    (hpl : ((backTo pos (starEach [] Y.X.env)).any (·.1) || (backToKw pos (keywordEach kws Y.X.env)).any (·.1.isNone)) = false := by rfl) : WE Y (.Call (.Name x p) [] kws pos) ss M P := by
  subst hks
  exact .mk fun B σ G H Q st kq pins s I => wpAny_Call_Name_kw (ld_glob I gl hm (PySem.W.callWith_KW0 (h₀ := Y.X.base) I.ok.mod.kin hk hall (thn (pk_w.run pos pins s σ H (fun ys H2 => ∃ G2 M2 zs, Tr Y.X.K G H M G2 H2 M2 ∧ Iss Y.X.K G2 ys zs ∧ Cal Y (.ref f) _ ss [] zs M2 P) I
      (h _ _ _ _ _ st fun ys G2 H2 M2 zs g2 r2 c2 => ⟨G2, M2, zs, g2, r2, c2⟩)) fun ws s2 ⟨ys, H2, I2, rv2, G2, M2, zs, g2, r2, c2⟩ => ⟨I2.kIn, c2 pins s2 σ B G2 H2 Q [] [] ys ws (st.go g2) I2 .nil .nil r2 rv2 fun v G' H' M' d t ri q => kq _ _ _ _ _ (g2.trans t) ri q⟩) hpl) hdb)
/-- the object of a method's call -/
def MAt (Y : Bd) (m : Str) (f : Addr) (M : Mm) (d : D) : Prop := ∃ C fs, OAt M d C fs ∧ Cls Y.X.K C ∧ Meth Y.X.K C m f ∧ fs.lookup m = none
abbrev MethTerm (o : Expr) (m : Str) (es : List Expr) (kws : List Keyword) (apos pos : Pos) (env : Env) (pl : Sem Bool) : Prop := eval (.Call (.Attribute o m apos) es kws pos) env = (do
      let ov ← eval o env
      standAt apos.atName
      let (f, first) ← holding [ov] (getMethod ov m pl)
      callWith pos f first (backTo pos (starEach es env)) (backToKw pos (keywordEach kws env)))
theorem meth_at {pl : Sem Bool} {pins : List (Addr × Obj)} {σ : L2.St} {B : Bs} {G H : Hp} {s : Shared} {R : Value → Shared → Prop} {R2 : D → Mm → Prop} (ht : MethTerm o m es kws apos pos Y.X.env pl) (st : StOk Y B σ G H M ss) (I : Inv Y.X pins σ H s) (h : WE Y o ss M fun d M => MAt Y m f M d ∧ R2 d M)
    (q : ∀ a s1 G1 H1 M1 d, Inv Y.X pins σ H1 s1 → Tr Y.X.K G H M G1 H1 M1 → Is Y.X.K G1 (.ref a) d → R2 d M1 → wpAny (model Y.X.prog Y.X.w) Y.X.A (callWith pos (.ref f) [.ref a] (backTo pos (starEach es Y.X.env)) (backToKw pos (keywordEach kws Y.X.env))) R Y.X.xe s1) :
    wpAny (model Y.X.prog Y.X.w) Y.X.A (eval (.Call (.Attribute o m apos) es kws pos) Y.X.env) R Y.X.xe s := by
  refine PySem.W.methodCall_KW (pl := pl) (thn (pe_w.run pins s σ H (fun v H1 => ∃ G1 M1 d, Tr Y.X.K G H M G1 H1 M1 ∧ Is Y.X.K G1 v d ∧ MAt Y m f M1 d ∧ R2 d M1) I (h _ _ _ _ _ st fun v G1 H1 M1 d g r c => ⟨G1, M1, d, g, r, c.1, c.2⟩)) fun u s1 ⟨v, H1, I1, rv, G1, M1, d, g, r, ⟨C, fs, oa, cl, mt, lk⟩, c⟩ => ?_) ht
  obtain ⟨a, dx, vs, rfl, hx, rf⟩ := oa.get g.wd r
  obtain rfl : u = Value.ref a := rv
  exact getmeth_ok I1 hx cl mt (rf.lookN lk) (q a s1 G1 H1 M1 d I1 g r c)
/-- o.m(e, ..) -/
theorem we_meth {pl : Sem Bool} (hk : PySem.W.keepIn Y.X.K (.ref f) = true) (h : WE Y o ss M fun d M => MAt Y m f M d ∧ WA Y (e :: es) ss M fun ds M => Cal Y (.ref f) [] ss (d :: ds) [] M P)
    (hst : starEach (e :: es) Y.X.env = (false, eval e Y.X.env) :: starEach es Y.X.env := by rfl) (hpl : (backTo pos (starEach es Y.X.env)).any (·.1) = false := by rfl) (ht : MethTerm o m (e :: es) [] apos pos Y.X.env pl := by rfl) : WE Y (.Call (.Attribute o m apos) (e :: es) [] pos) ss M P :=
  .mk fun B σ G H Q st kq pins s I => meth_at ht st I h fun a s1 G1 H1 M1 d I1 g r c => PySem.W.callWith_K (first := [.ref a]) (h₀ := Y.X.base) I.ok.mod.kin hk (thn (pa_w.run pos pins s1 σ H1 (fun vs H2 => ∃ G2 M2 ds, Tr Y.X.K G1 H1 M1 G2 H2 M2 ∧ Iss Y.X.K G2 vs ds ∧ Cal Y (.ref f) [] ss (d :: ds) [] M2 P) I1
    (c _ _ _ _ _ (st.go g) fun vs G2 H2 M2 ds g2 r2 c2 => ⟨G2, M2, ds, g2, r2, c2⟩)) fun us s2 ⟨vs, H2, I2, rv, G2, M2, ds, g2, r2, c2⟩ => ⟨I2.kIn, c2 pins s2 σ B G2 H2 Q (.ref a :: vs) (.ref a :: us) [] [] ((st.go g).go g2) I2 (.cons (r.mono g2.gg) r2) (.cons rfl rv) .nil .nil fun v G' H' M' d t ri q => kq _ _ _ _ _ ((g.trans g2).trans t) ri q⟩) hst hpl
theorem we_meth0 {pl : Sem Bool} (hk : PySem.W.keepIn Y.X.K (.ref f) = true) (h : WE Y o ss M fun d M => MAt Y m f M d ∧ Cal Y (.ref f) [] ss [d] [] M P) (ht : MethTerm o m [] [] apos pos Y.X.env pl := by rfl) : WE Y (.Call (.Attribute o m apos) [] [] pos) ss M P :=
  .mk fun B σ G H Q st kq pins s I => meth_at ht st I h fun a s1 G1 H1 M1 d I1 g r c => PySem.W.callWith_K0 (first := [.ref a]) I1.kIn hk (c pins s1 σ B G1 H1 Q [.ref a] [.ref a] [] [] (st.go g) I1 (.cons r .nil) (.cons rfl .nil) .nil .nil fun v G' H' M' d t ri q => kq _ _ _ _ _ (g.trans t) ri q)
theorem we_methK0 {pl : Sem Bool} (hk : PySem.W.keepIn Y.X.K (.ref f) = true) (h : WE Y o ss M fun d M => MAt Y m f M d ∧ WK Y kws ss M fun zs M => Cal Y (.ref f) ks ss [d] zs M P) (hall : (backToKw pos (keywordEach kws Y.X.env)).all (·.1.isSome) = true := by rfl) (hks : (backToKw pos (keywordEach kws Y.X.env)).filterMap (·.1) = ks := by rfl)
    (hpl : ((backTo pos (starEach [] Y.X.env)).any (·.1) || (backToKw pos (keywordEach kws Y.X.env)).any (·.1.isNone)) = false := by rfl) (ht : MethTerm o m [] kws apos pos Y.X.env pl := by rfl) : WE Y (.Call (.Attribute o m apos) [] kws pos) ss M P := by
  subst hks
  exact .mk fun B σ G H Q st kq pins s I => meth_at ht st I h fun a s1 G1 H1 M1 d I1 g r c => PySem.W.callWith_KW0 (first := [.ref a]) (h₀ := Y.X.base) I.ok.mod.kin hk hall (thn (pk_w.run pos pins s1 σ H1 (fun ys H2 => ∃ G2 M2 zs, Tr Y.X.K G1 H1 M1 G2 H2 M2 ∧ Iss Y.X.K G2 ys zs ∧ Cal Y (.ref f) _ ss [d] zs M2 P) I1
    (c _ _ _ _ _ (st.go g) fun ys G2 H2 M2 zs g2 r2 c2 => ⟨G2, M2, zs, g2, r2, c2⟩)) fun ws s2 ⟨ys, H2, I2, rv2, G2, M2, zs, g2, r2, c2⟩ => ⟨I2.kIn, c2 pins s2 σ B G2 H2 Q [.ref a] [.ref a] ys ws ((st.go g).go g2) I2 (.cons (r.mono g2.gg) .nil) (.cons rfl .nil) r2 rv2 fun v G' H' M' d t ri q => kq _ _ _ _ _ ((g.trans g2).trans t) ri q⟩) hpl
/-- list(range(..)) -/
theorem we_lrg {te : L2.St → Hp → (Int → Int → Hp → Prop) → Prop} (hc : Y.X.calm = true) (hm : Y.X.mg "list" = none) (he : PRg Y.X e te) (h : ∀ B σ G H Q, StOk Y B σ G H M ss → (∀ a b G' H' M', Tr Y.X.K G H M G' H' M' → RgOk a b → NewL P M' (rngD a (b - a).toNat) → Q a b H') → te σ H Q) (hg : Gl Y.X "list" := by rfl) (na : starEach [e] Y.X.env = (false, eval e Y.X.env) :: starEach [] Y.X.env := by rfl) :
    WE Y (.Call (.Name "list" p) [e] [] pos) ss M P := we_pe (pe_listRg hc hg hm he na) fun B σ G H Q st k => h B σ G H _ st fun a b G' H' M' g ok q => ⟨ok, fun l hl => q.k g hl (vs := rgV a b) (by
      unfold rgV rngD
      generalize List.range (b - a).toNat = l
      induction l with
      | nil => exact .nil
      | cons i l ih => exact .cons (.int _) ih) k⟩
theorem we_lrg1 {p2 pos2 : Pos} (hc : Y.X.calm = true) (hm : Y.X.mg "list" = none) (hm2 : Y.X.mg "range" = none) (h : WE Y e ss M fun x M => ∃ n : Int, x = .int n ∧ RgOk 0 n ∧ NewL P M (rngD 0 n.toNat)) (hg : Gl Y.X "list" := by rfl) (hg2 : Gl Y.X "range" := by rfl)
    (na2 : starEach [e] Y.X.env = [(false, eval e Y.X.env)] := by rfl) (na : starEach [.Call (.Name "range" p2) [e] [] pos2] Y.X.env = (false, eval (.Call (.Name "range" p2) [e] [] pos2) Y.X.env) :: starEach [] Y.X.env := by rfl) :
    WE Y (.Call (.Name "list" p) [.Call (.Name "range" p2) [e] [] pos2] [] pos) ss M P := we_lrg hc hm (prg_1 hg2 hm2 pe_w na2) (fun B σ G H Q st k => h _ _ _ _ _ st fun v G1 H1 M1 d g r ⟨n, ed, ok, q⟩ => by
      subst ed
      cases r
      exact ⟨n, rfl, k _ _ _ _ _ g ok (by rw [Int.sub_zero]; exact q)⟩) hg na
theorem we_lrg2 {a b : Expr} {p2 pos2 : Pos} (hc : Y.X.calm = true) (hm : Y.X.mg "list" = none) (hm2 : Y.X.mg "range" = none) (h : WE Y a ss M fun x M => WE Y b ss M fun y M => ∃ i n : Int, x = .int i ∧ y = .int n ∧ RgOk i n ∧ NewL P M (rngD i (n - i).toNat)) (hg : Gl Y.X "list" := by rfl) (hg2 : Gl Y.X "range" := by rfl)
    (na2 : starEach [a, b] Y.X.env = (false, eval a Y.X.env) :: starEach [b] Y.X.env := by rfl) (nb : starEach [b] Y.X.env = (false, eval b Y.X.env) :: starEach [] Y.X.env := by rfl) (hp : (backTo pos2 (starEach [b] Y.X.env)).any (·.1) = false := by rfl) (na : starEach [.Call (.Name "range" p2) [a, b] [] pos2] Y.X.env = (false, eval (.Call (.Name "range" p2) [a, b] [] pos2) Y.X.env) :: starEach [] Y.X.env := by rfl) :
    WE Y (.Call (.Name "list" p) [.Call (.Name "range" p2) [a, b] [] pos2] [] pos) ss M P := we_lrg hc hm (prg_2 hg2 hm2 pe_w pe_w na2 nb hp) (fun B σ G H Q st k => h _ _ _ _ _ st fun v G1 H1 M1 d g r h2 => h2 _ _ _ _ _ (st.go g) fun v2 G2 H2 M2 d2 g2 r2 ⟨i, n, ed, ed2, ok, q⟩ => by
      subst ed ed2
      cases r
      cases r2
      exact ⟨i, n, rfl, rfl, k _ _ _ _ _ (g.trans g2) ok q⟩) hg na
end
end JQ

set_option Elab.async false
set_option linter.all false
set_option maxRecDepth 100000
set_option maxHeartbeats 2000000
/-! Own errors: raised, caught by several clauses with names, their fields read. -/
namespace JQ
open PySem PySem.Spec PyProof.Rows L2
open Evl (Ex ex_l ex_t)
/-! ### several clauses, with or without a name (over the hand layer) -/
abbrev Cl := Value × Option Nat × (Addr → Value → Option Addr → TS)
/-- behind a suite the clause's name is gone -/
def goneE (i : Option Nat) (E : Ends) : Ends := match i with
  | none => E
  | some i => { nx := fun σ H => E.nx (σ.set i none) H, rt := E.rt, bk := fun σ H => E.bk (σ.set i none) H, ct := fun σ H => E.ct (σ.set i none) H }
def putN (i : Option Nat) (a : Addr) (σ : L2.St) : L2.St := match i with
  | none => σ
  | some i => σ.set i (some (.ref a))
def wCl (K : PySem.W.Frag) (Wo : WX) (E : Ends) : List Cl → WX
  | [] => Wo
  | (c, i, ts) :: r => fun cls d σ H => ∃ b, PySem.W.exmOne K cls c = some b ∧ (b = true → ∀ a, H a = none → ts a cls d (goneE i E) (putN i a σ) H) ∧ (b = false → wCl K Wo E r cls d σ H)
inductive ClOk (X : Cx) : List ExceptHandler → List Cl → Prop
  | nil : ClOk X [] []
  | plain {x : Str} {c : Value} {ts : Addr → Value → Option Addr → TS} {b₀ : Stmt} {suite : List Stmt} {np p' : Pos} {hds : List ExceptHandler} {l : List Cl} (hc : Names X x c)
      (hsu : ∀ (a : Addr) (oe : Obj) (cls : Value) (d : Option Addr) (pn : List (Addr × Obj)), Zc cls d oe → (∃ vs, oe.data = .fields vs) → PSs (X.suite a ((a, oe) :: pn)) (b₀ :: suite) (ts a cls d)) (r : ClOk X hds l) :
      ClOk X (.ExceptHandler (some (.Name x np)) none (b₀ :: suite) p' :: hds) ((c, none, ts) :: l)
  | named {x n : Str} {i : Nat} {c : Value} {ts : Addr → Value → Option Addr → TS} {b₀ : Stmt} {suite : List Stmt} {np p' : Pos} {hds : List ExceptHandler} {l : List Cl} (hc : Names X x c) (hi : X.N[i]? = some n) (hl : X.env.kindOf n = some .local)
      (hsu : ∀ (a : Addr) (oe : Obj) (cls : Value) (d : Option Addr) (pn : List (Addr × Obj)), Zc cls d oe → (∃ vs, oe.data = .fields vs) → PSs (X.suite a ((a, oe) :: pn)) (b₀ :: suite) (ts a cls d)) (r : ClOk X hds l) :
      ClOk X (.ExceptHandler (some (.Name x np)) (some n) (b₀ :: suite) p' :: hds) ((c, some i, ts) :: l)
section
variable {X : Cx} {body : List Stmt} {hd : ExceptHandler} {hds : List ExceptHandler} {l : List Cl} {pos : Pos} {tb : WX → TS} {Wo : WX}
theorem ps_clauses (hst : X.stack = X.env :: X.outer) (hfr : X.env.frame = some X.env.locals) (hN : X.N.Nodup) (tk : Takes X Wo)
    (hb : ∀ (W : WX) (pn : List (Addr × Obj)) (xe : Value → Shared → Prop), Takes (X.tr pn xe) W → PassesOwn (model X.prog X.w) X.A X.env xe → PSs (X.tr pn xe) body (tb W))
    (hh : ClOk X (hd :: hds) l) : PS X (.Try body (hd :: hds) [] [] pos) (fun E σ H => tb (wCl X.K Wo E l) E σ H) := by
  constructor
  intro pins s σ H E I h
  have okX := I.ok
  have frX : X.A.frames = some (X.env :: X.outer) := by rw [okX.frames, hst]
  apply wpAny_Try_except
  have bodyRun := (hb (wCl X.K Wo E l) (X.pn ++ pins) (fun e s₁ => wpAny (model X.prog X.w) X.A (noteFrame e X.env) (fun _ s₂ => wpAny (model X.prog X.w) X.A (setFlight e none) (fun _ s₃ =>
    wpAny (model X.prog X.w) X.A (handleBy e X.env (hd :: hds)) (SP X pins E) X.xe s₃) X.xe s₂) X.xe s₁) (fun u s' caught => ?_) PassesOwn.looking).run [] s σ H E (I.toTry _) h
  · refine wpAny_mono bodyRun (fun fl s1 done => ?_) (fun e s1 he => he)
    cases fl with
    | next =>
      obtain ⟨σ', H', J', q⟩ := done
      exact wpAny_execs_nil ⟨σ', H', J'.ofTry okX, q⟩
    | brk =>
      obtain ⟨σ', H', J', q⟩ := done
      exact ⟨σ', H', J'.ofTry okX, q⟩
    | cont =>
      obtain ⟨σ', H', J', q⟩ := done
      exact ⟨σ', H', J'.ofTry okX, q⟩
    | ret u =>
      obtain ⟨v, σ', H', J', r, q⟩ := done
      exact ⟨v, σ', H', J'.ofTry okX, r, q⟩
  · obtain ⟨a, Bg, sI, pins', σ', H', cls, d, rfl, Jt, nb, up, sky, na, hos, hag, wish⟩ := caught
    have J : Inv X pins σ' H' sI := Jt.ofTry okX
    have skyX : Sky Bg (X.env :: X.outer) a (Zc cls d) X.env.locals s'.heap := by rw [← hst]; exact sky
    show wpAny (model X.prog X.w) X.A (noteFrame (.ref a) X.env) _ _ _
    refine Sky.land Zc.steady frX hfr skyX fun hp3 fly3 up3 => ?_
    have J3 : Inv X pins σ' H' { s' with heap := hp3 } := J.landed nb fly3.1 (up.trans up3) hos hag
    obtain ⟨oe3, vs3, he3, hz3, hd3⟩ := fly3.there
    have noFrame : ∀ {hp : Heap} {o : Obj} {vs : Array Value}, hp.FunFrames Bg (X.env :: X.outer) → hp.get? a = some o → o.data = .fields vs → a ∉ frs (X.env :: X.outer) := by
      intro hp o vs ff e1 e2 hm
      obtain ⟨_, o', e3, e4⟩ := ff.mem hm
      rw [e1] at e3
      cases e3
      exact e4 _ e2
    have nfr := noFrame fly3.2.2.1 he3 hd3
    have nL : a ≠ X.env.locals := fun z => nfr (List.mem_filterMap.mpr ⟨X.env, List.mem_cons_self, by rw [hfr, z]⟩)
    have nF : a ∉ X.fs := by
      intro hm
      obtain ⟨e, he, q⟩ := List.mem_filterMap.mp hm
      exact nfr (List.mem_filterMap.mpr ⟨e, List.mem_cons_of_mem _ he, q⟩)
    have S3 := J3.suite he3 hd3 na nL nF
    -- the test of a clause
    have tests : ∀ {x : Str} {np : Pos} {c : Value} {Q E : Value → Shared → Prop}, Names X x c → Q c { s' with heap := hp3 } → wpAny (model X.prog X.w) (X.A.mark (some (.ref a))) (eval (.Name x np) X.env) Q E { s' with heap := hp3 } := by
      intro x np c Q E hc q
      obtain ⟨hg, hdbg, hm | ⟨hm, hv, hnn⟩⟩ := hc
      · exact ld_glob (X := X.suite a ((a, oe3) :: (X.pn ++ pins))) S3 hg hm q hdbg
      · exact ld_blt (X := X.suite a ((a, oe3) :: (X.pn ++ pins))) S3 hg hm hv q hnn hdbg
    have tyA : PySem.W.Looks (model X.prog X.w) hp3 (typeOf (.ref a)) cls := fun A Q E s k q => wpAny_typeOf_ref (k _ _ he3) (by rw [hz3.1]; exact q)
    have walk : ∀ {hs : List ExceptHandler} {ls : List Cl}, ClOk X hs ls → wCl X.K Wo E ls cls d σ' H' → wpAny (model X.prog X.w) X.A (handleBy (.ref a) X.env hs) (SP X pins E) X.xe { s' with heap := hp3 } := by
      intro hs ls hk
      induction hk with
      | nil =>
        intro w
        apply wpAny_handleBy_nil
        obtain ⟨k1, k2, k3, oe, vs, T, oT, ts', he, hz, hdt, h1, hr⟩ := id fly3
        unfold PySem.passOn
        apply wpAny_bind
        refine wpAny_field he hdt h1 ?_
        have nn : ¬ ((Value.ref T == Value.none) = true) := by simp
        rw [if_neg nn]
        have out : wpAny (model X.prog X.w) X.A (setFlight (.ref a) X.env.frame) (fun _ s4 => wpAny (model X.prog X.w) X.A (throw (.ref a) : Sem Flow) (SP X pins E) X.xe s4) X.xe { s' with heap := hp3 } := by
          rw [hfr]
          refine HandSPX.setFlight_upZ fly3 fun hp4 q4 up4 => wpAny_throw (tk _ _ ?_)
          have z4 := (up.trans up3).trans up4
          exact ⟨a, Bg, sI, pins, σ', H', cls, d, rfl, J, nb, z4, .inr (.inr (by rw [hst]; exact q4)), na, hos, hag, w⟩
        first
          | exact wpAny_bind (wpAny_pure (wpAny_bind out))
          | exact wpAny_bind out
      | @plain x c ts b₀ suite np p' hs2 l2 hc hsu r ih =>
        intro w
        obtain ⟨b, hb1, yes, no⟩ := w
        refine wpAny_handleBy_cons (codeAny_handlers_test ?_) (by intro q; cases q)
        refine tests hc ((PySem.W.exm_one (M := model X.prog X.w) J3.kIn tyA hb1).here ?_)
        cases b with
        | false =>
          show wpAny _ X.A (handleBy (.ref a) X.env hs2) _ _ _
          exact ih (no rfl)
        | true =>
          apply codeAny_handlers_suite
          refine HandSPX.lands_againZ fly3 fun hp4 fly4 up4 => ?_
          have J4 : Inv X pins σ' H' { s' with heap := hp4 } := J.landed nb fly4.1 ((up.trans up3).trans up4) hos hag
          obtain ⟨oe4, vs4, he4, hz4, hd4⟩ := fly4.there
          have S4 := J4.suite he4 hd4 na nL nF
          refine wpAny_mono ((hsu a oe4 cls d (X.pn ++ pins) hz4 ⟨_, hd4⟩).run [] _ _ H' _ S4 (yes rfl a na)) (fun fl s6 done => ?_) (fun _ _ z => z.elim)
          cases fl with
          | next =>
            obtain ⟨σ6, H6, S6, q6⟩ := done
            exact ⟨_, _, S6.unsuite okX, q6⟩
          | brk =>
            obtain ⟨σ6, H6, S6, q6⟩ := done
            exact ⟨_, _, S6.unsuite okX, q6⟩
          | cont =>
            obtain ⟨σ6, H6, S6, q6⟩ := done
            exact ⟨_, _, S6.unsuite okX, q6⟩
          | ret u =>
            obtain ⟨v6, σ6, H6, S6, r6, q6⟩ := done
            exact ⟨_, _, _, S6.unsuite okX, r6, q6⟩
      | @named x n i c ts b₀ suite np p' hs2 l2 hc hi hln hsu r ih =>
        intro w
        obtain ⟨b, hb1, yes, no⟩ := w
        refine wpAny_handleBy_cons (codeAny_handlers_test ?_) (by intro q; cases q)
        refine tests hc ((PySem.W.exm_one (M := model X.prog X.w) J3.kIn tyA hb1).here ?_)
        cases b with
        | false =>
          show wpAny _ X.A (handleBy (.ref a) X.env hs2) _ _ _
          exact ih (no rfl)
        | true =>
          apply codeAny_handlers_suite_as
          refine HandSPX.lands_againZ fly3 fun hp4 fly4 up4 => ?_
          have J4 : Inv X pins σ' H' { s' with heap := hp4 } := J.landed nb fly4.1 ((up.trans up3).trans up4) hos hag
          obtain ⟨oe4, vs4, he4, hz4, hd4⟩ := fly4.there
          have S4 := J4.suite he4 hd4 na nL nF
          have hloc : Loc X.env.scope n := .inl hln
          refine store_ok (X := X.suite a ((a, oe4) :: (X.pn ++ pins))) (v := .ref a) S4 hN hi hloc rfl (fun s5 S5 => ?_) (.inr hln)
          refine wpAny_mono ((hsu a oe4 cls d (X.pn ++ pins) hz4 ⟨_, hd4⟩).run [] s5 _ H' _ S5 (yes rfl a na)) (fun fl s6 done => ?_) (fun _ _ z => z.elim)
          have leave : ∀ {σ6 : L2.St} {H6 : Hp} {Q : Shared → Prop}, Inv (X.suite a ((a, oe4) :: (X.pn ++ pins))) [] σ6 H6 s6 → (∀ s7, Inv X pins (σ6.set i none) H6 s7 → Q s7) →
              wpAny (model X.prog X.w) X.A (do bindName X.env n .none; unbindBehindTheSuite X.env n p') (fun _ s7 => Q s7) X.xe s6 := fun {σ6 H6 Q} S6 q => gone_ok (S6.unsuite okX) hN hi hln q
          cases fl with
          | next =>
            obtain ⟨σ6, H6, S6, q6⟩ := done
            exact leave S6 fun s7 J7 => ⟨_, _, J7, q6⟩
          | brk =>
            obtain ⟨σ6, H6, S6, q6⟩ := done
            exact leave S6 fun s7 J7 => ⟨_, _, J7, q6⟩
          | cont =>
            obtain ⟨σ6, H6, S6, q6⟩ := done
            exact leave S6 fun s7 J7 => ⟨_, _, J7, q6⟩
          | ret u =>
            obtain ⟨v6, σ6, H6, S6, r6, q6⟩ := done
            exact leave S6 fun s7 J7 => ⟨_, _, _, J7, r6, q6⟩
    exact walk hh wish
end
/-! ### clauses on data -/
abbrev Cd := Value × Option Nat × List Stmt
def putS (i : Option Nat) (a : Addr) (ss : List S) : List S := match i with
  | none => ss
  | some i => ss.set i (some (.rf a))
def goneS (i : Option Nat) (ss : List S) : List S := match i with
  | none => ss
  | some i => ss.set i none
/-- a suite ends: the error's fields are forgotten, and its name -/
def goneD (dd : Addr) (i : Option Nat) (N : DE) : DE := ⟨fun ss M => N.nx (goneS i ss) (mdel M dd), fun d M => N.rt d (mdel M dd), fun ss M => N.bk (goneS i ss) (mdel M dd), fun ss M => N.ct (goneS i ss) (mdel M dd)⟩
/-- the context of a suite -/
abbrev Bd.sui (Y : Bd) (a : Addr) (oe : Obj) (pn : List (Addr × Obj)) : Bd := ⟨Y.X.suite a ((a, oe) :: pn), fun _ _ _ _ => False⟩
/-- what the clauses make of an error -/
def hMatch (Y : Bd) (N : DE) : List Cd → Addr → List (Str × D) → Mm → List S → Prop
  | [] => Y.EE
  | (c, i, su) :: r => fun C gs M ss => ∃ b, PySem.W.exmOne Y.X.K (.ref C) c = some b ∧ (b = true → ∀ a dd pn oe, Zc (.ref C) (some dd) oe → (∃ vs, oe.data = .fields vs) → M dd = none → WSs (Y.sui a oe pn) su (putS i a ss) (mup M dd (.xd gs)) (goneD dd i N)) ∧ (b = false → hMatch Y N r C gs M ss)
/-- a suite's weakest reading -/
def tSu (X : Cx) (su : List Stmt) : Addr → Value → Option Addr → TS := fun a cls d E σ H => ∀ (oe : Obj) (pn : List (Addr × Obj)), Zc cls d oe → (∃ vs, oe.data = .fields vs) → wSs (X.suite a ((a, oe) :: pn)) su E σ H
theorem pss_su {X : Cx} {su : List Stmt} (a : Addr) (oe : Obj) (cls : Value) (d : Option Addr) (pn : List (Addr × Obj)) (hz : Zc cls d oe) (hf : ∃ vs, oe.data = .fields vs) : PSs (X.suite a ((a, oe) :: pn)) su (tSu X su a cls d) := ⟨fun pins s _ _ _ I h => h oe pn hz hf pins s I⟩
abbrev clOf (X : Cx) (l : List Cd) : List Cl := l.map fun c => (c.1, c.2.1, tSu X c.2.2)
theorem clo_nil {X : Cx} : ClOk X [] (clOf X []) := .nil
theorem clo_plain {X : Cx} {x : Str} {c : Value} {b₀ : Stmt} {suite : List Stmt} {np p' : Pos} {hds : List ExceptHandler} {l : List Cd} (hc : Names X x c) (r : ClOk X hds (clOf X l)) : ClOk X (.ExceptHandler (some (.Name x np)) none (b₀ :: suite) p' :: hds) (clOf X ((c, none, b₀ :: suite) :: l)) := .plain hc pss_su r
theorem clo_named {X : Cx} {x n : Str} (i : Nat) {c : Value} {b₀ : Stmt} {suite : List Stmt} {np p' : Pos} {hds : List ExceptHandler} {l : List Cd} (hc : Names X x c) (r : ClOk X hds (clOf X l)) (hi : X.N[i]? = some n := by rfl) (hl : X.env.kindOf n = some .local := by rfl) :
    ClOk X (.ExceptHandler (some (.Name x np)) (some n) (b₀ :: suite) p' :: hds) (clOf X ((c, some i, b₀ :: suite) :: l)) := .named hc hi hl pss_su r
theorem names_of {X : Cx} {x : Str} {C : Addr} (hm : X.mg x = some (.ref C)) (hg : Gl X x := by rfl) (hd : (x == ("__debug__" : Str)) = false := by decide) : Names X x (.ref C) := ⟨hg, hd, .inl hm⟩
section
variable {Y : Bd} {ss : List S} {M : Mm} {N : DE} {body : List Stmt} {hd : ExceptHandler} {hds : List ExceptHandler} {pos : Pos} {l : List Cd}
theorem frm_put {K : PySem.W.Frag} {G : Hp} {σ : L2.St} {a : Addr} (i : Option Nat) (h : Frm K G σ ss) : Frm K G (putN i a σ) (putS i a ss) := by
  cases i with
  | none => exact h
  | some i => exact h.set (.adr _) i
theorem ends_gone {B : Bs} {G H : Hp} {E : Ends} {Y' : Bd} (hK : Y'.X.K = Y.X.K) (dd : Addr) (i : Option Nat) (t0 : Tr Y.X.K B.G B.H B.M G H M) (er : ErrOk Y B) (eo : EndsOk Y B N E) : EndsOk Y' ⟨G, H, M⟩ (goneD dd i N) (goneE i E) := by
  have key : ∀ {σ : L2.St} {G2 H2 : Hp} {M2 : Mm} {s2 : List S}, StOk Y' ⟨G, H, M⟩ σ G2 H2 M2 s2 → Tr Y.X.K B.G B.H B.M G2 H2 (mdel M2 dd) ∧ Frm Y.X.K G2 σ s2 := fun {σ G2 H2 M2 s2} so => by
    have t := so.t
    have f := so.f
    rw [hK] at t f
    exact ⟨(t0.trans t).trans (t.wd.drop msub_del), f⟩
  have rt : ∀ v G2 H2 M2 d, Tr Y'.X.K G H M G2 H2 M2 → Is Y'.X.K G2 v d → N.rt d (mdel M2 dd) → E.rt v H2 := fun v G2 H2 M2 d t r q => by
    rw [hK] at t r
    exact eo.rt v G2 H2 _ d ((t0.trans t).trans (t.wd.drop msub_del)) r q
  cases i with
  | none => exact ⟨fun σ G2 H2 M2 s so q => eo.nx _ _ _ _ _ ⟨(key so).1, er, (key so).2⟩ q, rt, fun σ G2 H2 M2 s so q => eo.bk _ _ _ _ _ ⟨(key so).1, er, (key so).2⟩ q, fun σ G2 H2 M2 s so q => eo.ct _ _ _ _ _ ⟨(key so).1, er, (key so).2⟩ q⟩
  | some i => exact ⟨fun σ G2 H2 M2 s so q => eo.nx _ _ _ _ _ ⟨(key so).1, er, (key so).2.forget none i⟩ q, rt, fun σ G2 H2 M2 s so q => eo.bk _ _ _ _ _ ⟨(key so).1, er, (key so).2.forget none i⟩ q, fun σ G2 H2 M2 s so q => eo.ct _ _ _ _ _ ⟨(key so).1, er, (key so).2.forget none i⟩ q⟩
theorem match_cl {B : Bs} {G H : Hp} {E : Ends} {Wo : WX} (t0 : Tr Y.X.K B.G B.H B.M G H M) (er : ErrOk Y B) (eo : EndsOk Y B N E)
    (hW : ∀ C gs fs d σ G H M M' ss, Y.EE C gs M' ss → Msub M' M → Tr Y.X.K B.G B.H B.M G H M → Frm Y.X.K G σ ss → B.H d = none → G d = none → M d = none → H d = some (.xd fs) → IsF Y.X.K G fs gs → Wo (.ref C) (some d) σ H) :
    ∀ (l : List Cd) C gs fs d σ G' H' M' M2 ss', hMatch Y N l C gs M2 ss' → Msub M2 M' → Tr Y.X.K G H M G' H' M' → Frm Y.X.K G' σ ss' → H d = none → G' d = none → M' d = none → H' d = some (.xd fs) → IsF Y.X.K G' fs gs → wCl Y.X.K Wo E (clOf Y.X l) (.ref C) (some d) σ H'
  | [], C, gs, fs, d, σ, G', H', M', M2, ss', ee, ms, t, f, n, ng, nm, e, r => hW C gs fs d σ G' H' M' M2 ss' ee ms (t0.trans t) f (by
      cases c : B.H d with
      | none => rfl
      | some u =>
        obtain ⟨u', c'⟩ := t0.lv d u c
        rw [c'] at n
        cases n) ng nm e r
  | (c, i, su) :: l, C, gs, fs, d, σ, G', H', M', M2, ss', ⟨b, hb, yes, no⟩, ms, t, f, n, ng, nm, e, r => by
    refine ⟨b, hb, fun eb a ha => ?_, fun eb => match_cl t0 er eo hW l C gs fs d σ G' H' M' M2 ss' (no eb) ms t f n ng nm e r⟩
    intro oe pn hz hf
    have m2 : M2 d = none := by
      cases c : M2 d with
      | none => rfl
      | some u => rw [ms d u c] at nm; cases nm
    have t2 : Tr Y.X.K G H M G' H' (mup M2 d (.xd gs)) := by
      have t1 := t.trans (t.wd.drop ms)
      refine ⟨t1.gg, ⟨t1.gh, fun a u hu => ?_⟩, fun a u hu m => ?_, t1.lv⟩
      · by_cases ca : a = d
        · subst ca
          rw [mup_same] at hu
          cases hu
          exact ⟨ng, _, e, r⟩
        · rw [mup_ne ca] at hu
          exact t1.wd.mo a u hu
      · rw [mup_ne (ne_of_none hu n)]
        exact t1.fr a u hu m
    exact yes eb a d pn oe hz hf m2 ⟨G, H, M⟩ _ _ _ _ ⟨t2, ⟨fun _ _ _ _ => False, takes0, fun C gs fs d σ G H M M' ss e => e.elim⟩, frm_put i f⟩ (ends_gone (Y := Y) (Y' := Y.sui a oe pn) rfl d i t0 er eo)
/-- try: body except ..: .. -/
theorem ws_try (hst : Y.X.stack = Y.X.env :: Y.X.outer) (hfr : Y.X.env.frame = some Y.X.env.locals) (hN : Y.X.N.Nodup) (hh : ClOk Y.X (hd :: hds) (clOf Y.X l))
    (h : ∀ pn xe, PassesOwn (model Y.X.prog Y.X.w) Y.X.A Y.X.env xe → WSs ⟨Y.X.tr pn xe, hMatch Y N l⟩ body ss M N) : WS Y (.Try body (hd :: hds) [] [] pos) ss M N := .mk fun B σ G H E so eo pins s I => by
  obtain ⟨Wo, tk, hW⟩ := so.er
  refine (ps_clauses (tb := fun W E σ H => ∀ pn xe, Takes (Y.X.tr pn xe) W → PassesOwn (model Y.X.prog Y.X.w) Y.X.A Y.X.env xe → wSs (Y.X.tr pn xe) body E σ H) hst hfr hN tk (fun W pn xe tk2 po => ⟨fun pins s _ _ _ I h => h pn xe tk2 po pins s I⟩) hh).run pins s σ H E I ?_
  intro pn xe tk2 po
  have eo2 := eo.base so.t so.er
  refine h pn xe po ⟨G, H, M⟩ σ G H E ⟨so.refl, ⟨_, tk2, match_cl so.t so.er eo hW l⟩, so.f⟩ ⟨fun σ G2 H2 M2 s so2 q => ?_, fun v G2 H2 M2 d t r q => eo2.rt v G2 H2 M2 d t r q, fun σ G2 H2 M2 s so2 q => ?_, fun σ G2 H2 M2 s so2 q => ?_⟩
  · exact eo2.nx σ G2 H2 M2 s ⟨so2.t, so.er.base so.t, so2.f⟩ q
  · exact eo2.bk σ G2 H2 M2 s ⟨so2.t, so.er.base so.t, so2.f⟩ q
  · exact eo2.ct σ G2 H2 M2 s ⟨so2.t, so.er.base so.t, so2.f⟩ q
/-- n.f in a suite, n the error -/
theorem we_errf {a dd C : Addr} {oe : Obj} {pn : List (Addr × Obj)} {e : Expr} {f : Str} {gs : List (Str × D)} {P : D → Mm → Prop} (T : XfC Y.X.K C) (hno : PySem.W.findIn Y.X.K (.ref C) f = some none) (hz : Zc (.ref C) (some dd) oe) (hf : ∃ vs, oe.data = .fields vs)
    (h : WE (Y.sui a oe pn) e ss M fun x M => x = .rf a ∧ ∃ gs d, M dd = some (.xd gs) ∧ gs.lookup f = some d ∧ P d M) (hb : attributeBase e f Y.X.env (eval e Y.X.env) = eval e Y.X.env := by rfl) : WE (Y.sui a oe pn) (.Attribute e f pos) ss M P :=
  we_pe (pe_xf T hno hz hf pe_w hb) fun B σ G H Q st k => by
    refine h _ _ _ _ _ st fun v G1 H1 M1 x g r ⟨ex, gs, d, em, lk, q⟩ => ?_
    subst ex
    cases r
    obtain ⟨_, u, hu, ob⟩ := g.wd.mo _ _ em
    obtain ⟨vs, rfl, rf⟩ := ob.xd
    obtain ⟨y, l2, r2⟩ := rf.look lk
    exact ⟨rfl, rfl, dd, vs, y, rfl, hu, l2, k _ _ _ _ _ g r2 q⟩
end
/-! ### raise C(e, ..), C an own class whose __init__ stores its arguments -/
def spErr (C : Addr) (fs : List Str) : Sp := fun vs H Q _ => ∃ a ys, vs = .ref a :: ys ∧ ys.length = fs.length ∧ H a = some (exo a C none) ∧ ∀ H2 dx, H dx = none → dx ≠ a → H2 a = some (exo a C (some dx)) → H2 dx = some (exd dx (fs.zip ys).reverse) → (∀ b, b ≠ a → b ≠ dx → H2 b = H b) → Q .non H2
structure ErrT (X : Cx) (C : Addr) (x : Str) (fs : List Str) : Prop where
  o : OexC X.K C
  gc : X.mg x = some (.ref C)
  ini : ∃ fI fd ps k, PySem.W.findIn X.K (.ref C) "__init__" = some (some (.ref fI)) ∧ PySem.W.typeIn X.K (.ref fI) = some (.type "function") ∧ FnOk X.prog X.w X.K X.mg X.base (L2.CX X.prog X.w) k fI fd ps (spErr C fs) ∧ Room (k + 1) X.A ∧ Binds X.K fd ps []
section
variable {Y : Bd} {ss : List S} {M : Mm} {N : DE} {e : Expr} {es : List Expr} {pos pos2 p : Pos} {C : Addr} {x : Str} {fs : List Str}
theorem ws_raise (T : ErrT Y.X C x fs) (hc : Y.X.calm = true) (h : WA Y (e :: es) ss M fun ds M1 => ds.length = fs.length ∧ fs.length ≤ 900 ∧ ∃ M2, Msub M2 M1 ∧ Y.EE C (fs.zip ds).reverse M2 ss) (hg : Gl Y.X x := by rfl)
    (hdb : (x == ("__debug__" : Str)) = false := by decide) (he : starEach (e :: es) Y.X.env = (false, eval e Y.X.env) :: starEach es Y.X.env := by rfl) (hpl : (backTo pos (starEach es Y.X.env)).any (·.1) = false := by rfl) : WS Y (.Raise (some (.Call (.Name x p) (e :: es) [] pos)) none pos2) ss M N := .mk fun B σ G H E so eo pins s I => by
  obtain ⟨fI, fd, ps, k, iC, tI, F, hr, hb⟩ := T.ini
  obtain ⟨W, tk, hW⟩ := so.er
  refine (ps_raise hc tk (pmk_oex (dvs := []) T.o iC tI F hr hb .nil passL hg T.gc pa_w hdb he hpl)).run pins s σ H E I ?_
  refine h _ _ _ _ _ so fun vs G1 H1 M1 ds g r ⟨hl, hz, M2, ms, ee⟩ => ⟨by rw [r.length, hl]; omega, fun a ha => ?_⟩
  refine ⟨a, vs ++ [], rfl, by rw [List.append_nil, r.length, hl], upd_same, fun H2 dx hdx ne e1 e2 rest => ⟨rfl, dx, _, e1, e2, ?_, ?_⟩⟩
  · rw [upd_ne ne] at hdx
    exact hdx
  · rw [upd_ne ne] at hdx
    have eH : upd (del H2 a) dx (.xd (fs.zip (vs ++ [])).reverse) = upd H1 dx (.xd (fs.zip (vs ++ [])).reverse) := by
      funext b
      by_cases c : b = dx
      · rw [c, upd_same, upd_same]
      · rw [upd_ne c, upd_ne c]
        by_cases c2 : b = a
        · rw [c2, del_same, ha]
        · rw [del_ne c2, rest b c2 c, upd_ne c2]
    rw [eH]
    have so1 := so.go g
    have t2 := so1.w.extra (o := .xd (fs.zip (vs ++ [])).reverse) hdx
    have so2 := so1.go t2
    refine hW C _ _ dx σ G1 _ M1 M2 ss ee ms so2.t so2.f ?_ (so1.w.gnone hdx) (so1.w.mnone hdx) upd_same ?_
    · cases c : B.H dx with
      | none => rfl
      | some u =>
        obtain ⟨u', c'⟩ := so1.t.lv dx u c
        rw [c'] at hdx
        cases hdx
    · rw [List.append_nil]
      have key : ∀ {fs : List Str} {vs : List V} {ds : List D}, Iss Y.X.K G1 vs ds → IsF Y.X.K G1 (fs.zip vs) (fs.zip ds) := by
        intro fs
        induction fs with
        | nil => intro vs ds _; exact .nil
        | cons f fs ih =>
          intro vs ds r
          cases r with
          | nil => exact .nil
          | cons h r => exact .cons h (ih r)
      have app : ∀ {a b : List (Str × V)} {c d : List (Str × D)}, IsF Y.X.K G1 a c → IsF Y.X.K G1 b d → IsF Y.X.K G1 (a ++ b) (c ++ d) := by
        intro a b c d h1 h2
        induction c generalizing a with
        | nil => cases h1; exact h2
        | cons y c ih =>
          cases h1 with
          | cons h r => exact .cons h (ih r)
      have rev : ∀ {a : List (Str × V)} {c : List (Str × D)}, IsF Y.X.K G1 a c → IsF Y.X.K G1 a.reverse c.reverse := by
        intro a c h
        induction c generalizing a with
        | nil => cases h; exact .nil
        | cons y c ih =>
          cases h with
          | cons h r =>
            rw [List.reverse_cons, List.reverse_cons]
            exact app (ih r) (.cons h .nil)
      exact rev (key r)
end
/-- an own __init__ of one field, of two fields -/
theorem err1 {P : Program} {w : World} {K : PySem.W.Frag} {mg : Str → Option Value} {base : Heap} {x qual : Str} {st : Stmt} {fA C : Addr} {fd : FuncData} {N ps : List Str} {f : Str} {o e : Expr} {p1 p2 : Pos} {nN nA : Str} {po pe : Pos} (F : Fun K x qual st fA fd) (sc : FnScope N ps (defScope st)) (hl : ps.length = 2) (T : OexC K C) (hno : PySem.W.findIn K (.ref C) f = some none)
    (hb : ∀ (cdv : Value) (A : Around) (outer : List Env) (s : Shared) (H : Hp) (E : XK), PSs (cxOf (L2.CX P w) P w K mg base N qual (defScope st) fA cdv A outer s H E) (defBody st) (tOst K f (fun σ H Q => ∃ v, σ[0]? = some (some v) ∧ Q v H) (fun σ H Q => ∃ v, σ[1]? = some (some v) ∧ Q v H))) :
    FnOk P w K mg base (L2.CX P w) 1 fA fd ps (spErr C [f]) :=
  F.okX sc (fun vs H Q E ⟨a, ys, ev, hy, _⟩ => by rw [ev, List.length_cons, hy, hl]; rfl) fun cdv A outer s H vs Q E hr ⟨a, ys, ev, hy, ea, hq⟩ => by
    obtain ⟨y, rfl⟩ : ∃ y, ys = [y] := by
      match ys, hy with
      | [y], _ => exact ⟨y, rfl⟩
    subst ev
    refine ⟨_, hb cdv A outer s H E, y, rfl, .ref a, rfl, a, C, rfl, T, hno, .inl ⟨ea, fun dx hd ne => ?_⟩⟩
    exact hq _ dx hd ne upd_same (by rw [upd_ne ne, upd_same]; rfl) fun b h1 h2 => by rw [upd_ne h1, upd_ne h2]
theorem err1D {P : Program} {w : World} {K : PySem.W.Frag} {mg : Str → Option Value} {base : Heap} {x qual : Str} {params : Arguments} {body : List Stmt} {scope : Scope} {dvs : List V} {kws : List (Str × V)} {fA C : Addr} {fd : FuncData} {N ps : List Str} {f : Str} (F : FunD K x qual params body scope dvs kws fA fd) (sc : FnScope N ps scope) (hl : ps.length = 2) (T : OexC K C) (hno : PySem.W.findIn K (.ref C) f = some none)
    (hb : ∀ (cdv : Value) (A : Around) (outer : List Env) (s : Shared) (H : Hp) (E : XK), PSs (cxOf (L2.CX P w) P w K mg base N qual scope fA cdv A outer s H E) body (tOst K f (fun σ H Q => ∃ v, σ[0]? = some (some v) ∧ Q v H) (fun σ H Q => ∃ v, σ[1]? = some (some v) ∧ Q v H))) :
    FnOk P w K mg base (L2.CX P w) 1 fA fd ps (spErr C [f]) :=
  F.ok sc (fun vs H Q E ⟨a, ys, ev, hy, _⟩ => by rw [ev, List.length_cons, hy, hl]; rfl) fun cdv A outer s H vs Q E hr ⟨a, ys, ev, hy, ea, hq⟩ => by
    obtain ⟨y, rfl⟩ : ∃ y, ys = [y] := by
      match ys, hy with
      | [y], _ => exact ⟨y, rfl⟩
    subst ev
    refine ⟨_, hb cdv A outer s H E, y, rfl, .ref a, rfl, a, C, rfl, T, hno, .inl ⟨ea, fun dx hd ne => ?_⟩⟩
    exact hq _ dx hd ne upd_same (by rw [upd_ne ne, upd_same]; rfl) fun b h1 h2 => by rw [upd_ne h1, upd_ne h2]
/-- a test that is asked as a value -/
theorem iteB {b : Bool} {A B : Prop} (ht : b = true → A) (hf : b = false → B) : if b = true then A else B := by
  cases b with
  | true => exact ht rfl
  | false => exact hf rfl
end JQ

set_option Elab.async false
set_option linter.all false
set_option maxRecDepth 100000
set_option maxHeartbeats 2000000
/-! len(x) by an own __len__. -/
namespace JQ
open PySem PySem.Spec PyProof.Rows L2
open Evl (Ex ex_l ex_t)
theorem inst_of {X : Cx} {pins : List (Addr × Obj)} {σ : L2.St} {H : Hp} {s : Shared} {a C dx : Addr} {fs : List (Str × V)} (I : Inv X pins σ H s) (e : H a = some (.ins C dx fs)) : ∃ ox od, PySem.W.InstAt s.heap a ox C (some od) := by
  obtain ⟨mA, O, _⟩ := ins_get I.hok e
  obtain ⟨od, J, _⟩ := O.look
  exact ⟨_, od, J⟩
section
variable {Y : Bd} {ss : List S} {M : Mm} {P : D → Mm → Prop} {k : Nat} {f C : Addr} {fd : FuncData} {ps : List Str} {S : Sd} {x : D} {fs : List (Str × D)} {g : List D → List D → List D}
def rLenO (X : Cx) (C : Addr) (sp : Sp) : List V → Hp → VK → Prop := fun vs H Q => ∃ a dx fs, vs = [.ref a] ∧ H a = some (.ins C dx fs) ∧ sp vs H (fun v H' => ∃ n : Nat, v = .int n ∧ n < 2 ^ 63 ∧ Q (.int n) H') E0
theorem cr_lenO {X : Cx} {sp : Sp} (hm : Meth X.K C "__len__" f) (F : FnG X.prog X.w X.K X.mg X.base k f fd ps sp) (hg : X.A.guards = some []) (hr : Room (k + 1) X.A) (hb : ∀ (s : Shared) us, X.K.In s.heap → us.length = 1 → BindsTo s fd ⟨us, []⟩ (ps.zip us)) : CallR X (.builtin "len") (rLenO X C sp) := by
  intro pins s σ H vs us Q I r h
  obtain ⟨a, dx, fs, rfl, ha, h⟩ := h
  cases r with
  | @cons _ u _ us' h1 h2 =>
    cases h2
    obtain rfl : u = Value.ref a := h1
    obtain ⟨ox, od, J⟩ := inst_of I ha
    obtain ⟨m, Fm⟩ := I.fr
    refine PySem.W.len_K Fm I.mod.kin J hm.at_ hm.fn ?_
    refine wpAny_call (codeAny_mono (F.run X.A.in1 X.stack s H ⟨[.ref a], []⟩ [.ref a] [.ref a] _ E0 hg hr.in1 I.env0.in1 (hb s [.ref a] I.kIn rfl) (.cons rfl .nil) h) fun res s2 hq => ?_)
    match res, hq with
    | .error e, hq => exact passL pins σ H s e s2 I hq
    | .ok (.ret u), hq =>
      obtain ⟨v, H', I3, rv, n, ev, hn, q⟩ := I.after hq
      subst ev
      obtain ⟨t, rfl⟩ : ∃ t, u = Value.int n t := rv
      exact ⟨⟨by omega, by omega⟩, V.int n, H', I3.tok _, ⟨_, rfl⟩, q⟩
    | .ok .next, hq => exact False.elim hq
    | .ok .brk, hq => exact False.elim hq
    | .ok .cont, hq => exact False.elim hq
theorem c_lenO (hx : OAt M x C fs) (hm : Meth Y.X.K C "__len__" f) (F : FnG Y.X.prog Y.X.w Y.X.K Y.X.mg Y.X.base k f fd ps (spD Y.X.K S)) (hg : Y.X.A.guards = some []) (hr : Room (k + 1) Y.X.A) (hb : ∀ us : List Value, us.length = ps.length → bindArgs fd ⟨us, []⟩ = pure (ps.zip us)) (hp : ps.length = 1)
    (h : S [x] M (fun d M' => ∃ n : Nat, d = .int n ∧ n < 2 ^ 63 ∧ P (.int n) M') fun _ _ _ => False) : OpC Y (.builtin "len") [x] M P :=
  ⟨_, cr_lenO hm F hg hr (fun s us _ hl => .of_eq (hb us (hl.trans hp.symm))), fun G H vs Q w r k => by
    obtain ⟨v, rfl, rx⟩ := iss_one r
    obtain ⟨a, dx, vs, rfl, hh, rf⟩ := hx.get w rx
    refine ⟨a, dx, vs, rfl, hh, G, M, [x], _, _, w, .cons rx .nil, h, fun v G' H' M' d t ri ⟨n, ed, hn, q⟩ => ?_, fun C gs fs d G' H' M' M2 ee => ee.elim⟩
    subst ed
    cases ri
    exact ⟨n, rfl, hn, k _ _ _ _ _ t (.int _) q⟩⟩
end
/-! ### isinstance(n, C) in a suite, n the error -/
structure ExcI (K : PySem.W.Frag) (C : Addr) : Prop where
  cl : (PySem.W.clsIn K C).isSome = true
  ga : PySem.W.findIn K (.ref C) "__getattribute__" = some (some (.builtin "BaseException.__getattribute__"))
  gt : PySem.W.findIn K (.ref C) "__getattr__" = some none
  sb : PySem.W.subIn K (.ref C) (.type "BaseException") = some true
  ha : PySem.W.findIn K (.ref C) "__class__" = some (some (.builtin "object.__class__"))
  hn : PySem.W.specialIn K (.builtin "object.__class__") "__get__" = some (some (.builtin "getset_descriptor.__get__"))
  tk : PySem.W.takesIn K (.builtin "object.__class__") = some true
  mo : PySem.W.mroIn K C (.type "object") = some true
def excIB (K : PySem.W.Frag) (C : Addr) : Bool := (PySem.W.clsIn K C).isSome && (decide (PySem.W.findIn K (.ref C) "__getattribute__" = some (some (.builtin "BaseException.__getattribute__"))) && (decide (PySem.W.findIn K (.ref C) "__getattr__" = some none) && (decide (PySem.W.subIn K (.ref C) (.type "BaseException") = some true) &&
  (decide (PySem.W.findIn K (.ref C) "__class__" = some (some (.builtin "object.__class__"))) && (decide (PySem.W.specialIn K (.builtin "object.__class__") "__get__" = some (some (.builtin "getset_descriptor.__get__"))) && (decide (PySem.W.takesIn K (.builtin "object.__class__") = some true) && decide (PySem.W.mroIn K C (.type "object") = some true)))))))
theorem excIB_ok {K : PySem.W.Frag} {C : Addr} (h : excIB K C = true) : ExcI K C := by
  obtain ⟨h1, h⟩ := Bool.and_eq_true_iff.mp h
  obtain ⟨h2, h⟩ := Bool.and_eq_true_iff.mp h
  obtain ⟨h3, h⟩ := Bool.and_eq_true_iff.mp h
  obtain ⟨h4, h⟩ := Bool.and_eq_true_iff.mp h
  obtain ⟨h5, h⟩ := Bool.and_eq_true_iff.mp h
  obtain ⟨h6, h⟩ := Bool.and_eq_true_iff.mp h
  obtain ⟨h7, h8⟩ := Bool.and_eq_true_iff.mp h
  exact ⟨h1, of_decide_eq_true h2, of_decide_eq_true h3, of_decide_eq_true h4, of_decide_eq_true h5, of_decide_eq_true h6, of_decide_eq_true h7, of_decide_eq_true h8⟩
theorem c_isE {Y : Bd} {M : Mm} {P : D → Mm → Prop} {a dd C : Addr} {oe : Obj} {pn : List (Addr × Obj)} {gs : List (Str × D)} {c : V} {cv : Value} {b : Bool} (T : ExcI Y.X.K C) (hz : Zc (.ref C) (some dd) oe) (hf : ∃ vs, oe.data = .fields vs) (em : M dd = some (.xd gs)) (hc : ClsV c cv) (hk : PySem.W.kitOne Y.X.K (.ref C) cv = some b) (q : P (.bl b) M) :
    OpC (Y.sui a oe pn) (.builtin "isinstance") [.rf a, .adr c] M P := by
  refine ⟨fun vs H Q => vs = [.ref a, c] ∧ (∃ fs, H dd = some (.xd fs)) ∧ Q (.bl b) H, ?_, fun G H vs Q w r k => ?_⟩
  · intro pins s σ H vs us Q I r h
    obtain ⟨rfl, ⟨fs, hx⟩, q⟩ := h
    cases r with
    | @cons _ u _ us' h1 h2 =>
      obtain rfl : u = Value.ref a := h1
      cases h2 with
      | @cons _ u2 _ us2 h3 h4 =>
        cases h4
        have e2 := hc.eq h3
        subst e2
        obtain ⟨hget, _⟩ := I.pin (a, oe) (List.mem_append.mpr (.inl List.mem_cons_self))
        obtain ⟨vs', hv⟩ := hf
        have ho' : ObjOk (Y.sui a oe pn).X.prog (Y.sui a oe pn).X.w H s.heap dd (.xd fs) := I.hok dd _ hx
        obtain ⟨mA, hns, _⟩ := ho'
        obtain ⟨od, ho, _⟩ := lookIn_ns hns
        have J : PySem.W.InstAt s.heap a oe C (some od) := ⟨hget, hz.1, by unfold PySem.W.notCls; rw [hv] <;> rfl, by rw [hz.2]; exact ho⟩
        exact PySem.W.kia_one (PySem.W.kitx_exc T.cl T.ga T.gt T.sb T.ha T.hn T.tk T.mo) I.kIn J hk (fun z => nomatch z) fun tk => ⟨.bl b, H, I.kept (t' := tk) fun _ _ z => z, rfl, q⟩
  · obtain ⟨v, x, rfl, h1, h2⟩ := iss_two r
    cases h1
    cases h2
    obtain ⟨_, u, hu, ob⟩ := w.mo _ _ em
    obtain ⟨fs, rfl, _⟩ := ob.xd
    exact ⟨rfl, ⟨fs, hu⟩, k _ _ _ _ _ w.refl (.bl b) q⟩
end JQ

set_option Elab.async false
set_option linter.all false
set_option maxRecDepth 100000
set_option maxHeartbeats 2000000
/-! A law's end, where its def keeps a promise on data. -/
namespace JQ
open PySem PySem.Spec PyProof.Rows L2
open Evl (Ex ex_l ex_t)
/-- what is wanted of a law: True, whatever the script -/
def SLaw : Sd := fun ds M P _ => ∃ ns : List Int, ds = [.scr (ns.map D.int)] ∧ ns.length ≤ 63 ∧ M = m0 ∧ ∀ M', P (.bl true) M'
section
variable {P : Program} {w : World} {K : PySem.W.Frag} {mg mb : Str → Option Value} {k : Nat} {fa a : Addr} {fd : FuncData} {x : Str} {sp : Sp} {s₁ : Shared} {vs : List Value} {ns : List Int}
/-- how a law must end -/
abbrev EndsTrue (s₁ : Shared) : Result → Shared → Prop := fun r s' => r = .ok (.ret (.bool true)) ∧ OldK s₁.heap s'.heap ∧ s'.os = s₁.os ∧ AllBare s'.gens
theorem ends_from (KX : K.In s₁.heap) (hns : s₁.heap.Ns mainGlobals mg) (hb : s₁.heap.Ns builtinsNs mb) (hbb : ∀ x : Str, x ≠ "__name__" → mb x = bootBuiltins x) (hlim : s₁.heap.NoLimit) (hgen : s₁.gens = #[])
    (ha : s₁.heap.get? a = some { cls := .type "list", data := .seq vs.toArray }) (hr : Room k callerA) (F : ∀ base : Heap, K.In base → base.Ns mainGlobals mg → FnG P w K mg base k fa fd [x] sp) (hbind : ∀ (s : Shared) (u : Value), BindsTo s fd ⟨[u], []⟩ [(x, u)])
    (H : Hp) (hO : Only H) (hsp : sp [.ref a] H (fun v _ => v = .bl true) fun _ _ _ => False) (hok : HOk P w H s₁.heap) (hA : ∀ b, H b ≠ none → b = a) (hK : H a ≠ none → K.lookup a = none) :
    codeAny (model P w) callerA (.call (.ref fa) ⟨[.ref a], []⟩) (EndsTrue s₁) s₁ := by
  have only : ∀ {b : Addr}, (∀ u, H b = some u → False) → H b = none := fun {b} z => by
    cases q : H b with
    | none => rfl
    | some u => exact (z u q).elim
  have inBase : ∀ {b : Addr} {o : Obj}, s₁.heap.get? b = some o → H b = none → (hidT s₁.heap H).get? b = some o := fun e n => hidT_get e n
  have noDict : ∀ {b : Addr} {o : Obj} {es : Array DictEntry} {ep : Nat}, s₁.heap.get? b = some o → o.data = .dict es ep → H b = none := fun {b o es ep} e d => only fun u q => by
    have eb : b = a := hA b (by rw [q]; simp)
    subst eb
    rw [ha] at e
    cases e
    have d' : Data.seq vs.toArray _ = Data.dict es ep := d
    cases d'
  have nsBase : ∀ {b : Addr} {m : Str → Option Value}, s₁.heap.Ns b m → (hidT s₁.heap H).Ns b m := fun {b m} ⟨o, es, ep, e, d, r⟩ => ⟨o, es, ep, inBase e (noDict e d), d, r⟩
  have KB : K.In (hidT s₁.heap H) := fun b o e => inBase (KX b o e) (only fun u q => by
    have eb : b = a := hA b (by rw [q]; simp)
    subst eb
    rw [hK (by rw [q]; simp)] at e
    cases e)
  obtain ⟨mc, c1, c2⟩ := hlim
  have md : Mod K mg (hidT s₁.heap H) := ⟨KB, nsBase hns, ⟨mb, nsBase hb, hbb⟩, ⟨mc, nsBase c1, c2⟩⟩
  have e0 : Env0 P w K mg (hidT s₁.heap H) callerA [] s₁ H := ⟨rfl, md, fun b o e => of_hidT e, Nat.le_of_eq (hidT_size _ _), trivial, fun b hb => absurd (show b ∈ ([] : List Addr) from hb) (by simp), hok, .of_eq hgen⟩
  have go := (F _ KB (nsBase hns)).run callerA [] s₁ H ⟨[.ref a], []⟩ [.ref a] [.ref a] _ _ rfl hr e0 (hbind s₁ (.ref a)) (.cons rfl .nil) hsp
  refine codeAny_mono go fun res s' h => ?_
  match res, h with
  | .error e, h =>
    obtain ⟨_, _, _, _, _, _, _, _, _, _, _, _, z⟩ := h
    exact z.elim
  | .ok .next, h => exact False.elim h
  | .ok .brk, h => exact False.elim h
  | .ok .cont, h => exact False.elim h
  | .ok (.ret u), ⟨v, H', os, bare, un, hok', r', q⟩ =>
    have ev : v = .bl true := q
    subst ev
    obtain rfl : u = Value.bool true := r'
    refine ⟨rfl, OldK.of_keep fun b o e => ?_, os, bare⟩
    rcases hO b with n | ⟨ob, xs, n⟩
    · exact un.keep b o e n (by intro z; exact absurd (show b ∈ ([] : List Addr) from z) (by simp)) (by simp)
    · obtain ⟨e1, _⟩ := hok b _ n
      obtain ⟨e2, _⟩ := hok' b _ (un.frzs b ob _ n)
      rw [e] at e1
      cases e1
      exact e2
theorem law_callG (KX : K.In s₁.heap) (hns : s₁.heap.Ns mainGlobals mg) (hb : s₁.heap.Ns builtinsNs mb) (hbb : ∀ x : Str, x ≠ "__name__" → mb x = bootBuiltins x) (hlim : s₁.heap.NoLimit) (hgen : s₁.gens = #[])
    (ha : s₁.heap.get? a = some { cls := .type "list", data := .seq vs.toArray }) (hi : IntsAre vs ns) (hl : ns.length ≤ 63) (hr : Room k callerA) (F : ∀ base : Heap, K.In base → base.Ns mainGlobals mg → FnG P w K mg base k fa fd [x] (spD K SLaw)) (hbind : ∀ (s : Shared) (u : Value), BindsTo s fd ⟨[u], []⟩ [(x, u)]) :
    codeAny (model P w) callerA (.call (.ref fa) ⟨[.ref a], []⟩) (EndsTrue s₁) s₁ := by
  have rv := vals_ints hi
  have lenV := hi.length
  have hz : ns.length ≤ sizeLine := Nat.le_trans hl (by decide)
  have wish : ∀ H : Hp, SqL K H a (ns.map V.int) → spD K SLaw [.ref a] H (fun v _ => v = .bl true) fun _ _ _ => False := fun H sq =>
    ⟨H, m0, [.scr (ns.map D.int)], fun d _ => d = .bl true, fun _ _ _ => False, ⟨Ex.refl _, fun b o e => nomatch e⟩, .cons (.scr sq iss_of_ints) .nil, ⟨ns, rfl, hl, rfl, fun _ => rfl⟩, fun v G' H' M' d t ri e => by
      subst e
      cases ri
      rfl, fun C gs fs d G' H' M' M2 ee => ee.elim⟩
  cases hk : K.lookup a with
  | some o =>
    have e := KX a o hk
    rw [ha] at e
    cases e
    exact ends_from KX hns hb hbb hlim hgen ha hr F hbind (fun _ => none) (fun _ => .inl rfl) (wish _ (.inr ⟨_, vs.toArray, _, hk, rfl, rfl, rfl, by rw [List.size_toArray, lenV]; exact hz, by simpa using rv⟩)) (fun b u z => nomatch z) (fun b z => absurd rfl z) fun z => absurd rfl z
  | none =>
    have at_ : (fun b => if b = a then some (HO.frz { cls := .type "list", data := .seq vs.toArray } (.lst (ns.map V.int))) else none) a = some (.frz { cls := .type "list", data := .seq vs.toArray } (.lst (ns.map V.int))) := if_pos rfl
    refine ends_from KX hns hb hbb hlim hgen ha hr F hbind (fun b => if b = a then some (.frz { cls := .type "list", data := .seq vs.toArray } (.lst (ns.map V.int))) else none) (fun b => ?_) (wish _ (.inl (.inr ⟨_, at_⟩))) (fun b u z => ?_) (fun b z => ?_) fun _ => hk
    · by_cases c : b = a
      · exact .inr ⟨_, _, if_pos c⟩
      · exact .inl (if_neg c)
    · by_cases c : b = a
      · have z' := (if_pos c).symm.trans z
        cases z'
        subst c
        exact ⟨ha, by rw [List.length_map]; exact hz, vs, _, rv, ha⟩
      · have z' := (if_neg c).symm.trans z
        cases z'
    · by_cases c : b = a
      · exact c
      · exact absurd (if_neg c) z
end
/-- the end: F gives the written part and the law's promise over every base -/
theorem walk_ofG {l : PySem.W.OpenLaw} {k : Nat} {q : Program} {loose : List Str} {XP : (Str → Option Value) → Heap → Prop} {YP : World → Heap → Prop} {d : DefRec} {x : Str} (hn : l.most = some 63) (hdf : d.params.defaults = []) (hr : Room k callerA)
    (F : ∀ (w : World) (mg : Str → Option Value) (fa : Addr) (h : Heap), YP w h → h.Ns mainGlobals mg → mg d.name = some (.ref fa) →
      ∃ (K : PySem.W.Frag) (fd : FuncData), K.In h ∧ (∀ (s : Shared) (u : Value), BindsTo s fd ⟨[u], []⟩ [(x, u)]) ∧ ∀ base : Heap, K.In base → base.Ns mainGlobals mg → FnG l.prog w K mg base k fa fd [x] (spD K SLaw)) :
    PySem.W.WalkO q loose XP YP l.row.toRowW d [] (fun f vs => PySem.call f vs) := by
  refine Att.attach_call hn hdf fun w s₀ s₁ mg mb fa o pm cd doc a vs ns G Y ho hd hcd hmg hobj hints hlen hg => ?_
  obtain ⟨K, fd, KX, hb, hF⟩ := F w mg fa _ Y G.T.g hmg
  exact law_callG KX G.T.g G.T.b G.T.builtins G.T.nolimit hg hobj hints hlen hr hF hb
/-! ### what a head's Bool tells of an own error -/
def oexM (C : Addr) (cd : ClassData) : List Value → List (Option Value) → Bool
  | .ref C' :: bm, [_, _, _, _, some (.builtin n), _] => decide (C' = C) && (decide (n = "ValueError.__new__") && (!cd.hasDel && (cd.hasDict && PySem.HandSPX.refsVE bm)))
  | _, _ => false
theorem oexM_ok {C : Addr} {cd : ClassData} : ∀ {m : List Value} {l : List (Option Value)}, oexM C cd m l = true → ∃ bm k0 k1 k2 k3 k5, m = .ref C :: bm ∧ l = [k0, k1, k2, k3, some (.builtin "ValueError.__new__"), k5] ∧ cd.hasDel = false ∧ cd.hasDict = true ∧ PySem.HandSPX.refsVE bm = true := by
  intro m l h
  unfold oexM at h
  split at h
  · rename_i C' bm k0 k1 k2 k3 n k5
    obtain ⟨e2, h3⟩ := Bool.and_eq_true_iff.mp h
    obtain ⟨e3, h4⟩ := Bool.and_eq_true_iff.mp h3
    obtain ⟨e4, h5⟩ := Bool.and_eq_true_iff.mp h4
    obtain ⟨e5, h6⟩ := Bool.and_eq_true_iff.mp h5
    exact ⟨bm, k0, k1, k2, k3, k5, by rw [of_decide_eq_true e2], by rw [of_decide_eq_true e3], by simpa using e4, e5, h6⟩
  · cases h
def oexC (C : Addr) : Option Obj → Bool
  | some ⟨ct, _, .cls cd, sl⟩ => decide (ct = .type "type") && oexM C cd cd.mro sl.toList
  | _ => false
def oexB (K : PySem.W.Frag) (C : Addr) : Bool := oexC C (K.lookup C) && (He.eqO (PySem.W.findIn K (.ref C) "__setattr__") (some (some (.builtin "object.__setattr__"))) && (decide (PySem.W.subIn K (.ref C) (.type "BaseException") = some true) && (decide (PySem.W.typeIn K (.ref C) = some (.type "type")) && PySem.W.keepIn K (.ref C))))
theorem oexB_ok {K : PySem.W.Frag} {C : Addr} (h : oexB K C = true) : OexC K C := by
  obtain ⟨h1, h⟩ := Bool.and_eq_true_iff.mp h
  obtain ⟨h2, h⟩ := Bool.and_eq_true_iff.mp h
  obtain ⟨h3, h⟩ := Bool.and_eq_true_iff.mp h
  obtain ⟨h4, h5⟩ := Bool.and_eq_true_iff.mp h
  refine ⟨?_, He.eqO_ok h2, of_decide_eq_true h3, of_decide_eq_true h4, h5⟩
  cases lk : K.lookup C with
  | none => rw [lk] at h1; cases h1
  | some o =>
    rw [lk] at h1
    obtain ⟨ct, dd, dt, sl⟩ := o
    cases dt with
    | cls cd =>
      obtain ⟨e1, h7⟩ := Bool.and_eq_true_iff.mp (show (decide (ct = .type "type") && oexM C cd cd.mro sl.toList) = true from h1)
      have e8 := of_decide_eq_true e1
      subst e8
      obtain ⟨bm, k0, k1, k2, k3, k5, em, el, ed, eh, h9⟩ := oexM_ok h7
      obtain ⟨nm, bs, mro, ns, qn, hd, sn, sub, ab, col, del⟩ := cd
      obtain ⟨l⟩ := sl
      dsimp only at em el ed eh
      subst em el ed eh
      exact ⟨_, _, _, _, _, _, _, _, _, _, _, _, _, _, _, rfl, h9⟩
    | _ => cases h1
/-- the keywords of a def without defaults -/
theorem bndD {K : PySem.W.Frag} {x qual : Str} {params : Arguments} {body : List Stmt} {scope : Scope} {kws : List (Str × V)} {f : Addr} {fd : FuncData} {ps : List Str} (F : FunD K x qual params body scope [] kws f fd) (n : Nat) (ks : List Str)
    (h : ∀ (kV doc pm : Value) (an : Option Addr) (cdv ct : Value) (us ws : List Value), us.length = n → ws.length = ks.length → bindArgs (PySem.W.fnOf x qual params body scope .none kV doc pm an cdv ct) ⟨us, ks.zip ws⟩ = pure (ps.zip (us ++ ws))) : Bnd K fd ps n ks (· ++ ·) := by
  obtain ⟨oc, od, dV, kV, doc, pm, an, cdv, ct, osl, rfl, lk, hcd, hD, hK⟩ := F.ex
  rcases hD with ⟨_, rfl⟩ | ⟨e, _⟩
  · exact bnd_all (h kV doc pm an cdv ct)
  · exact absurd rfl e
end JQ

set_option Elab.async false
set_option linter.all false
set_option maxRecDepth 100000
set_option maxHeartbeats 2000000
/-! Short words: defs, methods and classes that keep promises, and their calls. -/
namespace JQ
open PySem PySem.Spec PyProof.Rows L2
open Evl (Ex ex_l ex_t)
section
variable (P : Program) (w : World) (K : PySem.W.Frag) (mg : Str → Option Value) (base : Heap)
/-- the def x, called with n values and the keywords ks, keeps S -/
def KF (k : Nat) (x : Str) (n : Nat) (ks : List Str) (S : Sd) : Prop := ∃ f fd ps, FnG P w K mg base k f fd ps (spD K S) ∧ Bnd K fd ps n ks (· ++ ·) ∧ mg x = some (.ref f) ∧ PySem.W.keepIn K (.ref f) = true
/-- the method m of the class C -/
def KM (k : Nat) (C : Addr) (m : Str) (n : Nat) (ks : List Str) (S : Sd) : Prop := ∃ f fd ps, FnG P w K mg base k f fd ps (spD K S) ∧ Bnd K fd ps (n + 1) ks (· ++ ·) ∧ Cls K C ∧ Meth K C m f
/-- the class x, made -/
def KC (k : Nat) (x : Str) (C : Addr) (n : Nat) (ks : List Str) (S : Sd) : Prop := ∃ f fd ps, FnG P w K mg base k f fd ps (spD K S) ∧ Bnd K fd ps (n + 1) ks (· ++ ·) ∧ Mk K C f ∧ mg x = some (.ref C)
end
section
variable {P : Program} {w : World} {K : PySem.W.Frag} {mg : Str → Option Value} {base : Heap}
theorem KF.up {j k n : Nat} {x : Str} {ks : List Str} {S : Sd} (h : KF P w K mg base j x n ks S) (q : j ≤ k) : KF P w K mg base k x n ks S := by
  obtain ⟨f, fd, ps, F, r⟩ := h
  exact ⟨f, fd, ps, F.up q, r⟩
theorem KM.up {j k n : Nat} {C : Addr} {m : Str} {ks : List Str} {S : Sd} (h : KM P w K mg base j C m n ks S) (q : j ≤ k) : KM P w K mg base k C m n ks S := by
  obtain ⟨f, fd, ps, F, r⟩ := h
  exact ⟨f, fd, ps, F.up q, r⟩
theorem KC.up {j k n : Nat} {x : Str} {C : Addr} {ks : List Str} {S : Sd} (h : KC P w K mg base j x C n ks S) (q : j ≤ k) : KC P w K mg base k x C n ks S := by
  obtain ⟨f, fd, ps, F, r⟩ := h
  exact ⟨f, fd, ps, F.up q, r⟩
end
section
variable {Y : Bd} {ss : List S} {M : Mm} {P : D → Mm → Prop} {k n : Nat} {x m : Str} {C : Addr} {S : Sd} {ks : List Str} {e o : Expr} {es : List Expr} {kws : List Keyword} {pos p apos : Pos}
/-- f(e, ..) -/
theorem we_fn (F : KF Y.X.prog Y.X.w Y.X.K Y.X.mg Y.X.base k x n [] S) (hg : Y.X.A.guards = some []) (hr : Room k Y.X.A) (h : WA Y (e :: es) ss M fun ds M => S ds M P fun C gs M' => Y.EE C gs M' ss) (hn : n = (e :: es).length)
    (gl : Gl Y.X x := by rfl) (hdb : (x == ("__debug__" : Str)) = false := by decide) (he : starEach (e :: es) Y.X.env = (false, eval e Y.X.env) :: starEach es Y.X.env := by rfl) (hpl : (backTo pos (starEach es Y.X.env)).any (·.1) = false := by rfl) (hlen : ∀ ds M P EE, S ds M P EE → ds.length = n) : WE Y (.Call (.Name x p) (e :: es) [] pos) ss M P := by
  obtain ⟨f, fd, ps, G, b, hm, hk⟩ := F
  refine we_call hm hk ?_ gl hdb he hpl
  exact .mk fun B σ G0 H Q so kq => h B σ G0 H Q so fun vs G' H' M' ds t r q => kq vs G' H' M' ds t r (cal_fn G hg hr b (by rw [List.append_nil]; exact q) (hlen _ _ _ _ q) rfl)
theorem we_fn0 (F : KF Y.X.prog Y.X.w Y.X.K Y.X.mg Y.X.base k x 0 [] S) (hg : Y.X.A.guards = some []) (hr : Room k Y.X.A) (h : S [] M P fun C gs M' => Y.EE C gs M' ss) (gl : Gl Y.X x := by rfl) (hdb : (x == ("__debug__" : Str)) = false := by decide) : WE Y (.Call (.Name x p) [] [] pos) ss M P := by
  obtain ⟨f, fd, ps, G, b, hm, hk⟩ := F
  exact we_call0 hm hk (cal_fn G hg hr b h rfl rfl) gl hdb
/-- C(e, ..), C(k = v, ..) -/
theorem we_mk (F : KC Y.X.prog Y.X.w Y.X.K Y.X.mg Y.X.base k x C n [] S) (hg : Y.X.A.guards = some []) (hr : Room (k + 1) Y.X.A) (h : WA Y (e :: es) ss M fun ds M => ds.length = n ∧ ∀ a, M a = none → S (.rf a :: ds) (mup M a (.ins C [])) (fun v M' => v = .non ∧ P (.rf a) M') fun C gs M' => Y.EE C gs M' ss)
    (gl : Gl Y.X x := by rfl) (hdb : (x == ("__debug__" : Str)) = false := by decide) (he : starEach (e :: es) Y.X.env = (false, eval e Y.X.env) :: starEach es Y.X.env := by rfl) (hpl : (backTo pos (starEach es Y.X.env)).any (·.1) = false := by rfl) : WE Y (.Call (.Name x p) (e :: es) [] pos) ss M P := by
  obtain ⟨f, fd, ps, G, b, mk, hm⟩ := F
  refine we_call hm mk.kp ?_ gl hdb he hpl
  exact .mk fun B σ G0 H Q so kq => h B σ G0 H Q so fun vs G' H' M' ds t r ⟨hl, q⟩ => kq vs G' H' M' ds t r (cal_mk mk G hg hr b (fun a ha => by rw [List.append_nil]; exact q a ha) (by rw [hl]) rfl)
theorem we_mkK (F : KC Y.X.prog Y.X.w Y.X.K Y.X.mg Y.X.base k x C 0 ks S) (hg : Y.X.A.guards = some []) (hr : Room (k + 1) Y.X.A) (h : WK Y kws ss M fun zs M => zs.length = ks.length ∧ ∀ a, M a = none → S (.rf a :: zs) (mup M a (.ins C [])) (fun v M' => v = .non ∧ P (.rf a) M') fun C gs M' => Y.EE C gs M' ss)
    (gl : Gl Y.X x := by rfl) (hall : (backToKw pos (keywordEach kws Y.X.env)).all (·.1.isSome) = true := by rfl) (hks : (backToKw pos (keywordEach kws Y.X.env)).filterMap (·.1) = ks := by rfl) (hdb : (x == ("__debug__" : Str)) = false := by decide)
    (hpl : ((backTo pos (starEach [] Y.X.env)).any (·.1) || (backToKw pos (keywordEach kws Y.X.env)).any (·.1.isNone)) = false := by rfl) : WE Y (.Call (.Name x p) [] kws pos) ss M P := by
  obtain ⟨f, fd, ps, G, b, mk, hm⟩ := F
  refine we_callK0 (ks := ks) hm mk.kp ?_ gl hall hks hdb hpl
  exact .mk fun B σ G0 H Q so kq => h B σ G0 H Q so fun vs G' H' M' ds t r ⟨hl, q⟩ => kq vs G' H' M' ds t r (cal_mk mk G hg hr b (fun a ha => q a ha) rfl hl)
/-- o.m(e, ..), o.m(), o.m(k = v, ..) -/
theorem we_me {pl : Sem Bool} (F : KM Y.X.prog Y.X.w Y.X.K Y.X.mg Y.X.base k C m n [] S) (hg : Y.X.A.guards = some []) (hr : Room k Y.X.A) (h : WE Y o ss M fun d M => ∃ fs, OAt M d C fs ∧ fs.lookup m = none ∧ WA Y (e :: es) ss M fun ds M => ds.length = n ∧ S (d :: ds) M P fun C gs M' => Y.EE C gs M' ss)
    (hst : starEach (e :: es) Y.X.env = (false, eval e Y.X.env) :: starEach es Y.X.env := by rfl) (hpl : (backTo pos (starEach es Y.X.env)).any (·.1) = false := by rfl) (ht : MethTerm o m (e :: es) [] apos pos Y.X.env pl := by rfl) : WE Y (.Call (.Attribute o m apos) (e :: es) [] pos) ss M P := by
  obtain ⟨f, fd, ps, G, b, cl, mt⟩ := F
  refine we_meth (f := f) mt.kp (h.mono fun d M ⟨fs, oa, lk, q⟩ => ⟨⟨C, fs, oa, cl, mt, lk⟩, ?_⟩) hst hpl ht
  exact .mk fun B σ G0 H Q so kq => q B σ G0 H Q so fun vs G' H' M' ds t r ⟨hl, q⟩ => kq vs G' H' M' ds t r (cal_fn G hg hr b (by rw [List.append_nil]; exact q) (by rw [List.length_cons, hl]) rfl)
theorem we_me0 {pl : Sem Bool} (F : KM Y.X.prog Y.X.w Y.X.K Y.X.mg Y.X.base k C m 0 [] S) (hg : Y.X.A.guards = some []) (hr : Room k Y.X.A) (h : WE Y o ss M fun d M => ∃ fs, OAt M d C fs ∧ fs.lookup m = none ∧ S [d] M P fun C gs M' => Y.EE C gs M' ss) (ht : MethTerm o m [] [] apos pos Y.X.env pl := by rfl) : WE Y (.Call (.Attribute o m apos) [] [] pos) ss M P := by
  obtain ⟨f, fd, ps, G, b, cl, mt⟩ := F
  exact we_meth0 (f := f) mt.kp (h.mono fun d M ⟨fs, oa, lk, q⟩ => ⟨⟨C, fs, oa, cl, mt, lk⟩, cal_fn G hg hr b q rfl rfl⟩) ht
theorem we_meK {pl : Sem Bool} (F : KM Y.X.prog Y.X.w Y.X.K Y.X.mg Y.X.base k C m 0 ks S) (hg : Y.X.A.guards = some []) (hr : Room k Y.X.A) (h : WE Y o ss M fun d M => ∃ fs, OAt M d C fs ∧ fs.lookup m = none ∧ WK Y kws ss M fun zs M => zs.length = ks.length ∧ S (d :: zs) M P fun C gs M' => Y.EE C gs M' ss)
    (hall : (backToKw pos (keywordEach kws Y.X.env)).all (·.1.isSome) = true := by rfl) (hks : (backToKw pos (keywordEach kws Y.X.env)).filterMap (·.1) = ks := by rfl)
    (hpl : ((backTo pos (starEach [] Y.X.env)).any (·.1) || (backToKw pos (keywordEach kws Y.X.env)).any (·.1.isNone)) = false := by rfl) (ht : MethTerm o m [] kws apos pos Y.X.env pl := by rfl) : WE Y (.Call (.Attribute o m apos) [] kws pos) ss M P := by
  obtain ⟨f, fd, ps, G, b, cl, mt⟩ := F
  refine we_methK0 (f := f) (ks := ks) mt.kp (h.mono fun d M ⟨fs, oa, lk, q⟩ => ⟨⟨C, fs, oa, cl, mt, lk⟩, ?_⟩) hall hks hpl ht
  exact .mk fun B σ G0 H Q so kq => q B σ G0 H Q so fun vs G' H' M' ds t r ⟨hl, q⟩ => kq vs G' H' M' ds t r (cal_fn G hg hr b q rfl hl)
end
/-! ### a class of a built-in kind, isinstance of it -/
def known : D → Bool
  | .obj _ _ => false
  | .adr _ => false
  | .scr _ => false
  | _ => true
def tyN : D → String
  | .non => "NoneType"
  | .bl _ => "bool"
  | .int _ => "int"
  | .str _ => "str"
  | .tup _ => "tuple"
  | .lst _ => "list"
  | _ => "object"
theorem known_ty {K : PySem.W.Frag} {d : D} (h : known d = true) : TyD K d (.type (tyN d)) := by
  cases d <;> first | rfl | cases h
/-- int but no bool; bool; int or bool -/
def isInt : D → Bool
  | .int _ => true
  | _ => false
def isBl : D → Bool
  | .bl _ => true
  | _ => false
def isIB (d : D) : Bool := isInt d || isBl d
def isStr : D → Bool
  | .str _ => true
  | _ => false
def isTup : D → Bool
  | .tup _ => true
  | _ => false
def isLst : D → Bool
  | .lst _ => true
  | _ => false
section
variable {K : PySem.W.Frag} {d : D}
theorem kit_int (h : known d = true) : PySem.W.kitOne K (.type (tyN d)) (.type "int") = some (isIB d) := by
  cases d with
  | non => exact kit_ty (a := "NoneType") (b := "int") (r := false) (by decide +kernel)
  | bl b => exact kit_ty (a := "bool") (b := "int") (r := true) (by decide +kernel)
  | int i => exact kit_ty (a := "int") (b := "int") (r := true) (by decide +kernel)
  | str x => exact kit_ty (a := "str") (b := "int") (r := false) (by decide +kernel)
  | tup ds => exact kit_ty (a := "tuple") (b := "int") (r := false) (by decide +kernel)
  | lst ds => exact kit_ty (a := "list") (b := "int") (r := false) (by decide +kernel)
  | _ => cases h
theorem kit_bool (h : known d = true) : PySem.W.kitOne K (.type (tyN d)) (.type "bool") = some (isBl d) := by
  cases d with
  | non => exact kit_ty (a := "NoneType") (b := "bool") (r := false) (by decide +kernel)
  | bl b => exact kit_ty (a := "bool") (b := "bool") (r := true) (by decide +kernel)
  | int i => exact kit_ty (a := "int") (b := "bool") (r := false) (by decide +kernel)
  | str x => exact kit_ty (a := "str") (b := "bool") (r := false) (by decide +kernel)
  | tup ds => exact kit_ty (a := "tuple") (b := "bool") (r := false) (by decide +kernel)
  | lst ds => exact kit_ty (a := "list") (b := "bool") (r := false) (by decide +kernel)
  | _ => cases h
theorem kit_str (h : known d = true) : PySem.W.kitOne K (.type (tyN d)) (.type "str") = some (isStr d) := by
  cases d with
  | non => exact kit_ty (a := "NoneType") (b := "str") (r := false) (by decide +kernel)
  | bl b => exact kit_ty (a := "bool") (b := "str") (r := false) (by decide +kernel)
  | int i => exact kit_ty (a := "int") (b := "str") (r := false) (by decide +kernel)
  | str x => exact kit_ty (a := "str") (b := "str") (r := true) (by decide +kernel)
  | tup ds => exact kit_ty (a := "tuple") (b := "str") (r := false) (by decide +kernel)
  | lst ds => exact kit_ty (a := "list") (b := "str") (r := false) (by decide +kernel)
  | _ => cases h
theorem kit_tuple (h : known d = true) : PySem.W.kitOne K (.type (tyN d)) (.type "tuple") = some (isTup d) := by
  cases d with
  | non => exact kit_ty (a := "NoneType") (b := "tuple") (r := false) (by decide +kernel)
  | bl b => exact kit_ty (a := "bool") (b := "tuple") (r := false) (by decide +kernel)
  | int i => exact kit_ty (a := "int") (b := "tuple") (r := false) (by decide +kernel)
  | str x => exact kit_ty (a := "str") (b := "tuple") (r := false) (by decide +kernel)
  | tup ds => exact kit_ty (a := "tuple") (b := "tuple") (r := true) (by decide +kernel)
  | lst ds => exact kit_ty (a := "list") (b := "tuple") (r := false) (by decide +kernel)
  | _ => cases h
theorem kit_list (h : known d = true) : PySem.W.kitOne K (.type (tyN d)) (.type "list") = some (isLst d) := by
  cases d with
  | non => exact kit_ty (a := "NoneType") (b := "list") (r := false) (by decide +kernel)
  | bl b => exact kit_ty (a := "bool") (b := "list") (r := false) (by decide +kernel)
  | int i => exact kit_ty (a := "int") (b := "list") (r := false) (by decide +kernel)
  | str x => exact kit_ty (a := "str") (b := "list") (r := false) (by decide +kernel)
  | tup ds => exact kit_ty (a := "tuple") (b := "list") (r := false) (by decide +kernel)
  | lst ds => exact kit_ty (a := "list") (b := "list") (r := true) (by decide +kernel)
  | _ => cases h
end
end JQ

set_option Elab.async false
set_option linter.all false
set_option maxRecDepth 100000
set_option maxHeartbeats 2000000
/-! repr of tuples and lists of plain data. -/
namespace JQ
open PySem PySem.Spec PyProof.Rows L2
mutual
/-- ints below 1920 bits -/
def intsOk : D → Bool
  | .int i => decide (i.natAbs.log2 < 1920)
  | .tup ds => intsOks ds
  | .lst ds => intsOks ds
  | _ => true
def intsOks : List D → Bool
  | [] => true
  | d :: ds => intsOk d && intsOks ds
end
mutual
/-- signs at most -/
def rsz : D → Nat
  | .int _ => 1921
  | .str x => (reprText x).length
  | .tup ds => rszs ds + 3
  | .lst ds => rszs ds + 3
  | _ => 5
def rszs : List D → Nat
  | [] => 0
  | d :: ds => rsz d + 2 + rszs ds
end
mutual
def depD : D → Nat
  | .tup ds => depDs ds + 1
  | .lst ds => depDs ds + 1
  | _ => 0
def depDs : List D → Nat
  | [] => 0
  | d :: ds => max (depD d) (depDs ds)
end
mutual
theorem showable_of : ∀ d : D, plainD d = true → intsOk d = true → (pyD d).showable = true
  | .non, _, _ => by simp only [pyD, PyData.showable]
  | .bl _, _, _ => by simp only [pyD, PyData.showable]
  | .int i, _, h => by simpa only [pyD, PyData.showable, intsOk] using h
  | .str _, _, _ => by simp only [pyD, PyData.showable]
  | .tup ds, p, h => by simpa only [pyD, PyData.showable] using showables_of ds (by simpa only [plainD] using p) (by simpa only [intsOk] using h)
  | .lst ds, p, h => by simpa only [pyD, PyData.showable] using showables_of ds (by simpa only [plainD] using p) (by simpa only [intsOk] using h)
  | .obj _ _, p, _ => by simp [plainD] at p
  | .adr _, p, _ => by simp [plainD] at p
  | .scr _, p, _ => by simp [plainD] at p
theorem showables_of : ∀ ds : List D, plainDs ds = true → intsOks ds = true → PyData.showableAll (pyDs ds) = true
  | [], _, _ => by simp only [pyDs, PyData.showableAll]
  | d :: ds, p, h => by
    simp only [plainDs, Bool.and_eq_true] at p
    simp only [intsOks, Bool.and_eq_true] at h
    simp only [pyDs, PyData.showableAll, Bool.and_eq_true]
    exact ⟨showable_of d p.1 h.1, showables_of ds p.2 h.2⟩
end
mutual
theorem noDict_of : ∀ d : D, plainD d = true → (pyD d).hasDict = false
  | .non, _ => by simp only [pyD, PyData.hasDict]
  | .bl _, _ => by simp only [pyD, PyData.hasDict]
  | .int i, _ => by simp only [pyD, PyData.hasDict]
  | .str _, _ => by simp only [pyD, PyData.hasDict]
  | .tup ds, p => by simpa only [pyD, PyData.hasDict] using noDicts_of ds (by simpa only [plainD] using p)
  | .lst ds, p => by simpa only [pyD, PyData.hasDict] using noDicts_of ds (by simpa only [plainD] using p)
  | .obj _ _, p => by simp [plainD] at p
  | .adr _, p => by simp [plainD] at p
  | .scr _, p => by simp [plainD] at p
theorem noDicts_of : ∀ ds : List D, plainDs ds = true → PyData.hasDictAll (pyDs ds) = false
  | [], _ => by simp only [pyDs, PyData.hasDictAll]
  | d :: ds, p => by
    simp only [plainDs, Bool.and_eq_true] at p
    simp only [pyDs, PyData.hasDictAll, Bool.or_eq_false_iff]
    exact ⟨noDict_of d p.1, noDicts_of ds p.2⟩
end
mutual
theorem depth_of : ∀ d : D, (pyD d).depth ≤ depD d
  | .non => by simp only [pyD, PyData.depth, Nat.zero_le]
  | .bl _ => by simp only [pyD, PyData.depth, Nat.zero_le]
  | .int i => by simp only [pyD, PyData.depth, Nat.zero_le]
  | .str _ => by simp only [pyD, PyData.depth, Nat.zero_le]
  | .tup ds => by simpa only [pyD, PyData.depth, depD] using Nat.succ_le_succ (depths_of ds)
  | .lst ds => by simpa only [pyD, PyData.depth, depD] using Nat.succ_le_succ (depths_of ds)
  | .obj _ _ => by simp only [pyD, PyData.depth, Nat.zero_le]
  | .adr _ => by simp only [pyD, PyData.depth, Nat.zero_le]
  | .scr _ => by simp only [pyD, PyData.depth, Nat.zero_le]
theorem depths_of : ∀ ds : List D, PyData.depthAll (pyDs ds) ≤ depDs ds
  | [] => by simp only [pyDs, PyData.depthAll, Nat.zero_le]
  | d :: ds => by
    simp only [pyDs, PyData.depthAll, depDs]
    have h1 := depth_of d
    have h2 := depths_of ds
    omega
end
theorem piled_sum (ts : List Str) : piled ts = (ts.map (·.length)).sum + 2 * ts.length := by
  induction ts with
  | nil => rfl
  | cons t ts ih =>
    rw [piled_cons, ih, List.map_cons, List.sum_cons, List.length_cons]
    omega
theorem tupleText_le (ts : List Str) : (tupleText ts).length ≤ piled ts + 3 := by
  unfold tupleText
  rw [strLen_append, strLen_append]
  have e1 : ((("(" : String) : Str)).length = 1 := rfl
  have e3 : (((if ts.length == 1 then ",)" else ")" : String) : Str)).length ≤ 2 := by split <;> decide
  rw [e1]
  by_cases h : ts = []
  · subst h
    have e4 : (Str.join ", " ([] : List Str)).length = 0 := rfl
    rw [e4]
    omega
  · have := join_length_add ts h
    omega
mutual
theorem shown_le : ∀ d : D, plainD d = true → intsOk d = true → (pyD d).shown.length ≤ rsz d
  | .non, _, _ => by
    have e : (pyD .non).shown = ("None" : String) := by simp only [pyD, PyData.shown]
    rw [e]
    decide
  | .bl b, _, _ => by
    cases b
    · have e : (pyD (.bl false)).shown = ("False" : String) := by simp [pyD, PyData.shown]
      rw [e]
      decide
    · have e : (pyD (.bl true)).shown = ("True" : String) := by simp [pyD, PyData.shown]
      rw [e]
      decide
  | .int i, _, h => by
    have e : (pyD (.int i)).shown = (PySem.Str.ofString (toString i)) := by simp only [pyD, PyData.shown]
    rw [e]
    exact int_text_len_1921 (by simpa only [intsOk, decide_eq_true_eq] using h)
  | .str x, _, _ => by
    have e : (pyD (.str x)).shown = reprText x := by simp only [pyD, PyData.shown]
    rw [e]
    exact Nat.le_refl _
  | .tup ds, p, h => by
    have e : (pyD (.tup ds)).shown = tupleText (PyData.shownAll (pyDs ds)) := by simp only [pyD, PyData.shown]
    rw [e]
    have h1 := tupleText_le (PyData.shownAll (pyDs ds))
    have h2 := showns_le ds (by simpa only [plainD] using p) (by simpa only [intsOk] using h)
    simp only [rsz]
    omega
  | .lst ds, p, h => by
    have e : (pyD (.lst ds)).shown = listText (PyData.shownAll (pyDs ds)) := by simp only [pyD, PyData.shown]
    rw [e]
    have h1 := listText_len_le (PyData.shownAll (pyDs ds))
    have h2 := showns_le ds (by simpa only [plainD] using p) (by simpa only [intsOk] using h)
    rw [piled_sum] at h2
    simp only [rsz]
    omega
  | .obj _ _, p, _ => by simp [plainD] at p
  | .adr _, p, _ => by simp [plainD] at p
  | .scr _, p, _ => by simp [plainD] at p
theorem showns_le : ∀ ds : List D, plainDs ds = true → intsOks ds = true → piled (PyData.shownAll (pyDs ds)) ≤ rszs ds
  | [], _, _ => by simp only [pyDs, PyData.shownAll, piled_nil, Nat.zero_le]
  | d :: ds, p, h => by
    simp only [plainDs, Bool.and_eq_true] at p
    simp only [intsOks, Bool.and_eq_true] at h
    simp only [pyDs, PyData.shownAll, piled_cons, rszs]
    have h1 := shown_le d p.1 h.1
    have h2 := showns_le ds p.2 h.2
    omega
end
/-- the text of plain data -/
def txt (d : D) : Str := (pyD d).shown
section
variable {Y : Bd} {M : Mm} {P : D → Mm → Prop} {k : Nat}
theorem c_rep {d : D} (hg : Y.X.A.guards = some []) (hr : Room k Y.X.A) (hk : (∃ ds, d = .tup ds) ∨ ∃ ds, d = .lst ds) (hp : plainD d = true) (hi : intsOk d = true) (hz : rsz d ≤ 16777216) (hd : depD d ≤ 100) (q : P (.str (txt d)) M) : OpC Y (.builtin "repr") [d] M P :=
  c_repr hg hp hk (showable_of d hp hi) (noDict_of d hp) (by
    have h1 := depth_of d
    have h2 := hr.un
    omega) (by rw [sizeLine_eq]; exact Nat.le_trans (shown_le d hp hi) hz) q
end
end JQ

set_option Elab.async false
set_option linter.all false
set_option maxRecDepth 100000
set_option maxHeartbeats 0
namespace K60
open PySem PySem.Spec PyProof.Rows L2 JQ
def top (i : Nat) : Stmt := PySem.Challenge.pw_jumblepost_k60_stores.main.body.getD i (.Pass ⟨0, 0, 0, 0⟩)
abbrev s_PostError_init : Stmt := inClass (top 1) 0
abbrev s_BadValue_init : Stmt := inClass (top 2) 0
abbrev s_Unfit_init : Stmt := inClass (top 3) 0
abbrev s_is_integer : Stmt := top 6
abbrev s_is_between : Stmt := top 7
abbrev s_is_number : Stmt := top 8
abbrev s_Store_init : Stmt := inClass (top 11) 0
abbrev s_Store_len : Stmt := inClass (top 11) 1
abbrev s_Store_put : Stmt := inClass (top 11) 2
abbrev s_l_pen : Stmt := top 13
abbrev s_l_draw : Stmt := top 14
abbrev s_l_pick : Stmt := top 15
abbrev s_l_order : Stmt := top 16
abbrev s_l_put : Stmt := top 17
abbrev s_l_shown : Stmt := top 18
abbrev s_l_steps_right : Stmt := top 19
abbrev s_l_run_right : Stmt := top 20
abbrev s_l_made_right : Stmt := top 21
abbrev s_law : Stmt := top 22
def d_PostError_init : He.DefD := ⟨("PostError", some "__init__"), "__init__", "PostError.__init__", defArgs s_PostError_init, defBody s_PostError_init, defScope s_PostError_init, [], []⟩
def d_BadValue_init : He.DefD := ⟨("BadValue", some "__init__"), "__init__", "BadValue.__init__", defArgs s_BadValue_init, defBody s_BadValue_init, defScope s_BadValue_init, [], []⟩
def d_Unfit_init : He.DefD := ⟨("Unfit", some "__init__"), "__init__", "Unfit.__init__", defArgs s_Unfit_init, defBody s_Unfit_init, defScope s_Unfit_init, [], []⟩
def d_is_integer : He.DefD := ⟨("is_integer", none), "is_integer", "is_integer", defArgs s_is_integer, defBody s_is_integer, defScope s_is_integer, [], []⟩
def d_is_between : He.DefD := ⟨("is_between", none), "is_between", "is_between", defArgs s_is_between, defBody s_is_between, defScope s_is_between, [], []⟩
def d_is_number : He.DefD := ⟨("is_number", none), "is_number", "is_number", defArgs s_is_number, defBody s_is_number, defScope s_is_number, [], []⟩
def d_Store_init : He.DefD := ⟨("Store", some "__init__"), "__init__", "Store.__init__", defArgs s_Store_init, defBody s_Store_init, defScope s_Store_init, [], []⟩
def d_Store_len : He.DefD := ⟨("Store", some "__len__"), "__len__", "Store.__len__", defArgs s_Store_len, defBody s_Store_len, defScope s_Store_len, [], []⟩
def d_Store_put : He.DefD := ⟨("Store", some "put"), "put", "Store.put", defArgs s_Store_put, defBody s_Store_put, defScope s_Store_put, [], []⟩
def d_l_pen : He.DefD := ⟨("_law_pen", none), "_law_pen", "_law_pen", defArgs s_l_pen, defBody s_l_pen, defScope s_l_pen, [], []⟩
def d_l_draw : He.DefD := ⟨("_law_draw", none), "_law_draw", "_law_draw", defArgs s_l_draw, defBody s_l_draw, defScope s_l_draw, [], []⟩
def d_l_pick : He.DefD := ⟨("_law_pick", none), "_law_pick", "_law_pick", defArgs s_l_pick, defBody s_l_pick, defScope s_l_pick, [], []⟩
def d_l_order : He.DefD := ⟨("_law_order", none), "_law_order", "_law_order", defArgs s_l_order, defBody s_l_order, defScope s_l_order, [], []⟩
def d_l_put : He.DefD := ⟨("_law_put", none), "_law_put", "_law_put", defArgs s_l_put, defBody s_l_put, defScope s_l_put, [], []⟩
def d_l_shown : He.DefD := ⟨("_law_shown", none), "_law_shown", "_law_shown", defArgs s_l_shown, defBody s_l_shown, defScope s_l_shown, [], []⟩
def d_l_steps_right : He.DefD := ⟨("_law_steps_right", none), "_law_steps_right", "_law_steps_right", defArgs s_l_steps_right, defBody s_l_steps_right, defScope s_l_steps_right, [], []⟩
def d_l_run_right : He.DefD := ⟨("_law_run_right", none), "_law_run_right", "_law_run_right", defArgs s_l_run_right, defBody s_l_run_right, defScope s_l_run_right, [], []⟩
def d_l_made_right : He.DefD := ⟨("_law_made_right", none), "_law_made_right", "_law_made_right", defArgs s_l_made_right, defBody s_l_made_right, defScope s_l_made_right, [], []⟩
def d_law : He.DefD := ⟨("law", none), "law", "law", defArgs s_law, defBody s_law, defScope s_law, [], []⟩
def fn : List He.DefD := [d_PostError_init, d_BadValue_init, d_Unfit_init, d_is_integer, d_is_between, d_is_number, d_Store_init, d_Store_len, d_Store_put, d_l_pen, d_l_draw, d_l_pick, d_l_order, d_l_put, d_l_shown, d_l_steps_right, d_l_run_right, d_l_made_right, d_law]
def fa : List He.Fa := [.glo "PostError",
  .glo "BadValue",
  .glo "Unfit",
  .glo "is_integer",
  .glo "is_between",
  .glo "is_number",
  .glo "Store",
  .glo "_law_pen",
  .glo "_law_draw",
  .glo "_law_pick",
  .glo "_law_order",
  .glo "_law_put",
  .glo "_law_shown",
  .glo "_law_steps_right",
  .glo "_law_run_right",
  .glo "_law_made_right",
  .glo "law",
  .free "ValueError",
  .free "abs",
  .free "bool",
  .free "enumerate",
  .free "int",
  .free "isinstance",
  .free "len",
  .free "list",
  .free "range",
  .free "repr",
  .free "sorted",
  .free "tuple",
  .int "MOST_NUMBER" (999999999999999999999999999999999999999999999999999999999999),
  .int "MOST_LATE" (20),
  .cls "Store",
  .noat "Store" "late",
  .noat "Store" "held",
  .noat "Store" "last",
  .noat "Store" "places",
  .mkr "Store",
  .meth "Store" "__len__",
  .meth "Store" "put"]
def mores (K : PySem.W.Frag) : List Bool := [oexB K (He.ga K "PostError"),
  xfB K (He.ga K "PostError"),
  (He.eqO (PySem.W.findIn K (.ref (He.ga K "PostError")) "__init__") (some (some (.ref (He.ma K (He.ga K "PostError") "__init__"))))),
  (decide (PySem.W.typeIn K (.ref (He.ma K (He.ga K "PostError") "__init__")) = some (.type "function"))),
  oexB K (He.ga K "BadValue"),
  xfB K (He.ga K "BadValue"),
  (He.eqO (PySem.W.findIn K (.ref (He.ga K "BadValue")) "__init__") (some (some (.ref (He.ma K (He.ga K "BadValue") "__init__"))))),
  (decide (PySem.W.typeIn K (.ref (He.ma K (He.ga K "BadValue") "__init__")) = some (.type "function"))),
  (He.eqO (PySem.W.findIn K (.ref (He.ga K "BadValue")) "what") (some none)),
  oexB K (He.ga K "Unfit"),
  xfB K (He.ga K "Unfit"),
  (He.eqO (PySem.W.findIn K (.ref (He.ga K "Unfit")) "__init__") (some (some (.ref (He.ma K (He.ga K "Unfit") "__init__"))))),
  (decide (PySem.W.typeIn K (.ref (He.ma K (He.ga K "Unfit") "__init__")) = some (.type "function"))),
  (He.eqO (PySem.W.findIn K (.ref (He.ga K "Unfit")) "place") (some none)),
  (excIB K (He.ga K "PostError")),
  (excIB K (He.ga K "BadValue")),
  (excIB K (He.ga K "Unfit")),
  (decide (PySem.W.exmOne K (.ref (He.ga K "PostError")) (.ref (He.ga K "Unfit")) = some false)),
  (decide (PySem.W.exmOne K (.ref (He.ga K "BadValue")) (.ref (He.ga K "Unfit")) = some false)),
  (decide (PySem.W.exmOne K (.ref (He.ga K "Unfit")) (.ref (He.ga K "Unfit")) = some true)),
  (decide (PySem.W.exmOne K (.ref (He.ga K "PostError")) (.ref (He.ga K "BadValue")) = some false)),
  (decide (PySem.W.exmOne K (.ref (He.ga K "BadValue")) (.ref (He.ga K "BadValue")) = some true)),
  (decide (PySem.W.exmOne K (.ref (He.ga K "Unfit")) (.ref (He.ga K "BadValue")) = some false)),
  (decide (PySem.W.kitOne K (.ref (He.ga K "PostError")) (.ref (He.ga K "PostError")) = some true)),
  (decide (PySem.W.kitOne K (.ref (He.ga K "BadValue")) (.ref (He.ga K "PostError")) = some true)),
  (decide (PySem.W.kitOne K (.ref (He.ga K "Unfit")) (.ref (He.ga K "PostError")) = some true)),
  (PySem.W.keepIn K (.ref (He.ga K "PostError"))),
  (PySem.W.keepIn K (.ref (He.ga K "BadValue"))),
  (PySem.W.keepIn K (.ref (He.ga K "Unfit"))),
  (PySem.W.keepIn K (.ref (He.ga K "Store")))]
def more (K : PySem.W.Frag) : Bool := (mores K).all id
structure Tx (K : PySem.W.Frag) (mg : Str → Option Value) : Prop where
  c : He.SaysD fa fn K
  h : ∃ h : Heap, K.In h ∧ h.Ns mainGlobals mg
  m : more K = true
section
variable {K : PySem.W.Frag} {mg : Str → Option Value}
theorem Tx.mo (T : Tx K mg) (i : Nat) {x : Bool} (h : (mores K)[i]? = some x := by rfl) : x = true := List.all_eq_true.mp T.m x (List.mem_of_getElem? h)
theorem g_PostError (T : Tx K mg) : mg "PostError" = some (.ref (He.ga K "PostError")) := by
  obtain ⟨h, X, G⟩ := T.h
  exact He.glo_ok X G (T.c.fact 0 (f := .glo "PostError") rfl)
theorem g_BadValue (T : Tx K mg) : mg "BadValue" = some (.ref (He.ga K "BadValue")) := by
  obtain ⟨h, X, G⟩ := T.h
  exact He.glo_ok X G (T.c.fact 1 (f := .glo "BadValue") rfl)
theorem g_Unfit (T : Tx K mg) : mg "Unfit" = some (.ref (He.ga K "Unfit")) := by
  obtain ⟨h, X, G⟩ := T.h
  exact He.glo_ok X G (T.c.fact 2 (f := .glo "Unfit") rfl)
theorem g_is_integer (T : Tx K mg) : mg "is_integer" = some (.ref (He.ga K "is_integer")) := by
  obtain ⟨h, X, G⟩ := T.h
  exact He.glo_ok X G (T.c.fact 3 (f := .glo "is_integer") rfl)
theorem g_is_between (T : Tx K mg) : mg "is_between" = some (.ref (He.ga K "is_between")) := by
  obtain ⟨h, X, G⟩ := T.h
  exact He.glo_ok X G (T.c.fact 4 (f := .glo "is_between") rfl)
theorem g_is_number (T : Tx K mg) : mg "is_number" = some (.ref (He.ga K "is_number")) := by
  obtain ⟨h, X, G⟩ := T.h
  exact He.glo_ok X G (T.c.fact 5 (f := .glo "is_number") rfl)
theorem g_Store (T : Tx K mg) : mg "Store" = some (.ref (He.ga K "Store")) := by
  obtain ⟨h, X, G⟩ := T.h
  exact He.glo_ok X G (T.c.fact 6 (f := .glo "Store") rfl)
theorem g_l_pen (T : Tx K mg) : mg "_law_pen" = some (.ref (He.ga K "_law_pen")) := by
  obtain ⟨h, X, G⟩ := T.h
  exact He.glo_ok X G (T.c.fact 7 (f := .glo "_law_pen") rfl)
theorem g_l_draw (T : Tx K mg) : mg "_law_draw" = some (.ref (He.ga K "_law_draw")) := by
  obtain ⟨h, X, G⟩ := T.h
  exact He.glo_ok X G (T.c.fact 8 (f := .glo "_law_draw") rfl)
theorem g_l_pick (T : Tx K mg) : mg "_law_pick" = some (.ref (He.ga K "_law_pick")) := by
  obtain ⟨h, X, G⟩ := T.h
  exact He.glo_ok X G (T.c.fact 9 (f := .glo "_law_pick") rfl)
theorem g_l_order (T : Tx K mg) : mg "_law_order" = some (.ref (He.ga K "_law_order")) := by
  obtain ⟨h, X, G⟩ := T.h
  exact He.glo_ok X G (T.c.fact 10 (f := .glo "_law_order") rfl)
theorem g_l_put (T : Tx K mg) : mg "_law_put" = some (.ref (He.ga K "_law_put")) := by
  obtain ⟨h, X, G⟩ := T.h
  exact He.glo_ok X G (T.c.fact 11 (f := .glo "_law_put") rfl)
theorem g_l_shown (T : Tx K mg) : mg "_law_shown" = some (.ref (He.ga K "_law_shown")) := by
  obtain ⟨h, X, G⟩ := T.h
  exact He.glo_ok X G (T.c.fact 12 (f := .glo "_law_shown") rfl)
theorem g_l_steps_right (T : Tx K mg) : mg "_law_steps_right" = some (.ref (He.ga K "_law_steps_right")) := by
  obtain ⟨h, X, G⟩ := T.h
  exact He.glo_ok X G (T.c.fact 13 (f := .glo "_law_steps_right") rfl)
theorem g_l_run_right (T : Tx K mg) : mg "_law_run_right" = some (.ref (He.ga K "_law_run_right")) := by
  obtain ⟨h, X, G⟩ := T.h
  exact He.glo_ok X G (T.c.fact 14 (f := .glo "_law_run_right") rfl)
theorem g_l_made_right (T : Tx K mg) : mg "_law_made_right" = some (.ref (He.ga K "_law_made_right")) := by
  obtain ⟨h, X, G⟩ := T.h
  exact He.glo_ok X G (T.c.fact 15 (f := .glo "_law_made_right") rfl)
theorem g_law (T : Tx K mg) : mg "law" = some (.ref (He.ga K "law")) := by
  obtain ⟨h, X, G⟩ := T.h
  exact He.glo_ok X G (T.c.fact 16 (f := .glo "law") rfl)
theorem free_ValueError (T : Tx K mg) : mg "ValueError" = none := by
  obtain ⟨h, X, G⟩ := T.h
  exact He.free_ok X G (T.c.fact 17 (f := .free "ValueError") rfl)
theorem free_abs (T : Tx K mg) : mg "abs" = none := by
  obtain ⟨h, X, G⟩ := T.h
  exact He.free_ok X G (T.c.fact 18 (f := .free "abs") rfl)
theorem free_bool (T : Tx K mg) : mg "bool" = none := by
  obtain ⟨h, X, G⟩ := T.h
  exact He.free_ok X G (T.c.fact 19 (f := .free "bool") rfl)
theorem free_enumerate (T : Tx K mg) : mg "enumerate" = none := by
  obtain ⟨h, X, G⟩ := T.h
  exact He.free_ok X G (T.c.fact 20 (f := .free "enumerate") rfl)
theorem free_int (T : Tx K mg) : mg "int" = none := by
  obtain ⟨h, X, G⟩ := T.h
  exact He.free_ok X G (T.c.fact 21 (f := .free "int") rfl)
theorem free_isinstance (T : Tx K mg) : mg "isinstance" = none := by
  obtain ⟨h, X, G⟩ := T.h
  exact He.free_ok X G (T.c.fact 22 (f := .free "isinstance") rfl)
theorem free_len (T : Tx K mg) : mg "len" = none := by
  obtain ⟨h, X, G⟩ := T.h
  exact He.free_ok X G (T.c.fact 23 (f := .free "len") rfl)
theorem free_list (T : Tx K mg) : mg "list" = none := by
  obtain ⟨h, X, G⟩ := T.h
  exact He.free_ok X G (T.c.fact 24 (f := .free "list") rfl)
theorem free_range (T : Tx K mg) : mg "range" = none := by
  obtain ⟨h, X, G⟩ := T.h
  exact He.free_ok X G (T.c.fact 25 (f := .free "range") rfl)
theorem free_repr (T : Tx K mg) : mg "repr" = none := by
  obtain ⟨h, X, G⟩ := T.h
  exact He.free_ok X G (T.c.fact 26 (f := .free "repr") rfl)
theorem free_sorted (T : Tx K mg) : mg "sorted" = none := by
  obtain ⟨h, X, G⟩ := T.h
  exact He.free_ok X G (T.c.fact 27 (f := .free "sorted") rfl)
theorem free_tuple (T : Tx K mg) : mg "tuple" = none := by
  obtain ⟨h, X, G⟩ := T.h
  exact He.free_ok X G (T.c.fact 28 (f := .free "tuple") rfl)
theorem int_MOST_NUMBER (T : Tx K mg) : ∃ t, mg "MOST_NUMBER" = some (.int (999999999999999999999999999999999999999999999999999999999999) t) := by
  obtain ⟨h, X, G⟩ := T.h
  exact He.int_ok X G (T.c.fact 29 (f := .int "MOST_NUMBER" (999999999999999999999999999999999999999999999999999999999999)) rfl)
theorem int_MOST_LATE (T : Tx K mg) : ∃ t, mg "MOST_LATE" = some (.int (20) t) := by
  obtain ⟨h, X, G⟩ := T.h
  exact He.int_ok X G (T.c.fact 30 (f := .int "MOST_LATE" (20)) rfl)
theorem cls_Store (T : Tx K mg) : Cls K (He.ga K "Store") := He.cls_ok (T.c.fact 31 (f := .cls "Store") rfl)
theorem no_Store_late (T : Tx K mg) : NoAttr K (He.ga K "Store") "late" := He.noat_ok (T.c.fact 32 (f := .noat "Store" "late") rfl)
theorem no_Store_held (T : Tx K mg) : NoAttr K (He.ga K "Store") "held" := He.noat_ok (T.c.fact 33 (f := .noat "Store" "held") rfl)
theorem no_Store_last (T : Tx K mg) : NoAttr K (He.ga K "Store") "last" := He.noat_ok (T.c.fact 34 (f := .noat "Store" "last") rfl)
theorem no_Store_places (T : Tx K mg) : NoAttr K (He.ga K "Store") "places" := He.noat_ok (T.c.fact 35 (f := .noat "Store" "places") rfl)
theorem mk_Store (T : Tx K mg) : Mk K (He.ga K "Store") (He.ma K (He.ga K "Store") "__init__") := He.mkr_ok (T.c.fact 36 (f := .mkr "Store") rfl)
theorem me_Store_len (T : Tx K mg) : Meth K (He.ga K "Store") "__len__" (He.ma K (He.ga K "Store") "__len__") := He.meth_ok (T.c.fact 37 (f := .meth "Store" "__len__") rfl)
theorem me_Store_put (T : Tx K mg) : Meth K (He.ga K "Store") "put" (He.ma K (He.ga K "Store") "put") := He.meth_ok (T.c.fact 38 (f := .meth "Store" "put") rfl)
theorem oex_PostError (T : Tx K mg) : OexC K (He.ga K "PostError") := oexB_ok (T.mo 0)
theorem xf_PostError (T : Tx K mg) : XfC K (He.ga K "PostError") := xfB_ok (T.mo 1)
theorem ini_PostError (T : Tx K mg) : PySem.W.findIn K (.ref (He.ga K "PostError")) "__init__" = some (some (.ref (He.ma K (He.ga K "PostError") "__init__"))) := He.eqO_ok (T.mo 2)
theorem tyi_PostError (T : Tx K mg) : PySem.W.typeIn K (.ref (He.ma K (He.ga K "PostError") "__init__")) = some (.type "function") := of_decide_eq_true (T.mo 3)
theorem oex_BadValue (T : Tx K mg) : OexC K (He.ga K "BadValue") := oexB_ok (T.mo 4)
theorem xf_BadValue (T : Tx K mg) : XfC K (He.ga K "BadValue") := xfB_ok (T.mo 5)
theorem ini_BadValue (T : Tx K mg) : PySem.W.findIn K (.ref (He.ga K "BadValue")) "__init__" = some (some (.ref (He.ma K (He.ga K "BadValue") "__init__"))) := He.eqO_ok (T.mo 6)
theorem tyi_BadValue (T : Tx K mg) : PySem.W.typeIn K (.ref (He.ma K (He.ga K "BadValue") "__init__")) = some (.type "function") := of_decide_eq_true (T.mo 7)
theorem nof_BadValue_what (T : Tx K mg) : PySem.W.findIn K (.ref (He.ga K "BadValue")) "what" = some none := He.eqO_ok (T.mo 8)
theorem oex_Unfit (T : Tx K mg) : OexC K (He.ga K "Unfit") := oexB_ok (T.mo 9)
theorem xf_Unfit (T : Tx K mg) : XfC K (He.ga K "Unfit") := xfB_ok (T.mo 10)
theorem ini_Unfit (T : Tx K mg) : PySem.W.findIn K (.ref (He.ga K "Unfit")) "__init__" = some (some (.ref (He.ma K (He.ga K "Unfit") "__init__"))) := He.eqO_ok (T.mo 11)
theorem tyi_Unfit (T : Tx K mg) : PySem.W.typeIn K (.ref (He.ma K (He.ga K "Unfit") "__init__")) = some (.type "function") := of_decide_eq_true (T.mo 12)
theorem nof_Unfit_place (T : Tx K mg) : PySem.W.findIn K (.ref (He.ga K "Unfit")) "place" = some none := He.eqO_ok (T.mo 13)
theorem exi_PostError (T : Tx K mg) : ExcI K (He.ga K "PostError") := excIB_ok (T.mo 14)
theorem exi_BadValue (T : Tx K mg) : ExcI K (He.ga K "BadValue") := excIB_ok (T.mo 15)
theorem exi_Unfit (T : Tx K mg) : ExcI K (He.ga K "Unfit") := excIB_ok (T.mo 16)
theorem exm_PostError_Unfit (T : Tx K mg) : PySem.W.exmOne K (.ref (He.ga K "PostError")) (.ref (He.ga K "Unfit")) = some false := of_decide_eq_true (T.mo 17)
theorem exm_BadValue_Unfit (T : Tx K mg) : PySem.W.exmOne K (.ref (He.ga K "BadValue")) (.ref (He.ga K "Unfit")) = some false := of_decide_eq_true (T.mo 18)
theorem exm_Unfit_Unfit (T : Tx K mg) : PySem.W.exmOne K (.ref (He.ga K "Unfit")) (.ref (He.ga K "Unfit")) = some true := of_decide_eq_true (T.mo 19)
theorem exm_PostError_BadValue (T : Tx K mg) : PySem.W.exmOne K (.ref (He.ga K "PostError")) (.ref (He.ga K "BadValue")) = some false := of_decide_eq_true (T.mo 20)
theorem exm_BadValue_BadValue (T : Tx K mg) : PySem.W.exmOne K (.ref (He.ga K "BadValue")) (.ref (He.ga K "BadValue")) = some true := of_decide_eq_true (T.mo 21)
theorem exm_Unfit_BadValue (T : Tx K mg) : PySem.W.exmOne K (.ref (He.ga K "Unfit")) (.ref (He.ga K "BadValue")) = some false := of_decide_eq_true (T.mo 22)
theorem kit_PostError_PostError (T : Tx K mg) : PySem.W.kitOne K (.ref (He.ga K "PostError")) (.ref (He.ga K "PostError")) = some true := of_decide_eq_true (T.mo 23)
theorem kit_BadValue_PostError (T : Tx K mg) : PySem.W.kitOne K (.ref (He.ga K "BadValue")) (.ref (He.ga K "PostError")) = some true := of_decide_eq_true (T.mo 24)
theorem kit_Unfit_PostError (T : Tx K mg) : PySem.W.kitOne K (.ref (He.ga K "Unfit")) (.ref (He.ga K "PostError")) = some true := of_decide_eq_true (T.mo 25)
theorem keep_PostError (T : Tx K mg) : PySem.W.keepIn K (.ref (He.ga K "PostError")) = true := id (T.mo 26)
theorem keep_BadValue (T : Tx K mg) : PySem.W.keepIn K (.ref (He.ga K "BadValue")) = true := id (T.mo 27)
theorem keep_Unfit (T : Tx K mg) : PySem.W.keepIn K (.ref (He.ga K "Unfit")) = true := id (T.mo 28)
theorem keep_Store (T : Tx K mg) : PySem.W.keepIn K (.ref (He.ga K "Store")) = true := id (T.mo 29)
theorem F_PostError_init (T : Tx K mg) : ∃ fd, FunD K "__init__" "PostError.__init__" (defArgs s_PostError_init) (defBody s_PostError_init) (defScope s_PostError_init) [] [] (He.ma K (He.ga K "PostError") "__init__") fd := T.c.def_ 0 (d := d_PostError_init) rfl
theorem F_BadValue_init (T : Tx K mg) : ∃ fd, FunD K "__init__" "BadValue.__init__" (defArgs s_BadValue_init) (defBody s_BadValue_init) (defScope s_BadValue_init) [] [] (He.ma K (He.ga K "BadValue") "__init__") fd := T.c.def_ 1 (d := d_BadValue_init) rfl
theorem F_Unfit_init (T : Tx K mg) : ∃ fd, FunD K "__init__" "Unfit.__init__" (defArgs s_Unfit_init) (defBody s_Unfit_init) (defScope s_Unfit_init) [] [] (He.ma K (He.ga K "Unfit") "__init__") fd := T.c.def_ 2 (d := d_Unfit_init) rfl
theorem F_is_integer (T : Tx K mg) : ∃ fd, FunD K "is_integer" "is_integer" (defArgs s_is_integer) (defBody s_is_integer) (defScope s_is_integer) [] [] (He.ga K "is_integer") fd := T.c.def_ 3 (d := d_is_integer) rfl
theorem F_is_between (T : Tx K mg) : ∃ fd, FunD K "is_between" "is_between" (defArgs s_is_between) (defBody s_is_between) (defScope s_is_between) [] [] (He.ga K "is_between") fd := T.c.def_ 4 (d := d_is_between) rfl
theorem F_is_number (T : Tx K mg) : ∃ fd, FunD K "is_number" "is_number" (defArgs s_is_number) (defBody s_is_number) (defScope s_is_number) [] [] (He.ga K "is_number") fd := T.c.def_ 5 (d := d_is_number) rfl
theorem F_Store_init (T : Tx K mg) : ∃ fd, FunD K "__init__" "Store.__init__" (defArgs s_Store_init) (defBody s_Store_init) (defScope s_Store_init) [] [] (He.ma K (He.ga K "Store") "__init__") fd := T.c.def_ 6 (d := d_Store_init) rfl
theorem F_Store_len (T : Tx K mg) : ∃ fd, FunD K "__len__" "Store.__len__" (defArgs s_Store_len) (defBody s_Store_len) (defScope s_Store_len) [] [] (He.ma K (He.ga K "Store") "__len__") fd := T.c.def_ 7 (d := d_Store_len) rfl
theorem F_Store_put (T : Tx K mg) : ∃ fd, FunD K "put" "Store.put" (defArgs s_Store_put) (defBody s_Store_put) (defScope s_Store_put) [] [] (He.ma K (He.ga K "Store") "put") fd := T.c.def_ 8 (d := d_Store_put) rfl
theorem F_l_pen (T : Tx K mg) : ∃ fd, FunD K "_law_pen" "_law_pen" (defArgs s_l_pen) (defBody s_l_pen) (defScope s_l_pen) [] [] (He.ga K "_law_pen") fd := T.c.def_ 9 (d := d_l_pen) rfl
theorem F_l_draw (T : Tx K mg) : ∃ fd, FunD K "_law_draw" "_law_draw" (defArgs s_l_draw) (defBody s_l_draw) (defScope s_l_draw) [] [] (He.ga K "_law_draw") fd := T.c.def_ 10 (d := d_l_draw) rfl
theorem F_l_pick (T : Tx K mg) : ∃ fd, FunD K "_law_pick" "_law_pick" (defArgs s_l_pick) (defBody s_l_pick) (defScope s_l_pick) [] [] (He.ga K "_law_pick") fd := T.c.def_ 11 (d := d_l_pick) rfl
theorem F_l_order (T : Tx K mg) : ∃ fd, FunD K "_law_order" "_law_order" (defArgs s_l_order) (defBody s_l_order) (defScope s_l_order) [] [] (He.ga K "_law_order") fd := T.c.def_ 12 (d := d_l_order) rfl
theorem F_l_put (T : Tx K mg) : ∃ fd, FunD K "_law_put" "_law_put" (defArgs s_l_put) (defBody s_l_put) (defScope s_l_put) [] [] (He.ga K "_law_put") fd := T.c.def_ 13 (d := d_l_put) rfl
theorem F_l_shown (T : Tx K mg) : ∃ fd, FunD K "_law_shown" "_law_shown" (defArgs s_l_shown) (defBody s_l_shown) (defScope s_l_shown) [] [] (He.ga K "_law_shown") fd := T.c.def_ 14 (d := d_l_shown) rfl
theorem F_l_steps_right (T : Tx K mg) : ∃ fd, FunD K "_law_steps_right" "_law_steps_right" (defArgs s_l_steps_right) (defBody s_l_steps_right) (defScope s_l_steps_right) [] [] (He.ga K "_law_steps_right") fd := T.c.def_ 15 (d := d_l_steps_right) rfl
theorem F_l_run_right (T : Tx K mg) : ∃ fd, FunD K "_law_run_right" "_law_run_right" (defArgs s_l_run_right) (defBody s_l_run_right) (defScope s_l_run_right) [] [] (He.ga K "_law_run_right") fd := T.c.def_ 16 (d := d_l_run_right) rfl
theorem F_l_made_right (T : Tx K mg) : ∃ fd, FunD K "_law_made_right" "_law_made_right" (defArgs s_l_made_right) (defBody s_l_made_right) (defScope s_l_made_right) [] [] (He.ga K "_law_made_right") fd := T.c.def_ 17 (d := d_l_made_right) rfl
theorem F_law (T : Tx K mg) : ∃ fd, FunD K "law" "law" (defArgs s_law) (defBody s_law) (defScope s_law) [] [] (He.ga K "law") fd := T.c.def_ 18 (d := d_law) rfl
end
end K60

set_option Elab.async false
set_option linter.all false
set_option maxRecDepth 100000
set_option maxHeartbeats 1000000
namespace K60
open PySem PySem.Spec PyProof.Rows L2 JQ
local macro_rules | `(tactic| fail) => `(tactic| first | refine o_add ?_ | refine o_sub ?_ | refine o_lt ?_ | refine o_le ?_ | refine o_gt ?_ | refine o_ge ?_ | refine o_eqI ?_ | refine o_neI ?_)
local macro_rules | `(tactic| fail) => `(tactic| first | refine wa_cons ?_ | refine wa_nil ?_ | refine wk_cons ?_ | refine wk_nil ?_)
local macro_rules | `(tactic| fail) => `(tactic| first | refine wt_cmp ?_ | refine wt_chain ?_ | refine wt_not ?_ | refine wt_and2 ?_ | refine wt_or2 ?_)
local macro_rules | `(tactic| fail) => `(tactic| first | refine we_int ?_ | refine we_str ?_ | refine we_bl ?_ | refine we_non ?_ | refine we_tup ?_ | refine we_bin ?_ | refine we_cmp ?_ | refine we_chain ?_ | refine we_not ?_ | refine we_un ?_ | refine we_and ?_ | refine we_or ?_ | refine we_one ?_ | refine we_ifx ?_)
local macro_rules | `(tactic| fail) => `(tactic| first | refine we_var 0 (by rfl) ?_ | refine we_var 1 (by rfl) ?_ | refine we_var 2 (by rfl) ?_ | refine we_var 3 (by rfl) ?_ | refine we_var 4 (by rfl) ?_ | refine we_var 5 (by rfl) ?_ | refine we_var 6 (by rfl) ?_ | refine we_var 7 (by rfl) ?_ | refine we_var 8 (by rfl) ?_ | refine we_var 9 (by rfl) ?_ | refine we_var 10 (by rfl) ?_ | refine we_var 11 (by rfl) ?_)
local macro_rules | `(tactic| fail) => `(tactic| first | refine ws_ret ?_ | refine ws_retN ?_ | refine ws_if ?_ | refine ws_expr ?_ | refine ws_set 0 (by assumption) ?_ | refine ws_set 1 (by assumption) ?_ | refine ws_set 2 (by assumption) ?_ | refine ws_set 3 (by assumption) ?_ | refine ws_set 4 (by assumption) ?_ | refine ws_set 5 (by assumption) ?_ | refine ws_set 6 (by assumption) ?_ | refine ws_set 7 (by assumption) ?_ | refine ws_set 8 (by assumption) ?_ | refine ws_set 9 (by assumption) ?_ | refine ws_set 10 (by assumption) ?_ | refine ws_set 11 (by assumption) ?_)
local macro_rules | `(tactic| fail) => `(tactic| first | refine wss_cons ?_ | refine wss_nil ?_)
section
variable {P : Program} {w : World} {K : PySem.W.Frag} {mg : Str → Option Value} {base : Heap}
/-! ### common -/
theorem btw_of {i a b : Int} (h : a ≤ i) : decide (i ≤ b) = decide (a ≤ i ∧ i ≤ b) := by
  by_cases c : i ≤ b <;> simp [c, h]
def btw (d : D) (a b : Int) : Bool := match d with
  | .int i => decide (a ≤ i ∧ i ≤ b)
  | _ => false
def SInt : Sd := fun ds M P _ => ∃ d, ds = [d] ∧ known d = true ∧ P (.bl (isInt d)) M
def SBtw : Sd := fun ds M P _ => ∃ d a b, ds = [d, .int a, .int b] ∧ known d = true ∧ P (.bl (btw d a b)) M
def mostN : Int := 10 ^ 60 - 1
def SNum : Sd := fun ds M P _ => ∃ d, ds = [d] ∧ known d = true ∧ P (.bl (btw d 0 mostN)) M
theorem sc_is_integer : FnScope ["value"] ["value"] (defScope s_is_integer) := ⟨rfl, rfl, rfl, by decide +kernel, rfl, by decide +kernel, by decide +kernel⟩
theorem sc_is_between : FnScope ["value", "least", "most"] ["value", "least", "most"] (defScope s_is_between) := ⟨rfl, rfl, rfl, by decide +kernel, rfl, by decide +kernel, by decide +kernel⟩
theorem sc_is_number : FnScope ["value"] ["value"] (defScope s_is_number) := ⟨rfl, rfl, rfl, by decide +kernel, rfl, by decide +kernel, by decide +kernel⟩
theorem len_SInt : ∀ ds M P EE, SInt ds M P EE → ds.length = 1 := fun ds M P EE ⟨d, e, _⟩ => by rw [e]; rfl
theorem len_SBtw : ∀ ds M P EE, SBtw ds M P EE → ds.length = 3 := fun ds M P EE ⟨d, a, b, e, _⟩ => by rw [e]; rfl
theorem len_SNum : ∀ ds M P EE, SNum ds M P EE → ds.length = 1 := fun ds M P EE ⟨d, e, _⟩ => by rw [e]; rfl
theorem kf_is_integer (T : Tx K mg) : KF P w K mg base 1 "is_integer" 1 [] SInt := by
  obtain ⟨fd, F⟩ := F_is_integer T
  refine ⟨_, fd, ["value"], ?_, bndD F 1 [] (fun _ _ _ _ _ _ us ws h1 h2 => match us, ws, h1, h2 with | [_], [], _, _ => rfl), g_is_integer T, F.kp⟩
  refine fnDD F sc_is_integer len_SInt fun cdv A outer s H E hg hr ds M Pd EE ⟨d, e, kn, q⟩ => ?_
  subst e
  have f1 := free_isinstance T
  fail; fail; fail
  refine we_callB (id := "isinstance") ?_ f1
  repeat fail
  refine we_bty (n := "int") (free_int T) (by decide +kernel) ?_
  fail
  refine c_isi (.ty "int") (known_ty kn) (kit_int kn) ?_
  refine ⟨_, rfl, iteB (fun h => ?_) fun h => ?_⟩
  · fail; fail
    refine we_callB (id := "isinstance") ?_ f1
    repeat fail
    refine we_bty (n := "bool") (free_bool T) (by decide +kernel) ?_
    fail
    refine c_isi (.ty "bool") (known_ty kn) (kit_bool kn) ?_
    refine ⟨_, rfl, ?_⟩
    cases d <;> first | exact q | cases h
  · cases d <;> first | exact q | cases h
theorem kf_is_between (T : Tx K mg) : KF P w K mg base 2 "is_between" 3 [] SBtw := by
  obtain ⟨fd, F⟩ := F_is_between T
  refine ⟨_, fd, ["value", "least", "most"], ?_, bndD F 3 [] (fun _ _ _ _ _ _ us ws h1 h2 => match us, ws, h1, h2 with | [_, _, _], [], _, _ => rfl), g_is_between T, F.kp⟩
  refine fnDD F sc_is_between len_SBtw fun cdv A outer s H E hg hr ds M Pd EE ⟨d, a, b, e, kn, q⟩ => ?_
  subst e
  fail; fail; fail
  refine we_fn (kf_is_integer T) hg hr ?_ rfl (hlen := len_SInt)
  fail; fail; fail
  refine ⟨d, rfl, kn, _, rfl, iteB (fun h => ?_) fun h => ?_⟩
  · cases d with
    | int i =>
      repeat fail
      refine ⟨_, rfl, iteB (fun h1 => ?_) fun h1 => ?_⟩
      · fail; fail
        rw [btw_of (of_decide_eq_true h1)]
        exact q
      · have e : btw (.int i) a b = false := by
          have := of_decide_eq_false h1
          simp [btw, this]
        rw [e] at q
        exact q
    | _ => cases h
  · have e : btw d a b = false := by cases d <;> first | rfl | cases h
    rw [e] at q
    exact q
theorem kf_is_number (T : Tx K mg) : KF P w K mg base 3 "is_number" 1 [] SNum := by
  obtain ⟨fd, F⟩ := F_is_number T
  refine ⟨_, fd, ["value"], ?_, bndD F 1 [] (fun _ _ _ _ _ _ us ws h1 h2 => match us, ws, h1, h2 with | [_], [], _, _ => rfl), g_is_number T, F.kp⟩
  refine fnDD F sc_is_number len_SNum fun cdv A outer s H E hg hr ds M Pd EE ⟨d, e, kn, q⟩ => ?_
  subst e
  obtain ⟨t, gi⟩ := int_MOST_NUMBER T
  fail; fail
  refine we_fn (kf_is_between T) hg hr ?_ rfl (hlen := len_SBtw)
  repeat fail
  refine we_gint gi ?_
  fail
  exact ⟨d, _, _, rfl, kn, q⟩
end
end K60

set_option Elab.async false
set_option linter.all false
set_option maxRecDepth 100000
set_option maxHeartbeats 1000000
namespace K60
open PySem PySem.Spec PyProof.Rows L2 JQ
local macro_rules | `(tactic| fail) => `(tactic| first | refine o_add ?_ | refine o_sub ?_ | refine o_lt ?_ | refine o_le ?_ | refine o_gt ?_ | refine o_ge ?_ | refine o_eqI ?_ | refine o_neI ?_)
local macro_rules | `(tactic| fail) => `(tactic| first | refine wa_cons ?_ | refine wa_nil ?_ | refine wk_cons ?_ | refine wk_nil ?_)
local macro_rules | `(tactic| fail) => `(tactic| first | refine wt_cmp ?_ | refine wt_chain ?_ | refine wt_not ?_ | refine wt_and2 ?_ | refine wt_or2 ?_)
local macro_rules | `(tactic| fail) => `(tactic| first | refine we_int ?_ | refine we_str ?_ | refine we_bl ?_ | refine we_non ?_ | refine we_tup ?_ | refine we_bin ?_ | refine we_cmp ?_ | refine we_chain ?_ | refine we_not ?_ | refine we_un ?_ | refine we_and ?_ | refine we_or ?_ | refine we_one ?_ | refine we_ifx ?_)
local macro_rules | `(tactic| fail) => `(tactic| first | refine we_var 0 (by rfl) ?_ | refine we_var 1 (by rfl) ?_ | refine we_var 2 (by rfl) ?_ | refine we_var 3 (by rfl) ?_ | refine we_var 4 (by rfl) ?_ | refine we_var 5 (by rfl) ?_ | refine we_var 6 (by rfl) ?_ | refine we_var 7 (by rfl) ?_ | refine we_var 8 (by rfl) ?_ | refine we_var 9 (by rfl) ?_ | refine we_var 10 (by rfl) ?_ | refine we_var 11 (by rfl) ?_)
local macro_rules | `(tactic| fail) => `(tactic| first | refine ws_ret ?_ | refine ws_retN ?_ | refine ws_if ?_ | refine ws_expr ?_ | refine ws_set 0 (by assumption) ?_ | refine ws_set 1 (by assumption) ?_ | refine ws_set 2 (by assumption) ?_ | refine ws_set 3 (by assumption) ?_ | refine ws_set 4 (by assumption) ?_ | refine ws_set 5 (by assumption) ?_ | refine ws_set 6 (by assumption) ?_ | refine ws_set 7 (by assumption) ?_ | refine ws_set 8 (by assumption) ?_ | refine ws_set 9 (by assumption) ?_ | refine ws_set 10 (by assumption) ?_ | refine ws_set 11 (by assumption) ?_)
local macro_rules | `(tactic| fail) => `(tactic| first | refine wss_cons ?_ | refine wss_nil ?_)
section
variable {P : Program} {w : World} {K : PySem.W.Frag} {mg : Str → Option Value} {base : Heap}
/-! ### errors -/
theorem sc_BadValue_init : FnScope ["self", "what"] ["self", "what"] (defScope s_BadValue_init) := ⟨rfl, rfl, rfl, by decide +kernel, rfl, by decide +kernel, by decide +kernel⟩
theorem sc_Unfit_init : FnScope ["self", "place"] ["self", "place"] (defScope s_Unfit_init) := ⟨rfl, rfl, rfl, by decide +kernel, rfl, by decide +kernel, by decide +kernel⟩
abbrev cBad (K : PySem.W.Frag) : Addr := He.ga K "BadValue"
abbrev cUnf (K : PySem.W.Frag) : Addr := He.ga K "Unfit"
theorem err_Bad (T : Tx K mg) (X : Cx) (e1 : X.prog = P) (e2 : X.w = w) (e3 : X.K = K) (e4 : X.mg = mg) (e5 : X.base = base) (hr : Room 2 X.A) : ErrT X (cBad K) "BadValue" ["what"] := by
  subst e1 e2 e3 e4 e5
  obtain ⟨fd, F⟩ := F_BadValue_init T
  exact ⟨oex_BadValue T, g_BadValue T, _, fd, ["self", "what"], 1, ini_BadValue T, tyi_BadValue T, err1D F sc_BadValue_init rfl (oex_BadValue T) (nof_BadValue_what T) (fun cdv A outer s H E => pss_one (ps_ost (pv 0) (pv 1))), hr, F.bindsN (fun _ _ _ _ _ _ us hl => match us, hl with | [_, _], _ => rfl)⟩
theorem err_Unf (T : Tx K mg) (X : Cx) (e1 : X.prog = P) (e2 : X.w = w) (e3 : X.K = K) (e4 : X.mg = mg) (e5 : X.base = base) (hr : Room 2 X.A) : ErrT X (cUnf K) "Unfit" ["place"] := by
  subst e1 e2 e3 e4 e5
  obtain ⟨fd, F⟩ := F_Unfit_init T
  exact ⟨oex_Unfit T, g_Unfit T, _, fd, ["self", "place"], 1, ini_Unfit T, tyi_Unfit T, err1D F sc_Unfit_init rfl (oex_Unfit T) (nof_Unfit_place T) (fun cdv A outer s H E => pss_one (ps_ost (pv 0) (pv 1))), hr, F.bindsN (fun _ _ _ _ _ _ us hl => match us, hl with | [_, _], _ => rfl)⟩
/-! ### the store -/
abbrev cSt (K : PySem.W.Frag) : Addr := He.ga K "Store"
def lastD : Option Int → D
  | none => .non
  | some i => .int i
def sfs (late : Int) (held : List Int) (last : Option Int) (pl : Int) : List (Str × D) := [("late", .int late), ("held", .tup (held.map D.int)), ("last", lastD last), ("places", .int pl)]
abbrev sto (K : PySem.W.Frag) (late : Int) (held : List Int) (last : Option Int) (pl : Int) : MO := .ins (cSt K) (sfs late held last pl)
def SInit (K : PySem.W.Frag) : Sd := fun ds M P EE => ∃ x d, ds = [.rf x, d] ∧ M x = some (.ins (cSt K) []) ∧ known d = true ∧ (∀ i, d = .int i → 0 ≤ i → i ≤ 20 → P .non (mup M x (sto K i [] none 0))) ∧ (btw d 0 20 = false → EE (cBad K) [("what", .str "late")] M)
theorem len_SInit : ∀ ds M P EE, SInit K ds M P EE → ds.length = 2 := fun ds M P EE ⟨x, d, e, _⟩ => by rw [e]; rfl
theorem sc_Store_init : FnScope ["self", "late"] ["self", "late"] (defScope s_Store_init) := ⟨rfl, rfl, rfl, by decide +kernel, rfl, by decide +kernel, by decide +kernel⟩
theorem btw_int {d : D} {a b : Int} (h : btw d a b = true) : ∃ i, d = .int i ∧ a ≤ i ∧ i ≤ b := by
  cases d with
  | int i => exact ⟨i, rfl, of_decide_eq_true h⟩
  | _ => cases h
theorem kc_Store {ks : List Str} (hk : ks = [] ∨ ks = (["late"] : List Str)) (T : Tx K mg) : KC P w K mg base 4 "Store" (cSt K) (1 - ks.length) ks (SInit K) := by
  obtain ⟨fd, F⟩ := F_Store_init T
  refine ⟨_, fd, ["self", "late"], ?_, ?_, mk_Store T, g_Store T⟩
  · refine fnDD F sc_Store_init len_SInit fun cdv A outer s H E hg hr ds M Pd EE ⟨x, d, e, em, kn, q1, q2⟩ => ?_
    subst e
    obtain ⟨t, gi⟩ := int_MOST_LATE T
    have cl := cls_Store T
    fail; fail
    refine wt_not (wt_val ?_)
    refine we_fn (kf_is_between T) hg (hr.mono (by decide)) ?_ rfl (hlen := len_SBtw)
    repeat fail
    refine we_gint gi ?_
    fail
    refine ⟨d, _, _, rfl, kn, _, rfl, iteB (fun h => ?_) fun h => ?_⟩
    · refine wss_cons (ws_raise (err_Bad T _ rfl rfl rfl rfl rfl (hr.mono (by decide))) rfl ?_)
      repeat fail
      exact ⟨rfl, by decide, M, Msub.refl, q2 (by simpa using h)⟩
    · obtain ⟨i, ei, h0, h1⟩ := btw_int (by simpa using h)
      subst ei
      repeat fail
      refine ws_fld ?_
      fail; fail
      refine ⟨x, _, [], rfl, em, cl, no_Store_late T, by decide, ?_⟩
      fail
      refine ws_fld ?_
      fail; fail
      refine ⟨by decide, ?_⟩
      fail
      refine ⟨x, _, _, rfl, mup_same, cl, no_Store_held T, of_decide_eq_true rfl, ?_⟩
      fail
      refine ws_fld ?_
      fail; fail
      refine ⟨x, _, _, rfl, mup_same, cl, no_Store_last T, of_decide_eq_true rfl, ?_⟩
      fail
      refine ws_fld ?_
      fail; fail
      refine ⟨x, _, _, rfl, mup_same, cl, no_Store_places T, of_decide_eq_true rfl, ?_⟩
      fail
      rw [mup_mup, mup_mup, mup_mup]
      exact q1 i rfl h0 h1
  · rcases hk with rfl | rfl
    · exact bndD F 2 [] (fun _ _ _ _ _ _ us ws h1 h2 => match us, ws, h1, h2 with | [_, _], [], _, _ => rfl)
    · exact bndD F 1 ["late"] (fun _ _ _ _ _ _ us ws h1 h2 => match us, ws, h1, h2 with | [_], [_], _, _ => rfl)
def SLen (K : PySem.W.Frag) : Sd := fun ds M P _ => ∃ x late held last pl, ds = [.rf x] ∧ M x = some (sto K late held last pl) ∧ P (.int held.length) M
theorem len_SLen : ∀ ds M P EE, SLen K ds M P EE → ds.length = 1 := fun ds M P EE ⟨x, _, _, _, _, e, _⟩ => by rw [e]; rfl
theorem sc_Store_len : FnScope ["self"] ["self"] (defScope s_Store_len) := ⟨rfl, rfl, rfl, by decide +kernel, rfl, by decide +kernel, by decide +kernel⟩
theorem f_Store_len (T : Tx K mg) : ∃ fd, FnG P w K mg base 1 (He.ma K (cSt K) "__len__") fd ["self"] (spD K (SLen K)) ∧ ∀ us : List Value, us.length = (["self"] : List Str).length → bindArgs fd ⟨us, []⟩ = pure ((["self"] : List Str).zip us) := by
  obtain ⟨fd, F⟩ := F_Store_len T
  refine ⟨fd, ?_, ?_⟩
  · refine fnDD F sc_Store_len len_SLen fun cdv A outer s H E hg hr ds M Pd EE ⟨x, late, held, last, pl, e, em, q⟩ => ?_
    subst e
    have fl := free_len T
    fail; fail
    refine we_callB (id := "len") ?_ fl
    fail
    refine we_fld ?_
    fail
    refine ⟨_, _, _, OAt.rf em, cls_Store T, no_Store_held T, rfl, ?_⟩
    fail
    refine c_len .tup ?_
    rw [List.length_map]
    exact q
  · obtain ⟨oc, od, dV, kV, doc, pm, an, cdv, ct, osl, rfl, lk, hcd, hD, hK⟩ := F.ex
    rcases hD with ⟨_, rfl⟩ | ⟨e, _⟩
    · exact fun us hl => match us, hl with | [_], _ => rfl
    · exact absurd rfl e
/-- behind a number that is let -/
def hd' (late : Int) (h : List Int) : Option Int := if (h.length : Int) ≤ late then none else h.head?
def putH (late : Int) (h : List Int) : List Int := if (h.length : Int) ≤ late then h else h.tail
def putL (late : Int) (h : List Int) (last : Option Int) : Option Int := if (h.length : Int) ≤ late then last else h.head?
def SPut (K : PySem.W.Frag) : Sd := fun ds M P EE => ∃ x d late held last pl, ds = [.rf x, d] ∧ M x = some (sto K late held last pl) ∧ known d = true ∧ 0 ≤ late ∧ held.length < 1000000 ∧ (btw d 0 mostN = false → EE (cBad K) [("what", .str "number")] M) ∧
  ∀ n, d = .int n → 0 ≤ n → n ≤ mostN → (∀ l, last = some l → n < l → EE (cUnf K) [("place", .int pl)] M) ∧
    ((∀ l, last = some l → ¬ n < l) → P (lastD (hd' late (srtI (held ++ [n])))) (mup M x (sto K late (putH late (srtI (held ++ [n]))) (putL late (srtI (held ++ [n])) last) (pl + 1))))
theorem len_SPut : ∀ ds M P EE, SPut K ds M P EE → ds.length = 2 := fun ds M P EE ⟨x, d, _, _, _, _, e, _⟩ => by rw [e]; rfl
theorem sc_Store_put : FnScope ["self", "number", "held"] ["self", "number"] (defScope s_Store_put) := ⟨rfl, rfl, rfl, by decide +kernel, rfl, by decide +kernel, by decide +kernel⟩
theorem cut_tail {α : Type} (xs : List α) : cutL xs (some 1) none = xs.tail := by
  cases xs with
  | nil => rfl
  | cons x xs =>
    have e1 : HT.sIx (x :: xs).length 0 (some 1) = 1 := by unfold HT.sIx; simp
    have e2 : HT.sIx (x :: xs).length (x :: xs).length none = (x :: xs).length := rfl
    unfold cutL
    rw [e1, e2]
    simp
theorem srtI_len (ns : List Int) : (srtI ns).length = ns.length := (srtI_perm ns).length_eq
theorem km_put (T : Tx K mg) : KM P w K mg base 4 (cSt K) "put" 0 ["number"] (SPut K) := by
  obtain ⟨fd, F⟩ := F_Store_put T
  refine ⟨_, fd, ["self", "number"], ?_, bndD F 1 ["number"] (fun _ _ _ _ _ _ us ws h1 h2 => match us, ws, h1, h2 with | [_], [_], _, _ => rfl), cls_Store T, me_Store_put T⟩
  refine fnDD F sc_Store_put len_SPut fun cdv A outer s H E hg hr ds M Pd EE ⟨x, d, late, held, last, pl, e, em, kn, hl0, hlh, q1, q2⟩ => ?_
  subst e
  have nd := sc_Store_put.nd
  have cl := cls_Store T
  fail; fail
  refine wt_not (wt_val ?_)
  refine we_fn (kf_is_number T) hg (hr.mono (by decide)) ?_ rfl (hlen := len_SNum)
  repeat fail
  refine ⟨d, rfl, kn, _, rfl, iteB (fun h => ?_) fun h => ?_⟩
  · refine wss_cons (ws_raise (err_Bad T _ rfl rfl rfl rfl rfl (hr.mono (by decide))) rfl ?_)
    repeat fail
    exact ⟨rfl, by decide, M, Msub.refl, q1 (by simpa using h)⟩
  · obtain ⟨n, en, h0, h1⟩ := btw_int (by simpa using h)
    subst en
    obtain ⟨q3, q4⟩ := q2 n rfl h0 h1
    -- the rest, behind the two tests
    have rest : (∀ l, last = some l → ¬ n < l) → WSs (bdOf P w K mg base ["self", "number", "held"] "Store.put" (defScope s_Store_put) (He.ma K (cSt K) "put") cdv A outer s H E EE) ((defBody s_Store_put).drop 2) (startS ["self", "number", "held"] [.rf x, .int n]) M { nx := fun _ => Pd .non, rt := Pd } := fun hn => by
      have q5 := q4 hn
      fail
      refine ws_set 2 nd ?_
      refine we_callB (id := "sorted") ?_ (free_sorted T)
      fail
      refine we_lst ?_
      refine wa_star ?_
      refine we_fld ?_
      fail
      refine ⟨_, _, _, OAt.rf em, cl, no_Store_held T, rfl, ?_⟩
      refine ⟨held.map D.int, .tup, ?_⟩
      fail; fail; fail
      refine ⟨by simp; exact Nat.le_trans hlh (by decide), .inl ?_⟩
      fail
      have ex : held.map D.int ++ [D.int n] = (held ++ [n]).map D.int := by simp
      rw [ex]
      refine c_sorted .lst (.inl ?_)
      generalize hsr : srtI (held ++ [n]) = hs at q5
      have hlen : hs.length = held.length + 1 := by rw [← hsr, srtI_len, List.length_append]; rfl
      fail
      refine ws_fldaug ?_
      fail
      refine ⟨x, _, _, _, rfl, em, cl, no_Store_places T, rfl, ?_⟩
      fail
      refine oi_add ?_
      refine ⟨_, em, of_decide_eq_true rfl, ?_⟩
      fail; fail
      refine wt_cmp ?_
      refine we_callB (id := "len") ?_ (free_len T)
      fail; fail; fail
      refine c_len .lst ?_
      refine we_fld ?_
      fail
      refine ⟨_, _, _, OAt.rf mup_same, cl, no_Store_late T, rfl, ?_⟩
      fail
      rw [List.length_map]
      refine ⟨_, rfl, iteB (fun h => ?_) fun h => ?_⟩
      · have hle : (hs.length : Int) ≤ late := of_decide_eq_true h
        fail
        refine ws_fld ?_
        refine we_callTy (T := "tuple") ?_ (free_tuple T)
        fail; fail; fail
        refine c_tup .lst ?_
        fail
        refine ⟨x, _, _, rfl, mup_same, cl, no_Store_held T, of_decide_eq_true rfl, ?_⟩
        fail; fail; fail
        rw [mup_mup]
        unfold hd' putH putL at q5
        rw [if_pos hle, if_pos hle, if_pos hle] at q5
        exact q5
      · have hgt : ¬ (hs.length : Int) ≤ late := of_decide_eq_false h
        obtain ⟨h0', ht, eh⟩ : ∃ a t, hs = a :: t := by
          cases hs with
          | nil => simp at hlen
          | cons a t => exact ⟨a, t, rfl⟩
        subst eh
        unfold hd' putH putL at q5
        rw [if_neg hgt, if_neg hgt, if_neg hgt] at q5
        fail; fail
        refine ws_fld ?_
        refine we_callTy (T := "tuple") ?_ (free_tuple T)
        fail
        refine we_slL ?_
        fail
        refine wo_some ?_
        fail
        refine ⟨1, rfl, ?_⟩
        refine wo_no ?_
        refine ⟨_, .lst, .inl ?_⟩
        fail
        rw [cut_tail]
        refine c_tup .lst ?_
        fail
        refine ⟨x, _, _, rfl, mup_same, cl, no_Store_held T, of_decide_eq_true rfl, ?_⟩
        fail
        refine ws_fld ?_
        refine we_ix ?_
        fail; fail
        refine ⟨0, .int h0', rfl, ix0, ?_⟩
        fail
        refine ⟨x, _, _, rfl, mup_same, cl, no_Store_last T, of_decide_eq_true rfl, ?_⟩
        fail; fail
        refine we_fld ?_
        fail
        refine ⟨_, _, .int h0', OAt.rf mup_same, cl, no_Store_last T, rfl, ?_⟩
        rw [mup_mup, mup_mup]
        exact q5
    fail; fail; fail
    refine wt_and2 ?_
    fail
    refine we_fld ?_
    fail
    refine ⟨_, _, _, OAt.rf em, cl, no_Store_last T, rfl, ?_⟩
    fail
    cases last with
    | none =>
      refine o_ntN ?_
      refine ⟨_, rfl, iteB (fun h => ?_) fun h => ?_⟩
      · cases h
      · fail
        exact rest (fun l e => by cases e)
    | some l =>
      refine o_ntN' rfl ?_
      refine ⟨_, rfl, iteB (fun h => ?_) fun h => ?_⟩
      · fail; fail
        refine we_fld ?_
        fail
        refine ⟨_, _, .int l, OAt.rf em, cl, no_Store_last T, rfl, ?_⟩
        fail
        refine ⟨_, rfl, iteB (fun h => ?_) fun h => ?_⟩
        · refine wss_cons (ws_raise (err_Unf T _ rfl rfl rfl rfl rfl (hr.mono (by decide))) rfl ?_)
          fail
          refine we_fld ?_
          fail
          refine ⟨_, _, .int pl, OAt.rf em, cl, no_Store_places T, rfl, ?_⟩
          fail
          exact ⟨rfl, by decide, M, Msub.refl, q3 l rfl (of_decide_eq_true h)⟩
        · fail
          exact rest (fun l' e => by cases e; exact of_decide_eq_false h)
      · cases h
end
end K60

set_option Elab.async false
set_option linter.all false
set_option maxRecDepth 100000
set_option maxHeartbeats 1000000
namespace K60
open PySem PySem.Spec PyProof.Rows L2 JQ
local macro_rules | `(tactic| fail) => `(tactic| first | refine o_add ?_ | refine o_sub ?_ | refine o_lt ?_ | refine o_le ?_ | refine o_gt ?_ | refine o_ge ?_ | refine o_eqI ?_ | refine o_neI ?_)
local macro_rules | `(tactic| fail) => `(tactic| first | refine wa_cons ?_ | refine wa_nil ?_ | refine wk_cons ?_ | refine wk_nil ?_)
local macro_rules | `(tactic| fail) => `(tactic| first | refine wt_cmp ?_ | refine wt_chain ?_ | refine wt_not ?_ | refine wt_and2 ?_ | refine wt_or2 ?_)
local macro_rules | `(tactic| fail) => `(tactic| first | refine we_int ?_ | refine we_str ?_ | refine we_bl ?_ | refine we_non ?_ | refine we_tup ?_ | refine we_bin ?_ | refine we_cmp ?_ | refine we_chain ?_ | refine we_not ?_ | refine we_un ?_ | refine we_and ?_ | refine we_or ?_ | refine we_one ?_ | refine we_ifx ?_)
local macro_rules | `(tactic| fail) => `(tactic| first | refine we_var 0 (by rfl) ?_ | refine we_var 1 (by rfl) ?_ | refine we_var 2 (by rfl) ?_ | refine we_var 3 (by rfl) ?_ | refine we_var 4 (by rfl) ?_ | refine we_var 5 (by rfl) ?_ | refine we_var 6 (by rfl) ?_ | refine we_var 7 (by rfl) ?_ | refine we_var 8 (by rfl) ?_ | refine we_var 9 (by rfl) ?_ | refine we_var 10 (by rfl) ?_ | refine we_var 11 (by rfl) ?_)
local macro_rules | `(tactic| fail) => `(tactic| first | refine ws_ret ?_ | refine ws_retN ?_ | refine ws_if ?_ | refine ws_expr ?_ | refine ws_set 0 (by assumption) ?_ | refine ws_set 1 (by assumption) ?_ | refine ws_set 2 (by assumption) ?_ | refine ws_set 3 (by assumption) ?_ | refine ws_set 4 (by assumption) ?_ | refine ws_set 5 (by assumption) ?_ | refine ws_set 6 (by assumption) ?_ | refine ws_set 7 (by assumption) ?_ | refine ws_set 8 (by assumption) ?_ | refine ws_set 9 (by assumption) ?_ | refine ws_set 10 (by assumption) ?_ | refine ws_set 11 (by assumption) ?_)
local macro_rules | `(tactic| fail) => `(tactic| first | refine wss_cons ?_ | refine wss_nil ?_)
section
variable {P : Program} {w : World} {K : PySem.W.Frag} {mg : Str → Option Value} {base : Heap}
/-! ### the pen -/
abbrev pen (cells : List Int) (at_ great : Int) : MO := .lst [.lst (cells.map D.int), .int at_, .int great]
def SPen : Sd := fun ds M P _ => ∃ ns : List Int, ds = [.scr (ns.map D.int)] ∧ ns.length ≤ 63 ∧ ∀ p, M p = none → P (.rf p) (mup M p (pen ns 0 0))
theorem len_SPen : ∀ ds M P EE, SPen ds M P EE → ds.length = 1 := fun ds M P EE ⟨ns, e, _⟩ => by rw [e]; rfl
theorem sc_l_pen : FnScope ["_law_script"] ["_law_script"] (defScope s_l_pen) := ⟨rfl, rfl, rfl, by decide +kernel, rfl, by decide +kernel, by decide +kernel⟩
theorem cut_63 {α : Type} {xs : List α} (h : xs.length ≤ 63) : cutL xs none (some 63) = xs := by
  have e1 : HT.sIx xs.length 0 none = 0 := rfl
  have e2 : HT.sIx xs.length xs.length (some 63) = xs.length := by unfold HT.sIx; simp; omega
  unfold cutL
  rw [e1, e2]
  simp
theorem kf_pen (T : Tx K mg) : KF P w K mg base 1 "_law_pen" 1 [] SPen := by
  obtain ⟨fd, F⟩ := F_l_pen T
  refine ⟨_, fd, ["_law_script"], ?_, bndD F 1 [] (fun _ _ _ _ _ _ us ws h1 h2 => match us, ws, h1, h2 with | [_], [], _, _ => rfl), g_l_pen T, F.kp⟩
  refine fnDD F sc_l_pen len_SPen fun cdv A outer s H E hg hr ds M Pd EE ⟨ns, e, hl, q⟩ => ?_
  subst e
  repeat fail
  refine we_lst ?_
  repeat fail
  refine we_callTy (T := "list") ?_ (free_list T)
  repeat fail
  refine we_slS ?_
  repeat fail
  refine wo_no (wo_some ?_)
  repeat fail
  refine ⟨63, rfl, _, rfl, .inl ?_⟩
  rw [cut_63 (by rw [List.length_map]; exact hl)]
  repeat fail
  refine c_lst .lst (.inl ?_)
  repeat fail
  exact ⟨(by decide : 3 ≤ sizeLine), .inr q⟩
def SDraw : Sd := fun ds M P _ => ∃ p cells at_ great n, ds = [.rf p, .int n] ∧ M p = some (pen cells at_ great) ∧ cells.length ≤ 63 ∧ 0 ≤ at_ ∧ at_ < 1000000 ∧ 0 < n ∧ n < 2 ^ 200 ∧ ∀ k at' great', 0 ≤ k → k < n → at_ ≤ at' → at' ≤ at_ + 1 → P (.int k) (mup M p (pen cells at' great'))
theorem len_SDraw : ∀ ds M P EE, SDraw ds M P EE → ds.length = 2 := fun ds M P EE ⟨p, c, a, g, n, e, _⟩ => by rw [e]; rfl
theorem sc_l_draw : FnScope ["_law_pen_here", "_law_many", "_law_digit", "_law_at", "_law_cell", "_law_great", "_law_mixed"] ["_law_pen_here", "_law_many"] (defScope s_l_draw) := ⟨rfl, rfl, rfl, by decide +kernel, rfl, by decide +kernel, by decide +kernel⟩
theorem divW {n : Int} (i : Int) (h0 : 0 < n) (h : n < 2 ^ 200) : CDivW i n := wide_div (b := 200) h0 (by omega) (by decide) (by decide)
theorem kf_draw (T : Tx K mg) : KF P w K mg base 2 "_law_draw" 2 [] SDraw := by
  obtain ⟨fd, F⟩ := F_l_draw T
  refine ⟨_, fd, ["_law_pen_here", "_law_many"], ?_, bndD F 2 [] (fun _ _ _ _ _ _ us ws h1 h2 => match us, ws, h1, h2 with | [_, _], [], _, _ => rfl), g_l_draw T, F.kp⟩
  refine fnDD F sc_l_draw len_SDraw fun cdv A outer s H E hg hr ds M Pd EE ⟨p, cells, at_, great, n, e, em, hc, ha0, ha1, hn0, hn1, q⟩ => ?_
  subst e
  have nd := sc_l_draw.nd
  have fi := free_int T
  have m0' : ∀ x : Int, 0 ≤ x % n := fun x => Int.emod_nonneg x (by omega)
  have m1' : ∀ x : Int, x % n < n := fun x => Int.emod_lt_of_pos x hn0
  repeat fail
  refine we_ix ?_
  repeat fail
  refine ⟨2, .int great, rfl, ⟨_, em, rfl⟩, ?_⟩
  repeat fail
  refine ⟨_, rfl, iteB (fun h => ?_) fun h => ?_⟩
  · fail; fail; fail
    refine we_callTy (T := "int") ?_ fi
    repeat fail
    refine we_ix ?_
    repeat fail
    refine ⟨2, .int great, rfl, ⟨_, em, rfl⟩, ?_⟩
    repeat fail
    refine c_int ?_
    repeat fail
    refine o_mod hn0 ?_
    repeat fail
    refine ws_asg (T := []) ?_
    repeat fail
    refine we_callTy (T := "int") ?_ fi
    repeat fail
    refine we_ix ?_
    repeat fail
    refine ⟨2, .int great, rfl, ⟨_, em, rfl⟩, ?_⟩
    repeat fail
    refine c_int ?_
    repeat fail
    refine o_fdivW (divW _ hn0 hn1) ?_
    refine wg_ix ?_
    repeat fail
    refine ⟨p, _, 2, 2, rfl, rfl, em, rfl, ?_⟩
    repeat fail
    exact q _ _ _ (m0' _) (m1' _) (by omega) (by omega)
  · have em1 : mup M p (pen cells (at_ + 1) great) p = some (pen cells (at_ + 1) great) := mup_same
    have rest : ∀ cell : Int, WSs (bdOf P w K mg base ["_law_pen_here", "_law_many", "_law_digit", "_law_at", "_law_cell", "_law_great", "_law_mixed"] "_law_draw" (defScope s_l_draw) (He.ga K "_law_draw") cdv A outer s H E EE) ((defBody s_l_draw).drop 5)
        (((startS ["_law_pen_here", "_law_many", "_law_digit", "_law_at", "_law_cell", "_law_great", "_law_mixed"] [.rf p, .int n]).set 3 (some (.int at_))).set 4 (some (.int cell))) (mup M p (pen cells (at_ + 1) great)) { nx := fun _ => Pd .non, rt := Pd } := fun cell => by
      repeat fail
      refine we_callB (id := "len") ?_ (free_len T)
      repeat fail
      refine we_ix ?_
      repeat fail
      refine ⟨0, .lst (cells.map D.int), rfl, ⟨_, em1, rfl⟩, ?_⟩
      repeat fail
      refine c_len .lst ?_
      repeat fail
      refine ⟨_, rfl, ?_⟩
      -- the last three rows
      have mix : WSs (bdOf P w K mg base ["_law_pen_here", "_law_many", "_law_digit", "_law_at", "_law_cell", "_law_great", "_law_mixed"] "_law_draw" (defScope s_l_draw) (He.ga K "_law_draw") cdv A outer s H E EE) ((defBody s_l_draw).drop 6)
          (((startS ["_law_pen_here", "_law_many", "_law_digit", "_law_at", "_law_cell", "_law_great", "_law_mixed"] [.rf p, .int n]).set 3 (some (.int at_))).set 4 (some (.int cell))) (mup M p (pen cells (at_ + 1) great)) { nx := fun _ => Pd .non, rt := Pd } := by
        have c0 : 0 ≤ cell % 2147483647 := Int.emod_nonneg _ (by decide)
        have c1 : cell % 2147483647 < 2147483647 := Int.emod_lt_of_pos _ (by decide)
        repeat fail
        refine we_callTy (T := "int") ?_ fi
        repeat fail
        refine we_callTy (T := "int") ?_ fi
        repeat fail
        refine c_int ?_
        repeat fail
        refine o_mod (by decide) ?_
        repeat fail
        refine o_mul (.inl (by decide)) ?_
        repeat fail
        refine o_pow ⟨by decide, by decide, by omega⟩ ?_
        repeat fail
        refine c_int ?_
        repeat fail
        refine o_mod (by decide) ?_
        generalize hm1 : ((cell % 2147483647 + 43627 * at_ + 1489) ^ (5 : Int).toNat) % 2147483497 = mx
        have x0 : 0 ≤ mx := by rw [← hm1]; exact Int.emod_nonneg _ (by decide)
        have x1 : mx < 2147483497 := by rw [← hm1]; exact Int.emod_lt_of_pos _ (by decide)
        have b1 : mx * (2 * at_ + 541) ≤ 2147483497 * (2 * 1000000 + 541) := Int.mul_le_mul (by omega) (by omega) (by omega) (by omega)
        have b0 : 0 ≤ mx * (2 * at_ + 541) := Int.mul_nonneg x0 (by omega)
        have b2 : 64709 * at_ * at_ ≤ 64709 * 1000000 * 1000000 := Int.mul_le_mul (by omega) (by omega) (by omega) (by omega)
        have b3 : 0 ≤ 64709 * at_ * at_ := Int.mul_nonneg (by omega) ha0
        repeat fail
        refine we_callTy (T := "int") ?_ fi
        repeat fail
        refine o_mul (.inl (by decide)) ?_
        repeat fail
        refine o_mul (.inl (by omega)) ?_
        repeat fail
        refine o_mul (.inl (by decide)) ?_
        repeat fail
        refine o_mul (.inr (by omega)) ?_
        repeat fail
        refine o_pow ⟨by decide, by decide, by omega⟩ ?_
        repeat fail
        refine c_int ?_
        repeat fail
        refine o_mod (by decide) ?_
        repeat fail
        refine we_callTy (T := "int") ?_ fi
        repeat fail
        refine o_fdiv ⟨by decide, by decide⟩ ?_
        repeat fail
        refine c_int ?_
        repeat fail
        refine o_mod hn0 ?_
        exact q _ _ _ (m0' _) (m1' _) (by omega) (by omega)
      refine iteB (fun h1 => ?_) fun h1 => ?_
      · refine wt_cmp ?_
        refine we_callB (id := "abs") ?_ (free_abs T)
        repeat fail
        refine c_abs ?_
        repeat fail
        refine o_pow ⟨by decide, by decide, by decide⟩ ?_
        repeat fail
        refine ⟨_, rfl, iteB (fun h2 => ?_) fun h2 => ?_⟩
        · fail; fail; fail
          refine we_callB (id := "abs") ?_ (free_abs T)
          repeat fail
          refine c_abs ?_
          repeat fail
          refine o_pow ⟨by decide, by decide, by decide⟩ ?_
          repeat fail
          refine ws_asg (T := []) ?_
          repeat fail
          refine we_callTy (T := "int") ?_ fi
          repeat fail
          refine c_int ?_
          repeat fail
          refine o_fdivW (divW _ hn0 hn1) ?_
          refine wg_ix ?_
          repeat fail
          refine ⟨p, _, 2, 2, rfl, rfl, em1, rfl, ?_⟩
          repeat fail
          refine we_callTy (T := "int") ?_ fi
          repeat fail
          refine c_int ?_
          repeat fail
          refine o_mod hn0 ?_
          rw [mup_mup]
          exact q _ _ _ (m0' _) (m1' _) (by omega) (by omega)
        · fail
          exact mix
      · fail
        exact mix
    repeat fail
    refine we_ix ?_
    repeat fail
    refine ⟨1, .int at_, rfl, ⟨_, em, rfl⟩, ?_⟩
    repeat fail
    refine ws_asg (T := []) ?_
    repeat fail
    refine wg_ix ?_
    repeat fail
    refine ⟨p, _, 1, 1, rfl, rfl, em, rfl, ?_⟩
    repeat fail
    refine o_mul (.inl (by decide)) ?_
    repeat fail
    refine we_ix ?_
    repeat fail
    refine ⟨0, .lst (cells.map D.int), rfl, ⟨_, mup_same, rfl⟩, ?_⟩
    refine we_lst ?_
    repeat fail
    refine ⟨by decide, .inl ?_⟩
    refine o_neD (d := .lst (cells.map D.int)) (e := .lst []) hr.units (.self (plain_ints cells)) (.self rfl) (shaped_ints cells) rfl ?_
    refine ⟨_, rfl, iteB (fun h1 => ?_) fun h1 => ?_⟩
    · have hne : cells ≠ [] := fun z => by rw [z] at h1; cases h1
      have hpos : (0 : Int) < cells.length := by
        cases cells with
        | nil => exact absurd rfl hne
        | cons c cs => simp only [List.length_cons]; omega
      repeat fail
      refine we_ix ?_
      refine we_ix ?_
      repeat fail
      refine ⟨0, .lst (cells.map D.int), rfl, ⟨_, mup_same, rfl⟩, ?_⟩
      repeat fail
      refine we_callTy (T := "int") ?_ fi
      repeat fail
      refine c_int ?_
      refine we_callB (id := "len") ?_ (free_len T)
      repeat fail
      refine we_ix ?_
      repeat fail
      refine ⟨0, .lst (cells.map D.int), rfl, ⟨_, mup_same, rfl⟩, ?_⟩
      repeat fail
      refine c_len .lst ?_
      rw [List.length_map]
      refine o_mod hpos ?_
      have y0 : 0 ≤ at_ % (cells.length : Int) := Int.emod_nonneg _ (by omega)
      have y1 : at_ % (cells.length : Int) < cells.length := Int.emod_lt_of_pos _ hpos
      obtain ⟨j, hj⟩ : ∃ j : Nat, at_ % (cells.length : Int) = (j : Int) := ⟨(at_ % (cells.length : Int)).toNat, by omega⟩
      rw [hj] at y1 ⊢
      have hjl : j < cells.length := by omega
      refine ⟨j, .int cells[j], rfl, atI_of (by simp [hjl]), ?_⟩
      fail
      exact rest _
    · fail
      exact rest _
end
end K60

set_option Elab.async false
set_option linter.all false
set_option maxRecDepth 100000
set_option maxHeartbeats 1000000
namespace K60
open PySem PySem.Spec PyProof.Rows L2 JQ
/-! ### a fact on lists -/
theorem nodup_len : ∀ {as bs : List Int}, as.Nodup → (∀ x, x ∈ as → x ∈ bs) → as.length ≤ bs.length
  | [], bs, _, _ => Nat.zero_le _
  | a :: as, bs, h, s => by
    obtain ⟨h1, h2⟩ := List.nodup_cons.mp h
    have ha : a ∈ bs := s a List.mem_cons_self
    have ih := nodup_len (as := as) (bs := bs.erase a) h2 fun x hx => by
      have hne : x ≠ a := fun e => h1 (e ▸ hx)
      exact (List.mem_erase_of_ne hne).mpr (s x (List.mem_cons_of_mem _ hx))
    have hl := List.length_erase_of_mem ha
    have hp : 0 < bs.length := List.length_pos_of_mem ha
    rw [List.length_cons]
    omega
/-! ### an order -/
/-- behind x places: what is left, what has come -/
structure Ord (e l n : Int) (x : Nat) (ls rs : List Int) : Prop where
  len : rs.length = x
  asc : ls.Pairwise (· < ·)
  mem : ∀ r, (r ∈ ls ∨ r ∈ rs) ↔ (0 ≤ r ∧ r < n + e)
  dis : ∀ r, r ∈ ls → r ∉ rs
  nd : rs.Nodup
  late : ∀ y : Nat, y < x → ∀ r : Int, 0 ≤ r → r ≤ (y : Int) - l → r ∈ rs.take (y + 1)
theorem ord_start {e l n : Int} (h : 0 ≤ n + e) : Ord e l n 0 (rngI 0 (n + e).toNat) [] where
  len := rfl
  asc := by
    unfold rngI
    rw [List.pairwise_map]
    exact List.pairwise_lt_range.imp fun h => by omega
  mem := fun r => by
    unfold rngI
    simp only [List.mem_map, List.mem_range, List.not_mem_nil, or_false]
    constructor
    · rintro ⟨i, hi, rfl⟩; omega
    · intro h; exact ⟨r.toNat, by omega, by omega⟩
  dis := fun r _ h => by cases h
  nd := List.nodup_nil
  late := fun y hy => by omega
theorem ord_open {e l n : Int} {x : Nat} {ls rs : List Int} (o : Ord e l n x ls rs) (he : 0 ≤ e) (hx : (x : Int) < n) : ∃ r ∈ ls, r ≤ (x : Int) + e := by
  refine Classical.byContradiction fun c => ?_
  have all : ∀ r : Int, 0 ≤ r → r ≤ x → r ∈ rs := fun r h0 h1 => by
    rcases (o.mem r).mpr ⟨h0, by omega⟩ with h | h
    · exact absurd ⟨r, h, by omega⟩ c
    · exact h
  have h := nodup_len (as := (List.range (x + 1)).map fun (i : Nat) => (i : Int)) (bs := rs) (by
    rw [List.Nodup, List.pairwise_map]
    exact List.pairwise_lt_range.imp fun h => by omega) (fun r hr => by
    obtain ⟨i, hi, rfl⟩ := List.mem_map.mp hr
    have := List.mem_range.mp hi
    exact all _ (by omega) (by omega))
  rw [List.length_map, List.length_range, o.len] at h
  omega
theorem ord_step {e l n : Int} {x k : Nat} {ls rs : List Int} {r : Int} (o : Ord e l n x ls rs) (hk : ls[k]? = some r) (hl : ∀ a, ls[0]? = some a → a ≤ (x : Int) - l → k = 0) (h1 : 0 < l) : Ord e l n (x + 1) (ls.eraseIdx k) (rs ++ [r]) := by
  have hkl := (List.getElem?_eq_some_iff.mp hk).1
  have hr : r ∈ ls := List.mem_of_getElem? hk
  have hnr := o.dis r hr
  have lsnd : ls.Nodup := o.asc.imp fun h => by omega
  have mem_er : ∀ y, y ∈ ls.eraseIdx k ↔ y ∈ ls ∧ y ≠ r := fun y => by
    rw [List.mem_eraseIdx_iff_getElem?]
    constructor
    · rintro ⟨i, hi, hy⟩
      refine ⟨List.mem_of_getElem? hy, fun z => ?_⟩
      subst z
      have hil := (List.getElem?_eq_some_iff.mp hy).1
      exact hi ((List.getElem?_inj hil lsnd).mp (hy.trans hk.symm))
    · rintro ⟨hy, hne⟩
      obtain ⟨i, hi⟩ := List.mem_iff_getElem?.mp hy
      refine ⟨i, fun z => ?_, hi⟩
      subst z
      rw [hk] at hi
      exact hne (Option.some.inj hi).symm
  refine ⟨by rw [List.length_append, o.len]; rfl, o.asc.sublist (List.eraseIdx_sublist ..), fun y => ?_, fun y hy => ?_, ?_, fun y hy r' h0 hle => ?_⟩
  · rw [← o.mem y, mem_er, List.mem_append, List.mem_singleton]
    constructor
    · rintro (⟨h, _⟩ | h | h)
      · exact .inl h
      · exact .inr h
      · exact .inl (h ▸ hr)
    · rintro (h | h)
      · by_cases c : y = r
        · exact .inr (.inr c)
        · exact .inl ⟨h, c⟩
      · exact .inr (.inl h)
  · obtain ⟨h, hne⟩ := (mem_er y).mp hy
    rw [List.mem_append, List.mem_singleton]
    rintro (h | h)
    · exact o.dis y (by assumption) h
    · exact hne h
  · rw [List.nodup_append]
    exact ⟨o.nd, by simp, fun a ha b hb => by
      rw [List.mem_singleton] at hb
      subst hb
      exact fun z => hnr (z ▸ ha)⟩
  · by_cases c : y < x
    · have := o.late y c r' h0 hle
      rw [List.take_append_of_le_length (by rw [o.len]; omega)]
      exact this
    · have ey : y = x := by omega
      subst ey
      rw [List.take_of_length_le (by rw [List.length_append, o.len]; simp)]
      rw [List.mem_append, List.mem_singleton]
      by_cases cr : r' ∈ rs
      · exact .inl cr
      · right
        have hn : r' < n + e := by
          have := (o.mem r).mp (.inl hr)
          cases hls : ls with
          | nil => rw [hls] at hr; cases hr
          | cons a t =>
            refine Classical.byContradiction fun z => ?_
            have hxn : (y : Int) - l < n + e := by
              have h3 := nodup_len (as := rs) (bs := rngI 0 (n + e).toNat) o.nd (fun q hq => by
                have := (o.mem q).mp (.inr hq)
                unfold rngI
                exact List.mem_map.mpr ⟨q.toNat, List.mem_range.mpr (by omega), by omega⟩)
              unfold rngI at h3
              rw [List.length_map, List.length_range, o.len] at h3
              omega
            omega
        rcases (o.mem r').mpr ⟨h0, hn⟩ with h | h
        · cases hls : ls with
          | nil => rw [hls] at h; cases h
          | cons a t =>
            rw [hls] at h hl hk
            have ha : a ≤ r' := by
              rcases List.mem_cons.mp h with z | z
              · omega
              · have := (List.pairwise_cons.mp (hls ▸ o.asc)).1 r' z
                omega
            have hk0 := hl a rfl (by omega)
            subst hk0
            have er : a = r := Option.some.inj hk
            have hf : (y : Int) - l ≤ a := by
              rcases Nat.eq_zero_or_pos y with hy0 | hy0
              · have := (o.mem a).mp (.inl (by rw [hls]; exact List.mem_cons_self))
                omega
              · refine Classical.byContradiction fun c => ?_
                have hm := (o.mem a).mp (.inl (by rw [hls]; exact List.mem_cons_self))
                have h2 := o.late (y - 1) (by omega) a hm.1 (by omega)
                exact o.dis a (by rw [hls]; exact List.mem_cons_self) (List.mem_of_mem_take h2)
            omega
        · exact absurd h cr
end K60

set_option Elab.async false
set_option linter.all false
set_option maxRecDepth 100000
set_option maxHeartbeats 1000000
namespace K60
open PySem PySem.Spec PyProof.Rows L2 JQ
local macro_rules | `(tactic| fail) => `(tactic| first | refine o_add ?_ | refine o_sub ?_ | refine o_lt ?_ | refine o_le ?_ | refine o_gt ?_ | refine o_ge ?_ | refine o_eqI ?_ | refine o_neI ?_)
local macro_rules | `(tactic| fail) => `(tactic| first | refine wa_cons ?_ | refine wa_nil ?_ | refine wk_cons ?_ | refine wk_nil ?_)
local macro_rules | `(tactic| fail) => `(tactic| first | refine wt_cmp ?_ | refine wt_chain ?_ | refine wt_not ?_ | refine wt_and2 ?_ | refine wt_or2 ?_)
local macro_rules | `(tactic| fail) => `(tactic| first | refine we_int ?_ | refine we_str ?_ | refine we_bl ?_ | refine we_non ?_ | refine we_tup ?_ | refine we_bin ?_ | refine we_cmp ?_ | refine we_chain ?_ | refine we_not ?_ | refine we_un ?_ | refine we_and ?_ | refine we_or ?_ | refine we_one ?_ | refine we_ifx ?_)
local macro_rules | `(tactic| fail) => `(tactic| first | refine we_var 0 (by rfl) ?_ | refine we_var 1 (by rfl) ?_ | refine we_var 2 (by rfl) ?_ | refine we_var 3 (by rfl) ?_ | refine we_var 4 (by rfl) ?_ | refine we_var 5 (by rfl) ?_ | refine we_var 6 (by rfl) ?_ | refine we_var 7 (by rfl) ?_ | refine we_var 8 (by rfl) ?_ | refine we_var 9 (by rfl) ?_ | refine we_var 10 (by rfl) ?_ | refine we_var 11 (by rfl) ?_)
local macro_rules | `(tactic| fail) => `(tactic| first | refine ws_ret ?_ | refine ws_retN ?_ | refine ws_if ?_ | refine ws_expr ?_ | refine ws_set 0 (by assumption) ?_ | refine ws_set 1 (by assumption) ?_ | refine ws_set 2 (by assumption) ?_ | refine ws_set 3 (by assumption) ?_ | refine ws_set 4 (by assumption) ?_ | refine ws_set 5 (by assumption) ?_ | refine ws_set 6 (by assumption) ?_ | refine ws_set 7 (by assumption) ?_ | refine ws_set 8 (by assumption) ?_ | refine ws_set 9 (by assumption) ?_ | refine ws_set 10 (by assumption) ?_ | refine ws_set 11 (by assumption) ?_)
local macro_rules | `(tactic| fail) => `(tactic| first | refine wss_cons ?_ | refine wss_nil ?_)
theorem erase_map {α β : Type} (f : α → β) : ∀ (l : List α) (k : Nat), (l.map f).eraseIdx k = (l.eraseIdx k).map f
  | [], _ => rfl
  | _ :: _, 0 => rfl
  | x :: l, k + 1 => by
    rw [List.map_cons, List.eraseIdx_cons_succ, List.eraseIdx_cons_succ, List.map_cons, erase_map f l k]
section
variable {P : Program} {w : World} {K : PySem.W.Frag} {mg : Str → Option Value} {base : Heap}
def SPick : Sd := fun ds M P _ => ∃ p cells at_ great xs, ds = [.rf p, .lst xs] ∧ M p = some (pen cells at_ great) ∧ cells.length ≤ 63 ∧ 0 ≤ at_ ∧ at_ < 1000000 ∧ 0 < xs.length ∧ xs.length < 1000000 ∧ ∀ (i : Nat) d at' great', xs[i]? = some d → at_ ≤ at' → at' ≤ at_ + 1 → P d (mup M p (pen cells at' great'))
theorem len_SPick : ∀ ds M P EE, SPick ds M P EE → ds.length = 2 := fun ds M P EE ⟨p, c, a, g, n, e, _⟩ => by rw [e]; rfl
theorem sc_l_pick : FnScope ["_law_pen_here", "_law_some"] ["_law_pen_here", "_law_some"] (defScope s_l_pick) := ⟨rfl, rfl, rfl, by decide +kernel, rfl, by decide +kernel, by decide +kernel⟩
theorem kf_pick (T : Tx K mg) : KF P w K mg base 3 "_law_pick" 2 [] SPick := by
  obtain ⟨fd, F⟩ := F_l_pick T
  refine ⟨_, fd, ["_law_pen_here", "_law_some"], ?_, bndD F 2 [] (fun _ _ _ _ _ _ us ws h1 h2 => match us, ws, h1, h2 with | [_, _], [], _, _ => rfl), g_l_pick T, F.kp⟩
  refine fnDD F sc_l_pick len_SPick fun cdv A outer s H E hg hr ds M Pd EE ⟨p, cells, at_, great, xs, e, em, hc, ha0, ha1, hx0, hx1, q⟩ => ?_
  subst e
  repeat fail
  refine we_ix ?_
  repeat fail
  refine we_fn (kf_draw T) hg (hr.mono (by decide)) ?_ rfl (hlen := len_SDraw)
  repeat fail
  refine we_callB (id := "len") ?_ (free_len T)
  repeat fail
  refine c_len .lst ?_
  repeat fail
  refine ⟨p, cells, at_, great, _, rfl, em, hc, ha0, ha1, by omega, by omega, fun k at' great' h0 h1 h2 h3 => ?_⟩
  obtain ⟨j, rfl⟩ : ∃ j : Nat, k = (j : Int) := ⟨k.toNat, by omega⟩
  have hj : j < xs.length := by omega
  refine ⟨j, xs[j], rfl, ?_, q j _ at' great' (by simp [hj]) h2 h3⟩
  exact atI_of (by simp [hj])
def SOrd : Sd := fun ds M P _ => ∃ p cells at_ great e l n, ds = [.rf p, .int e, .int l, .int n] ∧ M p = some (pen cells at_ great) ∧ cells.length ≤ 63 ∧ 0 ≤ at_ ∧ at_ < 100000 ∧ 0 < e ∧ 0 < l ∧ 0 < n ∧ e ≤ 100 ∧ l ≤ 100 ∧ n ≤ 100 ∧
  ∀ ls rs at' great', Ord e l n n.toNat ls rs → at_ ≤ at' → at' ≤ at_ + 2 * n → P (.lst (rs.map D.int)) (mup M p (pen cells at' great'))
theorem len_SOrd : ∀ ds M P EE, SOrd ds M P EE → ds.length = 4 := fun ds M P EE ⟨p, c, a, g, x, y, n, e, _⟩ => by rw [e]; rfl
abbrev N_ord : List Str := ["_law_pen_here", "_law_early", "_law_late", "_law_many", "_law_left", "_law_rows", "_law_place", "_law_open_ones", "_law_at", "_law_rank"]
theorem sc_l_order : FnScope N_ord ["_law_pen_here", "_law_early", "_law_late", "_law_many"] (defScope s_l_order) := ⟨rfl, rfl, rfl, by decide +kernel, rfl, by decide +kernel, by decide +kernel⟩
theorem kf_order (T : Tx K mg) : KF P w K mg base 4 "_law_order" 4 [] SOrd := by
  obtain ⟨fd, F⟩ := F_l_order T
  refine ⟨_, fd, ["_law_pen_here", "_law_early", "_law_late", "_law_many"], ?_, bndD F 4 [] (fun _ _ _ _ _ _ us ws h1 h2 => match us, ws, h1, h2 with | [_, _, _, _], [], _, _ => rfl), g_l_order T, F.kp⟩
  refine fnDD F sc_l_order len_SOrd fun cdv A outer s H E hg hr ds M Pd EE ⟨p, cells, at_, great, e, l, n, e', em, hc, ha0, ha1, he, hl, hn, he1, hl1, hn1, q⟩ => ?_
  subst e'
  have nd := sc_l_order.nd
  fail
  refine ws_par 4 5 rfl nd ?_
  fail
  refine we_lrg1 rfl (free_list T) (free_range T) ?_
  repeat fail
  refine ⟨n + e, rfl, .of_le (by decide) (by omega) (by decide) (by omega), .inr fun L1 hL1 => ?_⟩
  fail
  refine we_lst ?_
  fail
  refine ⟨by decide, .inr fun L2 hL2 => ?_⟩
  fail
  refine ⟨_, _, rfl, ?_⟩
  have n12 : L2 ≠ L1 := fun z => by rw [z, mup_same] at hL2; cases hL2
  have hp1 : p ≠ L1 := fun z => by rw [z, hL1] at em; cases em
  have hp2 : p ≠ L2 := fun z => by rw [← z, mup_ne hp1, em] at hL2; cases hL2
  -- the loop
  fail
  refine ws_for (T := [6]) (passes_of rfl) rfl ?_
  refine wi_rng1 (free_range T) ?_
  fail
  refine ⟨n, rfl, by omega, by omega, ?_⟩
  rw [rngD_len]
  refine ⟨fun x ss' M' => ∃ s6 s7 s8 : S, ss' = [some (.rf p), some (.int e), some (.int l), some (.int n), some (.rf L1), some (.rf L2), s6, s7, s8, none] ∧ ∃ ls rs at' great', M' = mup (mup (mup M p (pen cells at' great')) L1 (.lst (ls.map D.int))) L2 (.lst (rs.map D.int)) ∧ at_ ≤ at' ∧ at' ≤ at_ + 2 * x ∧ Ord e l n x ls rs, ?_, fun _ _ _ _ => trivial, fun x d ss' M' hd iv => ?_, fun ss' M' iv => ?_⟩
  · refine ⟨none, none, none, rfl, rngI 0 (n + e).toNat, [], at_, great, ?_, by omega, by omega, ord_start (by omega)⟩
    rw [mup_id em, ← rngD_eq]
    rfl
  · obtain ⟨s6, s7, s8, rfl, ls, rs, at', great', rfl, ha2, ha3, o⟩ := iv
    obtain ⟨hx, rfl⟩ := rngD_get hd
    have hxn : (x : Int) < n := by omega
    refine wg_name 6 nd ?_
    obtain ⟨r0, hr0, hr1⟩ := ord_open o (by omega) hxn
    have hLs : ls.length ≤ 1000 := by
      have h := nodup_len (as := ls) (bs := rngI 0 (n + e).toNat) (o.asc.imp fun h => by omega) (fun q hq => by
        have := (o.mem q).mp (.inl hq)
        unfold rngI
        exact List.mem_map.mpr ⟨q.toNat, List.mem_range.mpr (by omega), by omega⟩)
      unfold rngI at h
      rw [List.length_map, List.length_range] at h
      omega
    have e1 : mup (mup (mup M p (pen cells at' great')) L1 (.lst (ls.map D.int))) L2 (.lst (rs.map D.int)) L1 = some (.lst (ls.map D.int)) := by rw [mup_ne (Ne.symm n12), mup_same]
    have e2 : mup (mup (mup M p (pen cells at' great')) L1 (.lst (ls.map D.int))) L2 (.lst (rs.map D.int)) L2 = some (.lst (rs.map D.int)) := mup_same
    have e3 : mup (mup (mup M p (pen cells at' great')) L1 (.lst (ls.map D.int))) L2 (.lst (rs.map D.int)) p = some (pen cells at' great') := by rw [mup_ne hp2, mup_ne hp1, mup_same]
    fail
    refine ws_set 7 nd ?_
    refine we_callB (id := "len") ?_ (free_len T)
    fail
    refine we_lc [("_law_rank", 9)] rfl nd (blkOk_by (N := N_ord) (sc := defScope s_l_order) (by decide +kernel)) ?_
    refine wi_rf ?_
    fail
    refine ⟨L1, _, rfl, e1, ?_⟩
    refine WLc.filter (fun d => match d with | .int r => decide (r ≤ (x : Int) + e) | _ => false) id e1 (by rw [List.length_map]; omega) [9] (by simp) (fun d hd s H C cl fp => ?_) (.inl ?_)
    · obtain ⟨r, hr, rfl⟩ := List.mem_map.mp hd
      refine wg_name 9 nd ?_
      intro s H C cl fp
      repeat fail
      rw [Int.zero_add]
      refine ⟨_, rfl, rfl, rfl, fun _ => ?_⟩
      intro s H C cl fp
      repeat fail
      exact ⟨rfl, rfl⟩
    rw [List.map_id]
    generalize hop : (ls.map D.int).filter (fun d => match d with | .int r => decide (r ≤ (x : Int) + e) | _ => false) = op
    have hop0 : 0 < op.length := by
      rw [← hop]
      exact List.length_pos_of_mem (List.mem_filter.mpr ⟨List.mem_map.mpr ⟨r0, hr0, rfl⟩, decide_eq_true hr1⟩)
    have hopl : op.length ≤ ls.length := by
      rw [← hop]
      refine Nat.le_trans (List.length_filter_le _ _) ?_
      rw [List.length_map]
      exact Nat.le_refl _
    fail
    refine c_len .lst ?_
    fail
    refine ws_set 8 nd ?_
    refine we_fn (kf_pick T) hg (hr.mono (by decide)) ?_ rfl (hlen := len_SPick)
    fail; fail; fail
    refine we_lst ?_
    repeat fail
    refine we_fn (kf_draw T) hg (hr.mono (by decide)) ?_ rfl (hlen := len_SDraw)
    repeat fail
    refine ⟨p, cells, at', great', _, rfl, e3, hc, by omega, by omega, by omega, by omega, fun k1 a1 g1 hk0 hk1 ha4 ha5 => ?_⟩
    fail
    refine ⟨(by decide : 3 ≤ sizeLine), .inl ?_⟩
    fail
    refine ⟨p, cells, a1, g1, _, rfl, mup_same, hc, by omega, by omega, (by decide : 0 < 3), (by decide : 3 < 1000000), fun i d a2 g2 hi ha6 ha7 => ?_⟩
    obtain ⟨j, rfl, hj⟩ : ∃ j : Nat, d = .int (j : Int) ∧ j < op.length := by
      match i, hi with
      | 0, hi => cases hi; exact ⟨0, rfl, hop0⟩
      | 1, hi => cases hi; exact ⟨op.length - 1, by congr 1; omega, by omega⟩
      | 2, hi => cases hi; exact ⟨k1.toNat, by congr 1; omega, by omega⟩
      | i + 3, hi => simp at hi
    rw [mup_mup]
    generalize hM2 : mup (mup (mup (mup M p (pen cells at' great')) L1 (.lst (ls.map D.int))) L2 (.lst (rs.map D.int))) p (pen cells a2 g2) = M2
    have f1 : M2 L1 = some (.lst (ls.map D.int)) := by rw [← hM2, mup_ne (Ne.symm hp1)]; exact e1
    have f2 : M2 L2 = some (.lst (rs.map D.int)) := by rw [← hM2, mup_ne (Ne.symm hp2)]; exact e2
    have f3 : M2 = mup (mup (mup M p (pen cells a2 g2)) L1 (.lst (ls.map D.int))) L2 (.lst (rs.map D.int)) := by
      rw [← hM2, mup_comm (Ne.symm hp2), mup_comm (Ne.symm hp1), mup_mup]
    -- the rest, for a place k
    have rest : ∀ k : Nat, k < ls.length → (∀ a, ls[0]? = some a → a ≤ (x : Int) - l → k = 0) → WSs (bdOf P w K mg base N_ord "_law_order" (defScope s_l_order) (He.ga K "_law_order") cdv A outer s H E EE)
        [match defBody s_l_order with | [_, .For _ _ [_, _, _, z] _ _, _] => z | _ => .Pass ⟨0, 0, 0, 0⟩] [some (.rf p), some (.int e), some (.int l), some (.int n), some (.rf L1), some (.rf L2), some (.int (0 + (x : Int))), some (.int op.length), some (.int (k : Int)), none] M2
        { nx := fun ss' M' => ∃ s6 s7 s8 : S, ss' = [some (.rf p), some (.int e), some (.int l), some (.int n), some (.rf L1), some (.rf L2), s6, s7, s8, none] ∧ ∃ ls rs at' great', M' = mup (mup (mup M p (pen cells at' great')) L1 (.lst (ls.map D.int))) L2 (.lst (rs.map D.int)) ∧ at_ ≤ at' ∧ at' ≤ at_ + 2 * ((x + 1 : Nat) : Int) ∧ Ord e l n (x + 1) ls rs,
          rt := fun _ _ => False } := fun k hk hk0 => by
      fail; fail
      refine we_append ?_
      fail
      refine ⟨L2, rfl, ⟨_, f2⟩, ?_⟩
      refine we_popAt ?_
      fail
      refine ⟨L1, rfl, ⟨_, f1⟩, ?_⟩
      fail
      refine ⟨k, _, k, .int ls[k], rfl, f1, ⟨by omega, by omega⟩, ?_, by simp [hk], ?_⟩
      · rw [List.length_map]
        exact (ixN_seq (ixN_nat hk)).1
      refine ⟨_, by rw [mup_ne n12]; exact f2, by rw [List.length_map, o.len]; exact Nat.lt_of_le_of_lt (by omega : x ≤ 1000) (by decide), ?_⟩
      fail
      refine ⟨_, _, _, rfl, ls.eraseIdx k, rs ++ [ls[k]], a2, g2, ?_, by omega, by omega, ord_step o (by simp [hk]) hk0 hl⟩
      rw [f3, mup_comm (a := L2) (b := L1) n12, mup_mup, mup_mup, erase_map, List.map_append]
      rfl
    have hlsp : 0 < ls.length := List.length_pos_of_mem hr0
    fail; fail; fail
    refine we_ix ?_
    repeat fail
    refine ⟨0, .int ls[0], rfl, ⟨_, f1, atI_of (i := 0) (by simp [hlsp])⟩, ?_⟩
    repeat fail
    refine ⟨_, rfl, iteB (fun h => ?_) fun h => ?_⟩
    · fail; fail; fail; fail
      exact (rest 0 hlsp (fun _ _ _ => rfl)).mono (fun _ _ h => h) (fun _ _ h => h.elim) (fun _ _ h => h.elim) (fun _ _ h => h.elim)
    · fail
      refine (rest j (by omega) (fun a ha hle => ?_)).mono (fun _ _ h => h) (fun _ _ h => h.elim) (fun _ _ h => h.elim) (fun _ _ h => h.elim)
      have e0 : ls[0] = a := by
        rw [List.getElem?_eq_getElem hlsp] at ha
        exact Option.some.inj ha
      have hf := of_decide_eq_false h
      omega
  · obtain ⟨s6, s7, s8, rfl, ls, rs, at', great', rfl, ha2, ha3, o⟩ := iv
    have xL2 : M L2 = none := by rw [mup_ne n12] at hL2; exact hL2
    fail; fail
    refine we_dropR (we_frz ?_)
    fail
    refine ⟨L2, rfl, _, mup_same, mup M p (pen cells at' great'), ?_, q ls rs at' great' o ha2 (by omega)⟩
    rw [mdel_mup (by rw [mup_ne n12, mup_ne (Ne.symm hp2)]; exact xL2)]
    exact msub_up (by rw [mup_ne (Ne.symm hp1)]; exact hL1)
end
end K60

set_option Elab.async false
set_option linter.all false
set_option maxRecDepth 100000
set_option maxHeartbeats 1000000
namespace K60
open PySem PySem.Spec PyProof.Rows L2 JQ
local macro_rules | `(tactic| fail) => `(tactic| first | refine o_add ?_ | refine o_sub ?_ | refine o_lt ?_ | refine o_le ?_ | refine o_gt ?_ | refine o_ge ?_ | refine o_eqI ?_ | refine o_neI ?_)
local macro_rules | `(tactic| fail) => `(tactic| first | refine wa_cons ?_ | refine wa_nil ?_ | refine wk_cons ?_ | refine wk_nil ?_)
local macro_rules | `(tactic| fail) => `(tactic| first | refine wt_cmp ?_ | refine wt_chain ?_ | refine wt_not ?_ | refine wt_and2 ?_ | refine wt_or2 ?_)
local macro_rules | `(tactic| fail) => `(tactic| first | refine we_int ?_ | refine we_str ?_ | refine we_bl ?_ | refine we_non ?_ | refine we_tup ?_ | refine we_bin ?_ | refine we_cmp ?_ | refine we_chain ?_ | refine we_not ?_ | refine we_un ?_ | refine we_and ?_ | refine we_or ?_ | refine we_one ?_ | refine we_ifx ?_)
local macro_rules | `(tactic| fail) => `(tactic| first | refine we_var 0 (by rfl) ?_ | refine we_var 1 (by rfl) ?_ | refine we_var 2 (by rfl) ?_ | refine we_var 3 (by rfl) ?_ | refine we_var 4 (by rfl) ?_ | refine we_var 5 (by rfl) ?_ | refine we_var 6 (by rfl) ?_ | refine we_var 7 (by rfl) ?_ | refine we_var 8 (by rfl) ?_ | refine we_var 9 (by rfl) ?_ | refine we_var 10 (by rfl) ?_ | refine we_var 11 (by rfl) ?_)
local macro_rules | `(tactic| fail) => `(tactic| first | refine ws_ret ?_ | refine ws_retN ?_ | refine ws_if ?_ | refine ws_expr ?_ | refine ws_set 0 (by assumption) ?_ | refine ws_set 1 (by assumption) ?_ | refine ws_set 2 (by assumption) ?_ | refine ws_set 3 (by assumption) ?_ | refine ws_set 4 (by assumption) ?_ | refine ws_set 5 (by assumption) ?_ | refine ws_set 6 (by assumption) ?_ | refine ws_set 7 (by assumption) ?_ | refine ws_set 8 (by assumption) ?_ | refine ws_set 9 (by assumption) ?_ | refine ws_set 10 (by assumption) ?_ | refine ws_set 11 (by assumption) ?_)
local macro_rules | `(tactic| fail) => `(tactic| first | refine wss_cons ?_ | refine wss_nil ?_)
section
variable {P : Program} {w : World} {K : PySem.W.Frag} {mg : Str → Option Value} {base : Heap}
def SLPut (K : PySem.W.Frag) : Sd := fun ds M P _ => ∃ x d late held last pl, ds = [.rf x, d] ∧ M x = some (sto K late held last pl) ∧ known d = true ∧ 0 ≤ late ∧ held.length < 1000000 ∧ (btw d 0 mostN = false → P (.tup [.str "bad", .str "number"]) M) ∧
  ∀ n, d = .int n → 0 ≤ n → n ≤ mostN → (∀ l, last = some l → n < l → P (.tup [.str "unfit", .int pl]) M) ∧
    ((∀ l, last = some l → ¬ n < l) → P (.tup [.str "put", lastD (hd' late (srtI (held ++ [n])))]) (mup M x (sto K late (putH late (srtI (held ++ [n]))) (putL late (srtI (held ++ [n])) last) (pl + 1))))
theorem len_SLPut : ∀ ds M P EE, SLPut K ds M P EE → ds.length = 2 := fun ds M P EE ⟨x, d, _, _, _, _, e, _⟩ => by rw [e]; rfl
theorem sc_l_put : FnScope ["_law_store", "_law_number", "_law_found", "_law_what", "error"] ["_law_store", "_law_number"] (defScope s_l_put) := ⟨rfl, rfl, rfl, by decide +kernel, rfl, by decide +kernel, by decide +kernel⟩
theorem lastD_nn {o : Option Int} {i : Int} (h : o = some i) : lastD o = .int i := by rw [h]; rfl
theorem kf_put (T : Tx K mg) : KF P w K mg base 5 "_law_put" 2 [] (SLPut K) := by
  obtain ⟨fd, F⟩ := F_l_put T
  refine ⟨_, fd, ["_law_store", "_law_number"], ?_, bndD F 2 [] (fun _ _ _ _ _ _ us ws h1 h2 => match us, ws, h1, h2 with | [_, _], [], _, _ => rfl), g_l_put T, F.kp⟩
  refine fnDD F sc_l_put len_SLPut fun cdv A outer s H E hg hr ds M Pd EE ⟨x, d, late, held, last, pl, e, em, kn, hl0, hlh, q1, q2⟩ => ?_
  subst e
  have nd := sc_l_put.nd
  fail
  refine ws_asg (T := [2] ++ ([3] ++ [])) ?_
  fail; fail; fail; fail; fail; fail
  refine ⟨(by decide : 2 ≤ sizeLine), ?_⟩
  refine wg_tup rfl (wgs_cons (wg_name 2 nd (wgs_cons (wg_name 3 nd (wgs_nil ?_)))))
  fail
  refine ws_try (l := [(.ref (cUnf K), some 4, _), (.ref (cBad K), some 4, _)]) rfl rfl nd (clo_named 4 (names_of (g_Unfit T)) (clo_named 4 (names_of (g_BadValue T)) clo_nil)) fun pn xe po => ?_
  fail
  refine ws_set 2 nd ?_
  refine we_meK (km_put T) hg (hr.mono (by decide)) ?_
  fail
  refine ⟨_, OAt.rf em, rfl, ?_⟩
  fail; fail; fail
  refine ⟨rfl, x, d, late, held, last, pl, rfl, em, kn, hl0, hlh, fun hb => ?_, fun n en h0 h1 => ⟨fun l el hlt => ?_, fun hn => ?_⟩⟩
  · refine ⟨false, exm_BadValue_Unfit T, fun h => Bool.noConfusion h, fun _ => ?_⟩
    refine ⟨true, exm_BadValue_BadValue T, fun _ a dd pn2 oe hz hf hdd => ?_, fun h => Bool.noConfusion h⟩
    fail
    refine ws_set 3 nd ?_
    fail; fail; fail; fail
    refine we_errf (gs := []) (xf_BadValue T) (nof_BadValue_what T) hz hf ?_
    fail
    refine ⟨rfl, _, .str "number", mup_same, rfl, ?_⟩
    fail
    refine ⟨(by decide : 2 ≤ sizeLine), ?_⟩
    fail
    show WSs _ _ _ (mdel (mup M dd _) dd) _
    rw [mdel_mup hdd]
    fail; fail; fail; fail; fail
    refine o_ntN' rfl ?_
    refine ⟨_, rfl, ?_⟩
    refine iteB (fun _ => ?_) fun h => Bool.noConfusion h
    fail; fail; fail
    exact q1 hb
  · refine ⟨true, exm_Unfit_Unfit T, fun _ a dd pn2 oe hz hf hdd => ?_, fun h => Bool.noConfusion h⟩
    fail
    refine ws_set 3 nd ?_
    fail; fail; fail; fail
    refine we_errf (gs := []) (xf_Unfit T) (nof_Unfit_place T) hz hf ?_
    fail
    refine ⟨rfl, _, .int pl, mup_same, rfl, ?_⟩
    fail
    refine ⟨(by decide : 2 ≤ sizeLine), ?_⟩
    fail
    show WSs _ _ _ (mdel (mup M dd _) dd) _
    rw [mdel_mup hdd]
    fail; fail; fail; fail; fail
    refine o_ntN' rfl ?_
    refine ⟨_, rfl, ?_⟩
    refine iteB (fun _ => ?_) fun h => Bool.noConfusion h
    fail; fail; fail
    exact (q2 n en h0 h1).1 l el hlt
  · fail; fail; fail; fail; fail; fail
    refine o_ntN ?_
    refine ⟨_, rfl, ?_⟩
    refine iteB (fun h => Bool.noConfusion h) fun _ => ?_
    repeat fail
    refine ⟨(by decide : 2 ≤ sizeLine), ?_⟩
    exact (q2 n en h0 h1).2 hn
def SShown (K : PySem.W.Frag) : Sd := fun ds M P _ => ∃ x late held last pl, ds = [.rf x] ∧ M x = some (sto K late held last pl) ∧ held.length < 1000000 ∧ P (.tup [.int late, .tup (held.map D.int), lastD last, .int pl, .int held.length]) M
theorem len_SShown : ∀ ds M P EE, SShown K ds M P EE → ds.length = 1 := fun ds M P EE ⟨x, _, _, _, _, e, _⟩ => by rw [e]; rfl
theorem sc_l_shown : FnScope ["_law_store"] ["_law_store"] (defScope s_l_shown) := ⟨rfl, rfl, rfl, by decide +kernel, rfl, by decide +kernel, by decide +kernel⟩
theorem kf_shown (T : Tx K mg) : KF P w K mg base 3 "_law_shown" 1 [] (SShown K) := by
  obtain ⟨fd, F⟩ := F_l_shown T
  obtain ⟨fdl, FL, bl⟩ := f_Store_len (P := P) (w := w) (base := base) T
  refine ⟨_, fd, ["_law_store"], ?_, bndD F 1 [] (fun _ _ _ _ _ _ us ws h1 h2 => match us, ws, h1, h2 with | [_], [], _, _ => rfl), g_l_shown T, F.kp⟩
  refine fnDD F sc_l_shown len_SShown fun cdv A outer s H E hg hr ds M Pd EE ⟨x, late, held, last, pl, e, em, hlh, q⟩ => ?_
  subst e
  have cl := cls_Store T
  repeat fail
  refine we_fld ?_
  fail
  refine ⟨_, _, _, OAt.rf em, cl, no_Store_late T, rfl, ?_⟩
  fail
  refine we_fld ?_
  fail
  refine ⟨_, _, _, OAt.rf em, cl, no_Store_held T, rfl, ?_⟩
  fail
  refine we_fld ?_
  fail
  refine ⟨_, _, _, OAt.rf em, cl, no_Store_last T, rfl, ?_⟩
  fail
  refine we_fld ?_
  fail
  refine ⟨_, _, _, OAt.rf em, cl, no_Store_places T, rfl, ?_⟩
  fail
  refine we_callB (id := "len") ?_ (free_len T)
  repeat fail
  refine c_lenO (OAt.rf em) (me_Store_len T) FL hg (hr.mono (by decide)) bl rfl ⟨x, late, held, last, pl, rfl, em, held.length, rfl, by omega, ?_⟩
  fail
  exact ⟨(by decide : 5 ≤ sizeLine), q⟩
end
end K60

set_option Elab.async false
set_option linter.all false
set_option maxRecDepth 100000
set_option maxHeartbeats 1000000
namespace K60
open PySem PySem.Spec PyProof.Rows L2 JQ
local macro_rules | `(tactic| fail) => `(tactic| first | refine o_add ?_ | refine o_sub ?_ | refine o_lt ?_ | refine o_le ?_ | refine o_gt ?_ | refine o_ge ?_ | refine o_eqI ?_ | refine o_neI ?_)
local macro_rules | `(tactic| fail) => `(tactic| first | refine wa_cons ?_ | refine wa_nil ?_ | refine wk_cons ?_ | refine wk_nil ?_)
local macro_rules | `(tactic| fail) => `(tactic| first | refine wt_cmp ?_ | refine wt_chain ?_ | refine wt_not ?_ | refine wt_and2 ?_ | refine wt_or2 ?_)
local macro_rules | `(tactic| fail) => `(tactic| first | refine we_int ?_ | refine we_str ?_ | refine we_bl ?_ | refine we_non ?_ | refine we_tup ?_ | refine we_bin ?_ | refine we_cmp ?_ | refine we_chain ?_ | refine we_not ?_ | refine we_un ?_ | refine we_and ?_ | refine we_or ?_ | refine we_one ?_ | refine we_ifx ?_)
local macro_rules | `(tactic| fail) => `(tactic| first | refine we_var 0 (by rfl) ?_ | refine we_var 1 (by rfl) ?_ | refine we_var 2 (by rfl) ?_ | refine we_var 3 (by rfl) ?_ | refine we_var 4 (by rfl) ?_ | refine we_var 5 (by rfl) ?_ | refine we_var 6 (by rfl) ?_ | refine we_var 7 (by rfl) ?_ | refine we_var 8 (by rfl) ?_ | refine we_var 9 (by rfl) ?_ | refine we_var 10 (by rfl) ?_ | refine we_var 11 (by rfl) ?_)
local macro_rules | `(tactic| fail) => `(tactic| first | refine ws_ret ?_ | refine ws_retN ?_ | refine ws_if ?_ | refine ws_expr ?_ | refine ws_set 0 (by assumption) ?_ | refine ws_set 1 (by assumption) ?_ | refine ws_set 2 (by assumption) ?_ | refine ws_set 3 (by assumption) ?_ | refine ws_set 4 (by assumption) ?_ | refine ws_set 5 (by assumption) ?_ | refine ws_set 6 (by assumption) ?_ | refine ws_set 7 (by assumption) ?_ | refine ws_set 8 (by assumption) ?_ | refine ws_set 9 (by assumption) ?_ | refine ws_set 10 (by assumption) ?_ | refine ws_set 11 (by assumption) ?_)
local macro_rules | `(tactic| fail) => `(tactic| first | refine wss_cons ?_ | refine wss_nil ?_)
section
variable {P : Program} {w : World} {K : PySem.W.Frag} {mg : Str → Option Value} {base : Heap}
theorem small_ok {i : Int} (h0 : 0 ≤ i) (h1 : i ≤ mostN) : intsOk (.int i) = true := by
  unfold intsOk
  refine decide_eq_true ?_
  by_cases hz : i.natAbs = 0
  · rw [hz]; decide
  · rw [Nat.log2_lt hz]
    have h2 : mostN < 2 ^ 200 := by decide
    have h3 : i.natAbs < 2 ^ 200 := by omega
    exact Nat.lt_of_lt_of_le h3 (Nat.pow_le_pow_right (by decide) (by decide))
theorem oks_map : ∀ {ns : List Int}, (∀ n ∈ ns, 0 ≤ n ∧ n ≤ mostN) → intsOks (ns.map D.int) = true
  | [], _ => rfl
  | n :: ns, h => by
    have h1 := h n (by simp)
    rw [List.map_cons, intsOks, small_ok h1.1 h1.2, oks_map fun m hm => h m (by simp [hm])]
    rfl
theorem rszs_map : ∀ ns : List Int, rszs (ns.map D.int) = 1923 * ns.length
  | [] => rfl
  | n :: ns => by
    rw [List.map_cons, rszs, rszs_map ns, rsz, List.length_cons]
    omega
theorem depDs_map : ∀ ns : List Int, depDs (ns.map D.int) = 0
  | [] => rfl
  | n :: ns => by
    simp [depDs, depD, depDs_map ns]
abbrev shD (late : Int) (held : List Int) (last : Option Int) (pl : Int) : D := .tup [.int late, .tup (held.map D.int), lastD last, .int pl, .int held.length]
structure ShOk (late : Int) (held : List Int) (last : Option Int) (pl : Int) : Prop where
  l0 : 0 ≤ late
  l1 : late ≤ 1000
  hl : held.length ≤ 1000
  p0 : 0 ≤ pl
  p1 : pl ≤ 1000
  ok : ∀ n ∈ held, 0 ≤ n ∧ n ≤ mostN
  la : ∀ l, last = some l → 0 ≤ l ∧ l ≤ mostN
theorem most_big : (1000 : Int) ≤ mostN := by decide
theorem lastD_ok {o : Option Int} (h : ∀ l, o = some l → 0 ≤ l ∧ l ≤ mostN) : plainD (lastD o) = true ∧ intsOk (lastD o) = true ∧ rsz (lastD o) ≤ 1921 ∧ depD (lastD o) = 0 := by
  cases o with
  | none => exact ⟨rfl, rfl, by decide, rfl⟩
  | some l => exact ⟨rfl, small_ok (h l rfl).1 (h l rfl).2, Nat.le_refl _, rfl⟩
theorem c_shd {Y : Bd} {M : Mm} {Pd : D → Mm → Prop} {k : Nat} {late : Int} {held : List Int} {last : Option Int} {pl : Int} (o : ShOk late held last pl) (hg : Y.X.A.guards = some []) (hr : Room k Y.X.A) (q : Pd (.str (txt (shD late held last pl))) M) : OpC Y (.builtin "repr") [shD late held last pl] M Pd := by
  obtain ⟨h1, h2, h3, h4⟩ := lastD_ok o.la
  have hb := most_big
  refine c_rep hg hr (.inl ⟨_, rfl⟩) ?_ ?_ ?_ ?_ q
  · simp [plainD, plainDs, plain_ints, h1]
  · have e1 := small_ok o.l0 (by have := o.l1; omega)
    have e2 := small_ok o.p0 (by have := o.p1; omega)
    have e3 : intsOk (.int held.length) = true := small_ok (by omega) (by have := o.hl; omega)
    have e4 : intsOk (.tup (held.map D.int)) = true := oks_map o.ok
    simp [shD, intsOks, intsOk.eq_def (.tup [_, _, _, _, _]), e1, e2, e3, e4, h2]
  · have := o.hl
    simp only [rsz, rszs, rszs_map]
    omega
  · simp [depD, depDs, depDs_map, h4]
theorem c_two {Y : Bd} {M : Mm} {Pd : D → Mm → Prop} {k : Nat} {t : Str} {d : D} (ht : (reprText t).length ≤ 1000) (hd : plainD d = true ∧ intsOk d = true ∧ rsz d ≤ 1921 ∧ depD d = 0) (hg : Y.X.A.guards = some []) (hr : Room k Y.X.A) (q : Pd (.str (txt (.tup [.str t, d]))) M) : OpC Y (.builtin "repr") [.tup [.str t, d]] M Pd := by
  obtain ⟨h1, h2, h3, h4⟩ := hd
  refine c_rep hg hr (.inl ⟨_, rfl⟩) ?_ ?_ ?_ ?_ q
  · simp [plainD, plainDs, h1]
  · simp [intsOk, intsOks, h2]
  · simp only [rsz, rszs]
    omega
  · simp [depD, depDs, h4]
theorem o_neT {Y : Bd} {M : Mm} {Pd : D → Mm → Prop} {a b : Str} (e : a = b) (q : Pd (.bl false) M) : Op2 Y (compareOp .NotEq) (.str a) (.str b) M Pd := o_neS (by
  rw [decide_eq_true e]
  exact q)
theorem o_eqT {Y : Bd} {M : Mm} {Pd : D → Mm → Prop} {a b : Str} (e : a = b) (q : Pd (.bl true) M) : Op2 Y (compareOp .Eq) (.str a) (.str b) M Pd := o_eqS (by
  rw [decide_eq_true e]
  exact q)
theorem room_un {k : Nat} {A : Around} (hr : Room k A) : A.units + 64 < cLine := by
  have h := hr.un
  omega
theorem wss_via {Y : Bd} {st : Stmt} {rest : List Stmt} {ss : List S} {M : Mm} {N : DE} (J : List S → Mm → Prop) (h : WS Y st ss M { N with nx := J }) (h2 : ∀ ss' M', J ss' M' → WSs Y rest ss' M' N) : WSs Y (st :: rest) ss M N :=
  wss_cons (h.mono (fun s m j => h2 s m j) (fun _ _ z => z) (fun _ _ z => z) (fun _ _ z => z))
theorem ws_par3 {Y : Bd} {ss : List S} {M : Mm} {N : DE} {a b c : Expr} (i j l : Nat) {x y z : Str} {px py pz pt pos : Pos} {kt k2 pt2} (hc : Y.X.calm = true) (hN : Y.X.N.Nodup) (h : WA Y [a, b, c] ss M fun ds M => ∃ d d' d'', ds = [d, d', d''] ∧ N.nx (((ss.set i (some d)).set j (some d')).set l (some d'')) M) (hi : Y.X.N[i]? = some x := by rfl) (hj : Y.X.N[j]? = some y := by rfl) (hl : Y.X.N[l]? = some z := by rfl)
    (hij : i ≠ j := by decide) (hil : i ≠ l := by decide) (hjl : j ≠ l := by decide) (hx : Y.X.env.scope.names.lookup x = some .local := by rfl) (hy : Y.X.env.scope.names.lookup y = some .local := by rfl) (hz : Y.X.env.scope.names.lookup z = some .local := by rfl)
    (hw : swappedStores [.Tuple [.Name x px, .Name y py, .Name z pz] kt pt] (.Tuple [a, b, c] k2 pt2) Y.X.env = pure (some [x, y, z]) := by rfl)
    (hs : swapsWithSole [.Tuple [.Name x px, .Name y py, .Name z pz] kt pt] (.Tuple [a, b, c] k2 pt2) pos.line Y.X.env = pure false := by rfl) : WS Y (.Assign [.Tuple [.Name x px, .Name y py, .Name z pz] kt pt] (.Tuple [a, b, c] k2 pt2) pos) ss M N :=
  ws_ps (ps_par3 hc hN hi hj hl hij hil hjl hx hy hz pa_w hw hs) fun B σ G H E so eo => by
    refine h _ _ _ _ _ so fun vs G1 H1 M1 ds g r ⟨d, d', d'', ed, q⟩ => ?_
    subst ed
    cases r with
    | cons r1 r =>
      obtain ⟨v, w, rfl, r2, r3⟩ := iss_two r
      exact ⟨_, v, w, rfl, eo.nx _ _ _ _ _ ((((so.go g).set r1 i).set r2 j).set r3 l) q⟩
def SSteps : Sd := fun ds M P _ => ∃ p cells at_ great late, ∃ ns : List Int, ds = [.rf p, .int late, .lst (ns.map D.int)] ∧ M p = some (pen cells at_ great) ∧ cells.length ≤ 63 ∧ 0 ≤ at_ ∧ at_ < 100000 ∧ 0 ≤ late ∧ late ≤ 20 ∧ ns.length ≤ 100 ∧ (∀ n ∈ ns, 0 ≤ n ∧ n ≤ mostN) ∧ ∀ M', P (.bl true) M'
theorem len_SSteps : ∀ ds M P EE, SSteps ds M P EE → ds.length = 3 := fun ds M P EE ⟨_, _, _, _, _, _, e, _⟩ => by rw [e]; rfl
abbrev N_st : List Str := ["_law_pen_here", "_law_late", "_law_numbers", "_law_store", "_law_rows", "_law_last", "_law_places", "_law_number", "_law_told", "_law_due", "_law_odd"]
theorem sc_l_steps : FnScope N_st ["_law_pen_here", "_law_late", "_law_numbers"] (defScope s_l_steps_right) := ⟨rfl, rfl, rfl, by decide +kernel, rfl, by decide +kernel, by decide +kernel⟩
theorem kf_steps (T : Tx K mg) : KF P w K mg base 6 "_law_steps_right" 3 [] SSteps := by
  obtain ⟨fd, F⟩ := F_l_steps_right T
  refine ⟨_, fd, ["_law_pen_here", "_law_late", "_law_numbers"], ?_, bndD F 3 [] (fun _ _ _ _ _ _ us ws h1 h2 => match us, ws, h1, h2 with | [_, _, _], [], _, _ => rfl), g_l_steps_right T, F.kp⟩
  refine fnDD F sc_l_steps len_SSteps fun cdv A outer s H E hg hr ds M Pd EE ⟨p, cells, at_, great, late, ns, e', em, hc, ha0, ha1, hl0, hl1, hnl, hns, q⟩ => ?_
  subst e'
  have nd := sc_l_steps.nd
  fail
  refine ws_asg (T := [3] ++ ([4] ++ ([5] ++ ([6] ++ [])))) ?_
  fail; fail
  refine we_mkK (kc_Store (.inr rfl) T) hg (hr.mono (by decide)) ?_
  fail; fail; fail
  refine ⟨rfl, fun x hx => ?_⟩
  refine ⟨x, _, rfl, mup_same, rfl, fun i ei h0 h1 => ?_, fun hb => ?_⟩
  case refine_2 =>
    exfalso
    unfold btw at hb
    simp only [Bool.and_eq_false_iff, decide_eq_false_iff_not] at hb
    omega
  cases ei
  rw [mup_mup]
  refine ⟨rfl, ?_⟩
  fail
  refine we_lst ?_
  fail
  refine ⟨by decide, .inl ?_⟩
  fail; fail; fail; fail; fail
  refine ⟨(by decide : 4 ≤ sizeLine), ?_⟩
  refine wg_tup rfl (wgs_cons (wg_name 3 nd (wgs_cons (wg_name 4 nd (wgs_cons (wg_name 5 nd (wgs_cons (wg_name 6 nd (wgs_nil ?_)))))))))
  fail
  refine ws_for (T := [7]) (passes_of rfl) rfl ?_
  refine wi_list ?_
  fail
  refine ⟨_, rfl, ?_⟩
  have cl := cls_Store T
  refine ⟨fun i ss' M' => ∃ s7 s8 s9 : S, ∃ held last, ∃ pl : Int, ss' = [some (.rf p), some (.int late), some (.lst (ns.map D.int)), some (.rf x), some (.lst (held.map D.int)), some (lastD last), some (.int pl), s7, s8, s9, none] ∧ M' = mup M x (sto K late held last pl) ∧ (held.length : Int) ≤ late ∧ 0 ≤ pl ∧ pl ≤ i ∧ (∀ n ∈ held, 0 ≤ n ∧ n ≤ mostN) ∧ (∀ l, last = some l → 0 ≤ l ∧ l ≤ mostN), ?_, fun _ _ _ _ => trivial, fun i d ss' M' hd iv => ?_, fun ss' M' iv => ?_⟩
  · exact ⟨none, none, none, [], none, 0, rfl, rfl, hl0, by omega, by omega, fun n hn => by simp at hn, fun l hl => by cases hl⟩
  · obtain ⟨s7, s8, s9, held, last, pl, rfl, rfl, hh, hp0, hp1, hok, hlok⟩ := iv
    have hi : i < ns.length := by
      rw [List.getElem?_map] at hd
      match h : ns[i]?, hd with
      | some n, hd => exact (List.getElem?_eq_some_iff.mp h).1
    obtain ⟨n, hn, rfl⟩ : ∃ n ∈ ns, d = .int n := by
      rw [List.getElem?_map] at hd
      match h : ns[i]?, hd with
      | some n, rfl => exact ⟨n, List.mem_of_getElem? h, rfl⟩
    obtain ⟨hn0, hn1⟩ := hns n hn
    refine wg_name 7 nd ?_
    fail
    refine ws_set 8 nd ?_
    -- what the last test asks
    have tl : ∀ ss' M', (∃ s8 s9 : S, ∃ held last, ∃ pl : Int, ss' = [some (.rf p), some (.int late), some (.lst (ns.map D.int)), some (.rf x), some (.lst (held.map D.int)), some (lastD last), some (.int pl), some (.int n), s8, s9, none] ∧ M' = mup M x (sto K late held last pl) ∧ (held.length : Int) ≤ late ∧ 0 ≤ pl ∧ pl ≤ i + 1 ∧ (∀ n ∈ held, 0 ≤ n ∧ n ≤ mostN) ∧ (∀ l, last = some l → 0 ≤ l ∧ l ≤ mostN)) →
        WSs (bdOf P w K mg base N_st "_law_steps_right" (defScope s_l_steps_right) (He.ga K "_law_steps_right") cdv A outer s H E EE) [match defBody s_l_steps_right with | [_, .For _ _ [_, _, z] _ _, _, _, _] => z | _ => .Pass ⟨0, 0, 0, 0⟩] ss' M' { nx := fun ss' M' => ∃ s7 s8 s9 : S, ∃ held last, ∃ pl : Int, ss' = [some (.rf p), some (.int late), some (.lst (ns.map D.int)), some (.rf x), some (.lst (held.map D.int)), some (lastD last), some (.int pl), s7, s8, s9, none] ∧ M' = mup M x (sto K late held last pl) ∧ (held.length : Int) ≤ late ∧ 0 ≤ pl ∧ pl ≤ ((i + 1 : Nat) : Int) ∧ (∀ n ∈ held, 0 ≤ n ∧ n ≤ mostN) ∧ (∀ l, last = some l → 0 ≤ l ∧ l ≤ mostN), rt := fun _ _ => False } := by
      rintro ss' M' ⟨s8, s9, held, last, pl, rfl, rfl, hh, hp0, hp1, hok, hlok⟩
      fail; fail; fail
      refine we_callB (id := "repr") ?_ (free_repr T)
      fail
      refine we_fn (kf_shown T) hg (hr.mono (by decide)) ?_ rfl (hlen := len_SShown)
      fail; fail; fail
      refine ⟨x, late, held, last, pl, rfl, mup_same, by omega, ?_⟩
      fail
      have so : ShOk late held last pl := ⟨hl0, by omega, by omega, hp0, by omega, hok, hlok⟩
      refine c_shd so hg hr ?_
      refine we_callB (id := "repr") ?_ (free_repr T)
      fail; fail; fail; fail; fail
      refine we_callTy (T := "tuple") ?_ (free_tuple T)
      fail; fail; fail
      refine c_tup .lst ?_
      fail; fail; fail; fail; fail
      refine we_callB (id := "len") ?_ (free_len T)
      fail; fail; fail
      refine c_len .lst ?_
      fail
      refine ⟨(by decide : 5 ≤ sizeLine), ?_⟩
      fail
      rw [List.length_map]
      refine c_shd so hg hr ?_
      refine o_neT rfl ?_
      refine ⟨_, rfl, iteB (fun h => Bool.noConfusion h) fun _ => ?_⟩
      fail; fail
      exact ⟨_, s8, s9, held, last, pl, rfl, rfl, hh, hp0, by omega, hok, hlok⟩
    refine we_fn (kf_put T) hg (hr.mono (by decide)) ?_ rfl (hlen := len_SLPut)
    fail; fail; fail; fail; fail
    refine ⟨x, .int n, late, held, last, pl, rfl, mup_same, rfl, hl0, by omega, fun hb => ?_, fun n' en _ _ => ⟨fun l el hlt => ?_, fun hn' => ?_⟩⟩
    · exfalso
      unfold btw at hb
      exact absurd ⟨hn0, hn1⟩ (of_decide_eq_false hb)
    · cases en
      refine wss_via (fun ss' M' => ∃ s8 s9 : S, ∃ held last, ∃ pl : Int, ss' = [some (.rf p), some (.int late), some (.lst (ns.map D.int)), some (.rf x), some (.lst (held.map D.int)), some (lastD last), some (.int pl), some (.int n), s8, s9, none] ∧ M' = mup M x (sto K late held last pl) ∧ (held.length : Int) ≤ late ∧ 0 ≤ pl ∧ pl ≤ i + 1 ∧ (∀ n ∈ held, 0 ≤ n ∧ n ≤ mostN) ∧ (∀ l, last = some l → 0 ≤ l ∧ l ≤ mostN)) ?_ fun ss' M' jv => (tl ss' M' jv).mono (fun _ _ z => z) (fun _ _ z => z.elim) (fun _ _ z => z.elim) (fun _ _ z => z.elim)
      subst el
      fail; fail; fail; fail; fail
      refine o_ntN' rfl ?_
      refine ⟨_, rfl, iteB (fun _ => ?_) fun h => Bool.noConfusion h⟩
      repeat fail
      refine ⟨_, rfl, iteB (fun _ => ?_) fun h => absurd hlt (of_decide_eq_false h)⟩
      fail; fail; fail
      refine we_callB (id := "repr") ?_ (free_repr T)
      fail; fail; fail
      refine c_two (by decide +kernel) ⟨rfl, small_ok hp0 (by have := most_big; omega), Nat.le_refl _, rfl⟩ hg hr ?_
      refine we_callB (id := "repr") ?_ (free_repr T)
      fail; fail; fail; fail; fail; fail; fail
      refine ⟨(by decide : 2 ≤ sizeLine), ?_⟩
      fail
      refine c_two (by decide +kernel) ⟨rfl, small_ok hp0 (by have := most_big; omega), Nat.le_refl _, rfl⟩ hg hr ?_
      refine o_neT rfl ?_
      refine ⟨_, rfl, iteB (fun h => Bool.noConfusion h) fun _ => ?_⟩
      fail; fail
      exact ⟨_, _, held, _, pl, rfl, rfl, hh, hp0, by omega, hok, hlok⟩
    · cases en
      rw [mup_mup]
      refine wss_via (fun ss' M' => ∃ s8 s9 : S, ∃ held last, ∃ pl : Int, ss' = [some (.rf p), some (.int late), some (.lst (ns.map D.int)), some (.rf x), some (.lst (held.map D.int)), some (lastD last), some (.int pl), some (.int n), s8, s9, none] ∧ M' = mup M x (sto K late held last pl) ∧ (held.length : Int) ≤ late ∧ 0 ≤ pl ∧ pl ≤ i + 1 ∧ (∀ n ∈ held, 0 ≤ n ∧ n ≤ mostN) ∧ (∀ l, last = some l → 0 ≤ l ∧ l ≤ mostN)) ?_ fun ss' M' jv => (tl ss' M' jv).mono (fun _ _ z => z) (fun _ _ z => z.elim) (fun _ _ z => z.elim) (fun _ _ z => z.elim)
      generalize hsr : srtI (held ++ [n]) = hs
      have hlen : hs.length = held.length + 1 := by rw [← hsr, srtI_len, List.length_append]; rfl
      have hsok : ∀ m ∈ hs, 0 ≤ m ∧ m ≤ mostN := fun m hm => by
        rw [← hsr] at hm
        have h2 := (srtI_perm (held ++ [n])).mem_iff.mp hm
        rcases List.mem_append.mp h2 with h3 | h3
        · exact hok m h3
        · rw [List.mem_singleton.mp h3]; exact ⟨hn0, hn1⟩
      refine ws_if (WT.mono (PB := fun k M' => k = false ∧ M' = mup M x (sto K late (putH late hs) (putL late hs last) (pl + 1))) ?_ fun k M' h => ?_)
      · cases last with
        | none =>
          fail; fail; fail; fail
          refine o_ntN ?_
          refine ⟨_, rfl, iteB (fun h => Bool.noConfusion h) fun _ => ⟨rfl, rfl⟩⟩
        | some l =>
          have h1 := hn' l rfl
          fail; fail; fail; fail
          refine o_ntN' rfl ?_
          refine ⟨_, rfl, iteB (fun _ => ?_) fun h => Bool.noConfusion h⟩
          repeat fail
          exact ⟨_, rfl, decide_eq_false h1, rfl⟩
      obtain ⟨rfl, rfl⟩ := h
      refine iteB (fun h => Bool.noConfusion h) fun _ => ?_
      fail
      refine ws_par3 4 6 9 rfl nd ?_
      fail
      refine we_callB (id := "sorted") ?_ (free_sorted T)
      fail; fail; fail
      refine we_lst ?_
      fail; fail; fail
      refine ⟨(by decide : 1 ≤ sizeLine), .inl ?_⟩
      refine o_catL (xs := held.map D.int) (ys := [.int n]) rfl rfl ?_ (.inl ?_)
      · rw [List.length_map]; exact Nat.le_trans (by show held.length + 1 ≤ 1000; omega) (by decide)
      fail
      have ex : held.map D.int ++ [D.int n] = (held ++ [n]).map D.int := by simp
      rw [ex]
      refine c_sorted rfl (.inl ?_)
      rw [hsr]
      fail; fail; fail; fail; fail; fail; fail; fail
      refine ⟨_, _, _, rfl, ?_⟩
      have hdok : ∀ l, hd' late hs = some l → 0 ≤ l ∧ l ≤ mostN := fun l hl => by
        unfold hd' at hl
        by_cases hle : (hs.length : Int) ≤ late
        · rw [if_pos hle] at hl; cases hl
        · rw [if_neg hle] at hl
          exact hsok l (List.mem_of_head? hl)
      have third : ∀ (held' : List Int) (last' : Option Int) (due : D), lastD (hd' late hs) = due → putH late hs = held' → putL late hs last = last' → (held'.length : Int) ≤ late → (∀ n ∈ held', 0 ≤ n ∧ n ≤ mostN) → (∀ l, last' = some l → 0 ≤ l ∧ l ≤ mostN) →
          WSs (bdOf P w K mg base N_st "_law_steps_right" (defScope s_l_steps_right) (He.ga K "_law_steps_right") cdv A outer s H E EE) [match defBody s_l_steps_right with | [_, .For _ _ [_, .If _ _ [_, _, z] _, _] _ _, _, _, _] => z | _ => .Pass ⟨0, 0, 0, 0⟩] [some (.rf p), some (.int late), some (.lst (ns.map D.int)), some (.rf x), some (.lst (held'.map D.int)), some (lastD last'), some (.int (pl + 1)), some (.int n), some (.tup [.str "put", lastD (hd' late hs)]), some due, none] (mup M x (sto K late (putH late hs) (putL late hs last) (pl + 1))) { nx := fun ss' M' => ∃ s8 s9 : S, ∃ held last, ∃ pl : Int, ss' = [some (.rf p), some (.int late), some (.lst (ns.map D.int)), some (.rf x), some (.lst (held.map D.int)), some (lastD last), some (.int pl), some (.int n), s8, s9, none] ∧ M' = mup M x (sto K late held last pl) ∧ (held.length : Int) ≤ late ∧ 0 ≤ pl ∧ pl ≤ i + 1 ∧ (∀ n ∈ held, 0 ≤ n ∧ n ≤ mostN) ∧ (∀ l, last = some l → 0 ≤ l ∧ l ≤ mostN), rt := fun _ _ => False } := by
        intro held' last' due e1 e2 e3 hh' hok' hlok'
        have dok := lastD_ok hdok
        rw [e1] at dok
        rw [e1, e2, e3]
        fail; fail; fail
        refine we_callB (id := "repr") ?_ (free_repr T)
        fail; fail; fail
        refine c_two (by decide +kernel) dok hg hr ?_
        refine we_callB (id := "repr") ?_ (free_repr T)
        fail; fail; fail; fail; fail; fail; fail
        refine ⟨(by decide : 2 ≤ sizeLine), ?_⟩
        fail
        refine c_two (by decide +kernel) dok hg hr ?_
        refine o_neT rfl ?_
        refine ⟨_, rfl, iteB (fun h => Bool.noConfusion h) fun _ => ?_⟩
        fail; fail
        exact ⟨_, _, held', last', pl + 1, rfl, rfl, hh', by omega, by omega, hok', hlok'⟩
      fail; fail; fail
      refine we_callB (id := "len") ?_ (free_len T)
      fail; fail; fail
      refine c_len .lst ?_
      rw [List.length_map]
      fail; fail
      refine ⟨_, rfl, iteB (fun h => ?_) fun h => ?_⟩
      · have hgt : ¬ (hs.length : Int) ≤ late := by have := of_decide_eq_true h; omega
        obtain ⟨a, t, eh⟩ : ∃ a t, hs = a :: t := by
          cases hs with
          | nil => simp at hlen
          | cons a t => exact ⟨a, t, rfl⟩
        have e1 : lastD (hd' late hs) = .int a := by unfold hd'; rw [if_neg hgt, eh]; rfl
        have e2 : putH late hs = t := by unfold putH; rw [if_neg hgt, eh]; rfl
        have e3 : putL late hs last = some a := by unfold putL; rw [if_neg hgt, eh]; rfl
        have th := third t (some a) (.int a) e1 e2 e3 (by rw [eh] at hlen; simp at hlen; omega) (fun m hm => hsok m (by rw [eh]; simp [hm])) (fun l hl => by cases hl; exact hsok a (by rw [eh]; simp))
        fail; fail
        refine we_ix ?_
        fail; fail
        refine ⟨0, .int a, rfl, atI_of (i := 0) (by rw [eh]; rfl), ?_⟩
        fail
        refine ws_par 4 5 rfl nd ?_
        fail
        refine we_slL ?_
        fail
        refine wo_some ?_
        fail
        refine ⟨1, rfl, wo_no ⟨_, rfl, .inl ?_⟩⟩
        rw [cut_tail]
        repeat fail
        refine ⟨_, _, rfl, ?_⟩
        fail
        rw [eh] at th ⊢
        exact th.mono (fun _ _ z => z) (fun _ _ z => z.elim) (fun _ _ z => z.elim) (fun _ _ z => z.elim)
      · have hle : (hs.length : Int) ≤ late := by have := of_decide_eq_false h; omega
        have e1 : lastD (hd' late hs) = .non := by unfold hd'; rw [if_pos hle]; rfl
        have e2 : putH late hs = hs := by unfold putH; rw [if_pos hle]
        have e3 : putL late hs last = last := by unfold putL; rw [if_pos hle]
        have th := third hs last .non e1 e2 e3 hle hsok hlok
        fail
        exact th.mono (fun _ _ z => z) (fun _ _ z => z.elim) (fun _ _ z => z.elim) (fun _ _ z => z.elim)
  · obtain ⟨s7, s8, s9, held, last, pl, rfl, rfl, hh, hp0, hp1, hok, hlok⟩ := iv
    rw [List.length_map] at hp1
    have hpx : p ≠ x := fun z => by rw [z, hx] at em; cases em
    have so : ShOk late held last pl := ⟨hl0, by omega, by omega, hp0, by omega, hok, hlok⟩
    fail
    refine ws_set 10 nd ?_
    refine we_fn (kf_pick T) hg (hr.mono (by decide)) ?_ rfl (hlen := len_SPick)
    fail; fail; fail
    refine we_lst ?_
    repeat fail
    refine o_neg ?_
    repeat fail
    refine o_pow ⟨by decide, by decide, by decide⟩ ?_
    repeat fail
    refine ⟨(by decide : 1 ≤ sizeLine), ?_⟩
    fail
    refine we_lst ?_
    repeat fail
    refine ⟨(by decide : 1 ≤ sizeLine), .inl ?_⟩
    fail
    refine ⟨(by decide : 7 ≤ sizeLine), .inl ?_⟩
    fail
    refine ⟨p, cells, at_, great, _, rfl, by rw [mup_ne hpx]; exact em, hc, by omega, by omega, (by decide : 0 < 7), (by decide : 7 < 1000000), fun i d at' great' hi ha4 ha5 => ?_⟩
    obtain ⟨kn, nb⟩ : known d = true ∧ btw d 0 mostN = false := by
      match i, hi with
      | 0, hi => cases hi; exact ⟨rfl, rfl⟩
      | 1, hi => cases hi; exact ⟨rfl, rfl⟩
      | 2, hi => cases hi; exact ⟨rfl, by decide⟩
      | 3, hi => cases hi; exact ⟨rfl, by decide⟩
      | 4, hi => cases hi; exact ⟨rfl, rfl⟩
      | 5, hi => cases hi; exact ⟨rfl, rfl⟩
      | 6, hi => cases hi; exact ⟨rfl, rfl⟩
      | i + 7, hi => simp at hi
    have f1 : mup (mup M x (sto K late held last pl)) p (pen cells at' great') x = some (sto K late held last pl) := by rw [mup_ne (Ne.symm hpx), mup_same]
    fail; fail
    refine we_fn (kf_shown T) hg (hr.mono (by decide)) ?_ rfl (hlen := len_SShown)
    fail; fail; fail
    refine ⟨x, late, held, last, pl, rfl, f1, by omega, ?_⟩
    fail; fail
    refine we_and ?_
    fail
    refine we_fn (kf_put T) hg (hr.mono (by decide)) ?_ rfl (hlen := len_SLPut)
    fail; fail; fail; fail; fail
    refine ⟨x, d, late, held, last, pl, rfl, f1, kn, hl0, by omega, fun _ => ?_, fun n en h0 h1 => ?_⟩
    · fail; fail; fail; fail; fail; fail
      refine ⟨(by decide : 2 ≤ sizeLine), ?_⟩
      refine o_eqD (d := .tup [.str "bad", .str "number"]) (e := .tup [.str "bad", .str "number"]) (room_un hr) ⟨rfl, .inl rfl⟩ ⟨rfl, .inl rfl⟩ (by decide +kernel) (by decide +kernel) ?_
      refine ⟨true, congrArg D.bl (by decide +kernel), iteB (fun _ => ?_) fun h => Bool.noConfusion h⟩
      fail; fail
      refine we_callB (id := "repr") ?_ (free_repr T)
      fail
      refine we_fn (kf_shown T) hg (hr.mono (by decide)) ?_ rfl (hlen := len_SShown)
      fail; fail; fail
      refine ⟨x, late, held, last, pl, rfl, f1, by omega, ?_⟩
      fail
      refine c_shd so hg hr ?_
      refine we_callB (id := "repr") ?_ (free_repr T)
      fail; fail; fail
      refine c_shd so hg hr ?_
      refine o_eqT rfl ?_
      exact q _
    · exfalso
      subst en
      exact absurd ⟨h0, h1⟩ (of_decide_eq_false nb)
end
end K60

set_option Elab.async false
set_option linter.all false
set_option maxRecDepth 100000
set_option maxHeartbeats 1000000
namespace K60
open PySem PySem.Spec PyProof.Rows L2 JQ
/-! ### a run through a store -/
theorem rngI_snoc (lo : Int) (k : Nat) : rngI lo (k + 1) = rngI lo k ++ [lo + (k : Int)] := by
  unfold rngI
  rw [List.range_succ, List.map_append]
  rfl
theorem rngI_cons (lo : Int) (k : Nat) : rngI lo (k + 1) = lo :: rngI (lo + 1) k := by
  unfold rngI
  rw [List.range_succ_eq_map, List.map_cons, List.map_map]
  congr 1
  · simp
  · refine List.map_congr_left fun i _ => ?_
    simp only [Function.comp]
    omega
theorem rngI_len (lo : Int) (k : Nat) : (rngI lo k).length = k := by simp [rngI]
theorem rngI_mem {lo : Int} {k : Nat} {r : Int} : r ∈ rngI lo k ↔ lo ≤ r ∧ r < lo + k := by
  unfold rngI
  simp only [List.mem_map, List.mem_range]
  constructor
  · rintro ⟨i, hi, rfl⟩; omega
  · intro h; exact ⟨(r - lo).toNat, by omega, by omega⟩
theorem rngI_pw (lo : Int) (k : Nat) : (rngI lo k).Pairwise (· ≤ ·) := by
  unfold rngI
  rw [List.pairwise_map]
  exact List.pairwise_lt_range.imp fun h => by omega
theorem srtI_of {xs : List Int} (h : xs.Pairwise (· ≤ ·)) : srtI xs = xs := srt_unique (srtI_perm xs) (srtI_pw xs) h
structure RInv (l : Nat) (rs : List Int) (x : Nat) (held : List Int) (last : Option Int) : Prop where
  perm : (rngI 0 (x - l) ++ held).Perm (rs.take x)
  pw : held.Pairwise (· ≤ ·)
  la : last = if x - l = 0 then none else some (((x - l : Nat) : Int) - 1)
theorem rinv_len {l : Nat} {rs : List Int} {x : Nat} {held : List Int} {last : Option Int} (h : RInv l rs x held last) (hx : x ≤ rs.length) : held.length = x - (x - l) := by
  have e := h.perm.length_eq
  rw [List.length_append, rngI_len, List.length_take] at e
  omega
theorem rinv_ge {l : Nat} {rs : List Int} {x : Nat} {held : List Int} {last : Option Int} (h : RInv l rs x held last) (nd : rs.Nodup) (h0 : ∀ r ∈ rs, 0 ≤ r) : ∀ r ∈ held, ((x - l : Nat) : Int) ≤ r := fun r hr => by
  have nd2 : (rngI 0 (x - l) ++ held).Nodup := h.perm.nodup_iff.mpr (nd.sublist (List.take_sublist ..))
  have h1 : r ∈ rs := (List.take_sublist x rs).subset (h.perm.mem_iff.mp (List.mem_append_right _ hr))
  have h2 := h0 r h1
  have h3 : r ∉ rngI 0 (x - l) := fun c => (List.nodup_append.mp nd2).2.2 r c r hr rfl
  rw [rngI_mem] at h3
  omega
theorem rinv_start (l : Nat) (rs : List Int) : RInv l rs 0 [] none where
  perm := by simp [rngI]
  pw := .nil
  la := by simp
theorem rinv_step {e : Int} {l n : Nat} {ls rs : List Int} {x : Nat} {held : List Int} {last : Option Int} {r : Int} (o : Ord e l n n ls rs) (h : RInv l rs x held last) (hr : rs[x]? = some r) :
    (∀ a, last = some a → ¬ r < a) ∧ RInv l rs (x + 1) (putH l (srtI (held ++ [r]))) (putL l (srtI (held ++ [r])) last) ∧ hd' l (srtI (held ++ [r])) = if x < l then none else some ((x - l : Nat) : Int) := by
  have hxl := (List.getElem?_eq_some_iff.mp hr).1
  have hxn : x < n := by rw [o.len] at hxl; exact hxl
  have h0 : ∀ r ∈ rs, 0 ≤ r := fun r hr => ((o.mem r).mp (.inr hr)).1
  have tk : rs.take (x + 1) = rs.take x ++ [r] := by
    rw [List.take_succ, hr]
    rfl
  have ndk : (rs.take (x + 1)).Nodup := o.nd.sublist (List.take_sublist ..)
  have hrn : r ∉ rs.take x := fun c => by
    rw [tk] at ndk
    exact (List.nodup_append.mp ndk).2.2 r c r (by simp) rfl
  have hr0 := h0 r (List.mem_of_getElem? hr)
  have hrc : ((x - l : Nat) : Int) ≤ r := by
    have h3 : r ∉ rngI 0 (x - l) := fun c => hrn (h.perm.mem_iff.mp (List.mem_append_left _ c))
    rw [rngI_mem] at h3
    omega
  have hge := rinv_ge h o.nd h0
  have hlen := rinv_len h (by omega)
  generalize hsr : srtI (held ++ [r]) = hs
  have pm : hs.Perm (held ++ [r]) := hsr ▸ srtI_perm _
  have pwh : hs.Pairwise (· ≤ ·) := hsr ▸ srtI_pw _
  have hsl : hs.length = held.length + 1 := by rw [pm.length_eq, List.length_append]; rfl
  have pk : (rngI 0 (x - l) ++ hs).Perm (rs.take (x + 1)) := by
    rw [tk]
    refine (List.Perm.append_left _ pm).trans ?_
    rw [← List.append_assoc]
    exact h.perm.append_right _
  have hsge : ∀ q ∈ hs, ((x - l : Nat) : Int) ≤ q := fun q hq => by
    rcases List.mem_append.mp (pm.mem_iff.mp hq) with h1 | h1
    · exact hge q h1
    · rw [List.mem_singleton.mp h1]; exact hrc
  refine ⟨fun a ha => ?_, ?_⟩
  · rw [h.la] at ha
    by_cases c : x - l = 0
    · rw [if_pos c] at ha; cases ha
    · rw [if_neg c] at ha
      cases ha
      omega
  by_cases c : x < l
  · have hle : (hs.length : Int) ≤ (l : Int) := by omega
    have e0 : x - l = 0 := by omega
    have e1 : x + 1 - l = 0 := by omega
    unfold putH putL hd'
    rw [if_pos hle, if_pos hle, if_pos hle, if_pos c]
    refine ⟨⟨by rw [e1]; rw [e0] at pk; exact pk, pwh, ?_⟩, rfl⟩
    rw [h.la, e0, e1]
  · have hgt : ¬ (hs.length : Int) ≤ (l : Int) := by omega
    have ex : x + 1 - l = (x - l) + 1 := by omega
    have hc : ((x - l : Nat) : Int) ∈ hs := by
      have h1 := o.late x hxn ((x - l : Nat) : Int) (by omega) (by omega)
      rcases List.mem_append.mp (pk.mem_iff.mpr h1) with h2 | h2
      · rw [rngI_mem] at h2; omega
      · exact h2
    unfold putH putL hd'
    rw [if_neg hgt, if_neg hgt, if_neg hgt, if_neg c]
    cases hs with
    | nil => cases hc
    | cons a t =>
      have ea : a = ((x - l : Nat) : Int) := by
        have h1 := hsge a (by simp)
        rcases List.mem_cons.mp hc with h2 | h2
        · exact h2.symm
        · have := (List.pairwise_cons.mp pwh).1 _ h2
          omega
      subst ea
      refine ⟨⟨?_, (List.pairwise_cons.mp pwh).2, ?_⟩, rfl⟩
      · rw [ex, rngI_snoc, List.append_assoc]
        simpa using pk
      · rw [ex, if_neg (by omega)]
        show some _ = some _
        congr 1
        omega
theorem rinv_end {e : Int} {l n : Nat} {ls rs : List Int} {held : List Int} {last : Option Int} (o : Ord e l n n ls rs) (h : RInv l rs n held last) : (srtI rs).drop (n - l) = held := by
  have h0 : ∀ r ∈ rs, 0 ≤ r := fun r hr => ((o.mem r).mp (.inr hr)).1
  have hge := rinv_ge h o.nd h0
  have hp : (rngI 0 (n - l) ++ held).Perm rs := by
    have := h.perm
    rwa [List.take_of_length_le (by rw [o.len]; exact Nat.le_refl _)] at this
  have e1 : srtI rs = rngI 0 (n - l) ++ held := srt_unique ((srtI_perm rs).trans hp.symm) (srtI_pw rs) (by
    rw [List.pairwise_append]
    refine ⟨rngI_pw _ _, h.pw, fun a ha b hb => ?_⟩
    have h1 := hge b hb
    rw [rngI_mem] at ha
    omega)
  rw [e1, List.drop_left' (rngI_len _ _)]
/-! ### a store of one less -/
theorem small_step {l i : Nat} (h : i ≤ l) :
    hd' l (srtI (rngI 1 i ++ [1 + (i : Int)])) = (if i < l then none else some 1) ∧ putH l (srtI (rngI 1 i ++ [1 + (i : Int)])) = (if i < l then rngI 1 (i + 1) else rngI 2 l) ∧ putL l (srtI (rngI 1 i ++ [1 + (i : Int)])) none = (if i < l then none else some 1) := by
  rw [← rngI_snoc, srtI_of (rngI_pw _ _)]
  unfold hd' putH putL
  rw [rngI_len]
  by_cases c : i < l
  · rw [if_pos (by omega), if_pos (by omega), if_pos (by omega), if_pos c]
    exact ⟨rfl, rfl, rfl⟩
  · have e : i = l := by omega
    subst e
    rw [if_neg (by omega), if_neg (by omega), if_neg (by omega), if_neg c, rngI_cons]
    exact ⟨rfl, rfl, rfl⟩
theorem small_end {l : Nat} : hd' l (srtI (rngI 2 l ++ [2 + (l : Int)])) = some 2 := by
  rw [← rngI_snoc, srtI_of (rngI_pw _ _)]
  unfold hd'
  rw [rngI_len, if_neg (by omega), rngI_cons]
  rfl
end K60

set_option Elab.async false
set_option linter.all false
set_option maxRecDepth 100000
set_option maxHeartbeats 1000000
namespace K60
open PySem PySem.Spec PyProof.Rows L2 JQ
local macro_rules | `(tactic| fail) => `(tactic| first | refine o_add ?_ | refine o_sub ?_ | refine o_lt ?_ | refine o_le ?_ | refine o_gt ?_ | refine o_ge ?_ | refine o_eqI ?_ | refine o_neI ?_)
local macro_rules | `(tactic| fail) => `(tactic| first | refine wa_cons ?_ | refine wa_nil ?_ | refine wk_cons ?_ | refine wk_nil ?_)
local macro_rules | `(tactic| fail) => `(tactic| first | refine wt_cmp ?_ | refine wt_chain ?_ | refine wt_not ?_ | refine wt_and2 ?_ | refine wt_or2 ?_)
local macro_rules | `(tactic| fail) => `(tactic| first | refine we_int ?_ | refine we_str ?_ | refine we_bl ?_ | refine we_non ?_ | refine we_tup ?_ | refine we_bin ?_ | refine we_cmp ?_ | refine we_chain ?_ | refine we_not ?_ | refine we_un ?_ | refine we_and ?_ | refine we_or ?_ | refine we_one ?_ | refine we_ifx ?_)
local macro_rules | `(tactic| fail) => `(tactic| first | refine we_var 0 (by rfl) ?_ | refine we_var 1 (by rfl) ?_ | refine we_var 2 (by rfl) ?_ | refine we_var 3 (by rfl) ?_ | refine we_var 4 (by rfl) ?_ | refine we_var 5 (by rfl) ?_ | refine we_var 6 (by rfl) ?_ | refine we_var 7 (by rfl) ?_ | refine we_var 8 (by rfl) ?_ | refine we_var 9 (by rfl) ?_ | refine we_var 10 (by rfl) ?_ | refine we_var 11 (by rfl) ?_)
local macro_rules | `(tactic| fail) => `(tactic| first | refine ws_ret ?_ | refine ws_retN ?_ | refine ws_if ?_ | refine ws_expr ?_ | refine ws_set 0 (by assumption) ?_ | refine ws_set 1 (by assumption) ?_ | refine ws_set 2 (by assumption) ?_ | refine ws_set 3 (by assumption) ?_ | refine ws_set 4 (by assumption) ?_ | refine ws_set 5 (by assumption) ?_ | refine ws_set 6 (by assumption) ?_ | refine ws_set 7 (by assumption) ?_ | refine ws_set 8 (by assumption) ?_ | refine ws_set 9 (by assumption) ?_ | refine ws_set 10 (by assumption) ?_ | refine ws_set 11 (by assumption) ?_)
local macro_rules | `(tactic| fail) => `(tactic| first | refine wss_cons ?_ | refine wss_nil ?_)
section
variable {P : Program} {w : World} {K : PySem.W.Frag} {mg : Str → Option Value} {base : Heap}
theorem eqv_ints : ∀ ns : List Int, PyData.eqvAll (pyDs (ns.map D.int)) (pyDs (ns.map D.int)) = true
  | [] => rfl
  | n :: ns => by
    have h := eqv_ints ns
    simp [PyData.eqvAll, PyData.eqv, pyDs, pyD, h]
theorem o_neL {Y : Bd} {M : Mm} {Pd : D → Mm → Prop} {x y : D} {ns : List Int} (hu : Y.X.A.units + 64 < cLine) (hx : x = .lst (ns.map D.int) ∨ LAt M x (ns.map D.int)) (hy : y = .lst (ns.map D.int) ∨ LAt M y (ns.map D.int)) (q : Pd (.bl false) M) : Op2 Y (compareOp .NotEq) x y M Pd := by
  have hp : plainD (.lst (ns.map D.int)) = true := plain_ints ns
  refine o_neD (d := .lst (ns.map D.int)) (e := .lst (ns.map D.int)) hu ⟨hp, hx.imp id fun h => ⟨_, rfl, h⟩⟩ ⟨hp, hy.imp id fun h => ⟨_, rfl, h⟩⟩ (shaped_ints ns) (shaped_ints ns) ?_
  have e : PyData.eqv (pyD (.lst (ns.map D.int))) (pyD (.lst (ns.map D.int))) = true := by
    rw [pyD, PyData.eqv]
    exact eqv_ints ns
  rw [e]
  exact q
theorem cut_drop {α : Type} {xs : List α} {k : Nat} (h : k ≤ xs.length) : cutL xs (some (k : Int)) none = xs.drop k := by
  have e1 : HT.sIx xs.length 0 (some (k : Int)) = k := by
    rw [HT.sIx_nat]
    omega
  have e2 : HT.sIx xs.length xs.length none = xs.length := rfl
  unfold cutL
  rw [e1, e2]
  refine List.take_of_length_le ?_
  rw [List.length_drop]
  exact Nat.le_refl _
theorem o_eqP {Y : Bd} {M : Mm} {Pd : D → Mm → Prop} {t : Str} {i : Int} (hs : PyData.strOk t = true) (hu : Y.X.A.units + 64 < cLine) (q : Pd (.bl true) M) : Op2 Y (compareOp .Eq) (.tup [.str t, .int i]) (.tup [.str t, .int i]) M Pd := by
  have sh : SeqAt.shaped (pyD (.tup [.str t, .int i])) = true := by
    simp [SeqAt.shaped, pyD, pyDs, PyData.canLay0, PyData.canLayAll0, PyData.depth, PyData.depthAll, hs]
  refine o_eqD (d := .tup [.str t, .int i]) (e := .tup [.str t, .int i]) hu ⟨rfl, .inl rfl⟩ ⟨rfl, .inl rfl⟩ sh sh ?_
  have e : PyData.eqv (pyD (.tup [.str t, .int i])) (pyD (.tup [.str t, .int i])) = true := by
    simp [pyD, pyDs, PyData.eqv, PyData.eqvAll]
  rw [e]
  exact q
def SRun : Sd := fun ds M P _ => ∃ p cells at_ great, ds = [.rf p] ∧ M p = some (pen cells at_ great) ∧ cells.length ≤ 63 ∧ 0 ≤ at_ ∧ at_ < 1000 ∧ ∀ M' at' great', M' p = some (pen cells at' great') → at_ ≤ at' → at' ≤ at_ + 100 → P (.bl true) M'
theorem len_SRun : ∀ ds M P EE, SRun ds M P EE → ds.length = 1 := fun ds M P EE ⟨_, _, _, _, e, _⟩ => by rw [e]; rfl
abbrev N_rn : List Str := ["_law_pen_here", "_law_early", "_law_late", "_law_many", "_law_order_here", "_law_store", "_law_out", "_law_number", "_law_told", "_law_small"]
theorem sc_l_run : FnScope N_rn ["_law_pen_here"] (defScope s_l_run_right) := ⟨rfl, rfl, rfl, by decide +kernel, rfl, by decide +kernel, by decide +kernel⟩
theorem btw_ok {i a b : Int} (h : a ≤ i ∧ i ≤ b) : btw (.int i) a b = true := decide_eq_true h
theorem kf_run (T : Tx K mg) : KF P w K mg base 6 "_law_run_right" 1 [] SRun := by
  obtain ⟨fd, F⟩ := F_l_run_right T
  refine ⟨_, fd, ["_law_pen_here"], ?_, bndD F 1 [] (fun _ _ _ _ _ _ us ws h1 h2 => match us, ws, h1, h2 with | [_], [], _, _ => rfl), g_l_run_right T, F.kp⟩
  refine fnDD F sc_l_run len_SRun fun cdv A outer s H E hg hr ds M0 Pd EE ⟨p, cells, at_, great, e', em, hc, ha0, ha1, q⟩ => ?_
  subst e'
  have nd := sc_l_run.nd
  have cl := cls_Store T
  fail
  refine ws_par3 1 2 3 rfl nd ?_
  fail; fail; fail
  refine we_fn (kf_draw T) hg (hr.mono (by decide)) ?_ rfl (hlen := len_SDraw)
  fail; fail; fail; fail; fail
  refine ⟨p, cells, at_, great, 4, rfl, em, hc, by omega, by omega, by omega, by omega, fun k1 a1 g1 hk0 hk1 ha2 ha3 => ?_⟩
  fail; fail; fail; fail
  refine we_fn (kf_draw T) hg (hr.mono (by decide)) ?_ rfl (hlen := len_SDraw)
  fail; fail; fail; fail; fail
  refine ⟨p, cells, a1, g1, 6, rfl, mup_same, hc, by omega, by omega, by omega, by omega, fun k2 a2 g2 hk2 hk3 ha4 ha5 => ?_⟩
  rw [mup_mup]
  fail; fail; fail; fail
  refine ⟨_, _, _, rfl, ?_⟩
  generalize hev : 1 + k1 = ev
  generalize hlv : 1 + k2 = lv
  fail
  refine ws_set 4 nd ?_
  refine we_fn (kf_order T) hg (hr.mono (by decide)) ?_ rfl (hlen := len_SOrd)
  fail; fail; fail; fail; fail; fail; fail; fail; fail
  refine ⟨p, cells, a2, g2, ev, lv, 20, rfl, mup_same, hc, by omega, by omega, by omega, by omega, by omega, by omega, by omega, by omega, fun ls rs a3 g3 o ha6 ha7 => ?_⟩
  rw [mup_mup]
  have e3 : (mup M0 p (pen cells a3 g3)) p = some (pen cells a3 g3) := mup_same
  generalize mup M0 p (pen cells a3 g3) = M at e3
  fail
  refine ws_par 5 6 rfl nd ?_
  fail
  refine we_mk (kc_Store (.inl rfl) T) hg (hr.mono (by decide)) ?_
  fail; fail; fail
  refine ⟨rfl, fun x hx => ?_⟩
  refine ⟨x, _, rfl, mup_same, rfl, fun i ei h0 h1 => ?_, fun hb => ?_⟩
  case refine_2 => rw [btw_ok ⟨by omega, by omega⟩] at hb; cases hb
  cases ei
  rw [mup_mup]
  refine ⟨rfl, ?_⟩
  fail
  refine we_lst ?_
  fail
  refine ⟨by decide, .inr fun L hL => ?_⟩
  fail
  refine ⟨_, _, rfl, ?_⟩
  have hpx : p ≠ x := fun z => by rw [z, hx] at e3; cases e3
  have hxL : x ≠ L := fun z => by rw [z, mup_same] at hL; cases hL
  have hpL : p ≠ L := fun z => by rw [← z, mup_ne hpx, e3] at hL; cases hL
  fail
  refine ws_for (T := [7]) (passes_of rfl) rfl ?_
  refine wi_list ?_
  fail
  refine ⟨_, rfl, ?_⟩
  obtain ⟨l, el⟩ : ∃ l : Nat, lv = l := ⟨lv.toNat, by omega⟩
  subst el
  have o' : Ord ev (l : Int) ((20 : Nat) : Int) 20 ls rs := o
  have rl : rs.length = 20 := o'.len
  refine ⟨fun i ss' M' => ∃ s7 s8 : S, ∃ held last, ss' = [some (.rf p), some (.int ev), some (.int l), some (.int 20), some (.lst (rs.map D.int)), some (.rf x), some (.rf L), s7, s8, none] ∧ M' = mup (mup M x (sto K l held last i)) L (.lst ((rngI 0 (i - l)).map D.int)) ∧ RInv l rs i held last, ?_, fun _ _ _ _ => trivial, fun i d ss' M' hd iv => ?_, fun ss' M' iv => ?_⟩
  · refine ⟨none, none, [], none, rfl, ?_, rinv_start _ _⟩
    rw [Nat.zero_sub]
    rfl
  · obtain ⟨s7, s8, held, last, rfl, rfl, ri⟩ := iv
    obtain ⟨r, hr', rfl⟩ : ∃ r, rs[i]? = some r ∧ d = .int r := by
      rw [List.getElem?_map] at hd
      match h : rs[i]?, hd with
      | some n, rfl => exact ⟨n, rfl, rfl⟩
    have hi : i < 20 := by rw [← rl]; exact (List.getElem?_eq_some_iff.mp hr').1
    have hrb := (o'.mem r).mp (.inr (List.mem_of_getElem? hr'))
    have hhl := rinv_len ri (by omega)
    obtain ⟨st1, st2, st3⟩ := rinv_step o' ri hr'
    have hmb := most_big
    have f1 : mup (mup M x (sto K l held last i)) L (.lst ((rngI 0 (i - l)).map D.int)) x = some (sto K l held last i) := by rw [mup_ne hxL, mup_same]
    refine wg_name 7 nd ?_
    fail
    refine ws_set 8 nd ?_
    refine we_fn (kf_put T) hg (hr.mono (by decide)) ?_ rfl (hlen := len_SLPut)
    fail; fail; fail; fail; fail
    refine ⟨x, .int r, l, held, last, i, rfl, f1, rfl, by omega, by omega, fun hb => ?_, fun n' en _ _ => ⟨fun a ea hlt => absurd hlt (by cases en; exact st1 a ea), fun _ => ?_⟩⟩
    · rw [btw_ok ⟨by omega, by omega⟩] at hb; cases hb
    cases en
    rw [mup_comm (Ne.symm hxL), mup_mup]
    fail; fail; fail
    refine we_ix ?_
    fail; fail
    refine ⟨0, .str "put", rfl, rfl, ?_⟩
    fail
    refine o_neT rfl ?_
    refine ⟨_, rfl, iteB (fun h => Bool.noConfusion h) fun _ => ?_⟩
    fail; fail; fail; fail
    refine we_ix ?_
    fail; fail
    refine ⟨1, _, rfl, rfl, ?_⟩
    fail
    have cst : (i : Int) + 1 = ((i + 1 : Nat) : Int) := by omega
    rw [cst]
    by_cases c : i < l
    · rw [if_pos c] at st3
      rw [st3]
      refine o_ntN ?_
      refine ⟨_, rfl, iteB (fun h => Bool.noConfusion h) fun _ => ?_⟩
      fail; fail
      refine ⟨_, _, _, _, rfl, ?_, st2⟩
      rw [show i - l = 0 by omega, show i + 1 - l = 0 by omega]
      rfl
    · rw [if_neg c] at st3
      rw [st3]
      refine o_ntN' rfl ?_
      refine ⟨_, rfl, iteB (fun _ => ?_) fun h => Bool.noConfusion h⟩
      fail; fail
      refine we_append ?_
      fail
      refine ⟨L, rfl, ⟨_, mup_same⟩, ?_⟩
      refine we_ix ?_
      fail; fail
      refine ⟨1, _, rfl, rfl, ?_⟩
      refine ⟨_, mup_same, ?_, ?_⟩
      · rw [List.length_map, rngI_len]
        exact Nat.lt_of_lt_of_le (by omega : i - l < 1000) (by decide)
      rw [mup_mup]
      fail; fail
      refine ⟨_, _, _, _, rfl, ?_, st2⟩
      rw [show i + 1 - l = (i - l) + 1 by omega, rngI_snoc, List.map_append, Int.zero_add]
      rfl
  · obtain ⟨s7, s8, held, last, rfl, rfl, ri⟩ := iv
    rw [List.length_map, rl] at ri ⊢
    have hhl := rinv_len ri (by omega)
    have he := rinv_end o' ri
    have f1 : mup (mup M x (sto K l held last (20 : Nat))) L (.lst ((rngI 0 (20 - l)).map D.int)) x = some (sto K l held last (20 : Nat)) := by rw [mup_ne hxL, mup_same]
    fail; fail; fail; fail; fail
    refine we_lrg1 rfl (free_list T) (free_range T) ?_
    repeat fail
    refine ⟨20 - (l : Int), rfl, .of_le (by decide) (by omega) (by decide) (by omega), .inl ?_⟩
    rw [rngD_eq, show (20 - (l : Int)).toNat = 20 - l by omega]
    refine o_neL (room_un hr) (.inr mup_same) (.inl rfl) ?_
    refine ⟨_, rfl, ?_⟩
    refine iteB (fun h => Bool.noConfusion h) fun _ => ?_
    fail
    refine we_callTy (T := "list") ?_ (free_list T)
    fail
    refine we_fld ?_
    fail
    refine ⟨_, _, _, OAt.rf f1, cl, no_Store_held T, rfl, ?_⟩
    fail
    refine c_lst (.inl rfl) (.inl ?_)
    refine we_slL ?_
    refine we_callB (id := "sorted") ?_ (free_sorted T)
    fail; fail; fail
    refine c_sorted rfl (.inl ?_)
    refine wo_some ?_
    repeat fail
    refine ⟨20 - (l : Int), rfl, wo_no ⟨_, rfl, .inl ?_⟩⟩
    rw [show 20 - (l : Int) = ((20 - l : Nat) : Int) by omega, cut_drop (by rw [List.length_map, srtI_len, rl]; omega), ← List.map_drop, he]
    refine o_neL (room_un hr) (.inl rfl) (.inl rfl) ?_
    refine ⟨_, rfl, iteB (fun h => Bool.noConfusion h) fun _ => ?_⟩
    fail; fail
    refine ws_set 9 nd ?_
    refine we_mk (kc_Store (.inl rfl) T) hg (hr.mono (by decide)) ?_
    fail; fail; fail; fail; fail; fail
    refine ⟨rfl, fun z hz => ?_⟩
    obtain ⟨m, hm⟩ : ∃ m : Nat, l = m + 1 := ⟨l - 1, by omega⟩
    have hpz : p ≠ z := fun y => by rw [← y, mup_ne hpL, mup_ne hpx, e3] at hz; cases hz
    have e4 : mup (mup M x (sto K l held last (20 : Nat))) L (.lst ((rngI 0 (20 - l)).map D.int)) p = some (pen cells a3 g3) := by rw [mup_ne hpL, mup_ne hpx]; exact e3
    refine ⟨z, _, rfl, mup_same, rfl, fun i ei h0 h1 => ?_, fun hb => ?_⟩
    case refine_2 => rw [btw_ok ⟨by omega, by omega⟩] at hb; cases hb
    cases ei
    rw [mup_mup]
    refine ⟨rfl, ?_⟩
    generalize mup (mup M x (sto K l held last (20 : Nat))) L (.lst ((rngI 0 (20 - l)).map D.int)) = M5 at hz e4
    rw [show (l : Int) - 1 = (m : Int) by omega]
    fail
    refine ws_for (T := [7]) (passes_of rfl) rfl ?_
    refine wi_list ?_
    refine we_lrg2 rfl (free_list T) (free_range T) ?_
    repeat fail
    refine ⟨1, (l : Int) + 1, rfl, rfl, .of_le (by decide) (by omega) (by decide) (by omega), .inl ?_⟩
    refine ⟨_, rfl, ?_⟩
    rw [rngD_len, show ((l : Int) + 1 - 1).toNat = m + 1 by omega]
    refine ⟨fun i ss' M' => ∃ s7 s8 : S, ss' = [some (.rf p), some (.int ev), some (.int l), some (.int 20), some (.lst (rs.map D.int)), some (.rf x), some (.rf L), s7, s8, some (.rf z)] ∧ M' = mup M5 z (sto K m (if i ≤ m then rngI 1 i else rngI 2 m) (if i ≤ m then none else some 1) i), ?_, fun _ _ _ _ => trivial, fun i d ss' M' hd iv => ?_, fun ss' M' iv => ?_⟩
    · exact ⟨_, _, rfl, rfl⟩
    · obtain ⟨s7, s8, rfl, rfl⟩ := iv
      obtain ⟨hi, rfl⟩ := rngD_get hd
      have hmb := most_big
      obtain ⟨st1, st2, st3⟩ := small_step (l := m) (i := i) (by omega)
      rw [if_pos (by omega), if_pos (by omega)]
      refine wg_name 7 nd ?_
      fail; fail; fail
      refine we_ix ?_
      refine we_fn (kf_put T) hg (hr.mono (by decide)) ?_ rfl (hlen := len_SLPut)
      fail; fail; fail; fail; fail
      refine ⟨z, .int (1 + (i : Int)), m, rngI 1 i, none, i, rfl, mup_same, rfl, by omega, by rw [rngI_len]; omega, fun hb => ?_, fun n' en _ _ => ⟨fun a ea hlt => (by cases ea), fun _ => ?_⟩⟩
      · rw [btw_ok ⟨by omega, by omega⟩] at hb; cases hb
      cases en
      rw [mup_mup, st2, st3]
      fail
      refine ⟨0, .str "put", rfl, rfl, ?_⟩
      fail
      refine o_neT rfl ?_
      refine ⟨_, rfl, iteB (fun h => Bool.noConfusion h) fun _ => ?_⟩
      fail; fail
      refine ⟨_, _, rfl, ?_⟩
      rfl
    · obtain ⟨s7, s8, rfl, rfl⟩ := iv
      rw [if_neg (by omega), if_neg (by omega)]
      have hmb := most_big
      fail; fail
      refine we_and ?_
      fail
      refine we_fn (kf_put T) hg (hr.mono (by decide)) ?_ rfl (hlen := len_SLPut)
      fail; fail; fail; fail; fail
      refine ⟨z, .int 0, m, rngI 2 m, some 1, ((m + 1 : Nat) : Int), rfl, mup_same, rfl, by omega, by rw [rngI_len]; omega, fun hb => ?_, fun n' en _ _ => ⟨fun a ea _ => ?_, fun hn => ?_⟩⟩
      · rw [btw_ok ⟨by omega, by omega⟩] at hb; cases hb
      rotate_left
      · exact absurd (by cases en; decide : n' < 1) (hn 1 rfl)
      rw [show ((m + 1 : Nat) : Int) = (l : Int) by omega]
      fail; fail; fail; fail; fail; fail
      refine ⟨(by decide : 2 ≤ sizeLine), ?_⟩
      refine o_eqP (by decide +kernel) (room_un hr) ?_
      refine ⟨true, rfl, iteB (fun _ => ?_) fun h => Bool.noConfusion h⟩
      fail; fail
      refine we_fn (kf_put T) hg (hr.mono (by decide)) ?_ rfl (hlen := len_SLPut)
      fail; fail; fail; fail; fail; fail; fail; fail
      refine ⟨z, _, m, rngI 2 m, some 1, (l : Int), rfl, mup_same, rfl, by omega, by rw [rngI_len]; omega, fun hb => ?_, fun n' en _ _ => ⟨fun a ea hlt => ?_, fun hn => ?_⟩⟩
      · rw [btw_ok ⟨by omega, by omega⟩] at hb; cases hb
      · exact absurd hlt (by cases en; cases ea; omega)
      cases en
      rw [show (l : Int) + 1 = 2 + (m : Int) by omega, small_end, mup_mup]
      fail; fail; fail; fail; fail; fail
      refine ⟨(by decide : 2 ≤ sizeLine), ?_⟩
      refine o_eqP (by decide +kernel) (room_un hr) ?_
      exact q _ a3 g3 (by rw [mup_ne hpz]; exact e4) (by omega) (by omega)
end
end K60

set_option Elab.async false
set_option linter.all false
set_option maxRecDepth 100000
set_option maxHeartbeats 1000000
namespace K60
open PySem PySem.Spec PyProof.Rows L2 JQ
local macro_rules | `(tactic| fail) => `(tactic| first | refine o_add ?_ | refine o_sub ?_ | refine o_lt ?_ | refine o_le ?_ | refine o_gt ?_ | refine o_ge ?_ | refine o_eqI ?_ | refine o_neI ?_)
local macro_rules | `(tactic| fail) => `(tactic| first | refine wa_cons ?_ | refine wa_nil ?_ | refine wk_cons ?_ | refine wk_nil ?_)
local macro_rules | `(tactic| fail) => `(tactic| first | refine wt_cmp ?_ | refine wt_chain ?_ | refine wt_not ?_ | refine wt_and2 ?_ | refine wt_or2 ?_)
local macro_rules | `(tactic| fail) => `(tactic| first | refine we_int ?_ | refine we_str ?_ | refine we_bl ?_ | refine we_non ?_ | refine we_tup ?_ | refine we_bin ?_ | refine we_cmp ?_ | refine we_chain ?_ | refine we_not ?_ | refine we_un ?_ | refine we_and ?_ | refine we_or ?_ | refine we_one ?_ | refine we_ifx ?_)
local macro_rules | `(tactic| fail) => `(tactic| first | refine we_var 0 (by rfl) ?_ | refine we_var 1 (by rfl) ?_ | refine we_var 2 (by rfl) ?_ | refine we_var 3 (by rfl) ?_ | refine we_var 4 (by rfl) ?_ | refine we_var 5 (by rfl) ?_ | refine we_var 6 (by rfl) ?_ | refine we_var 7 (by rfl) ?_ | refine we_var 8 (by rfl) ?_ | refine we_var 9 (by rfl) ?_ | refine we_var 10 (by rfl) ?_ | refine we_var 11 (by rfl) ?_)
local macro_rules | `(tactic| fail) => `(tactic| first | refine ws_ret ?_ | refine ws_retN ?_ | refine ws_if ?_ | refine ws_expr ?_ | refine ws_set 0 (by assumption) ?_ | refine ws_set 1 (by assumption) ?_ | refine ws_set 2 (by assumption) ?_ | refine ws_set 3 (by assumption) ?_ | refine ws_set 4 (by assumption) ?_ | refine ws_set 5 (by assumption) ?_ | refine ws_set 6 (by assumption) ?_ | refine ws_set 7 (by assumption) ?_ | refine ws_set 8 (by assumption) ?_ | refine ws_set 9 (by assumption) ?_ | refine ws_set 10 (by assumption) ?_ | refine ws_set 11 (by assumption) ?_)
local macro_rules | `(tactic| fail) => `(tactic| first | refine wss_cons ?_ | refine wss_nil ?_)
section
variable {P : Program} {w : World} {K : PySem.W.Frag} {mg : Str → Option Value} {base : Heap}
def SMade : Sd := fun ds M P _ => ∃ p cells at_ great, ds = [.rf p] ∧ M p = some (pen cells at_ great) ∧ cells.length ≤ 63 ∧ 0 ≤ at_ ∧ at_ < 100000 ∧ ∀ M', P (.bl true) M'
theorem len_SMade : ∀ ds M P EE, SMade ds M P EE → ds.length = 1 := fun ds M P EE ⟨_, _, _, _, e, _⟩ => by rw [e]; rfl
abbrev N_md : List Str := ["_law_pen_here", "_law_what", "_law_odd", "error"]
theorem sc_l_made : FnScope N_md ["_law_pen_here"] (defScope s_l_made_right) := ⟨rfl, rfl, rfl, by decide +kernel, rfl, by decide +kernel, by decide +kernel⟩
theorem kf_made (T : Tx K mg) : KF P w K mg base 6 "_law_made_right" 1 [] SMade := by
  obtain ⟨fd, F⟩ := F_l_made_right T
  refine ⟨_, fd, ["_law_pen_here"], ?_, bndD F 1 [] (fun _ _ _ _ _ _ us ws h1 h2 => match us, ws, h1, h2 with | [_], [], _, _ => rfl), g_l_made_right T, F.kp⟩
  refine fnDD F sc_l_made len_SMade fun cdv A outer s H E hg hr ds M Pd EE ⟨p, cells, at_, great, e', em, hc, ha0, ha1, q⟩ => ?_
  subst e'
  have nd := sc_l_made.nd
  fail
  refine ws_par 1 2 rfl nd ?_
  fail; fail; fail
  refine we_fn (kf_pick T) hg (hr.mono (by decide)) ?_ rfl (hlen := len_SPick)
  fail; fail; fail
  refine we_lst ?_
  repeat fail
  refine o_neg ?_
  repeat fail
  refine ⟨(by decide : 1 ≤ sizeLine), ?_⟩
  fail
  refine ⟨(by decide : 6 ≤ sizeLine), .inl ?_⟩
  fail
  refine ⟨p, cells, at_, great, _, rfl, em, hc, by omega, by omega, (by decide : 0 < 6), (by decide : 6 < 1000000), fun i d at' great' hi ha4 ha5 => ?_⟩
  obtain ⟨kn, nb⟩ : known d = true ∧ btw d 0 20 = false := by
    match i, hi with
    | 0, hi => cases hi; exact ⟨rfl, by decide⟩
    | 1, hi => cases hi; exact ⟨rfl, by decide⟩
    | 2, hi => cases hi; exact ⟨rfl, rfl⟩
    | 3, hi => cases hi; exact ⟨rfl, rfl⟩
    | 4, hi => cases hi; exact ⟨rfl, rfl⟩
    | 5, hi => cases hi; exact ⟨rfl, rfl⟩
    | i + 6, hi => simp at hi
  fail
  refine ⟨_, _, rfl, ?_⟩
  fail
  refine ws_try (l := [(.ref (cBad K), some 3, _)]) rfl rfl nd (clo_named 3 (names_of (g_BadValue T)) clo_nil) fun pn xe po => ?_
  fail; fail
  refine we_mk (kc_Store (.inl rfl) T) hg (hr.mono (by decide)) ?_
  fail; fail; fail
  refine ⟨rfl, fun x hx => ?_⟩
  refine ⟨x, d, rfl, mup_same, kn, fun i ei h0 h1 => ?_, fun _ => ?_⟩
  · subst ei
    rw [btw_ok ⟨h0, h1⟩] at nb
    cases nb
  refine ⟨true, exm_BadValue_BadValue T, fun _ a dd pn2 oe hz hf hdd => ?_, fun h => Bool.noConfusion h⟩
  fail
  refine ws_set 1 nd ?_
  fail; fail
  refine we_callB (id := "isinstance") ?_ (free_isinstance T)
  fail; fail; fail
  refine we_gref (g_PostError T) ?_
  fail
  refine c_isE (exi_BadValue T) hz hf mup_same (.own _) (kit_BadValue_PostError T) ?_
  fail
  refine we_errf (gs := []) (xf_BadValue T) (nof_BadValue_what T) hz hf ?_
  fail
  refine ⟨rfl, _, .str "late", mup_same, rfl, ?_⟩
  fail
  refine ⟨(by decide : 2 ≤ sizeLine), ?_⟩
  fail
  show WSs _ _ _ (mdel (mup _ dd _) dd) _
  rw [mdel_mup hdd]
  fail; fail; fail; fail; fail; fail; fail; fail; fail; fail
  refine ⟨(by decide : 2 ≤ sizeLine), ?_⟩
  refine o_eqD (d := .tup [.bl true, .str "late"]) (e := .tup [.bl true, .str "late"]) (room_un hr) ⟨rfl, .inl rfl⟩ ⟨rfl, .inl rfl⟩ (by decide +kernel) (by decide +kernel) ?_
  have e : PyData.eqv (pyD (.tup [.bl true, .str "late"])) (pyD (.tup [.bl true, .str "late"])) = true := by decide +kernel
  rw [e]
  exact q _
end
end K60

set_option Elab.async false
set_option linter.all false
set_option maxRecDepth 100000
set_option maxHeartbeats 1000000
namespace K60
open PySem PySem.Spec PyProof.Rows L2 JQ
local macro_rules | `(tactic| fail) => `(tactic| first | refine o_add ?_ | refine o_sub ?_ | refine o_lt ?_ | refine o_le ?_ | refine o_gt ?_ | refine o_ge ?_ | refine o_eqI ?_ | refine o_neI ?_)
local macro_rules | `(tactic| fail) => `(tactic| first | refine wa_cons ?_ | refine wa_nil ?_ | refine wk_cons ?_ | refine wk_nil ?_)
local macro_rules | `(tactic| fail) => `(tactic| first | refine wt_cmp ?_ | refine wt_chain ?_ | refine wt_not ?_ | refine wt_and2 ?_ | refine wt_or2 ?_)
local macro_rules | `(tactic| fail) => `(tactic| first | refine we_int ?_ | refine we_str ?_ | refine we_bl ?_ | refine we_non ?_ | refine we_tup ?_ | refine we_bin ?_ | refine we_cmp ?_ | refine we_chain ?_ | refine we_not ?_ | refine we_un ?_ | refine we_and ?_ | refine we_or ?_ | refine we_one ?_ | refine we_ifx ?_)
local macro_rules | `(tactic| fail) => `(tactic| first | refine we_var 0 (by rfl) ?_ | refine we_var 1 (by rfl) ?_ | refine we_var 2 (by rfl) ?_ | refine we_var 3 (by rfl) ?_ | refine we_var 4 (by rfl) ?_ | refine we_var 5 (by rfl) ?_ | refine we_var 6 (by rfl) ?_ | refine we_var 7 (by rfl) ?_ | refine we_var 8 (by rfl) ?_ | refine we_var 9 (by rfl) ?_ | refine we_var 10 (by rfl) ?_ | refine we_var 11 (by rfl) ?_)
local macro_rules | `(tactic| fail) => `(tactic| first | refine ws_ret ?_ | refine ws_retN ?_ | refine ws_if ?_ | refine ws_expr ?_ | refine ws_set 0 (by assumption) ?_ | refine ws_set 1 (by assumption) ?_ | refine ws_set 2 (by assumption) ?_ | refine ws_set 3 (by assumption) ?_ | refine ws_set 4 (by assumption) ?_ | refine ws_set 5 (by assumption) ?_ | refine ws_set 6 (by assumption) ?_ | refine ws_set 7 (by assumption) ?_ | refine ws_set 8 (by assumption) ?_ | refine ws_set 9 (by assumption) ?_ | refine ws_set 10 (by assumption) ?_ | refine ws_set 11 (by assumption) ?_)
local macro_rules | `(tactic| fail) => `(tactic| first | refine wss_cons ?_ | refine wss_nil ?_)
section
variable {P : Program} {w : World} {K : PySem.W.Frag} {mg : Str → Option Value} {base : Heap}
abbrev lawLevel : Nat := 12
theorem len_SLaw : ∀ ds M P EE, SLaw ds M P EE → ds.length = 1 := fun ds M P EE ⟨_, e, _⟩ => by rw [e]; rfl
abbrev N_law : List Str := ["_law_script", "_law_pen_here", "_law_way", "_law_late", "_law_many", "_law_most", "_law_numbers", "_law_at", "_law_one"]
theorem sc_law : FnScope N_law ["_law_script"] (defScope s_law) := ⟨rfl, rfl, rfl, by decide +kernel, rfl, by decide +kernel, by decide +kernel⟩
theorem law_ok (T : Tx K mg) {fd : FuncData} (F : FunD K "law" "law" (defArgs s_law) (defBody s_law) (defScope s_law) [] [] (He.ga K "law") fd) : FnG P w K mg base lawLevel (He.ga K "law") fd ["_law_script"] (spD K SLaw) := by
  refine fnDD F sc_law len_SLaw fun cdv A outer s H E hg hr ds M Pd EE ⟨cells, e', hc, eM, q⟩ => ?_
  subst e' eM
  have nd := sc_law.nd
  fail
  refine ws_set 1 nd ?_
  refine we_fn (kf_pen T) hg (hr.mono (by decide)) ?_ rfl (hlen := len_SPen)
  fail; fail; fail
  refine ⟨cells, rfl, hc, fun p hp => ?_⟩
  fail
  refine ws_par3 2 3 4 rfl nd ?_
  fail
  refine we_fn (kf_draw T) hg (hr.mono (by decide)) ?_ rfl (hlen := len_SDraw)
  fail; fail; fail; fail; fail
  refine ⟨p, cells, 0, 0, 4, rfl, mup_same, hc, by omega, by omega, by omega, by omega, fun way a1 g1 hw0 hw1 h1 h2 => ?_⟩
  rw [mup_mup]
  fail
  refine we_fn (kf_draw T) hg (hr.mono (by decide)) ?_ rfl (hlen := len_SDraw)
  fail; fail; fail; fail; fail
  refine ⟨p, cells, a1, g1, 21, rfl, mup_same, hc, by omega, by omega, by omega, by omega, fun late a2 g2 hl0 hl1 h3 h4 => ?_⟩
  rw [mup_mup]
  fail
  refine we_fn (kf_draw T) hg (hr.mono (by decide)) ?_ rfl (hlen := len_SDraw)
  fail; fail; fail; fail; fail
  refine ⟨p, cells, a2, g2, 25, rfl, mup_same, hc, by omega, by omega, by omega, by omega, fun many a3 g3 hm0 hm1 h5 h6 => ?_⟩
  rw [mup_mup]
  fail
  refine ⟨_, _, _, rfl, ?_⟩
  fail; fail
  repeat fail
  refine ⟨_, rfl, iteB (fun h => ?_) fun h => ?_⟩
  · fail; fail
    refine we_and ?_
    refine we_fn (kf_run T) hg (hr.mono (by decide)) ?_ rfl (hlen := len_SRun)
    fail; fail; fail
    refine ⟨p, cells, a3, g3, rfl, mup_same, hc, by omega, by omega, fun M' at' g' e h7 h8 => ?_⟩
    refine ⟨true, rfl, iteB (fun _ => ?_) fun h => Bool.noConfusion h⟩
    fail
    refine we_fn (kf_made T) hg (hr.mono (by decide)) ?_ rfl (hlen := len_SMade)
    fail; fail; fail
    exact ⟨p, cells, at', g', rfl, e, hc, by omega, by omega, fun M'' => q M''⟩
  have hw3 : way ≠ 3 := of_decide_eq_false h
  obtain ⟨j, ej⟩ : ∃ j : Nat, way = j := ⟨way.toNat, by omega⟩
  subst ej
  have hj : j < 3 := by omega
  obtain ⟨most, hmo, hm2, hm3⟩ : ∃ most : Int, ([.int 6, .int 40, .int (10 ^ (20 : Int).toNat)] : List D)[j]? = some (.int most) ∧ 0 < most ∧ most ≤ 10 ^ 20 := by
    match j, hj with
    | 0, _ => exact ⟨6, rfl, by decide, by decide⟩
    | 1, _ => exact ⟨40, rfl, by decide, by decide⟩
    | 2, _ => exact ⟨10 ^ 20, rfl, by decide, by decide⟩
  fail; fail
  refine ws_set 5 nd ?_
  refine we_ix ?_
  refine we_lst ?_
  repeat fail
  refine o_pow ⟨by decide, by decide, by decide⟩ ?_
  fail
  refine ⟨(by decide : 3 ≤ sizeLine), .inl ?_⟩
  fail
  refine ⟨j, .int most, rfl, atI_of hmo, ?_⟩
  fail
  refine ws_lc 6 [("_law_at", 7)] rfl nd (blkOk_by (N := N_law) (sc := defScope s_law) (by decide +kernel)) rfl ?_
  refine wi_rng1 (free_range T) ?_
  fail
  refine ⟨many, rfl, by omega, by omega, ?_⟩
  refine ⟨by rw [rngD_len]; omega, fun i acc M' => ∃ at' great' ns, acc = List.map D.int ns ∧ M' = mup m0 p (pen cells at' great') ∧ 0 ≤ at' ∧ at' ≤ 10 + i ∧ ns.length = i ∧ ∀ n ∈ ns, 0 ≤ n ∧ n ≤ 10 ^ 20 + 100, ?_, fun _ _ _ _ => trivial, fun i d acc M' hd ac s H C cl fp => ⟨[7], by simp, ?_⟩, fun acc M' ac => .inl ?_⟩
  · exact ⟨a3, g3, [], rfl, rfl, by omega, by omega, rfl, fun n hn => by simp at hn⟩
  · obtain ⟨at', great', ns, rfl, rfl, h7, h8, hnl, hns⟩ := ac
    obtain ⟨hi, rfl⟩ := rngD_get hd
    refine wg_name 7 nd ?_
    intro s H C cl fp
    refine wts_nil ?_
    refine iteB (fun _ => ?_) fun h => Bool.noConfusion h
    intro s H C cl fp
    fail
    refine we_fn (kf_draw T) hg (hr.mono (by decide)) ?_ rfl (hlen := len_SDraw)
    fail; fail; fail; fail; fail
    have hbig : (10 : Int) ^ 20 < 2 ^ 200 := by decide
    refine ⟨p, cells, at', great', most, rfl, mup_same, hc, by omega, by omega, hm2, by omega, fun kk a4 g4 hk0 hk1 h9 h10 => ?_⟩
    rw [mup_mup]
    fail; fail
    refine ⟨a4, g4, ns ++ [kk + (0 + (i : Int))], by simp, rfl, by omega, by omega, by simp [hnl], fun n hn => ?_⟩
    rcases List.mem_append.mp hn with h | h
    · exact hns n h
    · rw [List.mem_singleton.mp h]; omega
  · obtain ⟨at', great', ns, rfl, rfl, h7, h8, hnl, hns⟩ := ac
    rw [rngD_len] at hnl h8
    have hmb : (10 : Int) ^ 20 + 100 ≤ mostN := by decide
    -- the end
    have fin : ∀ ns : List Int, ns.length ≤ 100 → (∀ n ∈ ns, 0 ≤ n ∧ n ≤ mostN) → WSs (bdOf P w K mg base N_law "law" (defScope s_law) (He.ga K "law") cdv A outer s H E EE) [match defBody s_law with | [_, _, _, _, _, _, z] => z | _ => .Pass ⟨0, 0, 0, 0⟩] [some (.scr (cells.map D.int)), some (.rf p), some (.int j), some (.int late), some (.int many), some (.int most), some (.lst (ns.map D.int)), none, none] (mup m0 p (pen cells at' great')) { nx := fun _ => Pd .non, rt := Pd } := fun ns hl hns => by
      fail; fail
      refine we_fn (kf_steps T) hg (hr.mono (by decide)) ?_ rfl (hlen := len_SSteps)
      fail; fail; fail
      refine we_fn (kf_pick T) hg (hr.mono (by decide)) ?_ rfl (hlen := len_SPick)
      fail; fail; fail
      refine we_lst ?_
      fail; fail; fail; fail
      refine we_callTy (T := "int") ?_ (free_int T)
      fail; fail; fail
      refine c_int ?_
      fail
      refine o_mod (by decide) ?_
      fail
      refine ⟨(by decide : 2 ≤ sizeLine), .inl ?_⟩
      fail
      refine ⟨p, cells, at', great', _, rfl, mup_same, hc, by omega, by omega, (by decide : 0 < 2), (by decide : 2 < 1000000), fun i d a5 g5 hi h9 h10 => ?_⟩
      obtain ⟨lt, rfl, hlt0, hlt1⟩ : ∃ lt : Int, d = .int lt ∧ 0 ≤ lt ∧ lt ≤ 20 := by
        match i, hi with
        | 0, hi => cases hi; exact ⟨late, rfl, hl0, by omega⟩
        | 1, hi => cases hi; exact ⟨late % 4, rfl, by omega, by omega⟩
        | i + 2, hi => simp at hi
      fail; fail; fail
      refine ⟨p, cells, a5, g5, lt, ns, rfl, mup_same, hc, by omega, by omega, hlt0, hlt1, hl, hns, q⟩
    fail; fail; fail; fail; fail
    fail
    refine ⟨_, rfl, iteB (fun h => ?_) fun h => ?_⟩
    · fail
      refine ws_lc 6 [("_law_at", 7), ("_law_one", 8)] rfl nd (blkOk_by (N := N_law) (sc := defScope s_law) (by decide +kernel)) rfl ?_
      refine wi_enum (free_enumerate T) ?_
      fail
      refine ⟨_, rfl, ?_⟩
      have hel : (enumD (ns.map D.int)).length = ns.length := by rw [enumD_len, List.length_map]
      refine ⟨by rw [hel]; omega, fun i acc M' => ∃ ns' : List Int, acc = ns'.map D.int ∧ M' = mup m0 p (pen cells at' great') ∧ ns'.length = i ∧ ∀ n ∈ ns', 0 ≤ n ∧ n ≤ mostN, ?_, fun _ _ _ _ => trivial, fun i d acc M' hd ac s H C cl fp => ⟨[7] ++ ([8] ++ []), by simp, ?_⟩, fun acc M' ac => .inl ?_⟩
      · exact ⟨[], rfl, rfl, rfl, fun n hn => by simp at hn⟩
      · obtain ⟨ns', rfl, rfl, hnl', hns'⟩ := ac
        obtain ⟨x, hx, rfl⟩ := enumD_get hd
        obtain ⟨v, hv, rfl⟩ : ∃ v ∈ ns, x = .int v := by
          have hm := List.mem_of_getElem? hx
          obtain ⟨v, hv, rfl⟩ := List.mem_map.mp hm
          exact ⟨v, hv, rfl⟩
        have hi : i < ns.length := by rw [← hel]; exact (List.getElem?_eq_some_iff.mp hd).1
        obtain ⟨hv0, hv1⟩ := hns v hv
        refine wg_tup rfl (wgs_cons (wg_name 7 nd (wgs_cons (wg_name 8 nd (wgs_nil ?_)))))
        intro s H C cl fp
        refine wts_nil ?_
        refine iteB (fun _ => ?_) fun h => Bool.noConfusion h
        intro s H C cl fp
        fail; fail
        refine we_callTy (T := "int") ?_ (free_int T)
        fail; fail; fail
        refine c_int ?_
        fail; fail; fail
        refine o_pow ⟨by decide, by decide, by decide⟩ ?_
        have hb1 : (10 : Int) ^ 20 + 100 < 2 ^ 200 := by decide
        refine o_mulW (wide_mul (a := 200) (b := 200) (by omega) (by decide) (by decide) (by decide) (by decide)) ?_
        fail; fail
        have hb2 : ((10 : Int) ^ 20 + 100) * 10 ^ (39 : Int).toNat + 100 ≤ mostN := by decide
        have hv3 : v * 10 ^ (39 : Int).toNat ≤ (10 ^ 20 + 100) * 10 ^ (39 : Int).toNat := Int.mul_le_mul_of_nonneg_right hv1 (by decide)
        have hv4 : 0 ≤ v * 10 ^ (39 : Int).toNat := Int.mul_nonneg hv0 (by decide)
        refine ⟨ns' ++ [v * 10 ^ (39 : Int).toNat + (i : Int)], by simp, rfl, by simp [hnl'], fun n hn => ?_⟩
        rcases List.mem_append.mp hn with h | h
        · exact hns' n h
        · rw [List.mem_singleton.mp h]
          generalize v * 10 ^ (39 : Int).toNat = z at hv3 hv4 ⊢
          omega
      · obtain ⟨ns', rfl, rfl, hnl', hns'⟩ := ac
        rw [hel] at hnl'
        fail
        exact fin ns' (by omega) hns'
    · fail
      exact fin ns (by omega) fun n hn => ⟨(hns n hn).1, by have := (hns n hn).2; omega⟩
end
end K60

set_option Elab.async false
set_option linter.all false
set_option maxRecDepth 100000
set_option maxHeartbeats 0
namespace K60
open PySem PySem.Spec PyProof.Rows L2 JQ
abbrev R : PySem.W.OpenRow := PySem.W.OpenLaw.row PySem.Challenge.rw_jumblepost_k60_stores
abbrev hk : PySem.W.Hook := He.hookX 6 fa fn [] [] more
def ob (s : PySem.W.SharedT) : He.AlX := He.obsX 6 fa fn [] [] more (HandSHeadRun.getT s)
theorem ob_eq (s : PySem.W.SharedT) : ob s = hk.obs s.abs := He.obsX_eq (HandSHeadRun.getT_eq s)
def loose : List PySem.Str := (["PostError", "BadValue", "Unfit", "MOST_NUMBER", "is_integer", "is_between", "is_number", "MOST_LATE", "Store", "_law_pen", "_law_draw", "_law_pick", "_law_order", "_law_put"] : List PySem.Str) ++ (["_law_shown", "_law_steps_right", "_law_run_right", "_law_made_right"] : List PySem.Str)
theorem run (w : World) : HandSHeadRun.RunEq R (PySem.W.view R.prog [22]) hk ob 6000 loose w := by
  intro os
  kernel_rfl
end K60
open PySem PySem.W PySem.Calls PyProof.Rows
theorem PySem.Challenge.cw_jumblepost_k60_stores_holds : PySem.Challenge.rw_jumblepost_k60_stores.Holds := by
  w_on; o_law
  refine HandSHeadRun.head_any (r := OpenLaw.row PySem.Challenge.rw_jumblepost_k60_stores) (q := view (OpenLaw.row PySem.Challenge.rw_jumblepost_k60_stores).prog [22]) (H := K60.hk) (ob := K60.ob) (M := 6000) (loose := K60.loose) (d := HandSHeadRun.topDef (OpenLaw.row PySem.Challenge.rw_jumblepost_k60_stores).prog 22) (kwd := []) K60.ob_eq
    (by kernel_rfl) (fun s => by kernel_rfl) K60.run (by kernel_rfl) (by kernel_rfl) (by kernel_rfl) (by rfl) (by first | assumption | decide +kernel) (by decide +kernel) ⟨rfl, rfl, rfl, rfl, rfl, by decide +kernel⟩ ?hw ?hc
  case hw => w_witness2
  case hc =>
    refine JQ.walk_ofG (l := PySem.Challenge.rw_jumblepost_k60_stores) (k := K60.lawLevel) (x := "_law_script") rfl (by kernel_rfl) ⟨rfl, by decide, by decide⟩ ?F
    intro w mg fa h Y G hmg0
    obtain ⟨K, KX, c⟩ := Y
    have T : K60.Tx K mg := ⟨c.t.d, ⟨h, KX, G⟩, c.more⟩
    have hmg : mg ("law" : PySem.Str) = some (.ref fa) := by
      have e : (HandSHeadRun.topDef (OpenLaw.row PySem.Challenge.rw_jumblepost_k60_stores).prog 22).name = ("law" : PySem.Str) := by kernel_rfl
      rw [← e]
      exact hmg0
    have e := hmg.symm.trans (K60.g_law T)
    cases e
    obtain ⟨fd, F⟩ := K60.F_law T
    have b := L2.FunD.bindsA (ps := ["_law_script"]) F fun _ _ _ _ _ _ us hl => match us, hl with | [_], _ => rfl
    exact ⟨K, fd, KX, fun s v => b s [v] rfl, fun base _ _ => K60.law_ok T F⟩

