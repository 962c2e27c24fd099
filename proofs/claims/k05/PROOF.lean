import PyProof.Rows.All
import HandS.ForExc
import HandS.Evl
import HandS.CallSlots
import HandS.Defaults
import HandS.Lambda
import HandS.Walk
import HandS.Zip
import HandS.Rev
import HandS.Star
import HandS.TupAny
import HandS.Style
import HandS.Wide
import HandS.IsInst
import HandS.SortInts
import HandS.ForMost
import HandS.Conv
import HandS.MakeKwOnly
import HandS.ExcInit
import HandS.ExcField
import HandS.TryMany
import KE.KExcIs
import HandS.HeadEnd
import HandS.HeadHook1
import HandS.HeadHook2
import PyProof.ReprLen
import HandS.Deep
import HandS.DictComp
import HandS.Small
import HandS.HeadHook4
import HandS.EndTab
import KE.KOpsOwn
import HandS.OwnEq
import PyProof.NeKinds
import HandS.FStr
import KE.KCallOwn
import HandS.GenOver
import HandS.GenCall
import Wide.All
import OpenK.AllK
import Wide.FinOn
import KE.KStateDown
import Lean
import HandS.Head0
import HandS.Head1
import HandS.Head2
import HandS.HeadHook3
import PySem.Challenge.RW_jumblepost_k05_whole_placings_come_one_b
set_option Elab.async false
set_option linter.all false
set_option maxRecDepth 100000
set_option maxHeartbeats 2000000
/-! Data, the objects that change, transitions between worlds, frames of data, and the judgements. -/
namespace JQ
open PySem PySem.Spec PyProof.Rows L2
open Evl (Ex ex_l ex_t)
/-! ### data -/
inductive D where
  | non | bl (b : Bool) | int (i : Int) | str (x : Str) | tup (ds : List D) | lst (ds : List D) | obj (C : Addr) (fs : List (Str × D)) | adr (v : V) | scr (ds : List D) | clo (a : Addr) (φ : Hp → Prop)
/-- a reference to an object that may change -/
abbrev D.rf (a : Addr) : D := .adr (.ref a)
mutual
inductive Is (K : PySem.W.Frag) (G : Hp) : V → D → Prop
  | non : Is K G .non .non
  | bl (b : Bool) : Is K G (.bl b) (.bl b)
  | int (i : Int) : Is K G (.int i) (.int i)
  | str (x : Str) : Is K G (.str x) (.str x)
  | tup {a : Addr} {xs : List V} {ds : List D} : SqT K G a xs → Iss K G xs ds → Is K G (.ref a) (.tup ds)
  | lst {a : Addr} {xs : List V} {ds : List D} : G a = some (.lst xs) → Iss K G xs ds → Is K G (.ref a) (.lst ds)
  | obj {a C dx : Addr} {fs : List (Str × V)} {gs : List (Str × D)} : G a = some (.ins C dx fs) → IsF K G fs gs → Is K G (.ref a) (.obj C gs)
  | adr (v : V) : Is K G v (.adr v)
  | scr {a : Addr} {xs : List V} {ds : List D} : SqL K G a xs → Iss K G xs ds → Is K G (.ref a) (.scr ds)
  | clo {a : Addr} {φ : Hp → Prop} : φ G → (∀ G1 G2, Ex G1 G2 → φ G1 → φ G2) → Is K G (.ref a) (.clo a φ)
inductive Iss (K : PySem.W.Frag) (G : Hp) : List V → List D → Prop
  | nil : Iss K G [] []
  | cons {x : V} {d : D} {xs : List V} {ds : List D} : Is K G x d → Iss K G xs ds → Iss K G (x :: xs) (d :: ds)
inductive IsF (K : PySem.W.Frag) (G : Hp) : List (Str × V) → List (Str × D) → Prop
  | nil : IsF K G [] []
  | cons {f : Str} {x : V} {d : D} {xs : List (Str × V)} {ds : List (Str × D)} : Is K G x d → IsF K G xs ds → IsF K G ((f, x) :: xs) ((f, d) :: ds)
end
section
variable {K : PySem.W.Frag} {G G' : Hp}
mutual
theorem Is.mono (e : Ex G G') : ∀ {v : V} {d : D}, Is K G v d → Is K G' v d
  | _, _, .non => .non
  | _, _, .bl b => .bl b
  | _, _, .int b => .int b
  | _, _, .str b => .str b
  | _, _, .tup h r => .tup (ex_t e h) (Iss.mono e r)
  | _, _, .lst h r => .lst (e _ _ h) (Iss.mono e r)
  | _, _, .obj h r => .obj (e _ _ h) (IsF.mono e r)
  | _, _, .adr v => .adr v
  | _, _, .scr h r => .scr (ex_l e h) (Iss.mono e r)
  | _, _, .clo h m => .clo (m _ _ e h) m
theorem Iss.mono (e : Ex G G') : ∀ {v : List V} {d : List D}, Iss K G v d → Iss K G' v d
  | _, _, .nil => .nil
  | _, _, .cons h r => .cons (Is.mono e h) (Iss.mono e r)
theorem IsF.mono (e : Ex G G') : ∀ {v : List (Str × V)} {d : List (Str × D)}, IsF K G v d → IsF K G' v d
  | _, _, .nil => .nil
  | _, _, .cons h r => .cons (Is.mono e h) (IsF.mono e r)
end
theorem Iss.length : ∀ {v : List V} {d : List D}, Iss K G v d → v.length = d.length
  | _, _, .nil => rfl
  | _, _, .cons _ r => by rw [List.length_cons, List.length_cons, r.length]
theorem Iss.get : ∀ {v : List V} {d : List D} {i : Nat} {x : V}, Iss K G v d → v[i]? = some x → ∃ y, d[i]? = some y ∧ Is K G x y
  | _, _, _, _, .nil, e => by simp at e
  | _, _, 0, _, .cons h _, e => by simp at e; subst e; exact ⟨_, rfl, h⟩
  | _, _, i + 1, x, .cons _ r, e => by simpa using r.get (i := i) (x := x) (by simpa using e)
theorem Iss.get' : ∀ {v : List V} {d : List D} {i : Nat} {y : D}, Iss K G v d → d[i]? = some y → ∃ x, v[i]? = some x ∧ Is K G x y
  | _, _, _, _, .nil, e => by simp at e
  | _, _, 0, _, .cons h _, e => by simp at e; subst e; exact ⟨_, rfl, h⟩
  | _, _, i + 1, x, .cons _ r, e => by simpa using r.get' (i := i) (y := x) (by simpa using e)
theorem Iss.append : ∀ {v w : List V} {d e : List D}, Iss K G v d → Iss K G w e → Iss K G (v ++ w) (d ++ e)
  | _, _, _, _, .nil, s => s
  | _, _, _, _, .cons h r, s => .cons h (r.append s)
theorem Iss.take (n : Nat) : ∀ {v : List V} {d : List D}, Iss K G v d → Iss K G (v.take n) (d.take n) := by
  induction n with
  | zero => intro v d _; simp only [List.take_zero]; exact .nil
  | succ n ih =>
    intro v d h
    cases h with
    | nil => exact .nil
    | cons h r => exact .cons h (ih r)
theorem Iss.drop (n : Nat) : ∀ {v : List V} {d : List D}, Iss K G v d → Iss K G (v.drop n) (d.drop n) := by
  induction n with
  | zero => intro v d h; exact h
  | succ n ih =>
    intro v d h
    cases h with
    | nil => exact .nil
    | cons h r => exact ih r
theorem Iss.rev : ∀ {v : List V} {d : List D}, Iss K G v d → Iss K G v.reverse d.reverse
  | _, _, .nil => .nil
  | _, _, .cons h r => by rw [List.reverse_cons, List.reverse_cons]; exact r.rev.append (.cons h .nil)
theorem Iss.set {x : V} {y : D} (q : Is K G x y) : ∀ {v : List V} {d : List D} (i : Nat), Iss K G v d → Iss K G (v.set i x) (d.set i y)
  | _, _, _, .nil => .nil
  | _, _, 0, .cons _ r => .cons q r
  | _, _, i + 1, .cons h r => .cons h (r.set q i)
theorem Iss.erase : ∀ {v : List V} {d : List D} (i : Nat), Iss K G v d → Iss K G (v.eraseIdx i) (d.eraseIdx i)
  | _, _, _, .nil => .nil
  | _, _, 0, .cons _ r => r
  | _, _, i + 1, .cons h r => .cons h (r.erase i)
theorem Iss.dropLast : ∀ {v : List V} {d : List D}, Iss K G v d → Iss K G v.dropLast d.dropLast
  | _, _, .nil => .nil
  | _, _, .cons _ .nil => .nil
  | _, _, .cons h (.cons h2 r) => .cons h (Iss.dropLast (.cons h2 r))
theorem IsF.look : ∀ {v : List (Str × V)} {d : List (Str × D)} {f : Str} {y : D}, IsF K G v d → d.lookup f = some y → ∃ x, v.lookup f = some x ∧ Is K G x y
  | _, _, _, _, .nil, e => by cases e
  | _, _, f, y, .cons (f := g) h r, e => by
    rw [List.lookup_cons] at e ⊢
    cases c : f == g with
    | true =>
      rw [c] at e
      cases e
      exact ⟨_, rfl, h⟩
    | false =>
      rw [c] at e
      exact r.look e
theorem IsF.lookN : ∀ {v : List (Str × V)} {d : List (Str × D)} {f : Str}, IsF K G v d → d.lookup f = none → v.lookup f = none
  | _, _, _, .nil, e => rfl
  | _, _, f, .cons (f := g) h r, e => by
    rw [List.lookup_cons] at e ⊢
    cases c : f == g with
    | true =>
      rw [c] at e
      cases e
    | false =>
      rw [c] at e
      exact r.lookN e
theorem IsF.length : ∀ {v : List (Str × V)} {d : List (Str × D)}, IsF K G v d → v.length = d.length
  | _, _, .nil => rfl
  | _, _, .cons _ r => by rw [List.length_cons, List.length_cons, r.length]
/-- a field is put -/
def putD (f : Str) (y : D) : List (Str × D) → List (Str × D)
  | [] => [(f, y)]
  | (g, x) :: r => if g = f then (g, y) :: r else (g, x) :: putD f y r
theorem IsF.put {f : Str} {x : V} {y : D} (q : Is K G x y) : ∀ {v : List (Str × V)} {d : List (Str × D)}, IsF K G v d → IsF K G (putF f x v) (putD f y d)
  | _, _, .nil => .cons q .nil
  | _, _, .cons (f := g) h r => by
    unfold putF putD
    by_cases c : g = f
    · rw [if_pos c, if_pos c]; exact .cons q r
    · rw [if_neg c, if_neg c]; exact .cons h (r.put q)
end
/-! ### what may change -/
inductive MO where
  | lst (ds : List D) | ins (C : Addr) (fs : List (Str × D)) | dT (es : List (List Key × D)) | dK (es : List (Key × D)) | xd (fs : List (Str × D)) | tp (ds : List D) | tb (q : Str)
abbrev Mm := Addr → Option MO
def mup (M : Mm) (a : Addr) (o : MO) : Mm := fun b => if b = a then some o else M b
def mdel (M : Mm) (a : Addr) : Mm := fun b => if b = a then none else M b
def m0 : Mm := fun _ => none
def Msub (M M' : Mm) : Prop := ∀ a o, M a = some o → M' a = some o
theorem Msub.refl {M : Mm} : Msub M M := fun _ _ h => h
theorem mup_same {M : Mm} {a : Addr} {o : MO} : mup M a o a = some o := if_pos rfl
theorem mup_ne {M : Mm} {a b : Addr} {o : MO} (h : b ≠ a) : mup M a o b = M b := if_neg h
theorem mdel_same {M : Mm} {a : Addr} : mdel M a a = none := if_pos rfl
theorem mdel_ne {M : Mm} {a b : Addr} (h : b ≠ a) : mdel M a b = M b := if_neg h
theorem mup_mup {M : Mm} {a : Addr} {o o' : MO} : mup (mup M a o) a o' = mup M a o' := by
  funext b
  unfold mup
  by_cases h : b = a
  · rw [if_pos h, if_pos h]
  · rw [if_neg h, if_neg h, if_neg h]
theorem mup_comm {M : Mm} {a b : Addr} {o o' : MO} (h : a ≠ b) : mup (mup M a o) b o' = mup (mup M b o') a o := by
  funext c
  unfold mup
  by_cases h1 : c = b
  · rw [if_pos h1, if_neg (by rw [h1]; exact fun z => h z.symm), if_pos h1]
  · rw [if_neg h1, if_neg h1]
theorem mdel_mup {M : Mm} {a : Addr} {o : MO} (h : M a = none) : mdel (mup M a o) a = M := by
  funext b
  unfold mdel mup
  by_cases c : b = a
  · rw [if_pos c, c, h]
  · rw [if_neg c, if_neg c]
theorem mdel_mup_ne {M : Mm} {a b : Addr} {o : MO} (h : a ≠ b) : mdel (mup M a o) b = mup (mdel M b) a o := by
  funext c
  by_cases h1 : c = b
  · rw [h1, mdel_same, mup_ne (fun z => h z.symm), mdel_same]
  · rw [mdel_ne h1]
    unfold mup
    rw [mdel_ne h1]
theorem mdel_none {M : Mm} {a : Addr} (h : M a = none) : mdel M a = M := by
  funext b
  unfold mdel
  by_cases c : b = a
  · rw [if_pos c, c, h]
  · rw [if_neg c]
theorem mup_id {M : Mm} {a : Addr} {o : MO} (h : M a = some o) : mup M a o = M := by
  funext b
  unfold mup
  by_cases c : b = a
  · rw [if_pos c, c, h]
  · rw [if_neg c]
theorem msub_up {M : Mm} {a : Addr} {o : MO} (h : M a = none) : Msub M (mup M a o) := fun b u e => by
  by_cases c : b = a
  · rw [c, h] at e; cases e
  · rw [mup_ne c]; exact e
theorem msub_del {M : Mm} {a : Addr} : Msub (mdel M a) M := fun b u e => by
  by_cases c : b = a
  · rw [c, mdel_same] at e; cases e
  · rw [mdel_ne c] at e; exact e
def Ob (K : PySem.W.Frag) (G : Hp) : HO → MO → Prop
  | .lst vs, .lst ds => Iss K G vs ds
  | .ins C _ vs, .ins C' fs => C = C' ∧ IsF K G vs fs
  | .dT kvs, .dT es => Paired (fun p q => p.1 = q.1 ∧ Is K G p.2 q.2) kvs es
  | .dK kvs, .dK es => Paired (fun p q => p.1 = q.1 ∧ Is K G p.2 q.2) kvs es
  | .xd vs, .xd fs => IsF K G vs fs
  | .tup vs, .tp ds => Iss K G vs ds
  | .tbl ps, .tb q => PySem.TriplesOk ps.toList ∧ ∀ (pos : Pos) (cv : Value), codeAmong pos ps.toList = some cv → ∃ c, cv = .ref c ∧ G c = some (LamX.CodeO c q)
  | _, _ => False
theorem Ob.mono {K : PySem.W.Frag} {G G' : Hp} (e : Ex G G') {o : HO} {b : MO} (h : Ob K G o b) : Ob K G' o b := by
  cases b with
  | lst ds => cases o <;> first | exact Iss.mono e h | exact h.elim
  | ins C fs => cases o <;> first | exact ⟨h.1, IsF.mono e h.2⟩ | exact h.elim
  | dT es => cases o <;> first | exact L2.Paired.mapP h (fun a b q => ⟨q.1, q.2.mono e⟩) | exact h.elim
  | dK es => cases o <;> first | exact L2.Paired.mapP h (fun a b q => ⟨q.1, q.2.mono e⟩) | exact h.elim
  | xd fs => cases o <;> first | exact IsF.mono e h | exact h.elim
  | tp ds => cases o <;> first | exact Iss.mono e h | exact h.elim
  | tb q => cases o <;> first | exact ⟨h.1, fun pos cv hc => let ⟨c, h1, h2⟩ := h.2 pos cv hc; ⟨c, h1, e _ _ h2⟩⟩ | exact h.elim
theorem Ob.lst {K : PySem.W.Frag} {G : Hp} {o : HO} {ds : List D} (h : Ob K G o (.lst ds)) : ∃ vs, o = .lst vs ∧ Iss K G vs ds := by
  cases o <;> first | exact ⟨_, rfl, h⟩ | exact h.elim
theorem Ob.ins {K : PySem.W.Frag} {G : Hp} {o : HO} {C : Addr} {fs : List (Str × D)} (h : Ob K G o (.ins C fs)) : ∃ dx vs, o = .ins C dx vs ∧ IsF K G vs fs := by
  cases o <;> first | (obtain ⟨rfl, h⟩ := h; exact ⟨_, _, rfl, h⟩) | exact h.elim
theorem Ob.xd {K : PySem.W.Frag} {G : Hp} {o : HO} {fs : List (Str × D)} (h : Ob K G o (.xd fs)) : ∃ vs, o = .xd vs ∧ IsF K G vs fs := by
  cases o <;> first | exact ⟨_, rfl, h⟩ | exact h.elim
theorem Ob.tp {K : PySem.W.Frag} {G : Hp} {o : HO} {ds : List D} (h : Ob K G o (.tp ds)) : ∃ vs, o = .tup vs ∧ Iss K G vs ds := by
  cases o <;> first | exact ⟨_, rfl, h⟩ | exact h.elim
theorem Ob.dT {K : PySem.W.Frag} {G : Hp} {o : HO} {es : List (List Key × D)} (h : Ob K G o (.dT es)) : ∃ vs, o = .dT vs ∧ Paired (fun p q => p.1 = q.1 ∧ Is K G p.2 q.2) vs es := by
  cases o <;> first | exact ⟨_, rfl, h⟩ | exact h.elim
/-! ### worlds and steps between them -/
structure Wd (K : PySem.W.Frag) (G H : Hp) (M : Mm) : Prop where
  gh : Ex G H
  mo : ∀ a o, M a = some o → G a = none ∧ ∃ u, H a = some u ∧ Ob K G u o
structure Tr (K : PySem.W.Frag) (G H : Hp) (M : Mm) (G' H' : Hp) (M' : Mm) : Prop where
  gg : Ex G G'
  wd : Wd K G' H' M'
  fr : ∀ a o, H a = some o → M a = none → H' a = some o ∧ M' a = none ∧ G' a = G a
  lv : ∀ a o, H a = some o → ∃ o', H' a = some o'
section
variable {K : PySem.W.Frag} {G H G' H' G2 H2 : Hp} {M M' M2 : Mm} {p : Addr} {o : HO} {b : MO}
theorem Tr.gh (t : Tr K G H M G' H' M') : Ex G' H' := t.wd.gh
theorem Tr.trans (a : Tr K G H M G' H' M') (b : Tr K G' H' M' G2 H2 M2) : Tr K G H M G2 H2 M2 where
  gg := a.gg.trans b.gg
  wd := b.wd
  fr := fun x o h m => by
    obtain ⟨h1, h2, h3⟩ := a.fr x o h m
    obtain ⟨h4, h5, h6⟩ := b.fr x o h1 h2
    exact ⟨h4, h5, h6.trans h3⟩
  lv := fun x o h => by
    obtain ⟨o', h'⟩ := a.lv x o h
    exact b.lv x o' h'
theorem Wd.refl (w : Wd K G H M) : Tr K G H M G H M := ⟨Ex.refl _, w, fun _ _ h m => ⟨h, m, rfl⟩, fun _ o h => ⟨o, h⟩⟩
theorem Wd.gnone (w : Wd K G H M) (n : H p = none) : G p = none := by
  cases e : G p with
  | none => rfl
  | some q => rw [w.gh p q e] at n; cases n
theorem Wd.mnone (w : Wd K G H M) (n : H p = none) : M p = none := by
  cases e : M p with
  | none => rfl
  | some q =>
    obtain ⟨_, u, h, _⟩ := w.mo p q e
    rw [h] at n; cases n
/-- a new object of data -/
theorem Wd.new (w : Wd K G H M) (n : H p = none) : Tr K G H M (upd G p o) (upd H p o) M where
  gg := Ex.new (w.gnone n)
  wd := ⟨fun a u e => by
    by_cases c : a = p
    · subst c; rw [upd_same] at e ⊢; exact e
    · rw [upd_ne c] at e ⊢; exact w.gh a u e, fun a u e => by
    obtain ⟨h1, v, h2, h3⟩ := w.mo a u e
    rw [upd_ne (ne_of_none h2 n), upd_ne (ne_of_none h2 n)]
    exact ⟨h1, v, h2, h3.mono (Ex.new (w.gnone n))⟩⟩
  fr := fun a u e m => ⟨by rw [upd_ne (ne_of_none e n)]; exact e, m, by rw [upd_ne (ne_of_none e n)]⟩
  lv := fun a u e => ⟨u, by rw [upd_ne (ne_of_none e n)]; exact e⟩
/-- a new object that is no data -/
theorem Wd.extra (w : Wd K G H M) (n : H p = none) : Tr K G H M G (upd H p o) M where
  gg := Ex.refl _
  wd := ⟨w.gh.trans (Ex.new n), fun a u e => by
    obtain ⟨h1, v, h2, h3⟩ := w.mo a u e
    rw [upd_ne (ne_of_none h2 n)]
    exact ⟨h1, v, h2, h3⟩⟩
  fr := fun a u e m => ⟨by rw [upd_ne (ne_of_none e n)]; exact e, m, rfl⟩
  lv := fun a u e => ⟨u, by rw [upd_ne (ne_of_none e n)]; exact e⟩
/-- a new object that may change -/
theorem Wd.newM (w : Wd K G H M) (n : H p = none) (hb : Ob K G o b) : Tr K G H M G (upd H p o) (mup M p b) where
  gg := Ex.refl _
  wd := ⟨w.gh.trans (Ex.new n), fun a u e => by
    by_cases c : a = p
    · subst c
      rw [mup_same] at e
      cases e
      exact ⟨w.gnone n, o, upd_same, hb⟩
    · rw [mup_ne c] at e
      obtain ⟨h1, v, h2, h3⟩ := w.mo a u e
      rw [upd_ne c]
      exact ⟨h1, v, h2, h3⟩⟩
  fr := fun a u e m => ⟨by rw [upd_ne (ne_of_none e n)]; exact e, by rw [mup_ne (ne_of_none e n)]; exact m, rfl⟩
  lv := fun a u e => ⟨u, by rw [upd_ne (ne_of_none e n)]; exact e⟩
/-- an object changes -/
theorem Wd.put {b0 : MO} (w : Wd K G H M) (m : M p = some b0) (hb : Ob K G o b) : Tr K G H M G (upd H p o) (mup M p b) where
  gg := Ex.refl _
  wd := ⟨fun a u e => by
    have ne : a ≠ p := fun z => by rw [z, (w.mo p b0 m).1] at e; cases e
    rw [upd_ne ne]
    exact w.gh a u e, fun a u e => by
    by_cases c : a = p
    · subst c
      rw [mup_same] at e
      cases e
      exact ⟨(w.mo _ _ m).1, o, upd_same, hb⟩
    · rw [mup_ne c] at e
      obtain ⟨h1, v, h2, h3⟩ := w.mo a u e
      rw [upd_ne c]
      exact ⟨h1, v, h2, h3⟩⟩
  fr := fun a u e n => by
    have ne : a ≠ p := fun z => by rw [z, m] at n; cases n
    rw [upd_ne ne, mup_ne ne]
    exact ⟨e, n, rfl⟩
  lv := fun a u e => by
    by_cases c : a = p
    · exact ⟨o, by rw [c, upd_same]⟩
    · exact ⟨u, by rw [upd_ne c]; exact e⟩
/-- an object becomes data -/
theorem Wd.frz (w : Wd K G H M) (m : M p = some b) (h : H p = some o) : Tr K G H M (upd G p o) H (mdel M p) where
  gg := Ex.new (w.mo p b m).1
  wd := ⟨fun a u e => by
    by_cases c : a = p
    · subst c; rw [upd_same] at e; cases e; exact h
    · rw [upd_ne c] at e; exact w.gh a u e, fun a u e => by
    by_cases c : a = p
    · subst c; rw [mdel_same] at e; cases e
    · rw [mdel_ne c] at e
      obtain ⟨h1, v, h2, h3⟩ := w.mo a u e
      rw [upd_ne c]
      exact ⟨h1, v, h2, h3.mono (Ex.new (w.mo p b m).1)⟩⟩
  fr := fun a u e n => by
    have ne : a ≠ p := fun z => by rw [z, m] at n; cases n
    rw [mdel_ne ne, upd_ne ne]
    exact ⟨e, n, rfl⟩
  lv := fun a u e => ⟨u, e⟩
/-- an object is forgotten -/
theorem Wd.drop (w : Wd K G H M) (s : Msub M' M) : Tr K G H M G H M' where
  gg := Ex.refl _
  wd := ⟨w.gh, fun a u e => w.mo a u (s a u e)⟩
  fr := fun a u e n => by
    refine ⟨e, ?_, rfl⟩
    cases c : M' a with
    | none => rfl
    | some z => rw [s a z c] at n; cases n
  lv := fun a u e => ⟨u, e⟩
end
/-! ### frames -/
/-- slots: none (unknown), or data -/
abbrev S := Option D
/-- a body: its context, what may be raised in it (class, fields, what changed, slots) -/
structure Bd where
  X : Cx
  EE : Addr → List (Str × D) → Mm → List S → Prop
/-- where a body began -/
structure Bs where
  G : Hp
  H : Hp
  M : Mm
structure Frm (K : PySem.W.Frag) (G : Hp) (σ : L2.St) (ss : List S) : Prop where
  len : σ.length = ss.length
  sl : ∀ (i : Nat) (x : Option V) (d : D), σ[i]? = some x → ss[i]? = some (some d) → ∃ v, x = some v ∧ Is K G v d
def ErrOk (Y : Bd) (B : Bs) : Prop := ∃ W : WX, Takes Y.X W ∧ ∀ C gs fs d σ G H M M' ss, Y.EE C gs M' ss → Msub M' M → Tr Y.X.K B.G B.H B.M G H M → Frm Y.X.K G σ ss → B.H d = none → G d = none → M d = none → H d = some (.xd fs) → IsF Y.X.K G fs gs → W (.ref C) (some d) σ H
structure StOk (Y : Bd) (B : Bs) (σ : L2.St) (G H : Hp) (M : Mm) (ss : List S) : Prop where
  t : Tr Y.X.K B.G B.H B.M G H M
  er : ErrOk Y B
  f : Frm Y.X.K G σ ss
section
variable {Y : Bd} {B : Bs} {G H G' H' : Hp} {M M' : Mm} {σ : L2.St} {ss : List S}
theorem StOk.w (h : StOk Y B σ G H M ss) : Wd Y.X.K G H M := h.t.wd
theorem StOk.gh (h : StOk Y B σ G H M ss) : Ex G H := h.t.wd.gh
theorem StOk.refl (h : StOk Y B σ G H M ss) : Tr Y.X.K G H M G H M := h.t.wd.refl
theorem Frm.mono {K : PySem.W.Frag} (h : Frm K G σ ss) (e : Ex G G') : Frm K G' σ ss := ⟨h.len, fun i x d a b => by
  obtain ⟨v, q, r⟩ := h.sl i x d a b
  exact ⟨v, q, r.mono e⟩⟩
theorem StOk.go (h : StOk Y B σ G H M ss) (e : Tr Y.X.K G H M G' H' M') : StOk Y B σ G' H' M' ss := ⟨h.t.trans e, h.er, h.f.mono e.gg⟩
theorem StOk.slot (h : StOk Y B σ G H M ss) {i : Nat} {d : D} (e : ss[i]? = some (some d)) : ∃ v, σ[i]? = some (some v) ∧ Is Y.X.K G v d := by
  have hi : i < σ.length := by
    rw [h.f.len]
    exact (List.getElem?_eq_some_iff.mp e).1
  obtain ⟨v, q, r⟩ := h.f.sl i σ[i] _ (by simp [hi]) e
  exact ⟨v, by simp [hi, q], r⟩
theorem getElem?_setx {α : Type} {l : List α} {i j : Nat} {a x : α} (h : (l.set i a)[j]? = some x) : (i = j ∧ x = a) ∨ (i ≠ j ∧ l[j]? = some x) := by
  by_cases c : i = j
  · subst c
    by_cases hi : i < l.length
    · rw [List.getElem?_set_self hi] at h
      cases h
      exact .inl ⟨rfl, rfl⟩
    · rw [List.getElem?_eq_none (by simpa using hi)] at h
      cases h
  · rw [List.getElem?_set_ne c] at h
    exact .inr ⟨c, h⟩
theorem Frm.set {K : PySem.W.Frag} (h : Frm K G σ ss) {v : V} {d : D} (r : Is K G v d) (i : Nat) : Frm K G (σ.set i (some v)) (ss.set i (some d)) := by
  refine ⟨by simp [h.len], fun j x s a b => ?_⟩
  rcases getElem?_setx a with ⟨ij, rfl⟩ | ⟨ij, a⟩
  · rcases getElem?_setx b with ⟨_, e⟩ | ⟨z, _⟩
    · cases e
      exact ⟨v, rfl, r⟩
    · exact absurd ij z
  · rcases getElem?_setx b with ⟨z, _⟩ | ⟨_, b⟩
    · exact absurd z ij
    · exact h.sl j x s a b
theorem Frm.forget {K : PySem.W.Frag} (h : Frm K G σ ss) (o : Option V) (i : Nat) : Frm K G (σ.set i o) (ss.set i none) := by
  refine ⟨by simp [h.len], fun j x s a b => ?_⟩
  rcases getElem?_setx b with ⟨_, e⟩ | ⟨z, b⟩
  · cases e
  · rcases getElem?_setx a with ⟨w, _⟩ | ⟨_, a⟩
    · exact absurd w z
    · exact h.sl j x s a b
/-- a slot is known by other words -/
theorem Frm.say {K : PySem.W.Frag} (h : Frm K G σ ss) {i : Nat} {d : D} (r : ∀ v, σ[i]? = some (some v) → Is K G v d) (e : ∃ v, σ[i]? = some (some v)) : Frm K G σ (ss.set i (some d)) := by
  refine ⟨by simp [h.len], fun j x s a b => ?_⟩
  rcases getElem?_setx b with ⟨ij, e2⟩ | ⟨_, b⟩
  · subst ij
    cases e2
    obtain ⟨v, ev⟩ := e
    rw [ev] at a
    cases a
    exact ⟨v, rfl, r v ev⟩
  · exact h.sl j x s a b
theorem StOk.set (h : StOk Y B σ G H M ss) {v : V} {d : D} (r : Is Y.X.K G v d) (i : Nat) : StOk Y B (σ.set i (some v)) G H M (ss.set i (some d)) := ⟨h.t, h.er, h.f.set r i⟩
theorem StOk.forget (h : StOk Y B σ G H M ss) (o : Option V) (i : Nat) : StOk Y B (σ.set i o) G H M (ss.set i none) := ⟨h.t, h.er, h.f.forget o i⟩
end
/-! ### the weakest readings -/
section
variable (X : Cx)
def wE (e : Expr) : TE := fun σ H Q => ∀ pins s, Inv X pins σ H s → wpAny (model X.prog X.w) X.A (eval e X.env) (EP X pins σ Q) X.xe s
def wT (e : Expr) : TT := fun σ H Q => ∀ pins s, Inv X pins σ H s → wpAny (model X.prog X.w) X.A (isTrue e X.env (eval e X.env)) (TP X pins σ Q) X.xe s
def wW (e : Expr) : TT := fun σ H Q => ∀ whole pins s, Inv X pins σ H s → wpAny (model X.prog X.w) X.A (isTrue e X.env whole) (TP X pins σ Q) X.xe s
def wA (es : List Expr) : TA := fun σ H Q => ∀ (pos : Pos) pins s, Inv X pins σ H s → wpAny (model X.prog X.w) X.A (spliced (backTo pos (starEach es X.env))) (AP X pins σ Q) X.xe s
def wK (ks : List Keyword) : TA := fun σ H Q => ∀ (pos : Pos) pins s, Inv X pins σ H s → wpAny (model X.prog X.w) X.A (evalAll ((backToKw pos (keywordEach ks X.env)).map (·.2))) (AP X pins σ Q) X.xe s
def wS (st : Stmt) : TS := fun D σ H => ∀ pins s, Inv X pins σ H s → wpAny (model X.prog X.w) X.A (exec st X.env) (SP X pins D) X.xe s
def wSs (st : List Stmt) : TS := fun D σ H => ∀ pins s, Inv X pins σ H s → wpAny (model X.prog X.w) X.A (execs st X.env) (SP X pins D) X.xe s
def wG (tg : Expr) : TG := fun v σ H Q => ∀ pins s u, Inv X pins σ H s → RelV v u → wpAny (model X.prog X.w) X.A (assign tg X.env u) (fun _ s' => ∃ σ' H', Inv X pins σ' H' s' ∧ Q σ' H') X.xe s
def wI (tg iter : Expr) : TI := fun σ H R => ∀ pins s, Inv X pins σ H s → wpAny (model X.prog X.w) X.A (eval iter X.env) (fun v s1 => wpAny (model X.prog X.w) X.A (pyIter v) (PIE X pins σ tg R) X.xe s1) X.xe s
def wTs (ifs : List Expr) : TT := fun σ H Q => ∀ pins s, Inv X pins σ H s →
    wpAny (model X.prog X.w) X.A (forIn ifs true fun c r => if r = true then do let ok ← isTrue c X.env (eval c X.env); pure (ForInStep.yield ok) else pure (ForInStep.yield r)) (TP X pins σ Q) X.xe s
end
section
variable {X : Cx} {e : Expr} {es : List Expr} {ks : List Keyword} {st : Stmt} {sts : List Stmt} {tg iter : Expr}
theorem pe_w : PE X e (wE X e) := ⟨fun pins s _ _ _ I h => h pins s I⟩
theorem pt_w : PT X e (wT X e) := ⟨fun pins s _ _ _ I h => h pins s I⟩
theorem pw_w : PW X e (wW X e) := ⟨fun wh pins s _ _ _ I h => h wh pins s I⟩
theorem pa_w : PA X es (wA X es) := ⟨fun pos pins s _ _ _ I h => h pos pins s I⟩
theorem pk_w : PK X ks (wK X ks) := ⟨fun pos pins s _ _ _ I h => h pos pins s I⟩
theorem ps_w : PS X st (wS X st) := ⟨fun pins s _ _ _ I h => h pins s I⟩
theorem pss_w : PSs X sts (wSs X sts) := ⟨fun pins s _ _ _ I h => h pins s I⟩
theorem pg_w : PG X tg (wG X tg) := ⟨fun pins s _ _ _ u _ I r h => h pins s u I r⟩
theorem pi_w : PI X tg iter (wI X tg iter) := ⟨fun pins s _ _ _ I h => h pins s I⟩
theorem pts_w : PTs X es (wTs X es) := ⟨fun pins s _ _ _ I h => h pins s I⟩
end
theorem ifT {A B : Prop} (h : if true = true then A else B) : A := h
theorem ifF {A B : Prop} (h : if false = true then A else B) : B := h
/-! ### the judgements -/
/-- the rest behind an expression -/
abbrev Kon (Y : Bd) (G H : Hp) (M : Mm) (P : D → Mm → Prop) (Q : VK) : Prop := ∀ v G' H' M' d, Tr Y.X.K G H M G' H' M' → Is Y.X.K G' v d → P d M' → Q v H'
abbrev KonB (Y : Bd) (G H : Hp) (M : Mm) (P : Bool → Mm → Prop) (Q : Bool → Hp → Prop) : Prop := ∀ b G' H' M', Tr Y.X.K G H M G' H' M' → P b M' → Q b H'
abbrev KonA (Y : Bd) (G H : Hp) (M : Mm) (P : List D → Mm → Prop) (Q : List V → Hp → Prop) : Prop := ∀ vs G' H' M' ds, Tr Y.X.K G H M G' H' M' → Iss Y.X.K G' vs ds → P ds M' → Q vs H'
structure WE (Y : Bd) (e : Expr) (ss : List S) (M : Mm) (P : D → Mm → Prop) : Prop where
  run : ∀ B σ G H Q, StOk Y B σ G H M ss → Kon Y G H M P Q → wE Y.X e σ H Q
instance {Y : Bd} {e : Expr} {ss : List S} {M : Mm} {P : D → Mm → Prop} : CoeFun (WE Y e ss M P) fun _ => ∀ B σ G H Q, StOk Y B σ G H M ss → Kon Y G H M P Q → wE Y.X e σ H Q := ⟨fun h => h.run⟩
structure WT (Y : Bd) (e : Expr) (ss : List S) (M : Mm) (P : Bool → Mm → Prop) : Prop where
  run : ∀ B σ G H Q, StOk Y B σ G H M ss → KonB Y G H M P Q → wT Y.X e σ H Q
instance {Y : Bd} {e : Expr} {ss : List S} {M : Mm} {P : Bool → Mm → Prop} : CoeFun (WT Y e ss M P) fun _ => ∀ B σ G H Q, StOk Y B σ G H M ss → KonB Y G H M P Q → wT Y.X e σ H Q := ⟨fun h => h.run⟩
structure WW (Y : Bd) (e : Expr) (ss : List S) (M : Mm) (P : Bool → Mm → Prop) : Prop where
  run : ∀ B σ G H Q, StOk Y B σ G H M ss → KonB Y G H M P Q → wW Y.X e σ H Q
instance {Y : Bd} {e : Expr} {ss : List S} {M : Mm} {P : Bool → Mm → Prop} : CoeFun (WW Y e ss M P) fun _ => ∀ B σ G H Q, StOk Y B σ G H M ss → KonB Y G H M P Q → wW Y.X e σ H Q := ⟨fun h => h.run⟩
structure WTs (Y : Bd) (e : List Expr) (ss : List S) (M : Mm) (P : Bool → Mm → Prop) : Prop where
  run : ∀ B σ G H Q, StOk Y B σ G H M ss → KonB Y G H M P Q → wTs Y.X e σ H Q
instance {Y : Bd} {e : List Expr} {ss : List S} {M : Mm} {P : Bool → Mm → Prop} : CoeFun (WTs Y e ss M P) fun _ => ∀ B σ G H Q, StOk Y B σ G H M ss → KonB Y G H M P Q → wTs Y.X e σ H Q := ⟨fun h => h.run⟩
structure WA (Y : Bd) (es : List Expr) (ss : List S) (M : Mm) (P : List D → Mm → Prop) : Prop where
  run : ∀ B σ G H Q, StOk Y B σ G H M ss → KonA Y G H M P Q → wA Y.X es σ H Q
instance {Y : Bd} {es : List Expr} {ss : List S} {M : Mm} {P : List D → Mm → Prop} : CoeFun (WA Y es ss M P) fun _ => ∀ B σ G H Q, StOk Y B σ G H M ss → KonA Y G H M P Q → wA Y.X es σ H Q := ⟨fun h => h.run⟩
structure WK (Y : Bd) (ks : List Keyword) (ss : List S) (M : Mm) (P : List D → Mm → Prop) : Prop where
  run : ∀ B σ G H Q, StOk Y B σ G H M ss → KonA Y G H M P Q → wK Y.X ks σ H Q
instance {Y : Bd} {ks : List Keyword} {ss : List S} {M : Mm} {P : List D → Mm → Prop} : CoeFun (WK Y ks ss M P) fun _ => ∀ B σ G H Q, StOk Y B σ G H M ss → KonA Y G H M P Q → wK Y.X ks σ H Q := ⟨fun h => h.run⟩
structure DE where
  nx : List S → Mm → Prop
  rt : D → Mm → Prop
  bk : List S → Mm → Prop := fun _ _ => False
  ct : List S → Mm → Prop := fun _ _ => False
structure EndsOk (Y : Bd) (B : Bs) (N : DE) (E : Ends) : Prop where
  nx : ∀ σ G H M ss, StOk Y B σ G H M ss → N.nx ss M → E.nx σ H
  rt : ∀ v G H M d, Tr Y.X.K B.G B.H B.M G H M → Is Y.X.K G v d → N.rt d M → E.rt v H
  bk : ∀ σ G H M ss, StOk Y B σ G H M ss → N.bk ss M → E.bk σ H
  ct : ∀ σ G H M ss, StOk Y B σ G H M ss → N.ct ss M → E.ct σ H
structure WS (Y : Bd) (st : Stmt) (ss : List S) (M : Mm) (N : DE) : Prop where
  run : ∀ B σ G H E, StOk Y B σ G H M ss → EndsOk Y B N E → wS Y.X st E σ H
instance {Y : Bd} {st : Stmt} {ss : List S} {M : Mm} {N : DE} : CoeFun (WS Y st ss M N) fun _ => ∀ B σ G H E, StOk Y B σ G H M ss → EndsOk Y B N E → wS Y.X st E σ H := ⟨fun h => h.run⟩
structure WSs (Y : Bd) (st : List Stmt) (ss : List S) (M : Mm) (N : DE) : Prop where
  run : ∀ B σ G H E, StOk Y B σ G H M ss → EndsOk Y B N E → wSs Y.X st E σ H
instance {Y : Bd} {st : List Stmt} {ss : List S} {M : Mm} {N : DE} : CoeFun (WSs Y st ss M N) fun _ => ∀ B σ G H E, StOk Y B σ G H M ss → EndsOk Y B N E → wSs Y.X st E σ H := ⟨fun h => h.run⟩
/-- but for the slots T -/
def But' (T : List Nat) (σ σ' : L2.St) : Prop := σ'.length = σ.length ∧ ∀ j, j ∉ T → σ'[j]? = σ[j]?
theorem But'.rfl {T : List Nat} {σ : L2.St} : But' T σ σ := ⟨Eq.refl _, fun _ _ => Eq.refl _⟩
/-- a target takes a value; its slots are T -/
structure WG (Y : Bd) (tg : Expr) (T : List Nat) (d : D) (ss : List S) (M : Mm) (P : List S → Mm → Prop) : Prop where
  run : ∀ B σ G H v Q, StOk Y B σ G H M ss → Is Y.X.K G v d → (∀ σ' G' H' M' ss', StOk Y B σ' G' H' M' ss' → Tr Y.X.K G H M G' H' M' → But' T σ σ' → P ss' M' → Q σ' H') → wG Y.X tg v σ H Q
instance {Y : Bd} {tg : Expr} {T : List Nat} {d : D} {ss : List S} {M : Mm} {P : List S → Mm → Prop} : CoeFun (WG Y tg T d ss M P) fun _ => ∀ B σ G H v Q, StOk Y B σ G H M ss → Is Y.X.K G v d → (∀ σ' G' H' M' ss', StOk Y B σ' G' H' M' ss' → Tr Y.X.K G H M G' H' M' → But' T σ σ' → P ss' M' → Q σ' H') → wG Y.X tg v σ H Q := ⟨fun h => h.run⟩
/-- an operation on two, on one, a call of a built-in -/
structure Op2 (Y : Bd) (f : Value → Value → Sem Value) (x y : D) (M : Mm) (P : D → Mm → Prop) : Prop where
  ex : ∃ r, OpR Y.X f r ∧ ∀ G H vx vy Q, Wd Y.X.K G H M → Is Y.X.K G vx x → Is Y.X.K G vy y → Kon Y G H M P Q → r vx vy H Q
structure Op1 (Y : Bd) (f : Value → Sem Value) (x : D) (M : Mm) (P : D → Mm → Prop) : Prop where
  ex : ∃ r, UnR Y.X f r ∧ ∀ G H vx Q, Wd Y.X.K G H M → Is Y.X.K G vx x → Kon Y G H M P Q → r vx H Q
structure OpC (Y : Bd) (f : Value) (xs : List D) (M : Mm) (P : D → Mm → Prop) : Prop where
  ex : ∃ r, CallR Y.X f r ∧ ∀ G H vs Q, Wd Y.X.K G H M → Iss Y.X.K G vs xs → Kon Y G H M P Q → r vs H Q
/-- any reading of an operation -/
def anyR (X : Cx) (f : Value → Value → Sem Value) : R2 := fun x y H Q => ∃ r, OpR X f r ∧ r x y H Q
theorem opr_any {X : Cx} {f : Value → Value → Sem Value} : OpR X f (anyR X f) := fun pins s σ H x y v u Q I rx ry h => by
  obtain ⟨r, hr, h⟩ := h
  exact hr pins s σ H x y v u Q I rx ry h
def anyU (X : Cx) (f : Value → Sem Value) : V → Hp → VK → Prop := fun x H Q => ∃ r, UnR X f r ∧ r x H Q
theorem unr_any {X : Cx} {f : Value → Sem Value} : UnR X f (anyU X f) := fun pins s σ H x v Q I rx h => by
  obtain ⟨r, hr, h⟩ := h
  exact hr pins s σ H x v Q I rx h
def anyC (X : Cx) (f : Value) : List V → Hp → VK → Prop := fun x H Q => ∃ r, CallR X f r ∧ r x H Q
theorem callr_any {X : Cx} {f : Value} : CallR X f (anyC X f) := fun pins s σ H x v Q I rx h => by
  obtain ⟨r, hr, h⟩ := h
  exact hr pins s σ H x v Q I rx h
end JQ

set_option Elab.async false
set_option linter.all false
set_option maxRecDepth 100000
set_option maxHeartbeats 2000000
/-! Expressions. -/
namespace JQ
open PySem PySem.Spec PyProof.Rows L2
open Evl (Ex ex_l ex_t)
open StX (pa_star)
section
variable {Y : Bd} {ss : List S} {M : Mm} {P : D → Mm → Prop} {PB : Bool → Mm → Prop} {e a b c : Expr} {es : List Expr} {pos : Pos}
theorem we_pe {te : TE} (h : PE Y.X e te) (q : ∀ B σ G H Q, StOk Y B σ G H M ss → Kon Y G H M P Q → te σ H Q) : WE Y e ss M P := .mk fun B σ G H Q st k pins s I => h.run pins s σ H Q I (q B σ G H Q st k)
theorem wt_pt {te : TT} (h : PT Y.X e te) (q : ∀ B σ G H Q, StOk Y B σ G H M ss → KonB Y G H M PB Q → te σ H Q) : WT Y e ss M PB := .mk fun B σ G H Q st k pins s I => h.run pins s σ H Q I (q B σ G H Q st k)
theorem ww_pw {te : TT} (h : PW Y.X e te) (q : ∀ B σ G H Q, StOk Y B σ G H M ss → KonB Y G H M PB Q → te σ H Q) : WW Y e ss M PB := .mk fun B σ G H Q st k wh pins s I => h.run wh pins s σ H Q I (q B σ G H Q st k)
theorem WE.mono {P' : D → Mm → Prop} (h : WE Y e ss M P) (q : ∀ d M', P d M' → P' d M') : WE Y e ss M P' := .mk fun B σ G H Q st k => h B σ G H Q st fun v G' H' M' d g r p => k v G' H' M' d g r (q d M' p)
theorem WT.mono {P' : Bool → Mm → Prop} (h : WT Y e ss M PB) (q : ∀ d M', PB d M' → P' d M') : WT Y e ss M P' := .mk fun B σ G H Q st k => h B σ G H Q st fun v G' H' M' g p => k v G' H' M' g (q v M' p)
/-- the end of an expression whose value is at hand -/
theorem kon_rf {B : Bs} {σ : L2.St} {G H : Hp} {Q : VK} {v : V} {d : D} (st : StOk Y B σ G H M ss) (k : Kon Y G H M P Q) (r : Is Y.X.K G v d) (q : P d M) : Q v H := k _ _ _ _ _ st.refl r q
/-! ### names, constants -/
theorem we_var (i : Nat) {x : Str} {d : D} (hs : ss[i]? = some (some d)) (q : P d M) (hN : Y.X.N[i]? = some x := by rfl) (hv : Vis Y.X.env.scope x := by first | exact Or.inl rfl | exact Or.inr (Or.inl rfl) | exact Or.inr (Or.inr rfl))
    (hd : (x == ("__debug__" : Str)) = false := by decide) (hcd : (x == ("__classdict__" : Str)) = false := by decide) : WE Y (.Name x pos) ss M P :=
  we_pe (pv i hN hv hd hcd) fun B σ G H Q st k => by
    obtain ⟨v, e, r⟩ := st.slot hs
    exact ⟨v, e, kon_rf st k r q⟩
theorem we_int {i : Int} {j : Nat} (q : P (.int i) M) : WE Y (.Constant (.int i) j pos) ss M P := we_pe pe_int fun B σ G H Q st k => kon_rf st k (.int i) q
theorem we_bl {i : Bool} {j : Nat} (q : P (.bl i) M) : WE Y (.Constant (.bool i) j pos) ss M P := we_pe pe_bl fun B σ G H Q st k => kon_rf st k (.bl i) q
theorem we_non {j : Nat} (q : P .non M) : WE Y (.Constant .none j pos) ss M P := we_pe pe_non fun B σ G H Q st k => kon_rf st k .non q
theorem we_str {x : Str} {j : Nat} (q : P (.str x) M) : WE Y (.Constant (.str x) j pos) ss M P := we_pe pe_str fun B σ G H Q st k => kon_rf st k (.str x) q
/-- a module's constant -/
theorem we_gint {x : Str} {i : Int} {t : Tok} (hm : Y.X.mg x = some (.int i t)) (q : P (.int i) M) (hg : Gl Y.X x := by rfl) (hd : (x == ("__debug__" : Str)) = false := by decide) : WE Y (.Name x pos) ss M P :=
  we_pe (pe_glob hg hm (v := .int i) ⟨t, rfl⟩ hd) fun B σ G H Q st k => kon_rf st k (.int i) q
theorem we_gstr {x : Str} {i : Str} {t : Tok} (hm : Y.X.mg x = some (.str i t)) (q : P (.str i) M) (hg : Gl Y.X x := by rfl) (hd : (x == ("__debug__" : Str)) = false := by decide) : WE Y (.Name x pos) ss M P :=
  we_pe (pe_glob hg hm (v := .str i) ⟨t, rfl⟩ hd) fun B σ G H Q st k => kon_rf st k (.str i) q
/-- a class of the module as a value -/
theorem we_gref {x : Str} {C : Addr} (hm : Y.X.mg x = some (.ref C)) (q : P (.adr (.ref C)) M) (hg : Gl Y.X x := by rfl) (hd : (x == ("__debug__" : Str)) = false := by decide) : WE Y (.Name x pos) ss M P :=
  we_pe (pe_glob hg hm (v := .ref C) rfl hd) fun B σ G H Q st k => kon_rf st k (.adr _) q
/-- a built-in class as a value -/
theorem we_bty {x : Str} {n : String} (hm : Y.X.mg x = none) (hv : bootBuiltins x = some (.type n)) (q : P (.adr (.ty n)) M) (hg : Gl Y.X x := by rfl) (hn : x ≠ "__name__" := by decide) (hd : (x == ("__debug__" : Str)) = false := by decide) : WE Y (.Name x pos) ss M P :=
  we_pe (pe_bltn hg hm hv (v := .ty n) rfl hn hd) fun B σ G H Q st k => kon_rf st k (.adr _) q
/-! ### operators -/
theorem we_bin {op : Operator} (h : WE Y a ss M fun x M => WE Y b ss M fun y M => Op2 Y (binaryOp op) x y M P) : WE Y (.BinOp a op b pos) ss M P :=
  we_pe (pe_op opr_any pe_w pe_w) fun B σ G H Q st k => by
    refine h _ _ _ _ _ st fun v1 G1 H1 M1 x g1 r1 h1 => ?_
    refine h1 _ _ _ _ _ (st.go g1) fun v2 G2 H2 M2 y g2 r2 ⟨r, hr, h2⟩ => ⟨r, hr, ?_⟩
    exact h2 _ _ _ _ _ ((st.go g1).go g2).w (r1.mono g2.gg) r2 fun v G' H' M' d g q p => k _ _ _ _ _ ((g1.trans g2).trans g) q p
theorem we_un {op : UnaryOp} (h : WE Y a ss M fun x M => Op1 Y (unaryOp op) x M P) : WE Y (.UnaryOp op a pos) ss M P :=
  we_pe (pe_un unr_any pe_w) fun B σ G H Q st k => by
    refine h _ _ _ _ _ st fun v1 G1 H1 M1 x g1 r1 ⟨r, hr, h1⟩ => ⟨r, hr, ?_⟩
    exact h1 _ _ _ _ (st.go g1).w r1 fun v G' H' M' d g q p => k _ _ _ _ _ (g1.trans g) q p
theorem we_cmp {op : CmpOp} (h : WE Y a ss M fun x M => WE Y b ss M fun y M => Op2 Y (compareOp op) x y M P) (hm : behindInMarks op b = false := by first | exact nomark _ | rfl) : WE Y (.Compare a [op] [b] pos) ss M P :=
  we_pe (pe_cmpR opr_any pe_w pe_w hm) fun B σ G H Q st k => by
    refine h _ _ _ _ _ st fun v1 G1 H1 M1 x g1 r1 h1 => ?_
    refine h1 _ _ _ _ _ (st.go g1) fun v2 G2 H2 M2 y g2 r2 ⟨r, hr, h2⟩ => ⟨r, hr, ?_⟩
    exact h2 _ _ _ _ _ ((st.go g1).go g2).w (r1.mono g2.gg) r2 fun v G' H' M' d g q p => k _ _ _ _ _ ((g1.trans g2).trans g) q p
abbrev isB (PB : Bool → Mm → Prop) : D → Mm → Prop := fun d M => ∃ k, d = .bl k ∧ PB k M
theorem wt_cmp {op : CmpOp} (h : WE Y a ss M fun x M => WE Y b ss M fun y M => Op2 Y (compareOp op) x y M (isB PB)) (hm : behindInMarks op b = false := by first | exact nomark _ | rfl) : WT Y (.Compare a [op] [b] pos) ss M PB :=
  wt_pt (pt_cmpR opr_any pe_w pe_w hm) fun B σ G H Q st k => by
    refine h _ _ _ _ _ st fun v1 G1 H1 M1 x g1 r1 h1 => ?_
    refine h1 _ _ _ _ _ (st.go g1) fun v2 G2 H2 M2 y g2 r2 ⟨r, hr, h2⟩ => ⟨r, hr, ?_⟩
    refine h2 _ _ _ _ _ ((st.go g1).go g2).w (r1.mono g2.gg) r2 fun v G' H' M' d g q ⟨kk, ed, p⟩ => ?_
    subst ed
    cases q
    exact ⟨kk, rfl, k _ _ _ _ ((g1.trans g2).trans g) p⟩
theorem we_chain {op op' : CmpOp} (h : WE Y a ss M fun x M => WE Y b ss M fun y M => Op2 Y (compareOp op) x y M (isB fun k M => if k = true then WE Y c ss M fun z M => Op2 Y (compareOp op') y z M P else P (.bl false) M))
    (hm : lastMarks [op, op'] [b, c] = false := by with_unfolding_all rfl) : WE Y (.Compare a [op, op'] [b, c] pos) ss M P :=
  we_pe (pe_chain opr_any opr_any pe_w pe_w pe_w hm) fun B σ G H Q st k => by
    refine h _ _ _ _ _ st fun v1 G1 H1 M1 x g1 r1 h1 => ?_
    refine h1 _ _ _ _ _ (st.go g1) fun v2 G2 H2 M2 y g2 r2 ⟨r, hr, h2⟩ => ⟨r, hr, ?_⟩
    have st2 := (st.go g1).go g2
    refine h2 _ _ _ _ _ st2.w (r1.mono g2.gg) r2 fun v G3 H3 M3 d g3 q ⟨kk, ed, p⟩ => ?_
    subst ed
    cases q
    refine ⟨kk, rfl, ?_⟩
    cases kk with
    | false =>
      rw [if_neg Bool.false_ne_true] at p ⊢
      exact k _ _ _ _ _ ((g1.trans g2).trans g3) (.bl false) p
    | true =>
      rw [if_pos rfl] at p ⊢
      refine p _ _ _ _ _ (st2.go g3) fun v4 G4 H4 M4 z g4 r4 ⟨r', hr', h4⟩ => ⟨r', hr', ?_⟩
      exact h4 _ _ _ _ _ ((st2.go g3).go g4).w (r2.mono (g3.gg.trans g4.gg)) r4 fun v G' H' M' d g q p => k _ _ _ _ _ ((((g1.trans g2).trans g3).trans g4).trans g) q p
theorem wt_chain {op op' : CmpOp} (h : WE Y a ss M fun x M => WE Y b ss M fun y M => Op2 Y (compareOp op) x y M (isB fun k M => if k = true then WE Y c ss M fun z M => Op2 Y (compareOp op') y z M (isB PB) else PB false M))
    (hm : lastMarks [op, op'] [b, c] = false := by with_unfolding_all rfl) : WT Y (.Compare a [op, op'] [b, c] pos) ss M PB :=
  wt_pt (pt_chain opr_any opr_any pe_w pe_w pe_w hm) fun B σ G H Q st k => by
    refine h _ _ _ _ _ st fun v1 G1 H1 M1 x g1 r1 h1 => ?_
    refine h1 _ _ _ _ _ (st.go g1) fun v2 G2 H2 M2 y g2 r2 ⟨r, hr, h2⟩ => ⟨r, hr, ?_⟩
    have st2 := (st.go g1).go g2
    refine h2 _ _ _ _ _ st2.w (r1.mono g2.gg) r2 fun v G3 H3 M3 d g3 q ⟨kk, ed, p⟩ => ?_
    subst ed
    cases q
    refine ⟨kk, rfl, ?_⟩
    cases kk with
    | false =>
      rw [if_neg Bool.false_ne_true] at p ⊢
      exact ⟨false, rfl, k _ _ _ _ ((g1.trans g2).trans g3) p⟩
    | true =>
      rw [if_pos rfl] at p ⊢
      refine p _ _ _ _ _ (st2.go g3) fun v4 G4 H4 M4 z g4 r4 ⟨r', hr', h4⟩ => ⟨r', hr', ?_⟩
      refine h4 _ _ _ _ _ ((st2.go g3).go g4).w (r2.mono (g3.gg.trans g4.gg)) r4 fun v G' H' M' d g q ⟨kk, ed, p⟩ => ?_
      subst ed
      cases q
      exact ⟨kk, rfl, k _ _ _ _ ((((g1.trans g2).trans g3).trans g4).trans g) p⟩
/-! ### and, or, not; if .. else -/
theorem wt_ww (h : WW Y e ss M PB) : WT Y e ss M PB := wt_pt (PW.pt pw_w) fun B σ G H Q st k => h _ _ _ _ _ st k
theorem ww_and1 (h : WT Y a ss M PB) : WW Y (.BoolOp .And [a] pos) ss M PB := ww_pw (pw_and1 pt_w) fun B σ G H Q st k => h _ _ _ _ _ st k
theorem ww_or1 (h : WT Y a ss M PB) : WW Y (.BoolOp .Or [a] pos) ss M PB := ww_pw (pw_or1 pt_w) fun B σ G H Q st k => h _ _ _ _ _ st k
theorem ww_and {rest : List Expr} (h : WT Y a ss M fun k M => if k = true then WW Y (.BoolOp .And (b :: rest) pos) ss M PB else PB false M) : WW Y (.BoolOp .And (a :: b :: rest) pos) ss M PB :=
  ww_pw (pw_and pt_w pw_w) fun B σ G H Q st k => by
    refine h _ _ _ _ _ st fun kk G1 H1 M1 g1 p => ?_
    cases kk with
    | true => exact (ifT p).run _ _ _ _ _ (st.go g1) fun b' G' H' M' g q => k _ _ _ _ (g1.trans g) q
    | false => exact k _ _ _ _ g1 p
theorem ww_or {rest : List Expr} (h : WT Y a ss M fun k M => if k = true then PB true M else WW Y (.BoolOp .Or (b :: rest) pos) ss M PB) : WW Y (.BoolOp .Or (a :: b :: rest) pos) ss M PB :=
  ww_pw (pw_or pt_w pw_w) fun B σ G H Q st k => by
    refine h _ _ _ _ _ st fun kk G1 H1 M1 g1 p => ?_
    cases kk with
    | true => exact k _ _ _ _ g1 p
    | false => exact (ifF p).run _ _ _ _ _ (st.go g1) fun b' G' H' M' g q => k _ _ _ _ (g1.trans g) q
theorem wt_and2 (h : WT Y a ss M fun k M => if k = true then WT Y b ss M PB else PB false M) : WT Y (.BoolOp .And [a, b] pos) ss M PB := wt_ww (ww_and (h.mono fun k M q => by
  cases k with
  | true => rw [if_pos rfl] at q ⊢; exact ww_and1 q
  | false => exact q))
theorem wt_or2 (h : WT Y a ss M fun k M => if k = true then PB true M else WT Y b ss M PB) : WT Y (.BoolOp .Or [a, b] pos) ss M PB := wt_ww (ww_or (h.mono fun k M q => by
  cases k with
  | true => exact q
  | false => rw [if_neg Bool.false_ne_true] at q ⊢; exact ww_or1 q))
theorem wt_not (h : WT Y a ss M fun k M => PB (!k) M) : WT Y (.UnaryOp .Not a pos) ss M PB :=
  wt_pt (pt_not pt_w) fun B σ G H Q st k => h _ _ _ _ _ st fun kk G1 H1 M1 g1 p => k _ _ _ _ g1 p
theorem we_ifx (h : WT Y c ss M fun k M => if k = true then WE Y a ss M P else WE Y b ss M P) : WE Y (.IfExp c a b pos) ss M P :=
  we_pe (pe_ifExp pt_w pe_w pe_w) fun B σ G H Q st k => by
    refine h _ _ _ _ _ st fun kk G1 H1 M1 g1 p => ?_
    cases kk with
    | true => exact (ifT p).run _ _ _ _ _ (st.go g1) fun v G' H' M' d g r q => k _ _ _ _ _ (g1.trans g) r q
    | false => exact (ifF p).run _ _ _ _ _ (st.go g1) fun v G' H' M' d g r q => k _ _ _ _ _ (g1.trans g) r q
/-- and, or, not as values: all items but the last are bools -/
theorem we_one {bop : BoolOp} (h : WE Y a ss M P) : WE Y (.BoolOp bop [a] pos) ss M P := we_pe (pe_one pe_w) fun B σ G H Q st k => h _ _ _ _ _ st k
theorem we_and {rest : List Expr} (h : WE Y a ss M (isB fun k M => if k = true then WE Y (.BoolOp .And (b :: rest) pos) ss M P else P (.bl false) M)) : WE Y (.BoolOp .And (a :: b :: rest) pos) ss M P :=
  we_pe (pe_and pe_w pe_w) fun B σ G H Q st k => by
    refine h _ _ _ _ _ st fun v G1 H1 M1 d g1 r ⟨kk, ed, p⟩ => ?_
    subst ed
    cases r
    refine ⟨kk, rfl, ?_⟩
    cases kk with
    | true => exact (ifT p).run _ _ _ _ _ (st.go g1) fun v G' H' M' d g r q => k _ _ _ _ _ (g1.trans g) r q
    | false => exact k _ _ _ _ _ g1 (.bl false) p
theorem we_or {rest : List Expr} (h : WE Y a ss M (isB fun k M => if k = true then P (.bl true) M else WE Y (.BoolOp .Or (b :: rest) pos) ss M P)) : WE Y (.BoolOp .Or (a :: b :: rest) pos) ss M P :=
  we_pe (pe_or pe_w pe_w) fun B σ G H Q st k => by
    refine h _ _ _ _ _ st fun v G1 H1 M1 d g1 r ⟨kk, ed, p⟩ => ?_
    subst ed
    cases r
    refine ⟨kk, rfl, ?_⟩
    cases kk with
    | true => exact k _ _ _ _ _ g1 (.bl true) p
    | false => exact (ifF p).run _ _ _ _ _ (st.go g1) fun v G' H' M' d g r q => k _ _ _ _ _ (g1.trans g) r q
theorem we_not (h : WE Y a ss M (isB fun k M => P (.bl (!k)) M)) : WE Y (.UnaryOp .Not a pos) ss M P :=
  we_pe (pe_not pe_w) fun B σ G H Q st k => by
    refine h _ _ _ _ _ st fun v G1 H1 M1 d g1 r ⟨kk, ed, p⟩ => ?_
    subst ed
    cases r
    exact ⟨kk, rfl, k _ _ _ _ _ g1 (.bl _) p⟩
/-- a value that is a bool, as a test; any value's truth -/
theorem wt_val (h : WE Y e ss M (isB PB)) (he : ∀ whole, isTrue e Y.X.env whole = (do let v ← whole; standAt e.pos; holding [v] (truthy v)) := by intro _; rfl) : WT Y e ss M PB :=
  wt_pt (pt_val pe_w he) fun B σ G H Q st k => by
    refine h _ _ _ _ _ st fun v G1 H1 M1 d g1 r ⟨kk, ed, p⟩ => ?_
    subst ed
    cases r
    exact ⟨kk, rfl, k _ _ _ _ g1 p⟩
/-! ### reading lists and instances, data or not -/
def LAt (M : Mm) : D → List D → Prop
  | .lst ds', ds => ds' = ds
  | .adr (.ref a), ds => M a = some (.lst ds)
  | _, _ => False
theorem LAt.get {K : PySem.W.Frag} {G H : Hp} {x : D} {ds : List D} {v : V} (w : Wd K G H M) (l : LAt M x ds) (r : Is K G v x) : ∃ a vs, v = .ref a ∧ H a = some (.lst vs) ∧ Iss K G vs ds := by
  cases r with
  | lst h r =>
    cases l
    exact ⟨_, _, rfl, w.gh _ _ h, r⟩
  | adr v =>
    cases v with
    | ref a =>
      obtain ⟨_, u, hu, ob⟩ := w.mo _ _ (show M a = some (.lst ds) from l)
      obtain ⟨vs, rfl, r⟩ := ob.lst
      exact ⟨a, vs, rfl, hu, r⟩
    | _ => exact False.elim l
  | _ => exact False.elim l
def OAt (M : Mm) : D → Addr → List (Str × D) → Prop
  | .obj C' fs', C, fs => C' = C ∧ fs' = fs
  | .adr (.ref a), C, fs => M a = some (.ins C fs)
  | _, _, _ => False
theorem OAt.get {K : PySem.W.Frag} {G H : Hp} {x : D} {C : Addr} {fs : List (Str × D)} {v : V} (w : Wd K G H M) (l : OAt M x C fs) (r : Is K G v x) : ∃ a dx vs, v = .ref a ∧ H a = some (.ins C dx vs) ∧ IsF K G vs fs := by
  cases r with
  | obj h r =>
    obtain ⟨e1, e2⟩ := l
    subst e1 e2
    exact ⟨_, _, _, rfl, w.gh _ _ h, r⟩
  | adr v =>
    cases v with
    | ref a =>
      obtain ⟨_, u, hu, ob⟩ := w.mo _ _ (show M a = some (.ins C fs) from l)
      obtain ⟨dx, vs, rfl, r⟩ := ob.ins
      exact ⟨a, dx, vs, rfl, hu, r⟩
    | _ => exact False.elim l
  | _ => exact False.elim l
def TruD (M : Mm) : D → Bool → Prop
  | .non, k => k = false
  | .bl b, k => k = b
  | .int i, k => k = (i != 0)
  | .tup ds, k => k = !ds.isEmpty
  | .lst ds, k => k = !ds.isEmpty
  | .adr (.ref a), k => ∃ ds, M a = some (.lst ds) ∧ k = !ds.isEmpty
  | _, _ => False
theorem isEmpty_iss {K : PySem.W.Frag} {G : Hp} {xs : List V} {ds : List D} (r : Iss K G xs ds) : (!ds.isEmpty) = !xs.isEmpty := by
  cases r <;> rfl
theorem wt_tru (h : WE Y e ss M fun x M => ∃ k, TruD M x k ∧ PB k M) (he : ∀ whole, isTrue e Y.X.env whole = (do let v ← whole; standAt e.pos; holding [v] (truthy v)) := by intro _; rfl) : WT Y e ss M PB :=
  wt_pt (pt_truth pe_w he) fun B σ G H Q st k => by
    refine h _ _ _ _ _ st fun v G1 H1 M1 d g1 r ⟨kk, t, p⟩ => ⟨kk, ?_, k _ _ _ _ g1 p⟩
    cases r with
    | non => exact t
    | bl b => exact t
    | int i => exact t
    | str x => exact t.elim
    | tup h r =>
      refine .inr (.inl ⟨_, ex_t g1.gh h, ?_⟩)
      rw [← isEmpty_iss r]
      exact t
    | lst h r =>
      refine .inl ⟨_, SqL.of (g1.gh _ _ h), ?_⟩
      rw [← isEmpty_iss r]
      exact t
    | obj h r => exact t.elim
    | scr h r => exact t.elim
    | clo h m => exact t.elim
    | adr v =>
      cases v with
      | ref a =>
        obtain ⟨ds, em, t⟩ := t
        obtain ⟨_, u, hu, ob⟩ := g1.wd.mo _ _ em
        obtain ⟨vs, rfl, r⟩ := ob.lst
        refine .inl ⟨_, SqL.of hu, ?_⟩
        rw [← isEmpty_iss r]
        exact t
      | _ => exact t.elim
/-! ### argument lists, displays -/
theorem wa_nil {Q : List D → Mm → Prop} (q : Q [] M) : WA Y [] ss M Q := .mk fun B σ G H R st k pos pins s I => pa_nil.run pos pins s σ H R I (k _ _ _ _ _ st.refl .nil q)
theorem wa_cons {Q : List D → Mm → Prop} (h : WE Y e ss M fun x M => WA Y es ss M fun xs M => Q (x :: xs) M) (hs : starEach (e :: es) Y.X.env = (false, eval e Y.X.env) :: starEach es Y.X.env := by rfl) : WA Y (e :: es) ss M Q := .mk fun B σ G H R st k pos pins s I =>
  (pa_cons pe_w pa_w hs).run pos pins s σ H R I (by
    refine h _ _ _ _ _ st fun v1 G1 H1 M1 x g1 r1 h1 => ?_
    exact h1 _ _ _ _ _ (st.go g1) fun vs G2 H2 M2 ds g2 r2 q => k _ _ _ _ _ (g1.trans g2) (.cons (r1.mono g2.gg) r2) q)
/-- *xs in a display -/
def SqAt (M : Mm) (x : D) (ds : List D) : Prop := x = .tup ds ∨ LAt M x ds
theorem wa_star {p : Pos} {Q : List D → Mm → Prop} (h : WE Y e ss M fun x M1 => ∃ xs, SqAt M1 x xs ∧ WA Y es ss M1 fun ys M => Q (xs ++ ys) M) (hs : starEach (.Starred e p :: es) Y.X.env = (true, eval e Y.X.env) :: starEach es Y.X.env := by rfl) : WA Y (.Starred e p :: es) ss M Q := .mk fun B σ G H R st k pos pins s I =>
  (pa_star pe_w pa_w hs).run pos pins s σ H R I (by
    refine h _ _ _ _ _ st fun v1 G1 H1 M1 x g1 r1 ⟨xs, hx, h1⟩ => ?_
    rcases hx with rfl | hx
    · cases r1 with
      | @tup a vs _ ht r =>
        refine ⟨a, vs, rfl, .inl (ex_t g1.gh ht), ?_⟩
        exact h1 _ _ _ _ _ (st.go g1) fun ws G2 H2 M2 ds g2 r2 q => k _ _ _ _ _ (g1.trans g2) ((r.mono g2.gg).append r2) q
    · obtain ⟨a, vs, rfl, hl, r⟩ := hx.get g1.wd r1
      refine ⟨a, vs, rfl, .inr (SqL.of hl), ?_⟩
      exact h1 _ _ _ _ _ (st.go g1) fun ws G2 H2 M2 ds g2 r2 q => k _ _ _ _ _ (g1.trans g2) ((r.mono g2.gg).append r2) q)
theorem we_tup {k1} (h : WA Y es ss M fun xs M => xs.length ≤ sizeLine ∧ P (.tup xs) M) : WE Y (.Tuple es k1 pos) ss M P :=
  we_pe (pe_tup pa_w) fun B σ G H Q st k => by
    refine h _ _ _ _ _ st fun vs G1 H1 M1 ds g1 r ⟨z, p⟩ => ⟨by rw [r.length]; exact z, fun q hq => ?_⟩
    have g2 := g1.wd.new (o := .tup vs) hq
    exact k _ _ _ _ _ (g1.trans g2) (.tup (SqT.of upd_same) (r.mono g2.gg)) p
/-- a new list: data, or one that may change -/
def NewL (P : D → Mm → Prop) (M : Mm) (ds : List D) : Prop := P (.lst ds) M ∨ ∀ p, M p = none → P (.rf p) (mup M p (.lst ds))
theorem NewL.k {G0 H0 G H : Hp} {M0 : Mm} {vs : List V} {ds : List D} {p : Addr} {Q : VK} (h : NewL P M ds) (g : Tr Y.X.K G0 H0 M0 G H M) (hq : H p = none) (r : Iss Y.X.K G vs ds) (k : Kon Y G0 H0 M0 P Q) : Q (.ref p) (upd H p (.lst vs)) := by
  rcases h with h | h
  · have g2 := g.wd.new (o := .lst vs) hq
    exact k _ _ _ _ _ (g.trans g2) (.lst upd_same (r.mono g2.gg)) h
  · exact k _ _ _ _ _ (g.trans (g.wd.newM (o := .lst vs) (b := .lst ds) hq r)) (.adr _) (h p (g.wd.mnone hq))
theorem we_lst (h : WA Y es ss M fun xs M => xs.length ≤ sizeLine ∧ NewL P M xs) : WE Y (.List es pos) ss M P :=
  we_pe (pe_lst pa_w) fun B σ G H Q st k => by
    refine h _ _ _ _ _ st fun vs G1 H1 M1 ds g1 r ⟨z, p⟩ => ⟨by rw [r.length]; exact z, fun q hq => p.k g1 hq r k⟩
/-- data from now on: a list, an instance -/
theorem we_frz (h : WE Y e ss M fun x M => ∃ a, x = .rf a ∧ ∃ ds, M a = some (.lst ds) ∧ P (.lst ds) (mdel M a)) : WE Y e ss M P := .mk fun B σ G H Q st k => h _ _ _ _ _ st fun v G1 H1 M1 x g1 r1 ⟨a, ex, ds, em, p⟩ => by
  subst ex
  cases r1
  obtain ⟨_, u, hu, ob⟩ := g1.wd.mo _ _ em
  obtain ⟨vs, rfl, r⟩ := ob.lst
  have g2 := g1.wd.frz em hu
  exact k _ _ _ _ _ (g1.trans g2) (.lst upd_same (r.mono g2.gg)) p
theorem we_frzO (h : WE Y e ss M fun x M => ∃ a, x = .rf a ∧ ∃ C fs, M a = some (.ins C fs) ∧ P (.obj C fs) (mdel M a)) : WE Y e ss M P := .mk fun B σ G H Q st k => h _ _ _ _ _ st fun v G1 H1 M1 x g1 r1 ⟨a, ex, C, fs, em, p⟩ => by
  subst ex
  cases r1
  obtain ⟨_, u, hu, ob⟩ := g1.wd.mo _ _ em
  obtain ⟨dx, vs, rfl, r⟩ := ob.ins
  have g2 := g1.wd.frz em hu
  exact k _ _ _ _ _ (g1.trans g2) (.obj upd_same (r.mono g2.gg)) p
/-! ### fields, places, slices -/
theorem we_fld {f : Str} (h : WE Y e ss M fun x M => ∃ C fs d, OAt M x C fs ∧ Cls Y.X.K C ∧ NoAttr Y.X.K C f ∧ fs.lookup f = some d ∧ P d M) (hb : attributeBase e f Y.X.env (eval e Y.X.env) = eval e Y.X.env := by rfl) : WE Y (.Attribute e f pos) ss M P :=
  we_pe (pe_fld pe_w hb) fun B σ G H Q st k => by
    refine h _ _ _ _ _ st fun v G1 H1 M1 x g1 r ⟨C, fs, d, ex, cl, na, lk, p⟩ => ?_
    obtain ⟨a, dx, vs, rfl, hx, rf⟩ := ex.get g1.wd r
    obtain ⟨y, l2, r2⟩ := rf.look lk
    exact ⟨_, C, _, _, y, rfl, hx, cl, na, l2, k _ _ _ _ _ g1 r2 p⟩
/-- what an index finds -/
def IxD (M : Mm) : D → Int → D → Prop
  | .tup ds, i, d => atI ds i = some d
  | .lst ds, i, d => atI ds i = some d
  | .adr (.ref a), i, d => ∃ ds, M a = some (.lst ds) ∧ atI ds i = some d
  | _, _, _ => False
theorem Iss.atI {K : PySem.W.Frag} {G : Hp} {xs : List V} {ds : List D} {i : Int} {d : D} (r : Iss K G xs ds) (h : L2.atI ds i = some d) : ∃ x, L2.atI xs i = some x ∧ Is K G x d := by
  unfold L2.atI at h ⊢
  rw [r.length]
  cases e : ixN ds.length i with
  | none => rw [e] at h; cases h
  | some j =>
    rw [e] at h
    exact r.get' h
theorem ixN_nat {n i : Nat} (h : i < n) : ixN n (i : Int) = some i := by
  unfold ixN
  rw [if_pos (Int.natCast_nonneg i), if_pos (by exact_mod_cast h)]
  rfl
theorem atI_of {ds : List D} {i : Nat} {d : D} (h : ds[i]? = some d) : L2.atI ds (i : Int) = some d := by
  unfold L2.atI
  rw [ixN_nat (List.getElem?_eq_some_iff.mp h).1]
  exact h
theorem ix0 {d : D} {ds : List D} : IxD M (.lst (d :: ds)) 0 d := atI_of (i := 0) rfl
theorem we_ix (h : WE Y a ss M fun x M => WE Y b ss M fun y M => ∃ i d, y = .int i ∧ IxD M x i d ∧ P d M) (hs : PlainIx b := by intro _ _; rfl) : WE Y (.Subscript a b pos) ss M P :=
  we_pe (pe_ix ix_seq pe_w pe_w hs) fun B σ G H Q st k => by
    refine h _ _ _ _ _ st fun v1 G1 H1 M1 x g1 r1 h1 => ?_
    refine h1 _ _ _ _ _ (st.go g1) fun v2 G2 H2 M2 y g2 r2 ⟨i, d, ey, ix, p⟩ => ?_
    subst ey
    cases r2
    cases r1 with
    | tup hx r =>
      obtain ⟨z, h2, r3⟩ := r.atI ix
      exact .inr (.inl ⟨_, _, i, z, rfl, rfl, ex_t (g2.gg.trans g2.gh) hx, h2, k _ _ _ _ _ (g1.trans g2) (r3.mono g2.gg) p⟩)
    | lst hx r =>
      obtain ⟨z, h2, r3⟩ := r.atI ix
      exact .inl ⟨_, _, i, z, rfl, rfl, SqL.of (g2.gh _ _ (g2.gg _ _ hx)), h2, k _ _ _ _ _ (g1.trans g2) (r3.mono g2.gg) p⟩
    | non => exact ix.elim
    | bl _ => exact ix.elim
    | int _ => exact ix.elim
    | str _ => exact ix.elim
    | obj _ _ => exact ix.elim
    | scr _ _ => exact ix.elim
    | clo _ _ => exact ix.elim
    | adr _ =>
      cases v1 with
      | ref l =>
        obtain ⟨ds, em, ix⟩ := ix
        obtain ⟨_, u, hu, ob⟩ := g2.wd.mo _ _ em
        obtain ⟨vs, rfl, r⟩ := ob.lst
        obtain ⟨z, h2, r3⟩ := r.atI ix
        exact .inl ⟨_, _, i, z, rfl, rfl, SqL.of hu, h2, k _ _ _ _ _ (g1.trans g2) r3 p⟩
      | _ => exact ix.elim
end
end JQ

set_option Elab.async false
set_option linter.all false
set_option maxRecDepth 100000
set_option maxHeartbeats 2000000
/-! What operators and built-ins do to data. -/
namespace JQ
open PySem PySem.Spec PyProof.Rows L2
open Evl (Ex ex_l ex_t)
section
variable {Y : Bd} {M : Mm} {P : D → Mm → Prop} {i j : Int} {x y : D}
theorem o2_I0 {f : Value → Value → Sem Value} {g : Int → Int → V} {d : D} (h : OpR Y.X f (rI0 g)) (hd : ∀ K G, Is K G (g i j) d) (q : P d M) : Op2 Y f (.int i) (.int j) M P :=
  ⟨_, h, fun G H vx vy Q st rx ry k => by
    cases rx
    cases ry
    exact ⟨i, j, rfl, rfl, k _ _ _ _ _ st.refl (hd _ _) q⟩⟩
theorem o2_I {f : Value → Value → Sem Value} {C : Int → Int → Prop} {g : Int → Int → V} {d : D} (h : OpR Y.X f (rI C g)) (hc : C i j) (hd : ∀ K G, Is K G (g i j) d) (q : P d M) : Op2 Y f (.int i) (.int j) M P :=
  ⟨_, h, fun G H vx vy Q st rx ry k => by
    cases rx
    cases ry
    exact ⟨i, j, rfl, rfl, hc, k _ _ _ _ _ st.refl (hd _ _) q⟩⟩
theorem o_add (q : P (.int (i + j)) M) : Op2 Y (binaryOp .Add) (.int i) (.int j) M P := o2_I0 op_add (fun _ _ => .int _) q
theorem o_sub (q : P (.int (i - j)) M) : Op2 Y (binaryOp .Sub) (.int i) (.int j) M P := o2_I0 op_sub (fun _ _ => .int _) q
theorem o_mul (h : CMul i j) (q : P (.int (i * j)) M) : Op2 Y (binaryOp .Mult) (.int i) (.int j) M P := o2_I op_mul h (fun _ _ => .int _) q
theorem o_mulW (h : CMulW i j) (q : P (.int (i * j)) M) : Op2 Y (binaryOp .Mult) (.int i) (.int j) M P := o2_I op_mulW h (fun _ _ => .int _) q
theorem o_mod (h : 0 < j) (q : P (.int (i % j)) M) : Op2 Y (binaryOp .Mod) (.int i) (.int j) M P := o2_I op_mod h (fun _ _ => .int _) q
theorem o_fdiv (h : CDiv i j) (q : P (.int (i / j)) M) : Op2 Y (binaryOp .FloorDiv) (.int i) (.int j) M P := o2_I op_fdiv h (fun _ _ => .int _) q
theorem o_fdivW (h : CDivW i j) (q : P (.int (i / j)) M) : Op2 Y (binaryOp .FloorDiv) (.int i) (.int j) M P := o2_I op_fdivW h (fun _ _ => .int _) q
theorem o_pow (h : CPow i j) (q : P (.int (i ^ j.toNat)) M) : Op2 Y (binaryOp .Pow) (.int i) (.int j) M P := o2_I op_pow h (fun _ _ => .int _) q
theorem o_lt (q : P (.bl (decide (i < j))) M) : Op2 Y (compareOp .Lt) (.int i) (.int j) M P := o2_I0 op_lt (fun _ _ => .bl _) q
theorem o_le (q : P (.bl (decide (i ≤ j))) M) : Op2 Y (compareOp .LtE) (.int i) (.int j) M P := o2_I0 op_le (fun _ _ => .bl _) q
theorem o_gt (q : P (.bl (decide (j < i))) M) : Op2 Y (compareOp .Gt) (.int i) (.int j) M P := o2_I0 op_gt (fun _ _ => .bl _) q
theorem o_ge (q : P (.bl (decide (j ≤ i))) M) : Op2 Y (compareOp .GtE) (.int i) (.int j) M P := o2_I0 op_ge (fun _ _ => .bl _) q
theorem dec_i : decide (V.int i = V.int j) = decide (i = j) := by
  by_cases h : i = j
  · rw [h, decide_eq_true rfl, decide_eq_true rfl]
  · rw [decide_eq_false h, decide_eq_false (fun q => h (V.int.inj q))]
theorem dec_b {a b : Bool} : decide (V.bl a = V.bl b) = decide (a = b) := by cases a <;> cases b <;> rfl
theorem dec_s {a b : Str} : decide (V.str a = V.str b) = decide (a = b) := by
  by_cases h : a = b
  · rw [h, decide_eq_true rfl, decide_eq_true rfl]
  · rw [decide_eq_false h, decide_eq_false (fun q => h (V.str.inj q))]
theorem o_eqI (q : P (.bl (decide (i = j))) M) : Op2 Y (compareOp .Eq) (.int i) (.int j) M P :=
  ⟨_, op_eq, fun G H vx vy Q st rx ry k => by
    cases rx
    cases ry
    refine ⟨rfl, k _ _ _ _ _ st.refl (.bl _) ?_⟩
    rw [dec_i]
    exact q⟩
theorem o_neI (q : P (.bl (!decide (i = j))) M) : Op2 Y (compareOp .NotEq) (.int i) (.int j) M P :=
  ⟨_, op_ne, fun G H vx vy Q st rx ry k => by
    cases rx
    cases ry
    refine ⟨rfl, k _ _ _ _ _ st.refl (.bl _) ?_⟩
    rw [dec_i]
    exact q⟩
theorem o_eqB {a b : Bool} (q : P (.bl (decide (a = b))) M) : Op2 Y (compareOp .Eq) (.bl a) (.bl b) M P :=
  ⟨_, op_eq, fun G H vx vy Q st rx ry k => by
    cases rx
    cases ry
    refine ⟨rfl, k _ _ _ _ _ st.refl (.bl _) ?_⟩
    rw [dec_b]
    exact q⟩
theorem o_neB {a b : Bool} (q : P (.bl (!decide (a = b))) M) : Op2 Y (compareOp .NotEq) (.bl a) (.bl b) M P :=
  ⟨_, op_ne, fun G H vx vy Q st rx ry k => by
    cases rx
    cases ry
    refine ⟨rfl, k _ _ _ _ _ st.refl (.bl _) ?_⟩
    rw [dec_b]
    exact q⟩
theorem o_eqS {a b : Str} (q : P (.bl (decide (a = b))) M) : Op2 Y (compareOp .Eq) (.str a) (.str b) M P :=
  ⟨_, op_eq, fun G H vx vy Q st rx ry k => by
    cases rx
    cases ry
    refine ⟨rfl, k _ _ _ _ _ st.refl (.bl _) ?_⟩
    rw [dec_s]
    exact q⟩
theorem o_neS {a b : Str} (q : P (.bl (!decide (a = b))) M) : Op2 Y (compareOp .NotEq) (.str a) (.str b) M P :=
  ⟨_, op_ne, fun G H vx vy Q st rx ry k => by
    cases rx
    cases ry
    refine ⟨rfl, k _ _ _ _ _ st.refl (.bl _) ?_⟩
    rw [dec_s]
    exact q⟩
/-- is None, is not None: of anything but opaque data -/
def notNone : D → Bool
  | .non => false
  | .adr (.ref _) => true
  | .adr _ => false
  | _ => true
theorem notNone_ne {K : PySem.W.Frag} {G : Hp} {v : V} (h : notNone x = true) (r : Is K G v x) : v ≠ .non := by
  intro e
  subst e
  cases r <;> cases h
theorem o_isN (q : P (.bl true) M) : Op2 Y (compareOp .Is) .non .non M P :=
  ⟨_, op_isN, fun G H vx vy Q st rx ry k => by
    cases rx
    cases ry
    exact ⟨rfl, k _ _ _ _ _ st.refl (.bl _) q⟩⟩
theorem o_isN' (h : notNone x = true) (q : P (.bl false) M) : Op2 Y (compareOp .Is) x .non M P :=
  ⟨_, op_isN, fun G H vx vy Q st rx ry k => by
    cases ry
    refine ⟨rfl, k _ _ _ _ _ st.refl (.bl _) ?_⟩
    rw [decide_eq_false (notNone_ne h rx)]
    exact q⟩
theorem o_ntN (q : P (.bl false) M) : Op2 Y (compareOp .IsNot) .non .non M P :=
  ⟨_, op_notN, fun G H vx vy Q st rx ry k => by
    cases rx
    cases ry
    exact ⟨rfl, k _ _ _ _ _ st.refl (.bl _) q⟩⟩
theorem o_ntN' (h : notNone x = true) (q : P (.bl true) M) : Op2 Y (compareOp .IsNot) x .non M P :=
  ⟨_, op_notN, fun G H vx vy Q st rx ry k => by
    cases ry
    refine ⟨rfl, k _ _ _ _ _ st.refl (.bl _) ?_⟩
    rw [decide_eq_false (notNone_ne h rx)]
    exact q⟩
theorem o_ntB {a b : Bool} (q : P (.bl (!decide (a = b))) M) : Op2 Y (compareOp .IsNot) (.bl a) (.bl b) M P :=
  ⟨_, op_notBl, fun G H vx vy Q st rx ry k => by
    cases rx
    cases ry
    exact ⟨a, b, rfl, rfl, k _ _ _ _ _ st.refl (.bl _) q⟩⟩
theorem o_neg (q : P (.int (-i)) M) : Op1 Y (unaryOp .USub) (.int i) M P :=
  ⟨_, un_neg, fun G H vx Q st rx k => by
    cases rx
    exact ⟨i, rfl, k _ _ _ _ _ st.refl (.int _) q⟩⟩
/-! ### lists of ints -/
theorem iss_ints {K : PySem.W.Frag} {G : Hp} : ∀ {ns : List Int} {vs : List V}, Iss K G vs (ns.map D.int) → vs = ns.map V.int
  | [], _, h => by cases h; rfl
  | n :: ns, _, h => by
    rw [List.map_cons] at h
    cases h with
    | cons h r =>
      cases h
      rw [List.map_cons, iss_ints r]
theorem iss_of_ints {K : PySem.W.Frag} {G : Hp} : ∀ {ns : List Int}, Iss K G (ns.map V.int) (ns.map D.int)
  | [] => .nil
  | n :: ns => .cons (.int n) iss_of_ints
theorem flat_ints : ∀ ns : List Int, (ns.map V.int).all flatV = true
  | [] => rfl
  | n :: ns => by rw [List.map_cons, List.all_cons, flat_ints ns]; rfl
theorem inV_ints : ∀ (n : Int) (ns : List Int), inV (.int n) (ns.map V.int) = decide (n ∈ ns)
  | n, [] => rfl
  | n, m :: ns => by
    have ih := inV_ints n ns
    unfold inV at ih ⊢
    rw [List.map_cons, List.any_cons, ih]
    by_cases h : m = n
    · subst h
      have e : eqV (V.int m) (V.int m) = true := by unfold eqV; simp
      rw [e]
      simp
    · have e : eqV (V.int m) (V.int n) = false := by unfold eqV; simp [h]
      rw [e]
      have h2 : ¬ n = m := fun q => h q.symm
      simp [h2]
theorem SqAt.get {K : PySem.W.Frag} {G H : Hp} {ds : List D} {v : V} (w : Wd K G H M) (l : SqAt M x ds) (r : Is K G v x) : ∃ a vs, v = .ref a ∧ (SqT K H a vs ∨ H a = some (.lst vs)) ∧ Iss K G vs ds := by
  rcases l with rfl | l
  · cases r with
    | tup h r => exact ⟨_, _, rfl, .inl (ex_t w.gh h), r⟩
  · obtain ⟨a, vs, rfl, h, r⟩ := l.get w r
    exact ⟨a, vs, rfl, .inr h, r⟩
theorem SqAt.tup {ds : List D} : SqAt M (.tup ds) ds := .inl rfl
theorem SqAt.lst {ds : List D} : SqAt M (.lst ds) ds := .inr rfl
theorem SqAt.rf {ds : List D} {a : Addr} (h : M a = some (.lst ds)) : SqAt M (.rf a) ds := .inr h
theorem LAt.lst {ds : List D} : LAt M (.lst ds) ds := rfl
theorem LAt.rf {ds : List D} {a : Addr} (h : M a = some (.lst ds)) : LAt M (.rf a) ds := h
theorem OAt.obj {C : Addr} {fs : List (Str × D)} : OAt M (.obj C fs) C fs := ⟨rfl, rfl⟩
theorem OAt.rf {C : Addr} {fs : List (Str × D)} {a : Addr} (h : M a = some (.ins C fs)) : OAt M (.rf a) C fs := h
theorem o_in {n : Int} {ns : List Int} (hs : SqAt M y (ns.map D.int)) (q : P (.bl (decide (n ∈ ns))) M) : Op2 Y (compareOp .In) (.int n) y M P :=
  ⟨_, op_in_seq, fun G H vx vy Q st rx ry k => by
    cases rx
    obtain ⟨a, vs, rfl, h, r⟩ := hs.get st ry
    have e := iss_ints r
    subst e
    refine ⟨_, _, rfl, h.elim .inr (fun h => .inl (SqL.of h)), rfl, flat_ints ns, k _ _ _ _ _ st.refl (.bl _) ?_⟩
    rw [if_neg Bool.false_ne_true, inV_ints]
    exact q⟩
theorem o_notIn {n : Int} {ns : List Int} (hs : SqAt M y (ns.map D.int)) (q : P (.bl (!decide (n ∈ ns))) M) : Op2 Y (compareOp .NotIn) (.int n) y M P :=
  ⟨_, op_notIn_seq, fun G H vx vy Q st rx ry k => by
    cases rx
    obtain ⟨a, vs, rfl, h, r⟩ := hs.get st ry
    have e := iss_ints r
    subst e
    refine ⟨_, _, rfl, h.elim .inr (fun h => .inl (SqL.of h)), rfl, flat_ints ns, k _ _ _ _ _ st.refl (.bl _) ?_⟩
    rw [if_pos rfl, inV_ints]
    exact q⟩
/-! ### == of plain data -/
mutual
def pyD : D → PyData
  | .non => .none
  | .bl b => .bool b
  | .int i => .int i
  | .str x => .str x
  | .tup ds => .tuple (pyDs ds)
  | .lst ds => .list (pyDs ds)
  | _ => .none
def pyDs : List D → List PyData
  | [] => []
  | d :: ds => pyD d :: pyDs ds
end
mutual
def plainD : D → Bool
  | .non => true
  | .bl _ => true
  | .int _ => true
  | .str _ => true
  | .tup ds => plainDs ds
  | .lst ds => plainDs ds
  | _ => false
def plainDs : List D → Bool
  | [] => true
  | d :: ds => plainD d && plainDs ds
end
mutual
theorem Is.dp {K : PySem.W.Frag} {G H : Hp} (e : Ex G H) : ∀ {v : V} {d : D}, Is K G v d → plainD d = true → Dp K H v (pyD d)
  | _, _, .non, _ => .non
  | _, _, .bl b, _ => .bl b
  | _, _, .int b, _ => .int b
  | _, _, .str b, _ => .str b
  | _, _, .tup (ds := ds) h r, p => .tup (ex_t e h) (Iss.dp e r p)
  | _, _, .lst (ds := ds) h r, p => .lst (SqL.of (e _ _ h)) (Iss.dp e r p)
  | _, _, .obj h r, p => nomatch p
  | _, _, .adr v, p => nomatch p
  | _, _, .scr h r, p => nomatch p
theorem Iss.dp {K : PySem.W.Frag} {G H : Hp} (e : Ex G H) : ∀ {v : List V} {d : List D}, Iss K G v d → plainDs d = true → DpAll K H v (pyDs d)
  | _, _, .nil, _ => .nil
  | _, _, .cons h r, p => .cons (Is.dp e h (Bool.and_eq_true_iff.mp p).1) (Iss.dp e r (Bool.and_eq_true_iff.mp p).2)
end
/-- data, or a list that changes, of plain items -/
def PlAt (M : Mm) (x d : D) : Prop := plainD d = true ∧ (x = d ∨ ∃ ds, d = .lst ds ∧ LAt M x ds)
theorem PlAt.dp {K : PySem.W.Frag} {G H : Hp} {d : D} {v : V} (w : Wd K G H M) (h : PlAt M x d) (r : Is K G v x) : Dp K H v (pyD d) := by
  obtain ⟨p, rfl | ⟨ds, rfl, l⟩⟩ := h
  · exact r.dp w.gh p
  · obtain ⟨a, vs, rfl, h, r⟩ := l.get w r
    exact .lst (SqL.of h) (r.dp w.gh p)
theorem PlAt.self (h : plainD x = true) : PlAt M x x := ⟨h, .inl rfl⟩
theorem PlAt.rf {ds : List D} {a : Addr} (h : plainDs ds = true) (m : M a = some (.lst ds)) : PlAt M (.rf a) (.lst ds) := ⟨h, .inr ⟨ds, rfl, m⟩⟩
theorem plain_ints : ∀ ns : List Int, plainDs (ns.map D.int) = true
  | [] => rfl
  | n :: ns => by rw [List.map_cons]; exact plain_ints ns
theorem canLay_ints : ∀ ns : List Int, PyData.canLayAll0 (pyDs (ns.map D.int)) = true
  | [] => by simp only [List.map_nil, pyDs, PyData.canLayAll0]
  | n :: ns => by simpa only [List.map_cons, pyDs, pyD, PyData.canLayAll0, PyData.canLay0, Bool.true_and] using canLay_ints ns
theorem depth_ints : ∀ ns : List Int, PyData.depthAll (pyDs (ns.map D.int)) = 0
  | [] => by simp only [List.map_nil, pyDs, PyData.depthAll]
  | n :: ns => by simp only [List.map_cons, pyDs, pyD, PyData.depthAll, PyData.depth, depth_ints ns, Nat.max_self]
theorem shaped_ints (ns : List Int) : SeqAt.shaped (pyD (.lst (ns.map D.int))) = true := by
  unfold SeqAt.shaped
  rw [Bool.and_eq_true]
  refine ⟨?_, ?_⟩
  · simp only [pyD, PyData.canLay0]
    exact canLay_ints ns
  · simp only [pyD, PyData.depth, depth_ints]
    decide
theorem shapedT_ints (ns : List Int) : SeqAt.shaped (pyD (.tup (ns.map D.int))) = true := by
  unfold SeqAt.shaped
  rw [Bool.and_eq_true]
  refine ⟨?_, ?_⟩
  · simp only [pyD, PyData.canLay0]
    exact canLay_ints ns
  · simp only [pyD, PyData.depth, depth_ints]
    decide
theorem o_eqD {d e : D} (hu : Y.X.A.units + 64 < cLine) (hx : PlAt M x d) (hy : PlAt M y e) (sx : SeqAt.shaped (pyD d) = true) (sy : SeqAt.shaped (pyD e) = true) (q : P (.bl (PyData.eqv (pyD d) (pyD e))) M) : Op2 Y (compareOp .Eq) x y M P :=
  ⟨_, op_eqD hu, fun G H vx vy Q st rx ry k => ⟨_, _, hx.dp st rx, hy.dp st ry, sx, sy, k _ _ _ _ _ st.refl (.bl _) q⟩⟩
theorem o_neD {d e : D} (hu : Y.X.A.units + 64 < cLine) (hx : PlAt M x d) (hy : PlAt M y e) (sx : SeqAt.shaped (pyD d) = true) (sy : SeqAt.shaped (pyD e) = true) (q : P (.bl (!PyData.eqv (pyD d) (pyD e))) M) : Op2 Y (compareOp .NotEq) x y M P :=
  ⟨_, op_neD hu, fun G H vx vy Q st rx ry k => ⟨_, _, hx.dp st rx, hy.dp st ry, sx, sy, k _ _ _ _ _ st.refl (.bl _) q⟩⟩
/-! ### tuples and lists put together -/
theorem nil_iss {K : PySem.W.Frag} {G : Hp} {vs : List V} {ds : List D} (r : Iss K G vs ds) (e : vs = []) : ds = [] := by
  subst e
  cases r
  rfl
theorem o_catT {xs ys : List D} (hz : xs.length + ys.length ≤ sizeLine) (q : P (.tup (xs ++ ys)) M) : Op2 Y (binaryOp .Add) (.tup xs) (.tup ys) M P :=
  ⟨_, op_catA, fun G H vx vy Q st rx ry k => by
    cases rx with
    | @tup a vs _ h r =>
      cases ry with
      | @tup b ws _ h2 r2 =>
        refine ⟨a, b, vs, ws, rfl, rfl, ex_t st.gh h, ex_t st.gh h2, by rw [r.length, r2.length]; exact hz, fun e => ?_, fun _ e => ?_, fun _ _ p hp => ?_⟩
        · have e1 := nil_iss r e
          subst e1
          exact k _ _ _ _ _ st.refl (.tup h2 r2) q
        · have e1 := nil_iss r2 e
          subst e1
          rw [List.append_nil] at q
          exact k _ _ _ _ _ st.refl (.tup h r) q
        · have g := st.new (o := .tup (vs ++ ws)) hp
          exact k _ _ _ _ _ g (.tup (SqT.of upd_same) ((r.mono g.gg).append (r2.mono g.gg))) q⟩
theorem o_catL {xs ys : List D} (hx : LAt M x xs) (hy : LAt M y ys) (hz : xs.length + ys.length ≤ sizeLine) (q : NewL P M (xs ++ ys)) : Op2 Y (binaryOp .Add) x y M P :=
  ⟨_, op_cat, fun G H vx vy Q st rx ry k => by
    obtain ⟨a, vs, rfl, h, r⟩ := hx.get st rx
    obtain ⟨b, ws, rfl, h2, r2⟩ := hy.get st ry
    exact ⟨a, b, vs, ws, rfl, rfl, h, h2, by rw [r.length, r2.length]; exact hz, fun p hp => q.k st.refl hp (r.append r2) k⟩⟩
/-! ### slices -/
def cutL {α : Type} (xs : List α) (lo hi : Option Int) : List α := (xs.drop (HT.sIx xs.length 0 lo)).take (HT.sIx xs.length xs.length hi - HT.sIx xs.length 0 lo)
theorem Iss.cut {K : PySem.W.Frag} {G : Hp} {vs : List V} {ds : List D} (r : Iss K G vs ds) (lo hi : Option Int) : Iss K G (cutV vs lo hi) (cutL ds lo hi) := by
  unfold cutV cutL
  rw [r.length]
  exact (r.drop _).take _
variable {ss : List S} {e a : Expr} {lo hi : Option Expr} {pos p2 : Pos}
def wO (X : Cx) (e : Option Expr) : TO := fun σ H Q => ∀ pins s, Inv X pins σ H s → wpAny (model X.prog X.w) X.A (evalPart e X.env) (fun u s' => ∃ o H', Inv X pins σ H' s' ∧ IsPart u o ∧ Q o H') X.xe s
theorem po_w {X : Cx} {e : Option Expr} : PO X e (wO X e) := ⟨fun pins s _ _ _ I h => h pins s I⟩
structure WO (Y : Bd) (e : Option Expr) (ss : List S) (M : Mm) (P : Option Int → Mm → Prop) : Prop where
  run : ∀ B σ G H Q, StOk Y B σ G H M ss → (∀ o G' H' M', Tr Y.X.K G H M G' H' M' → P o M' → Q o H') → wO Y.X e σ H Q
instance {Y : Bd} {e : Option Expr} {ss : List S} {M : Mm} {P : Option Int → Mm → Prop} : CoeFun (WO Y e ss M P) fun _ => ∀ B σ G H Q, StOk Y B σ G H M ss → (∀ o G' H' M', Tr Y.X.K G H M G' H' M' → P o M' → Q o H') → wO Y.X e σ H Q := ⟨fun h => h.run⟩
theorem wo_no {R : Option Int → Mm → Prop} (q : R none M) : WO Y none ss M R := .mk fun B σ G H Q st k pins s I => po_none.run pins s σ H Q I (k _ _ _ _ st.refl q)
theorem wo_some {R : Option Int → Mm → Prop} (h : WE Y e ss M fun x M => ∃ i, x = .int i ∧ R (some i) M) : WO Y (some e) ss M R := .mk fun B σ G H Q st k pins s I => (po_some pe_w).run pins s σ H Q I (by
  refine h _ _ _ _ _ st fun v G1 H1 M1 d g r ⟨i, ed, q⟩ => ?_
  subst ed
  cases r
  exact ⟨i, rfl, k _ _ _ _ g q⟩)
theorem cut_whole {α : Type} {xs : List α} {l u : Option Int} (h : HT.sIx xs.length 0 l = 0 ∧ HT.sIx xs.length xs.length u = xs.length) : cutL xs l u = xs := by
  unfold cutL
  rw [h.1, h.2]
  simp
theorem we_slT (h : WE Y e ss M fun x M => WO Y lo ss M fun l M => WO Y hi ss M fun u M => ∃ xs, x = .tup xs ∧ P (.tup (cutL xs l u)) M) : WE Y (.Subscript e (.Slice lo hi none p2) pos) ss M P :=
  we_pe (pe_slice sl_tupA pe_w po_w po_w) fun B σ G H Q st k => by
    refine h _ _ _ _ _ st fun v1 G1 H1 M1 x g1 r1 h1 => ?_
    refine h1 _ _ _ _ _ (st.go g1) fun l G2 H2 M2 g2 h2 => ?_
    refine h2 _ _ _ _ _ ((st.go g1).go g2) fun u G3 H3 M3 g3 ⟨xs, ex, p⟩ => ?_
    subst ex
    cases r1 with
    | @tup b vs _ hx r =>
      have hx3 : SqT Y.X.K G3 b vs := ex_t (g2.gg.trans g3.gg) hx
      have r3 := r.mono (g2.gg.trans g3.gg)
      refine ⟨b, vs, rfl, ex_t g3.gh hx3, fun w => ?_, fun w q hq => ?_⟩
      · rw [r.length] at w
        rw [cut_whole w] at p
        exact k _ _ _ _ _ ((g1.trans g2).trans g3) (.tup hx3 r3) p
      · have g := g3.wd.new (o := .tup (cutV vs l u)) hq
        exact k _ _ _ _ _ (((g1.trans g2).trans g3).trans g) (.tup (SqT.of upd_same) ((r3.mono g.gg).cut l u)) p
theorem we_slL (h : WE Y e ss M fun x M => WO Y lo ss M fun l M => WO Y hi ss M fun u M => ∃ xs, LAt M x xs ∧ NewL P M (cutL xs l u)) : WE Y (.Subscript e (.Slice lo hi none p2) pos) ss M P :=
  we_pe (pe_slice sl_list pe_w po_w po_w) fun B σ G H Q st k => by
    refine h _ _ _ _ _ st fun v1 G1 H1 M1 x g1 r1 h1 => ?_
    refine h1 _ _ _ _ _ (st.go g1) fun l G2 H2 M2 g2 h2 => ?_
    refine h2 _ _ _ _ _ ((st.go g1).go g2) fun u G3 H3 M3 g3 ⟨xs, ex, p⟩ => ?_
    obtain ⟨b, vs, rfl, hx, r⟩ := ex.get g3.wd (r1.mono (g2.gg.trans g3.gg))
    exact ⟨b, vs, rfl, SqL.of hx, fun q hq => p.k ((g1.trans g2).trans g3) hq (r.cut l u) k⟩
/-- the script's slice -/
theorem we_slS (h : WE Y e ss M fun x M => WO Y lo ss M fun l M => WO Y hi ss M fun u M => ∃ xs, x = .scr xs ∧ NewL P M (cutL xs l u)) : WE Y (.Subscript e (.Slice lo hi none p2) pos) ss M P :=
  we_pe (pe_slice sl_list pe_w po_w po_w) fun B σ G H Q st k => by
    refine h _ _ _ _ _ st fun v1 G1 H1 M1 x g1 r1 h1 => ?_
    refine h1 _ _ _ _ _ (st.go g1) fun l G2 H2 M2 g2 h2 => ?_
    refine h2 _ _ _ _ _ ((st.go g1).go g2) fun u G3 H3 M3 g3 ⟨xs, ex, p⟩ => ?_
    subst ex
    cases r1 with
    | @scr b vs _ hx r =>
      have r3 := r.mono (g2.gg.trans g3.gg)
      exact ⟨b, vs, rfl, ex_l (g2.gg.trans (g3.gg.trans g3.gh)) hx, fun q hq => p.k ((g1.trans g2).trans g3) hq (r3.cut l u) k⟩
/-! ### built-ins called by name -/
variable {es : List Expr} {n : Str} {p : Pos}
theorem we_callB {id : String} (h : WA Y (e :: es) ss M fun ds M => OpC Y (.builtin id) ds M P) (hm : Y.X.mg n = none) (hv : bootBuiltins n = some (.builtin id) := by decide +kernel) (hg : Gl Y.X n := by rfl) (hn : n ≠ "__name__" := by decide) (hdb : (n == ("__debug__" : Str)) = false := by decide)
    (he : starEach (e :: es) Y.X.env = (false, eval e Y.X.env) :: starEach es Y.X.env := by rfl) (hpl : (backTo pos (starEach es Y.X.env)).any (·.1) = false := by rfl) : WE Y (.Call (.Name n p) (e :: es) [] pos) ss M P :=
  we_pe (pe_callB callr_any hg hm hv pa_w hn hdb he hpl) fun B σ G H Q st k => by
    refine h _ _ _ _ _ st fun vs G1 H1 M1 ds g1 r1 ⟨r, hr, h1⟩ => ⟨r, hr, ?_⟩
    exact h1 _ _ _ _ (st.go g1).w r1 fun v G' H' M' d g q p => k _ _ _ _ _ (g1.trans g) q p
theorem we_callTy {T : String} (h : WA Y (e :: es) ss M fun ds M => OpC Y (.type T) ds M P) (hm : Y.X.mg n = none) (hv : bootBuiltins n = some (.type T) := by decide +kernel) (hg : Gl Y.X n := by rfl) (hn : n ≠ "__name__" := by decide) (hdb : (n == ("__debug__" : Str)) = false := by decide)
    (he : starEach (e :: es) Y.X.env = (false, eval e Y.X.env) :: starEach es Y.X.env := by rfl) (hpl : (backTo pos (starEach es Y.X.env)).any (·.1) = false := by rfl) : WE Y (.Call (.Name n p) (e :: es) [] pos) ss M P :=
  we_pe (pe_callTy callr_any hg hm hv pa_w hn hdb he hpl) fun B σ G H Q st k => by
    refine h _ _ _ _ _ st fun vs G1 H1 M1 ds g1 r1 ⟨r, hr, h1⟩ => ⟨r, hr, ?_⟩
    exact h1 _ _ _ _ (st.go g1).w r1 fun v G' H' M' d g q p => k _ _ _ _ _ (g1.trans g) q p
theorem iss_one {K : PySem.W.Frag} {G : Hp} {vs : List V} {d : D} (r : Iss K G vs [d]) : ∃ v, vs = [v] ∧ Is K G v d := by
  cases r with
  | cons h r =>
    cases r
    exact ⟨_, rfl, h⟩
theorem iss_two {K : PySem.W.Frag} {G : Hp} {vs : List V} {d e : D} (r : Iss K G vs [d, e]) : ∃ v w, vs = [v, w] ∧ Is K G v d ∧ Is K G w e := by
  cases r with
  | cons h r =>
    obtain ⟨w, rfl, h2⟩ := iss_one r
    exact ⟨_, _, rfl, h, h2⟩
theorem c_len {ds : List D} (hs : SqAt M x ds) (q : P (.int ds.length) M) : OpC Y (.builtin "len") [x] M P :=
  ⟨_, call_len_seq, fun G H vs Q st r k => by
    obtain ⟨v, rfl, h⟩ := iss_one r
    obtain ⟨a, vs, rfl, h, r⟩ := hs.get st h
    exact ⟨_, _, rfl, h.elim .inr (fun h => .inl (SqL.of h)), by rw [r.length]; exact k _ _ _ _ _ st.refl (.int _) q⟩⟩
theorem c_max2 (hc : Y.X.calm = true) (q : P (.int (if j > i then j else i)) M) : OpC Y (.builtin "max") [.int i, .int j] M P :=
  ⟨_, call_max2 hc, fun G H vs Q st r k => by
    obtain ⟨v, w, rfl, h, h2⟩ := iss_two r
    cases h
    cases h2
    exact ⟨i, j, rfl, k _ _ _ _ _ st.refl (.int _) q⟩⟩
theorem c_min2 (hc : Y.X.calm = true) (q : P (.int (if j < i then j else i)) M) : OpC Y (.builtin "min") [.int i, .int j] M P :=
  ⟨_, call_min2 hc, fun G H vs Q st r k => by
    obtain ⟨v, w, rfl, h, h2⟩ := iss_two r
    cases h
    cases h2
    exact ⟨i, j, rfl, k _ _ _ _ _ st.refl (.int _) q⟩⟩
theorem c_maxL {ns : List Int} (hc : Y.X.calm = true) (hx : LAt M x (ns.map D.int)) (hne : 0 < ns.length) (q : ∀ m, m ∈ ns → (∀ y, y ∈ ns → y ≤ m) → P (.int m) M) : OpC Y (.builtin "max") [x] M P :=
  ⟨_, cr_max hc, fun G H vs Q st r k => by
    obtain ⟨v, rfl, h⟩ := iss_one r
    obtain ⟨a, vs, rfl, h, r⟩ := hx.get st h
    have e := iss_ints r
    subst e
    exact ⟨_, ns, rfl, SqL.of h, hne, fun m h1 h2 => k _ _ _ _ _ st.refl (.int m) (q m h1 h2)⟩⟩
theorem c_minL {ns : List Int} (hc : Y.X.calm = true) (hx : LAt M x (ns.map D.int)) (hne : 0 < ns.length) (q : ∀ m, m ∈ ns → (∀ y, y ∈ ns → m ≤ y) → P (.int m) M) : OpC Y (.builtin "min") [x] M P :=
  ⟨_, cr_min hc, fun G H vs Q st r k => by
    obtain ⟨v, rfl, h⟩ := iss_one r
    obtain ⟨a, vs, rfl, h, r⟩ := hx.get st h
    have e := iss_ints r
    subst e
    exact ⟨_, ns, rfl, SqL.of h, hne, fun m h1 h2 => k _ _ _ _ _ st.refl (.int m) (q m h1 h2)⟩⟩
theorem iss_bools {K : PySem.W.Frag} {G : Hp} : ∀ {ns : List Bool} {vs : List V}, Iss K G vs (ns.map D.bl) → vs = ns.map V.bl
  | [], _, h => by cases h; rfl
  | n :: ns, _, h => by
    rw [List.map_cons] at h
    cases h with
    | cons h r =>
      cases h
      rw [List.map_cons, iss_bools r]
theorem c_all {ns : List Bool} (hc : Y.X.calm = true) (hx : LAt M x (ns.map D.bl)) (q : P (.bl (ns.all id)) M) : OpC Y (.builtin "all") [x] M P :=
  ⟨_, cr_all hc, fun G H vs Q st r k => by
    obtain ⟨v, rfl, h⟩ := iss_one r
    obtain ⟨a, vs, rfl, h, r⟩ := hx.get st h
    have e := iss_bools r
    subst e
    exact ⟨_, ns, rfl, SqL.of h, k _ _ _ _ _ st.refl (.bl _) q⟩⟩
theorem c_any {ns : List Bool} (hc : Y.X.calm = true) (hx : LAt M x (ns.map D.bl)) (q : P (.bl (ns.any id)) M) : OpC Y (.builtin "any") [x] M P :=
  ⟨_, cr_any hc, fun G H vs Q st r k => by
    obtain ⟨v, rfl, h⟩ := iss_one r
    obtain ⟨a, vs, rfl, h, r⟩ := hx.get st h
    have e := iss_bools r
    subst e
    exact ⟨_, ns, rfl, SqL.of h, k _ _ _ _ _ st.refl (.bl _) q⟩⟩
theorem c_sum {ns : List Int} (hc : Y.X.calm = true) (hx : LAt M x (ns.map D.int)) (q : P (.int ns.sum) M) : OpC Y (.builtin "sum") [x] M P :=
  ⟨_, cr_sum hc, fun G H vs Q st r k => by
    obtain ⟨v, rfl, h⟩ := iss_one r
    obtain ⟨a, vs, rfl, h, r⟩ := hx.get st h
    have e := iss_ints r
    subst e
    exact ⟨_, ns, rfl, SqL.of h, k _ _ _ _ _ st.refl (.int _) q⟩⟩
theorem c_abs (q : P (.int (if i < 0 then -i else i)) M) : OpC Y (.builtin "abs") [.int i] M P :=
  ⟨_, call_abs, fun G H vs Q st r k => by
    obtain ⟨v, rfl, h⟩ := iss_one r
    cases h
    exact ⟨i, rfl, k _ _ _ _ _ st.refl (.int _) q⟩⟩
theorem c_int (q : P (.int i) M) : OpC Y (.type "int") [.int i] M P :=
  ⟨_, call_int1, fun G H vs Q st r k => by
    obtain ⟨v, rfl, h⟩ := iss_one r
    cases h
    exact .inl ⟨i, rfl, k _ _ _ _ _ st.refl (.int _) q⟩⟩
theorem c_intB {b : Bool} (q : P (.int (if b then 1 else 0)) M) : OpC Y (.type "int") [.bl b] M P :=
  ⟨_, call_int1, fun G H vs Q st r k => by
    obtain ⟨v, rfl, h⟩ := iss_one r
    cases h
    exact .inr ⟨b, rfl, k _ _ _ _ _ st.refl (.int _) q⟩⟩
theorem c_tup {ds : List D} (hs : SqAt M x ds) (q : P (.tup ds) M) : OpC Y (.type "tuple") [x] M P :=
  ⟨_, call_tuple_of, fun G H vs Q st r k => by
    obtain ⟨v, rfl, h⟩ := iss_one r
    rcases hs with rfl | hs
    · cases h with
      | @tup a ws _ h r => exact ⟨_, _, rfl, .inr ⟨ex_t st.gh h, k _ _ _ _ _ st.refl (.tup h r) q⟩⟩
    · obtain ⟨a, vs, rfl, h, r⟩ := hs.get st h
      refine ⟨_, _, rfl, .inl ⟨SqL.of h, fun l hl => ?_⟩⟩
      have g := st.new (o := .tup vs) hl
      exact k _ _ _ _ _ g (.tup (SqT.of upd_same) (r.mono g.gg)) q⟩
theorem c_lst {ds : List D} (hs : SqAt M x ds) (q : NewL P M ds) : OpC Y (.type "list") [x] M P :=
  ⟨_, call_list_of, fun G H vs Q st r k => by
    obtain ⟨v, rfl, h⟩ := iss_one r
    obtain ⟨a, vs, rfl, h, r⟩ := hs.get st h
    exact ⟨_, _, rfl, h.elim .inr (fun h => .inl (SqL.of h)), fun l hl => q.k st.refl hl r k⟩⟩
/-- sorted ints -/
def srtI (ns : List Int) : List Int := ns.mergeSort fun a b => decide (a ≤ b)
theorem srtI_perm (ns : List Int) : (srtI ns).Perm ns := List.mergeSort_perm ..
theorem srtI_pw (ns : List Int) : (srtI ns).Pairwise (· ≤ ·) := by
  have h := List.pairwise_mergeSort (le := fun a b : Int => decide (a ≤ b)) (fun a b c h1 h2 => by simp only [decide_eq_true_eq] at *; omega) (fun a b => by simp only [Bool.or_eq_true, decide_eq_true_eq]; omega) ns
  exact h.imp fun h => by simpa using h
theorem srt_unique {a b : List Int} (p : a.Perm b) (ha : a.Pairwise (· ≤ ·)) (hb : b.Pairwise (· ≤ ·)) : a = b := p.eq_of_pairwise (fun x y _ _ h1 h2 => Int.le_antisymm h1 h2) ha hb
theorem c_sorted {ns : List Int} (hx : LAt M x (ns.map D.int)) (q : NewL P M ((srtI ns).map D.int)) : OpC Y (.builtin "sorted") [x] M P :=
  ⟨_, cr_sortedI, fun G H vs Q st r k => by
    obtain ⟨v, rfl, h⟩ := iss_one r
    obtain ⟨a, vs, rfl, h, r⟩ := hx.get st h
    have e := iss_ints r
    subst e
    refine ⟨_, ns, rfl, SqL.of h, fun ns' p hp hs hn => ?_⟩
    have e : ns' = srtI ns := srt_unique (hp.trans (srtI_perm ns).symm) hs (srtI_pw ns)
    subst e
    exact q.k st.refl hn iss_of_ints k⟩
/-! ### isinstance -/
/-- an own class, as isinstance asks of its instances -/
structure ClsI (K : PySem.W.Frag) (C : Addr) : Prop where
  cl : Cls K C
  ha : PySem.W.findIn K (.ref C) "__class__" = some (some (.builtin "object.__class__"))
  hn : PySem.W.specialIn K (.builtin "object.__class__") "__get__" = some (some (.builtin "getset_descriptor.__get__"))
  htk : PySem.W.takesIn K (.builtin "object.__class__") = some true
  hm : PySem.W.mroIn K C (.type "object") = some true
/-- the class of data -/
def TyD (K : PySem.W.Frag) : D → Value → Prop
  | .non, t => t = .type "NoneType"
  | .bl _, t => t = .type "bool"
  | .int _, t => t = .type "int"
  | .str _, t => t = .type "str"
  | .tup _, t => t = .type "tuple"
  | .lst _, t => t = .type "list"
  | .obj C _, t => t = .ref C ∧ ClsI K C
  | .adr _, _ => False
  | .scr _, _ => False
  | .clo _ _, _ => False
theorem TyD.is {K : PySem.W.Frag} {G H : Hp} {v : V} {d : D} {t : Value} (e : Ex G H) (r : Is K G v d) (h : TyD K d t) : TyX K H v t := by
  cases r with
  | non => subst h; exact .base .non
  | bl b => subst h; exact .base (.bl b)
  | int b => subst h; exact .base (.int b)
  | str b => subst h; exact .base (.str b)
  | tup hx r =>
    subst h
    rcases ex_t e hx with (hx | ⟨o, hx⟩) | ⟨o, its, n, hk, hc, _⟩
    · exact .base (.tup hx)
    · exact .fTuple hx
    · exact .kTuple hk hc
  | lst hx r => subst h; exact .base (.lst (e _ _ hx))
  | obj hx r =>
    obtain ⟨rfl, c⟩ := h
    exact .base (.ins (e _ _ hx) c.cl c.ha c.hn c.htk c.hm)
  | adr v => exact h.elim
  | scr hx r => exact h.elim
  | clo hx r => exact h.elim
theorem c_isi {d : D} {c : V} {t u : Value} {b : Bool} (hc : ClsV c u) (ht : TyD Y.X.K d t) (hk : PySem.W.kitOne Y.X.K t u = some b) (q : P (.bl b) M) : OpC Y (.builtin "isinstance") [d, .adr c] M P :=
  ⟨_, call_isi, fun G H vs Q st r k => by
    obtain ⟨v, w, rfl, h, h2⟩ := iss_two r
    cases h2
    exact ⟨v, c, t, u, b, rfl, hc, ht.is st.gh h, hk, k _ _ _ _ _ st.refl (.bl b) q⟩⟩
/-! ### repr, where no list is being shown around -/
theorem cr_repr {X : Cx} (hg : X.A.guards = some []) : CallR X (.builtin "repr") fun vs H Q => ∃ a d, vs = [.ref a] ∧ Dp X.K H (.ref a) d ∧ d.showable = true ∧ d.hasDict = false ∧ X.A.units + (d.depth + 1) < cLine ∧ d.shown.length ≤ sizeLine ∧ Q (.str d.shown) H := by
  intro pins s σ H vs us Q I r h
  obtain ⟨a, d, rfl, dp, sh, nd, hu, hz, q⟩ := h
  cases r with
  | @cons _ u _ us' h1 h2 =>
    cases h2
    obtain rfl : u = Value.ref a := h1
    obtain ⟨as, rd⟩ := Dp.reads I d _ _ dp rfl
    refine repr_of_reads' rd sh (fun z => by rw [nd] at z; cases z) hg hu (fun _ _ e => e) (fun h' u tk hk => ?_) hz
    exact ⟨V.str d.shown, H, I.kept (t' := tk) hk, ⟨u, rfl⟩, q⟩
theorem c_repr {d : D} (hg : Y.X.A.guards = some []) (hp : plainD d = true) (hk : (∃ ds, d = .tup ds) ∨ ∃ ds, d = .lst ds) (sh : (pyD d).showable = true) (nd : (pyD d).hasDict = false) (hu : Y.X.A.units + ((pyD d).depth + 1) < cLine) (hz : (pyD d).shown.length ≤ sizeLine) (q : P (.str (pyD d).shown) M) : OpC Y (.builtin "repr") [d] M P :=
  ⟨_, cr_repr hg, fun G H vs Q st r k => by
    obtain ⟨v, rfl, h⟩ := iss_one r
    have dp := h.dp st.gh hp
    have hv : ∃ a, v = .ref a := by
      rcases hk with ⟨ds, rfl⟩ | ⟨ds, rfl⟩ <;> cases h <;> exact ⟨_, rfl⟩
    obtain ⟨a, rfl⟩ := hv
    exact ⟨a, _, rfl, dp, sh, nd, hu, hz, k _ _ _ _ _ st.refl (.str _) q⟩⟩
end
end JQ

set_option Elab.async false
set_option linter.all false
set_option maxRecDepth 100000
set_option maxHeartbeats 2000000
/-! Statements. -/
namespace JQ
open PySem PySem.Spec PyProof.Rows L2
open Evl (Ex ex_l ex_t)
section
variable {Y : Bd} {ss : List S} {M : Mm} {N : DE} {P : D → Mm → Prop} {e a b c o : Expr} {es : List Expr} {st : Stmt} {rest sts : List Stmt} {pos : Pos}
theorem ws_ps {t : TS} (h : PS Y.X st t) (q : ∀ B σ G H E, StOk Y B σ G H M ss → EndsOk Y B N E → t E σ H) : WS Y st ss M N := .mk fun B σ G H E so eo pins s I => h.run pins s σ H E I (q B σ G H E so eo)
theorem wss_nil (q : N.nx ss M) : WSs Y [] ss M N := .mk fun B σ G H E so eo pins s I => pss_nil.run pins s σ H E I (eo.nx _ _ _ _ _ so q)
theorem wss_cons (h : WS Y st ss M { N with nx := fun ss' M' => WSs Y rest ss' M' N }) : WSs Y (st :: rest) ss M N := .mk fun B σ G H E so eo pins s I =>
  (pss_cons ps_w pss_w).run pins s σ H E I (h _ _ _ _ _ so ⟨fun σ' G' H' M' ss' so' q => q _ _ _ _ _ so' eo, eo.rt, eo.bk, eo.ct⟩)
theorem wss_one (h : WS Y st ss M N) : WSs Y [st] ss M N := .mk fun B σ G H E so eo pins s I => (pss_one ps_w).run pins s σ H E I (h _ _ _ _ _ so eo)
theorem WS.mono {N' : DE} (h : WS Y st ss M N) (h1 : ∀ s m, N.nx s m → N'.nx s m) (h2 : ∀ s m, N.rt s m → N'.rt s m) (h3 : ∀ s m, N.bk s m → N'.bk s m) (h4 : ∀ s m, N.ct s m → N'.ct s m) : WS Y st ss M N' := .mk fun B σ G H E so eo =>
  h B σ G H E so ⟨fun σ G H M s so q => eo.nx _ _ _ _ _ so (h1 _ _ q), fun v G H M d t r q => eo.rt _ _ _ _ _ t r (h2 _ _ q), fun σ G H M s so q => eo.bk _ _ _ _ _ so (h3 _ _ q), fun σ G H M s so q => eo.ct _ _ _ _ _ so (h4 _ _ q)⟩
theorem WSs.mono {N' : DE} (h : WSs Y sts ss M N) (h1 : ∀ s m, N.nx s m → N'.nx s m) (h2 : ∀ s m, N.rt s m → N'.rt s m) (h3 : ∀ s m, N.bk s m → N'.bk s m) (h4 : ∀ s m, N.ct s m → N'.ct s m) : WSs Y sts ss M N' := .mk fun B σ G H E so eo =>
  h B σ G H E so ⟨fun σ G H M s so q => eo.nx _ _ _ _ _ so (h1 _ _ q), fun v G H M d t r q => eo.rt _ _ _ _ _ t r (h2 _ _ q), fun σ G H M s so q => eo.bk _ _ _ _ _ so (h3 _ _ q), fun σ G H M s so q => eo.ct _ _ _ _ _ so (h4 _ _ q)⟩
theorem ws_pass (q : N.nx ss M) : WS Y (.Pass pos) ss M N := ws_ps ps_pass fun B σ G H E so eo => eo.nx _ _ _ _ _ so q
theorem ws_break (q : N.bk ss M) : WS Y (.Break pos) ss M N := ws_ps ps_break fun B σ G H E so eo => eo.bk _ _ _ _ _ so q
theorem ws_cont (q : N.ct ss M) : WS Y (.Continue pos) ss M N := ws_ps ps_continue fun B σ G H E so eo => eo.ct _ _ _ _ _ so q
theorem ws_ret (h : WE Y e ss M N.rt) : WS Y (.Return (some e) pos) ss M N := ws_ps (ps_ret pe_w) fun B σ G H E so eo => h _ _ _ _ _ so fun v G' H' M' d g r q => eo.rt _ _ _ _ _ (so.t.trans g) r q
theorem ws_retN (q : N.rt .non M) : WS Y (.Return none pos) ss M N := ws_ps ps_retN fun B σ G H E so eo => eo.rt _ _ _ _ _ so.t .non q
theorem ws_expr (h : WE Y e ss M fun _ M => N.nx ss M) (hs : swapsWith e none pos.line Y.X.env = pure false := by rfl) : WS Y (.Expr e pos) ss M N := ws_ps (ps_expr pe_w hs) fun B σ G H E so eo => h _ _ _ _ _ so fun v G' H' M' d g r q => eo.nx _ _ _ _ _ (so.go g) q
theorem ws_if {ts fs : List Stmt} (h : WT Y c ss M fun k M => if k = true then WSs Y ts ss M N else WSs Y fs ss M N) : WS Y (.If c ts fs pos) ss M N := ws_ps (ps_if pt_w pss_w pss_w) fun B σ G H E so eo => by
  refine h _ _ _ _ _ so fun kk G' H' M' g q => ?_
  cases kk with
  | true => exact (ifT q).run _ _ _ _ _ (so.go g) eo
  | false => exact (ifF q).run _ _ _ _ _ (so.go g) eo
/-- name = value -/
theorem ws_set (i : Nat) {x : Str} {pos' : Pos} (hN : Y.X.N.Nodup) (h : WE Y e ss M fun d M => N.nx (ss.set i (some d)) M) (hi : Y.X.N[i]? = some x := by rfl) (hx : Loc Y.X.env.scope x := by first | exact .inl rfl | exact .inr rfl) (hs : swapsWith e (some (.Name x pos')) pos.line Y.X.env = pure false := by rfl)
    (hf : Y.X.fn x = true ∨ Y.X.env.scope.names.lookup x = some .local := by first | exact .inl rfl | exact .inr rfl) : WS Y (.Assign [.Name x pos'] e pos) ss M N :=
  ws_ps (ps_set hN hi hx pe_w hs hf) fun B σ G H E so eo => h _ _ _ _ _ so fun v G' H' M' d g r q => eo.nx _ _ _ _ _ ((so.go g).set r i) q
/-- name op= value -/
theorem ws_aug (i : Nat) {x : Str} {op : Operator} {pos' : Pos} {d0 : D} (hN : Y.X.N.Nodup) (h0 : ss[i]? = some (some d0)) (h : WE Y e ss M fun d M => Op2 Y (inplaceOp op) d0 d M fun z M => N.nx (ss.set i (some z)) M) (hi : Y.X.N[i]? = some x := by rfl) (hx : Loc Y.X.env.scope x := by first | exact .inl rfl | exact .inr rfl)
    (hf : Y.X.fn x = true ∨ Y.X.env.scope.names.lookup x = some .local := by first | exact .inl rfl | exact .inr rfl) : WS Y (.AugAssign (.Name x pos') op e pos) ss M N :=
  ws_ps (ps_aug hN hi hx pe_w (ti := anyR Y.X (inplaceOp op)) (fun pins s σ H x y v u Q I rx ry h => opr_any pins s σ H x y v u Q I rx ry h) hf) fun B σ G H E so eo => by
    obtain ⟨v, ev, rv⟩ := so.slot h0
    refine ⟨v, ev, ?_⟩
    refine h _ _ _ _ _ so fun u G1 H1 M1 d g r ⟨rr, hr, h1⟩ => ⟨rr, hr, ?_⟩
    exact h1 _ _ _ _ _ (so.go g).w (rv.mono g.gg) r fun z G2 H2 M2 d2 g2 r2 q => eo.nx _ _ _ _ _ (((so.go g).go g2).set r2 i) q
theorem oi_add {i j : Int} (q : P (.int (i + j)) M) : Op2 Y (inplaceOp .Add) (.int i) (.int j) M P := o2_I0 iop_add (fun _ _ => .int _) q
theorem oi_sub {i j : Int} (q : P (.int (i - j)) M) : Op2 Y (inplaceOp .Sub) (.int i) (.int j) M P := o2_I0 iop_sub (fun _ _ => .int _) q
/-! ### targets -/
theorem wg_name (i : Nat) {x : Str} {d : D} {Q : List S → Mm → Prop} (hN : Y.X.N.Nodup) (q : Q (ss.set i (some d)) M) (hi : Y.X.N[i]? = some x := by rfl) (hx : Loc Y.X.env.scope x := by first | exact .inl rfl | exact .inr rfl) (hf : Y.X.fn x = true ∨ Y.X.env.scope.names.lookup x = some .local := by first | exact .inl rfl | exact .inr rfl) :
    WG Y (.Name x pos) [i] d ss M Q := .mk fun B σ G H v R so r k pins s u I rv => (pg_name hN hi hx hf).run pins s σ H v u R I rv (k _ _ _ _ _ (so.set r i) so.refl ⟨by simp, fun j hj => by
      rw [List.getElem?_set_ne]
      intro e
      exact hj (by simp [e])⟩ q)
/-- o[i] = value, o a list that may change -/
theorem wg_ix {d : D} {Q : List S → Mm → Prop} (h : WE Y o ss M fun x M => WE Y e ss M fun y M => ∃ p ds i j, x = .rf p ∧ y = .int i ∧ M p = some (.lst ds) ∧ ixN ds.length i = some j ∧ Q ss (mup M p (.lst (ds.set j d))))
    (ha : ∀ v, assign (.Subscript o e pos) Y.X.env v = (do
      let ov ← holding [v] (eval o Y.X.env)
      let iv ← holding [v, ov] (eval e Y.X.env)
      standAt pos
      holding [v, ov, iv] (setItem ov iv v)
      release [v, ov, iv] []) := by intro _; rfl) : WG Y (.Subscript o e pos) [] d ss M Q :=
  .mk fun B σ G H v R so r k pins s u I rv => (pg_sub pe_w pe_w set_list ha).run pins s σ H v u R I rv (by
    refine h _ _ _ _ _ so fun v1 G1 H1 M1 x g1 r1 h1 => ?_
    refine h1 _ _ _ _ _ (so.go g1) fun v2 G2 H2 M2 y g2 r2 ⟨p, ds, i, j, ex, ey, em, ix, q⟩ => ?_
    subst ex ey
    cases r1
    cases r2
    obtain ⟨_, u, hu, ob⟩ := g2.wd.mo _ _ em
    obtain ⟨vs, rfl, rl⟩ := ob.lst
    refine ⟨p, vs, i, j, rfl, rfl, hu, by rw [rl.length]; exact ix, ?_⟩
    have g12 := g1.trans g2
    have g3 := g2.wd.put em (o := .lst (vs.set j v)) (b := .lst (ds.set j d)) (rl.set (r.mono g12.gg) j)
    exact k _ _ _ _ _ (so.go (g12.trans g3)) (g12.trans g3) But'.rfl q)
/-- what several targets take -/
def wGs (X : Cx) (ts : List Expr) : TGs := fun vs σ H Q => ∀ pins s us, Inv X pins σ H s → Vals vs us → wpAny (model X.prog X.w) X.A (assignInOrder ((assignEach ts X.env).map (·.2)) us) (fun _ s' => ∃ σ' H', Inv X pins σ' H' s' ∧ Q σ' H') X.xe s
theorem pgs_w {X : Cx} {ts : List Expr} : PGs X ts (wGs X ts) := ⟨fun pins s _ _ _ us _ I r h => h pins s us I r⟩
structure WGs (Y : Bd) (ts : List Expr) (T : List Nat) (ds : List D) (ss : List S) (M : Mm) (P : List S → Mm → Prop) : Prop where
  run : ∀ B σ G H vs Q, StOk Y B σ G H M ss → Iss Y.X.K G vs ds → (∀ σ' G' H' M' ss', StOk Y B σ' G' H' M' ss' → Tr Y.X.K G H M G' H' M' → But' T σ σ' → P ss' M' → Q σ' H') → wGs Y.X ts vs σ H Q
instance {Y : Bd} {ts : List Expr} {T : List Nat} {ds : List D} {ss : List S} {M : Mm} {P : List S → Mm → Prop} : CoeFun (WGs Y ts T ds ss M P) fun _ => ∀ B σ G H vs Q, StOk Y B σ G H M ss → Iss Y.X.K G vs ds → (∀ σ' G' H' M' ss', StOk Y B σ' G' H' M' ss' → Tr Y.X.K G H M G' H' M' → But' T σ σ' → P ss' M' → Q σ' H') → wGs Y.X ts vs σ H Q := ⟨fun h => h.run⟩
theorem wgs_nil {Q : List S → Mm → Prop} (q : Q ss M) : WGs Y [] [] [] ss M Q := .mk fun B σ G H vs R so r k pins s us I rv => pgs_nil.run pins s σ H vs us R I rv (by
  cases r
  exact ⟨rfl, k _ _ _ _ _ so so.refl But'.rfl q⟩)
theorem wgs_cons {T T' : List Nat} {d : D} {ds : List D} {Q : List S → Mm → Prop} (h : WG Y e T d ss M fun ss' M' => WGs Y es T' ds ss' M' Q) (hs : (assignEach (e :: es) Y.X.env).map (·.2) = assign e Y.X.env :: (assignEach es Y.X.env).map (·.2) := by rfl) : WGs Y (e :: es) (T ++ T') (d :: ds) ss M Q := .mk fun B σ G H vs R so r k pins s us I rv =>
  (pgs_cons pg_w pgs_w hs).run pins s σ H vs us R I rv (by
    cases r with
    | cons r1 r2 =>
      refine ⟨_, _, rfl, ?_⟩
      refine h _ _ _ _ _ _ so r1 fun σ1 G1 H1 M1 ss1 so1 g1 b1 q1 => ?_
      exact q1 _ _ _ _ _ _ so1 (r2.mono g1.gg) fun σ' G' H' M' ss' so' g' b' q' => k _ _ _ _ _ so' (g1.trans g') ⟨b'.1.trans b1.1, fun j hj => by
        rw [b'.2 j (fun z => hj (List.mem_append_right _ z)), b1.2 j (fun z => hj (List.mem_append_left _ z))]⟩ q')
theorem wg_tup {T : List Nat} {kk : Nat} {ds : List D} {Q : List S → Mm → Prop} (hc : Y.X.calm = true) (h : WGs Y es T ds ss M Q) (hn : (assignEach es Y.X.env).length = ds.length := by rfl) (hst : (assignEach es Y.X.env).findIdx? (·.1) = none := by rfl) : WG Y (.Tuple es kk pos) T (.tup ds) ss M Q :=
  .mk fun B σ G H v R so r k pins s u I rv => (pg_tup (n := ds.length) hc pgs_w hn hst).run pins s σ H v u R I rv (by
    cases r with
    | tup hx r => exact ⟨_, _, rfl, ex_t so.gh hx, r.length, h _ _ _ _ _ _ so r k⟩)
/-- targets = e -/
theorem ws_asg {T : List Nat} {tg : Expr} (h : WE Y e ss M fun d M => WG Y tg T d ss M N.nx) (hs : swapsWithSole [tg] e pos.line Y.X.env = pure false := by rfl) (hw : swappedStores [tg] e Y.X.env = pure none := by rfl) (h1 : (assignEach [tg] Y.X.env).map (·.2) = [assign tg Y.X.env] := by rfl) : WS Y (.Assign [tg] e pos) ss M N :=
  ws_ps (ps_asg pe_w pg_w hs hw h1) fun B σ G H E so eo => h _ _ _ _ _ so fun v G1 H1 M1 d g r q => q _ _ _ _ _ _ (so.go g) r fun σ' G' H' M' ss' so' g' b' q' => eo.nx _ _ _ _ _ so' q'
/-- a, b = x, y, two local names -/
theorem ws_par (i j : Nat) {x y : Str} {px py pt : Pos} {kt k2 pt2} (hc : Y.X.calm = true) (hN : Y.X.N.Nodup) (h : WA Y [a, b] ss M fun ds M => ∃ d d', ds = [d, d'] ∧ N.nx ((ss.set i (some d)).set j (some d')) M) (hi : Y.X.N[i]? = some x := by rfl) (hj : Y.X.N[j]? = some y := by rfl) (hij : i ≠ j := by decide)
    (hx : Y.X.env.scope.names.lookup x = some .local := by rfl) (hy : Y.X.env.scope.names.lookup y = some .local := by rfl) (hw : swappedStores [.Tuple [.Name x px, .Name y py] kt pt] (.Tuple [a, b] k2 pt2) Y.X.env = pure (some [x, y]) := by rfl)
    (hs : swapsWithSole [.Tuple [.Name x px, .Name y py] kt pt] (.Tuple [a, b] k2 pt2) pos.line Y.X.env = pure false := by rfl) : WS Y (.Assign [.Tuple [.Name x px, .Name y py] kt pt] (.Tuple [a, b] k2 pt2) pos) ss M N :=
  ws_ps (ps_par hc hN hi hj hij hx hy pa_w hw hs) fun B σ G H E so eo => by
    refine h _ _ _ _ _ so fun vs G1 H1 M1 ds g r ⟨d, d', ed, q⟩ => ?_
    subst ed
    obtain ⟨v, w, rfl, r1, r2⟩ := iss_two r
    exact ⟨v, w, rfl, eo.nx _ _ _ _ _ (((so.go g).set r1 i).set r2 j) q⟩
/-! ### fields -/
/-- o.f = value -/
theorem ws_fld {f : Str} {pos' : Pos} (h : WE Y e ss M fun d M => WE Y o ss M fun x M => ∃ p C fs, x = .rf p ∧ M p = some (.ins C fs) ∧ Cls Y.X.K C ∧ NoAttr Y.X.K C f ∧ fs.length < 1000 ∧ N.nx ss (mup M p (.ins C (putD f d fs)))) (hs : swapsWith e (some (.Attribute o f pos')) pos.line Y.X.env = pure false := by rfl) :
    WS Y (.Assign [.Attribute o f pos'] e pos) ss M N := ws_ps (ps_fld pe_w pe_w hs) fun B σ G H E so eo => by
  refine h _ _ _ _ _ so fun v1 G1 H1 M1 d g1 r1 h1 => ?_
  refine h1 _ _ _ _ _ (so.go g1) fun v2 G2 H2 M2 x g2 r2 ⟨p, C, fs, ex, em, cl, na, hl, q⟩ => ?_
  subst ex
  cases r2
  obtain ⟨_, u, hu, ob⟩ := g2.wd.mo _ _ em
  obtain ⟨dx, vs, rfl, rf⟩ := ob.ins
  refine ⟨p, C, dx, vs, rfl, hu, cl, na, by rw [rf.length]; exact hl, ?_⟩
  have g3 := g2.wd.put em (o := .ins C dx (putF f v1 vs)) (b := .ins C (putD f d fs)) ⟨rfl, rf.put (r1.mono g2.gg)⟩
  exact eo.nx _ _ _ _ _ (so.go ((g1.trans g2).trans g3)) q
/-- o.f op= value -/
theorem ws_fldaug {f : Str} {op : Operator} {tpos : Pos} (h : WE Y o ss M fun x M => ∃ p C fs d0, x = .rf p ∧ M p = some (.ins C fs) ∧ Cls Y.X.K C ∧ NoAttr Y.X.K C f ∧ fs.lookup f = some d0 ∧ WE Y e ss M fun y M => Op2 Y (inplaceOp op) d0 y M fun z M => ∃ fs', M p = some (.ins C fs') ∧ fs'.length < 1000 ∧ N.nx ss (mup M p (.ins C (putD f z fs')))) :
    WS Y (.AugAssign (.Attribute o f tpos) op e pos) ss M N := ws_ps (ps_fldaug pe_w pe_w (rd := anyR Y.X (inplaceOp op)) (fun pins s σ H x y u v Q I rx ry h => opr_any pins s σ H x y u v Q I rx ry h)) fun B σ G H E so eo => by
  refine h _ _ _ _ _ so fun v1 G1 H1 M1 x g1 r1 ⟨p, C, fs, d0, ex, em, cl, na, lk, h1⟩ => ?_
  subst ex
  cases r1
  obtain ⟨_, u, hu, ob⟩ := g1.wd.mo _ _ em
  obtain ⟨dx, vs, rfl, rf⟩ := ob.ins
  obtain ⟨y, l2, r2⟩ := rf.look lk
  refine ⟨p, C, dx, vs, y, rfl, hu, cl, na, l2, ?_⟩
  refine h1 _ _ _ _ _ (so.go g1) fun v2 G2 H2 M2 d2 g2 r3 ⟨rr, hr, h2⟩ => ⟨rr, hr, ?_⟩
  refine h2 _ _ _ _ _ (so.go (g1.trans g2)).w (r2.mono g2.gg) r3 fun v3 G3 H3 M3 z g3 r4 ⟨fs', em3, hl, q⟩ => ?_
  obtain ⟨_, u3, hu3, ob3⟩ := g3.wd.mo _ _ em3
  obtain ⟨dx', vs', rfl, rf'⟩ := ob3.ins
  refine ⟨dx', vs', hu3, by rw [rf'.length]; exact hl, ?_⟩
  have g4 := g3.wd.put em3 (o := .ins C dx' (putF f v3 vs')) (b := .ins C (putD f z fs')) ⟨rfl, rf'.put r4⟩
  exact eo.nx _ _ _ _ _ (so.go (((g1.trans g2).trans g3).trans g4)) q
/-! ### methods of lists -/
/-- what a method of a list that may change does -/
structure OpM (Y : Bd) (id : String) (p : Addr) (ds : List D) (M : Mm) (P : D → Mm → Prop) : Prop where
  ex : ∃ r, MtR Y.X id r ∧ ∀ G H ws Q, Wd Y.X.K G H M → Iss Y.X.K G ws ds → Kon Y G H M P Q → r (.ref p) ws H Q
def anyM (X : Cx) (id : String) : V → List V → Hp → VK → Prop := fun x xs H Q => ∃ r, MtR X id r ∧ r x xs H Q
theorem mtr_any {X : Cx} {id : String} : MtR X id (anyM X id) := fun pins s σ H x xs v us Q I r1 r2 h => by
  obtain ⟨r, hr, h⟩ := h
  exact hr pins s σ H x xs v us Q I r1 r2 h
theorem we_lm {name : Str} {id : String} {apos cpos : Pos} (slot : Slot "list" name id) (hty : typeOf (.builtin id) = pure (.type "method_descriptor"))
    (h : WE Y o ss M fun x M => ∃ p, x = .rf p ∧ (∃ xs, M p = some (.lst xs)) ∧ WA Y (e :: es) ss M fun ds M => OpM Y id p ds M P)
    (hbase : attributeBase o name Y.X.env (eval o Y.X.env) = eval o Y.X.env := by rfl)
    (hfew : ((backTo cpos (starEach (e :: es) Y.X.env)).all (fun x => !x.1) && (backToKw cpos (keywordEach [] Y.X.env)).all (fun x => x.1.isSome) && decide ((e :: es).length + ([] : List Keyword).length + (if ([] : List Keyword).isEmpty then 0 else 1) < 30)) = true := by rfl)
    (hline : (apos.endLine == cpos.line) = true := by rfl) (hs : starEach (e :: es) Y.X.env = (false, eval e Y.X.env) :: starEach es Y.X.env := by rfl) (hplain : (backTo cpos (starEach es Y.X.env)).any (·.1) = false := by rfl) :
    WE Y (.Call (.Attribute o name apos) (e :: es) [] cpos) ss M P := we_pe (pe_bm PySem.F.plainAttrs_list slot hty mtr_any pe_w pa_w hbase hfew hline hs hplain) fun B σ G H Q st k => by
  refine h _ _ _ _ _ st fun v1 G1 H1 M1 x g1 r1 ⟨p, ex, ⟨xs, em⟩, h1⟩ => ?_
  subst ex
  cases r1
  obtain ⟨_, u, hu, ob⟩ := g1.wd.mo _ _ em
  obtain ⟨vs, rfl, rl⟩ := ob.lst
  refine ⟨.inl ⟨rfl, _, SqL.of hu⟩, ?_⟩
  refine h1 _ _ _ _ _ (st.go g1) fun ws G2 H2 M2 ds g2 r2 ⟨r, hr, h2⟩ => ⟨r, hr, ?_⟩
  exact h2 _ _ _ _ (st.go (g1.trans g2)).w r2 fun v G' H' M' d g r q => k _ _ _ _ _ ((g1.trans g2).trans g) r q
theorem we_lm0 {name : Str} {id : String} {apos cpos : Pos} (slot : Slot "list" name id) (hty : typeOf (.builtin id) = pure (.type "method_descriptor"))
    (h : WE Y o ss M fun x M => ∃ p, x = .rf p ∧ (∃ xs, M p = some (.lst xs)) ∧ OpM Y id p [] M P)
    (hbase : attributeBase o name Y.X.env (eval o Y.X.env) = eval o Y.X.env := by rfl) (hline : (apos.endLine == cpos.line) = true := by rfl) :
    WE Y (.Call (.Attribute o name apos) [] [] cpos) ss M P := we_pe (pe_bm0 PySem.F.plainAttrs_list slot hty mtr_any pe_w hbase hline) fun B σ G H Q st k => by
  refine h _ _ _ _ _ st fun v1 G1 H1 M1 x g1 r1 ⟨p, ex, ⟨xs, em⟩, r, hr, h1⟩ => ?_
  subst ex
  cases r1
  obtain ⟨_, u, hu, ob⟩ := g1.wd.mo _ _ em
  obtain ⟨vs, rfl, rl⟩ := ob.lst
  exact ⟨.inl ⟨rfl, _, SqL.of hu⟩, r, hr, h1 _ _ _ _ (st.go g1).w .nil fun v G' H' M' d g r q => k _ _ _ _ _ (g1.trans g) r q⟩
theorem m_append {p : Addr} {xs : List D} {d : D} (em : M p = some (.lst xs)) (hz : xs.length < sizeLine) (q : P .non (mup M p (.lst (xs ++ [d])))) : OpM Y "list.append" p [d] M P :=
  ⟨_, mt_append, fun G H ws Q w r k => by
    obtain ⟨v, rfl, h⟩ := iss_one r
    obtain ⟨_, u, hu, ob⟩ := w.mo _ _ em
    obtain ⟨vs, rfl, rl⟩ := ob.lst
    exact ⟨p, vs, v, rfl, rfl, hu, by rw [rl.length]; exact hz, k _ _ _ _ _ (w.put em (o := .lst (vs ++ [v])) (b := .lst (xs ++ [d])) (rl.append (.cons h .nil))) .non q⟩⟩
theorem m_pop {p : Addr} {xs : List D} {d : D} (em : M p = some (.lst xs)) (hd : xs[xs.length - 1]? = some d) (q : P d (mup M p (.lst xs.dropLast))) : OpM Y "list.pop" p [] M P :=
  ⟨_, mt_pop, fun G H ws Q w r k => by
    cases r
    obtain ⟨_, u, hu, ob⟩ := w.mo _ _ em
    obtain ⟨vs, rfl, rl⟩ := ob.lst
    obtain ⟨v, hv, rv⟩ := rl.get' hd
    exact ⟨p, vs, v, rfl, rfl, hu, by rw [rl.length]; exact hv, k _ _ _ _ _ (w.put em (o := .lst vs.dropLast) (b := .lst xs.dropLast) rl.dropLast) rv q⟩⟩
theorem m_popAt {p : Addr} {xs : List D} {d : D} {i : Int} {j : Nat} (em : M p = some (.lst xs)) (h1 : -(2 ^ 63) ≤ i) (h2 : i < 2 ^ 63) (hj : seqIndex? i xs.length = some j) (hd : xs[j]? = some d) (q : P d (mup M p (.lst (xs.eraseIdx j)))) : OpM Y "list.pop" p [.int i] M P :=
  ⟨_, mt_popAt, fun G H ws Q w r k => by
    obtain ⟨v, rfl, h⟩ := iss_one r
    cases h
    obtain ⟨_, u, hu, ob⟩ := w.mo _ _ em
    obtain ⟨vs, rfl, rl⟩ := ob.lst
    obtain ⟨v, hv, rv⟩ := rl.get' hd
    exact ⟨p, vs, i, j, v, rfl, rfl, hu, h1, h2, by rw [rl.length]; exact hj, hv, k _ _ _ _ _ (w.put em (o := .lst (vs.eraseIdx j)) (b := .lst (xs.eraseIdx j)) (rl.erase j)) rv q⟩⟩
theorem we_append {apos cpos : Pos} (h : WE Y o ss M fun x M => ∃ p, x = .rf p ∧ (∃ xs, M p = some (.lst xs)) ∧ WE Y e ss M fun d M => ∃ xs, M p = some (.lst xs) ∧ xs.length < sizeLine ∧ P .non (mup M p (.lst (xs ++ [d]))))
    (hbase : attributeBase o "append" Y.X.env (eval o Y.X.env) = eval o Y.X.env := by rfl)
    (hfew : ((backTo cpos (starEach [e] Y.X.env)).all (fun x => !x.1) && (backToKw cpos (keywordEach [] Y.X.env)).all (fun x => x.1.isSome) && decide (([e] : List Expr).length + ([] : List Keyword).length + (if ([] : List Keyword).isEmpty then 0 else 1) < 30)) = true := by rfl)
    (hline : (apos.endLine == cpos.line) = true := by rfl) (hs : starEach [e] Y.X.env = (false, eval e Y.X.env) :: starEach [] Y.X.env := by rfl) :
    WE Y (.Call (.Attribute o "append" apos) [e] [] cpos) ss M P := we_lm PySem.F.slot_list_append PySem.F.type_list_append (h.mono fun x M ⟨p, ex, hx, h1⟩ => ⟨p, ex, hx, wa_cons (h1.mono fun d M ⟨xs, em, hz, q⟩ => wa_nil (m_append em hz q)) hs⟩) hbase hfew hline hs rfl
theorem we_pop {apos cpos : Pos} (h : WE Y o ss M fun x M => ∃ p xs d, x = .rf p ∧ M p = some (.lst xs) ∧ xs[xs.length - 1]? = some d ∧ P d (mup M p (.lst xs.dropLast)))
    (hbase : attributeBase o "pop" Y.X.env (eval o Y.X.env) = eval o Y.X.env := by rfl) (hline : (apos.endLine == cpos.line) = true := by rfl) :
    WE Y (.Call (.Attribute o "pop" apos) [] [] cpos) ss M P := we_lm0 PySem.F.slot_list_pop PySem.F.type_list_pop (h.mono fun x M ⟨p, xs, d, ex, em, hd, q⟩ => ⟨p, ex, ⟨xs, em⟩, m_pop em hd q⟩) hbase hline
theorem we_popAt {apos cpos : Pos} (h : WE Y o ss M fun x M => ∃ p, x = .rf p ∧ (∃ xs, M p = some (.lst xs)) ∧ WE Y e ss M fun y M => ∃ i xs j d, y = .int i ∧ M p = some (.lst xs) ∧ (-(2 ^ 63) ≤ i ∧ i < 2 ^ 63) ∧ seqIndex? i xs.length = some j ∧ xs[j]? = some d ∧ P d (mup M p (.lst (xs.eraseIdx j))))
    (hbase : attributeBase o "pop" Y.X.env (eval o Y.X.env) = eval o Y.X.env := by rfl)
    (hfew : ((backTo cpos (starEach [e] Y.X.env)).all (fun x => !x.1) && (backToKw cpos (keywordEach [] Y.X.env)).all (fun x => x.1.isSome) && decide (([e] : List Expr).length + ([] : List Keyword).length + (if ([] : List Keyword).isEmpty then 0 else 1) < 30)) = true := by rfl)
    (hline : (apos.endLine == cpos.line) = true := by rfl) (hs : starEach [e] Y.X.env = (false, eval e Y.X.env) :: starEach [] Y.X.env := by rfl) :
    WE Y (.Call (.Attribute o "pop" apos) [e] [] cpos) ss M P := we_lm PySem.F.slot_list_pop PySem.F.type_list_pop (h.mono fun x M ⟨p, ex, hx, h1⟩ => ⟨p, ex, hx, wa_cons (h1.mono fun y M ⟨i, xs, j, d, ey, em, hb, hj, hd, q⟩ => wa_nil (by
      subst ey
      exact m_popAt em hb.1 hb.2 hj hd q)) hs⟩) hbase hfew hline hs rfl
/-! ### what is known of a slot, said anew -/
/-- a list in slot i becomes data -/
theorem wss_frz (i : Nat) {p : Addr} {ds : List D} (hs : ss[i]? = some (some (.rf p))) (em : M p = some (.lst ds)) (h : WSs Y sts (ss.set i (some (.lst ds))) (mdel M p) N) : WSs Y sts ss M N := .mk fun B σ G H E so eo => by
  obtain ⟨v, ev, rv⟩ := so.slot hs
  cases rv
  obtain ⟨_, u, hu, ob⟩ := so.w.mo _ _ em
  obtain ⟨vs, rfl, rl⟩ := ob.lst
  have g := so.w.frz em hu
  have so2 := so.go g
  refine h _ _ _ _ _ ⟨so2.t, so2.er, so2.f.say (fun w hw => ?_) ⟨_, ev⟩⟩ eo
  rw [ev] at hw
  cases hw
  exact .lst upd_same (rl.mono g.gg)
theorem wss_frzO (i : Nat) {p C : Addr} {fs : List (Str × D)} (hs : ss[i]? = some (some (.rf p))) (em : M p = some (.ins C fs)) (h : WSs Y sts (ss.set i (some (.obj C fs))) (mdel M p) N) : WSs Y sts ss M N := .mk fun B σ G H E so eo => by
  obtain ⟨v, ev, rv⟩ := so.slot hs
  cases rv
  obtain ⟨_, u, hu, ob⟩ := so.w.mo _ _ em
  obtain ⟨dx, vs, rfl, rl⟩ := ob.ins
  have g := so.w.frz em hu
  have so2 := so.go g
  refine h _ _ _ _ _ ⟨so2.t, so2.er, so2.f.say (fun w hw => ?_) ⟨_, ev⟩⟩ eo
  rw [ev] at hw
  cases hw
  exact .obj upd_same (rl.mono g.gg)
/-- objects are forgotten -/
theorem wss_drop {M' : Mm} (s : Msub M' M) (h : WSs Y sts ss M' N) : WSs Y sts ss M N := .mk fun B σ G H E so eo => h _ _ _ _ _ (so.go (so.w.drop s)) eo
theorem we_drop {M' : Mm} (s : Msub M' M) (h : WE Y e ss M' P) : WE Y e ss M P := .mk fun B σ G H Q so k => h _ _ _ _ _ (so.go (so.w.drop s)) fun v G' H' M2 d g r q => k _ _ _ _ _ ((so.w.drop s).trans g) r q
/-- .. behind an expression -/
theorem we_dropR (h : WE Y e ss M fun d M1 => ∃ M2, Msub M2 M1 ∧ P d M2) : WE Y e ss M P := .mk fun B σ G H Q so k => h _ _ _ _ _ so fun v G' H' M1 d g r ⟨M2, s, q⟩ => k _ _ _ _ _ (g.trans (g.wd.drop s)) r q
end
end JQ

set_option Elab.async false
set_option linter.all false
set_option maxRecDepth 100000
set_option maxHeartbeats 2000000
/-! Loops and comprehensions. -/
namespace JQ
open PySem PySem.Spec PyProof.Rows L2 RZ
open Evl (Ex ex_l ex_t)
/-- J walks the items ds, whatever grows behind G1 -/
structure Seq (Y : Bd) (J : It) (G1 : Hp) (ds : List D) (L : Mm → Prop) : Prop where
  go : ∀ i G H M, Ex G1 G → Wd Y.X.K G H M → L M → i < ds.length → J.go i H
  stop : ∀ G H M, Ex G1 G → Wd Y.X.K G H M → L M → J.stop ds.length H
  yld : ∀ i G H M x H' d, Ex G1 G → Wd Y.X.K G H M → L M → ds[i]? = some d → J.yld i H x H' → ∃ G', Tr Y.X.K G H M G' H' M ∧ Is Y.X.K G' x d
/-- nothing is locked -/
def L0 : Mm → Prop := fun _ => True
/-- the list at a stands as it is -/
def Lk (a : Addr) (ds : List D) : Mm → Prop := fun M => M a = some (.lst ds)
structure WI (Y : Bd) (tg iter : Expr) (ss : List S) (M : Mm) (R : List D → (Mm → Prop) → Mm → Prop) : Prop where
  run : ∀ B σ G H RR, StOk Y B σ G H M ss → (∀ J G1 H1 M1 ds L, Tr Y.X.K G H M G1 H1 M1 → Seq Y J G1 ds L → R ds L M1 → RR J H1) → wI Y.X tg iter σ H RR
instance {Y : Bd} {tg iter : Expr} {ss : List S} {M : Mm} {R : List D → (Mm → Prop) → Mm → Prop} : CoeFun (WI Y tg iter ss M R) fun _ => ∀ B σ G H RR, StOk Y B σ G H M ss → (∀ J G1 H1 M1 ds L, Tr Y.X.K G H M G1 H1 M1 → Seq Y J G1 ds L → R ds L M1 → RR J H1) → wI Y.X tg iter σ H RR := ⟨fun h => h.run⟩
section
variable {Y : Bd} {ss : List S} {M : Mm} {N : DE} {tg iter e a b c elt : Expr} {es ifs : List Expr} {pos p tpos : Pos} {R : List D → (Mm → Prop) → Mm → Prop} {elts : List Expr} {kk : Nat}
theorem wi_pi {wi : TI} (h : PI Y.X tg iter wi) (q : ∀ B σ G H RR, StOk Y B σ G H M ss → (∀ J G1 H1 M1 ds L, Tr Y.X.K G H M G1 H1 M1 → Seq Y J G1 ds L → R ds L M1 → RR J H1) → wi σ H RR) : WI Y tg iter ss M R := .mk fun B σ G H RR so k pins s I => h.run pins s σ H RR I (q _ _ _ _ _ so k)
theorem seq_list {G1 : Hp} {l : Addr} {vs : List V} {ds : List D} (h : G1 l = some (.lst vs)) (r : Iss Y.X.K G1 vs ds) : Seq Y (Itl Y.X.K l) G1 ds L0 where
  go := fun i G H M e1 w _ hi => ⟨vs, vs[i]'(by rw [r.length]; exact hi), SqL.of (w.gh _ _ (e1 _ _ h)), by simp⟩
  stop := fun G H M e1 w _ => ⟨vs, SqL.of (w.gh _ _ (e1 _ _ h)), by rw [r.length]; exact Nat.le_refl _⟩
  yld := fun i G H M x H' d e1 hs _ hd y => by
    obtain ⟨rfl, y⟩ := y
    obtain ⟨z, hz, rz⟩ := r.get' hd
    have q := y vs (SqL.of (hs.gh _ _ (e1 _ _ h)))
    rw [hz] at q
    cases q
    exact ⟨G, hs.refl, rz.mono e1⟩
theorem seq_tup {G1 : Hp} {l : Addr} {vs : List V} {ds : List D} (h : SqT Y.X.K G1 l vs) (r : Iss Y.X.K G1 vs ds) : Seq Y (Itt Y.X.K l) G1 ds L0 where
  go := fun i G H M e1 w _ hi => ⟨vs, vs[i]'(by rw [r.length]; exact hi), ex_t w.gh (ex_t e1 h), by simp⟩
  stop := fun G H M e1 w _ => ⟨vs, ex_t w.gh (ex_t e1 h), by rw [r.length]; exact Nat.le_refl _⟩
  yld := fun i G H M x H' d e1 hs _ hd y => by
    obtain ⟨rfl, y⟩ := y
    obtain ⟨z, hz, rz⟩ := r.get' hd
    have q := y vs (ex_t hs.gh (ex_t e1 h))
    rw [hz] at q
    cases q
    exact ⟨G, hs.refl, rz.mono e1⟩
theorem wi_list (h : WE Y e ss M fun x M => ∃ ds, x = .lst ds ∧ R ds L0 M) : WI Y tg e ss M R := wi_pi (pi_list pe_w) fun B σ G H RR so k => by
  refine h _ _ _ _ _ so fun v G1 H1 M1 d g r ⟨ds, ed, q⟩ => ?_
  subst ed
  cases r with
  | lst hx r => exact ⟨_, rfl, ⟨_, SqL.of (g.gh _ _ hx)⟩, k _ _ _ _ _ _ g (seq_list hx r) q⟩
/-- a list that may change, but does not in the walk -/
theorem seq_rf {G1 : Hp} {l : Addr} {ds : List D} : Seq Y (Itl Y.X.K l) G1 ds (Lk l ds) where
  go := fun i G H M e1 w lk hi => by
    obtain ⟨_, u, hu, ob⟩ := w.mo _ _ lk
    obtain ⟨vs, rfl, r⟩ := ob.lst
    exact ⟨vs, vs[i]'(by rw [r.length]; exact hi), SqL.of hu, by simp⟩
  stop := fun G H M e1 w lk => by
    obtain ⟨_, u, hu, ob⟩ := w.mo _ _ lk
    obtain ⟨vs, rfl, r⟩ := ob.lst
    exact ⟨vs, SqL.of hu, by rw [r.length]; exact Nat.le_refl _⟩
  yld := fun i G H M x H' d e1 w lk hd y => by
    obtain ⟨_, u, hu, ob⟩ := w.mo _ _ lk
    obtain ⟨vs, rfl, r⟩ := ob.lst
    obtain ⟨rfl, y⟩ := y
    obtain ⟨z, hz, rz⟩ := r.get' hd
    have q := y vs (SqL.of hu)
    rw [hz] at q
    cases q
    exact ⟨G, w.refl, rz⟩
theorem wi_rf (h : WE Y e ss M fun x M => ∃ a ds, x = .rf a ∧ M a = some (.lst ds) ∧ R ds (Lk a ds) M) : WI Y tg e ss M R := wi_pi (pi_list pe_w) fun B σ G H RR so k => by
  refine h _ _ _ _ _ so fun v G1 H1 M1 d g r ⟨a, ds, ed, em, q⟩ => ?_
  subst ed
  cases r
  obtain ⟨_, u, hu, ob⟩ := g.wd.mo _ _ em
  obtain ⟨vs, rfl, r⟩ := ob.lst
  exact ⟨a, rfl, ⟨_, SqL.of hu⟩, k _ _ _ _ _ _ g seq_rf q⟩
theorem wi_tup (h : WE Y e ss M fun x M => ∃ ds, x = .tup ds ∧ R ds L0 M) : WI Y tg e ss M R := wi_pi (pi_tup pe_w) fun B σ G H RR so k => by
  refine h _ _ _ _ _ so fun v G1 H1 M1 d g r ⟨ds, ed, q⟩ => ?_
  subst ed
  cases r with
  | tup hx r => exact ⟨_, rfl, ⟨_, ex_t g.gh hx⟩, k _ _ _ _ _ _ g (seq_tup hx r) q⟩
/-- lo, lo + 1, .. -/
def rngI (lo : Int) (n : Nat) : List Int := (List.range n).map fun (i : Nat) => lo + (i : Int)
def rngD (lo : Int) (n : Nat) : List D := (List.range n).map fun (i : Nat) => D.int (lo + (i : Int))
theorem rngD_eq {lo : Int} {n : Nat} : rngD lo n = (rngI lo n).map D.int := by unfold rngD rngI; rw [List.map_map]; rfl
theorem rngD_len {lo : Int} {n : Nat} : (rngD lo n).length = n := by simp [rngD]
theorem rngD_get {lo : Int} {n i : Nat} {d : D} (h : (rngD lo n)[i]? = some d) : i < n ∧ d = .int (lo + (i : Int)) := by
  unfold rngD at h
  rw [List.getElem?_map] at h
  by_cases c : i < n
  · rw [List.getElem?_range c] at h
    cases h
    exact ⟨c, rfl⟩
  · rw [List.getElem?_eq_none (by simpa using c)] at h
    cases h
theorem seq_rng {G1 : Hp} {lo : Int} {n : Nat} : Seq Y (Itr lo n) G1 (rngD lo n) L0 where
  go := fun i G H M e1 w _ hi => by
    show i < n
    simpa [rngD] using hi
  stop := fun G H M e1 w _ => by show n ≤ (rngD lo n).length; simp [rngD]
  yld := fun i G H M x H' d e1 hs _ hd y => by
    obtain ⟨rfl, rfl⟩ := y
    obtain ⟨_, rfl⟩ := rngD_get hd
    exact ⟨G, hs.refl, .int _⟩
theorem wi_rng1 (hm : Y.X.mg "range" = none) (h : WE Y a ss M fun x M => ∃ n : Int, x = .int n ∧ -(2 ^ 62) ≤ n ∧ n < 2 ^ 62 ∧ R (rngD 0 n.toNat) L0 M) (hg : Gl Y.X "range" := by rfl) (hs : starEach [a] Y.X.env = [(false, eval a Y.X.env)] := by rfl) (h1 : starEach (a :: []) Y.X.env = (false, eval a Y.X.env) :: starEach [] Y.X.env := by rfl) :
    WI Y tg (.Call (.Name "range" p) [a] [] pos) ss M R := wi_pi (pi_range1 hg hm (pa_cons pe_w pa_nil h1) hs) fun B σ G H RR so k => by
  refine h _ _ _ _ _ so fun v G1 H1 M1 d g r ⟨n, ed, h1, h2, q⟩ => ?_
  subst ed
  cases r
  exact ⟨n, rfl, h1, h2, k _ _ _ _ _ _ g seq_rng q⟩
theorem wi_rng2 (hm : Y.X.mg "range" = none) (h : WA Y [a, b] ss M fun xs M => ∃ i n : Int, xs = [.int i, .int n] ∧ (-(2 ^ 62) ≤ i ∧ i < 2 ^ 62 ∧ -(2 ^ 62) ≤ n ∧ n < 2 ^ 62) ∧ R (rngD i (n - i).toNat) L0 M) (hg : Gl Y.X "range" := by rfl)
    (hs : starEach [a, b] Y.X.env = [(false, eval a Y.X.env), (false, eval b Y.X.env)] := by rfl) (hs2 : starEach [b] Y.X.env = [(false, eval b Y.X.env)] := by rfl) :
    WI Y tg (.Call (.Name "range" p) [a, b] [] pos) ss M R := wi_pi (pi_range2 hg hm pa_w hs hs2) fun B σ G H RR so k => by
  refine h _ _ _ _ _ so fun vs G1 H1 M1 ds g r ⟨i, n, ed, hb, q⟩ => ?_
  subst ed
  obtain ⟨v, w, rfl, r1, r2⟩ := iss_two r
  cases r1
  cases r2
  exact ⟨i, n, rfl, hb, k _ _ _ _ _ _ g seq_rng q⟩
/-- a range with a step -/
def rngC (lo c : Int) (n : Nat) : List D := (List.range n).map fun (i : Nat) => D.int (lo + (i : Int) * c)
theorem seq_rngC {G1 : Hp} {lo c : Int} {n : Nat} : Seq Y (Itc lo c n) G1 (rngC lo c n) L0 where
  go := fun i G H M e1 w _ hi => by
    show i < n
    simpa [rngC] using hi
  stop := fun G H M e1 w _ => by show n ≤ (rngC lo c n).length; simp [rngC]
  yld := fun i G H M x H' d e1 hs _ hd y => by
    obtain ⟨rfl, rfl⟩ := y
    unfold rngC at hd
    rw [List.getElem?_map] at hd
    by_cases c : i < n
    · rw [List.getElem?_range c] at hd
      cases hd
      exact ⟨G, hs.refl, .int _⟩
    · rw [List.getElem?_eq_none (by simpa using c)] at hd
      cases hd
theorem wi_rngD (hm : Y.X.mg "range" = none) (h : WA Y [a, b, c] ss M fun xs M => ∃ i n : Int, xs = [.int i, .int n, .int (-1)] ∧ (-(2 ^ 62) ≤ i ∧ i < 2 ^ 62 ∧ -(2 ^ 62) ≤ n ∧ n < 2 ^ 62) ∧ R (rngC i (-1) (i - n).toNat) L0 M) (hg : Gl Y.X "range" := by rfl)
    (hs : starEach [a, b, c] Y.X.env = (false, eval a Y.X.env) :: starEach [b, c] Y.X.env := by rfl) (hs2 : (backTo pos (starEach [b, c] Y.X.env)).any (·.1) = false := by rfl) :
    WI Y tg (.Call (.Name "range" p) [a, b, c] [] pos) ss M R := wi_pi (pi_range3 hg hm pa_w hs hs2) fun B σ G H RR so k => by
  refine h _ _ _ _ _ so fun vs G1 H1 M1 ds g r ⟨i, n, ed, hb, q⟩ => ?_
  subst ed
  cases r with
  | cons r1 r =>
    obtain ⟨v, w, rfl, r2, r3⟩ := iss_two r
    cases r1
    cases r2
    cases r3
    exact ⟨i, n, -1, _, rfl, RgC.neg hb.1 hb.2.1 hb.2.2.1 hb.2.2.2, k _ _ _ _ _ _ g seq_rngC q⟩
/-- pairs: enumerate, zip -/
def enumD (ds : List D) : List D := (List.range ds.length).map fun (i : Nat) => D.tup [.int (i : Int), ds.getD i .non]
theorem getD_of {ds : List D} {i : Nat} {d : D} (h : ds[i]? = some d) : ds.getD i .non = d := by rw [List.getD_eq_getElem?_getD, h]; rfl
theorem enumD_len {ds : List D} : (enumD ds).length = ds.length := by simp [enumD]
theorem enumD_get {ds : List D} {i : Nat} {d : D} (h : (enumD ds)[i]? = some d) : ∃ x, ds[i]? = some x ∧ d = .tup [.int (i : Int), x] := by
  unfold enumD at h
  rw [List.getElem?_map] at h
  by_cases c : i < ds.length
  · rw [List.getElem?_range c] at h
    cases h
    refine ⟨ds[i], by simp [c], ?_⟩
    show D.tup [.int (i : Int), ds.getD i .non] = _
    rw [getD_of (d := ds[i]) (by simp [c])]
  · rw [List.getElem?_eq_none (by simpa using c)] at h
    cases h
theorem seq_enum {G1 : Hp} {l : Addr} {vs : List V} {ds : List D} (h : G1 l = some (.lst vs)) (r : Iss Y.X.K G1 vs ds) : Seq Y (Ite Y.X.K l) G1 (enumD ds) L0 := by
  have w : ∀ {H : Hp}, Walk (Ite Y.X.K l) vs.length (fun H => SqL Y.X.K H l vs) (YPair (fun i => some (.int (i : Nat))) (fun i => vs[i]?)) := fun {H} => walk_enum
  have hl : (enumD ds).length = vs.length := by simp [enumD, r.length]
  refine ⟨fun i G H M e1 w' _ hi => (w (H := H)).goes i H (by omega) (SqL.of (w'.gh _ _ (e1 _ _ h))), fun G H M e1 w' _ => by rw [hl]; exact (w (H := H)).stops H (SqL.of (w'.gh _ _ (e1 _ _ h))), fun i G H M x H' d e1 hs _ hd y => ?_⟩
  have hi : i < vs.length := by
    rw [← hl]
    exact (List.getElem?_eq_some_iff.mp hd).1
  obtain ⟨T, z1, z2, ev, hT, eH, e3, e4⟩ := (w (H := H)).yields i H x H' hi (SqL.of (hs.gh _ _ (e1 _ _ h))) y
  subst ev eH
  cases e3
  obtain ⟨d2, hd2, r2⟩ := r.get e4
  obtain ⟨d3, hd3, rfl⟩ := enumD_get hd
  rw [hd2] at hd3
  cases hd3
  have g := hs.new (o := .tup [.int (i : Int), z2]) hT
  exact ⟨_, g, .tup (SqT.of upd_same) (.cons (.int _) (.cons (r2.mono (e1.trans g.gg)) .nil))⟩
theorem wi_enum (hm : Y.X.mg "enumerate" = none) (h : WE Y e ss M fun x M => ∃ ds, x = .lst ds ∧ R (enumD ds) L0 M) (hg : Gl Y.X "enumerate" := by rfl) (hs : starEach [e] Y.X.env = [(false, eval e Y.X.env)] := by rfl) (h1 : starEach (e :: []) Y.X.env = (false, eval e Y.X.env) :: starEach [] Y.X.env := by rfl) :
    WI Y (.Tuple elts kk tpos) (.Call (.Name "enumerate" p) [e] [] pos) ss M R := wi_pi (pi_enum hg hm (pa_cons pe_w pa_nil h1) hs) fun B σ G H RR so k => by
  refine h _ _ _ _ _ so fun v G1 H1 M1 d g r ⟨ds, ed, q⟩ => ?_
  subst ed
  cases r with
  | lst hx r => exact ⟨_, _, rfl, SqL.of (g.gh _ _ hx), k _ _ _ _ _ _ g (seq_enum hx r) q⟩
def zipD (xs ys : List D) : List D := (List.range (min xs.length ys.length)).map fun (i : Nat) => D.tup [xs.getD i .non, ys.getD i .non]
theorem zip_item {xs ys : List D} {i : Nat} {d x y : D} (h : (zipD xs ys)[i]? = some d) (hx : xs[i]? = some x) (hy : ys[i]? = some y) : d = .tup [x, y] := by
  unfold zipD at h
  have h1 := (List.getElem?_eq_some_iff.mp hx).1
  have h2 := (List.getElem?_eq_some_iff.mp hy).1
  rw [List.getElem?_map, List.getElem?_range (by omega)] at h
  have q := Option.some.inj h
  rw [← q]
  show D.tup [xs.getD i .non, ys.getD i .non] = _
  rw [getD_of hx, getD_of hy]
theorem seq_zipT {G1 : Hp} {l m : Addr} {vs ws : List V} {ds es : List D} (h : SqT Y.X.K G1 l vs) (r : Iss Y.X.K G1 vs ds) (h2 : SqT Y.X.K G1 m ws) (r2 : Iss Y.X.K G1 ws es) : Seq Y (ItzT Y.X.K l m) G1 (zipD ds es) L0 := by
  have hl : (zipD ds es).length = min vs.length ws.length := by simp [zipD, r.length, r2.length]
  refine ⟨fun i G H M e1 w' _ hi => ?_, fun G H M e1 w' _ => ?_, fun i G H M x H' d e1 hs _ hd y => ?_⟩
  · rw [hl] at hi
    exact ⟨vs, ws, vs[i]'(by omega), ws[i]'(by omega), ex_t w'.gh (ex_t e1 h), ex_t w'.gh (ex_t e1 h2), by simp, by simp⟩
  · rw [hl]
    exact ⟨vs, ws, ex_t w'.gh (ex_t e1 h), ex_t w'.gh (ex_t e1 h2), by omega⟩
  · obtain ⟨T, z1, z2, ev, hT, eH, e3, e4⟩ := y
    subst ev eH
    have q3 := e3 vs (ex_t hs.gh (ex_t e1 h))
    have q4 := e4 ws (ex_t hs.gh (ex_t e1 h2))
    obtain ⟨d1, hd1, r3⟩ := r.get q3
    obtain ⟨d2, hd2, r4⟩ := r2.get q4
    have ed := zip_item hd hd1 hd2
    subst ed
    have g := hs.new (o := .tup [z1, z2]) hT
    exact ⟨_, g, .tup (SqT.of upd_same) (.cons (r3.mono (e1.trans g.gg)) (.cons (r4.mono (e1.trans g.gg)) .nil))⟩
theorem seq_zipL {G1 : Hp} {l m : Addr} {vs ws : List V} {ds es : List D} (h : G1 l = some (.lst vs)) (r : Iss Y.X.K G1 vs ds) (h2 : G1 m = some (.lst ws)) (r2 : Iss Y.X.K G1 ws es) : Seq Y (Itz Y.X.K l m) G1 (zipD ds es) L0 := by
  have w : ∀ {H : Hp}, Walk (Itz Y.X.K l m) (min vs.length ws.length) (fun H => SqL Y.X.K H l vs ∧ SqL Y.X.K H m ws) (YPair (fun i => vs[i]?) (fun i => ws[i]?)) := fun {H} => walk_zip rfl
  have hl : (zipD ds es).length = min vs.length ws.length := by simp [zipD, r.length, r2.length]
  have hq : ∀ {G H : Hp}, Ex G1 G → Ex G H → SqL Y.X.K H l vs ∧ SqL Y.X.K H m ws := fun e1 e2 => ⟨SqL.of (e2 _ _ (e1 _ _ h)), SqL.of (e2 _ _ (e1 _ _ h2))⟩
  refine ⟨fun i G H M e1 w' _ hi => (w (H := H)).goes i H (by omega) (hq e1 w'.gh), fun G H M e1 w' _ => by rw [hl]; exact (w (H := H)).stops H (hq e1 w'.gh), fun i G H M x H' d e1 hs _ hd y => ?_⟩
  have hi : i < min vs.length ws.length := by
    rw [← hl]
    exact (List.getElem?_eq_some_iff.mp hd).1
  obtain ⟨T, z1, z2, ev, hT, eH, e3, e4⟩ := (w (H := H)).yields i H x H' hi (hq e1 hs.gh) y
  subst ev eH
  obtain ⟨d1, hd1, r3⟩ := r.get e3
  obtain ⟨d2, hd2, r4⟩ := r2.get e4
  have ed := zip_item hd hd1 hd2
  subst ed
  have g := hs.new (o := .tup [z1, z2]) hT
  exact ⟨_, g, .tup (SqT.of upd_same) (.cons (r3.mono (e1.trans g.gg)) (.cons (r4.mono (e1.trans g.gg)) .nil))⟩
theorem wi_zipT (hm : Y.X.mg "zip" = none) (h : WA Y [a, b] ss M fun xs M => ∃ ds es, xs = [.tup ds, .tup es] ∧ R (zipD ds es) L0 M) (hg : Gl Y.X "zip" := by rfl) (hs : starEach [a, b] Y.X.env = (false, eval a Y.X.env) :: starEach [b] Y.X.env := by rfl) (hs2 : (backTo pos (starEach [b] Y.X.env)).any (·.1) = false := by rfl) :
    WI Y (.Tuple elts kk tpos) (.Call (.Name "zip" p) [a, b] [] pos) ss M R := wi_pi (pi_zipA hg hm pa_w hs hs2) fun B σ G H RR so k => by
  refine h _ _ _ _ _ so fun vs G1 H1 M1 ds g r ⟨xs, ys, ed, q⟩ => ?_
  subst ed
  obtain ⟨v, w, rfl, r1, r2⟩ := iss_two r
  cases r1 with
  | tup h1 r1 =>
    cases r2 with
    | tup h2 r2 => exact ⟨_, _, _, _, rfl, .inr ⟨ex_t g.gh h1, ex_t g.gh h2, k _ _ _ _ _ _ g (seq_zipT h1 r1 h2 r2) q⟩⟩
theorem wi_zipL (hm : Y.X.mg "zip" = none) (h : WA Y [a, b] ss M fun xs M => ∃ ds es, xs = [.lst ds, .lst es] ∧ R (zipD ds es) L0 M) (hg : Gl Y.X "zip" := by rfl) (hs : starEach [a, b] Y.X.env = (false, eval a Y.X.env) :: starEach [b] Y.X.env := by rfl) (hs2 : (backTo pos (starEach [b] Y.X.env)).any (·.1) = false := by rfl) :
    WI Y (.Tuple elts kk tpos) (.Call (.Name "zip" p) [a, b] [] pos) ss M R := wi_pi (pi_zipA hg hm pa_w hs hs2) fun B σ G H RR so k => by
  refine h _ _ _ _ _ so fun vs G1 H1 M1 ds g r ⟨xs, ys, ed, q⟩ => ?_
  subst ed
  obtain ⟨v, w, rfl, r1, r2⟩ := iss_two r
  cases r1 with
  | lst h1 r1 =>
    cases r2 with
    | lst h2 r2 => exact ⟨_, _, _, _, rfl, .inl ⟨SqL.of (g.gh _ _ h1), SqL.of (g.gh _ _ h2), k _ _ _ _ _ _ g (seq_zipL h1 r1 h2 r2) q⟩⟩
/-! ### the base of a body may be moved up -/
theorem ErrOk.base {B : Bs} {G H : Hp} (h : ErrOk Y B) (t : Tr Y.X.K B.G B.H B.M G H M) : ErrOk Y ⟨G, H, M⟩ := by
  obtain ⟨W, tk, q⟩ := h
  refine ⟨W, tk, fun C gs fs d σ G2 H2 M2 M' ss2 ee ms g f n ng nm hd r => q C gs fs d σ G2 H2 M2 M' ss2 ee ms (t.trans g) f ?_ ng nm hd r⟩
  cases c : B.H d with
  | none => rfl
  | some u =>
    obtain ⟨u', c'⟩ := t.lv d u c
    have n' : H d = none := n
    rw [n'] at c'
    cases c'
theorem StOk.base {B : Bs} {G H : Hp} {σ : L2.St} (h : StOk Y B σ G H M ss) : StOk Y ⟨G, H, M⟩ σ G H M ss := ⟨h.refl, h.er.base h.t, h.f⟩
theorem StOk.unbase {B : Bs} {G H G2 H2 : Hp} {M2 : Mm} {σ : L2.St} {ss2 : List S} (t : Tr Y.X.K B.G B.H B.M G H M) (er : ErrOk Y B) (h : StOk Y ⟨G, H, M⟩ σ G2 H2 M2 ss2) : StOk Y B σ G2 H2 M2 ss2 := ⟨t.trans h.t, er, h.f⟩
theorem EndsOk.base {B : Bs} {G H : Hp} {E : Ends} (t : Tr Y.X.K B.G B.H B.M G H M) (er : ErrOk Y B) (eo : EndsOk Y B N E) : EndsOk Y ⟨G, H, M⟩ N E :=
  ⟨fun σ G2 H2 M2 s so q => eo.nx _ _ _ _ _ (so.unbase t er) q, fun v G2 H2 M2 d g r q => eo.rt _ _ _ _ _ (t.trans g) r q, fun σ G2 H2 M2 s so q => eo.bk _ _ _ _ _ (so.unbase t er) q, fun σ G2 H2 M2 s so q => eo.ct _ _ _ _ _ (so.unbase t er) q⟩
/-- for tg in iter: body; Iv by the turn, the slots and what changed -/
theorem ws_for {T : List Nat} {body : List Stmt} (hp : PassesOwn (model Y.X.prog Y.X.w) Y.X.A Y.X.env Y.X.xe) (hc : Y.X.calm = true)
    (h : WI Y tg iter ss M fun ds L M => ∃ Iv : Nat → List S → Mm → Prop, Iv 0 ss M ∧ (∀ i s M, Iv i s M → L M) ∧ (∀ i d ss' M', ds[i]? = some d → Iv i ss' M' → WG Y tg T d ss' M' fun ss2 M2 => WSs Y body ss2 M2 { nx := Iv (i + 1), ct := Iv (i + 1), bk := N.nx, rt := N.rt }) ∧ ∀ ss' M', Iv ds.length ss' M' → N.nx ss' M')
    (hs : ∀ x, foldedSetIterable iter Y.X.env x = pure x := by intro _; rfl) : WS Y (.For tg iter body [] pos) ss M N :=
  ws_ps (L2.ps_for hp hc pi_w pg_w pss_w hs) fun B σ G H E so eo => by
    refine h _ _ _ _ _ so fun J G1 H1 M1 ds L g sq ⟨Iv, h0, hL, ht, he⟩ => ?_
    have so1 := so.go g
    have eo1 := eo.base so1.t so1.er
    refine ⟨fun i m σ' H' => m = ds.length - i ∧ i ≤ ds.length ∧ ∃ G' M' ss', StOk Y ⟨G1, H1, M1⟩ σ' G' H' M' ss' ∧ Iv i ss' M', ⟨_, rfl, Nat.zero_le _, G1, M1, ss, so1.base, h0⟩, ?_⟩
    rintro i m σ' H' ⟨rfl, hi, G', M', ss', so', iv⟩
    have ex : Ex G1 G' := so'.t.gg
    by_cases hlt : i < ds.length
    · refine .inr ⟨sq.go i G' H' M' ex so'.w (hL _ _ _ iv) hlt, fun σ2 H2 => ∃ G2 M2 ss2, StOk Y ⟨G1, H1, M1⟩ σ2 G2 H2 M2 ss2 ∧ Iv (i + 1) ss2 M2, fun σ2 H2 q => ⟨ds.length - (i + 1), by omega, rfl, hlt, q⟩, fun x H2 y => ?_⟩
      obtain ⟨G2, g2, r2⟩ := sq.yld i G' H' M' x H2 ds[i] ex so'.w (hL _ _ _ iv) (by simp) y
      refine ht i ds[i] ss' M' (by simp) iv _ _ _ _ _ _ (so'.go g2) r2 fun σ3 G3 H3 M3 ss3 so3 g3 _ q => ?_
      exact q _ _ _ _ _ so3 ⟨fun σ4 G4 H4 M4 ss4 so4 q4 => ⟨G4, M4, ss4, so4, q4⟩, eo1.rt, fun σ4 G4 H4 M4 ss4 so4 q4 => eo1.nx _ _ _ _ _ so4 q4, fun σ4 G4 H4 M4 ss4 so4 q4 => ⟨G4, M4, ss4, so4, q4⟩⟩
    · have e : i = ds.length := by omega
      subst e
      exact .inl ⟨sq.stop G' H' M' ex so'.w (hL _ _ _ iv), eo1.nx _ _ _ _ _ so' (he ss' M' iv)⟩
/-- while c: body; Iv by a measure, the slots and what changed -/
theorem ws_while {body : List Stmt} (hp : PassesOwn (model Y.X.prog Y.X.w) Y.X.A Y.X.env Y.X.xe) (Iv : Nat → List S → Mm → Prop) (m0 : Nat) (h0 : Iv m0 ss M)
    (ht : ∀ m ss' M', Iv m ss' M' → WT Y c ss' M' fun k M' => if k = true then WSs Y body ss' M' { nx := fun s2 M2 => ∃ m', m' < m ∧ Iv m' s2 M2, ct := fun s2 M2 => ∃ m', m' < m ∧ Iv m' s2 M2, bk := N.nx, rt := N.rt } else N.nx ss' M') : WS Y (.While c body [] pos) ss M N :=
  ws_ps (L2.ps_while hp pt_w pss_w) fun B σ G H E so eo => by
    refine ⟨fun m σ' H' => ∃ G' M' ss', StOk Y B σ' G' H' M' ss' ∧ Iv m ss' M', ⟨m0, G, M, ss, so, h0⟩, ?_⟩
    rintro m σ' H' ⟨G', M', ss', so', iv⟩
    refine ht m ss' M' iv _ _ _ _ _ so' fun kk G2 H2 M2 g q => ?_
    cases kk with
    | true =>
      rw [if_pos rfl] at q ⊢
      refine ⟨fun σ2 H2 => ∃ G2 M2 ss2, StOk Y B σ2 G2 H2 M2 ss2 ∧ ∃ m', m' < m ∧ Iv m' ss2 M2, fun σ2 H2 ⟨G2, M2, ss2, so2, m', hm, iv2⟩ => ⟨m', hm, G2, M2, ss2, so2, iv2⟩, ?_⟩
      exact q _ _ _ _ _ (so'.go g) ⟨fun σ4 G4 H4 M4 ss4 so4 q4 => ⟨G4, M4, ss4, so4, q4⟩, eo.rt, fun σ4 G4 H4 M4 ss4 so4 q4 => eo.nx _ _ _ _ _ so4 q4, fun σ4 G4 H4 M4 ss4 so4 q4 => ⟨G4, M4, ss4, so4, q4⟩⟩
    | false =>
      rw [if_neg Bool.false_ne_true] at q ⊢
      exact eo.nx _ _ _ _ _ (so'.go g) q
/-! ### comprehensions -/
def Bd.blk (Y : Bd) (s : Shared) (H : Hp) (scope : Scope) (C : Addr) (cl : List (Str × Addr)) (fp : List Addr) : Bd := ⟨Y.X.blk s H scope (compEnvC scope cl C Y.X.env) fp, fun _ _ _ _ => False⟩
def wipeS (ss : List S) : List Nat → List S
  | [] => ss
  | v :: vs => (wipeS ss vs).set v none
theorem StOk.wipe {B : Bs} {G H : Hp} {σ : L2.St} (h : StOk Y B σ G H M ss) : ∀ vs : List Nat, StOk Y B (L2.wipe σ vs) G H M (wipeS ss vs)
  | [] => h
  | v :: vs => (StOk.wipe h vs).forget none v
theorem StOk.toBlk {B : Bs} {G H : Hp} {σ : L2.St} (h : StOk Y B σ G H M ss) (s : Shared) (H2 : Hp) (scope : Scope) (C : Addr) (cl : List (Str × Addr)) (fp : List Addr) : StOk (Y.blk s H2 scope C cl fp) B σ G H M ss :=
  ⟨h.t, ⟨fun _ _ _ _ => False, takes0, fun C gs fs d σ G H M M' ss e => e.elim⟩, h.f⟩
theorem StOk.reBlk {B : Bs} {G H : Hp} {σ : L2.St} {s : Shared} {H2 : Hp} {scope : Scope} {C : Addr} {cl : List (Str × Addr)} {fp : List Addr} (h : StOk (Y.blk s H2 scope C cl fp) B σ G H M ss) (s' : Shared) (H2' : Hp) (scope' : Scope) (C' : Addr) (cl' : List (Str × Addr)) (fp' : List Addr) :
    StOk (Y.blk s' H2' scope' C' cl' fp') B σ G H M ss :=
  ⟨h.t, ⟨fun _ _ _ _ => False, takes0, fun C gs fs d σ G H M M' ss e => e.elim⟩, h.f⟩
section
variable {scope : Scope} {own : List (Str × Nat)} {P : D → Mm → Prop} {Qv : VK}
/-- the weakest readings within the block -/
def wEb (X : Cx) (scope : Scope) (e : Expr) : TE := fun σ H Q => ∀ s H2 C cl fp, wE (X.blk s H2 scope (compEnvC scope cl C X.env) fp) e σ H Q
def wGb (X : Cx) (scope : Scope) (e : Expr) : TG := fun v σ H Q => ∀ s H2 C cl fp, wG (X.blk s H2 scope (compEnvC scope cl C X.env) fp) e v σ H Q
def wTb (X : Cx) (scope : Scope) (e : List Expr) : TT := fun σ H Q => ∀ s H2 C cl fp, wTs (X.blk s H2 scope (compEnvC scope cl C X.env) fp) e σ H Q
theorem pe_wb {X : Cx} (s : Shared) (H2 : Hp) (C : Addr) (cl : List (Str × Addr)) (fp : List Addr) : PE (X.blk s H2 scope (compEnvC scope cl C X.env) fp) e (wEb X scope e) := ⟨fun pins s' _ _ _ I h => h s H2 C cl fp pins s' I⟩
theorem pg_wb {X : Cx} (s : Shared) (H2 : Hp) (C : Addr) (cl : List (Str × Addr)) (fp : List Addr) : PG (X.blk s H2 scope (compEnvC scope cl C X.env) fp) e (wGb X scope e) := ⟨fun pins s' _ _ _ u _ I r h => h s H2 C cl fp pins s' u I r⟩
theorem pts_wb {X : Cx} (s : Shared) (H2 : Hp) (C : Addr) (cl : List (Str × Addr)) (fp : List Addr) : PTs (X.blk s H2 scope (compEnvC scope cl C X.env) fp) es (wTb X scope es) := ⟨fun pins s' _ _ _ I h => h s H2 C cl fp pins s' I⟩
/-- what a comprehension asks: Acc tells what is made behind i items, and what changed -/
def WLc (Y : Bd) (elt tg : Expr) (ifs : List Expr) (scope : Scope) (vs : List Nat) (ss : List S) (M : Mm) (ds : List D) (L : Mm → Prop) (P : D → Mm → Prop) : Prop := ds.length ≤ 100000 ∧ ∃ Acc : Nat → List D → Mm → Prop, Acc 0 [] M ∧ (∀ i a M, Acc i a M → L M) ∧
  (∀ i d acc M, ds[i]? = some d → Acc i acc M → ∀ s H C cl fp, ∃ T, (∀ j ∈ T, j ∈ vs) ∧ WG (Y.blk s H scope C cl fp) tg T d (wipeS ss vs) M fun ss2 M =>
    ∀ s H C cl fp, WTs (Y.blk s H scope C cl fp) ifs ss2 M fun k M => if k = true then ∀ s H C cl fp, WE (Y.blk s H scope C cl fp) elt ss2 M fun y M => Acc (i + 1) (acc ++ [y]) M else Acc (i + 1) acc M) ∧ ∀ acc M, Acc ds.length acc M → NewL P M acc
theorem wipe_at {σ : L2.St} : ∀ {vs : List Nat} {j : Nat}, (L2.wipe σ vs)[j]? = if j ∈ vs then (if j < σ.length then some none else none) else σ[j]?
  | [], j => by simp [L2.wipe]
  | v :: vs, j => by
    unfold L2.wipe
    by_cases c : v = j
    · subst c
      rw [if_pos List.mem_cons_self]
      by_cases l : v < σ.length
      · rw [if_pos l, List.getElem?_set_self (by rw [wipe_length]; exact l)]
      · rw [if_neg l, List.getElem?_eq_none (by rw [List.length_set, wipe_length]; omega)]
    · rw [List.getElem?_set_ne c, wipe_at]
      by_cases m : j ∈ vs
      · rw [if_pos m, if_pos (List.mem_cons_of_mem _ m)]
      · rw [if_neg m, if_neg (by simp; exact ⟨fun z => c z.symm, m⟩)]
theorem wipe_but {σ σ' : L2.St} {vs T : List Nat} (hT : ∀ j ∈ T, j ∈ vs) (b : But' T (L2.wipe σ vs) σ') : L2.wipe σ' vs = L2.wipe σ vs := by
  apply List.ext_getElem?
  intro j
  have hl : σ'.length = σ.length := by rw [b.1, wipe_length]
  rw [wipe_at, wipe_at, hl]
  by_cases m : j ∈ vs
  · rw [if_pos m, if_pos m]
  · rw [if_neg m, if_neg m, b.2 j (fun z => m (hT j z)), wipe_at, if_neg m]
theorem lc_read (h : WI Y tg iter ss M fun ds L M => WLc Y elt tg ifs scope (own.map (·.2)) ss M ds L P) {B : Bs} {G H : Hp} {σ : L2.St} (so : StOk Y B σ G H M ss) (k : Kon Y G H M P Qv) :
    tLc (wI Y.X tg iter) (wGb Y.X scope tg) (wTb Y.X scope ifs) (wEb Y.X scope elt) (own.map (·.2)) σ H Qv := by
  refine h _ _ _ _ _ so fun J G1 H1 M1 ds Lq g sq ⟨hz, Acc, a0, aL, at_, ae⟩ => fun L hL => ?_
  have so1 := so.go g
  have gL := so1.w.gnone hL
  have mL := so1.w.mnone hL
  refine ⟨fun i m H' => m = ds.length - i ∧ i ≤ ds.length ∧ ∃ G' M' vs acc, Tr Y.X.K G1 H1 M1 G' H' M' ∧ H' L = some (.lst vs) ∧ Iss Y.X.K G' vs acc ∧ G' L = none ∧ M' L = none ∧ acc.length ≤ i ∧ Acc i acc M', ⟨_, rfl, Nat.zero_le _, G1, M1, [], [], so1.w.extra hL, upd_same, .nil, gL, mL, Nat.le_refl _, a0⟩, ?_⟩
  rintro i m H' ⟨rfl, hi, G', M', vs, acc, g', hL', r, gL', mL', hl, ac⟩
  have so' := so1.go g'
  by_cases hlt : i < ds.length
  · refine .inr ⟨sq.go i G' H' M' g'.gg so'.w (aL _ _ _ ac) hlt, fun H2 => i + 1 ≤ ds.length ∧ ∃ G2 M2 vs acc, Tr Y.X.K G1 H1 M1 G2 H2 M2 ∧ H2 L = some (.lst vs) ∧ Iss Y.X.K G2 vs acc ∧ G2 L = none ∧ M2 L = none ∧ acc.length ≤ i + 1 ∧ Acc (i + 1) acc M2, fun H2 q => ⟨ds.length - (i + 1), by omega, rfl, q.1, q.2⟩, fun x H2 y => ?_⟩
    obtain ⟨G2, g2, r2⟩ := sq.yld i G' H' M' x H2 ds[i] g'.gg so'.w (aL _ _ _ ac) (by simp) y
    intro s Hb C cl fp
    have so2 := ((so'.go g2).wipe (own.map (·.2))).toBlk s Hb scope C cl fp
    obtain ⟨T, hT, q⟩ := at_ i ds[i] acc M' (by simp) ac s Hb C cl fp
    refine q _ _ _ _ _ _ so2 r2 fun σ3 G3 H3 M3 ss3 so3 g3 b3 q3 => ⟨wipe_but hT b3, ?_⟩
    intro s' Hb' C' cl' fp'
    refine q3 s' Hb' C' cl' fp' _ _ _ _ _ (so3.reBlk s' Hb' scope C' cl' fp') fun kk G4 H4 M4 g4 q4 => ?_
    have gr : Tr Y.X.K G' H' M' G4 H4 M4 := g2.trans (Tr.trans g3 g4)
    have gg4 : Tr Y.X.K G1 H1 M1 G4 H4 M4 := g'.trans gr
    cases kk with
    | false =>
      rw [if_neg Bool.false_ne_true] at q4 ⊢
      obtain ⟨f1, f2, f3⟩ := gr.fr _ _ hL' mL'
      exact ⟨hlt, G4, M4, vs, acc, gg4, f1, r.mono gr.gg, by rw [f3]; exact gL', f2, by omega, q4⟩
    | true =>
      rw [if_pos rfl] at q4 ⊢
      intro s5 Hb5 C5 cl5 fp5
      refine q4 s5 Hb5 C5 cl5 fp5 _ _ _ _ _ (((so3.go g4).reBlk s5 Hb5 scope C5 cl5 fp5)) fun v G5 H5 M5 d g5 r5 q5 => ?_
      have gr5 : Tr Y.X.K G' H' M' G5 H5 M5 := gr.trans g5
      have g15 : Tr Y.X.K G1 H1 M1 G5 H5 M5 := gg4.trans g5
      obtain ⟨f1, f2, f3⟩ := gr5.fr _ _ hL' mL'
      have gL5 : G5 L = none := by rw [f3]; exact gL'
      refine ⟨vs, f1, by rw [r.length]; exact Nat.lt_of_le_of_lt (by omega : acc.length ≤ 100000) (by decide), hlt, G5, M5, vs ++ [v], acc ++ [d], ⟨g15.gg, ⟨fun a u hu => ?_, fun a u hu => ?_⟩, fun a u hu m => ?_, fun a u hu => ?_⟩, upd_same, (r.mono gr5.gg).append (.cons r5 .nil), gL5, f2, by rw [List.length_append]; exact Nat.succ_le_succ hl, q5⟩
      · rw [upd_ne (ne_of_none hu gL5)]
        exact g15.gh a u hu
      · have ne : a ≠ L := fun z => by rw [z, f2] at hu; cases hu
        rw [upd_ne ne]
        exact g15.wd.mo a u hu
      · rw [upd_ne (ne_of_none hu hL)]
        exact g15.fr a u hu m
      · rw [upd_ne (ne_of_none hu hL)]
        exact g15.lv a u hu
  · have e : i = ds.length := by omega
    subst e
    refine .inl ⟨sq.stop G' H' M' g'.gg so'.w (aL _ _ _ ac), ?_⟩
    rcases ae acc M' ac with p | p
    · have g3 : Tr Y.X.K G1 H1 M1 (upd G' L (.lst vs)) H' M' := ⟨g'.gg.trans (Ex.new gL'), ⟨fun a u hu => by
        by_cases c : a = L
        · subst c
          rw [upd_same] at hu
          cases hu
          exact hL'
        · rw [upd_ne c] at hu
          exact g'.gh a u hu, fun a u hu => by
        have ne : a ≠ L := fun z => by rw [z, mL'] at hu; cases hu
        obtain ⟨h1, v, h2, h3⟩ := g'.wd.mo a u hu
        rw [upd_ne ne]
        exact ⟨h1, v, h2, h3.mono (Ex.new gL')⟩⟩, fun a u hu m => by rw [upd_ne (ne_of_none hu hL)]; exact g'.fr a u hu m, g'.lv⟩
      exact k _ _ _ _ _ (g.trans g3) (.lst upd_same (r.mono (Ex.new gL'))) p
    · have g3 : Tr Y.X.K G1 H1 M1 G' H' (mup M' L (.lst acc)) := ⟨g'.gg, ⟨g'.gh, fun a u hu => by
        by_cases c : a = L
        · subst c
          rw [mup_same] at hu
          cases hu
          exact ⟨gL', _, hL', r⟩
        · rw [mup_ne c] at hu
          exact g'.wd.mo a u hu⟩, fun a u hu m => by
        rw [mup_ne (ne_of_none hu hL)]
        exact g'.fr a u hu m, g'.lv⟩
      exact k _ _ _ _ _ (g.trans g3) (.adr _) (p L mL')
theorem wts_nil {PB : Bool → Mm → Prop} (q : PB true M) : WTs Y [] ss M PB := .mk fun B σ G H Q so k pins s I => pts_nil.run pins s σ H Q I (k _ _ _ _ so.refl q)
theorem wts_one {PB : Bool → Mm → Prop} (h : WT Y c ss M PB) : WTs Y [c] ss M PB := .mk fun B σ G H Q so k pins s I => (pts_one pt_w).run pins s σ H Q I (h _ _ _ _ _ so k)
/-- [elt for tg in iter if ..] as a value; name = [..] on one line -/
theorem we_lc (own : List (Str × Nat)) (hc : Y.X.calm = true) (hN : Y.X.N.Nodup) (ok : BlkOk Y.X.N Y.X.env.scope scope own) (h : WI Y tg iter ss M fun ds L M => WLc Y elt tg ifs scope (own.map (·.2)) ss M ds L P) (hs : ∀ x, foldedSetIterable iter Y.X.env x = pure x := by intro _; rfl) : WE Y (.ListComp elt [⟨tg, iter, ifs, 0⟩] scope pos) ss M P :=
  we_pe (pe_lc hc hN pi_w ok pg_wb pts_wb pe_wb hs) fun B σ G H Q so k => lc_read h so k
theorem ws_lc (i : Nat) (own : List (Str × Nat)) {y : Str} {py spos : Pos} (hc : Y.X.calm = true) (hN : Y.X.N.Nodup) (ok : BlkOk Y.X.N Y.X.env.scope scope own) (hsw : swapsWith (.ListComp elt [⟨tg, iter, ifs, 0⟩] scope pos) (some (.Name y py)) spos.line Y.X.env = pure true)
    (h : WI Y tg iter ss M fun ds L M => WLc Y elt tg ifs scope (own.map (·.2)) ss M ds L fun d M => N.nx (ss.set i (some d)) M) (hy : Y.X.N[i]? = some y := by rfl) (hyl : Y.X.env.scope.names.lookup y = some .local := by rfl) (hs : ∀ x, foldedSetIterable iter Y.X.env x = pure x := by intro _; rfl) :
    WS Y (.Assign [.Name y py] (.ListComp elt [⟨tg, iter, ifs, 0⟩] scope pos) spos) ss M N :=
  ws_ps (ps_setLc hc hN hy hyl hsw pi_w ok pg_wb pts_wb pe_wb hs) fun B σ G H E so eo => lc_read h so fun v G' H' M' d g r q => eo.nx _ _ _ _ _ ((so.go g).set r i) q
/-- a map that changes nothing -/
theorem WLc.map {vs : List Nat} {ds : List D} {L : Mm → Prop} (f : D → D) (hL : L M) (hz : ds.length ≤ 100000) (T : List Nat) (hT : ∀ j ∈ T, j ∈ vs) (h : ∀ d, d ∈ ds → ∀ s H C cl fp, WG (Y.blk s H scope C cl fp) tg T d (wipeS ss vs) M fun ss2 M2 => ∀ s H C cl fp, WE (Y.blk s H scope C cl fp) elt ss2 M2 fun y M3 => y = f d ∧ M3 = M) (q : NewL P M (ds.map f)) :
    WLc Y elt tg [] scope vs ss M ds L P := by
  refine ⟨hz, fun i acc M' => acc = (ds.take i).map f ∧ M' = M, ⟨rfl, rfl⟩, fun i a M' ⟨_, em⟩ => by rw [em]; exact hL, fun i d acc M' hd ⟨ea, em⟩ s H C cl fp => ⟨T, hT, ?_⟩, fun acc M' ⟨ea, em⟩ => by rw [ea, em, List.take_length]; exact q⟩
  subst em
  have hm : d ∈ ds := List.mem_of_getElem? hd
  refine .mk ?_
  intro B σ G Hh v Q so r k
  refine h d hm s H C cl fp _ _ _ _ _ _ so r fun σ' G' H' M' ss' so' g' b' q' => k _ _ _ _ _ so' g' b' ?_
  intro s H C cl fp
  refine wts_nil ?_
  show ∀ s H C cl fp, WE _ elt ss' _ _
  intro s H C cl fp
  refine (q' s H C cl fp).mono fun y M3 ⟨ey, em⟩ => ?_
  subst ey
  refine ⟨?_, em⟩
  rw [ea, List.take_add_one, hd, List.map_append]
  rfl
/-- a filter and a map that change nothing -/
theorem WLc.filter {vs : List Nat} {ds : List D} {L : Mm → Prop} (p : D → Bool) (f : D → D) (hL : L M) (hz : ds.length ≤ 100000) (T : List Nat) (hT : ∀ j ∈ T, j ∈ vs) (h : ∀ d, d ∈ ds → ∀ s H C cl fp, WG (Y.blk s H scope C cl fp) tg T d (wipeS ss vs) M fun ss2 M2 => ∀ s H C cl fp, WT (Y.blk s H scope C cl fp) c ss2 M2 fun k M3 => k = p d ∧ M3 = M ∧ (k = true → ∀ s H C cl fp, WE (Y.blk s H scope C cl fp) elt ss2 M3 fun y M4 => y = f d ∧ M4 = M))
    (q : NewL P M ((ds.filter p).map f)) : WLc Y elt tg [c] scope vs ss M ds L P := by
  refine ⟨hz, fun i acc M' => acc = ((ds.take i).filter p).map f ∧ M' = M, ⟨rfl, rfl⟩, fun i a M' ⟨_, em⟩ => by rw [em]; exact hL, fun i d acc M' hd ⟨ea, em⟩ s H C cl fp => ⟨T, hT, ?_⟩, fun acc M' ⟨ea, em⟩ => by rw [ea, em, List.take_length]; exact q⟩
  subst em
  have hm : d ∈ ds := List.mem_of_getElem? hd
  refine .mk ?_
  intro B σ G Hh v Q so r k
  refine h d hm s H C cl fp _ _ _ _ _ _ so r fun σ' G' H' M' ss' so' g' b' q' => k _ _ _ _ _ so' g' b' ?_
  intro s H C cl fp
  refine wts_one ((q' s H C cl fp).mono fun kk M3 ⟨ek, em, hk⟩ => ?_)
  cases kk with
  | true =>
    show ∀ s H C cl fp, WE _ elt ss' _ _
    intro s H C cl fp
    refine (hk rfl s H C cl fp).mono fun y M4 ⟨ey, em4⟩ => ?_
    subst ey
    refine ⟨?_, em4⟩
    rw [ea, List.take_add_one, hd, List.filter_append, List.map_append]
    show _ = _ ++ List.map f (List.filter p [d])
    rw [List.filter_cons, if_pos ek.symm]
    rfl
  | false =>
    show acc = _ ∧ _
    refine ⟨?_, em⟩
    rw [ea, List.take_add_one, hd, List.filter_append, List.map_append]
    show _ = _ ++ List.map f (List.filter p [d])
    rw [List.filter_cons, if_neg (by rw [← ek]; exact Bool.false_ne_true)]
    simp
end
end
end JQ

set_option Elab.async false
set_option linter.all false
set_option maxRecDepth 100000
set_option maxHeartbeats 2000000
/-! Promises of defs, and calls, where no list is being shown around (guards). -/
namespace JQ
open PySem PySem.Spec PyProof.Rows L2
open Evl (Ex ex_l ex_t)
/-- a def keeps a promise -/
structure FnG (P : Program) (w : World) (K : PySem.W.Frag) (mg : Str → Option Value) (base : Heap) (k : Nat) (f : Addr) (fd : FuncData) (ps : List Str) (sp : Sp) : Prop where
  run : ∀ (A : Around) (outer : List Env) (s : Shared) (H : Hp) (args : Args) (us : List Value) (vs : List V) (Q : VK) (E : XK), A.guards = some [] → Room k A → Env0 P w K mg base A outer s H → BindsTo s fd args (ps.zip us) → Vals vs us → sp vs H Q E →
    codeAny (model P w) A (.call (.ref f) args) (CR (L2.CX P w) outer P w H s Q E) s
theorem FnG.up {P : Program} {w : World} {K : PySem.W.Frag} {mg : Str → Option Value} {base : Heap} {j k : Nat} {f : Addr} {fd : FuncData} {ps : List Str} {sp : Sp} (F : FnG P w K mg base j f fd ps sp) (h : j ≤ k) : FnG P w K mg base k f fd ps sp :=
  ⟨fun A outer s H args us vs Q E hg hr => F.run A outer s H args us vs Q E hg (hr.mono h)⟩
/-- by its body -/
theorem fnG_of {P : Program} {w : World} {K : PySem.W.Frag} {mg : Str → Option Value} {base : Heap} {k : Nat} {f : Addr} {name qual : Str} {params : Arguments} {body : List Stmt} {scope : Scope} {dV kV doc pm cdv ct oc : Value} {an od : Option Addr} {osl : Array (Option Value)} {N ps : List Str} {sp : Sp}
    (lk : K.lookup f = some ⟨oc, od, .func (PySem.W.fnOf name qual params body scope dV kV doc pm an cdv ct), osl⟩) (hcd : PySem.W.codeIn K cdv qual = true) (S : FnScope N ps scope) (len : ∀ vs H Q E, sp vs H Q E → vs.length = ps.length)
    (hb : ∀ (A : Around) (outer : List Env) (s : Shared) (H : Hp) (vs : List V) (Q : VK) (E : XK), A.guards = some [] → Room k (A.deeper (envOfC qual scope s.heap.objs.size f cdv)) → sp vs H Q E →
      wSs (cxOf (L2.CX P w) P w K mg base N qual scope f cdv A outer s H E) body { nx := fun _ H' => Q .non H', rt := Q } (L2.start N vs) H) :
    FnG P w K mg base (k + 1) f (PySem.W.fnOf name qual params body scope dV kV doc pm an cdv ct) ps sp := by
  constructor
  intro A outer s H args us vs Q E hg hr e0 bnd rv hsp
  have kin : K.In s.heap := e0.mod.kin.keeps fun b o e => (e0.bs b o e).1
  have nol : s.heap.NoLimit := e0.mod.nolimit.keeps fun b o e => (e0.bs b o e).1
  have kinds : ∀ y ∈ ps.zip us, scope.names.lookup y.1 = some .local ∨ (scope.names.lookup y.1 = some .cell ∧ ((cellsFrom (s.heap.objs.size + 1) scope.names []).lookup y.1).isSome = true) := by
    intro y hy
    have hy1 : y.1 ∈ ps := (List.of_mem_zip (show (y.1, y.2) ∈ ps.zip us from hy)).1
    cases S.par y.1 hy1 with
    | inl q => exact .inl q
    | inr q => exact .inr ⟨q, PySem.W.cellsFrom_some _ _ _ (.inl q)⟩
  have go := codeAny_call_function (R := CR (L2.CX P w) outer P w H s Q E) (prog := P) (w := w) hr.depth (kin _ _ lk) rfl S.co S.gen rfl (PySem.W.codeRec_of kin hcd) (bnd _ _ _ _ (wpAny_newFunctionEnv_cells S.kind kinds fun env he s1 x => by
    subst he
    have I := inv_start (CX := L2.CX P w) (N := N) (E := E) S hr.hd e0 (len _ _ _ _ hsp) rv x
    refine ⟨nol.keeps x.toInCall.keep, codeAny_func ?_⟩
    have body := hb A outer s H vs Q E hg (hr.deeper _) hsp [] s1 I
    refine wpAny_mono body (fun fl s2 h2 => ?_) fun _ _ h2 => h2
    have leave : ∀ {σ2 : L2.St} {H2 : Hp} {v : V} {u : Value}, Inv (cxOf (L2.CX P w) P w K mg base N qual scope f cdv A outer s H E) [] σ2 H2 s2 → RelV v u → Q v H2 → CE outer P w H s Q u s2 := by
      intro σ2 H2 v u J r q
      exact ⟨v, H2, J.os, J.bare, J.base, J.hok, r, q⟩
    match fl, h2 with
    | .ret u, ⟨v, σ2, H2, J, r, q⟩ => exact leave J r q
    | .next, ⟨σ2, H2, J, q⟩ => exact leave (v := .non) (u := .none) J rfl q
    | .brk, ⟨_, _, _, q⟩ => exact q.elim
    | .cont, ⟨_, _, _, q⟩ => exact q.elim))
  exact go
/-! ### promises on data -/
abbrev EEx := Addr → List (Str × D) → Mm → Prop
/-- args, what may change, what is wanted of the result, what is wanted of an error -/
abbrev Sd := List D → Mm → (D → Mm → Prop) → EEx → Prop
def spD (K : PySem.W.Frag) (S : Sd) : Sp := fun vs H Q E => ∃ (G : Hp) (M : Mm) (ds : List D) (P : D → Mm → Prop) (EE : EEx), Wd K G H M ∧ Iss K G vs ds ∧ S ds M P EE ∧
  (∀ v G' H' M' d, Tr K G H M G' H' M' → Is K G' v d → P d M' → Q v H') ∧ ∀ C gs fs d G' H' M' M2, EE C gs M2 → Msub M2 M' → Tr K G H M G' H' M' → H d = none → G' d = none → M' d = none → H' d = some (.xd fs) → IsF K G' fs gs → E (.ref C) (some d) H'
def startS (N : List Str) (ds : List D) : List S := ds.map some ++ List.replicate (N.length - ds.length) none
theorem start_frm {K : PySem.W.Frag} {G : Hp} {N : List Str} {vs : List V} {ds : List D} (r : Iss K G vs ds) : Frm K G (L2.start N vs) (startS N ds) := by
  have hl := r.length
  refine ⟨by simp [L2.start, startS, hl], fun i x d a b => ?_⟩
  unfold startS at b
  rw [List.getElem?_append] at b
  split at b
  · rw [List.getElem?_map] at b
    cases e : ds[i]? with
    | none => rw [e] at b; cases b
    | some d' =>
      rw [e] at b
      cases b
      obtain ⟨v, hv, rv⟩ := r.get' e
      refine ⟨v, ?_, rv⟩
      unfold L2.start at a
      have hi := (List.getElem?_eq_some_iff.mp hv).1
      rw [List.getElem?_append_left (by simpa using hi), List.getElem?_map, hv] at a
      exact (Option.some.inj a).symm
  · rw [List.getElem?_replicate] at b
    split at b <;> cases b
section
variable {P : Program} {w : World} {K : PySem.W.Frag} {mg : Str → Option Value} {base : Heap}
/-- what a body is shown for: its def's context -/
abbrev bdOf (P : Program) (w : World) (K : PySem.W.Frag) (mg : Str → Option Value) (base : Heap) (N : List Str) (qual : Str) (scope : Scope) (f : Addr) (cdv : Value) (A : Around) (outer : List Env) (s : Shared) (H : Hp) (E : XK) (EE : EEx) : Bd := ⟨cxOf (L2.CX P w) P w K mg base N qual scope f cdv A outer s H E, fun C gs M _ => EE C gs M⟩
theorem body_sp {N : List Str} {qual : Str} {scope : Scope} {f : Addr} {cdv : Value} {A : Around} {outer : List Env} {s : Shared} {H : Hp} {E : XK} {Q : VK} {vs : List V} {S : Sd} {body : List Stmt} (h : spD K S vs H Q E)
    (hb : ∀ ds M Pd EE, S ds M Pd EE → WSs (bdOf P w K mg base N qual scope f cdv A outer s H E EE) body (startS N ds) M { nx := fun _ => Pd .non, rt := Pd }) :
    wSs (cxOf (L2.CX P w) P w K mg base N qual scope f cdv A outer s H E) body { nx := fun _ H' => Q .non H', rt := Q } (L2.start N vs) H := by
  obtain ⟨G, M, ds, Pd, EE, wd, r, hS, kq, ke⟩ := h
  refine hb ds M Pd EE hS ⟨G, H, M⟩ _ _ _ _ ⟨wd.refl, ⟨fun cls d _ H' => E cls d H', takes_of rfl rfl rfl rfl, fun C gs fs d σ G2 H2 M2 M' ss ee ms g f n ng nm e rf => ke C gs fs d G2 H2 M2 M' ee ms g n ng nm e rf⟩, start_frm r⟩
    ⟨fun σ' G' H' M' ss' so q => kq .non G' H' M' .non so.t .non q, fun v G' H' M' d t r q => kq v G' H' M' d t r q, fun _ _ _ _ _ _ q => q.elim, fun _ _ _ _ _ _ q => q.elim⟩
theorem sp_len {ps : List Str} {S : Sd} (len : ∀ ds M P EE, S ds M P EE → ds.length = ps.length) : ∀ vs H Q E, spD K S vs H Q E → vs.length = ps.length := fun vs H Q E ⟨G, M, ds, Pd, EE, _, r, hS, _⟩ => by
  rw [r.length]
  exact len ds M Pd EE hS
/-- a def keeps its promise on data, by its body -/
theorem fnD {x qual : Str} {st : Stmt} {f : Addr} {fd : FuncData} {N ps : List Str} {k : Nat} {S : Sd} (F : Fun K x qual st f fd) (sc : FnScope N ps (defScope st)) (len : ∀ ds M P EE, S ds M P EE → ds.length = ps.length)
    (hb : ∀ (cdv : Value) (A : Around) (outer : List Env) (s : Shared) (H : Hp) (E : XK), (A.deeper (envOfC qual (defScope st) s.heap.objs.size f cdv)).guards = some [] → Room k (A.deeper (envOfC qual (defScope st) s.heap.objs.size f cdv)) → ∀ ds M Pd EE, S ds M Pd EE →
      WSs (bdOf P w K mg base N qual (defScope st) f cdv A outer s H E EE) (defBody st) (startS N ds) M { nx := fun _ => Pd .non, rt := Pd }) : FnG P w K mg base (k + 1) f fd ps (spD K S) := by
  obtain ⟨oc, od, kV, doc, pm, an, cdv, ct, osl, rfl, lk, hcd⟩ := F.ex
  exact fnG_of lk hcd sc (sp_len len) fun A outer s H vs Q E hg hr h => body_sp h fun ds M Pd EE hS => hb cdv A outer s H E hg hr ds M Pd EE hS
/-- .. where defaults stand -/
theorem fnDD {x qual : Str} {params : Arguments} {body : List Stmt} {scope : Scope} {dvs : List V} {kws : List (Str × V)} {f : Addr} {fd : FuncData} {N ps : List Str} {k : Nat} {S : Sd} (F : FunD K x qual params body scope dvs kws f fd) (sc : FnScope N ps scope) (len : ∀ ds M P EE, S ds M P EE → ds.length = ps.length)
    (hb : ∀ (cdv : Value) (A : Around) (outer : List Env) (s : Shared) (H : Hp) (E : XK), (A.deeper (envOfC qual scope s.heap.objs.size f cdv)).guards = some [] → Room k (A.deeper (envOfC qual scope s.heap.objs.size f cdv)) → ∀ ds M Pd EE, S ds M Pd EE →
      WSs (bdOf P w K mg base N qual scope f cdv A outer s H E EE) body (startS N ds) M { nx := fun _ => Pd .non, rt := Pd }) : FnG P w K mg base (k + 1) f fd ps (spD K S) := by
  obtain ⟨oc, od, dV, kV, doc, pm, an, cdv, ct, osl, rfl, lk, hcd, _, _⟩ := F.ex
  exact fnG_of lk hcd sc (sp_len len) fun A outer s H vs Q E hg hr h => body_sp h fun ds M Pd EE hS => hb cdv A outer s H E hg hr ds M Pd EE hS
/-- the same kept of all surroundings (for the hand layer's rules) -/
theorem fnO {x qual : Str} {st : Stmt} {f : Addr} {fd : FuncData} {N ps : List Str} {k : Nat} {S : Sd} (F : Fun K x qual st f fd) (sc : FnScope N ps (defScope st)) (len : ∀ ds M P EE, S ds M P EE → ds.length = ps.length)
    (hb : ∀ (cdv : Value) (A : Around) (outer : List Env) (s : Shared) (H : Hp) (E : XK), Room k (A.deeper (envOfC qual (defScope st) s.heap.objs.size f cdv)) → ∀ ds M Pd EE, S ds M Pd EE →
      WSs (bdOf P w K mg base N qual (defScope st) f cdv A outer s H E EE) (defBody st) (startS N ds) M { nx := fun _ => Pd .non, rt := Pd }) : FnOk P w K mg base (L2.CX P w) (k + 1) f fd ps (spD K S) :=
  F.okX sc (sp_len len) fun cdv A outer s H vs Q E hr h => ⟨_, pss_w, body_sp h fun ds M Pd EE hS => hb cdv A outer s H E hr ds M Pd EE hS⟩
end
/-! ### binding -/
/-- n values are written, and keywords ks; the parameters then hold g .. -/
structure Bnd (K : PySem.W.Frag) (fd : FuncData) (ps : List Str) (n : Nat) (ks : List Str) (g : List D → List D → List D) : Prop where
  ex : ∃ (gu : List Value → List Value → List Value) (gv : List V → List V → List V),
    (∀ (s : Shared) us ws, K.In s.heap → us.length = n → ws.length = ks.length → BindsTo s fd ⟨us, ks.zip ws⟩ (ps.zip (gu us ws))) ∧ (∀ vs us ys ws, Vals vs us → Vals ys ws → Vals (gv vs ys) (gu us ws)) ∧
    ∀ G vs ds ys zs, Iss K G vs ds → Iss K G ys zs → Iss K G (gv vs ys) (g ds zs)
/-- no default stands in for any parameter, the keywords are the last ones in their order -/
theorem bnd_all {K : PySem.W.Frag} {fd : FuncData} {ps ks : List Str} {n : Nat} (h : ∀ us ws : List Value, us.length = n → ws.length = ks.length → bindArgs fd ⟨us, ks.zip ws⟩ = pure (ps.zip (us ++ ws))) : Bnd K fd ps n ks (· ++ ·) :=
  ⟨fun us ws => us ++ ws, fun vs ys => vs ++ ys, fun s us ws _ h1 h2 => .of_eq (h us ws h1 h2), fun _ _ _ _ r1 r2 => r1.append r2, fun _ _ _ _ _ r1 r2 => r1.append r2⟩
/-- every parameter is written -/
theorem bnd_pos {K : PySem.W.Frag} {fd : FuncData} {ps : List Str} (h : ∀ us : List Value, us.length = ps.length → bindArgs fd ⟨us, []⟩ = pure (ps.zip us)) : Bnd K fd ps ps.length [] fun ds _ => ds :=
  ⟨fun us ws => us, fun vs ys => vs, fun s us ws _ h1 h2 => .of_eq (h us h1), fun _ _ _ _ r1 r2 => r1, fun _ _ _ _ _ r1 r2 => r1⟩
/-! ### what is called -/
/-- f is called with ds, and keywords ks of zs -/
structure Cal (Y : Bd) (f : Value) (ks : List Str) (ss : List S) (ds zs : List D) (M : Mm) (P : D → Mm → Prop) : Prop where
  run : ∀ pins (s : Shared) σ B G H Q vs us ys ws, StOk Y B σ G H M ss → Inv Y.X pins σ H s → Iss Y.X.K G vs ds → Vals vs us → Iss Y.X.K G ys zs → Vals ys ws → Kon Y G H M P Q →
  wpAny (model Y.X.prog Y.X.w) Y.X.A (call f us (ks.zip ws)) (EP Y.X pins σ Q) Y.X.xe s
instance {Y : Bd} {f : Value} {ks : List Str} {ss : List S} {ds zs : List D} {M : Mm} {P : D → Mm → Prop} : CoeFun (Cal Y f ks ss ds zs M P) fun _ => ∀ pins (s : Shared) σ B G H Q vs us ys ws, StOk Y B σ G H M ss → Inv Y.X pins σ H s → Iss Y.X.K G vs ds → Vals vs us → Iss Y.X.K G ys zs → Vals ys ws → Kon Y G H M P Q →
  wpAny (model Y.X.prog Y.X.w) Y.X.A (call f us (ks.zip ws)) (EP Y.X pins σ Q) Y.X.xe s := ⟨fun h => h.run⟩
section
variable {Y : Bd} {ss : List S} {M : Mm} {P : D → Mm → Prop} {k n : Nat} {f C : Addr} {fd : FuncData} {ps ks : List Str} {S : Sd} {g : List D → List D → List D} {ds zs : List D}
theorem under_guards {A : Around} {c : Code} (h : A.guards = some []) (hc : c.isGuard = false) : (A.under c).guards = some [] := by
  have e : (A.under c).guards = PySem.pushGuards c.guards A.guards := rfl
  rw [e, h, show c.guards = [] from by unfold Code.guards; rw [hc]; rfl]
  rfl
theorem sp_at {B : Bs} {σ : L2.St} {G H : Hp} {Q : VK} {vs : List V} {xs : List D} (so : StOk Y B σ G H M ss) (r : Iss Y.X.K G vs xs) (h : S xs M P fun C gs M' => Y.EE C gs M' ss) (kq : Kon Y G H M P Q) :
    ∃ W : WX, Takes Y.X W ∧ spD Y.X.K S vs H Q (fun cls d H' => W cls d σ H') := by
  obtain ⟨W, tk, hW⟩ := so.er
  refine ⟨W, tk, G, M, xs, P, _, so.w, r, h, kq, fun C gs fs d G' H' M' M2 ee ms t n ng nm e rf => hW C gs fs d σ G' H' M' M2 ss ee ms (so.t.trans t) (so.f.mono t.gg) ?_ ng nm e rf⟩
  cases c : B.H d with
  | none => rfl
  | some u =>
    obtain ⟨u', c'⟩ := so.t.lv d u c
    rw [c'] at n
    cases n
theorem end_call {pins : List (Addr × Obj)} {σ : L2.St} {H : Hp} {s : Shared} {Q : VK} {W : WX} (tk : Takes Y.X W) (I : Inv Y.X pins σ H s) {res : Result} {s2 : Shared} (hq : CR (L2.CX Y.X.prog Y.X.w) Y.X.stack Y.X.prog Y.X.w H s Q (fun cls d H' => W cls d σ H') res s2) :
    wants (EP Y.X pins σ Q) Y.X.xe res s2 := by
  match res, hq with
  | .error e, hq => exact passAt tk σ pins H s e s2 I hq
  | .ok (.ret u), hq => exact I.after hq
  | .ok .next, hq => exact hq.elim
  | .ok .brk, hq => exact hq.elim
  | .ok .cont, hq => exact hq.elim
/-- a def -/
theorem cal_fn (F : FnG Y.X.prog Y.X.w Y.X.K Y.X.mg Y.X.base k f fd ps (spD Y.X.K S)) (hg : Y.X.A.guards = some []) (hr : Room k Y.X.A) (hb : Bnd Y.X.K fd ps n ks g) (h : S (g ds zs) M P fun C gs M' => Y.EE C gs M' ss) (hn : ds.length = n := by rfl) (hk : zs.length = ks.length := by rfl) : Cal Y (.ref f) ks ss ds zs M P := by
  refine .mk ?_
  intro pins s σ B G H Q vs us ys ws so I r ru r2 ru2 kq
  obtain ⟨gu, gv, b1, b2, b3⟩ := hb.ex
  obtain ⟨W, tk, hsp⟩ := sp_at so (b3 G vs ds ys zs r r2) h kq
  refine wpAny_call (codeAny_mono (F.run Y.X.A Y.X.stack s H ⟨us, ks.zip ws⟩ (gu us ws) (gv vs ys) Q _ hg hr I.env0 (b1 s us ws I.kIn ?_ ?_) (b2 _ _ _ _ ru ru2) hsp) fun res s2 hq => end_call tk I hq)
  · rw [← ru.length, r.length, hn]
  · rw [← ru2.length, r2.length, hk]
/-- a class: a new instance is made -/
theorem cal_mk (mk : Mk Y.X.K C f) (F : FnG Y.X.prog Y.X.w Y.X.K Y.X.mg Y.X.base k f fd ps (spD Y.X.K S)) (hg : Y.X.A.guards = some []) (hr : Room (k + 1) Y.X.A) (hb : Bnd Y.X.K fd ps n ks g)
    (h : ∀ x, M x = none → S (g (.rf x :: ds) zs) (mup M x (.ins C [])) (fun v M' => v = .non ∧ P (.rf x) M') fun C gs M' => Y.EE C gs M' ss) (hn : ds.length + 1 = n := by rfl) (hk : zs.length = ks.length := by rfl) : Cal Y (.ref C) ks ss ds zs M P := by
  refine .mk ?_
  intro pins s σ B G H Q vs us ys ws so I r ru r2 ru2 kq
  obtain ⟨gu, gv, b1, b2, b3⟩ := hb.ex
  have n1 : H (s.heap.objs.size + 1) = none := I.hok.fresh (Nat.le_succ _)
  have n0 : H s.heap.objs.size = none := I.hok.fresh (Nat.le_refl _)
  have I2 := Inv.made (C := C) I
  have t1 := so.w.extra (o := .own (s.heap.objs.size + 1)) n0
  have n1' : (upd H s.heap.objs.size (.own (s.heap.objs.size + 1))) (s.heap.objs.size + 1) = none := by
    rw [upd_ne (Nat.ne_of_gt (Nat.lt_succ_self _))]
    exact n1
  have t2 := t1.wd.newM (o := .ins C s.heap.objs.size []) (b := .ins C []) n1' ⟨rfl, .nil⟩
  have so2 := (so.go t1).go t2
  have r' := r.mono (t1.trans t2).gg
  have r2' := r2.mono (t1.trans t2).gg
  obtain ⟨W, tk, hsp⟩ := sp_at so2 (b3 G (.ref (s.heap.objs.size + 1) :: vs) (.rf (s.heap.objs.size + 1) :: ds) ys zs (.cons (.adr _) r') r2') (h _ (so.w.mnone n1)) (Q := fun v H' => v = .non ∧ Q (.ref (s.heap.objs.size + 1)) H') (fun v G' H' M' d t ri ⟨e, q⟩ => by
    subst e
    cases ri
    exact ⟨rfl, kq _ _ _ _ _ ((t1.trans t2).trans t) (.adr _) q⟩)
  have rv : Vals (V.ref (s.heap.objs.size + 1) :: vs) (Value.ref (s.heap.objs.size + 1) :: us) := .cons rfl ru
  refine wpAny_call (make_map (f := f) I.kIn mk.makes mk.init (beq_iff_eq.mp mk.fn) (codeAny_mono (F.run _ Y.X.stack _ _ ⟨Value.ref (s.heap.objs.size + 1) :: us, ks.zip ws⟩ (gu (Value.ref (s.heap.objs.size + 1) :: us) ws) _ _ _ ?_ (hr.make C us (ks.zip ws))
    (I2.env0.make C us (ks.zip ws)) (b1 _ (Value.ref (s.heap.objs.size + 1) :: us) ws I2.kIn ?_ ?_) (b2 _ _ _ _ rv ru2) hsp) fun res s' hq => ?_))
  · exact under_guards hg rfl
  · rw [List.length_cons, ← ru.length, r.length, hn]
  · rw [← ru2.length, r2.length, hk]
  · match res, hq with
    | .error e, hq => exact passAt tk σ pins _ _ e s' I2 hq
    | .ok (.ret u), hq =>
      obtain ⟨v, H', I3, rv', ev, q3⟩ := I2.after hq
      subst ev
      exact ⟨rv', ⟨V.ref (s.heap.objs.size + 1), H', I3, rfl, q3⟩⟩
    | .ok .next, hq => exact False.elim hq
    | .ok .brk, hq => exact False.elim hq
    | .ok .cont, hq => exact False.elim hq
end
/-! ### calls in the text -/
section
variable {Y : Bd} {ss : List S} {M : Mm} {P : D → Mm → Prop} {e o : Expr} {es : List Expr} {kws : List Keyword} {pos p apos : Pos} {x m : Str} {f C : Addr} {ks : List Str}
theorem ep_mono {pins : List (Addr × Obj)} {σ : L2.St} {Q Q' : VK} {u : Value} {s : Shared} (h : EP Y.X pins σ Q u s) (q : ∀ v H, Q v H → Q' v H) : EP Y.X pins σ Q' u s := by
  obtain ⟨v, H, I, r, h⟩ := h
  exact ⟨v, H, I, r, q _ _ h⟩
theorem wk_nil {Q : List D → Mm → Prop} (q : Q [] M) : WK Y [] ss M Q := .mk fun B σ G H R st k pos pins s I => pk_nil.run pos pins s σ H R I (k _ _ _ _ _ st.refl .nil q)
theorem wk_cons {nm : Str} {kpos : Pos} {Q : List D → Mm → Prop} (h : WE Y e ss M fun d M => WK Y kws ss M fun ds M => Q (d :: ds) M) : WK Y (⟨nm, e, kpos⟩ :: kws) ss M Q := .mk fun B σ G H R st k pos pins s I =>
  (pk_cons pe_w pk_w).run pos pins s σ H R I (by
    refine h _ _ _ _ _ st fun v1 G1 H1 M1 d g1 r1 h1 => ?_
    exact h1 _ _ _ _ _ (st.go g1) fun vs G2 H2 M2 ds g2 r2 q => k _ _ _ _ _ (g1.trans g2) (.cons (r1.mono g2.gg) r2) q)
/-- f(e, ..), f a def or a class of the module -/
theorem we_call (hm : Y.X.mg x = some (.ref f)) (hk : PySem.W.keepIn Y.X.K (.ref f) = true) (h : WA Y (e :: es) ss M fun ds M => Cal Y (.ref f) [] ss ds [] M P)
    (gl : Gl Y.X x := by rfl) (hdb : (x == ("__debug__" : Str)) = false := by decide) (he : starEach (e :: es) Y.X.env = (false, eval e Y.X.env) :: starEach es Y.X.env := by rfl) (hpl : (backTo pos (starEach es Y.X.env)).any (·.1) = false := by rfl) : WE Y (.Call (.Name x p) (e :: es) [] pos) ss M P :=
  .mk fun B σ G H Q st kq pins s I => wpAny_Call_Name_kw (ld_glob I gl hm (PySem.W.callWith_K (h₀ := Y.X.base) I.ok.mod.kin hk (thn (pa_w.run pos pins s σ H (fun vs H1 => ∃ G1 M1 ds, Tr Y.X.K G H M G1 H1 M1 ∧ Iss Y.X.K G1 vs ds ∧ Cal Y (.ref f) [] ss ds [] M1 P) I
    (h _ _ _ _ _ st fun vs G1 H1 M1 ds g r c => ⟨G1, M1, ds, g, r, c⟩)) fun us s1 ⟨vs, H1, I1, rv, G1, M1, ds, g, r, c⟩ => ⟨I1.kIn, c pins s1 σ B G1 H1 Q vs us [] [] (st.go g) I1 r rv .nil .nil fun v G' H' M' d t ri q => kq _ _ _ _ _ (g.trans t) ri q⟩) he hpl) hdb)
theorem we_call0 (hm : Y.X.mg x = some (.ref f)) (hk : PySem.W.keepIn Y.X.K (.ref f) = true) (h : Cal Y (.ref f) [] ss [] [] M P) (gl : Gl Y.X x := by rfl) (hdb : (x == ("__debug__" : Str)) = false := by decide) : WE Y (.Call (.Name x p) [] [] pos) ss M P :=
  .mk fun B σ G H Q st kq pins s I => wpAny_Call_Name_kw (ld_glob I gl hm (PySem.W.callWith_K0 I.kIn hk (h pins s σ B G H Q [] [] [] [] st I .nil .nil .nil .nil kq)) hdb)
/-- f(.., k = v, ..) -/
theorem we_callK (hm : Y.X.mg x = some (.ref f)) (hk : PySem.W.keepIn Y.X.K (.ref f) = true) (h : WA Y (e :: es) ss M fun ds M => WK Y kws ss M fun zs M => Cal Y (.ref f) ks ss ds zs M P)
    (gl : Gl Y.X x := by rfl) (hall : (backToKw pos (keywordEach kws Y.X.env)).all (·.1.isSome) = true := by rfl) (hks : (backToKw pos (keywordEach kws Y.X.env)).filterMap (·.1) = ks := by rfl) (hdb : (x == ("__debug__" : Str)) = false := by decide)
    (he : starEach (e :: es) Y.X.env = (false, eval e Y.X.env) :: starEach es Y.X.env := by rfl) (hpl : ((backTo pos (starEach (e :: es) Y.X.env)).any (·.1) || (backToKw pos (keywordEach kws Y.X.env)).any (·.1.isNone)) = false := by rfl) : WE Y (.Call (.Name x p) (e :: es) kws pos) ss M P := by
  subst hks
  exact .mk fun B σ G H Q st kq pins s I => wpAny_Call_Name_kw (ld_glob I gl hm (PySem.W.callWith_KW (h₀ := Y.X.base) I.ok.mod.kin hk hall (thn (pa_w.run pos pins s σ H (fun vs H1 => ∃ G1 M1 ds, Tr Y.X.K G H M G1 H1 M1 ∧ Iss Y.X.K G1 vs ds ∧ WK Y kws ss M1 fun zs M => Cal Y (.ref f) _ ss ds zs M P) I
    (h _ _ _ _ _ st fun vs G1 H1 M1 ds g r c => ⟨G1, M1, ds, g, r, c⟩)) fun us s1 ⟨vs, H1, I1, rv, G1, M1, ds, g, r, c⟩ => thn (pk_w.run pos pins s1 σ H1 (fun ys H2 => ∃ G2 M2 zs, Tr Y.X.K G1 H1 M1 G2 H2 M2 ∧ Iss Y.X.K G2 ys zs ∧ Cal Y (.ref f) _ ss ds zs M2 P) I1
      (c _ _ _ _ _ (st.go g) fun ys G2 H2 M2 zs g2 r2 c2 => ⟨G2, M2, zs, g2, r2, c2⟩)) fun ws s2 ⟨ys, H2, I2, rv2, G2, M2, zs, g2, r2, c2⟩ => ⟨I2.kIn, c2 pins s2 σ B G2 H2 Q vs us ys ws ((st.go g).go g2) I2 (r.mono g2.gg) rv r2 rv2 fun v G' H' M' d t ri q => kq _ _ _ _ _ ((g.trans g2).trans t) ri q⟩) hpl he) hdb)
theorem we_callK0 (hm : Y.X.mg x = some (.ref f)) (hk : PySem.W.keepIn Y.X.K (.ref f) = true) (h : WK Y kws ss M fun zs M => Cal Y (.ref f) ks ss [] zs M P)
    (gl : Gl Y.X x := by rfl) (hall : (backToKw pos (keywordEach kws Y.X.env)).all (·.1.isSome) = true := by rfl) (hks : (backToKw pos (keywordEach kws Y.X.env)).filterMap (·.1) = ks := by rfl) (hdb : (x == ("__debug__" : Str)) = false := by decide)
    (hpl : ((backTo pos (starEach [] Y.X.env)).any (·.1) || (backToKw pos (keywordEach kws Y.X.env)).any (·.1.isNone)) = false := by rfl) : WE Y (.Call (.Name x p) [] kws pos) ss M P := by
  subst hks
  exact .mk fun B σ G H Q st kq pins s I => wpAny_Call_Name_kw (ld_glob I gl hm (PySem.W.callWith_KW0 (h₀ := Y.X.base) I.ok.mod.kin hk hall (thn (pk_w.run pos pins s σ H (fun ys H2 => ∃ G2 M2 zs, Tr Y.X.K G H M G2 H2 M2 ∧ Iss Y.X.K G2 ys zs ∧ Cal Y (.ref f) _ ss [] zs M2 P) I
      (h _ _ _ _ _ st fun ys G2 H2 M2 zs g2 r2 c2 => ⟨G2, M2, zs, g2, r2, c2⟩)) fun ws s2 ⟨ys, H2, I2, rv2, G2, M2, zs, g2, r2, c2⟩ => ⟨I2.kIn, c2 pins s2 σ B G2 H2 Q [] [] ys ws (st.go g2) I2 .nil .nil r2 rv2 fun v G' H' M' d t ri q => kq _ _ _ _ _ (g2.trans t) ri q⟩) hpl) hdb)
/-- the object of a method's call -/
def MAt (Y : Bd) (m : Str) (f : Addr) (M : Mm) (d : D) : Prop := ∃ C fs, OAt M d C fs ∧ Cls Y.X.K C ∧ Meth Y.X.K C m f ∧ fs.lookup m = none
abbrev MethTerm (o : Expr) (m : Str) (es : List Expr) (kws : List Keyword) (apos pos : Pos) (env : Env) (pl : Sem Bool) : Prop := eval (.Call (.Attribute o m apos) es kws pos) env = (do
      let ov ← eval o env
      standAt apos.atName
      let (f, first) ← holding [ov] (getMethod ov m pl)
      callWith pos f first (backTo pos (starEach es env)) (backToKw pos (keywordEach kws env)))
theorem meth_at {pl : Sem Bool} {pins : List (Addr × Obj)} {σ : L2.St} {B : Bs} {G H : Hp} {s : Shared} {R : Value → Shared → Prop} {R2 : D → Mm → Prop} (ht : MethTerm o m es kws apos pos Y.X.env pl) (st : StOk Y B σ G H M ss) (I : Inv Y.X pins σ H s) (h : WE Y o ss M fun d M => MAt Y m f M d ∧ R2 d M)
    (q : ∀ a s1 G1 H1 M1 d, Inv Y.X pins σ H1 s1 → Tr Y.X.K G H M G1 H1 M1 → Is Y.X.K G1 (.ref a) d → R2 d M1 → wpAny (model Y.X.prog Y.X.w) Y.X.A (callWith pos (.ref f) [.ref a] (backTo pos (starEach es Y.X.env)) (backToKw pos (keywordEach kws Y.X.env))) R Y.X.xe s1) :
    wpAny (model Y.X.prog Y.X.w) Y.X.A (eval (.Call (.Attribute o m apos) es kws pos) Y.X.env) R Y.X.xe s := by
  refine PySem.W.methodCall_KW (pl := pl) (thn (pe_w.run pins s σ H (fun v H1 => ∃ G1 M1 d, Tr Y.X.K G H M G1 H1 M1 ∧ Is Y.X.K G1 v d ∧ MAt Y m f M1 d ∧ R2 d M1) I (h _ _ _ _ _ st fun v G1 H1 M1 d g r c => ⟨G1, M1, d, g, r, c.1, c.2⟩)) fun u s1 ⟨v, H1, I1, rv, G1, M1, d, g, r, ⟨C, fs, oa, cl, mt, lk⟩, c⟩ => ?_) ht
  obtain ⟨a, dx, vs, rfl, hx, rf⟩ := oa.get g.wd r
  obtain rfl : u = Value.ref a := rv
  exact getmeth_ok I1 hx cl mt (rf.lookN lk) (q a s1 G1 H1 M1 d I1 g r c)
/-- o.m(e, ..) -/
theorem we_meth {pl : Sem Bool} (hk : PySem.W.keepIn Y.X.K (.ref f) = true) (h : WE Y o ss M fun d M => MAt Y m f M d ∧ WA Y (e :: es) ss M fun ds M => Cal Y (.ref f) [] ss (d :: ds) [] M P)
    (hst : starEach (e :: es) Y.X.env = (false, eval e Y.X.env) :: starEach es Y.X.env := by rfl) (hpl : (backTo pos (starEach es Y.X.env)).any (·.1) = false := by rfl) (ht : MethTerm o m (e :: es) [] apos pos Y.X.env pl := by rfl) : WE Y (.Call (.Attribute o m apos) (e :: es) [] pos) ss M P :=
  .mk fun B σ G H Q st kq pins s I => meth_at ht st I h fun a s1 G1 H1 M1 d I1 g r c => PySem.W.callWith_K (first := [.ref a]) (h₀ := Y.X.base) I.ok.mod.kin hk (thn (pa_w.run pos pins s1 σ H1 (fun vs H2 => ∃ G2 M2 ds, Tr Y.X.K G1 H1 M1 G2 H2 M2 ∧ Iss Y.X.K G2 vs ds ∧ Cal Y (.ref f) [] ss (d :: ds) [] M2 P) I1
    (c _ _ _ _ _ (st.go g) fun vs G2 H2 M2 ds g2 r2 c2 => ⟨G2, M2, ds, g2, r2, c2⟩)) fun us s2 ⟨vs, H2, I2, rv, G2, M2, ds, g2, r2, c2⟩ => ⟨I2.kIn, c2 pins s2 σ B G2 H2 Q (.ref a :: vs) (.ref a :: us) [] [] ((st.go g).go g2) I2 (.cons (r.mono g2.gg) r2) (.cons rfl rv) .nil .nil fun v G' H' M' d t ri q => kq _ _ _ _ _ ((g.trans g2).trans t) ri q⟩) hst hpl
theorem we_meth0 {pl : Sem Bool} (hk : PySem.W.keepIn Y.X.K (.ref f) = true) (h : WE Y o ss M fun d M => MAt Y m f M d ∧ Cal Y (.ref f) [] ss [d] [] M P) (ht : MethTerm o m [] [] apos pos Y.X.env pl := by rfl) : WE Y (.Call (.Attribute o m apos) [] [] pos) ss M P :=
  .mk fun B σ G H Q st kq pins s I => meth_at ht st I h fun a s1 G1 H1 M1 d I1 g r c => PySem.W.callWith_K0 (first := [.ref a]) I1.kIn hk (c pins s1 σ B G1 H1 Q [.ref a] [.ref a] [] [] (st.go g) I1 (.cons r .nil) (.cons rfl .nil) .nil .nil fun v G' H' M' d t ri q => kq _ _ _ _ _ (g.trans t) ri q)
theorem we_methK0 {pl : Sem Bool} (hk : PySem.W.keepIn Y.X.K (.ref f) = true) (h : WE Y o ss M fun d M => MAt Y m f M d ∧ WK Y kws ss M fun zs M => Cal Y (.ref f) ks ss [d] zs M P) (hall : (backToKw pos (keywordEach kws Y.X.env)).all (·.1.isSome) = true := by rfl) (hks : (backToKw pos (keywordEach kws Y.X.env)).filterMap (·.1) = ks := by rfl)
    (hpl : ((backTo pos (starEach [] Y.X.env)).any (·.1) || (backToKw pos (keywordEach kws Y.X.env)).any (·.1.isNone)) = false := by rfl) (ht : MethTerm o m [] kws apos pos Y.X.env pl := by rfl) : WE Y (.Call (.Attribute o m apos) [] kws pos) ss M P := by
  subst hks
  exact .mk fun B σ G H Q st kq pins s I => meth_at ht st I h fun a s1 G1 H1 M1 d I1 g r c => PySem.W.callWith_KW0 (first := [.ref a]) (h₀ := Y.X.base) I.ok.mod.kin hk hall (thn (pk_w.run pos pins s1 σ H1 (fun ys H2 => ∃ G2 M2 zs, Tr Y.X.K G1 H1 M1 G2 H2 M2 ∧ Iss Y.X.K G2 ys zs ∧ Cal Y (.ref f) _ ss [d] zs M2 P) I1
    (c _ _ _ _ _ (st.go g) fun ys G2 H2 M2 zs g2 r2 c2 => ⟨G2, M2, zs, g2, r2, c2⟩)) fun ws s2 ⟨ys, H2, I2, rv2, G2, M2, zs, g2, r2, c2⟩ => ⟨I2.kIn, c2 pins s2 σ B G2 H2 Q [.ref a] [.ref a] ys ws ((st.go g).go g2) I2 (.cons (r.mono g2.gg) .nil) (.cons rfl .nil) r2 rv2 fun v G' H' M' d t ri q => kq _ _ _ _ _ ((g.trans g2).trans t) ri q⟩) hpl
/-- list(range(..)) -/
theorem we_lrg {te : L2.St → Hp → (Int → Int → Hp → Prop) → Prop} (hc : Y.X.calm = true) (hm : Y.X.mg "list" = none) (he : PRg Y.X e te) (h : ∀ B σ G H Q, StOk Y B σ G H M ss → (∀ a b G' H' M', Tr Y.X.K G H M G' H' M' → RgOk a b → NewL P M' (rngD a (b - a).toNat) → Q a b H') → te σ H Q) (hg : Gl Y.X "list" := by rfl) (na : starEach [e] Y.X.env = (false, eval e Y.X.env) :: starEach [] Y.X.env := by rfl) :
    WE Y (.Call (.Name "list" p) [e] [] pos) ss M P := we_pe (pe_listRg hc hg hm he na) fun B σ G H Q st k => h B σ G H _ st fun a b G' H' M' g ok q => ⟨ok, fun l hl => q.k g hl (vs := rgV a b) (by
      unfold rgV rngD
      generalize List.range (b - a).toNat = l
      induction l with
      | nil => exact .nil
      | cons i l ih => exact .cons (.int _) ih) k⟩
theorem we_lrg1 {p2 pos2 : Pos} (hc : Y.X.calm = true) (hm : Y.X.mg "list" = none) (hm2 : Y.X.mg "range" = none) (h : WE Y e ss M fun x M => ∃ n : Int, x = .int n ∧ RgOk 0 n ∧ NewL P M (rngD 0 n.toNat)) (hg : Gl Y.X "list" := by rfl) (hg2 : Gl Y.X "range" := by rfl)
    (na2 : starEach [e] Y.X.env = [(false, eval e Y.X.env)] := by rfl) (na : starEach [.Call (.Name "range" p2) [e] [] pos2] Y.X.env = (false, eval (.Call (.Name "range" p2) [e] [] pos2) Y.X.env) :: starEach [] Y.X.env := by rfl) :
    WE Y (.Call (.Name "list" p) [.Call (.Name "range" p2) [e] [] pos2] [] pos) ss M P := we_lrg hc hm (prg_1 hg2 hm2 pe_w na2) (fun B σ G H Q st k => h _ _ _ _ _ st fun v G1 H1 M1 d g r ⟨n, ed, ok, q⟩ => by
      subst ed
      cases r
      exact ⟨n, rfl, k _ _ _ _ _ g ok (by rw [Int.sub_zero]; exact q)⟩) hg na
theorem we_lrg2 {a b : Expr} {p2 pos2 : Pos} (hc : Y.X.calm = true) (hm : Y.X.mg "list" = none) (hm2 : Y.X.mg "range" = none) (h : WE Y a ss M fun x M => WE Y b ss M fun y M => ∃ i n : Int, x = .int i ∧ y = .int n ∧ RgOk i n ∧ NewL P M (rngD i (n - i).toNat)) (hg : Gl Y.X "list" := by rfl) (hg2 : Gl Y.X "range" := by rfl)
    (na2 : starEach [a, b] Y.X.env = (false, eval a Y.X.env) :: starEach [b] Y.X.env := by rfl) (nb : starEach [b] Y.X.env = (false, eval b Y.X.env) :: starEach [] Y.X.env := by rfl) (hp : (backTo pos2 (starEach [b] Y.X.env)).any (·.1) = false := by rfl) (na : starEach [.Call (.Name "range" p2) [a, b] [] pos2] Y.X.env = (false, eval (.Call (.Name "range" p2) [a, b] [] pos2) Y.X.env) :: starEach [] Y.X.env := by rfl) :
    WE Y (.Call (.Name "list" p) [.Call (.Name "range" p2) [a, b] [] pos2] [] pos) ss M P := we_lrg hc hm (prg_2 hg2 hm2 pe_w pe_w na2 nb hp) (fun B σ G H Q st k => h _ _ _ _ _ st fun v G1 H1 M1 d g r h2 => h2 _ _ _ _ _ (st.go g) fun v2 G2 H2 M2 d2 g2 r2 ⟨i, n, ed, ed2, ok, q⟩ => by
      subst ed ed2
      cases r
      cases r2
      exact ⟨i, n, rfl, rfl, k _ _ _ _ _ (g.trans g2) ok q⟩) hg na
end
end JQ

set_option Elab.async false
set_option linter.all false
set_option maxRecDepth 100000
set_option maxHeartbeats 2000000
/-! Own errors: raised, caught by several clauses with names, their fields read. -/
namespace JQ
open PySem PySem.Spec PyProof.Rows L2
open Evl (Ex ex_l ex_t)
/-! ### several clauses, with or without a name (over the hand layer) -/
abbrev Cl := Value × Option Nat × (Addr → Value → Option Addr → TS)
/-- behind a suite the clause's name is gone -/
def goneE (i : Option Nat) (E : Ends) : Ends := match i with
  | none => E
  | some i => { nx := fun σ H => E.nx (σ.set i none) H, rt := E.rt, bk := fun σ H => E.bk (σ.set i none) H, ct := fun σ H => E.ct (σ.set i none) H }
def putN (i : Option Nat) (a : Addr) (σ : L2.St) : L2.St := match i with
  | none => σ
  | some i => σ.set i (some (.ref a))
def wCl (K : PySem.W.Frag) (Wo : WX) (E : Ends) : List Cl → WX
  | [] => Wo
  | (c, i, ts) :: r => fun cls d σ H => ∃ b, PySem.W.exmOne K cls c = some b ∧ (b = true → ∀ a, H a = none → ts a cls d (goneE i E) (putN i a σ) H) ∧ (b = false → wCl K Wo E r cls d σ H)
inductive ClOk (X : Cx) : List ExceptHandler → List Cl → Prop
  | nil : ClOk X [] []
  | plain {x : Str} {c : Value} {ts : Addr → Value → Option Addr → TS} {b₀ : Stmt} {suite : List Stmt} {np p' : Pos} {hds : List ExceptHandler} {l : List Cl} (hc : Names X x c)
      (hsu : ∀ (a : Addr) (oe : Obj) (cls : Value) (d : Option Addr) (pn : List (Addr × Obj)), Zc cls d oe → (∃ vs, oe.data = .fields vs) → PSs (X.suite a ((a, oe) :: pn)) (b₀ :: suite) (ts a cls d)) (r : ClOk X hds l) :
      ClOk X (.ExceptHandler (some (.Name x np)) none (b₀ :: suite) p' :: hds) ((c, none, ts) :: l)
  | named {x n : Str} {i : Nat} {c : Value} {ts : Addr → Value → Option Addr → TS} {b₀ : Stmt} {suite : List Stmt} {np p' : Pos} {hds : List ExceptHandler} {l : List Cl} (hc : Names X x c) (hi : X.N[i]? = some n) (hl : X.env.kindOf n = some .local)
      (hsu : ∀ (a : Addr) (oe : Obj) (cls : Value) (d : Option Addr) (pn : List (Addr × Obj)), Zc cls d oe → (∃ vs, oe.data = .fields vs) → PSs (X.suite a ((a, oe) :: pn)) (b₀ :: suite) (ts a cls d)) (r : ClOk X hds l) :
      ClOk X (.ExceptHandler (some (.Name x np)) (some n) (b₀ :: suite) p' :: hds) ((c, some i, ts) :: l)
section
variable {X : Cx} {body : List Stmt} {hd : ExceptHandler} {hds : List ExceptHandler} {l : List Cl} {pos : Pos} {tb : WX → TS} {Wo : WX}
theorem ps_clauses (hst : X.stack = X.env :: X.outer) (hfr : X.env.frame = some X.env.locals) (hN : X.N.Nodup) (tk : Takes X Wo)
    (hb : ∀ (W : WX) (pn : List (Addr × Obj)) (xe : Value → Shared → Prop), Takes (X.tr pn xe) W → PassesOwn (model X.prog X.w) X.A X.env xe → PSs (X.tr pn xe) body (tb W))
    (hh : ClOk X (hd :: hds) l) : PS X (.Try body (hd :: hds) [] [] pos) (fun E σ H => tb (wCl X.K Wo E l) E σ H) := by
  constructor
  intro pins s σ H E I h
  have okX := I.ok
  have frX : X.A.frames = some (X.env :: X.outer) := by rw [okX.frames, hst]
  apply wpAny_Try_except
  have bodyRun := (hb (wCl X.K Wo E l) (X.pn ++ pins) (fun e s₁ => wpAny (model X.prog X.w) X.A (noteFrame e X.env) (fun _ s₂ => wpAny (model X.prog X.w) X.A (setFlight e none) (fun _ s₃ =>
    wpAny (model X.prog X.w) X.A (handleBy e X.env (hd :: hds)) (SP X pins E) X.xe s₃) X.xe s₂) X.xe s₁) (fun u s' caught => ?_) PassesOwn.looking).run [] s σ H E (I.toTry _) h
  · refine wpAny_mono bodyRun (fun fl s1 done => ?_) (fun e s1 he => he)
    cases fl with
    | next =>
      obtain ⟨σ', H', J', q⟩ := done
      exact wpAny_execs_nil ⟨σ', H', J'.ofTry okX, q⟩
    | brk =>
      obtain ⟨σ', H', J', q⟩ := done
      exact ⟨σ', H', J'.ofTry okX, q⟩
    | cont =>
      obtain ⟨σ', H', J', q⟩ := done
      exact ⟨σ', H', J'.ofTry okX, q⟩
    | ret u =>
      obtain ⟨v, σ', H', J', r, q⟩ := done
      exact ⟨v, σ', H', J'.ofTry okX, r, q⟩
  · obtain ⟨a, Bg, sI, pins', σ', H', cls, d, rfl, Jt, nb, up, sky, na, hos, hag, wish⟩ := caught
    have J : Inv X pins σ' H' sI := Jt.ofTry okX
    have skyX : Sky Bg (X.env :: X.outer) a (Zc cls d) X.env.locals s'.heap := by rw [← hst]; exact sky
    show wpAny (model X.prog X.w) X.A (noteFrame (.ref a) X.env) _ _ _
    refine Sky.land Zc.steady frX hfr skyX fun hp3 fly3 up3 => ?_
    have J3 : Inv X pins σ' H' { s' with heap := hp3 } := J.landed nb fly3.1 (up.trans up3) hos hag
    obtain ⟨oe3, vs3, he3, hz3, hd3⟩ := fly3.there
    have noFrame : ∀ {hp : Heap} {o : Obj} {vs : Array Value}, hp.FunFrames Bg (X.env :: X.outer) → hp.get? a = some o → o.data = .fields vs → a ∉ frs (X.env :: X.outer) := by
      intro hp o vs ff e1 e2 hm
      obtain ⟨_, o', e3, e4⟩ := ff.mem hm
      rw [e1] at e3
      cases e3
      exact e4 _ e2
    have nfr := noFrame fly3.2.2.1 he3 hd3
    have nL : a ≠ X.env.locals := fun z => nfr (List.mem_filterMap.mpr ⟨X.env, List.mem_cons_self, by rw [hfr, z]⟩)
    have nF : a ∉ X.fs := by
      intro hm
      obtain ⟨e, he, q⟩ := List.mem_filterMap.mp hm
      exact nfr (List.mem_filterMap.mpr ⟨e, List.mem_cons_of_mem _ he, q⟩)
    have S3 := J3.suite he3 hd3 na nL nF
    -- the test of a clause
    have tests : ∀ {x : Str} {np : Pos} {c : Value} {Q E : Value → Shared → Prop}, Names X x c → Q c { s' with heap := hp3 } → wpAny (model X.prog X.w) (X.A.mark (some (.ref a))) (eval (.Name x np) X.env) Q E { s' with heap := hp3 } := by
      intro x np c Q E hc q
      obtain ⟨hg, hdbg, hm | ⟨hm, hv, hnn⟩⟩ := hc
      · exact ld_glob (X := X.suite a ((a, oe3) :: (X.pn ++ pins))) S3 hg hm q hdbg
      · exact ld_blt (X := X.suite a ((a, oe3) :: (X.pn ++ pins))) S3 hg hm hv q hnn hdbg
    have tyA : PySem.W.Looks (model X.prog X.w) hp3 (typeOf (.ref a)) cls := fun A Q E s k q => wpAny_typeOf_ref (k _ _ he3) (by rw [hz3.1]; exact q)
    have walk : ∀ {hs : List ExceptHandler} {ls : List Cl}, ClOk X hs ls → wCl X.K Wo E ls cls d σ' H' → wpAny (model X.prog X.w) X.A (handleBy (.ref a) X.env hs) (SP X pins E) X.xe { s' with heap := hp3 } := by
      intro hs ls hk
      induction hk with
      | nil =>
        intro w
        apply wpAny_handleBy_nil
        obtain ⟨k1, k2, k3, oe, vs, T, oT, ts', he, hz, hdt, h1, hr⟩ := id fly3
        unfold PySem.passOn
        apply wpAny_bind
        refine wpAny_field he hdt h1 ?_
        have nn : ¬ ((Value.ref T == Value.none) = true) := by simp
        rw [if_neg nn]
        have out : wpAny (model X.prog X.w) X.A (setFlight (.ref a) X.env.frame) (fun _ s4 => wpAny (model X.prog X.w) X.A (throw (.ref a) : Sem Flow) (SP X pins E) X.xe s4) X.xe { s' with heap := hp3 } := by
          rw [hfr]
          refine HandSPX.setFlight_upZ fly3 fun hp4 q4 up4 => wpAny_throw (tk _ _ ?_)
          have z4 := (up.trans up3).trans up4
          exact ⟨a, Bg, sI, pins, σ', H', cls, d, rfl, J, nb, z4, .inr (.inr (by rw [hst]; exact q4)), na, hos, hag, w⟩
        first
          | exact wpAny_bind (wpAny_pure (wpAny_bind out))
          | exact wpAny_bind out
      | @plain x c ts b₀ suite np p' hs2 l2 hc hsu r ih =>
        intro w
        obtain ⟨b, hb1, yes, no⟩ := w
        refine wpAny_handleBy_cons (codeAny_handlers_test ?_) (by intro q; cases q)
        refine tests hc ((PySem.W.exm_one (M := model X.prog X.w) J3.kIn tyA hb1).here ?_)
        cases b with
        | false =>
          show wpAny _ X.A (handleBy (.ref a) X.env hs2) _ _ _
          exact ih (no rfl)
        | true =>
          apply codeAny_handlers_suite
          refine HandSPX.lands_againZ fly3 fun hp4 fly4 up4 => ?_
          have J4 : Inv X pins σ' H' { s' with heap := hp4 } := J.landed nb fly4.1 ((up.trans up3).trans up4) hos hag
          obtain ⟨oe4, vs4, he4, hz4, hd4⟩ := fly4.there
          have S4 := J4.suite he4 hd4 na nL nF
          refine wpAny_mono ((hsu a oe4 cls d (X.pn ++ pins) hz4 ⟨_, hd4⟩).run [] _ _ H' _ S4 (yes rfl a na)) (fun fl s6 done => ?_) (fun _ _ z => z.elim)
          cases fl with
          | next =>
            obtain ⟨σ6, H6, S6, q6⟩ := done
            exact ⟨_, _, S6.unsuite okX, q6⟩
          | brk =>
            obtain ⟨σ6, H6, S6, q6⟩ := done
            exact ⟨_, _, S6.unsuite okX, q6⟩
          | cont =>
            obtain ⟨σ6, H6, S6, q6⟩ := done
            exact ⟨_, _, S6.unsuite okX, q6⟩
          | ret u =>
            obtain ⟨v6, σ6, H6, S6, r6, q6⟩ := done
            exact ⟨_, _, _, S6.unsuite okX, r6, q6⟩
      | @named x n i c ts b₀ suite np p' hs2 l2 hc hi hln hsu r ih =>
        intro w
        obtain ⟨b, hb1, yes, no⟩ := w
        refine wpAny_handleBy_cons (codeAny_handlers_test ?_) (by intro q; cases q)
        refine tests hc ((PySem.W.exm_one (M := model X.prog X.w) J3.kIn tyA hb1).here ?_)
        cases b with
        | false =>
          show wpAny _ X.A (handleBy (.ref a) X.env hs2) _ _ _
          exact ih (no rfl)
        | true =>
          apply codeAny_handlers_suite_as
          refine HandSPX.lands_againZ fly3 fun hp4 fly4 up4 => ?_
          have J4 : Inv X pins σ' H' { s' with heap := hp4 } := J.landed nb fly4.1 ((up.trans up3).trans up4) hos hag
          obtain ⟨oe4, vs4, he4, hz4, hd4⟩ := fly4.there
          have S4 := J4.suite he4 hd4 na nL nF
          have hloc : Loc X.env.scope n := .inl hln
          refine store_ok (X := X.suite a ((a, oe4) :: (X.pn ++ pins))) (v := .ref a) S4 hN hi hloc rfl (fun s5 S5 => ?_) (.inr hln)
          refine wpAny_mono ((hsu a oe4 cls d (X.pn ++ pins) hz4 ⟨_, hd4⟩).run [] s5 _ H' _ S5 (yes rfl a na)) (fun fl s6 done => ?_) (fun _ _ z => z.elim)
          have leave : ∀ {σ6 : L2.St} {H6 : Hp} {Q : Shared → Prop}, Inv (X.suite a ((a, oe4) :: (X.pn ++ pins))) [] σ6 H6 s6 → (∀ s7, Inv X pins (σ6.set i none) H6 s7 → Q s7) →
              wpAny (model X.prog X.w) X.A (do bindName X.env n .none; unbindBehindTheSuite X.env n p') (fun _ s7 => Q s7) X.xe s6 := fun {σ6 H6 Q} S6 q => gone_ok (S6.unsuite okX) hN hi hln q
          cases fl with
          | next =>
            obtain ⟨σ6, H6, S6, q6⟩ := done
            exact leave S6 fun s7 J7 => ⟨_, _, J7, q6⟩
          | brk =>
            obtain ⟨σ6, H6, S6, q6⟩ := done
            exact leave S6 fun s7 J7 => ⟨_, _, J7, q6⟩
          | cont =>
            obtain ⟨σ6, H6, S6, q6⟩ := done
            exact leave S6 fun s7 J7 => ⟨_, _, J7, q6⟩
          | ret u =>
            obtain ⟨v6, σ6, H6, S6, r6, q6⟩ := done
            exact leave S6 fun s7 J7 => ⟨_, _, _, J7, r6, q6⟩
    exact walk hh wish
end
/-! ### clauses on data -/
abbrev Cd := Value × Option Nat × List Stmt
def putS (i : Option Nat) (a : Addr) (ss : List S) : List S := match i with
  | none => ss
  | some i => ss.set i (some (.rf a))
def goneS (i : Option Nat) (ss : List S) : List S := match i with
  | none => ss
  | some i => ss.set i none
/-- a suite ends: the error's fields are forgotten, and its name -/
def goneD (dd : Addr) (i : Option Nat) (N : DE) : DE := ⟨fun ss M => N.nx (goneS i ss) (mdel M dd), fun d M => N.rt d (mdel M dd), fun ss M => N.bk (goneS i ss) (mdel M dd), fun ss M => N.ct (goneS i ss) (mdel M dd)⟩
/-- the context of a suite -/
abbrev Bd.sui (Y : Bd) (a : Addr) (oe : Obj) (pn : List (Addr × Obj)) : Bd := ⟨Y.X.suite a ((a, oe) :: pn), fun _ _ _ _ => False⟩
/-- what the clauses make of an error -/
def hMatch (Y : Bd) (N : DE) : List Cd → Addr → List (Str × D) → Mm → List S → Prop
  | [] => Y.EE
  | (c, i, su) :: r => fun C gs M ss => ∃ b, PySem.W.exmOne Y.X.K (.ref C) c = some b ∧ (b = true → ∀ a dd pn oe, Zc (.ref C) (some dd) oe → (∃ vs, oe.data = .fields vs) → M dd = none → WSs (Y.sui a oe pn) su (putS i a ss) (mup M dd (.xd gs)) (goneD dd i N)) ∧ (b = false → hMatch Y N r C gs M ss)
/-- a suite's weakest reading -/
def tSu (X : Cx) (su : List Stmt) : Addr → Value → Option Addr → TS := fun a cls d E σ H => ∀ (oe : Obj) (pn : List (Addr × Obj)), Zc cls d oe → (∃ vs, oe.data = .fields vs) → wSs (X.suite a ((a, oe) :: pn)) su E σ H
theorem pss_su {X : Cx} {su : List Stmt} (a : Addr) (oe : Obj) (cls : Value) (d : Option Addr) (pn : List (Addr × Obj)) (hz : Zc cls d oe) (hf : ∃ vs, oe.data = .fields vs) : PSs (X.suite a ((a, oe) :: pn)) su (tSu X su a cls d) := ⟨fun pins s _ _ _ I h => h oe pn hz hf pins s I⟩
abbrev clOf (X : Cx) (l : List Cd) : List Cl := l.map fun c => (c.1, c.2.1, tSu X c.2.2)
theorem clo_nil {X : Cx} : ClOk X [] (clOf X []) := .nil
theorem clo_plain {X : Cx} {x : Str} {c : Value} {b₀ : Stmt} {suite : List Stmt} {np p' : Pos} {hds : List ExceptHandler} {l : List Cd} (hc : Names X x c) (r : ClOk X hds (clOf X l)) : ClOk X (.ExceptHandler (some (.Name x np)) none (b₀ :: suite) p' :: hds) (clOf X ((c, none, b₀ :: suite) :: l)) := .plain hc pss_su r
theorem clo_named {X : Cx} {x n : Str} (i : Nat) {c : Value} {b₀ : Stmt} {suite : List Stmt} {np p' : Pos} {hds : List ExceptHandler} {l : List Cd} (hc : Names X x c) (r : ClOk X hds (clOf X l)) (hi : X.N[i]? = some n := by rfl) (hl : X.env.kindOf n = some .local := by rfl) :
    ClOk X (.ExceptHandler (some (.Name x np)) (some n) (b₀ :: suite) p' :: hds) (clOf X ((c, some i, b₀ :: suite) :: l)) := .named hc hi hl pss_su r
theorem names_of {X : Cx} {x : Str} {C : Addr} (hm : X.mg x = some (.ref C)) (hg : Gl X x := by rfl) (hd : (x == ("__debug__" : Str)) = false := by decide) : Names X x (.ref C) := ⟨hg, hd, .inl hm⟩
section
variable {Y : Bd} {ss : List S} {M : Mm} {N : DE} {body : List Stmt} {hd : ExceptHandler} {hds : List ExceptHandler} {pos : Pos} {l : List Cd}
theorem frm_put {K : PySem.W.Frag} {G : Hp} {σ : L2.St} {a : Addr} (i : Option Nat) (h : Frm K G σ ss) : Frm K G (putN i a σ) (putS i a ss) := by
  cases i with
  | none => exact h
  | some i => exact h.set (.adr _) i
theorem ends_gone {B : Bs} {G H : Hp} {E : Ends} {Y' : Bd} (hK : Y'.X.K = Y.X.K) (dd : Addr) (i : Option Nat) (t0 : Tr Y.X.K B.G B.H B.M G H M) (er : ErrOk Y B) (eo : EndsOk Y B N E) : EndsOk Y' ⟨G, H, M⟩ (goneD dd i N) (goneE i E) := by
  have key : ∀ {σ : L2.St} {G2 H2 : Hp} {M2 : Mm} {s2 : List S}, StOk Y' ⟨G, H, M⟩ σ G2 H2 M2 s2 → Tr Y.X.K B.G B.H B.M G2 H2 (mdel M2 dd) ∧ Frm Y.X.K G2 σ s2 := fun {σ G2 H2 M2 s2} so => by
    have t := so.t
    have f := so.f
    rw [hK] at t f
    exact ⟨(t0.trans t).trans (t.wd.drop msub_del), f⟩
  have rt : ∀ v G2 H2 M2 d, Tr Y'.X.K G H M G2 H2 M2 → Is Y'.X.K G2 v d → N.rt d (mdel M2 dd) → E.rt v H2 := fun v G2 H2 M2 d t r q => by
    rw [hK] at t r
    exact eo.rt v G2 H2 _ d ((t0.trans t).trans (t.wd.drop msub_del)) r q
  cases i with
  | none => exact ⟨fun σ G2 H2 M2 s so q => eo.nx _ _ _ _ _ ⟨(key so).1, er, (key so).2⟩ q, rt, fun σ G2 H2 M2 s so q => eo.bk _ _ _ _ _ ⟨(key so).1, er, (key so).2⟩ q, fun σ G2 H2 M2 s so q => eo.ct _ _ _ _ _ ⟨(key so).1, er, (key so).2⟩ q⟩
  | some i => exact ⟨fun σ G2 H2 M2 s so q => eo.nx _ _ _ _ _ ⟨(key so).1, er, (key so).2.forget none i⟩ q, rt, fun σ G2 H2 M2 s so q => eo.bk _ _ _ _ _ ⟨(key so).1, er, (key so).2.forget none i⟩ q, fun σ G2 H2 M2 s so q => eo.ct _ _ _ _ _ ⟨(key so).1, er, (key so).2.forget none i⟩ q⟩
theorem match_cl {B : Bs} {G H : Hp} {E : Ends} {Wo : WX} (t0 : Tr Y.X.K B.G B.H B.M G H M) (er : ErrOk Y B) (eo : EndsOk Y B N E)
    (hW : ∀ C gs fs d σ G H M M' ss, Y.EE C gs M' ss → Msub M' M → Tr Y.X.K B.G B.H B.M G H M → Frm Y.X.K G σ ss → B.H d = none → G d = none → M d = none → H d = some (.xd fs) → IsF Y.X.K G fs gs → Wo (.ref C) (some d) σ H) :
    ∀ (l : List Cd) C gs fs d σ G' H' M' M2 ss', hMatch Y N l C gs M2 ss' → Msub M2 M' → Tr Y.X.K G H M G' H' M' → Frm Y.X.K G' σ ss' → H d = none → G' d = none → M' d = none → H' d = some (.xd fs) → IsF Y.X.K G' fs gs → wCl Y.X.K Wo E (clOf Y.X l) (.ref C) (some d) σ H'
  | [], C, gs, fs, d, σ, G', H', M', M2, ss', ee, ms, t, f, n, ng, nm, e, r => hW C gs fs d σ G' H' M' M2 ss' ee ms (t0.trans t) f (by
      cases c : B.H d with
      | none => rfl
      | some u =>
        obtain ⟨u', c'⟩ := t0.lv d u c
        rw [c'] at n
        cases n) ng nm e r
  | (c, i, su) :: l, C, gs, fs, d, σ, G', H', M', M2, ss', ⟨b, hb, yes, no⟩, ms, t, f, n, ng, nm, e, r => by
    refine ⟨b, hb, fun eb a ha => ?_, fun eb => match_cl t0 er eo hW l C gs fs d σ G' H' M' M2 ss' (no eb) ms t f n ng nm e r⟩
    intro oe pn hz hf
    have m2 : M2 d = none := by
      cases c : M2 d with
      | none => rfl
      | some u => rw [ms d u c] at nm; cases nm
    have t2 : Tr Y.X.K G H M G' H' (mup M2 d (.xd gs)) := by
      have t1 := t.trans (t.wd.drop ms)
      refine ⟨t1.gg, ⟨t1.gh, fun a u hu => ?_⟩, fun a u hu m => ?_, t1.lv⟩
      · by_cases ca : a = d
        · subst ca
          rw [mup_same] at hu
          cases hu
          exact ⟨ng, _, e, r⟩
        · rw [mup_ne ca] at hu
          exact t1.wd.mo a u hu
      · rw [mup_ne (ne_of_none hu n)]
        exact t1.fr a u hu m
    exact yes eb a d pn oe hz hf m2 ⟨G, H, M⟩ _ _ _ _ ⟨t2, ⟨fun _ _ _ _ => False, takes0, fun C gs fs d σ G H M M' ss e => e.elim⟩, frm_put i f⟩ (ends_gone (Y := Y) (Y' := Y.sui a oe pn) rfl d i t0 er eo)
/-- try: body except ..: .. -/
theorem ws_try (hst : Y.X.stack = Y.X.env :: Y.X.outer) (hfr : Y.X.env.frame = some Y.X.env.locals) (hN : Y.X.N.Nodup) (hh : ClOk Y.X (hd :: hds) (clOf Y.X l))
    (h : ∀ pn xe, PassesOwn (model Y.X.prog Y.X.w) Y.X.A Y.X.env xe → WSs ⟨Y.X.tr pn xe, hMatch Y N l⟩ body ss M N) : WS Y (.Try body (hd :: hds) [] [] pos) ss M N := .mk fun B σ G H E so eo pins s I => by
  obtain ⟨Wo, tk, hW⟩ := so.er
  refine (ps_clauses (tb := fun W E σ H => ∀ pn xe, Takes (Y.X.tr pn xe) W → PassesOwn (model Y.X.prog Y.X.w) Y.X.A Y.X.env xe → wSs (Y.X.tr pn xe) body E σ H) hst hfr hN tk (fun W pn xe tk2 po => ⟨fun pins s _ _ _ I h => h pn xe tk2 po pins s I⟩) hh).run pins s σ H E I ?_
  intro pn xe tk2 po
  have eo2 := eo.base so.t so.er
  refine h pn xe po ⟨G, H, M⟩ σ G H E ⟨so.refl, ⟨_, tk2, match_cl so.t so.er eo hW l⟩, so.f⟩ ⟨fun σ G2 H2 M2 s so2 q => ?_, fun v G2 H2 M2 d t r q => eo2.rt v G2 H2 M2 d t r q, fun σ G2 H2 M2 s so2 q => ?_, fun σ G2 H2 M2 s so2 q => ?_⟩
  · exact eo2.nx σ G2 H2 M2 s ⟨so2.t, so.er.base so.t, so2.f⟩ q
  · exact eo2.bk σ G2 H2 M2 s ⟨so2.t, so.er.base so.t, so2.f⟩ q
  · exact eo2.ct σ G2 H2 M2 s ⟨so2.t, so.er.base so.t, so2.f⟩ q
/-- n.f in a suite, n the error -/
theorem we_errf {a dd C : Addr} {oe : Obj} {pn : List (Addr × Obj)} {e : Expr} {f : Str} {gs : List (Str × D)} {P : D → Mm → Prop} (T : XfC Y.X.K C) (hno : PySem.W.findIn Y.X.K (.ref C) f = some none) (hz : Zc (.ref C) (some dd) oe) (hf : ∃ vs, oe.data = .fields vs)
    (h : WE (Y.sui a oe pn) e ss M fun x M => x = .rf a ∧ ∃ gs d, M dd = some (.xd gs) ∧ gs.lookup f = some d ∧ P d M) (hb : attributeBase e f Y.X.env (eval e Y.X.env) = eval e Y.X.env := by rfl) : WE (Y.sui a oe pn) (.Attribute e f pos) ss M P :=
  we_pe (pe_xf T hno hz hf pe_w hb) fun B σ G H Q st k => by
    refine h _ _ _ _ _ st fun v G1 H1 M1 x g r ⟨ex, gs, d, em, lk, q⟩ => ?_
    subst ex
    cases r
    obtain ⟨_, u, hu, ob⟩ := g.wd.mo _ _ em
    obtain ⟨vs, rfl, rf⟩ := ob.xd
    obtain ⟨y, l2, r2⟩ := rf.look lk
    exact ⟨rfl, rfl, dd, vs, y, rfl, hu, l2, k _ _ _ _ _ g r2 q⟩
end
/-! ### raise C(e, ..), C an own class whose __init__ stores its arguments -/
def spErr (C : Addr) (fs : List Str) : Sp := fun vs H Q _ => ∃ a ys, vs = .ref a :: ys ∧ ys.length = fs.length ∧ H a = some (exo a C none) ∧ ∀ H2 dx, H dx = none → dx ≠ a → H2 a = some (exo a C (some dx)) → H2 dx = some (exd dx (fs.zip ys).reverse) → (∀ b, b ≠ a → b ≠ dx → H2 b = H b) → Q .non H2
structure ErrT (X : Cx) (C : Addr) (x : Str) (fs : List Str) : Prop where
  o : OexC X.K C
  gc : X.mg x = some (.ref C)
  ini : ∃ fI fd ps k, PySem.W.findIn X.K (.ref C) "__init__" = some (some (.ref fI)) ∧ PySem.W.typeIn X.K (.ref fI) = some (.type "function") ∧ FnOk X.prog X.w X.K X.mg X.base (L2.CX X.prog X.w) k fI fd ps (spErr C fs) ∧ Room (k + 1) X.A ∧ Binds X.K fd ps []
section
variable {Y : Bd} {ss : List S} {M : Mm} {N : DE} {e : Expr} {es : List Expr} {pos pos2 p : Pos} {C : Addr} {x : Str} {fs : List Str}
theorem ws_raise (T : ErrT Y.X C x fs) (hc : Y.X.calm = true) (h : WA Y (e :: es) ss M fun ds M1 => ds.length = fs.length ∧ fs.length ≤ 900 ∧ ∃ M2, Msub M2 M1 ∧ Y.EE C (fs.zip ds).reverse M2 ss) (hg : Gl Y.X x := by rfl)
    (hdb : (x == ("__debug__" : Str)) = false := by decide) (he : starEach (e :: es) Y.X.env = (false, eval e Y.X.env) :: starEach es Y.X.env := by rfl) (hpl : (backTo pos (starEach es Y.X.env)).any (·.1) = false := by rfl) : WS Y (.Raise (some (.Call (.Name x p) (e :: es) [] pos)) none pos2) ss M N := .mk fun B σ G H E so eo pins s I => by
  obtain ⟨fI, fd, ps, k, iC, tI, F, hr, hb⟩ := T.ini
  obtain ⟨W, tk, hW⟩ := so.er
  refine (ps_raise hc tk (pmk_oex (dvs := []) T.o iC tI F hr hb .nil passL hg T.gc pa_w hdb he hpl)).run pins s σ H E I ?_
  refine h _ _ _ _ _ so fun vs G1 H1 M1 ds g r ⟨hl, hz, M2, ms, ee⟩ => ⟨by rw [r.length, hl]; omega, fun a ha => ?_⟩
  refine ⟨a, vs ++ [], rfl, by rw [List.append_nil, r.length, hl], upd_same, fun H2 dx hdx ne e1 e2 rest => ⟨rfl, dx, _, e1, e2, ?_, ?_⟩⟩
  · rw [upd_ne ne] at hdx
    exact hdx
  · rw [upd_ne ne] at hdx
    have eH : upd (del H2 a) dx (.xd (fs.zip (vs ++ [])).reverse) = upd H1 dx (.xd (fs.zip (vs ++ [])).reverse) := by
      funext b
      by_cases c : b = dx
      · rw [c, upd_same, upd_same]
      · rw [upd_ne c, upd_ne c]
        by_cases c2 : b = a
        · rw [c2, del_same, ha]
        · rw [del_ne c2, rest b c2 c, upd_ne c2]
    rw [eH]
    have so1 := so.go g
    have t2 := so1.w.extra (o := .xd (fs.zip (vs ++ [])).reverse) hdx
    have so2 := so1.go t2
    refine hW C _ _ dx σ G1 _ M1 M2 ss ee ms so2.t so2.f ?_ (so1.w.gnone hdx) (so1.w.mnone hdx) upd_same ?_
    · cases c : B.H dx with
      | none => rfl
      | some u =>
        obtain ⟨u', c'⟩ := so1.t.lv dx u c
        rw [c'] at hdx
        cases hdx
    · rw [List.append_nil]
      have key : ∀ {fs : List Str} {vs : List V} {ds : List D}, Iss Y.X.K G1 vs ds → IsF Y.X.K G1 (fs.zip vs) (fs.zip ds) := by
        intro fs
        induction fs with
        | nil => intro vs ds _; exact .nil
        | cons f fs ih =>
          intro vs ds r
          cases r with
          | nil => exact .nil
          | cons h r => exact .cons h (ih r)
      have app : ∀ {a b : List (Str × V)} {c d : List (Str × D)}, IsF Y.X.K G1 a c → IsF Y.X.K G1 b d → IsF Y.X.K G1 (a ++ b) (c ++ d) := by
        intro a b c d h1 h2
        induction c generalizing a with
        | nil => cases h1; exact h2
        | cons y c ih =>
          cases h1 with
          | cons h r => exact .cons h (ih r)
      have rev : ∀ {a : List (Str × V)} {c : List (Str × D)}, IsF Y.X.K G1 a c → IsF Y.X.K G1 a.reverse c.reverse := by
        intro a c h
        induction c generalizing a with
        | nil => cases h; exact .nil
        | cons y c ih =>
          cases h with
          | cons h r =>
            rw [List.reverse_cons, List.reverse_cons]
            exact app (ih r) (.cons h .nil)
      exact rev (key r)
end
/-- an own __init__ of one field, of two fields -/
theorem err1 {P : Program} {w : World} {K : PySem.W.Frag} {mg : Str → Option Value} {base : Heap} {x qual : Str} {st : Stmt} {fA C : Addr} {fd : FuncData} {N ps : List Str} {f : Str} {o e : Expr} {p1 p2 : Pos} {nN nA : Str} {po pe : Pos} (F : Fun K x qual st fA fd) (sc : FnScope N ps (defScope st)) (hl : ps.length = 2) (T : OexC K C) (hno : PySem.W.findIn K (.ref C) f = some none)
    (hb : ∀ (cdv : Value) (A : Around) (outer : List Env) (s : Shared) (H : Hp) (E : XK), PSs (cxOf (L2.CX P w) P w K mg base N qual (defScope st) fA cdv A outer s H E) (defBody st) (tOst K f (fun σ H Q => ∃ v, σ[0]? = some (some v) ∧ Q v H) (fun σ H Q => ∃ v, σ[1]? = some (some v) ∧ Q v H))) :
    FnOk P w K mg base (L2.CX P w) 1 fA fd ps (spErr C [f]) :=
  F.okX sc (fun vs H Q E ⟨a, ys, ev, hy, _⟩ => by rw [ev, List.length_cons, hy, hl]; rfl) fun cdv A outer s H vs Q E hr ⟨a, ys, ev, hy, ea, hq⟩ => by
    obtain ⟨y, rfl⟩ : ∃ y, ys = [y] := by
      match ys, hy with
      | [y], _ => exact ⟨y, rfl⟩
    subst ev
    refine ⟨_, hb cdv A outer s H E, y, rfl, .ref a, rfl, a, C, rfl, T, hno, .inl ⟨ea, fun dx hd ne => ?_⟩⟩
    exact hq _ dx hd ne upd_same (by rw [upd_ne ne, upd_same]; rfl) fun b h1 h2 => by rw [upd_ne h1, upd_ne h2]
theorem err1D {P : Program} {w : World} {K : PySem.W.Frag} {mg : Str → Option Value} {base : Heap} {x qual : Str} {params : Arguments} {body : List Stmt} {scope : Scope} {dvs : List V} {kws : List (Str × V)} {fA C : Addr} {fd : FuncData} {N ps : List Str} {f : Str} (F : FunD K x qual params body scope dvs kws fA fd) (sc : FnScope N ps scope) (hl : ps.length = 2) (T : OexC K C) (hno : PySem.W.findIn K (.ref C) f = some none)
    (hb : ∀ (cdv : Value) (A : Around) (outer : List Env) (s : Shared) (H : Hp) (E : XK), PSs (cxOf (L2.CX P w) P w K mg base N qual scope fA cdv A outer s H E) body (tOst K f (fun σ H Q => ∃ v, σ[0]? = some (some v) ∧ Q v H) (fun σ H Q => ∃ v, σ[1]? = some (some v) ∧ Q v H))) :
    FnOk P w K mg base (L2.CX P w) 1 fA fd ps (spErr C [f]) :=
  F.ok sc (fun vs H Q E ⟨a, ys, ev, hy, _⟩ => by rw [ev, List.length_cons, hy, hl]; rfl) fun cdv A outer s H vs Q E hr ⟨a, ys, ev, hy, ea, hq⟩ => by
    obtain ⟨y, rfl⟩ : ∃ y, ys = [y] := by
      match ys, hy with
      | [y], _ => exact ⟨y, rfl⟩
    subst ev
    refine ⟨_, hb cdv A outer s H E, y, rfl, .ref a, rfl, a, C, rfl, T, hno, .inl ⟨ea, fun dx hd ne => ?_⟩⟩
    exact hq _ dx hd ne upd_same (by rw [upd_ne ne, upd_same]; rfl) fun b h1 h2 => by rw [upd_ne h1, upd_ne h2]
/-- a test that is asked as a value -/
theorem iteB {b : Bool} {A B : Prop} (ht : b = true → A) (hf : b = false → B) : if b = true then A else B := by
  cases b with
  | true => exact ht rfl
  | false => exact hf rfl
end JQ

set_option Elab.async false
set_option linter.all false
set_option maxRecDepth 100000
set_option maxHeartbeats 2000000
/-! len(x) by an own __len__. -/
namespace JQ
open PySem PySem.Spec PyProof.Rows L2
open Evl (Ex ex_l ex_t)
theorem inst_of {X : Cx} {pins : List (Addr × Obj)} {σ : L2.St} {H : Hp} {s : Shared} {a C dx : Addr} {fs : List (Str × V)} (I : Inv X pins σ H s) (e : H a = some (.ins C dx fs)) : ∃ ox od, PySem.W.InstAt s.heap a ox C (some od) := by
  obtain ⟨mA, O, _⟩ := ins_get I.hok e
  obtain ⟨od, J, _⟩ := O.look
  exact ⟨_, od, J⟩
section
variable {Y : Bd} {ss : List S} {M : Mm} {P : D → Mm → Prop} {k : Nat} {f C : Addr} {fd : FuncData} {ps : List Str} {S : Sd} {x : D} {fs : List (Str × D)} {g : List D → List D → List D}
def rLenO (X : Cx) (C : Addr) (sp : Sp) : List V → Hp → VK → Prop := fun vs H Q => ∃ a dx fs, vs = [.ref a] ∧ H a = some (.ins C dx fs) ∧ sp vs H (fun v H' => ∃ n : Nat, v = .int n ∧ n < 2 ^ 63 ∧ Q (.int n) H') E0
theorem cr_lenO {X : Cx} {sp : Sp} (hm : Meth X.K C "__len__" f) (F : FnG X.prog X.w X.K X.mg X.base k f fd ps sp) (hg : X.A.guards = some []) (hr : Room (k + 1) X.A) (hb : ∀ (s : Shared) us, X.K.In s.heap → us.length = 1 → BindsTo s fd ⟨us, []⟩ (ps.zip us)) : CallR X (.builtin "len") (rLenO X C sp) := by
  intro pins s σ H vs us Q I r h
  obtain ⟨a, dx, fs, rfl, ha, h⟩ := h
  cases r with
  | @cons _ u _ us' h1 h2 =>
    cases h2
    obtain rfl : u = Value.ref a := h1
    obtain ⟨ox, od, J⟩ := inst_of I ha
    obtain ⟨m, Fm⟩ := I.fr
    refine PySem.W.len_K Fm I.mod.kin J hm.at_ hm.fn ?_
    refine wpAny_call (codeAny_mono (F.run X.A.in1 X.stack s H ⟨[.ref a], []⟩ [.ref a] [.ref a] _ E0 hg hr.in1 I.env0.in1 (hb s [.ref a] I.kIn rfl) (.cons rfl .nil) h) fun res s2 hq => ?_)
    match res, hq with
    | .error e, hq => exact passL pins σ H s e s2 I hq
    | .ok (.ret u), hq =>
      obtain ⟨v, H', I3, rv, n, ev, hn, q⟩ := I.after hq
      subst ev
      obtain ⟨t, rfl⟩ : ∃ t, u = Value.int n t := rv
      exact ⟨⟨by omega, by omega⟩, V.int n, H', I3.tok _, ⟨_, rfl⟩, q⟩
    | .ok .next, hq => exact False.elim hq
    | .ok .brk, hq => exact False.elim hq
    | .ok .cont, hq => exact False.elim hq
theorem c_lenO (hx : OAt M x C fs) (hm : Meth Y.X.K C "__len__" f) (F : FnG Y.X.prog Y.X.w Y.X.K Y.X.mg Y.X.base k f fd ps (spD Y.X.K S)) (hg : Y.X.A.guards = some []) (hr : Room (k + 1) Y.X.A) (hb : ∀ us : List Value, us.length = ps.length → bindArgs fd ⟨us, []⟩ = pure (ps.zip us)) (hp : ps.length = 1)
    (h : S [x] M (fun d M' => ∃ n : Nat, d = .int n ∧ n < 2 ^ 63 ∧ P (.int n) M') fun _ _ _ => False) : OpC Y (.builtin "len") [x] M P :=
  ⟨_, cr_lenO hm F hg hr (fun s us _ hl => .of_eq (hb us (hl.trans hp.symm))), fun G H vs Q w r k => by
    obtain ⟨v, rfl, rx⟩ := iss_one r
    obtain ⟨a, dx, vs, rfl, hh, rf⟩ := hx.get w rx
    refine ⟨a, dx, vs, rfl, hh, G, M, [x], _, _, w, .cons rx .nil, h, fun v G' H' M' d t ri ⟨n, ed, hn, q⟩ => ?_, fun C gs fs d G' H' M' M2 ee => ee.elim⟩
    subst ed
    cases ri
    exact ⟨n, rfl, hn, k _ _ _ _ _ t (.int _) q⟩⟩
end
/-! ### isinstance(n, C) in a suite, n the error -/
structure ExcI (K : PySem.W.Frag) (C : Addr) : Prop where
  cl : (PySem.W.clsIn K C).isSome = true
  ga : PySem.W.findIn K (.ref C) "__getattribute__" = some (some (.builtin "BaseException.__getattribute__"))
  gt : PySem.W.findIn K (.ref C) "__getattr__" = some none
  sb : PySem.W.subIn K (.ref C) (.type "BaseException") = some true
  ha : PySem.W.findIn K (.ref C) "__class__" = some (some (.builtin "object.__class__"))
  hn : PySem.W.specialIn K (.builtin "object.__class__") "__get__" = some (some (.builtin "getset_descriptor.__get__"))
  tk : PySem.W.takesIn K (.builtin "object.__class__") = some true
  mo : PySem.W.mroIn K C (.type "object") = some true
def excIB (K : PySem.W.Frag) (C : Addr) : Bool := (PySem.W.clsIn K C).isSome && (decide (PySem.W.findIn K (.ref C) "__getattribute__" = some (some (.builtin "BaseException.__getattribute__"))) && (decide (PySem.W.findIn K (.ref C) "__getattr__" = some none) && (decide (PySem.W.subIn K (.ref C) (.type "BaseException") = some true) &&
  (decide (PySem.W.findIn K (.ref C) "__class__" = some (some (.builtin "object.__class__"))) && (decide (PySem.W.specialIn K (.builtin "object.__class__") "__get__" = some (some (.builtin "getset_descriptor.__get__"))) && (decide (PySem.W.takesIn K (.builtin "object.__class__") = some true) && decide (PySem.W.mroIn K C (.type "object") = some true)))))))
theorem excIB_ok {K : PySem.W.Frag} {C : Addr} (h : excIB K C = true) : ExcI K C := by
  obtain ⟨h1, h⟩ := Bool.and_eq_true_iff.mp h
  obtain ⟨h2, h⟩ := Bool.and_eq_true_iff.mp h
  obtain ⟨h3, h⟩ := Bool.and_eq_true_iff.mp h
  obtain ⟨h4, h⟩ := Bool.and_eq_true_iff.mp h
  obtain ⟨h5, h⟩ := Bool.and_eq_true_iff.mp h
  obtain ⟨h6, h⟩ := Bool.and_eq_true_iff.mp h
  obtain ⟨h7, h8⟩ := Bool.and_eq_true_iff.mp h
  exact ⟨h1, of_decide_eq_true h2, of_decide_eq_true h3, of_decide_eq_true h4, of_decide_eq_true h5, of_decide_eq_true h6, of_decide_eq_true h7, of_decide_eq_true h8⟩
theorem c_isE {Y : Bd} {M : Mm} {P : D → Mm → Prop} {a dd C : Addr} {oe : Obj} {pn : List (Addr × Obj)} {gs : List (Str × D)} {c : V} {cv : Value} {b : Bool} (T : ExcI Y.X.K C) (hz : Zc (.ref C) (some dd) oe) (hf : ∃ vs, oe.data = .fields vs) (em : M dd = some (.xd gs)) (hc : ClsV c cv) (hk : PySem.W.kitOne Y.X.K (.ref C) cv = some b) (q : P (.bl b) M) :
    OpC (Y.sui a oe pn) (.builtin "isinstance") [.rf a, .adr c] M P := by
  refine ⟨fun vs H Q => vs = [.ref a, c] ∧ (∃ fs, H dd = some (.xd fs)) ∧ Q (.bl b) H, ?_, fun G H vs Q w r k => ?_⟩
  · intro pins s σ H vs us Q I r h
    obtain ⟨rfl, ⟨fs, hx⟩, q⟩ := h
    cases r with
    | @cons _ u _ us' h1 h2 =>
      obtain rfl : u = Value.ref a := h1
      cases h2 with
      | @cons _ u2 _ us2 h3 h4 =>
        cases h4
        have e2 := hc.eq h3
        subst e2
        obtain ⟨hget, _⟩ := I.pin (a, oe) (List.mem_append.mpr (.inl List.mem_cons_self))
        obtain ⟨vs', hv⟩ := hf
        have ho' : ObjOk (Y.sui a oe pn).X.prog (Y.sui a oe pn).X.w H s.heap dd (.xd fs) := I.hok dd _ hx
        obtain ⟨mA, hns, _⟩ := ho'
        obtain ⟨od, ho, _⟩ := lookIn_ns hns
        have J : PySem.W.InstAt s.heap a oe C (some od) := ⟨hget, hz.1, by unfold PySem.W.notCls; rw [hv] <;> rfl, by rw [hz.2]; exact ho⟩
        exact PySem.W.kia_one (PySem.W.kitx_exc T.cl T.ga T.gt T.sb T.ha T.hn T.tk T.mo) I.kIn J hk (fun z => nomatch z) fun tk => ⟨.bl b, H, I.kept (t' := tk) fun _ _ z => z, rfl, q⟩
  · obtain ⟨v, x, rfl, h1, h2⟩ := iss_two r
    cases h1
    cases h2
    obtain ⟨_, u, hu, ob⟩ := w.mo _ _ em
    obtain ⟨fs, rfl, _⟩ := ob.xd
    exact ⟨rfl, ⟨fs, hu⟩, k _ _ _ _ _ w.refl (.bl b) q⟩
end JQ

set_option Elab.async false
set_option linter.all false
set_option maxRecDepth 100000
set_option maxHeartbeats 2000000
/-! A law's end, where its def keeps a promise on data. -/
namespace JQ
open PySem PySem.Spec PyProof.Rows L2
open Evl (Ex ex_l ex_t)
/-- what is wanted of a law: True, whatever the script -/
def SLaw : Sd := fun ds M P _ => ∃ ns : List Int, ds = [.scr (ns.map D.int)] ∧ ns.length ≤ 63 ∧ M = m0 ∧ ∀ M', P (.bl true) M'
section
variable {P : Program} {w : World} {K : PySem.W.Frag} {mg mb : Str → Option Value} {k : Nat} {fa a : Addr} {fd : FuncData} {x : Str} {sp : Sp} {s₁ : Shared} {vs : List Value} {ns : List Int}
/-- how a law must end -/
abbrev EndsTrue (s₁ : Shared) : Result → Shared → Prop := fun r s' => r = .ok (.ret (.bool true)) ∧ OldK s₁.heap s'.heap ∧ s'.os = s₁.os ∧ AllBare s'.gens
theorem ends_from (KX : K.In s₁.heap) (hns : s₁.heap.Ns mainGlobals mg) (hb : s₁.heap.Ns builtinsNs mb) (hbb : ∀ x : Str, x ≠ "__name__" → mb x = bootBuiltins x) (hlim : s₁.heap.NoLimit) (hgen : s₁.gens = #[])
    (ha : s₁.heap.get? a = some { cls := .type "list", data := .seq vs.toArray }) (hr : Room k callerA) (F : ∀ base : Heap, K.In base → base.Ns mainGlobals mg → FnG P w K mg base k fa fd [x] sp) (hbind : ∀ (s : Shared) (u : Value), BindsTo s fd ⟨[u], []⟩ [(x, u)])
    (H : Hp) (hO : Only H) (hsp : sp [.ref a] H (fun v _ => v = .bl true) fun _ _ _ => False) (hok : HOk P w H s₁.heap) (hA : ∀ b, H b ≠ none → b = a) (hK : H a ≠ none → K.lookup a = none) :
    codeAny (model P w) callerA (.call (.ref fa) ⟨[.ref a], []⟩) (EndsTrue s₁) s₁ := by
  have only : ∀ {b : Addr}, (∀ u, H b = some u → False) → H b = none := fun {b} z => by
    cases q : H b with
    | none => rfl
    | some u => exact (z u q).elim
  have inBase : ∀ {b : Addr} {o : Obj}, s₁.heap.get? b = some o → H b = none → (hidT s₁.heap H).get? b = some o := fun e n => hidT_get e n
  have noDict : ∀ {b : Addr} {o : Obj} {es : Array DictEntry} {ep : Nat}, s₁.heap.get? b = some o → o.data = .dict es ep → H b = none := fun {b o es ep} e d => only fun u q => by
    have eb : b = a := hA b (by rw [q]; simp)
    subst eb
    rw [ha] at e
    cases e
    have d' : Data.seq vs.toArray _ = Data.dict es ep := d
    cases d'
  have nsBase : ∀ {b : Addr} {m : Str → Option Value}, s₁.heap.Ns b m → (hidT s₁.heap H).Ns b m := fun {b m} ⟨o, es, ep, e, d, r⟩ => ⟨o, es, ep, inBase e (noDict e d), d, r⟩
  have KB : K.In (hidT s₁.heap H) := fun b o e => inBase (KX b o e) (only fun u q => by
    have eb : b = a := hA b (by rw [q]; simp)
    subst eb
    rw [hK (by rw [q]; simp)] at e
    cases e)
  obtain ⟨mc, c1, c2⟩ := hlim
  have md : Mod K mg (hidT s₁.heap H) := ⟨KB, nsBase hns, ⟨mb, nsBase hb, hbb⟩, ⟨mc, nsBase c1, c2⟩⟩
  have e0 : Env0 P w K mg (hidT s₁.heap H) callerA [] s₁ H := ⟨rfl, md, fun b o e => of_hidT e, Nat.le_of_eq (hidT_size _ _), trivial, fun b hb => absurd (show b ∈ ([] : List Addr) from hb) (by simp), hok, .of_eq hgen⟩
  have go := (F _ KB (nsBase hns)).run callerA [] s₁ H ⟨[.ref a], []⟩ [.ref a] [.ref a] _ _ rfl hr e0 (hbind s₁ (.ref a)) (.cons rfl .nil) hsp
  refine codeAny_mono go fun res s' h => ?_
  match res, h with
  | .error e, h =>
    obtain ⟨_, _, _, _, _, _, _, _, _, _, _, _, z⟩ := h
    exact z.elim
  | .ok .next, h => exact False.elim h
  | .ok .brk, h => exact False.elim h
  | .ok .cont, h => exact False.elim h
  | .ok (.ret u), ⟨v, H', os, bare, un, hok', r', q⟩ =>
    have ev : v = .bl true := q
    subst ev
    obtain rfl : u = Value.bool true := r'
    refine ⟨rfl, OldK.of_keep fun b o e => ?_, os, bare⟩
    rcases hO b with n | ⟨ob, xs, n⟩
    · exact un.keep b o e n (by intro z; exact absurd (show b ∈ ([] : List Addr) from z) (by simp)) (by simp)
    · obtain ⟨e1, _⟩ := hok b _ n
      obtain ⟨e2, _⟩ := hok' b _ (un.frzs b ob _ n)
      rw [e] at e1
      cases e1
      exact e2
theorem law_callG (KX : K.In s₁.heap) (hns : s₁.heap.Ns mainGlobals mg) (hb : s₁.heap.Ns builtinsNs mb) (hbb : ∀ x : Str, x ≠ "__name__" → mb x = bootBuiltins x) (hlim : s₁.heap.NoLimit) (hgen : s₁.gens = #[])
    (ha : s₁.heap.get? a = some { cls := .type "list", data := .seq vs.toArray }) (hi : IntsAre vs ns) (hl : ns.length ≤ 63) (hr : Room k callerA) (F : ∀ base : Heap, K.In base → base.Ns mainGlobals mg → FnG P w K mg base k fa fd [x] (spD K SLaw)) (hbind : ∀ (s : Shared) (u : Value), BindsTo s fd ⟨[u], []⟩ [(x, u)]) :
    codeAny (model P w) callerA (.call (.ref fa) ⟨[.ref a], []⟩) (EndsTrue s₁) s₁ := by
  have rv := vals_ints hi
  have lenV := hi.length
  have hz : ns.length ≤ sizeLine := Nat.le_trans hl (by decide)
  have wish : ∀ H : Hp, SqL K H a (ns.map V.int) → spD K SLaw [.ref a] H (fun v _ => v = .bl true) fun _ _ _ => False := fun H sq =>
    ⟨H, m0, [.scr (ns.map D.int)], fun d _ => d = .bl true, fun _ _ _ => False, ⟨Ex.refl _, fun b o e => nomatch e⟩, .cons (.scr sq iss_of_ints) .nil, ⟨ns, rfl, hl, rfl, fun _ => rfl⟩, fun v G' H' M' d t ri e => by
      subst e
      cases ri
      rfl, fun C gs fs d G' H' M' M2 ee => ee.elim⟩
  cases hk : K.lookup a with
  | some o =>
    have e := KX a o hk
    rw [ha] at e
    cases e
    exact ends_from KX hns hb hbb hlim hgen ha hr F hbind (fun _ => none) (fun _ => .inl rfl) (wish _ (.inr ⟨_, vs.toArray, _, hk, rfl, rfl, rfl, by rw [List.size_toArray, lenV]; exact hz, by simpa using rv⟩)) (fun b u z => nomatch z) (fun b z => absurd rfl z) fun z => absurd rfl z
  | none =>
    have at_ : (fun b => if b = a then some (HO.frz { cls := .type "list", data := .seq vs.toArray } (.lst (ns.map V.int))) else none) a = some (.frz { cls := .type "list", data := .seq vs.toArray } (.lst (ns.map V.int))) := if_pos rfl
    refine ends_from KX hns hb hbb hlim hgen ha hr F hbind (fun b => if b = a then some (.frz { cls := .type "list", data := .seq vs.toArray } (.lst (ns.map V.int))) else none) (fun b => ?_) (wish _ (.inl (.inr ⟨_, at_⟩))) (fun b u z => ?_) (fun b z => ?_) fun _ => hk
    · by_cases c : b = a
      · exact .inr ⟨_, _, if_pos c⟩
      · exact .inl (if_neg c)
    · by_cases c : b = a
      · have z' := (if_pos c).symm.trans z
        cases z'
        subst c
        exact ⟨ha, by rw [List.length_map]; exact hz, vs, _, rv, ha⟩
      · have z' := (if_neg c).symm.trans z
        cases z'
    · by_cases c : b = a
      · exact c
      · exact absurd (if_neg c) z
end
/-- the end: F gives the written part and the law's promise over every base -/
theorem walk_ofG {l : PySem.W.OpenLaw} {k : Nat} {q : Program} {loose : List Str} {XP : (Str → Option Value) → Heap → Prop} {YP : World → Heap → Prop} {d : DefRec} {x : Str} (hn : l.most = some 63) (hdf : d.params.defaults = []) (hr : Room k callerA)
    (F : ∀ (w : World) (mg : Str → Option Value) (fa : Addr) (h : Heap), YP w h → h.Ns mainGlobals mg → mg d.name = some (.ref fa) →
      ∃ (K : PySem.W.Frag) (fd : FuncData), K.In h ∧ (∀ (s : Shared) (u : Value), BindsTo s fd ⟨[u], []⟩ [(x, u)]) ∧ ∀ base : Heap, K.In base → base.Ns mainGlobals mg → FnG l.prog w K mg base k fa fd [x] (spD K SLaw)) :
    PySem.W.WalkO q loose XP YP l.row.toRowW d [] (fun f vs => PySem.call f vs) := by
  refine Att.attach_call hn hdf fun w s₀ s₁ mg mb fa o pm cd doc a vs ns G Y ho hd hcd hmg hobj hints hlen hg => ?_
  obtain ⟨K, fd, KX, hb, hF⟩ := F w mg fa _ Y G.T.g hmg
  exact law_callG KX G.T.g G.T.b G.T.builtins G.T.nolimit hg hobj hints hlen hr hF hb
/-! ### what a head's Bool tells of an own error -/
def oexM (C : Addr) (cd : ClassData) : List Value → List (Option Value) → Bool
  | .ref C' :: bm, [_, _, _, _, some (.builtin n), _] => decide (C' = C) && (decide (n = "ValueError.__new__") && (!cd.hasDel && (cd.hasDict && PySem.HandSPX.refsVE bm)))
  | _, _ => false
theorem oexM_ok {C : Addr} {cd : ClassData} : ∀ {m : List Value} {l : List (Option Value)}, oexM C cd m l = true → ∃ bm k0 k1 k2 k3 k5, m = .ref C :: bm ∧ l = [k0, k1, k2, k3, some (.builtin "ValueError.__new__"), k5] ∧ cd.hasDel = false ∧ cd.hasDict = true ∧ PySem.HandSPX.refsVE bm = true := by
  intro m l h
  unfold oexM at h
  split at h
  · rename_i C' bm k0 k1 k2 k3 n k5
    obtain ⟨e2, h3⟩ := Bool.and_eq_true_iff.mp h
    obtain ⟨e3, h4⟩ := Bool.and_eq_true_iff.mp h3
    obtain ⟨e4, h5⟩ := Bool.and_eq_true_iff.mp h4
    obtain ⟨e5, h6⟩ := Bool.and_eq_true_iff.mp h5
    exact ⟨bm, k0, k1, k2, k3, k5, by rw [of_decide_eq_true e2], by rw [of_decide_eq_true e3], by simpa using e4, e5, h6⟩
  · cases h
def oexC (C : Addr) : Option Obj → Bool
  | some ⟨ct, _, .cls cd, sl⟩ => decide (ct = .type "type") && oexM C cd cd.mro sl.toList
  | _ => false
def oexB (K : PySem.W.Frag) (C : Addr) : Bool := oexC C (K.lookup C) && (He.eqO (PySem.W.findIn K (.ref C) "__setattr__") (some (some (.builtin "object.__setattr__"))) && (decide (PySem.W.subIn K (.ref C) (.type "BaseException") = some true) && (decide (PySem.W.typeIn K (.ref C) = some (.type "type")) && PySem.W.keepIn K (.ref C))))
theorem oexB_ok {K : PySem.W.Frag} {C : Addr} (h : oexB K C = true) : OexC K C := by
  obtain ⟨h1, h⟩ := Bool.and_eq_true_iff.mp h
  obtain ⟨h2, h⟩ := Bool.and_eq_true_iff.mp h
  obtain ⟨h3, h⟩ := Bool.and_eq_true_iff.mp h
  obtain ⟨h4, h5⟩ := Bool.and_eq_true_iff.mp h
  refine ⟨?_, He.eqO_ok h2, of_decide_eq_true h3, of_decide_eq_true h4, h5⟩
  cases lk : K.lookup C with
  | none => rw [lk] at h1; cases h1
  | some o =>
    rw [lk] at h1
    obtain ⟨ct, dd, dt, sl⟩ := o
    cases dt with
    | cls cd =>
      obtain ⟨e1, h7⟩ := Bool.and_eq_true_iff.mp (show (decide (ct = .type "type") && oexM C cd cd.mro sl.toList) = true from h1)
      have e8 := of_decide_eq_true e1
      subst e8
      obtain ⟨bm, k0, k1, k2, k3, k5, em, el, ed, eh, h9⟩ := oexM_ok h7
      obtain ⟨nm, bs, mro, ns, qn, hd, sn, sub, ab, col, del⟩ := cd
      obtain ⟨l⟩ := sl
      dsimp only at em el ed eh
      subst em el ed eh
      exact ⟨_, _, _, _, _, _, _, _, _, _, _, _, _, _, _, rfl, h9⟩
    | _ => cases h1
/-- the keywords of a def without defaults -/
theorem bndD {K : PySem.W.Frag} {x qual : Str} {params : Arguments} {body : List Stmt} {scope : Scope} {kws : List (Str × V)} {f : Addr} {fd : FuncData} {ps : List Str} (F : FunD K x qual params body scope [] kws f fd) (n : Nat) (ks : List Str)
    (h : ∀ (kV doc pm : Value) (an : Option Addr) (cdv ct : Value) (us ws : List Value), us.length = n → ws.length = ks.length → bindArgs (PySem.W.fnOf x qual params body scope .none kV doc pm an cdv ct) ⟨us, ks.zip ws⟩ = pure (ps.zip (us ++ ws))) : Bnd K fd ps n ks (· ++ ·) := by
  obtain ⟨oc, od, dV, kV, doc, pm, an, cdv, ct, osl, rfl, lk, hcd, hD, hK⟩ := F.ex
  rcases hD with ⟨_, rfl⟩ | ⟨e, _⟩
  · exact bnd_all (h kV doc pm an cdv ct)
  · exact absurd rfl e
end JQ

set_option Elab.async false
set_option linter.all false
set_option maxRecDepth 100000
set_option maxHeartbeats 2000000
/-! Short words: defs, methods and classes that keep promises, and their calls. -/
namespace JQ
open PySem PySem.Spec PyProof.Rows L2
open Evl (Ex ex_l ex_t)
section
variable (P : Program) (w : World) (K : PySem.W.Frag) (mg : Str → Option Value) (base : Heap)
/-- the def x, called with n values and the keywords ks, keeps S -/
def KF (k : Nat) (x : Str) (n : Nat) (ks : List Str) (S : Sd) : Prop := ∃ f fd ps, FnG P w K mg base k f fd ps (spD K S) ∧ Bnd K fd ps n ks (· ++ ·) ∧ mg x = some (.ref f) ∧ PySem.W.keepIn K (.ref f) = true
/-- the method m of the class C -/
def KM (k : Nat) (C : Addr) (m : Str) (n : Nat) (ks : List Str) (S : Sd) : Prop := ∃ f fd ps, FnG P w K mg base k f fd ps (spD K S) ∧ Bnd K fd ps (n + 1) ks (· ++ ·) ∧ Cls K C ∧ Meth K C m f
/-- the class x, made -/
def KC (k : Nat) (x : Str) (C : Addr) (n : Nat) (ks : List Str) (S : Sd) : Prop := ∃ f fd ps, FnG P w K mg base k f fd ps (spD K S) ∧ Bnd K fd ps (n + 1) ks (· ++ ·) ∧ Mk K C f ∧ mg x = some (.ref C)
end
section
variable {P : Program} {w : World} {K : PySem.W.Frag} {mg : Str → Option Value} {base : Heap}
theorem KF.up {j k n : Nat} {x : Str} {ks : List Str} {S : Sd} (h : KF P w K mg base j x n ks S) (q : j ≤ k) : KF P w K mg base k x n ks S := by
  obtain ⟨f, fd, ps, F, r⟩ := h
  exact ⟨f, fd, ps, F.up q, r⟩
theorem KM.up {j k n : Nat} {C : Addr} {m : Str} {ks : List Str} {S : Sd} (h : KM P w K mg base j C m n ks S) (q : j ≤ k) : KM P w K mg base k C m n ks S := by
  obtain ⟨f, fd, ps, F, r⟩ := h
  exact ⟨f, fd, ps, F.up q, r⟩
theorem KC.up {j k n : Nat} {x : Str} {C : Addr} {ks : List Str} {S : Sd} (h : KC P w K mg base j x C n ks S) (q : j ≤ k) : KC P w K mg base k x C n ks S := by
  obtain ⟨f, fd, ps, F, r⟩ := h
  exact ⟨f, fd, ps, F.up q, r⟩
end
section
variable {Y : Bd} {ss : List S} {M : Mm} {P : D → Mm → Prop} {k n : Nat} {x m : Str} {C : Addr} {S : Sd} {ks : List Str} {e o : Expr} {es : List Expr} {kws : List Keyword} {pos p apos : Pos}
/-- f(e, ..) -/
theorem we_fn (F : KF Y.X.prog Y.X.w Y.X.K Y.X.mg Y.X.base k x n [] S) (hg : Y.X.A.guards = some []) (hr : Room k Y.X.A) (h : WA Y (e :: es) ss M fun ds M => S ds M P fun C gs M' => Y.EE C gs M' ss) (hn : n = (e :: es).length)
    (gl : Gl Y.X x := by rfl) (hdb : (x == ("__debug__" : Str)) = false := by decide) (he : starEach (e :: es) Y.X.env = (false, eval e Y.X.env) :: starEach es Y.X.env := by rfl) (hpl : (backTo pos (starEach es Y.X.env)).any (·.1) = false := by rfl) (hlen : ∀ ds M P EE, S ds M P EE → ds.length = n) : WE Y (.Call (.Name x p) (e :: es) [] pos) ss M P := by
  obtain ⟨f, fd, ps, G, b, hm, hk⟩ := F
  refine we_call hm hk ?_ gl hdb he hpl
  exact .mk fun B σ G0 H Q so kq => h B σ G0 H Q so fun vs G' H' M' ds t r q => kq vs G' H' M' ds t r (cal_fn G hg hr b (by rw [List.append_nil]; exact q) (hlen _ _ _ _ q) rfl)
theorem we_fn0 (F : KF Y.X.prog Y.X.w Y.X.K Y.X.mg Y.X.base k x 0 [] S) (hg : Y.X.A.guards = some []) (hr : Room k Y.X.A) (h : S [] M P fun C gs M' => Y.EE C gs M' ss) (gl : Gl Y.X x := by rfl) (hdb : (x == ("__debug__" : Str)) = false := by decide) : WE Y (.Call (.Name x p) [] [] pos) ss M P := by
  obtain ⟨f, fd, ps, G, b, hm, hk⟩ := F
  exact we_call0 hm hk (cal_fn G hg hr b h rfl rfl) gl hdb
/-- C(e, ..), C(k = v, ..) -/
theorem we_mk (F : KC Y.X.prog Y.X.w Y.X.K Y.X.mg Y.X.base k x C n [] S) (hg : Y.X.A.guards = some []) (hr : Room (k + 1) Y.X.A) (h : WA Y (e :: es) ss M fun ds M => ds.length = n ∧ ∀ a, M a = none → S (.rf a :: ds) (mup M a (.ins C [])) (fun v M' => v = .non ∧ P (.rf a) M') fun C gs M' => Y.EE C gs M' ss)
    (gl : Gl Y.X x := by rfl) (hdb : (x == ("__debug__" : Str)) = false := by decide) (he : starEach (e :: es) Y.X.env = (false, eval e Y.X.env) :: starEach es Y.X.env := by rfl) (hpl : (backTo pos (starEach es Y.X.env)).any (·.1) = false := by rfl) : WE Y (.Call (.Name x p) (e :: es) [] pos) ss M P := by
  obtain ⟨f, fd, ps, G, b, mk, hm⟩ := F
  refine we_call hm mk.kp ?_ gl hdb he hpl
  exact .mk fun B σ G0 H Q so kq => h B σ G0 H Q so fun vs G' H' M' ds t r ⟨hl, q⟩ => kq vs G' H' M' ds t r (cal_mk mk G hg hr b (fun a ha => by rw [List.append_nil]; exact q a ha) (by rw [hl]) rfl)
theorem we_mkK (F : KC Y.X.prog Y.X.w Y.X.K Y.X.mg Y.X.base k x C 0 ks S) (hg : Y.X.A.guards = some []) (hr : Room (k + 1) Y.X.A) (h : WK Y kws ss M fun zs M => zs.length = ks.length ∧ ∀ a, M a = none → S (.rf a :: zs) (mup M a (.ins C [])) (fun v M' => v = .non ∧ P (.rf a) M') fun C gs M' => Y.EE C gs M' ss)
    (gl : Gl Y.X x := by rfl) (hall : (backToKw pos (keywordEach kws Y.X.env)).all (·.1.isSome) = true := by rfl) (hks : (backToKw pos (keywordEach kws Y.X.env)).filterMap (·.1) = ks := by rfl) (hdb : (x == ("__debug__" : Str)) = false := by decide)
    (hpl : ((backTo pos (starEach [] Y.X.env)).any (·.1) || (backToKw pos (keywordEach kws Y.X.env)).any (·.1.isNone)) = false := by rfl) : WE Y (.Call (.Name x p) [] kws pos) ss M P := by
  obtain ⟨f, fd, ps, G, b, mk, hm⟩ := F
  refine we_callK0 (ks := ks) hm mk.kp ?_ gl hall hks hdb hpl
  exact .mk fun B σ G0 H Q so kq => h B σ G0 H Q so fun vs G' H' M' ds t r ⟨hl, q⟩ => kq vs G' H' M' ds t r (cal_mk mk G hg hr b (fun a ha => q a ha) rfl hl)
/-- o.m(e, ..), o.m(), o.m(k = v, ..) -/
theorem we_me {pl : Sem Bool} (F : KM Y.X.prog Y.X.w Y.X.K Y.X.mg Y.X.base k C m n [] S) (hg : Y.X.A.guards = some []) (hr : Room k Y.X.A) (h : WE Y o ss M fun d M => ∃ fs, OAt M d C fs ∧ fs.lookup m = none ∧ WA Y (e :: es) ss M fun ds M => ds.length = n ∧ S (d :: ds) M P fun C gs M' => Y.EE C gs M' ss)
    (hst : starEach (e :: es) Y.X.env = (false, eval e Y.X.env) :: starEach es Y.X.env := by rfl) (hpl : (backTo pos (starEach es Y.X.env)).any (·.1) = false := by rfl) (ht : MethTerm o m (e :: es) [] apos pos Y.X.env pl := by rfl) : WE Y (.Call (.Attribute o m apos) (e :: es) [] pos) ss M P := by
  obtain ⟨f, fd, ps, G, b, cl, mt⟩ := F
  refine we_meth (f := f) mt.kp (h.mono fun d M ⟨fs, oa, lk, q⟩ => ⟨⟨C, fs, oa, cl, mt, lk⟩, ?_⟩) hst hpl ht
  exact .mk fun B σ G0 H Q so kq => q B σ G0 H Q so fun vs G' H' M' ds t r ⟨hl, q⟩ => kq vs G' H' M' ds t r (cal_fn G hg hr b (by rw [List.append_nil]; exact q) (by rw [List.length_cons, hl]) rfl)
theorem we_me0 {pl : Sem Bool} (F : KM Y.X.prog Y.X.w Y.X.K Y.X.mg Y.X.base k C m 0 [] S) (hg : Y.X.A.guards = some []) (hr : Room k Y.X.A) (h : WE Y o ss M fun d M => ∃ fs, OAt M d C fs ∧ fs.lookup m = none ∧ S [d] M P fun C gs M' => Y.EE C gs M' ss) (ht : MethTerm o m [] [] apos pos Y.X.env pl := by rfl) : WE Y (.Call (.Attribute o m apos) [] [] pos) ss M P := by
  obtain ⟨f, fd, ps, G, b, cl, mt⟩ := F
  exact we_meth0 (f := f) mt.kp (h.mono fun d M ⟨fs, oa, lk, q⟩ => ⟨⟨C, fs, oa, cl, mt, lk⟩, cal_fn G hg hr b q rfl rfl⟩) ht
theorem we_meK {pl : Sem Bool} (F : KM Y.X.prog Y.X.w Y.X.K Y.X.mg Y.X.base k C m 0 ks S) (hg : Y.X.A.guards = some []) (hr : Room k Y.X.A) (h : WE Y o ss M fun d M => ∃ fs, OAt M d C fs ∧ fs.lookup m = none ∧ WK Y kws ss M fun zs M => zs.length = ks.length ∧ S (d :: zs) M P fun C gs M' => Y.EE C gs M' ss)
    (hall : (backToKw pos (keywordEach kws Y.X.env)).all (·.1.isSome) = true := by rfl) (hks : (backToKw pos (keywordEach kws Y.X.env)).filterMap (·.1) = ks := by rfl)
    (hpl : ((backTo pos (starEach [] Y.X.env)).any (·.1) || (backToKw pos (keywordEach kws Y.X.env)).any (·.1.isNone)) = false := by rfl) (ht : MethTerm o m [] kws apos pos Y.X.env pl := by rfl) : WE Y (.Call (.Attribute o m apos) [] kws pos) ss M P := by
  obtain ⟨f, fd, ps, G, b, cl, mt⟩ := F
  refine we_methK0 (f := f) (ks := ks) mt.kp (h.mono fun d M ⟨fs, oa, lk, q⟩ => ⟨⟨C, fs, oa, cl, mt, lk⟩, ?_⟩) hall hks hpl ht
  exact .mk fun B σ G0 H Q so kq => q B σ G0 H Q so fun vs G' H' M' ds t r ⟨hl, q⟩ => kq vs G' H' M' ds t r (cal_fn G hg hr b q rfl hl)
end
/-! ### a class of a built-in kind, isinstance of it -/
def known : D → Bool
  | .obj _ _ => false
  | .adr _ => false
  | .scr _ => false
  | .clo _ _ => false
  | _ => true
def tyN : D → String
  | .non => "NoneType"
  | .bl _ => "bool"
  | .int _ => "int"
  | .str _ => "str"
  | .tup _ => "tuple"
  | .lst _ => "list"
  | _ => "object"
theorem known_ty {K : PySem.W.Frag} {d : D} (h : known d = true) : TyD K d (.type (tyN d)) := by
  cases d <;> first | rfl | cases h
/-- int but no bool; bool; int or bool -/
def isInt : D → Bool
  | .int _ => true
  | _ => false
def isBl : D → Bool
  | .bl _ => true
  | _ => false
def isIB (d : D) : Bool := isInt d || isBl d
def isStr : D → Bool
  | .str _ => true
  | _ => false
def isTup : D → Bool
  | .tup _ => true
  | _ => false
def isLst : D → Bool
  | .lst _ => true
  | _ => false
section
variable {K : PySem.W.Frag} {d : D}
theorem kit_int (h : known d = true) : PySem.W.kitOne K (.type (tyN d)) (.type "int") = some (isIB d) := by
  cases d with
  | non => exact kit_ty (a := "NoneType") (b := "int") (r := false) (by decide +kernel)
  | bl b => exact kit_ty (a := "bool") (b := "int") (r := true) (by decide +kernel)
  | int i => exact kit_ty (a := "int") (b := "int") (r := true) (by decide +kernel)
  | str x => exact kit_ty (a := "str") (b := "int") (r := false) (by decide +kernel)
  | tup ds => exact kit_ty (a := "tuple") (b := "int") (r := false) (by decide +kernel)
  | lst ds => exact kit_ty (a := "list") (b := "int") (r := false) (by decide +kernel)
  | _ => cases h
theorem kit_bool (h : known d = true) : PySem.W.kitOne K (.type (tyN d)) (.type "bool") = some (isBl d) := by
  cases d with
  | non => exact kit_ty (a := "NoneType") (b := "bool") (r := false) (by decide +kernel)
  | bl b => exact kit_ty (a := "bool") (b := "bool") (r := true) (by decide +kernel)
  | int i => exact kit_ty (a := "int") (b := "bool") (r := false) (by decide +kernel)
  | str x => exact kit_ty (a := "str") (b := "bool") (r := false) (by decide +kernel)
  | tup ds => exact kit_ty (a := "tuple") (b := "bool") (r := false) (by decide +kernel)
  | lst ds => exact kit_ty (a := "list") (b := "bool") (r := false) (by decide +kernel)
  | _ => cases h
theorem kit_str (h : known d = true) : PySem.W.kitOne K (.type (tyN d)) (.type "str") = some (isStr d) := by
  cases d with
  | non => exact kit_ty (a := "NoneType") (b := "str") (r := false) (by decide +kernel)
  | bl b => exact kit_ty (a := "bool") (b := "str") (r := false) (by decide +kernel)
  | int i => exact kit_ty (a := "int") (b := "str") (r := false) (by decide +kernel)
  | str x => exact kit_ty (a := "str") (b := "str") (r := true) (by decide +kernel)
  | tup ds => exact kit_ty (a := "tuple") (b := "str") (r := false) (by decide +kernel)
  | lst ds => exact kit_ty (a := "list") (b := "str") (r := false) (by decide +kernel)
  | _ => cases h
theorem kit_tuple (h : known d = true) : PySem.W.kitOne K (.type (tyN d)) (.type "tuple") = some (isTup d) := by
  cases d with
  | non => exact kit_ty (a := "NoneType") (b := "tuple") (r := false) (by decide +kernel)
  | bl b => exact kit_ty (a := "bool") (b := "tuple") (r := false) (by decide +kernel)
  | int i => exact kit_ty (a := "int") (b := "tuple") (r := false) (by decide +kernel)
  | str x => exact kit_ty (a := "str") (b := "tuple") (r := false) (by decide +kernel)
  | tup ds => exact kit_ty (a := "tuple") (b := "tuple") (r := true) (by decide +kernel)
  | lst ds => exact kit_ty (a := "list") (b := "tuple") (r := false) (by decide +kernel)
  | _ => cases h
theorem kit_list (h : known d = true) : PySem.W.kitOne K (.type (tyN d)) (.type "list") = some (isLst d) := by
  cases d with
  | non => exact kit_ty (a := "NoneType") (b := "list") (r := false) (by decide +kernel)
  | bl b => exact kit_ty (a := "bool") (b := "list") (r := false) (by decide +kernel)
  | int i => exact kit_ty (a := "int") (b := "list") (r := false) (by decide +kernel)
  | str x => exact kit_ty (a := "str") (b := "list") (r := false) (by decide +kernel)
  | tup ds => exact kit_ty (a := "tuple") (b := "list") (r := false) (by decide +kernel)
  | lst ds => exact kit_ty (a := "list") (b := "list") (r := true) (by decide +kernel)
  | _ => cases h
end
end JQ

set_option Elab.async false
set_option linter.all false
set_option maxRecDepth 100000
set_option maxHeartbeats 2000000
/-! repr of tuples and lists of plain data. -/
namespace JQ
open PySem PySem.Spec PyProof.Rows L2
mutual
/-- ints below 1920 bits -/
def intsOk : D → Bool
  | .int i => decide (i.natAbs.log2 < 1920)
  | .tup ds => intsOks ds
  | .lst ds => intsOks ds
  | _ => true
def intsOks : List D → Bool
  | [] => true
  | d :: ds => intsOk d && intsOks ds
end
mutual
/-- signs at most -/
def rsz : D → Nat
  | .int _ => 1921
  | .str x => (reprText x).length
  | .tup ds => rszs ds + 3
  | .lst ds => rszs ds + 3
  | _ => 5
def rszs : List D → Nat
  | [] => 0
  | d :: ds => rsz d + 2 + rszs ds
end
mutual
def depD : D → Nat
  | .tup ds => depDs ds + 1
  | .lst ds => depDs ds + 1
  | _ => 0
def depDs : List D → Nat
  | [] => 0
  | d :: ds => max (depD d) (depDs ds)
end
mutual
theorem showable_of : ∀ d : D, plainD d = true → intsOk d = true → (pyD d).showable = true
  | .non, _, _ => by simp only [pyD, PyData.showable]
  | .bl _, _, _ => by simp only [pyD, PyData.showable]
  | .int i, _, h => by simpa only [pyD, PyData.showable, intsOk] using h
  | .str _, _, _ => by simp only [pyD, PyData.showable]
  | .tup ds, p, h => by simpa only [pyD, PyData.showable] using showables_of ds (by simpa only [plainD] using p) (by simpa only [intsOk] using h)
  | .lst ds, p, h => by simpa only [pyD, PyData.showable] using showables_of ds (by simpa only [plainD] using p) (by simpa only [intsOk] using h)
  | .obj _ _, p, _ => by simp [plainD] at p
  | .adr _, p, _ => by simp [plainD] at p
  | .scr _, p, _ => by simp [plainD] at p
theorem showables_of : ∀ ds : List D, plainDs ds = true → intsOks ds = true → PyData.showableAll (pyDs ds) = true
  | [], _, _ => by simp only [pyDs, PyData.showableAll]
  | d :: ds, p, h => by
    simp only [plainDs, Bool.and_eq_true] at p
    simp only [intsOks, Bool.and_eq_true] at h
    simp only [pyDs, PyData.showableAll, Bool.and_eq_true]
    exact ⟨showable_of d p.1 h.1, showables_of ds p.2 h.2⟩
end
mutual
theorem noDict_of : ∀ d : D, plainD d = true → (pyD d).hasDict = false
  | .non, _ => by simp only [pyD, PyData.hasDict]
  | .bl _, _ => by simp only [pyD, PyData.hasDict]
  | .int i, _ => by simp only [pyD, PyData.hasDict]
  | .str _, _ => by simp only [pyD, PyData.hasDict]
  | .tup ds, p => by simpa only [pyD, PyData.hasDict] using noDicts_of ds (by simpa only [plainD] using p)
  | .lst ds, p => by simpa only [pyD, PyData.hasDict] using noDicts_of ds (by simpa only [plainD] using p)
  | .obj _ _, p => by simp [plainD] at p
  | .adr _, p => by simp [plainD] at p
  | .scr _, p => by simp [plainD] at p
theorem noDicts_of : ∀ ds : List D, plainDs ds = true → PyData.hasDictAll (pyDs ds) = false
  | [], _ => by simp only [pyDs, PyData.hasDictAll]
  | d :: ds, p => by
    simp only [plainDs, Bool.and_eq_true] at p
    simp only [pyDs, PyData.hasDictAll, Bool.or_eq_false_iff]
    exact ⟨noDict_of d p.1, noDicts_of ds p.2⟩
end
mutual
theorem depth_of : ∀ d : D, (pyD d).depth ≤ depD d
  | .non => by simp only [pyD, PyData.depth, Nat.zero_le]
  | .bl _ => by simp only [pyD, PyData.depth, Nat.zero_le]
  | .int i => by simp only [pyD, PyData.depth, Nat.zero_le]
  | .str _ => by simp only [pyD, PyData.depth, Nat.zero_le]
  | .tup ds => by simpa only [pyD, PyData.depth, depD] using Nat.succ_le_succ (depths_of ds)
  | .lst ds => by simpa only [pyD, PyData.depth, depD] using Nat.succ_le_succ (depths_of ds)
  | .obj _ _ => by simp only [pyD, PyData.depth, Nat.zero_le]
  | .adr _ => by simp only [pyD, PyData.depth, Nat.zero_le]
  | .scr _ => by simp only [pyD, PyData.depth, Nat.zero_le]
  | .clo _ _ => by simp only [pyD, PyData.depth, Nat.zero_le]
theorem depths_of : ∀ ds : List D, PyData.depthAll (pyDs ds) ≤ depDs ds
  | [] => by simp only [pyDs, PyData.depthAll, Nat.zero_le]
  | d :: ds => by
    simp only [pyDs, PyData.depthAll, depDs]
    have h1 := depth_of d
    have h2 := depths_of ds
    omega
end
theorem piled_sum (ts : List Str) : piled ts = (ts.map (·.length)).sum + 2 * ts.length := by
  induction ts with
  | nil => rfl
  | cons t ts ih =>
    rw [piled_cons, ih, List.map_cons, List.sum_cons, List.length_cons]
    omega
theorem tupleText_le (ts : List Str) : (tupleText ts).length ≤ piled ts + 3 := by
  unfold tupleText
  rw [strLen_append, strLen_append]
  have e1 : ((("(" : String) : Str)).length = 1 := rfl
  have e3 : (((if ts.length == 1 then ",)" else ")" : String) : Str)).length ≤ 2 := by split <;> decide
  rw [e1]
  by_cases h : ts = []
  · subst h
    have e4 : (Str.join ", " ([] : List Str)).length = 0 := rfl
    rw [e4]
    omega
  · have := join_length_add ts h
    omega
mutual
theorem shown_le : ∀ d : D, plainD d = true → intsOk d = true → (pyD d).shown.length ≤ rsz d
  | .non, _, _ => by
    have e : (pyD .non).shown = ("None" : String) := by simp only [pyD, PyData.shown]
    rw [e]
    decide
  | .bl b, _, _ => by
    cases b
    · have e : (pyD (.bl false)).shown = ("False" : String) := by simp [pyD, PyData.shown]
      rw [e]
      decide
    · have e : (pyD (.bl true)).shown = ("True" : String) := by simp [pyD, PyData.shown]
      rw [e]
      decide
  | .int i, _, h => by
    have e : (pyD (.int i)).shown = (PySem.Str.ofString (toString i)) := by simp only [pyD, PyData.shown]
    rw [e]
    exact int_text_len_1921 (by simpa only [intsOk, decide_eq_true_eq] using h)
  | .str x, _, _ => by
    have e : (pyD (.str x)).shown = reprText x := by simp only [pyD, PyData.shown]
    rw [e]
    exact Nat.le_refl _
  | .tup ds, p, h => by
    have e : (pyD (.tup ds)).shown = tupleText (PyData.shownAll (pyDs ds)) := by simp only [pyD, PyData.shown]
    rw [e]
    have h1 := tupleText_le (PyData.shownAll (pyDs ds))
    have h2 := showns_le ds (by simpa only [plainD] using p) (by simpa only [intsOk] using h)
    simp only [rsz]
    omega
  | .lst ds, p, h => by
    have e : (pyD (.lst ds)).shown = listText (PyData.shownAll (pyDs ds)) := by simp only [pyD, PyData.shown]
    rw [e]
    have h1 := listText_len_le (PyData.shownAll (pyDs ds))
    have h2 := showns_le ds (by simpa only [plainD] using p) (by simpa only [intsOk] using h)
    rw [piled_sum] at h2
    simp only [rsz]
    omega
  | .obj _ _, p, _ => by simp [plainD] at p
  | .adr _, p, _ => by simp [plainD] at p
  | .scr _, p, _ => by simp [plainD] at p
theorem showns_le : ∀ ds : List D, plainDs ds = true → intsOks ds = true → piled (PyData.shownAll (pyDs ds)) ≤ rszs ds
  | [], _, _ => by simp only [pyDs, PyData.shownAll, piled_nil, Nat.zero_le]
  | d :: ds, p, h => by
    simp only [plainDs, Bool.and_eq_true] at p
    simp only [intsOks, Bool.and_eq_true] at h
    simp only [pyDs, PyData.shownAll, piled_cons, rszs]
    have h1 := shown_le d p.1 h.1
    have h2 := showns_le ds p.2 h.2
    omega
end
/-- the text of plain data -/
def txt (d : D) : Str := (pyD d).shown
section
variable {Y : Bd} {M : Mm} {P : D → Mm → Prop} {k : Nat}
theorem c_rep {d : D} (hg : Y.X.A.guards = some []) (hr : Room k Y.X.A) (hk : (∃ ds, d = .tup ds) ∨ ∃ ds, d = .lst ds) (hp : plainD d = true) (hi : intsOk d = true) (hz : rsz d ≤ 16777216) (hd : depD d ≤ 100) (q : P (.str (txt d)) M) : OpC Y (.builtin "repr") [d] M P :=
  c_repr hg hp hk (showable_of d hp hi) (noDict_of d hp) (by
    have h1 := depth_of d
    have h2 := hr.un
    omega) (by rw [sizeLine_eq]; exact Nat.le_trans (shown_le d hp hi) hz) q
end
end JQ

set_option Elab.async false
set_option linter.all false
set_option maxRecDepth 100000
set_option maxHeartbeats 2000000
/-! Tuples that are tracked; isinstance of several classes; in over deep data; dicts with keys of tuples; own operators. -/
namespace JQ
open PySem PySem.Spec PyProof.Rows L2
open Evl (Ex ex_l ex_t)
section
variable {Y : Bd} {ss : List S} {M : Mm} {P : D → Mm → Prop} {PB : Bool → Mm → Prop} {e a b o i : Expr} {es : List Expr} {pos : Pos} {x y : D} {N : DE}
/-- a new tuple whose place is known -/
theorem we_tupM {k1} (h : WA Y es ss M fun xs M => xs.length ≤ sizeLine ∧ ∀ p, M p = none → P (.rf p) (mup M p (.tp xs))) : WE Y (.Tuple es k1 pos) ss M P :=
  we_pe (pe_tup pa_w) fun B σ G H Q st k => by
    refine h _ _ _ _ _ st fun vs G1 H1 M1 ds g1 r ⟨z, p⟩ => ⟨by rw [r.length]; exact z, fun q hq => ?_⟩
    have g2 := g1.wd.newM (o := .tup vs) (b := .tp ds) hq r
    exact k _ _ _ _ _ (g1.trans g2) (.adr _) (p q (g1.wd.mnone hq))
theorem iss_adr {K : PySem.W.Frag} {G : Hp} : ∀ {cs vs : List V}, Iss K G vs (cs.map D.adr) → vs = cs
  | [], _, .nil => rfl
  | c :: cs, _, .cons h r => by
    cases h
    rw [iss_adr r]
theorem c_isiT {d : D} {p : Addr} {cs : List V} {t : Value} {us : List Value} {b : Bool} (em : M p = some (.tp (cs.map D.adr))) (hp : Paired ClsV cs us) (ht : TyD Y.X.K d t) (hk : PySem.W.kitAny Y.X.K t us = some b) (q : P (.bl b) M) : OpC Y (.builtin "isinstance") [d, .rf p] M P :=
  ⟨_, call_isiT, fun G H vs Q st r k => by
    obtain ⟨v, w, rfl, h, h2⟩ := iss_two r
    cases h2
    obtain ⟨_, u, hu, ob⟩ := st.mo _ _ em
    obtain ⟨ws, rfl, rw'⟩ := ob.tp
    cases iss_adr rw'
    exact ⟨v, p, cs, t, us, b, rfl, hu, hp, ht.is st.gh h, hk, k _ _ _ _ _ st.refl (.bl b) q⟩⟩
/-! ### in, over data of any depth -/
theorem o_inD {d : D} {ds : List D} (hu : Y.X.A.units + 65 < cLine) (hx : PlAt M x d) (hy : PlAt M y (.lst ds)) (sx : SeqAt.shaped (pyD d) = true) (sy : SeqAt.shaped (pyD (.lst ds)) = true) (q : P (.bl ((pyDs ds).any fun z => PyData.eqv z (pyD d))) M) : Op2 Y (compareOp .In) x y M P :=
  ⟨_, op_inD hu, fun G H u v Q st r1 r2 k => ⟨_, _, hx.dp st r1, hy.dp st r2, sx, sy, k _ _ _ _ _ st.refl (.bl _) q⟩⟩
theorem o_notInD {d : D} {ds : List D} (hu : Y.X.A.units + 65 < cLine) (hx : PlAt M x d) (hy : PlAt M y (.lst ds)) (sx : SeqAt.shaped (pyD d) = true) (sy : SeqAt.shaped (pyD (.lst ds)) = true) (q : P (.bl (!(pyDs ds).any fun z => PyData.eqv z (pyD d))) M) : Op2 Y (compareOp .NotIn) x y M P :=
  ⟨_, op_notInD hu, fun G H u v Q st r1 r2 k => ⟨_, _, hx.dp st r1, hy.dp st r2, sx, sy, k _ _ _ _ _ st.refl (.bl _) q⟩⟩
end
end JQ

set_option Elab.async false
set_option linter.all false
set_option maxRecDepth 100000
set_option maxHeartbeats 2000000
/-! Dicts whose keys are tuples. -/
namespace JQ
open PySem PySem.Spec PyProof.Rows L2
open Evl (Ex ex_l ex_t)
def kD : Key → D
  | .inl i => .int i
  | .inr x => .str x
def getK (es : List (List Key × D)) (k : List Key) : Option D := (es.find? fun e => decide (e.1 = k)).map (·.2)
def putKD (es : List (List Key × D)) (k : List Key) (d : D) : List (List Key × D) := if (es.any fun e => decide (e.1 = k)) = true then es.map (fun e => if e.1 = k then (e.1, d) else e) else es ++ [(k, d)]
theorem ifTr {A B : Prop} (h : A) : if true = true then A else B := h
abbrev EnP (K : PySem.W.Frag) (G : Hp) : List (List Key × V) → List (List Key × D) → Prop := Paired (fun p q => p.1 = q.1 ∧ Is K G p.2 q.2)
section
variable {K : PySem.W.Frag} {G G' : Hp}
theorem iss_keys : ∀ {k : List Key} {vs : List V}, Iss K G vs (k.map kD) → vs = k.map kV
  | [], _, .nil => rfl
  | .inl i :: k, _, .cons h r => by
    cases h
    rw [iss_keys r]
    rfl
  | .inr i :: k, _, .cons h r => by
    cases h
    rw [iss_keys r]
    rfl
theorem EnP.mono (e : Ex G G') {kvs : List (List Key × V)} {es : List (List Key × D)} (h : EnP K G kvs es) : EnP K G' kvs es := L2.Paired.mapP h (fun a b q => ⟨q.1, q.2.mono e⟩)
theorem EnP.len : ∀ {kvs : List (List Key × V)} {es : List (List Key × D)}, EnP K G kvs es → kvs.length = es.length
  | _, _, .nil => rfl
  | _, _, .cons _ r => by rw [List.length_cons, List.length_cons, EnP.len r]
theorem EnP.get {k : List Key} : ∀ {kvs : List (List Key × V)} {es : List (List Key × D)}, EnP K G kvs es → (valV kvs k = none ∧ getK es k = none) ∨ ∃ v d, valV kvs k = some v ∧ getK es k = some d ∧ Is K G v d
  | _, _, .nil => .inl ⟨rfl, rfl⟩
  | _, _, .cons (a := a) (b := b) (l₁ := l₁) (l₂ := l₂) h r => by
    by_cases c : b.1 = k
    · refine .inr ⟨a.2, b.2, ?_, ?_, h.2⟩
      · simp [valV, List.find?_cons, h.1, c]
      · simp [getK, List.find?_cons, c]
    · have e1 : valV (a :: l₁) k = valV l₁ k := by simp [valV, List.find?_cons, h.1, c]
      have e2 : getK (b :: l₂) k = getK l₂ k := by simp [getK, List.find?_cons, c]
      rw [e1, e2]
      exact EnP.get r
theorem EnP.any {k : List Key} : ∀ {kvs : List (List Key × V)} {es : List (List Key × D)}, EnP K G kvs es → (kvs.any fun kv => decide (kv.1 = k)) = es.any fun e => decide (e.1 = k)
  | _, _, .nil => rfl
  | _, _, .cons h r => by
    rw [List.any_cons, List.any_cons, EnP.any r, h.1]
theorem EnP.app : ∀ {kvs ls : List (List Key × V)} {es fs : List (List Key × D)}, EnP K G kvs es → EnP K G ls fs → EnP K G (kvs ++ ls) (es ++ fs)
  | _, _, _, _, .nil, s => s
  | _, _, _, _, .cons h r, s => .cons h (EnP.app r s)
theorem EnP.mapSet {k : List Key} {v : V} {d : D} (q : Is K G v d) : ∀ {kvs : List (List Key × V)} {es : List (List Key × D)}, EnP K G kvs es → EnP K G (kvs.map fun kv => if kv.1 = k then (kv.1, v) else kv) (es.map fun e => if e.1 = k then (e.1, d) else e)
  | _, _, .nil => .nil
  | _, _, .cons (a := a) (b := b) h r => by
    refine .cons ?_ (EnP.mapSet q r)
    show (if a.1 = k then (a.1, v) else a).1 = (if b.1 = k then (b.1, d) else b).1 ∧ Is K G (if a.1 = k then (a.1, v) else a).2 (if b.1 = k then (b.1, d) else b).2
    by_cases c : b.1 = k
    · rw [if_pos c, if_pos (h.1.trans c)]
      exact ⟨h.1, q⟩
    · rw [if_neg c, if_neg (fun z => c (h.1.symm.trans z))]
      exact h
theorem EnP.put {k : List Key} {v : V} {d : D} (q : Is K G v d) {kvs : List (List Key × V)} {es : List (List Key × D)} (h : EnP K G kvs es) : EnP K G (putK kvs k v) (putKD es k d) := by
  unfold putK putKD
  rw [h.any]
  by_cases c : (es.any fun e => decide (e.1 = k)) = true
  · rw [if_pos c, if_pos c]
    exact h.mapSet q
  · rw [if_neg c, if_neg c]
    exact h.app (.cons ⟨rfl, q⟩ .nil)
theorem EnP.snds : ∀ {kvs : List (List Key × V)} {es : List (List Key × D)}, EnP K G kvs es → Iss K G (kvs.map (·.2)) (es.map (·.2))
  | _, _, .nil => .nil
  | _, _, .cons h r => .cons h.2 (EnP.snds r)
theorem EnP.fsts : ∀ {kvs : List (List Key × V)} {es : List (List Key × D)}, EnP K G kvs es → kvs.map (·.1) = es.map (·.1)
  | _, _, .nil => rfl
  | _, _, .cons h r => by rw [List.map_cons, List.map_cons, h.1, EnP.fsts r]
theorem val_at : ∀ {kvs : List (List Key × V)} {i : Nat} {k : List Key} {v : V}, (kvs.map (·.1)).Nodup → kvs[i]? = some (k, v) → valV kvs k = some v
  | [], i, k, v, _, e => by simp at e
  | (k', v') :: kvs, 0, k, v, _, e => by
    simp at e
    obtain ⟨rfl, rfl⟩ := e
    simp [valV, List.find?_cons]
  | (k', v') :: kvs, i + 1, k, v, nd, e => by
    have e' : kvs[i]? = some (k, v) := by simpa using e
    rw [List.map_cons, List.nodup_cons] at nd
    have ne : k' ≠ k := fun z => nd.1 (by rw [z]; exact List.mem_map.mpr ⟨(k, v), List.mem_of_getElem? e', rfl⟩)
    have e1 : valV ((k', v') :: kvs) k = valV kvs k := by simp [valV, List.find?_cons, ne]
    rw [e1]
    exact val_at nd.2 e'
end
section
variable {Y : Bd} {ss : List S} {M : Mm} {P : D → Mm → Prop} {PB : Bool → Mm → Prop} {e a b o i : Expr} {es : List Expr} {pos : Pos} {x y : D} {N : DE}
/-- {} -/
theorem we_dnew (h : ∀ p, M p = none → P (.rf p) (mup M p (.dT []))) : WE Y (.Dict [] [] pos) ss M P :=
  we_pe pe_dnewT fun B σ G H Q st k p hp => by
    have g2 := st.w.newM (o := .dT []) (b := .dT []) hp .nil
    exact k _ _ _ _ _ g2 (.adr _) (h p (st.w.mnone hp))
/-- what a dict holds at a key -/
structure DKey (M : Mm) (x y : D) (k : List Key) (es : List (List Key × D)) : Prop where
  ex : ∃ p d, x = .rf p ∧ M p = some (.tp (k.map kD)) ∧ y = .rf d ∧ M d = some (.dT es)
theorem DKey.get {K : PySem.W.Frag} {G H : Hp} {k : List Key} {es : List (List Key × D)} {u v : V} (h : DKey M x y k es) (w : Wd K G H M) (r1 : Is K G u x) (r2 : Is K G v y) : ∃ p d kvs, u = .ref p ∧ v = .ref d ∧ H p = some (.tup (k.map kV)) ∧ H d = some (.dT kvs) ∧ EnP K G kvs es ∧ M d = some (.dT es) ∧ y = .rf d := by
  obtain ⟨p, d, rfl, m1, rfl, m2⟩ := h.ex
  cases r1
  cases r2
  obtain ⟨_, o1, h1, b1⟩ := w.mo _ _ m1
  obtain ⟨_, o2, h2, b2⟩ := w.mo _ _ m2
  obtain ⟨vs, rfl, q1⟩ := b1.tp
  obtain ⟨kvs, rfl, q2⟩ := b2.dT
  rw [iss_keys q1] at h1
  exact ⟨p, d, kvs, rfl, rfl, h1, h2, q2, m2, rfl⟩
theorem wt_dnotin (hu : Y.X.A.units + 1 < cLine) (h : WE Y i ss M fun x M => WE Y o ss M fun y M => ∃ k es, DKey M x y k es ∧ PB (!(getK es k).isSome) M) (hm : behindInMarks .NotIn o = false := by first | exact nomark _ | rfl) : WT Y (.Compare i [.NotIn] [o] pos) ss M PB :=
  wt_pt (pt_cmp (pc_dnotin hu pe_w pe_w) hm) fun B σ G H Q st kk => h _ _ _ _ _ st fun u G1 H1 M1 d1 g1 r1 h1 => h1 _ _ _ _ _ (st.go g1) fun v G2 H2 M2 d2 g2 r2 ⟨k, es, dk, q⟩ => by
    obtain ⟨p, d, kvs, rfl, rfl, e1, e2, en, _, _⟩ := dk.get g2.wd (r1.mono g2.gg) r2
    refine ⟨d, valV kvs k, rfl, .inr ⟨kvs, k, p, .inl e2, rfl, e1, rfl⟩, _, rfl, kk _ _ _ _ (g1.trans g2) ?_⟩
    rcases en.get (k := k) with ⟨c1, c2⟩ | ⟨v, d', c1, c2, _⟩
    · rw [c1]; rw [c2] at q; exact q
    · rw [c1]; rw [c2] at q; exact q
theorem we_din (hu : Y.X.A.units + 1 < cLine) (h : WE Y i ss M fun x M => WE Y o ss M fun y M => ∃ k es, DKey M x y k es ∧ P (.bl (getK es k).isSome) M) (hm : behindInMarks .In o = false := by first | exact nomark _ | rfl) : WE Y (.Compare i [.In] [o] pos) ss M P :=
  we_pe (pe_cmp (pc_din hu pe_w pe_w) hm) fun B σ G H Q st kk => h _ _ _ _ _ st fun u G1 H1 M1 d1 g1 r1 h1 => h1 _ _ _ _ _ (st.go g1) fun v G2 H2 M2 d2 g2 r2 ⟨k, es, dk, q⟩ => by
    obtain ⟨p, d, kvs, rfl, rfl, e1, e2, en, _, _⟩ := dk.get g2.wd (r1.mono g2.gg) r2
    refine ⟨d, valV kvs k, rfl, .inr ⟨kvs, k, p, .inl e2, rfl, e1, rfl⟩, kk _ _ _ _ _ (g1.trans g2) (.bl _) ?_⟩
    rcases en.get (k := k) with ⟨c1, c2⟩ | ⟨v, d', c1, c2, _⟩
    · rw [c1]; rw [c2] at q; exact q
    · rw [c1]; rw [c2] at q; exact q
/-- d[k] = value -/
theorem ws_dput {pos' : Pos} (hu : Y.X.A.units + 1 < cLine) (h : WE Y e ss M fun z M => WE Y o ss M fun y M => WE Y i ss M fun x M => ∃ k es d, DKey M x y k es ∧ y = .rf d ∧ es.length < sizeLine ∧ N.nx ss (mup M d (.dT (putKD es k z)))) (hs : swapsWith e (some (.Subscript o i pos')) pos.line Y.X.env = pure false := by rfl) : WS Y (.Assign [.Subscript o i pos'] e pos) ss M N :=
  ws_ps (ps_dput hu pe_w pe_w pe_w hs) fun B σ G H E so eo => h _ _ _ _ _ so fun z G0 H0 M0 dz g0 rz h0 => h0 _ _ _ _ _ (so.go g0) fun v G1 H1 M1 d1 g1 r1 h1 => h1 _ _ _ _ _ ((so.go g0).go g1) fun u G2 H2 M2 d2 g2 r2 ⟨k, es, d0, dk, ed, hz, q⟩ => by
    obtain ⟨p, d, kvs, rfl, rfl, e1, e2, en, em, ey⟩ := dk.get g2.wd r2 (r1.mono g2.gg)
    cases ed.symm.trans ey
    have g3 := g2.wd.put (o := .dT (putK kvs k z)) (b := .dT (putKD es k dz)) em (EnP.put ((rz.mono g1.gg).mono g2.gg) en)
    refine ⟨_, _, rfl, .inr ⟨kvs, k, p, e2, rfl, e1, by rw [en.len]; exact hz, rfl⟩, eo.nx _ _ _ _ _ (so.go (((g0.trans g1).trans g2).trans g3)) q⟩
/-- [t[x] for x in t], t a dict that may change -/
theorem we_lcVals (i j : Nat) {t x : Str} {d : Addr} {en : List (List Key × D)} {scope : Scope} {p1 p2 p3 p4 p5 : Pos} (hc : Y.X.calm = true) (hN : Y.X.N.Nodup) (ok : BlkOk Y.X.N Y.X.env.scope scope [(x, i)]) (hu : Y.X.A.units + 1 < cLine) (hj : ss[j]? = some (some (.rf d))) (hij : i ≠ j) (hi : i < ss.length) (em : M d = some (.dT en)) (hn : (en.map (·.1)).Nodup) (hz : en.length ≤ 100000) (q : NewL P M (en.map (·.2)))
    (v1 : PE Y.X (.Name t p5) (tVar j)) (v2 : ∀ s H C cl fp, PE (Y.X.blk s H scope (compEnvC scope cl C Y.X.env) fp) (.Name t p1) (tVar j)) (v3 : ∀ s H C cl fp, PE (Y.X.blk s H scope (compEnvC scope cl C Y.X.env) fp) (.Name x p2) (tVar i)) (v4 : ∀ s H C cl fp, PG (Y.X.blk s H scope (compEnvC scope cl C Y.X.env) fp) (.Name x p4) (gName i))
    (hns : NoSl (.Name x p2) := by intro _ _; rfl) (hs : ∀ x, foldedSetIterable (.Name t p5) Y.X.env x = pure x := by intro _; rfl) : WE Y (.ListComp (.Subscript (.Name t p1) (.Name x p2) p3) [⟨.Name x p4, .Name t p5, [], 0⟩] scope pos) ss M P :=
  we_pe (pe_lock (pe_lc hc hN (pi_keys v1) ok v4 (fun _ _ _ _ _ => pts_nil) (fun s H C cl fp => pe_dget hu (v2 s H C cl fp) (v3 s H C cl fp) hns) hs)) fun B σ G H Q so k => by
    obtain ⟨gd, u, hd, ob⟩ := so.w.mo _ _ em
    obtain ⟨kvs, rfl, pr⟩ := ob.dT
    obtain ⟨v, hv, rv⟩ := so.slot hj
    cases rv
    have nd : (kvs.map (·.1)).Nodup := by rw [EnP.fsts pr]; exact hn
    refine ⟨d, .dT kvs, hd, trivial, fun od => ?_⟩
    refine ⟨.ref d, hv, d, od, rfl, .inr ⟨kvs, upd_same, fun L hL => ?_⟩⟩
    have hLd : L ≠ d := fun z => by rw [z, upd_same] at hL; cases hL
    have hL0 : H L = none := by rw [upd_ne hLd] at hL; exact hL
    refine ⟨fun n m H' => m = kvs.length - n ∧ n ≤ kvs.length ∧ H' = upd (upd H d (.frz od (.dT kvs))) L (.lst ((kvs.take n).map (·.2))), ⟨_, rfl, Nat.zero_le _, rfl⟩, ?_⟩
    rintro n m H' ⟨rfl, hn', rfl⟩
    have hd' : upd (upd H d (.frz od (.dT kvs))) L (.lst ((kvs.take n).map (·.2))) d = some (.frz od (.dT kvs)) := by rw [upd_ne hLd.symm, upd_same]
    by_cases hlt : n < kvs.length
    · refine .inr ⟨⟨hd', hlt⟩, fun H2 => H2 = upd (upd H d (.frz od (.dT kvs))) L (.lst ((kvs.take (n + 1)).map (·.2))), fun H2 e => ⟨kvs.length - (n + 1), by omega, rfl, hlt, e⟩, fun z H2 yl => ?_⟩
      obtain ⟨rfl, kk, vv, qq, hk, rfl, hq⟩ := yl
      refine ⟨?_, ?_⟩
      · have : i ∈ [(x, i)].map (·.2) := by simp
        exact wipe_but (T := [i]) (by simp) ⟨by simp, fun j' hj' => by rw [List.getElem?_set_ne (fun z => hj' (by simp [z]))]⟩
      · refine ⟨.ref d, ?_, .ref qq, ?_, d, vv, rfl, .inr ⟨kvs, kk, qq, .inr ⟨od, hd'⟩, rfl, hq, (val_at nd hk).symm⟩, (kvs.take n).map (·.2), upd_same, by rw [List.length_map, List.length_take, EnP.len pr]; exact Nat.lt_of_le_of_lt (by omega : _ ≤ 100000) (by decide), ?_⟩
        · rw [List.getElem?_set_ne hij, wipe_at, if_neg (by simp; exact fun z => hij z.symm)]
          exact hv
        · rw [List.getElem?_set_self]
          rw [wipe_length, so.f.len]
          exact hi
        · rw [upd_upd, List.take_add_one, hk, List.map_append]
          rfl
    · have e : n = kvs.length := by omega
      subst e
      refine .inl ⟨⟨hd', Nat.le_refl _⟩, hd', ?_⟩
      rw [List.take_length]
      have eh : upd (upd (upd H d (.frz od (.dT kvs))) L (.lst (kvs.map (·.2)))) d (.dT kvs) = upd H L (.lst (kvs.map (·.2))) := by
        funext b
        by_cases c : b = d
        · rw [c, upd_same, upd_ne hLd.symm, hd]
        · by_cases c2 : b = L
          · rw [upd_ne c, c2, upd_same, upd_same]
          · rw [upd_ne c, upd_ne c2, upd_ne c, upd_ne c2]
      rw [eh]
      exact q.k so.refl hL0 (EnP.snds pr) k
end
end JQ

set_option Elab.async false
set_option linter.all false
set_option maxRecDepth 100000
set_option maxHeartbeats 2000000
/-! {(..): v for x in xs}: a dict comprehension whose keys are tuples. -/
namespace JQ
open PySem PySem.Spec PyProof.Rows L2
open Evl (Ex ex_l ex_t)
theorem d_dictSetT {X : Cx} {pins : List (Addr × Obj)} {σ : L2.St} {H : Hp} {s : Shared} {E : Value → Shared → Prop} {D b : Addr} {kvs : List (List Key × V)} {k : List Key} {v : V} {r : Value} {Q : Unit → Shared → Prop} (hu : X.A.units + 1 < cLine) (I : Inv X pins σ H s) (hD : H D = some (.dT kvs)) (eb : H b = some (.tup (k.map kV))) (hz : kvs.length < sizeLine) (rv : RelV v r)
    (h : ∀ s', Inv X pins σ (upd H D (.dT (putK kvs k v))) s' → Q () s') : wpAny (model X.prog X.w) X.A (dictSet D (.ref b) r) Q E s := by
  obtain ⟨z, hd, xs, rel, dd⟩ := dt_of I.hok hD
  have hl : (putK kvs k v).length ≤ sizeLine := by
    have := length_putK kvs k v
    omega
  refine PySem.wpAny_dictSet_heap (knd := PySem.tupleKind (L2.mixKind X.prog X.w)) (Nat.lt_of_succ_lt hu) (key_of I.hok eb) dd (fun h' dd' hs => h _ ?_) (by rw [← PySem.Paired.length rel]; exact z)
  obtain ⟨q, es, ep, hq, h2, h3, h4, _, h5⟩ := dd'
  exact d_write I (by rw [hD]; trivial) hs ⟨q, hq⟩ ⟨hl, hd, PySem.storedH xs k b r, KT.keeps (KT.put rel k eb rv) fun c ys ec => by rw [upd_ne (ne_of ec hD (fun z => nomatch z))]; exact ec, q, es, ep, hq, h2, h3, h4, h5⟩
def tDcT (wi : TI) (g : TG) (tt : TT) (tk tv : TE) (vs : List Nat) : TE := fun σ H Q =>
  wi σ H fun J H1 => ∀ D, H1 D = none → ∃ W : Nat → Nat → Hp → Prop, (∃ m, W 0 m (upd H1 D (.dT []))) ∧ ∀ i m H, W i m H → (J.stop i H ∧ Q (.ref D) H) ∨ (J.go i H ∧ ∃ Nx : Hp → Prop, (∀ H', Nx H' → ∃ m', m' < m ∧ W (i + 1) m' H') ∧ ∀ x H', J.yld i H x H' →
    g x (wipe σ vs) H' fun σ2 H2 => wipe σ2 vs = wipe σ vs ∧ tt σ2 H2 fun b H3 => if b = true then tk σ2 H3 fun y H4 => tv σ2 H4 fun z H5 => ∃ kvs k b, y = .ref b ∧ H5 b = some (.tup (k.map kV)) ∧ H5 D = some (.dT kvs) ∧ kvs.length < sizeLine ∧ Nx (upd H5 D (.dT (putK kvs k z))) else Nx H3)
theorem pe_dcT {X : Cx} {kx vx tg iter : Expr} {ifs : List Expr} {scope : Scope} {own : List (Str × Nat)} {pos : Pos} {wi : TI} {g : TG} {tt : TT} {tk tv : TE} (hu : X.A.units + 1 < cLine) (hc : X.calm = true) (hN : X.N.Nodup) (hi : PI X tg iter wi) (ok : BlkOk X.N X.env.scope scope own)
    (hg : ∀ s H C cl fp, PG (X.blk s H scope (compEnvC scope cl C X.env) fp) tg g) (ht : ∀ s H C cl fp, PTs (X.blk s H scope (compEnvC scope cl C X.env) fp) ifs tt) (hk : ∀ s H C cl fp, PE (X.blk s H scope (compEnvC scope cl C X.env) fp) kx tk) (he : ∀ s H C cl fp, PE (X.blk s H scope (compEnvC scope cl C X.env) fp) vx tv)
    (hs : ∀ x, foldedSetIterable iter X.env x = pure x := by intro _; rfl) : PE X (.DictComp kx vx [⟨tg, iter, ifs, 0⟩] scope pos) (tDcT wi g tt tk tv (own.map (·.2))) where
  run := fun pins s σ H Q I h => by
    rw [arm_eval_DictComp]
    refine wpAny_comprehension_free rfl hs (closure_ok fun y hy e => (ok.free y hy e).elim (fun k => I.ok.has y.1 (Or.inl k)) fun k => I.ok.has y.1 (Or.inr k)) ok.kind (fun y hy e => by rw [ok.uniq y hy, e]) ?_
    refine thn (hi.run pins s σ H _ I h) fun xv s1 hx => ?_
    refine thn hx fun itv s2 h2 => ?_
    obtain ⟨it, fp, tn, J, H2, e, I2, T, st2, f2, q⟩ := h2
    refine e.symm ▸ wpAny_newObj_type (newEnv_comp ?_)
    have hDn := HOk.fresh I2.hok (Nat.le_of_eq (Eq.refl s2.heap.objs.size))
    obtain ⟨W, ⟨m0, w0⟩, turn⟩ := q s2.heap.objs.size hDn
    generalize hs3 : ({ heap := s2.heap.push { cls := Value.type "dict", data := Data.dict #[] }, gens := s2.gens, drawn := s2.drawn, toks := s2.toks, os := s2.os } : Shared) = s3
    have h3 : s3.heap = s2.heap.push { cls := Value.type "dict", data := Data.dict #[] } := by rw [← hs3]
    have I3 : Inv X pins σ (upd H2 s2.heap.objs.size (.dT [])) s3 := by
      rw [← hs3]
      exact Inv.laid I2 (fun b o e => Heap.get?_push_of_some _ e) (Nat.le_refl _) (dt_empty s2.heap (Inv.big I2))
    have sz : ∀ b ∈ fp, b < s2.heap.objs.size := fun b hb => by
      obtain ⟨o, e, _⟩ := T.obj 0 s2.heap st2 b hb
      exact Heap.lt_size e
    have st3 := T.keep 0 s2.heap s3.heap st2 fun b _ o e => by rw [h3]; exact Heap.get?_push_of_some _ e
    have I4 := block_start I3 ok hN (fp := fp) fun b hb => ⟨⟨by rw [upd_ne (Nat.ne_of_lt (sz b hb))]; exact (f2 b hb).1, (f2 b hb).2⟩, by rw [h3, Heap.size_push]; exact Nat.lt_succ_of_lt (sz b hb)⟩
    have f4 : ∀ b, b ∈ fp → FpOk X pins H2 b := f2
    generalize hcl : cellsFrom (s3.heap.objs.size + 1) scope.names (cloFrom X.env.cells scope.names []) = cl at I4 ⊢
    show codeAny (model X.prog X.w) X.A (Code.compStart _ 0 (.ref it) (.ref s2.heap.objs.size) (compEnvC scope cl s3.heap.objs.size X.env)) (compPost (model X.prog X.w) X.A X.xe none (EP X pins σ Q) (.ref s2.heap.objs.size) s3.heap.objs.size) _
    have st4 := T.keep 0 s3.heap (pushCells (s3.heap.push { cls := Value.type "dict", data := Data.dict #[] }) scope.names) st3 fun b _ o e => pushCells_keeps scope.names _ b o (Heap.get?_push_of_some _ e)
    have pg := hg s3 (upd H2 s2.heap.objs.size (.dT [])) s3.heap.objs.size cl fp
    have pt := ht s3 (upd H2 s2.heap.objs.size (.dT [])) s3.heap.objs.size cl fp
    have pk := hk s3 (upd H2 s2.heap.objs.size (.dT [])) s3.heap.objs.size cl fp
    have pe := he s3 (upd H2 s2.heap.objs.size (.dT [])) s3.heap.objs.size cl fp
    generalize hXB : X.blk s3 (upd H2 s2.heap.objs.size (.dT [])) scope (compEnvC scope cl s3.heap.objs.size X.env) fp = XB at I4 pg pt pk pe
    have eP : XB.prog = X.prog := by rw [← hXB]
    have eW : XB.w = X.w := by rw [← hXB]
    have eK : XB.K = X.K := by rw [← hXB]
    have eC : XB.calm = true := by rw [← hXB]; exact hc
    have eA : XB.A = X.A := by rw [← hXB]
    have eE : XB.env = compEnvC scope cl s3.heap.objs.size X.env := by rw [← hXB]
    have stat : ∀ {σ' : L2.St} {H' : Hp} {s' : Shared}, Inv XB [] σ' H' s' → (∀ b, b ∈ fp → H' b = none) → ∀ b, b ∈ fp → FpOk XB [] H' b := by
      subst hXB
      exact fun I' hn b hb => ⟨hn b hb, (I'.ok.exf b hb).1, I'.ok.exfs b hb, .inl hb, fun x c e => (I'.ok.exf b hb).2 x c e, fun p hp => absurd hp (by simp)⟩
    suffices loop : codeAny (model X.prog X.w) X.A (Code.compLoop (.DictComp kx vx [⟨tg, iter, ifs, 0⟩] scope pos) 0 (.ref it) (.ref s2.heap.objs.size) (compEnvC scope cl s3.heap.objs.size X.env)) (compPost (model X.prog X.w) X.A X.xe none (EP X pins σ Q) (.ref s2.heap.objs.size) s3.heap.objs.size) _ from codeAny_compStart_dict loop (T.self _ 0 _ _ _ st4 loop)
    refine compLoop_anyD (fun n s' => ∃ i H', Inv XB [] (wipe σ (own.map (·.2))) H' s' ∧ tn i s'.heap ∧ (∀ b, b ∈ fp → H' b = none) ∧ W i n H') (fun n s5 a => ?_) m0 ⟨0, _, I4, st4, fun b hb => by rw [upd_ne (Nat.ne_of_lt (sz b hb))]; exact (f2 b hb).1, w0⟩
    · obtain ⟨i, H5, I5, st5, n5, w5⟩ := a
      subst hXB
      rcases turn i n H5 w5 with ⟨stop, qq⟩ | ⟨go, Nx, hNx, step⟩
      · refine thnF (T.done (X.blk s3 (upd H2 s2.heap.objs.size (.dT [])) scope (compEnvC scope cl s3.heap.objs.size X.env) fp) rfl rfl rfl hc i [] s5 _ H5 _ I5 (stat I5 n5) st5 stop) fun r s6 z => ?_
        obtain ⟨hr, I6⟩ := z
        subst hr
        have I7 := Inv.call' I3 I6.os I6.base I6.hok I6.bare fun b hb => by
          have f := f4 b hb
          exact ⟨f.2.2.2.1, f.2.1, f.2.2.2.2.1, f.2.2.2.2.2⟩
        have nC : H5 s3.heap.objs.size = none := I6.free
        obtain ⟨m, hn, _⟩ := I6.loc
        have f := Inv.fpOk I3 (Nat.le_refl s3.heap.objs.size) nC
        exact ⟨m, hn, fun h'' sb => ⟨.ref s2.heap.objs.size, H5, Inv.turned I7 (fun b o hb e => (sb.2 b hb).trans e) f.1 f.2.1 f.2.2.2.1 f.2.2.2.2.1 f.2.2.2.2.2, rfl, qq⟩⟩
      · refine thnF (T.item (X.blk s3 (upd H2 s2.heap.objs.size (.dT [])) scope (compEnvC scope cl s3.heap.objs.size X.env) fp) rfl rfl rfl hc i [] s5 _ H5 _ I5 (stat I5 n5) st5 go) fun r s6 z => ?_
        obtain ⟨u, hr, h6⟩ := z
        subst hr
        refine thnF h6 fun _ s7 z => ?_
        obtain ⟨x, H7, I7, r7, y7, st7, n7⟩ := z
        have I7' := Inv.pinned I7 (stat I7 n7) (T.obj (i + 1) s7.heap st7)
        refine thnF (pg.run ([] ++ pinsAt fp s7.heap) s7 (wipe σ (own.map (·.2))) H7 x u _ I7' r7 (step x H7 y7)) fun _ s8 z => ?_
        obtain ⟨σ8, H8, I8, hw8, q8⟩ := z
        refine thnF (pt.run ([] ++ pinsAt fp s7.heap) s8 σ8 H8 _ I8 q8) fun b s9 z => ?_
        obtain ⟨H9, I9, q9⟩ := z
        have fin : ∀ {s' : Shared} {H' : Hp}, Inv (X.blk s3 (upd H2 s2.heap.objs.size (.dT [])) scope (compEnvC scope cl s3.heap.objs.size X.env) fp) ([] ++ pinsAt fp s7.heap) σ8 H' s' → Nx H' → ∃ m, m < n ∧ ∃ i H', Inv (X.blk s3 (upd H2 s2.heap.objs.size (.dT [])) scope (compEnvC scope cl s3.heap.objs.size X.env) fp) [] (wipe σ (own.map (·.2))) H' s' ∧ tn i s'.heap ∧ (∀ b, b ∈ fp → H' b = none) ∧ W i m H' := by
          intro s' H' I' nx
          obtain ⟨m', hm, w'⟩ := hNx H' nx
          have pin' : ∀ b, b ∈ fp → ∀ o, s7.heap.get? b = some o → s'.heap.get? b = some o ∧ H' b = none := fun b hb o e => by
            have z := I'.pin (b, o) (List.mem_append_right _ (mem_pinsAt hb e))
            exact ⟨z.1, z.2.1⟩
          have hl : (wipe σ (own.map (·.2))).length = σ8.length := by rw [← hw8, wipe_length]
          exact ⟨m', hm, i + 1, H', Inv.weak (Inv.unpinned I') hl fun j v e => (wipe_some (by rw [hw8]; exact e)).1, T.keep (i + 1) s7.heap s'.heap st7 fun b hb o e => (pin' b hb o e).1, fun b hb => by
            obtain ⟨o, e, _⟩ := T.obj (i + 1) s7.heap st7 b hb
            exact (pin' b hb o e).2, w'⟩
        cases b with
        | false => exact fin I9 q9
        | true =>
          refine thnF (pk.run ([] ++ pinsAt fp s7.heap) s9 σ8 H9 _ I9 q9) fun a s10 z => ?_
          obtain ⟨y, H10, I10, ry, q10⟩ := z
          refine thnF (pe.run ([] ++ pinsAt fp s7.heap) s10 σ8 H10 _ I10 q10) fun c s11 z => ?_
          obtain ⟨z, H11, I11, rz, kvs, k, b, ey, eb, hD, hz, nx⟩ := z
          subst ey
          obtain rfl : a = Value.ref b := ry
          exact d_dictSetT (X := (X.blk s3 (upd H2 s2.heap.objs.size (.dT [])) scope (compEnvC scope cl s3.heap.objs.size X.env) fp)) hu I11 hD eb hz rz fun s' I' => fin I' nx
section
variable {Y : Bd} {ss : List S} {M : Mm} {P : D → Mm → Prop} {kx vx tg iter : Expr} {scope : Scope} {own : List (Str × Nat)} {pos : Pos} {Qv : VK}
/-- what a dict comprehension asks: Acc tells what is made behind i items, and what changed -/
def WDc (Y : Bd) (kx vx tg : Expr) (scope : Scope) (vs : List Nat) (ss : List S) (M : Mm) (ds : List D) (L : Mm → Prop) (P : D → Mm → Prop) : Prop := ds.length ≤ 100000 ∧ ∃ Acc : Nat → List (List Key × D) → Mm → Prop, Acc 0 [] M ∧ (∀ i a M, Acc i a M → L M ∧ a.length ≤ i) ∧
  (∀ i d acc M, ds[i]? = some d → Acc i acc M → ∀ s H C cl fp, ∃ T, (∀ j ∈ T, j ∈ vs) ∧ WG (Y.blk s H scope C cl fp) tg T d (wipeS ss vs) M fun ss2 M =>
    ∀ s H C cl fp, WE (Y.blk s H scope C cl fp) kx ss2 M fun y M => ∀ s H C cl fp, WE (Y.blk s H scope C cl fp) vx ss2 M fun z M => ∃ k p, y = .rf p ∧ M p = some (.tp (k.map kD)) ∧ Acc (i + 1) (putKD acc k z) M) ∧ ∀ acc M, Acc ds.length acc M → ∀ p, M p = none → P (.rf p) (mup M p (.dT acc))
theorem dc_read (h : WI Y tg iter ss M fun ds L M => WDc Y kx vx tg scope (own.map (·.2)) ss M ds L P) {B : Bs} {G H : Hp} {σ : L2.St} (so : StOk Y B σ G H M ss) (k : Kon Y G H M P Qv) :
    tDcT (wI Y.X tg iter) (wGb Y.X scope tg) tYes (wEb Y.X scope kx) (wEb Y.X scope vx) (own.map (·.2)) σ H Qv := by
  refine h _ _ _ _ _ so fun J G1 H1 M1 ds Lq g sq ⟨hz, Acc, a0, aL, at_, ae⟩ => fun L hL => ?_
  have so1 := so.go g
  have gL := so1.w.gnone hL
  have mL := so1.w.mnone hL
  refine ⟨fun i m H' => m = ds.length - i ∧ i ≤ ds.length ∧ ∃ G' M' vs acc, Tr Y.X.K G1 H1 M1 G' H' M' ∧ H' L = some (.dT vs) ∧ EnP Y.X.K G' vs acc ∧ G' L = none ∧ M' L = none ∧ Acc i acc M', ⟨_, rfl, Nat.zero_le _, G1, M1, [], [], so1.w.extra hL, upd_same, .nil, gL, mL, a0⟩, ?_⟩
  rintro i m H' ⟨rfl, hi, G', M', vs, acc, g', hL', r, gL', mL', ac⟩
  have so' := so1.go g'
  by_cases hlt : i < ds.length
  · refine .inr ⟨sq.go i G' H' M' g'.gg so'.w (aL _ _ _ ac).1 hlt, fun H2 => i + 1 ≤ ds.length ∧ ∃ G2 M2 vs acc, Tr Y.X.K G1 H1 M1 G2 H2 M2 ∧ H2 L = some (.dT vs) ∧ EnP Y.X.K G2 vs acc ∧ G2 L = none ∧ M2 L = none ∧ Acc (i + 1) acc M2, fun H2 q => ⟨ds.length - (i + 1), by omega, rfl, q.1, q.2⟩, fun x H2 y => ?_⟩
    obtain ⟨G2, g2, r2⟩ := sq.yld i G' H' M' x H2 ds[i] g'.gg so'.w (aL _ _ _ ac).1 (by simp) y
    intro s Hb C cl fp
    have so2 := ((so'.go g2).wipe (own.map (·.2))).toBlk s Hb scope C cl fp
    obtain ⟨T, hT, q⟩ := at_ i ds[i] acc M' (by simp) ac s Hb C cl fp
    refine q _ _ _ _ _ _ so2 r2 fun σ3 G3 H3 M3 ss3 so3 g3 b3 q3 => ⟨wipe_but hT b3, ?_⟩
    intro s' Hb' C' cl' fp'
    refine q3 s' Hb' C' cl' fp' _ _ _ _ _ (so3.reBlk s' Hb' scope C' cl' fp') fun yv G4 H4 M4 dy g4 r4 q4 => ?_
    intro s5 Hb5 C5 cl5 fp5
    refine q4 s5 Hb5 C5 cl5 fp5 _ _ _ _ _ (((so3.go g4).reBlk s5 Hb5 scope C5 cl5 fp5)) fun v G5 H5 M5 d g5 r5 q5 => ?_
    obtain ⟨kk, p, ey, ep, q5⟩ := q5
    subst ey
    cases r4
    have gr5 : Tr Y.X.K G' H' M' G5 H5 M5 := (g2.trans (Tr.trans g3 g4)).trans g5
    have g15 : Tr Y.X.K G1 H1 M1 G5 H5 M5 := g'.trans gr5
    obtain ⟨f1, f2, f3⟩ := gr5.fr _ _ hL' mL'
    have gL5 : G5 L = none := by rw [f3]; exact gL'
    obtain ⟨_, u, hp, ob⟩ := g15.wd.mo _ _ ep
    obtain ⟨ws, rfl, q1⟩ := ob.tp
    rw [iss_keys q1] at hp
    refine ⟨vs, kk, p, rfl, hp, f1, ?_, hlt, G5, M5, putK vs kk v, putKD acc kk d, ⟨g15.gg, ⟨fun a u hu => ?_, fun a u hu => ?_⟩, fun a u hu m => ?_, fun a u hu => ?_⟩, upd_same, EnP.put r5 (EnP.mono gr5.gg r), gL5, f2, q5⟩
    · rw [EnP.len r]
      exact Nat.lt_of_le_of_lt (Nat.le_trans (aL _ _ _ ac).2 (Nat.le_trans hi hz)) (by decide)
    · rw [upd_ne (ne_of_none hu gL5)]
      exact g15.gh a u hu
    · have ne : a ≠ L := fun z => by rw [z, f2] at hu; cases hu
      rw [upd_ne ne]
      exact g15.wd.mo a u hu
    · rw [upd_ne (ne_of_none hu hL)]
      exact g15.fr a u hu m
    · rw [upd_ne (ne_of_none hu hL)]
      exact g15.lv a u hu
  · have e : i = ds.length := by omega
    subst e
    refine .inl ⟨sq.stop G' H' M' g'.gg so'.w (aL _ _ _ ac).1, ?_⟩
    have p := ae acc M' ac
    have g3 : Tr Y.X.K G1 H1 M1 G' H' (mup M' L (.dT acc)) := ⟨g'.gg, ⟨g'.gh, fun a u hu => by
        by_cases c : a = L
        · subst c
          rw [mup_same] at hu
          cases hu
          exact ⟨gL', _, hL', r⟩
        · rw [mup_ne c] at hu
          exact g'.wd.mo a u hu⟩, fun a u hu m => by
        rw [mup_ne (ne_of_none hu hL)]
        exact g'.fr a u hu m, g'.lv⟩
    exact k _ _ _ _ _ (g.trans g3) (.adr _) (p L mL')
/-- {(..): v for tg in iter} -/
theorem we_dc (own : List (Str × Nat)) (hu : Y.X.A.units + 1 < cLine) (hc : Y.X.calm = true) (hN : Y.X.N.Nodup) (ok : BlkOk Y.X.N Y.X.env.scope scope own) (h : WI Y tg iter ss M fun ds L M => WDc Y kx vx tg scope (own.map (·.2)) ss M ds L P) (hs : ∀ x, foldedSetIterable iter Y.X.env x = pure x := by intro _; rfl) : WE Y (.DictComp kx vx [⟨tg, iter, [], 0⟩] scope pos) ss M P :=
  we_pe (pe_dcT hu hc hN pi_w ok pg_wb (fun _ _ _ _ _ => pts_nil) pe_wb pe_wb hs) fun B σ G H Q so k => dc_read h so k
end
end JQ

set_option Elab.async false
set_option linter.all false
set_option maxRecDepth 100000
set_option maxHeartbeats 2000000
/-! a & b, v in x, bool(x) by own methods. -/
namespace JQ
open PySem PySem.Spec PyProof.Rows L2
open Evl (Ex ex_l ex_t)
theorem fills_no {K : PySem.W.Frag} {R : Addr} {M : Model} {h : Heap} {nm : String} {cd : ClassData} (X : K.In h) (hc : PySem.W.clsIn K R = some cd) (hm : cd.mro = [.ref R, .type "object"]) (h1 : PySem.W.findIn K (.ref R) (dunder nm) = some none) (h2 : PySem.W.findIn K (.ref R) (dunderR nm) = some none)
    (h3 : PySem.W.findIn K (.type "object") (dunder nm) = some none) (h4 : PySem.W.findIn K (.type "object") (dunderR nm) = some none) : PySem.W.Looks M h (fillsNumberSlot (.ref R) nm) false := by
  intro A Q E s k q
  have X2 : K.In s.heap := fun b o e => k b o (X b o e)
  unfold fillsNumberSlot
  have lm : PySem.W.Looks M h (mroOf (.ref R)) cd.mro := PySem.W.Looks.andThen (PySem.W.looks_clsIn X hc) PySem.W.Looks.now
  refine wpAny_bind (lm A _ _ s k ?_)
  rw [hm, List.anyM_cons]
  refine wpAny_bind ?_
  show wpAny M A (List.anyM _ [dunder nm, dunderR nm]) _ E s
  rw [List.anyM_cons]
  refine wpAny_bind (wpAny_bind ((PySem.W.looks_findIn X2 h1).here ?_))
  refine wpAny_pure ?_
  rw [if_neg Bool.false_ne_true, List.anyM_cons]
  refine wpAny_bind (wpAny_bind ((PySem.W.looks_findIn X2 h2).here ?_))
  refine wpAny_pure ?_
  rw [if_neg Bool.false_ne_true, List.anyM_nil]
  refine wpAny_pure ?_
  rw [if_neg Bool.false_ne_true, List.anyM_cons]
  refine wpAny_bind (wpAny_bind ((PySem.W.looks_findIn X2 h3).here ?_))
  refine wpAny_bind ((PySem.W.looks_findIn X2 h4).here ?_)
  refine wpAny_pure ?_
  show wpAny M A (if false = true then _ else List.anyM _ []) Q E s
  rw [if_neg Bool.false_ne_true, List.anyM_nil]
  exact wpAny_pure q
theorem and_K {A : Around} {E : Value → Shared → Prop} {s : Shared} {K : PySem.W.Frag} {x C R L f : Addr} {h₀ : Heap} {m : Str → Option Value} {ox : Obj} {od : Option Obj} {prog : Program} {w : World} {b : Value} {cd rd : ClassData} {rest : List Value} {Q : Value → Shared → Prop} (F : Fr h₀ L s.heap m) (X0 : K.In h₀) (J : PySem.W.InstAt s.heap x ox C od) (hb : PySem.W.Looks (model prog w) s.heap (typeOf b) (.ref R)) (hne : C ≠ R)
    (hc : PySem.W.clsIn K C = some cd) (hcm : cd.mro = .ref C :: rest) (hf : PySem.W.findIn K (.ref C) (dunder "and") = some (some (.ref f))) (hfn : PySem.W.isFn K (.ref f) = true)
    (hr : PySem.W.clsIn K R = some rd) (hrm : rd.mro = [.ref R, .type "object"]) (h1 : PySem.W.findIn K (.ref R) (dunder "and") = some none) (h2 : PySem.W.findIn K (.ref R) (dunderR "and") = some none) (h3 : PySem.W.findIn K (.type "object") (dunder "and") = some none) (h4 : PySem.W.findIn K (.type "object") (dunderR "and") = some none)
    (h : wpAny (model prog w) A (call (.ref f) [.ref x, b]) (PySem.W.CmpBack Q) E s) : wpAny (model prog w) A (binaryOp .BitAnd (.ref x) b) Q E s := by
  have X : K.In s.heap := X0.keeps F.keep
  unfold binaryOp
  refine wpAny_holding ?_
  show wpAny (model prog w) A (binaryOp1 "and" (.ref x) b >>= _) Q E s
  refine wpAny_bind ?_
  unfold binaryOp1
  refine wpAny_bind (J.type.here ?_)
  refine wpAny_bind (hb.here ?_)
  refine wpAny_bind ((PySem.W.fills_K X hc hcm hf).here ?_)
  rw [if_neg (by simp [hne])]
  refine wpAny_bind ((fills_no X hr hrm h1 h2 h3 h4).here ?_)
  simp only [Bool.and_false, Bool.false_and, Bool.false_eq_true, if_false, if_true]
  refine wpAny_bind (wpAny_pure ?_)
  simp only [Bool.false_eq_true, if_false, if_true]
  unfold tryMethod
  have hft : PySem.W.typeIn K (.ref f) = some (.type "function") := by simpa [PySem.W.isFn] using hfn
  refine wpAny_bind (wpAny_bind (PySem.W.special_fn X J hf hft ?_))
  refine wpAny_mono h ?_ (fun _ _ e => e)
  intro v s' hv
  cases v <;> first | exact hv.elim | exact wpAny_pure (wpAny_pure (wpAny_pure hv))
section
variable {Y : Bd} {ss : List S} {M : Mm} {P : D → Mm → Prop} {k : Nat} {f C R : Addr} {fd : FuncData} {ps : List Str} {S : Sd} {x y : D} {fs gs : List (Str × D)}
theorem relv_ni {v : V} {u : Value} (r : RelV v u) : u ≠ Value.notImplemented := fun e => by
  subst e
  cases v <;> first | (obtain ⟨_, h⟩ := r; exact Value.noConfusion h) | exact Value.noConfusion r | cases r
structure AndC (K : PySem.W.Frag) (C R : Addr) : Prop where
  ne : C ≠ R
  c1 : ∃ cd rest, PySem.W.clsIn K C = some cd ∧ cd.mro = .ref C :: rest
  r1 : ∃ rd, PySem.W.clsIn K R = some rd ∧ rd.mro = [.ref R, .type "object"]
  h1 : PySem.W.findIn K (.ref R) (dunder "and") = some none
  h2 : PySem.W.findIn K (.ref R) (dunderR "and") = some none
  h3 : PySem.W.findIn K (.type "object") (dunder "and") = some none
  h4 : PySem.W.findIn K (.type "object") (dunderR "and") = some none
def rAndO (X : Cx) (C R : Addr) (sp : Sp) : R2 := fun u v H Q => ∃ a dx fs b dy gs, u = .ref a ∧ v = .ref b ∧ H a = some (.ins C dx fs) ∧ H b = some (.ins R dy gs) ∧ sp [u, v] H (fun z H' => Q z H') E0
theorem op_andO {X : Cx} {sp : Sp} (hC : AndC X.K C R) (hm : Meth X.K C "__and__" f) (F : FnG X.prog X.w X.K X.mg X.base k f fd ps sp) (hg : X.A.guards = some []) (hr : Room k X.A) (hb : ∀ (s : Shared) us, X.K.In s.heap → us.length = 2 → BindsTo s fd ⟨us, []⟩ (ps.zip us)) : OpR X (binaryOp .BitAnd) (rAndO X C R sp) := by
  intro pins s σ H u v u' v' Q I r1 r2 h
  obtain ⟨a, dx, fs, b, dy, gs, rfl, rfl, ha, hb', h⟩ := h
  obtain rfl : u' = Value.ref a := r1
  obtain rfl : v' = Value.ref b := r2
  obtain ⟨ox, od, J⟩ := inst_of I ha
  obtain ⟨oy, od2, J2⟩ := inst_of I hb'
  obtain ⟨m, Fm⟩ := I.fr
  obtain ⟨cd, rest, c1, c2⟩ := hC.c1
  obtain ⟨rd, e1, e2⟩ := hC.r1
  refine and_K Fm I.mod.kin J J2.type hC.ne c1 c2 hm.at_ hm.fn e1 e2 hC.h1 hC.h2 hC.h3 hC.h4 ?_
  refine wpAny_call (codeAny_mono (F.run X.A X.stack s H ⟨[.ref a, .ref b], []⟩ [.ref a, .ref b] [.ref a, .ref b] _ E0 hg hr I.env0 (hb s [.ref a, .ref b] I.kIn rfl) (.cons rfl (.cons rfl .nil)) h) fun res s2 hq => ?_)
  match res, hq with
  | .error e, hq => exact passL pins σ H s e s2 I hq
  | .ok (.ret u), hq =>
    obtain ⟨v, H', I3, rv, q⟩ := I.after hq
    have ne : u ≠ Value.notImplemented := relv_ni rv
    cases u <;> first | exact absurd rfl ne | exact ⟨v, H', I3, rv, q⟩
  | .ok .next, hq => exact False.elim hq
  | .ok .brk, hq => exact False.elim hq
  | .ok .cont, hq => exact False.elim hq
/-- x & y, both objects, by x's own __and__ -/
theorem o_andO (hC : AndC Y.X.K C R) (hx : OAt M x C fs) (hy : OAt M y R gs) (hm : Meth Y.X.K C "__and__" f) (F : FnG Y.X.prog Y.X.w Y.X.K Y.X.mg Y.X.base k f fd ps (spD Y.X.K S)) (hg : Y.X.A.guards = some []) (hr : Room k Y.X.A) (hb : ∀ us : List Value, us.length = ps.length → bindArgs fd ⟨us, []⟩ = pure (ps.zip us)) (hp : ps.length = 2)
    (h : S [x, y] M P fun _ _ _ => False) : Op2 Y (binaryOp .BitAnd) x y M P :=
  ⟨_, op_andO hC hm F hg hr (fun s us _ hl => .of_eq (hb us (hl.trans hp.symm))), fun G H u v Q w r1 r2 k => by
    obtain ⟨a, dx, vs, rfl, h1, q1⟩ := hx.get w r1
    obtain ⟨b, dy, ws, rfl, h2, q2⟩ := hy.get w r2
    exact ⟨a, dx, vs, b, dy, ws, rfl, rfl, h1, h2, G, M, [x, y], _, _, w, .cons r1 (.cons r2 .nil), h, fun v G' H' M' d t ri q => k _ _ _ _ _ t ri q, fun C gs fs d G' H' M' M2 ee => ee.elim⟩⟩
/-! ### v in x, bool(x) -/
def rInO (X : Cx) (C : Addr) (sp : Sp) : R2 := fun v u H Q => ∃ a dx fs, u = .ref a ∧ H a = some (.ins C dx fs) ∧ sp [u, v] H (fun z H' => ∃ b, z = .bl b ∧ Q (.bl b) H') E0
theorem op_inO {X : Cx} {sp : Sp} (hm : Meth X.K C "__contains__" f) (F : FnG X.prog X.w X.K X.mg X.base k f fd ps sp) (hg : X.A.guards = some []) (hr : Room k X.A) (hb : ∀ (s : Shared) us, X.K.In s.heap → us.length = 2 → BindsTo s fd ⟨us, []⟩ (ps.zip us)) : OpR X (compareOp .In) (rInO X C sp) := by
  intro pins s σ H v u v' u' Q I r2 r1 h
  obtain ⟨a, dx, fs, rfl, ha, h⟩ := h
  obtain rfl : u' = Value.ref a := r1
  obtain ⟨ox, od, J⟩ := inst_of I ha
  obtain ⟨m, Fm⟩ := I.fr
  refine PySem.W.in_K Fm I.mod.kin J hm.at_ hm.fn ?_
  refine wpAny_call (codeAny_mono (F.run X.A X.stack s H ⟨[.ref a, v'], []⟩ [.ref a, v'] [.ref a, v] _ E0 hg hr I.env0 (hb s [.ref a, v'] I.kIn rfl) (.cons rfl (.cons r2 .nil)) h) fun res s2 hq => ?_)
  match res, hq with
  | .error e, hq => exact passL pins σ H s e s2 I hq
  | .ok (.ret u), hq =>
    obtain ⟨z, H', I3, rv, b, ez, q⟩ := I.after hq
    subst ez
    obtain rfl : u = Value.bool b := rv
    show wpAny (model X.prog X.w) X.A (truthy (Value.bool b)) (fun b => EP X pins σ Q (Value.bool b)) X.xe s2
    exact wpAny_pure ⟨.bl b, H', I3, rfl, q⟩
  | .ok .next, hq => exact False.elim hq
  | .ok .brk, hq => exact False.elim hq
  | .ok .cont, hq => exact False.elim hq
theorem o_inO (hx : OAt M x C fs) (hm : Meth Y.X.K C "__contains__" f) (F : FnG Y.X.prog Y.X.w Y.X.K Y.X.mg Y.X.base k f fd ps (spD Y.X.K S)) (hg : Y.X.A.guards = some []) (hr : Room k Y.X.A) (hb : ∀ us : List Value, us.length = ps.length → bindArgs fd ⟨us, []⟩ = pure (ps.zip us)) (hp : ps.length = 2)
    (h : S [x, y] M (fun d M' => ∃ b, d = .bl b ∧ P (.bl b) M') fun _ _ _ => False) : Op2 Y (compareOp .In) y x M P :=
  ⟨_, op_inO hm F hg hr (fun s us _ hl => .of_eq (hb us (hl.trans hp.symm))), fun G H v u Q w r2 r1 k => by
    obtain ⟨a, dx, vs, rfl, h1, q1⟩ := hx.get w r1
    exact ⟨a, dx, vs, rfl, h1, G, M, [x, y], _, _, w, .cons r1 (.cons r2 .nil), h, fun v G' H' M' d t ri ⟨b, ed, q⟩ => by
      subst ed
      cases ri
      exact ⟨b, rfl, k _ _ _ _ _ t (.bl _) q⟩, fun C gs fs d G' H' M' M2 ee => ee.elim⟩⟩
theorem call_boolW {prog : Program} {w : World} {A : Around} {E : Value → Shared → Prop} {s : Shared} {x : Value} {Q : Value → Shared → Prop} (h : wpAny (model prog w) A.in1.in1 (truthy x) (fun b s' => Q (.bool b) s') E s) : wpAny (model prog w) A (call (.type "bool") [x]) Q E s := by
  refine callType_newIn (S := fun A R s => wpAny (model prog w) A.in1 (truthy x) (fun b s' => R (.ok (.ret (.bool b))) s') (fun e s' => R (.error e) s') s) F.called_bool F.newNe_bool (F.typeCall_bool_1 x) (F.newCall_bool_1 x) (fun obj => F.args_object_init_2 obj x) F.entry_bool_new ?_ ?_
  · intro A R s hs
    have f1 := F.conv_sub_bool
    unfold Builtin.«bool.__new__»
    refine wpAny_bind (wpAny_pure ?_)
    refine wpAny_ite_false rfl ?_
    refine wpAny_bind (wpAny_of_eq f1 ?_)
    refine wpAny_ite_false rfl ?_
    refine wpAny_bind (wpAny_bind (wpAny_ite_true rfl (wpAny_pure (wpAny_bind ?_))))
    unfold checkCount
    refine wpAny_ite_false rfl (wpAny_ite_false rfl (wpAny_ite_false rfl (wpAny_pure (wpAny_pure ?_))))
    refine wpAny_bind (wpAny_mono hs (fun b s' q => wpAny_pure q) fun _ _ e => e)
  · exact wpAny_mono h (fun b s' q => ⟨rfl, q⟩) fun _ _ e => e
def rBoolO (X : Cx) (C : Addr) (sp : Sp) : List V → Hp → VK → Prop := fun vs H Q => ∃ a dx fs, vs = [.ref a] ∧ H a = some (.ins C dx fs) ∧ sp vs H (fun v H' => ∃ b, v = .bl b ∧ Q (.bl b) H') E0
theorem cr_boolO {X : Cx} {sp : Sp} (hm : Meth X.K C "__bool__" f) (F : FnG X.prog X.w X.K X.mg X.base k f fd ps sp) (hg : X.A.guards = some []) (hr : Room (k + 2) X.A) (hb : ∀ (s : Shared) us, X.K.In s.heap → us.length = 1 → BindsTo s fd ⟨us, []⟩ (ps.zip us)) : CallR X (.type "bool") (rBoolO X C sp) := by
  intro pins s σ H vs us Q I r h
  obtain ⟨a, dx, fs, rfl, ha, h⟩ := h
  cases r with
  | @cons _ u _ us' h1 h2 =>
    cases h2
    obtain rfl : u = Value.ref a := h1
    obtain ⟨ox, od, J⟩ := inst_of I ha
    obtain ⟨m, Fm⟩ := I.fr
    refine call_boolW (PySem.W.truthy_K Fm I.mod.kin J hm.at_ hm.fn ?_)
    refine wpAny_call (codeAny_mono (F.run X.A.in1.in1 X.stack s H ⟨[.ref a], []⟩ [.ref a] [.ref a] _ E0 hg hr.in1.in1 I.env0.in1.in1 (hb s [.ref a] I.kIn rfl) (.cons rfl .nil) h) fun res s2 hq => ?_)
    match res, hq with
    | .error e, hq => exact passL pins σ H s e s2 I hq
    | .ok (.ret u), hq =>
      obtain ⟨z, H', I3, rv, b, ez, q⟩ := I.after hq
      subst ez
      obtain rfl : u = Value.bool b := rv
      exact ⟨.bl b, H', I3, rfl, q⟩
    | .ok .next, hq => exact False.elim hq
    | .ok .brk, hq => exact False.elim hq
    | .ok .cont, hq => exact False.elim hq
theorem c_boolO (hx : OAt M x C fs) (hm : Meth Y.X.K C "__bool__" f) (F : FnG Y.X.prog Y.X.w Y.X.K Y.X.mg Y.X.base k f fd ps (spD Y.X.K S)) (hg : Y.X.A.guards = some []) (hr : Room (k + 2) Y.X.A) (hb : ∀ us : List Value, us.length = ps.length → bindArgs fd ⟨us, []⟩ = pure (ps.zip us)) (hp : ps.length = 1)
    (h : S [x] M (fun d M' => ∃ b, d = .bl b ∧ P (.bl b) M') fun _ _ _ => False) : OpC Y (.type "bool") [x] M P :=
  ⟨_, cr_boolO hm F hg hr (fun s us _ hl => .of_eq (hb us (hl.trans hp.symm))), fun G H vs Q w r k => by
    obtain ⟨v, rfl, rx⟩ := iss_one r
    obtain ⟨a, dx, vs, rfl, hh, rf⟩ := hx.get w rx
    refine ⟨a, dx, vs, rfl, hh, G, M, [x], _, _, w, .cons rx .nil, h, fun v G' H' M' d t ri ⟨b, ed, q⟩ => ?_, fun C gs fs d G' H' M' M2 ee => ee.elim⟩
    subst ed
    cases ri
    exact ⟨b, rfl, k _ _ _ _ _ t (.bl _) q⟩⟩
end
/-! facts of classes, as the head asks them -/
def clsiB (K : PySem.W.Frag) (C : Addr) : Bool := decide (PySem.W.findIn K (.ref C) "__class__" = some (some (.builtin "object.__class__"))) && (decide (PySem.W.specialIn K (.builtin "object.__class__") "__get__" = some (some (.builtin "getset_descriptor.__get__"))) && (decide (PySem.W.takesIn K (.builtin "object.__class__") = some true) && (decide (PySem.W.mroIn K C (.type "object") = some true) && decide (PySem.W.kitOne K (.ref C) (.ref C) = some true))))
theorem clsiB_ok {K : PySem.W.Frag} {C : Addr} (h : clsiB K C = true) : Cls K C → ClsI K C ∧ PySem.W.kitOne K (.ref C) (.ref C) = some true := by
  obtain ⟨h1, h⟩ := Bool.and_eq_true_iff.mp h
  obtain ⟨h2, h⟩ := Bool.and_eq_true_iff.mp h
  obtain ⟨h3, h⟩ := Bool.and_eq_true_iff.mp h
  obtain ⟨h4, h5⟩ := Bool.and_eq_true_iff.mp h
  exact fun c => ⟨⟨c, of_decide_eq_true h1, of_decide_eq_true h2, of_decide_eq_true h3, of_decide_eq_true h4⟩, of_decide_eq_true h5⟩
def mroB (K : PySem.W.Frag) (C : Addr) : Bool := match PySem.W.clsIn K C with
  | some cd => match cd.mro with
    | x :: _ => decide (x = .ref C)
    | [] => false
  | none => false
theorem mroB_ok {K : PySem.W.Frag} {C : Addr} (h : mroB K C = true) : ∃ cd rest, PySem.W.clsIn K C = some cd ∧ cd.mro = .ref C :: rest := by
  unfold mroB at h
  split at h
  · rename_i cd e
    split at h
    · rename_i x r e2
      rw [of_decide_eq_true h] at e2
      exact ⟨cd, r, e, e2⟩
    · cases h
  · cases h
def mro2B (K : PySem.W.Frag) (C : Addr) : Bool := match PySem.W.clsIn K C with
  | some cd => decide (cd.mro = [.ref C, .type "object"])
  | none => false
theorem mro2B_ok {K : PySem.W.Frag} {C : Addr} (h : mro2B K C = true) : ∃ rd, PySem.W.clsIn K C = some rd ∧ rd.mro = [.ref C, .type "object"] := by
  unfold mro2B at h
  split at h
  · rename_i cd e
    exact ⟨cd, e, of_decide_eq_true h⟩
  · cases h
def andB (K : PySem.W.Frag) (C R : Addr) : Bool := decide (C ≠ R) && (mroB K C && (mro2B K R && (He.eqO (PySem.W.findIn K (.ref R) (dunder "and")) (some none) && (He.eqO (PySem.W.findIn K (.ref R) (dunderR "and")) (some none) && (He.eqO (PySem.W.findIn K (.type "object") (dunder "and")) (some none) && He.eqO (PySem.W.findIn K (.type "object") (dunderR "and")) (some none))))))
theorem andB_ok {K : PySem.W.Frag} {C R : Addr} (h : andB K C R = true) : AndC K C R := by
  obtain ⟨h1, h⟩ := Bool.and_eq_true_iff.mp h
  obtain ⟨h2, h⟩ := Bool.and_eq_true_iff.mp h
  obtain ⟨h3, h⟩ := Bool.and_eq_true_iff.mp h
  obtain ⟨h4, h⟩ := Bool.and_eq_true_iff.mp h
  obtain ⟨h5, h⟩ := Bool.and_eq_true_iff.mp h
  obtain ⟨h6, h7⟩ := Bool.and_eq_true_iff.mp h
  exact ⟨of_decide_eq_true h1, mroB_ok h2, mro2B_ok h3, He.eqO_ok h4, He.eqO_ok h5, He.eqO_ok h6, He.eqO_ok h7⟩
end JQ

set_option Elab.async false
set_option linter.all false
set_option maxRecDepth 100000
set_option maxHeartbeats 2000000
/-! enumerate of a tuple. -/
namespace JQ
open PySem PySem.Spec PyProof.Rows L2
open Evl (Ex ex_l ex_t)
theorem wpAny_appB {α : Type} {M : Model} {A : Around} {f : Bool → Sem α} {b : Bool} {Q : α → Shared → Prop} {E : Value → Shared → Prop} {s : Shared} (h : ∀ b, wpAny M A (f b) Q E s) : wpAny M A (f b) Q E s := h b
theorem wpAny_rec {n : String} {vs : List Value} {M : Model} {A : Around} {E : Value → Shared → Prop} {h : Heap} {g : Array GenState} {d : Drawn} {t : Nat} {os : OsState} {Q : Value → Shared → Prop} (q : Q (.ref h.objs.size) { heap := h.push { cls := .type n, data := .fields vs.toArray }, gens := g, drawn := d, toks := t, os := os }) (hd : sizeOk (Data.fields vs.toArray)) : wpAny M A (Builtin.SmallTypes.newRecord (.type n) vs) Q E { heap := h, gens := g, drawn := d, toks := t, os := os } := by
  show wpAny M A (newObj (.type n) (.fields vs.toArray)) Q E _
  exact wpAny_newObj_type q (hd := hd)
theorem meets_enumT (l : Addr) (items : Array Value) : Meets (Builtin.«enumerate.__new__» { pos := [.type "enumerate", .ref l] }) fun _ R s => s.heap.IsTuple l items ∧ R (.ok (.ret (.ref (s.heap.objs.size + 1)))) { s with heap := (s.heap.push { cls := .type "tuple_iterator", data := .fields #[.ref l, .int 0 0] }).push { cls := .type "enumerate", data := .fields #[.none, .bool false, .ref s.heap.objs.size, rawInt 0, .none, .none] } } :=
  Meets.of_wp fun prog w A R s h => by
    obtain ⟨hp, g, d, tk, os⟩ := s
    obtain ⟨hl, h⟩ := h
    have hsub := sub_enumerate
    unfold Builtin.«enumerate.__new__»
    refine wpAny_bind (wpAny_bind (wpAny_pure (wpAny_ite_false rfl (wpAny_bind (wpAny_of_eq hsub (wpAny_ite_false rfl (wpAny_pure (wpAny_ite_true rfl ?_))))))))
    refine wpAny_bind (wpAny_bind (wpAny_stack_any fun st => wpAny_pure ?_))
    split
    · rename_i c tail kw snd tail1 e
      generalize (c == Value.type "enumerate") = short
      cases short
      · refine wpAny_ite_false rfl (wpAny_bind (wpAny_pure ?_))
        exact wpAny_bind (wpAny_pyIter_tuple hl (wpAny_bind (wpAny_rec (wpAny_pure ⟨_, rfl, by rw [Heap.size_push]; exact h⟩) (by show (6 : Nat) ≤ sizeLine + 2; decide))))
      · refine wpAny_ite_true rfl (wpAny_bind (wpAny_pure ?_))
        exact wpAny_bind (wpAny_pyIter_tuple hl (wpAny_bind (wpAny_rec (wpAny_pure ⟨_, rfl, by rw [Heap.size_push]; exact h⟩) (by show (6 : Nat) ≤ sizeLine + 2; decide))))
    · refine wpAny_ite_false rfl (wpAny_bind (wpAny_pure ?_))
      exact wpAny_bind (wpAny_pyIter_tuple hl (wpAny_bind (wpAny_rec (wpAny_pure ⟨_, rfl, by rw [Heap.size_push]; exact h⟩) (by show (6 : Nat) ≤ sizeLine + 2; decide))))
theorem call_enumT {prog : Program} {w : World} {A : Around} {E : Value → Shared → Prop} {s : Shared} {l : Addr} {items : Array Value} {Q : Value → Shared → Prop} (hl : s.heap.IsTuple l items)
    (h : ∀ h' : Heap, IsEnum h' (s.heap.objs.size + 1) s.heap.objs.size 0 .none → h'.IsTupleIter s.heap.objs.size l 0 → h'.objs.size = s.heap.objs.size + 2 → (∀ b o, s.heap.get? b = some o → h'.get? b = some o) → Q (.ref (s.heap.objs.size + 1)) { s with heap := h' }) :
    wpAny (model prog w) A (call (.type "enumerate") [.ref l]) Q E s := by
  have e1 : ∀ o1 o2 : Obj, o2.isFreed = false → ((s.heap.push o1).push o2).get? (s.heap.objs.size + 1) = some o2 := fun o1 o2 hf => by
    have := Heap.get?_push_size (s.heap.push o1) (o := o2) hf
    rwa [Heap.size_push] at this
  refine callType_new F.called_enumerate (of_decide_eq_true rfl) (F.typeCall_enumerate_1 _) (F.newCall_enumerate_1 _) (fun obj => F.args_object_init_2 obj _) F.entry_enumerate_new (meets_enumT l items) ⟨hl, ?_⟩
  exact ⟨⟨_, e1 _ _ rfl, rfl⟩, h _ (e1 _ _ rfl) ⟨_, Heap.get?_push_of_some _ (Heap.get?_push_size _ rfl), rfl, rfl⟩ (by rw [Heap.size_push, Heap.size_push]) fun b o e => Heap.get?_push_of_some _ (Heap.get?_push_of_some _ e)⟩
/-- the walk of enumerate(t), t a tuple at a -/
def IteT (K : PySem.W.Frag) (a : Addr) : It where
  go := fun i H => ∃ xs x, SqT K H a xs ∧ xs[i]? = some x
  yld := fun i H v H' => ∃ T x, v = .ref T ∧ H T = none ∧ H' = upd H T (.tup [.int i, x]) ∧ ∀ xs, SqT K H a xs → xs[i]? = some x
  stop := fun i H => ∃ xs, SqT K H a xs ∧ xs.length = i
theorem draws_tup {prog : Program} {w : World} {A : Around} (hh : A.handled = none) (it l : Addr) (hne : l ≠ it) (items : Array Value) : Draws prog w A it [it, l] items.size (fun i v => items[i]? = some v) fun i h => h.IsTupleIter it l i ∧ h.IsTuple l items where
  live := fun i h st => ⟨_, st.1.choose_spec.1⟩
  frame := fun i h h' st k => by
    obtain ⟨⟨o, h1, h2⟩, ⟨p, h3, h4⟩⟩ := st
    exact ⟨⟨o, k it (by simp) o h1, h2⟩, ⟨p, k l (by simp) p h3, h4⟩⟩
  item := fun i s Q E hi st k => RZ.nextOf_tuple_item st.1 st.2 (x := items[i]) (by simp [hi]) fun h' h1 sb => k _ h' s.toks (by simp [hi]) ⟨h1, IsTup.extBut st.2 sb.extBut hne⟩ sb
  done := fun s Q E st k => RZ.nextOf_tuple_end hh st.1 st.2 (by simp) fun h' e eb hs => k h' e eb hs
theorem walks_enumT {prog : Program} {w : World} {A : Around} {e it a : Addr} {i : Nat} {h : Heap} {old : Value} {items : Array Value} (hh : A.handled = none) (he : IsEnum h e it i old) (hit : h.IsTupleIter it a i) (p : h.IsTuple a items) (hne : e ≠ it) :
    WalksT prog w A e (e :: [it, a]) [e, it] items.size (fun i vals => ∃ t x, items[i]? = some x ∧ vals = #[.int i t, x]) (fun i h => (∃ old, IsEnum h e it i old) ∧ h.IsTupleIter it a i ∧ h.IsTuple a items) (fun i T h => (∃ x, IsEnumOut h e it (i + 1) x T) ∧ (h.IsTupleIter it a (i + 1) ∧ h.IsTuple a items) ∧ T ≠ e ∧ T ≠ it) := by
  have h1 : a ≠ it := fun z => by
    subst z
    obtain ⟨o, e1, e2, _⟩ := hit
    obtain ⟨o', e3, e4, _⟩ := p
    cases e1.symm.trans e3
    rw [e2] at e4
    exact absurd (Value.type.inj e4) (by decide)
  have h2 : e ≠ a := fun z => by
    subst z
    obtain ⟨o', e3, e4, _⟩ := p
    cases he.symm.trans e3
    exact absurd (Value.type.inj e4) (by decide)
  exact WalksT.enumerateD (draws_tup (A := A.in1) hh it a h1 items) e hne (by simp [hne, h2]) (by simp)
theorem turn_enumT {P : Program} {w : World} {K : PySem.W.Frag} {elts : List Expr} {kk : Nat} {tpos : Pos} (a e it : Addr) : Turn P w K (.Tuple elts kk tpos) (IteT K a) [e, it] e fun i h => (∃ old, IsEnum h e it i old) ∧ h.IsTupleIter it a i ∧ e ≠ it where
  mem := by simp
  obj := fun i h st b hb => by
    obtain ⟨⟨old, he⟩, ⟨o, ho, hc, hd⟩, hne⟩ := st
    rcases List.mem_cons.mp hb with rfl | hb
    · exact ⟨_, he, fun v q => nomatch q⟩
    · obtain rfl : b = it := by simpa using hb
      exact ⟨o, ho, fun v q => by rw [hd] at q; cases q⟩
  keep := fun i h h' st k => by
    obtain ⟨⟨old, he⟩, ⟨o, ho, hc⟩, hne⟩ := st
    exact ⟨⟨old, k e (by simp) _ he⟩, ⟨o, k it (by simp) _ ho, hc⟩, hne⟩
  item := fun X hP hw hK hc i pins s σ H E I hf st hg => by
    subst hP hw hK
    obtain ⟨⟨old, he⟩, hit, hne⟩ := st
    obtain ⟨xs, x, hq, hx⟩ := hg
    obtain ⟨its, rv, p, hz⟩ := I.tuple hq
    have W := walks_enumT (prog := X.prog) (w := X.w) (I.ok.hd hc) he hit p hne
    obtain ⟨u, hu, ru⟩ := Vals.get rv hx
    have hlt : i < its.toArray.size := by
      have := (List.getElem?_eq_some_iff.mp hu).1
      simpa using this
    refine W.item i s _ E hlt ⟨⟨old, he⟩, hit, p⟩ fun T vals h' tk pt hT hTup mid fr => ?_
    refine ⟨_, rfl, W.go elts kk tpos i T _ _ _ mid fun h'' st'' fr2 => ?_⟩
    obtain ⟨t, x', hx', rfl⟩ := pt
    have ex : x' = u := by
      have : its[i]? = some x' := by simpa using hx'
      exact Option.some.inj (this.symm.trans hu)
    subst ex
    have ap := W.apart i T h' mid
    have hfr : H T = none := HOk.fresh I.hok hT
    obtain ⟨ot, ht1, ht2⟩ := hTup
    refine ⟨.ref T, upd H T (.tup [.int i, x]), Inv.turnedNew (s := s) (ch := [e, it]) I (fun b o hb q => fr2 b o hb (fr b o hb q)) hf hT ⟨(by decide : 2 ≤ sizeLine), [.int i t, x'], .cons ⟨t, rfl⟩ (.cons ru .nil), ot, fr2 T ot ap ht1, ht2⟩, rfl, ⟨T, x, rfl, hfr, rfl, fun ys hy => by rw [I.tuple_inj hy hq]; exact hx⟩, ⟨st''.1, st''.2.1, hne⟩, fun b hb => ?_⟩
    rw [upd_ne (fun z => ap (by rw [← z]; exact hb))]
    exact (hf b hb).1
  done := fun X hP hw hK hc i pins s σ H E I hf st hg => by
    subst hP hw hK
    obtain ⟨⟨old, he⟩, hit, hne⟩ := st
    obtain ⟨xs, hq, hx⟩ := hg
    obtain ⟨its, rv, p, hz⟩ := I.tuple hq
    have W := walks_enumT (prog := X.prog) (w := X.w) (I.ok.hd hc) he hit p hne
    have hn : its.toArray.size = i := by
      have := rv.length
      simp
      omega
    refine W.done s _ E (by rw [hn]; exact ⟨⟨old, he⟩, hit, p⟩) fun h' tk fr => ⟨rfl, ?_⟩
    exact Inv.turnedL I (fun b o hb q => fr b o hb q) hf
  self := fun A i s Q E st h => by
    obtain ⟨⟨old, he⟩, _⟩ := st
    exact wpAny_pyIter_enum he h
theorem pi_enumT {X : Cx} {e : Expr} {ta : TA} {p pos tpos : Pos} {elts : List Expr} {kk : Nat} (hg : Gl X "enumerate") (hm : X.mg "enumerate" = none) (ha : PA X [e] ta) (hs : starEach [e] X.env = [(false, eval e X.env)] := by rfl) : PI X (.Tuple elts kk tpos) (.Call (.Name "enumerate" p) [e] [] pos) (fun σ H R => ta σ H fun vs H1 => ∃ a xs, vs = [V.ref a] ∧ SqT X.K H1 a xs ∧ R (IteT X.K a) H1) where
  run := fun pins s σ H R I h => by
    refine Call_ (ld_blt I hg hm boot_enumerate (callWith_type1 (thn (ha.run pos pins s σ H _ I h) fun us s1 z => ?_) hs rfl) (by decide) (by decide)) rfl
    obtain ⟨vs, H1, I1, r1, a, xs, rfl, hq, q⟩ := z
    cases r1 with
    | @cons _ b _ l₂ r rr =>
      cases rr
      obtain rfl : b = Value.ref a := r
      obtain ⟨its, rv, p', hz⟩ := I1.tuple hq
      refine call_enumT p' fun h' he hit hsz hk => wpAny_pyIter_enum he ?_
      have I2 := Inv.kept (t' := s1.toks) I1 hk
      refine ⟨s1.heap.objs.size + 1, [s1.heap.objs.size + 1, s1.heap.objs.size], _, IteT X.K a, H1, rfl, I2, turn_enumT a (s1.heap.objs.size + 1) s1.heap.objs.size, ⟨⟨.none, he⟩, hit, Nat.succ_ne_self _⟩, fun b hb => ?_, q⟩
      have hle : s1.heap.objs.size ≤ b := by
        rcases List.mem_cons.mp hb with rfl | hb
        · exact Nat.le_add_right _ 1
        · obtain rfl : b = s1.heap.objs.size := by simpa using hb
          exact Nat.le_refl _
      exact Inv.fpOk I1 hle (HOk.fresh I1.hok hle)
section
variable {Y : Bd} {ss : List S} {M : Mm} {tg e : Expr} {pos : Pos} {R : List D → (Mm → Prop) → Mm → Prop}
theorem seq_enumT {G1 : Hp} {l : Addr} {vs : List V} {ds : List D} (h : SqT Y.X.K G1 l vs) (r : Iss Y.X.K G1 vs ds) : Seq Y (IteT Y.X.K l) G1 (enumD ds) L0 := by
  have hl : (enumD ds).length = vs.length := by simp [enumD, r.length]
  have hq : ∀ {G H : Hp} {M : Mm}, Ex G1 G → Wd Y.X.K G H M → SqT Y.X.K H l vs := fun e1 w' => ex_t w'.gh (ex_t e1 h)
  refine ⟨fun i G H M e1 w' _ hi => ?_, fun G H M e1 w' _ => ⟨vs, hq e1 w', by rw [hl]⟩, fun i G H M x H' d e1 hs _ hd y => ?_⟩
  · have hi : i < vs.length := by omega
    exact ⟨vs, vs[i], hq e1 w', by simp [hi]⟩
  · obtain ⟨T, z2, ev, hT, eH, e4⟩ := y
    subst ev eH
    obtain ⟨d2, hd2, r2⟩ := r.get (e4 vs (hq e1 hs))
    obtain ⟨d3, hd3, rfl⟩ := enumD_get hd
    rw [hd2] at hd3
    cases hd3
    have g := hs.new (o := .tup [.int (i : Int), z2]) hT
    exact ⟨_, g, .tup (SqT.of upd_same) (.cons (.int _) (.cons (r2.mono (e1.trans g.gg)) .nil))⟩
theorem wi_enumT {p tpos : Pos} {elts : List Expr} {kk : Nat} (hm : Y.X.mg "enumerate" = none) (h : WE Y e ss M fun x M => ∃ ds, x = .tup ds ∧ R (enumD ds) L0 M) (hg : Gl Y.X "enumerate" := by rfl) (hs : starEach [e] Y.X.env = [(false, eval e Y.X.env)] := by rfl) (h1 : starEach (e :: []) Y.X.env = (false, eval e Y.X.env) :: starEach [] Y.X.env := by rfl) :
    WI Y (.Tuple elts kk tpos) (.Call (.Name "enumerate" p) [e] [] pos) ss M R := wi_pi (pi_enumT hg hm (pa_cons pe_w pa_nil h1) hs) fun B σ G H RR so k => by
  refine h _ _ _ _ _ so fun v G1 H1 M1 d g r ⟨ds, ed, q⟩ => ?_
  subst ed
  cases r with
  | tup hx r => exact ⟨_, _, rfl, ex_t g.gh hx, k _ _ _ _ _ _ g (seq_enumT hx r) q⟩
end
end JQ

set_option Elab.async false
set_option linter.all false
set_option maxRecDepth 100000
set_option maxHeartbeats 2000000
/-! More rules: a list times a number, [::-1], ways that meet, room. -/
namespace JQ
open PySem PySem.Spec PyProof.Rows L2
open Evl (Ex ex_l ex_t)
section
variable {Y : Bd} {ss : List S} {M M' : Mm} {P : D → Mm → Prop} {PB : Bool → Mm → Prop} {e a b o : Expr} {es : List Expr} {pos : Pos} {x y : D} {N : DE}
theorem wss_via {st : Stmt} {rest : List Stmt} (J : List S → Mm → Prop) (h : WS Y st ss M { N with nx := J }) (h2 : ∀ ss' M', J ss' M' → WSs Y rest ss' M' N) : WSs Y (st :: rest) ss M N :=
  wss_cons (h.mono (fun s m j => h2 s m j) (fun _ _ z => z) (fun _ _ z => z) (fun _ _ z => z))
theorem room64 {k : Nat} {A : Around} (hr : Room k A) : A.units + 64 < cLine := by
  have h := hr.un
  omega
theorem room65 {k : Nat} {A : Around} (hr : Room (k + 1) A) : A.units + 65 < cLine := by
  have h := hr.un
  omega
theorem room1 {k : Nat} {A : Around} (hr : Room k A) : A.units + 1 < cLine := by
  have h := hr.un
  omega
theorem o_rep {xs : List D} {k : Int} (hx : LAt M x xs) (h0 : -(2 ^ 63) ≤ k) (h1 : k < 2 ^ 63) (hz : xs.length * k.toNat ≤ sizeLine) (q : NewL P M (List.replicate k.toNat xs).flatten) : Op2 Y (binaryOp .Mult) x (.int k) M P :=
  ⟨_, op_rep, fun G H u v Q w r1 r2 kk => by
    obtain ⟨a, vs, rfl, hl, r⟩ := hx.get w r1
    cases r2
    refine ⟨a, k, vs, rfl, rfl, hl, h0, h1, by rw [r.length]; exact hz, fun p hp => ?_⟩
    have rr : ∀ n, Iss Y.X.K G (List.replicate n vs).flatten (List.replicate n xs).flatten := fun n => by
      induction n with
      | zero => exact .nil
      | succ n ih =>
        rw [List.replicate_succ, List.replicate_succ, List.flatten_cons, List.flatten_cons]
        exact r.append ih
    exact q.k w.refl hp (rr _) kk⟩
theorem we_revL {k : Nat} {p1 p2 p3 : Pos} (h : WE Y e ss M fun x M => ∃ xs, LAt M x xs ∧ NewL P M xs.reverse) : WE Y (.Subscript e (.Slice none none (some (.UnaryOp .USub (.Constant (.int 1) k p1) p2)) p3) pos) ss M P :=
  we_pe (pe_revL pe_w) fun B σ G H Q st kk => h _ _ _ _ _ st fun v G1 H1 M1 x g r ⟨xs, hx, q⟩ => by
    obtain ⟨a, vs, rfl, hl, rr⟩ := hx.get g.wd r
    exact ⟨a, vs, rfl, SqL.of hl, fun p hp => q.k g hp rr.rev kk⟩
theorem msub_put {p : Addr} {u : MO} (s : Msub M M') (h : M p = none) : Msub M (mup M' p u) := fun b w e => by
  have ne : b ≠ p := fun z => by rw [z, h] at e; cases e
  rw [mup_ne ne]
  exact s b w e
theorem msub_new {p : Addr} {u : MO} (s : Msub M M') (h : M' p = none) : Msub M (mup M' p u) := fun b w e => by
  have ne : b ≠ p := fun z => by rw [z] at e; rw [s _ _ e] at h; cases h
  rw [mup_ne ne]
  exact s b w e
theorem msub_trans {M2 : Mm} (s : Msub M M') (t : Msub M' M2) : Msub M M2 := fun b w e => t b w (s b w e)
theorem msub_none {p : Addr} (s : Msub M M') (h : M' p = none) : M p = none := by
  cases c : M p with
  | none => rfl
  | some w => rw [s _ _ c] at h; cases h
theorem msub_del2 {p : Addr} (s : Msub M M') (h : M p = none) : Msub M (mdel M' p) := fun b w e => by
  have ne : b ≠ p := fun z => by rw [z, h] at e; cases e
  rw [mdel_ne ne]
  exact s b w e
end
/-! isinstance of several built-in classes, of own ones -/
theorem kit_lt {K : PySem.W.Frag} {d : D} (h : isLst d = true ∨ isTup d = true) (hk : known d = true) : PySem.W.kitAny K (.type (tyN d)) [.type "list", .type "tuple"] = some true := by
  have e1 := kit_list (K := K) hk
  have e2 := kit_tuple (K := K) hk
  show (match PySem.W.kitOne K (.type (tyN d)) (.type "list") with
    | some true => some true
    | some false => _
    | none => none) = some true
  rw [e1]
  cases hl : isLst d with
  | true => rfl
  | false =>
    rw [hl] at h
    have ht : isTup d = true := h.resolve_left (by decide)
    show (match PySem.W.kitOne K (.type (tyN d)) (.type "tuple") with
      | some true => some true
      | some false => _
      | none => none) = some true
    rw [e2, ht]
section
variable {Y : Bd} {ss : List S} {M : Mm} {P : D → Mm → Prop} {tg elt c : Expr} {scope : Scope} {vs : List Nat} {L : Mm → Prop} {α : Type}
/-- a map over items told by f0; what it makes anew besides is forgotten -/
theorem WLc.mapL (rs : List α) (f0 g : α → D) (hL : ∀ M', Msub M M' → L M') (hz : rs.length ≤ 100000) (T : List Nat) (hT : ∀ j ∈ T, j ∈ vs)
    (h : ∀ (i : Nat) (r : α) (M' : Mm), rs[i]? = some r → Msub M M' → ∀ s H C cl fp, WG (Y.blk s H scope C cl fp) tg T (f0 r) (wipeS ss vs) M' fun ss2 M2 => ∀ s H C cl fp, WE (Y.blk s H scope C cl fp) elt ss2 M2 fun y M3 => y = g r ∧ Msub M M3) (q : ∀ M', Msub M M' → NewL P M' (rs.map g)) : WLc Y elt tg [] scope vs ss M (rs.map f0) L P := by
  refine ⟨by rw [List.length_map]; exact hz, fun i acc M' => acc = (rs.take i).map g ∧ Msub M M', ⟨rfl, Msub.refl⟩, fun i a M' ac => hL M' ac.2, fun i d acc M' hd ⟨ea, em⟩ s H C cl fp => ⟨T, hT, ?_⟩, fun acc M' ⟨ea, em⟩ => by rw [ea, List.length_map, List.take_length]; exact q M' em⟩
  rw [List.getElem?_map] at hd
  obtain ⟨r, hr, rfl⟩ : ∃ r, rs[i]? = some r ∧ d = f0 r := by
    match e : rs[i]?, hd with
    | some r, hd => exact ⟨r, rfl, (Option.some.inj hd).symm⟩
  refine .mk ?_
  intro B σ G Hh v Q so rr k
  refine h i r M' hr em s H C cl fp _ _ _ _ _ _ so rr fun σ' G' H' M2 ss' so' g' b' q' => k _ _ _ _ _ so' g' b' ?_
  intro s H C cl fp
  refine wts_nil ?_
  show ∀ s H C cl fp, WE _ elt ss' _ _
  intro s H C cl fp
  refine (q' s H C cl fp).mono fun y M3 ⟨ey, em3⟩ => ?_
  subst ey
  refine ⟨?_, em3⟩
  rw [ea, List.take_add_one, hr, List.map_append]
  rfl
/-- a filter and a map -/
theorem WLc.filterL (rs : List α) (f0 g : α → D) (p : α → Bool) (hL : ∀ M', Msub M M' → L M') (hz : rs.length ≤ 100000) (T : List Nat) (hT : ∀ j ∈ T, j ∈ vs)
    (h : ∀ (i : Nat) (r : α) (M' : Mm), rs[i]? = some r → Msub M M' → ∀ s H C cl fp, WG (Y.blk s H scope C cl fp) tg T (f0 r) (wipeS ss vs) M' fun ss2 M2 => ∀ s H C cl fp, WT (Y.blk s H scope C cl fp) c ss2 M2 fun k M3 => k = p r ∧ Msub M M3 ∧ (k = true → ∀ s H C cl fp, WE (Y.blk s H scope C cl fp) elt ss2 M3 fun y M4 => y = g r ∧ Msub M M4)) (q : ∀ M', Msub M M' → NewL P M' ((rs.filter p).map g)) : WLc Y elt tg [c] scope vs ss M (rs.map f0) L P := by
  refine ⟨by rw [List.length_map]; exact hz, fun i acc M' => acc = ((rs.take i).filter p).map g ∧ Msub M M', ⟨rfl, Msub.refl⟩, fun i a M' ac => hL M' ac.2, fun i d acc M' hd ⟨ea, em⟩ s H C cl fp => ⟨T, hT, ?_⟩, fun acc M' ⟨ea, em⟩ => by rw [ea, List.length_map, List.take_length]; exact q M' em⟩
  rw [List.getElem?_map] at hd
  obtain ⟨r, hr, rfl⟩ : ∃ r, rs[i]? = some r ∧ d = f0 r := by
    match e : rs[i]?, hd with
    | some r, hd => exact ⟨r, rfl, (Option.some.inj hd).symm⟩
  refine .mk ?_
  intro B σ G Hh v Q so rr k
  refine h i r M' hr em s H C cl fp _ _ _ _ _ _ so rr fun σ' G' H' M2 ss' so' g' b' q' => k _ _ _ _ _ so' g' b' ?_
  intro s H C cl fp
  refine wts_one ((q' s H C cl fp).mono fun kk M3 ⟨ek, em3, hk⟩ => ?_)
  cases kk with
  | true =>
    show ∀ s H C cl fp, WE _ elt ss' _ _
    intro s H C cl fp
    refine (hk rfl s H C cl fp).mono fun y M4 ⟨ey, em4⟩ => ?_
    subst ey
    refine ⟨?_, em4⟩
    rw [ea, List.take_add_one, hr, List.filter_append, List.map_append]
    show _ = _ ++ List.map g (List.filter p [r])
    rw [List.filter_cons, if_pos ek.symm]
    rfl
  | false =>
    show acc = _ ∧ _
    refine ⟨?_, em3⟩
    rw [ea, List.take_add_one, hr, List.filter_append, List.map_append]
    show _ = _ ++ List.map g (List.filter p [r])
    rw [List.filter_cons, if_neg (by rw [← ek]; exact Bool.false_ne_true)]
    simp
theorem cut_tail {β : Type} {x : β} {xs : List β} : cutL (x :: xs) (some 1) none = xs := by
  simp [cutL, HT.sIx]
theorem zip_rng {xs ys : List D} : zipD xs ys = (List.range (min xs.length ys.length)).map fun i => D.tup [xs.getD i .non, ys.getD i .non] := rfl
theorem enum_rng {ds : List D} : enumD ds = (List.range ds.length).map fun (i : Nat) => D.tup [.int (i : Int), ds.getD i .non] := rfl
theorem rng_rng {lo : Int} {n : Nat} : rngD lo n = (List.range n).map fun (i : Nat) => D.int (lo + (i : Int)) := rfl
theorem msub_both {M M' : Mm} {p : Addr} {u : MO} (s : Msub M M') : Msub (mup M p u) (mup M' p u) := fun b w e => by
  by_cases c : b = p
  · rw [c, mup_same] at e
    rw [c, mup_same]
    exact e
  · rw [mup_ne c] at e
    rw [mup_ne c]
    exact s b w e
end
/-! a tuple beside the empty one -/
theorem op_eqT0 {X : Cx} (hu : X.A.units < cLine) : OpR X (compareOp .Eq) fun x y H Q => ∃ a b xs, x = V.ref a ∧ y = V.ref b ∧ SqT X.K H a xs ∧ SqT X.K H b [] ∧ Q (.bl xs.isEmpty) H := by
  intro pins s σ H x y v u Q I rx ry h
  obtain ⟨a, b, xs, rfl, rfl, ha, hb, q⟩ := h
  obtain rfl : v = Value.ref a := rx
  obtain rfl : u = Value.ref b := ry
  obtain ⟨its, rv, p, _⟩ := I.tuple ha
  obtain ⟨its2, rv2, p2, _⟩ := I.tuple hb
  cases rv2
  refine SeqAt.eq_tupleAt (e := fun _ => true) p p2 hu (fun j h1 h2 => absurd h2 (by simp)) ⟨.bl xs.isEmpty, H, I, ?_, q⟩
  have hl := rv.length
  show Value.bool _ = Value.bool _
  congr 1
  cases xs <;> cases its <;> simp at hl ⊢
theorem o_eqT0 {Y : Bd} {M : Mm} {P : D → Mm → Prop} {ds : List D} (hu : Y.X.A.units < cLine) (hne : ds ≠ []) (q : P (.bl false) M) : Op2 Y (compareOp .Eq) (.tup ds) (.tup []) M P :=
  ⟨_, op_eqT0 hu, fun G H vx vy Q st rx ry k => by
    cases rx with
    | tup hx r =>
      cases ry with
      | tup hy r2 =>
        cases r2
        refine ⟨_, _, _, rfl, rfl, ex_t st.gh hx, ex_t st.gh hy, ?_⟩
        have e : ∀ {xs : List V}, Iss Y.X.K G xs ds → xs.isEmpty = false := fun {xs} r => by
          cases r with
          | nil => exact absurd rfl hne
          | cons _ _ => rfl
        rw [e r]
        exact k _ _ _ _ _ st.refl (.bl _) q⟩
theorem cut_upto {β : Type} {xs : List β} {i : Nat} : cutL xs none (some (i : Int)) = xs.take i := by
  have h : ¬ ((i : Int) < 0) := by omega
  simp only [cutL, HT.sIx, h, if_false, List.drop_zero, Nat.sub_zero]
  have e : ((i : Int)).toNat = i := by omega
  rw [e]
  rcases Nat.le_total i xs.length with c | c
  · rw [Nat.min_eq_left c]
  · rw [Nat.min_eq_right c, List.take_of_length_le (Nat.le_refl _), List.take_of_length_le c]
end JQ

set_option Elab.async false
set_option linter.all false
set_option maxRecDepth 100000
set_option maxHeartbeats 1000000
/-! # steps taken by the look of the goal -/
namespace JQ
open PySem PySem.Spec PyProof.Rows L2
theorem iteT {b : Bool} {A B : Prop} (hb : b = true) (h : A) : if b = true then A else B := by
  rw [if_pos hb]
  exact h
theorem iteF {b : Bool} {A B : Prop} (hb : b = false) (h : B) : if b = true then A else B := by
  rw [if_neg (by rw [hb]; exact Bool.false_ne_true)]
  exact h
theorem notT {b : Bool} (h : b = false) : (!b) = true := by rw [h]; rfl
theorem notF {b : Bool} (h : b = true) : (!b) = false := by rw [h]; rfl
theorem ix_rng {n i : Nat} {f : Nat → D} (h : i < n) : ((List.range n).map f)[i]? = some (f i) := by
  rw [List.getElem?_map, List.getElem?_range h]
  rfl
theorem mup_at {M : Mm} {a b : Addr} {o : MO} {u : Option MO} (h : b ≠ a) (e : M b = u) : mup M a o b = u := (mup_ne h).trans e
theorem mdel_at {M : Mm} {a b : Addr} {u : Option MO} (h : b ≠ a) (e : M b = u) : mdel M a b = u := (mdel_ne h).trans e
/-- no data of a built-in kind is of an own class -/
def kitBB (K : PySem.W.Frag) (C : Addr) : Bool := ["NoneType", "bool", "int", "str", "tuple", "list"].all fun t => decide (PySem.W.kitOne K (.type t) (.ref C) = some false)
theorem kitBB_ok {K : PySem.W.Frag} {C : Addr} (h : kitBB K C = true) {d : D} (hk : known d = true) : PySem.W.kitOne K (.type (tyN d)) (.ref C) = some false := by
  have h := List.all_eq_true.mp h
  cases d with
  | non => exact of_decide_eq_true (h "NoneType" (by decide))
  | bl b => exact of_decide_eq_true (h "bool" (by decide))
  | int i => exact of_decide_eq_true (h "int" (by decide))
  | str x => exact of_decide_eq_true (h "str" (by decide))
  | tup ds => exact of_decide_eq_true (h "tuple" (by decide))
  | lst ds => exact of_decide_eq_true (h "list" (by decide))
  | _ => cases hk
theorem o_powE {Y : Bd} {M : Mm} {P : D → Mm → Prop} {i j : Int} (r : Int) (e : i ^ j.toNat = r) (h : CPow i j) (q : P (.int r) M) : Op2 Y (binaryOp .Pow) (.int i) (.int j) M P := o_pow h (by rw [e]; exact q)
theorem o_isB {Y : Bd} {M : Mm} {P : D → Mm → Prop} {a b : Bool} (q : P (.bl (decide (a = b))) M) : Op2 Y (compareOp .Is) (.bl a) (.bl b) M P :=
  ⟨_, op_isBl, fun G H vx vy Q st rx ry k => by
    cases rx
    cases ry
    exact ⟨a, b, rfl, rfl, k _ _ _ _ _ st.refl (.bl _) q⟩⟩
/-- a call of an own class whose instance is data at once -/
def KN (P : Program) (w : World) (K : PySem.W.Frag) (mg : Str → Option Value) (base : Heap) (k : Nat) (x : Str) (C : Addr) (n : Nat) (S' : Sd) : Prop := ∃ S, KC P w K mg base k x C n [] S ∧ ∀ a ds M P' EE, M a = none → S' ds M P' EE →
  S (.rf a :: ds) (mup M a (.ins C [])) (fun v M' => v = .non ∧ ∃ a', D.rf a = .rf a' ∧ ∃ C' fs, M' a' = some (.ins C' fs) ∧ P' (.obj C' fs) (mdel M' a')) EE
section
variable {Y : Bd} {M : Mm} {P : D → Mm → Prop} {ss : List S} {e : Expr} {es : List Expr} {pos p : Pos} {k n : Nat} {x : Str} {C : Addr} {S' : Sd}
theorem we_new (F : KN Y.X.prog Y.X.w Y.X.K Y.X.mg Y.X.base k x C n S') (hg : Y.X.A.guards = some []) (hr : Room (k + 1) Y.X.A) (h : WA Y (e :: es) ss M fun ds M => ds.length = n ∧ S' ds M P fun C gs M' => Y.EE C gs M' ss)
    (gl : Gl Y.X x := by rfl) (hdb : (x == ("__debug__" : Str)) = false := by decide) (he : starEach (e :: es) Y.X.env = (false, eval e Y.X.env) :: starEach es Y.X.env := by rfl) (hpl : (backTo pos (starEach es Y.X.env)).any (·.1) = false := by rfl) : WE Y (.Call (.Name x p) (e :: es) [] pos) ss M P := by
  obtain ⟨S, F, hS⟩ := F
  refine we_frzO (we_mk F hg hr ?_ gl hdb he hpl)
  exact .mk fun B σ G0 H Q so kq => h B σ G0 H Q so fun vs G' H' M' ds t r ⟨hl, q⟩ => kq vs G' H' M' ds t r ⟨hl, fun a ha => hS a ds M' P _ ha q⟩
end
end JQ

set_option Elab.async false
set_option linter.all false
set_option maxRecDepth 100000
set_option maxHeartbeats 1000000
/-! # == of data whose shape is written out, or of lists of one kind -/
namespace JQ
open PySem PySem.Spec PyProof.Rows L2
theorem o_eqC {Y : Bd} {M : Mm} {P : D → Mm → Prop} {x y : D} (b : Bool) (hu : Y.X.A.units + 64 < cLine) (hx : plainD x = true) (hy : plainD y = true) (sx : SeqAt.shaped (pyD x) = true) (sy : SeqAt.shaped (pyD y) = true) (e : PyData.eqv (pyD x) (pyD y) = b) (q : P (.bl b) M) : Op2 Y (compareOp .Eq) x y M P :=
  o_eqD hu (PlAt.self hx) (PlAt.self hy) sx sy (by rw [e]; exact q)
theorem o_neC {Y : Bd} {M : Mm} {P : D → Mm → Prop} {x y : D} (b : Bool) (hu : Y.X.A.units + 64 < cLine) (hx : plainD x = true) (hy : plainD y = true) (sx : SeqAt.shaped (pyD x) = true) (sy : SeqAt.shaped (pyD y) = true) (e : PyData.eqv (pyD x) (pyD y) = b) (q : P (.bl (!b)) M) : Op2 Y (compareOp .NotEq) x y M P :=
  o_neD hu (PlAt.self hx) (PlAt.self hy) sx sy (by rw [e]; exact q)
theorem eqv_ints : ∀ ns ms : List Int, PyData.eqvAll (pyDs (ns.map D.int)) (pyDs (ms.map D.int)) = decide (ns = ms)
  | [], [] => by simp [pyDs, PyData.eqvAll]
  | [], m :: ms => by simp [pyDs, PyData.eqvAll]
  | n :: ns, [] => by simp [pyDs, PyData.eqvAll]
  | n :: ns, m :: ms => by
    have ih := eqv_ints ns ms
    simp only [List.map_cons, pyDs, pyD, PyData.eqvAll, ih]
    simp [PyData.eqv]
    by_cases h : n = m <;> by_cases h2 : ns = ms <;> simp [h, h2]
theorem eqv_bools : ∀ ns ms : List Bool, PyData.eqvAll (pyDs (ns.map D.bl)) (pyDs (ms.map D.bl)) = decide (ns = ms)
  | [], [] => by simp [pyDs, PyData.eqvAll]
  | [], m :: ms => by simp [pyDs, PyData.eqvAll]
  | n :: ns, [] => by simp [pyDs, PyData.eqvAll]
  | n :: ns, m :: ms => by
    have ih := eqv_bools ns ms
    simp only [List.map_cons, pyDs, pyD, PyData.eqvAll, ih]
    simp [PyData.eqv]
    by_cases h : n = m <;> by_cases h2 : ns = ms <;> simp [h, h2]
theorem shaped_bools (ns : List Bool) : SeqAt.shaped (pyD (.lst (ns.map D.bl))) = true := by
  have c : ∀ ns : List Bool, PyData.canLayAll0 (pyDs (ns.map D.bl)) = true := fun ns => by
    induction ns with
    | nil => simp [pyDs, PyData.canLayAll0]
    | cons n ns ih => simpa [pyDs, pyD, PyData.canLayAll0, PyData.canLay0] using ih
  have d : ∀ ns : List Bool, PyData.depthAll (pyDs (ns.map D.bl)) = 0 := fun ns => by
    induction ns with
    | nil => simp [pyDs, PyData.depthAll]
    | cons n ns ih => simp [pyDs, pyD, PyData.depthAll, PyData.depth, ih]
  unfold SeqAt.shaped
  rw [Bool.and_eq_true]
  refine ⟨?_, ?_⟩
  · simp only [pyD, PyData.canLay0]
    exact c ns
  · simp only [pyD, PyData.depth, d]
    decide
theorem plain_bools : ∀ ns : List Bool, plainDs (ns.map D.bl) = true
  | [] => rfl
  | n :: ns => by rw [List.map_cons]; exact plain_bools ns
section
variable {Y : Bd} {M : Mm} {P : D → Mm → Prop}
theorem o_eqIL {ns ms : List Int} (hu : Y.X.A.units + 64 < cLine) (q : P (.bl (decide (ns = ms))) M) : Op2 Y (compareOp .Eq) (.lst (ns.map D.int)) (.lst (ms.map D.int)) M P :=
  o_eqC _ hu (plain_ints ns) (plain_ints ms) (shaped_ints ns) (shaped_ints ms) (by simp only [pyD, PyData.eqv]; exact eqv_ints ns ms) q
theorem o_neIL {ns ms : List Int} (hu : Y.X.A.units + 64 < cLine) (q : P (.bl (!decide (ns = ms))) M) : Op2 Y (compareOp .NotEq) (.lst (ns.map D.int)) (.lst (ms.map D.int)) M P :=
  o_neC _ hu (plain_ints ns) (plain_ints ms) (shaped_ints ns) (shaped_ints ms) (by simp only [pyD, PyData.eqv]; exact eqv_ints ns ms) q
theorem o_eqIT {ns ms : List Int} (hu : Y.X.A.units + 64 < cLine) (q : P (.bl (decide (ns = ms))) M) : Op2 Y (compareOp .Eq) (.tup (ns.map D.int)) (.tup (ms.map D.int)) M P :=
  o_eqC _ hu (plain_ints ns) (plain_ints ms) (shapedT_ints ns) (shapedT_ints ms) (by simp only [pyD, PyData.eqv]; exact eqv_ints ns ms) q
theorem o_neIT {ns ms : List Int} (hu : Y.X.A.units + 64 < cLine) (q : P (.bl (!decide (ns = ms))) M) : Op2 Y (compareOp .NotEq) (.tup (ns.map D.int)) (.tup (ms.map D.int)) M P :=
  o_neC _ hu (plain_ints ns) (plain_ints ms) (shapedT_ints ns) (shapedT_ints ms) (by simp only [pyD, PyData.eqv]; exact eqv_ints ns ms) q
theorem o_eqBL {ns ms : List Bool} (hu : Y.X.A.units + 64 < cLine) (q : P (.bl (decide (ns = ms))) M) : Op2 Y (compareOp .Eq) (.lst (ns.map D.bl)) (.lst (ms.map D.bl)) M P :=
  o_eqC _ hu (plain_bools ns) (plain_bools ms) (shaped_bools ns) (shaped_bools ms) (by simp only [pyD, PyData.eqv]; exact eqv_bools ns ms) q
end
end JQ

set_option Elab.async false
set_option linter.all false
set_option maxRecDepth 100000
set_option maxHeartbeats 1000000
/-! # methods that operators call: bool(x), v in x, x & y, len(x) -/
namespace JQ
open PySem PySem.Spec PyProof.Rows L2
def KO (P : Program) (w : World) (K : PySem.W.Frag) (mg : Str → Option Value) (base : Heap) (k : Nat) (C : Addr) (m : Str) (n : Nat) (S : Sd) : Prop := ∃ f fd ps, FnG P w K mg base k f fd ps (spD K S) ∧ (∀ (s : Shared) us, us.length = n → BindsTo s fd ⟨us, []⟩ (ps.zip us)) ∧ Cls K C ∧ Meth K C m f
section
variable {P : Program} {w : World} {K : PySem.W.Frag} {mg : Str → Option Value} {base : Heap} {k n : Nat} {C : Addr} {m : Str} {S : Sd}
theorem KO.km (h : KO P w K mg base k C m (n + 1) S) : KM P w K mg base k C m n [] S := by
  obtain ⟨f, fd, ps, F, b, c, mt⟩ := h
  refine ⟨f, fd, ps, F, ⟨fun us ws => us ++ ws, fun vs ys => vs ++ ys, fun s us ws _ h1 h2 => ?_, fun _ _ _ _ r1 r2 => r1.append r2, fun _ _ _ _ _ r1 r2 => r1.append r2⟩, c, mt⟩
  cases ws with
  | nil =>
    have e : us ++ [] = us := List.append_nil us
    show BindsTo s fd ⟨us, []⟩ (ps.zip (us ++ []))
    rw [e]
    exact b s us h1
  | cons _ _ => cases h2
end
section
variable {Y : Bd} {M : Mm} {P : D → Mm → Prop} {x y : D} {k : Nat} {C R : Addr} {fs gs : List (Str × D)} {S : Sd}
theorem c_boolK (F : KO Y.X.prog Y.X.w Y.X.K Y.X.mg Y.X.base k C "__bool__" 1 S) (hg : Y.X.A.guards = some []) (hr : Room (k + 2) Y.X.A) (hx : OAt M x C fs) (h : S [x] M (fun d M' => ∃ b, d = .bl b ∧ P (.bl b) M') fun _ _ _ => False) : OpC Y (.type "bool") [x] M P := by
  obtain ⟨f, fd, ps, F, b, c, mt⟩ := F
  exact ⟨_, cr_boolO mt F hg hr (fun s us _ hl => b s us hl), fun G H vs Q w r k => by
    obtain ⟨v, rfl, rx⟩ := iss_one r
    obtain ⟨a, dx, vs, rfl, hh, rf⟩ := hx.get w rx
    refine ⟨a, dx, vs, rfl, hh, G, M, [x], _, _, w, .cons rx .nil, h, fun v G' H' M' d t ri ⟨b, ed, q⟩ => ?_, fun C gs fs d G' H' M' M2 ee => ee.elim⟩
    subst ed
    cases ri
    exact ⟨b, rfl, k _ _ _ _ _ t (.bl _) q⟩⟩
theorem o_inK (F : KO Y.X.prog Y.X.w Y.X.K Y.X.mg Y.X.base k C "__contains__" 2 S) (hg : Y.X.A.guards = some []) (hr : Room k Y.X.A) (hx : OAt M x C fs) (h : S [x, y] M (fun d M' => ∃ b, d = .bl b ∧ P (.bl b) M') fun _ _ _ => False) : Op2 Y (compareOp .In) y x M P := by
  obtain ⟨f, fd, ps, F, b, c, mt⟩ := F
  exact ⟨_, op_inO mt F hg hr (fun s us _ hl => b s us hl), fun G H v u Q w r2 r1 k => by
    obtain ⟨a, dx, vs, rfl, h1, q1⟩ := hx.get w r1
    exact ⟨a, dx, vs, rfl, h1, G, M, [x, y], _, _, w, .cons r1 (.cons r2 .nil), h, fun v G' H' M' d t ri ⟨b, ed, q⟩ => by
      subst ed
      cases ri
      exact ⟨b, rfl, k _ _ _ _ _ t (.bl _) q⟩, fun C gs fs d G' H' M' M2 ee => ee.elim⟩⟩
theorem o_andK (hC : AndC Y.X.K C R) (F : KO Y.X.prog Y.X.w Y.X.K Y.X.mg Y.X.base k C "__and__" 2 S) (hg : Y.X.A.guards = some []) (hr : Room k Y.X.A) (hx : OAt M x C fs) (hy : OAt M y R gs) (h : S [x, y] M P fun _ _ _ => False) : Op2 Y (binaryOp .BitAnd) x y M P := by
  obtain ⟨f, fd, ps, F, b, c, mt⟩ := F
  exact ⟨_, op_andO hC mt F hg hr (fun s us _ hl => b s us hl), fun G H u v Q w r1 r2 k => by
    obtain ⟨a, dx, vs, rfl, h1, q1⟩ := hx.get w r1
    obtain ⟨b, dy, ws, rfl, h2, q2⟩ := hy.get w r2
    exact ⟨a, dx, vs, b, dy, ws, rfl, rfl, h1, h2, G, M, [x, y], _, _, w, .cons r1 (.cons r2 .nil), h, fun v G' H' M' d t ri q => k _ _ _ _ _ t ri q, fun C gs fs d G' H' M' M2 ee => ee.elim⟩⟩
end
end JQ

set_option Elab.async false
set_option linter.all false
set_option maxRecDepth 100000
set_option maxHeartbeats 1000000
/-! # a lambda without parameters, handed to a def of one parameter, that calls it -/
namespace JQ
open PySem PySem.Spec PyProof.Rows L2 LamX
open Evl (Ex)
/-- the function object of a lambda -/
abbrev lamO (X : Cx) (params : Arguments) (body : Expr) (scope : Scope) (pm ctv : Value) (cc : Addr) : Obj :=
  PySem.W.kla_obj "<lambda>" (X.env.qual ++ "<lambda>") params body scope (cloFrom X.env.cells scope.names []) pm cc ctv
abbrev lamQ (X : Cx) : Str := X.env.qual ++ "<lambda>"
section
variable {X : Cx} {pins : List (Addr × Obj)} {σ : L2.St} {G H : Hp} {M : Mm} {s : Shared} {c tb : Addr} {params : Arguments} {body : Expr} {scope : Scope} {pos : Pos}
/-- the table grows by a new code object, which is data from now on -/
theorem Wd.told {q : Str} {cc : Addr} {ps : Array Value} (w : Wd X.K G H M) (m : M tb = some (.tb q)) (hP : H tb = some (.tbl ps)) (n : H cc = none) (ht : TriplesOk ps.toList)
    (ha : ∀ (p : Pos) (cv : Value), codeAmong p ps.toList = some cv → ∃ c, cv = .ref c ∧ G c = some (CodeO c q)) :
    Tr X.K G H M (upd G cc (CodeO cc q)) (upd (upd H tb (.tbl (ps ++ #[rawInt pos.line, rawInt pos.col, .ref cc]))) cc (CodeO cc q)) M where
  gg := Evl.Ex.new (w.gnone n)
  wd := by
    have gn : G tb = none := (w.mo _ _ m).1
    have ne : tb ≠ cc := ne_of_none hP n
    refine ⟨fun a u e => ?_, fun a u e => ?_⟩
    · by_cases h1 : a = cc
      · subst h1
        rw [upd_same] at e ⊢
        exact e
      · rw [upd_ne h1] at e ⊢
        rw [upd_ne (fun z => by rw [z, gn] at e; cases e)]
        exact w.gh a u e
    · obtain ⟨g0, v, hv, ob⟩ := w.mo a u e
      have hac : a ≠ cc := ne_of_none hv n
      refine ⟨by rw [upd_ne hac]; exact g0, ?_⟩
      rw [upd_ne hac]
      by_cases h1 : a = tb
      · rw [h1, m] at e
        obtain rfl := Option.some.inj e
        refine ⟨_, by rw [h1, upd_same], ?_⟩
        have el : (ps ++ #[rawInt pos.line, rawInt pos.col, .ref cc]).toList = ps.toList ++ [rawInt pos.line, rawInt pos.col, .ref cc] := by simp
        show TriplesOk _ ∧ _
        rw [el]
        refine ⟨PySem.TriplesOk_snoc _ _ _ _ ht, fun p cv hc => ?_⟩
        cases among_app _ ht hc with
        | inl z =>
          obtain ⟨c0, e1, e2⟩ := ha p cv z
          exact ⟨c0, e1, by rw [upd_ne (ne_of_none e2 (w.gnone n))]; exact e2⟩
        | inr z => exact ⟨cc, z, upd_same⟩
      · rw [upd_ne h1]
        exact ⟨v, hv, ob.mono (Evl.Ex.new (w.gnone n))⟩
  fr := fun a u e mm => by
    have h1 : a ≠ cc := ne_of_none e n
    have h2 : a ≠ tb := fun z => by rw [z, m] at mm; cases mm
    rw [upd_ne h1, upd_ne h2, upd_ne h1]
    exact ⟨e, mm, rfl⟩
  lv := fun a u e => by
    have h1 : a ≠ cc := ne_of_none e n
    by_cases h2 : a = tb
    · exact ⟨_, by rw [upd_ne h1, h2, upd_same]⟩
    · exact ⟨u, by rw [upd_ne h1, upd_ne h2]; exact e⟩
/-- a lambda is made: its code object stands in the table, or is new -/
theorem lam_made {E R : Value → Shared → Prop} (I : Inv X pins σ H s) (w : Wd X.K G H M) (m : M tb = some (.tb (lamQ X))) (TB : TabB X.base X.mg c tb) (hcode : X.env.code = .ref c) (hdef : defaultsOf params X.env = ([], [])) (hfree : ∀ y ∈ scope.names, y.2 = .free → ∃ c, X.env.cells.lookup y.1 = some c)
    (h : ∀ (f cc : Addr) (pm ctv : Value) (G1 H1 : Hp) (s1 : Shared), Inv X pins σ H1 s1 → Tr X.K G H M G1 H1 M → s1.heap.get? f = some (lamO X params body scope pm ctv cc) → H1 f = none → f ∉ frs X.stack → G1 cc = some (CodeO cc (lamQ X)) → R (.ref f) s1) :
    wpAny (model X.prog X.w) X.A (eval (.Lambda params body scope pos) X.env) R E s := by
  obtain ⟨gn, u, hP, ob⟩ := w.mo _ _ m
  obtain ⟨ps, rfl, ht, ha⟩ : ∃ ps, u = .tbl ps ∧ TriplesOk ps.toList ∧ ∀ (p : Pos) (cv : Value), codeAmong p ps.toList = some cv → ∃ c, cv = .ref c ∧ G c = some (CodeO c (lamQ X)) := by
    cases u <;> first | exact ⟨_, rfl, ob.1, ob.2⟩ | exact ob.elim
  have oP : s.heap.get? tb = some { cls := .none, data := .fields ps } := I.hok tb _ hP
  have fresh : ∀ f, s.heap.objs.size ≤ f → f ∉ frs X.stack := by
    intro f hf z
    cases List.mem_cons.mp (I.stkSub _ z) with
    | inl e =>
      have hlt := I.lt
      rw [← e] at hlt
      exact absurd hf (Nat.not_le.mpr hlt)
    | inr e => exact I.nofs hf e
  refine PySem.W.kla_eval hdef ?_
  cases hc : codeAmong pos ps.toList with
  | some cv =>
    obtain ⟨cc, rfl, hg⟩ := ha pos cv hc
    exact PySem.W.kla_makeFunctionHit (mg := X.mg) (c := c) (P := tb) (ps := ps) (closure_ok hfree) I.ok.glob (I.mod.glob.keeps I.bk) hcode (TB.code.keeps I.bk) oP ht hc (TB.bm.keeps I.bk) fun ctv h' tk hx hsz =>
      h h'.objs.size cc _ ctv G H _ (I.kept fun b o e => Heap.get?_push_of_some _ (hx b o e)) w.refl (Heap.get?_push_size _ rfl) (I.hok.fresh hsz) (fresh _ hsz) hg
  | none =>
    refine PySem.W.kla_makeFunction (mg := X.mg) (c := c) (P := tb) (ps := ps) (closure_ok hfree) I.ok.glob (I.mod.glob.keeps I.bk) hcode (TB.code.keeps I.bk) oP ht hc TB.gP (TB.bm.keeps I.bk) fun cc ctv h' tk hx hge hlt hrec htb => ?_
    obtain ⟨c2, oc, vs, t, e2, hoc, hd, hv⟩ := hrec
    cases e2
    have n : H cc = none := I.hok.fresh hge
    have hsz : s.heap.objs.size ≤ h'.objs.size := Nat.le_trans hge (Nat.le_of_lt hlt)
    have hne : h'.objs.size ≠ cc := Nat.ne_of_gt hlt
    have hne2 : h'.objs.size ≠ tb := Nat.ne_of_gt (Nat.lt_of_lt_of_le (Heap.lt_size oP) hsz)
    refine h h'.objs.size cc _ ctv _ _ _ (inv_table (t' := tk) (more := #[rawInt pos.line, rawInt pos.col, .ref cc]) (h' := h'.push (lamO X params body scope _ ctv cc)) I hP (fun b o hb e => Heap.get?_push_of_some _ (hx b o hb e)) (Heap.get?_push_of_some _ htb) hge ⟨oc, vs, t, Heap.get?_push_of_some _ hoc, hd, hv⟩)
      (Wd.told w m hP n ht ha) (Heap.get?_push_size _ rfl) ?_ (fresh _ hsz) upd_same
    rw [upd_ne hne, upd_ne hne2]
    exact I.hok.fresh hsz
/-- the context of a lambda's body, over data -/
abbrev lamB (X : Cx) (A : Around) (outer : List Env) (s : Shared) (H : Hp) (E : XK) (scope : Scope) (f cc : Addr) (EE : EEx) : Bd := ⟨lamCx X A outer s H E scope f cc, fun C gs M _ => EE C gs M⟩
end
section
variable {X : Cx} {pins : List (Addr × Obj)} {σ : L2.St} {G H : Hp} {M : Mm} {s : Shared} {c tb : Addr} {params : Arguments} {body : Expr} {scope : Scope} {ss : List S}
/-- what a lambda does where it is called -/
structure LamSay (X : Cx) (body : Expr) (scope : Scope) (k : Nat) (ss : List S) (M : Mm) (P : D → Mm → Prop) (EE : EEx) : Prop where
  run : ∀ (A : Around) (outer : List Env) (s : Shared) (H : Hp) (E : XK) (f cc : Addr), (A.deeper (lamEnv X scope s.heap.objs.size f cc)).guards = some [] → Room k (A.deeper (lamEnv X scope s.heap.objs.size f cc)) → WE (lamB X A outer s H E scope f cc EE) body ss M P
/-- what stays true of the maker's frame and of the code object -/
def lamF (X : Cx) (σ : L2.St) (ss : List S) (cc : Addr) : Hp → Prop := fun G => Frm X.K G σ ss ∧ G cc = some (CodeO cc (lamQ X))
theorem lamF_mono (X : Cx) (σ : L2.St) (ss : List S) (cc : Addr) : ∀ G1 G2, Ex G1 G2 → lamF X σ ss cc G1 → lamF X σ ss cc G2 := fun _ _ e h => ⟨h.1.mono e, e _ _ h.2⟩
/-- a(), in the def that got the lambda -/
theorem we_act {Ng : List Str} {qg a : Str} {sg : Scope} {g f cc : Addr} {cdg pm ctv : Value} {Eg : XK} {k : Nat} {EEg : Addr → List (Str × D) → Mm → List S → Prop} {pn : List (Addr × Obj)} {xe : Value → Shared → Prop} {p1 p2 : Pos}
    (I : Inv X pins σ H s) (L : LamS X.env.scope scope) (hf : s.heap.get? f = some (lamO X params body scope pm ctv cc)) (hfn : H f = none) (hfr : f ∉ frs X.stack)
    (hbind : bindArgs (PySem.W.kla_fn "<lambda>" (lamQ X) params body scope (cloFrom X.env.cells scope.names []) pm (.ref cc) ctv) ⟨[], []⟩ = pure [])
    (hg : (X.A.deeper (envOfC qg sg s.heap.objs.size g cdg)).guards = some []) (hr : Room (k + 1) (X.A.deeper (envOfC qg sg s.heap.objs.size g cdg)))
    (hN : Ng[0]? = some a) (hv : Vis sg a) (hd : (a == ("__debug__" : Str)) = false) (hcd : (a == ("__classdict__" : Str)) = false)
    {sz : List S} {Mz : Mm} {P : D → Mm → Prop} (h0 : sz[0]? = some (some (.clo f (lamF X σ ss cc))))
    (h : LamSay X body scope k ss Mz P fun C gs M' => EEg C gs M' sz) :
    WE (⟨(cxOf (L2.CX X.prog X.w) X.prog X.w X.K X.mg X.base Ng qg sg g cdg X.A X.stack s H Eg).tr pn xe, EEg⟩ : Bd) (.Call (.Name a p1) [] [] p2) sz Mz P := .mk fun B σZ GZ HZ Q so kq pinsZ sZ IZ => by
  obtain ⟨vf, hvf, rvf⟩ := so.slot h0
  obtain ⟨rfl, fm, hcc⟩ : vf = .ref f ∧ Frm X.K GZ σ ss ∧ GZ cc = some (CodeO cc (lamQ X)) := by
    cases rvf with
    | clo h m => exact ⟨rfl, h.1, h.2⟩
  refine wpAny_Call_Name_kw (thn ((pe_var (pos := p1) (i := 0) hN hv hd hcd).run pinsZ sZ σZ HZ (fun v H1 => v = .ref f ∧ H1 = HZ) IZ ⟨.ref f, hvf, rfl, rfl⟩) fun u s1 ⟨v, H1, I1, r1, ev, eH⟩ => ?_)
  subst ev eH
  obtain rfl : u = Value.ref f := r1
  have un : Un (frs X.stack) [] H H1 s.heap s1.heap := I1.base
  have of1 := un.keep f _ hf hfn hfr (fun z => nomatch (show f ∈ ([] : List Addr) from z))
  have hc1 : H1 cc = some (CodeO cc (lamQ X)) := so.w.gh _ _ hcc
  obtain ⟨⟨oc, vs, t, hoc, hdc, hvc⟩, _, _⟩ := I1.hok cc _ hc1
  obtain ⟨W0, tk0, er0⟩ := so.er
  refine PySem.W.callWith_F0 ⟨_, _, _, _, of1⟩ (wpAny_call (codeAny_mono (R := CR (L2.CX X.prog X.w) (envOfC qg sg s.heap.objs.size g cdg :: X.stack) X.prog X.w H1 s1 Q fun cls d H' => W0 cls d σZ H') ?_ fun res s2 hq => end_call (Y := ⟨_, EEg⟩) tk0 I1 hq))
  refine PySem.W.kla_callFunE hr.depth of1 rfl L.co L.gen rfl ⟨cc, oc, vs, t, rfl, hoc, hdc, hvc⟩ ?_
  have hb2 : bindArgs (PySem.W.kla_fn "<lambda>" (X.env.qual ++ "<lambda>") params body scope (cloFrom X.env.cells scope.names []) pm (.ref cc) ctv) ⟨[] ++ [], []⟩ = pure [] := hbind
  rw [hb2]
  refine wpAny_pure (wpAny_newFunctionEnv (fun y hy => (L.own y hy).2) (fun y hy => absurd hy (by simp)) (fun h₁ hns hsb => ⟨I1.nolimit.fresh _ hsb, ?_⟩) L.kind)
  have kp : ∀ b o, s1.heap.get? b = some o → h₁.get? b = some o := fun b o e => hsb.extBut b o (Nat.ne_of_lt (Heap.lt_size e)) (Heap.get?_push_of_some _ e)
  have J := lam_start2 (E := fun cls d H' => W0 cls d σZ H') (f := f) (c' := cc) (tk := s1.toks + ([] : List (Str × Value)).length) I L I1.env0 hr.hd un hns kp
  refine PySem.W.kla_codeExpr (wpAny_mono (h.run (X.A.deeper (envOfC qg sg s.heap.objs.size g cdg)) (envOfC qg sg s.heap.objs.size g cdg :: X.stack) s1 H1 _ f cc hg (hr.deeper _) ⟨GZ, H1, Mz⟩ σ GZ H1 (fun v H' => Q v H') ⟨so.refl, ⟨fun cls d _ H' => W0 cls d σZ H', takes_of rfl rfl rfl rfl, fun C gs fs d σ2 G2 H2 M2 M2' ss2 ee ms t f2 n ng nm e rf => ?_⟩, fm⟩ (fun v G' H' M' d t r q => kq v G' H' M' d t r q) [] _ J) (fun v s' hq => ?_) fun e s' hq => hq)
  · exact er0 C gs fs d σZ G2 H2 M2 M2' sz ee ms (so.t.trans t) (so.f.mono t.gg) (by
      cases cB : B.H d with
      | none => rfl
      | some u => obtain ⟨u', c'⟩ := so.t.lv d u cB; have n : H1 d = none := n; rw [c'] at n; cases n) ng nm e rf
  · obtain ⟨w', H', J', rv, q⟩ := hq
    exact ⟨w', H', J'.os, J'.bare, J'.base, J'.hok, rv, q⟩
end
section
variable {Y : Bd} {ss : List S} {M : Mm} {P : D → Mm → Prop} {c tb g : Addr} {params pg : Arguments} {body : Expr} {scope sg : Scope} {bg : List Stmt} {Ng : List Str} {x a : Str} {fd : FuncData} {k : Nat} {p lpos pos : Pos}
/-- a() in the body that runs: what a lambda says, it does -/
def LamActs (Y : Bd) (Ng : List Str) (x a : Str) (sg : Scope) (g : Addr) (cdv : Value) (s : Shared) (H : Hp) (E : XK) (body : Expr) (scope : Scope) (k : Nat) (ss : List S) (f : Addr) (φ : Hp → Prop) : Prop :=
  ∀ (pn : List (Addr × Obj)) (xe : Value → Shared → Prop) (EEg : Addr → List (Str × D) → Mm → List S → Prop) (sz : List S) (Mz : Mm) (P' : D → Mm → Prop) (p1 p2 : Pos), sz[0]? = some (some (.clo f φ)) → LamSay Y.X body scope k ss Mz P' (fun C gs M' => EEg C gs M' sz) →
    WE (⟨(cxOf (L2.CX Y.X.prog Y.X.w) Y.X.prog Y.X.w Y.X.K Y.X.mg Y.X.base Ng x sg g cdv Y.X.A Y.X.stack s H E).tr pn xe, EEg⟩ : Bd) (.Call (.Name a p1) [] [] p2) sz Mz P'
/-- x(lambda: body) -/
theorem we_lamcall (F : FunD Y.X.K x x pg bg sg [] [] g fd) (sc : FnScope Ng [a] sg) (hN : Ng[0]? = some a) (hv : Vis sg a)
    (hb1 : ∀ (kV doc pm : Value) (an : Option Addr) (cdv ct : Value) (us : List Value), us.length = 1 → bindArgs (PySem.W.fnOf x x pg bg sg .none kV doc pm an cdv ct) ⟨us, []⟩ = pure ([a].zip us))
    (hm : Y.X.mg x = some (.ref g)) (hk : PySem.W.keepIn Y.X.K (.ref g) = true) (TB : TabB Y.X.base Y.X.mg c tb) (hcode : Y.X.env.code = .ref c) (m : M tb = some (.tb (lamQ Y.X))) (hg : Y.X.A.guards = some []) (hr : Room (k + 2) Y.X.A)
    (L : LamS Y.X.env.scope scope) (hdef : defaultsOf params Y.X.env = ([], [])) (hbind : ∀ (q : Str) (cl : List (Str × Addr)) (pm cv ctv : Value), bindArgs (PySem.W.kla_fn "<lambda>" q params body scope cl pm cv ctv) ⟨[], []⟩ = pure [])
    (h : ∀ (cdv : Value) (s : Shared) (H : Hp) (E : XK) (f : Addr) (φ : Hp → Prop), (Y.X.A.deeper (envOfC x sg s.heap.objs.size g cdv)).guards = some [] → Room (k + 1) (Y.X.A.deeper (envOfC x sg s.heap.objs.size g cdv)) →
      LamActs Y Ng x a sg g cdv s H E body scope k ss f φ →
      WSs (bdOf Y.X.prog Y.X.w Y.X.K Y.X.mg Y.X.base Ng x sg g cdv Y.X.A Y.X.stack s H E (fun C gs M' => Y.EE C gs M' ss)) bg (startS Ng [.clo f φ]) M { nx := fun _ => P .non, rt := P })
    (gl : Gl Y.X x := by rfl) (hdb : (x == ("__debug__" : Str)) = false := by decide) (hd : (a == ("__debug__" : Str)) = false := by decide) (hcd : (a == ("__classdict__" : Str)) = false := by decide) :
    WE Y (.Call (.Name x p) [.Lambda params body scope lpos] [] pos) ss M P := .mk fun B σ G H Q so kq pins s I => by
  have hb := F.bindsA (ps := [a]) hb1
  obtain ⟨oc, od, dV, kV, doc, pmm, an, cdv, ct, osl, rfl, lk, hcode2, hD, hK⟩ := F.ex
  refine wpAny_Call_Name_kw (ld_glob I gl hm (PySem.W.callWith_K (h₀ := Y.X.base) I.ok.mod.kin hk ?_ (by rfl) (by rfl)) hdb)
  show wpAny (model Y.X.prog Y.X.w) Y.X.A (spliced ((false, eval (.Lambda params body scope lpos) Y.X.env) :: [])) _ _ s
  refine Calls.spliced_cons (lam_made I so.w m TB hcode hdef (L.has I.ok) fun f cc pm ctv G1 H1 s1 I1 t1 hf hfn hfr hcc => Calls.spliced_nil ⟨I1.kIn, ?_⟩)
  have so1 := so.go t1
  obtain ⟨W, tk, hsp⟩ := sp_at (S := fun ds M' P' EE' => ds = [.clo f (lamF Y.X σ ss cc)] ∧ M' = M ∧ P' = P ∧ EE' = fun C gs M' => Y.EE C gs M' ss) (vs := [.ref f]) (xs := [.clo f (lamF Y.X σ ss cc)]) (P := P) (Q := Q) so1 (.cons (.clo ⟨so1.f, hcc⟩ (lamF_mono _ _ _ _)) .nil) ⟨rfl, rfl, rfl, rfl⟩ (fun v G' H' M' d t r q => kq v G' H' M' d (t1.trans t) r q)
  refine wpAny_call (codeAny_mono (run_ofS (CX := L2.CX Y.X.prog Y.X.w) (N := Ng) (ps := [a]) (us := [.ref f]) (vs := [.ref f]) (Q := Q) (E := fun cls d H' => W cls d σ H') lk hcode2 sc hr I1.env0 (hb s1 [.ref f] rfl) (.cons rfl .nil) rfl fun hr2 => ⟨_, pss_w, body_sp hsp fun ds M' Pd EE ⟨e1, e2, e3, e4⟩ => ?_⟩) fun res s2 hq => end_call tk I1 hq)
  subst e1 e2 e3 e4
  exact h cdv s1 H1 _ f (lamF Y.X σ ss cc) hg hr2 fun pn xe EEg sz Mz P' p1 p2 h0 say => we_act I1 L hf hfn hfr (hbind _ _ _ _ _) hg hr2 hN hv hd hcd h0 say
end
/-- a def's body, where its code object is asked for -/
theorem fnDC {P : Program} {w : World} {K : PySem.W.Frag} {mg : Str → Option Value} {base : Heap} {d : He.Defn} {x qual : Str} {pa : Arguments} {bo : List Stmt} {sco : Scope} {dvs : List V} {kws : List (Str × V)} {fd : FuncData} {N ps : List Str} {k : Nat} {S : Sd}
    (F : FunD K x qual pa bo sco dvs kws (He.fAd K d) fd) (sc : FnScope N ps sco) (len : ∀ ds M P EE, S ds M P EE → ds.length = ps.length)
    (hb : ∀ (A : Around) (outer : List Env) (s : Shared) (H : Hp) (E : XK), (A.deeper (envOfC qual sco s.heap.objs.size (He.fAd K d) (.ref (He.codeOf K d)))).guards = some [] → Room k (A.deeper (envOfC qual sco s.heap.objs.size (He.fAd K d) (.ref (He.codeOf K d)))) → ∀ ds M Pd EE, S ds M Pd EE →
      WSs (bdOf P w K mg base N qual sco (He.fAd K d) (.ref (He.codeOf K d)) A outer s H E EE) bo (startS N ds) M { nx := fun _ => Pd .non, rt := Pd }) : FnG P w K mg base (k + 1) (He.fAd K d) fd ps (spD K S) := by
  obtain ⟨oc, od, dV, kV, doc, pm, an, cdv, ct, osl, rfl, lk, hcd, _, _⟩ := F.ex
  obtain ⟨cc, rfl⟩ := He.codeIn_ref hcd
  have e : He.codeOf K d = cc := He.codeOf_eq lk rfl
  subst e
  exact fnG_of lk hcd sc (sp_len len) fun A outer s H vs Q E hg hr h => body_sp h fun ds M Pd EE hS => hb A outer s H E hg hr ds M Pd EE hS
end JQ

set_option Elab.async false
set_option linter.all false
set_option maxRecDepth 100000
set_option maxHeartbeats 2000000
/-! # a law's end, where defs hold lambdas: the tables of their code objects stand empty at the entry -/
namespace JQ
open PySem PySem.Spec PyProof.Rows L2 LamX
open Evl (Ex)
/-- tables, with the name that their code objects bear -/
def tabM : List (Addr × Str) → Mm
  | [] => m0
  | p :: ts => mup (tabM ts) p.1 (.tb p.2)
theorem tabM_at {ts : List (Addr × Str)} (hd : (ts.map (·.1)).Nodup) : ∀ p ∈ ts, tabM ts p.1 = some (.tb p.2) := by
  induction ts with
  | nil => intro p h; cases h
  | cons q ts ih =>
    intro p h
    obtain ⟨h1, h2⟩ := List.nodup_cons.mp hd
    cases List.mem_cons.mp h with
    | inl e => rw [e]; exact mup_same
    | inr e =>
      exact (mup_ne fun z => h1 (List.mem_map.mpr ⟨p, e, z⟩)).trans (ih h2 p e)
theorem tabM_some {ts : List (Addr × Str)} {a : Addr} {o : MO} (h : tabM ts a = some o) : ∃ p ∈ ts, a = p.1 ∧ o = .tb p.2 := by
  induction ts with
  | nil => cases h
  | cons q ts ih =>
    by_cases e : a = q.1
    · subst e
      rw [show tabM (q :: ts) q.1 = some (.tb q.2) from mup_same] at h
      exact ⟨q, List.mem_cons_self, rfl, (Option.some.inj h).symm⟩
    · rw [show tabM (q :: ts) a = tabM ts a from mup_ne e] at h
      obtain ⟨p, hp, r⟩ := ih h
      exact ⟨p, List.mem_cons_of_mem _ hp, r⟩
def SLawT (ts : List (Addr × Str)) : Sd := fun ds M P _ => ∃ ns : List Int, ds = [.scr (ns.map D.int)] ∧ ns.length ≤ 63 ∧ M = tabM ts ∧ ∀ M', P (.bl true) M'
section
variable {P : Program} {w : World} {K : PySem.W.Frag} {mg mb : Str → Option Value} {k : Nat} {fa a : Addr} {fd : FuncData} {x : Str} {sp : Sp} {s₁ : Shared} {vs : List Value} {ns : List Int} {cs : List (Addr × Addr)}
abbrev emT : Obj := { cls := .none, data := .fields #[] }
theorem ends_fromT (KX : K.In s₁.heap) (gl : s₁.heap.Ns mainGlobals mg) (bl : s₁.heap.Ns builtinsNs mb) (bb : ∀ x : Str, x ≠ "__name__" → mb x = bootBuiltins x) (nl : s₁.heap.NoLimit) (ng : s₁.gens = #[])
    (tE : ∀ p ∈ cs, s₁.heap.get? p.2 = some emT) (tK : ∀ p ∈ cs, K.lookup p.2 = none) (tC : ∀ p ∈ cs, PySem.W.CodeHd s₁.heap p.1 p.2)
    (bmn : ∃ (bm : Addr) (ob : Obj), mg "__builtins__" = some (.ref bm) ∧ bm ≠ builtinsNs ∧ s₁.heap.get? bm = some ob ∧ ob.cls = .type "module" ∧ ob.dict = some builtinsNs ∧ ob.data = .plain)
    (ha : s₁.heap.get? a = some { cls := .type "list", data := .seq vs.toArray }) (hr : Room k callerA) (F : ∀ base : Heap, K.In base → base.Ns mainGlobals mg → (∀ p ∈ cs, TabB base mg p.1 p.2) → FnG P w K mg base k fa fd [x] sp) (hbind : ∀ (s : Shared) (u : Value), BindsTo s fd ⟨[u], []⟩ [(x, u)])
    (H : Hp) (tH : ∀ p ∈ cs, H p.2 = some (.tbl #[])) (hO : ∀ b, H b = none ∨ b ∈ cs.map (·.2) ∨ ∃ o xs, H b = some (.frz o (.lst xs))) (hsp : sp [.ref a] H (fun v _ => v = .bl true) fun _ _ _ => False) (hok : HOk P w H s₁.heap) (hA : ∀ b, H b ≠ none → b = a ∨ b ∈ cs.map (·.2)) (hK : H a ≠ none → K.lookup a = none) :
    codeAny (model P w) callerA (.call (.ref fa) ⟨[.ref a], []⟩) (EndsTrue s₁) s₁ := by
  have tE2 : ∀ b, b ∈ cs.map (·.2) → s₁.heap.get? b = some emT := fun b hb => by
    obtain ⟨p, hp, rfl⟩ := List.mem_map.mp hb
    exact tE p hp
  have untr : ∀ {b : Addr} {o : Obj}, s₁.heap.get? b = some o → (∀ ws n, o.data = .seq ws n → False) → (o.data = .fields #[] → False) → H b = none := by
    intro b o e h1 h2
    cases q : H b with
    | none => rfl
    | some u =>
      cases hA b (by rw [q]; exact Option.some_ne_none u) with
      | inl z => rw [z, ha] at e; cases e; exact (h1 _ _ rfl).elim
      | inr z => rw [tE2 b z] at e; cases e; exact (h2 rfl).elim
  have toB : ∀ {b : Addr} {o : Obj}, s₁.heap.get? b = some o → H b = none → (hidT s₁.heap H).get? b = some o := fun e n => hidT_get e n
  have nsB : ∀ {b : Addr} {m : Str → Option Value}, s₁.heap.Ns b m → (hidT s₁.heap H).Ns b m := by
    intro b m z
    obtain ⟨o, es, ep, e, d, r⟩ := z
    exact ⟨o, es, ep, toB e (untr e (fun _ _ z => by rw [d] at z; cases z) fun z => by rw [d] at z; cases z), d, r⟩
  have KB : K.In (hidT s₁.heap H) := fun b o e => toB (KX b o e) (by
    cases q : H b with
    | none => rfl
    | some u =>
      cases hA b (by rw [q]; exact Option.some_ne_none u) with
      | inl z => subst z; rw [hK (by rw [q]; exact Option.some_ne_none u)] at e; cases e
      | inr z => obtain ⟨p, hp, rfl⟩ := List.mem_map.mp z; rw [tK p hp] at e; cases e)
  obtain ⟨mo, es0, ep0, ge, gd, _⟩ := id gl
  have tabs : ∀ p ∈ cs, TabB (hidT s₁.heap H) mg p.1 p.2 := by
    intro p hp
    have here := tE p hp
    constructor
    · obtain ⟨o, us, file, tf, flags, tg, inF, text, tt, e1, r1, r2, r3, rest⟩ := tC p hp
      refine ⟨o, us, file, tf, flags, tg, inF, text, tt, toB e1 (untr e1 (fun _ _ z => ?_) fun z => ?_), r1, r2, r3, rest⟩
      · rw [r2] at z; cases z
      · rw [r2] at z; cases z; simp at r3
    · obtain ⟨bm, ob, b1, b2, b3, b4, b5, b6⟩ := bmn
      refine ⟨bm, ob, b1, b2, fun z => ?_, fun z => ?_, toB b3 (untr b3 (fun _ _ z => ?_) fun z => ?_), b4, b5, b6⟩
      · rw [z, ge] at b3; cases b3; rw [gd] at b6; cases b6
      · rw [z, here] at b3; cases b3; cases b6
      · rw [b6] at z; cases z
      · rw [b6] at z; cases z
    · intro z
      rw [z, here] at ge
      cases ge
      cases gd
  obtain ⟨mc, l1, l2⟩ := nl
  have start : Env0 P w K mg (hidT s₁.heap H) callerA [] s₁ H := ⟨rfl, ⟨KB, nsB gl, ⟨mb, nsB bl, bb⟩, ⟨mc, nsB l1, l2⟩⟩, fun b o e => of_hidT e, Nat.le_of_eq (hidT_size _ _), trivial, fun b hb => (nomatch (show b ∈ ([] : List Addr) from hb)), hok, .of_eq ng⟩
  have out := (F _ KB (nsB gl) tabs).run callerA [] s₁ H ⟨[.ref a], []⟩ [.ref a] [.ref a] _ _ rfl hr start (hbind s₁ (.ref a)) (.cons rfl .nil) hsp
  refine codeAny_mono out fun res s2 h => ?_
  match res, h with
  | .error e, h =>
    obtain ⟨_, _, _, _, _, _, _, _, _, _, _, _, z⟩ := h
    exact z.elim
  | .ok .next, h => exact False.elim h
  | .ok .brk, h => exact False.elim h
  | .ok .cont, h => exact False.elim h
  | .ok (.ret u), ⟨v, H2, os, bare, un, hok2, rv, q⟩ =>
    obtain rfl : v = .bl true := q
    obtain rfl : u = Value.bool true := rv
    have stays : ∀ b o, ¬ b ∈ cs.map (·.2) → s₁.heap.get? b = some o → s2.heap.get? b = some o := by
      intro b o nb e
      rcases hO b with n | n | ⟨ob, xs, n⟩
      · exact un.keep b o e n (by intro z; exact nomatch (show b ∈ ([] : List Addr) from z)) (by simp)
      · exact absurd n nb
      · obtain ⟨e1, _⟩ := hok b _ n
        obtain ⟨e2, _⟩ := hok2 b _ (un.frzs b ob _ n)
        rw [e] at e1; cases e1
        exact e2
    have grows : ∀ b, b ∈ cs.map (·.2) → ∃ p ∈ cs, b = p.2 ∧ ∃ more : Array Value, s2.heap.get? b = some { cls := .none, data := .fields more } := by
      intro b hb
      obtain ⟨p, hp, rfl⟩ := List.mem_map.mp hb
      obtain ⟨more, z⟩ := un.tbls p.2 #[] (tH p hp)
      exact ⟨p, hp, rfl, _, hok2 p.2 _ z⟩
    refine ⟨rfl, ⟨fun b o e => ?_, fun b o e => ?_⟩, os, bare⟩
    · by_cases hb : b ∈ cs.map (·.2)
      · obtain ⟨p, hp, rfl, more, z⟩ := grows b hb
        rw [tE p hp] at e; cases e
        exact .inr (.inl ⟨((tC p hp).tab (tE p hp)).isCodeTable, rfl, #[], more, rfl, by rw [Array.empty_append]; exact z⟩)
      · exact .inl (stays b o hb e)
    · by_cases hb : b ∈ cs.map (·.2)
      · obtain ⟨p, hp, _, more, z⟩ := grows b hb
        exact ⟨_, z⟩
      · exact ⟨o, stays b o hb e⟩
/-- the wish, from the tables' names -/
theorem law_callT (KX : K.In s₁.heap) (gl : s₁.heap.Ns mainGlobals mg) (bl : s₁.heap.Ns builtinsNs mb) (bb : ∀ x : Str, x ≠ "__name__" → mb x = bootBuiltins x) (nl : s₁.heap.NoLimit) (ng : s₁.gens = #[])
    (tE : ∀ p ∈ cs, s₁.heap.get? p.2 = some emT) (tK : ∀ p ∈ cs, K.lookup p.2 = none) (tC : ∀ p ∈ cs, PySem.W.CodeHd s₁.heap p.1 p.2)
    (bmn : ∃ (bm : Addr) (ob : Obj), mg "__builtins__" = some (.ref bm) ∧ bm ≠ builtinsNs ∧ s₁.heap.get? bm = some ob ∧ ob.cls = .type "module" ∧ ob.dict = some builtinsNs ∧ ob.data = .plain)
    (ha : s₁.heap.get? a = some { cls := .type "list", data := .seq vs.toArray }) (hi : IntsAre vs ns) (hl : ns.length ≤ 63) (hr : Room k callerA) (ts : List (Addr × Str)) (ht : ∀ p ∈ ts, p.1 ∈ cs.map (·.2))
    (F : ∀ base : Heap, K.In base → base.Ns mainGlobals mg → (∀ p ∈ cs, TabB base mg p.1 p.2) → FnG P w K mg base k fa fd [x] (spD K (SLawT ts))) (hbind : ∀ (s : Shared) (u : Value), BindsTo s fd ⟨[u], []⟩ [(x, u)]) :
    codeAny (model P w) callerA (.call (.ref fa) ⟨[.ref a], []⟩) (EndsTrue s₁) s₁ := by
  have rv := vals_ints hi
  have lenV := hi.length
  have hz : ns.length ≤ sizeLine := Nat.le_trans hl (by decide)
  have tE2 : ∀ b, b ∈ cs.map (·.2) → s₁.heap.get? b = some emT := fun b hb => by
    obtain ⟨p, hp, rfl⟩ := List.mem_map.mp hb
    exact tE p hp
  have aT : ¬ a ∈ cs.map (·.2) := fun z => by
    have q := tE2 a z
    rw [ha] at q
    have q2 : Data.seq vs.toArray _ = Data.fields #[] := congrArg Obj.data (Option.some.inj q)
    cases q2
  -- G: the heap without the tables
  have wish : ∀ H : Hp, (∀ b, b ∈ cs.map (·.2) → H b = some (.tbl #[])) → SqL K (fun b => if b ∈ cs.map (·.2) then none else H b) a (ns.map V.int) → spD K (SLawT ts) [.ref a] H (fun v _ => v = .bl true) fun _ _ _ => False := by
    intro H tH sq
    refine ⟨fun b => if b ∈ cs.map (·.2) then none else H b, tabM ts, [.scr (ns.map D.int)], fun d _ => d = .bl true, fun _ _ _ => False, ⟨fun b o e => ?_, fun b o e => ?_⟩, .cons (.scr sq iss_of_ints) .nil, ⟨ns, rfl, hl, rfl, fun _ => rfl⟩, fun v G' H' M' d t ri e => by
      subst e
      cases ri
      rfl, fun C gs fs d G' H' M' M2 ee => ee.elim⟩
    · by_cases hb : b ∈ cs.map (·.2)
      · rw [if_pos hb] at e; cases e
      · rw [if_neg hb] at e; exact e
    · obtain ⟨p, hp, rfl, rfl⟩ := tabM_some e
      refine ⟨if_pos (ht p hp), _, tH _ (ht p hp), True.intro, fun pos cv hc => ?_⟩
      have hc : codeAmong pos [] = some cv := hc
      simp [codeAmong] at hc
  cases hk : K.lookup a with
  | some o =>
    have e := KX a o hk
    rw [ha] at e
    cases e
    refine ends_fromT KX gl bl bb nl ng tE tK tC bmn ha hr F hbind (fun b => if b ∈ cs.map (·.2) then some (.tbl #[]) else none) (fun p hp => if_pos (List.mem_map.mpr ⟨p, hp, rfl⟩)) (fun b => ?_) (wish _ (fun b hb => if_pos hb) (.inr ⟨_, vs.toArray, _, hk, rfl, rfl, rfl, by rw [List.size_toArray, lenV]; exact hz, by simpa using rv⟩)) (fun b u z => ?_) (fun b z => ?_) fun z => absurd (if_neg aT) z
    · by_cases hb : b ∈ cs.map (·.2)
      · exact .inr (.inl hb)
      · exact .inl (if_neg hb)
    · by_cases hb : b ∈ cs.map (·.2)
      · obtain rfl := Option.some.inj ((if_pos hb).symm.trans z)
        exact tE2 b hb
      · have z2 := (if_neg hb).symm.trans z
        cases z2
    · by_cases hb : b ∈ cs.map (·.2)
      · exact .inr hb
      · exact absurd (if_neg hb) z
  | none =>
    have at_ : (fun b => if b ∈ cs.map (·.2) then none else if b = a then some (HO.frz { cls := .type "list", data := .seq vs.toArray } (.lst (ns.map V.int))) else if b ∈ cs.map (·.2) then some (.tbl #[]) else none) a = some (.frz { cls := .type "list", data := .seq vs.toArray } (.lst (ns.map V.int))) := (if_neg aT).trans (if_pos rfl)
    refine ends_fromT KX gl bl bb nl ng tE tK tC bmn ha hr F hbind (fun b => if b = a then some (.frz { cls := .type "list", data := .seq vs.toArray } (.lst (ns.map V.int))) else if b ∈ cs.map (·.2) then some (.tbl #[]) else none) (fun p hp => ?_) (fun b => ?_) (wish _ (fun b hb => ?_) (.inl (.inr ⟨_, at_⟩))) (fun b u z => ?_) (fun b z => ?_) fun _ => hk
    · have hb : p.2 ∈ cs.map (·.2) := List.mem_map.mpr ⟨p, hp, rfl⟩
      exact (if_neg fun z => aT (by rw [← z]; exact hb)).trans (if_pos hb)
    · by_cases h1 : b = a
      · exact .inr (.inr ⟨_, _, if_pos h1⟩)
      · by_cases hb : b ∈ cs.map (·.2)
        · exact .inr (.inl hb)
        · exact .inl ((if_neg h1).trans (if_neg hb))
    · exact (if_neg fun z => aT (by rw [← z]; exact hb)).trans (if_pos hb)
    · by_cases h1 : b = a
      · obtain rfl := Option.some.inj ((if_pos h1).symm.trans z)
        subst h1
        exact ⟨ha, by rw [List.length_map]; exact hz, vs, _, rv, ha⟩
      · have z2 := (if_neg h1).symm.trans z
        by_cases hb : b ∈ cs.map (·.2)
        · obtain rfl := Option.some.inj ((if_pos hb).symm.trans z2)
          exact tE2 b hb
        · have z3 := (if_neg hb).symm.trans z2
          cases z3
    · by_cases h1 : b = a
      · exact .inl h1
      · by_cases hb : b ∈ cs.map (·.2)
        · exact .inr hb
        · exact absurd ((if_neg h1).trans (if_neg hb)) z
end
/-- the end: F gives the written part, the tables, and the law's promise over every base -/
theorem walk_ofT {l : PySem.W.OpenLaw} {k : Nat} {q : Program} {loose : List Str} {XP : (Str → Option Value) → Heap → Prop} {YP : World → Heap → Prop} {d : DefRec} {x : Str} (hn : l.most = some 63) (hdf : d.params.defaults = []) (hr : Room k callerA)
    (F : ∀ (w : World) (mg : Str → Option Value) (fa : Addr) (h : Heap), YP w h → h.Ns mainGlobals mg → mg d.name = some (.ref fa) →
      ∃ (K : PySem.W.Frag) (fd : FuncData) (cs : List (Addr × Addr)) (ts : List (Addr × Str)), K.In h ∧ (∀ p ∈ cs, h.get? p.2 = some emT) ∧ (∀ p ∈ cs, K.lookup p.2 = none) ∧ (∀ p ∈ cs, PySem.W.CodeHd h p.1 p.2) ∧ (∀ p ∈ ts, p.1 ∈ cs.map (·.2)) ∧ (∀ (s : Shared) (u : Value), BindsTo s fd ⟨[u], []⟩ [(x, u)]) ∧
        ∀ base : Heap, K.In base → base.Ns mainGlobals mg → (∀ p ∈ cs, TabB base mg p.1 p.2) → FnG l.prog w K mg base k fa fd [x] (spD K (SLawT ts))) :
    PySem.W.WalkO q loose XP YP l.row.toRowW d [] (fun f vs => PySem.call f vs) := by
  refine Att.attach_callB hn hdf fun w s₀ s₁ mg mb fa o pm cd doc a vs ns G Y ho hd hcd hmg hobj hints hlen hbits hg => ?_
  obtain ⟨K, fd, cs, ts, KX, tE, tK, tC, ht, hb, hF⟩ := F w mg fa _ Y G.T.g hmg
  exact law_callT KX G.T.g G.T.b G.T.builtins G.T.nolimit hg tE tK tC G.T.bmain hobj hints hlen hr ts ht hF hb
end JQ

set_option Elab.async false
set_option linter.all false
set_option maxRecDepth 100000
set_option maxHeartbeats 2000000
/-! # x & y, x == y, ~x by own methods, whatever y is; what the method raises leaves the operator -/
namespace JQ
open PySem PySem.Spec PyProof.Rows L2
open Evl (Ex)
/-- an operator's step where something may be raised -/
structure OpE (Y : Bd) (op : Operator) (ss : List S) (x y : D) (M : Mm) (P : D → Mm → Prop) : Prop where
  run : ∀ pins (s : Shared) σ B G H Q v w u u', StOk Y B σ G H M ss → Inv Y.X pins σ H s → Is Y.X.K G v x → Is Y.X.K G w y → RelV v u → RelV w u' → Kon Y G H M P Q → wpAny (model Y.X.prog Y.X.w) Y.X.A (binaryOp op u u') (EP Y.X pins σ Q) Y.X.xe s
section
variable {Y : Bd} {ss : List S} {M : Mm} {P : D → Mm → Prop} {k n : Nat} {C R : Addr} {m : Str} {S : Sd} {x y : D} {fs gs : List (Str × D)} {a b : Expr} {pos : Pos}
theorem we_binE {op : Operator} (h : WE Y a ss M fun x M => WE Y b ss M fun y M => OpE Y op ss x y M P) : WE Y (.BinOp a op b pos) ss M P := .mk fun B σ G H Q so k pins s I =>
  wpAny_BinOp (thn (h B σ G H (fun v H1 => ∃ G1 M1 x, Tr Y.X.K G H M G1 H1 M1 ∧ Is Y.X.K G1 v x ∧ WE Y b ss M1 fun y M => OpE Y op ss x y M P) so (fun v G1 H1 M1 x t r p => ⟨G1, M1, x, t, r, p⟩) pins s I) fun u s1 ⟨v, H1, I1, rv, G1, M1, x, t1, r1, h1⟩ =>
    thn (h1 B σ G1 H1 (fun w H2 => ∃ G2 M2 y, Tr Y.X.K G1 H1 M1 G2 H2 M2 ∧ Is Y.X.K G2 w y ∧ OpE Y op ss x y M2 P) (so.go t1) (fun w G2 H2 M2 y t r p => ⟨G2, M2, y, t, r, p⟩) pins s1 I1) fun u' s2 ⟨w, H2, I2, rw, G2, M2, y, t2, r2, op2⟩ =>
      op2.run pins s2 σ B G2 H2 Q v w u u' ((so.go t1).go t2) I2 (r1.mono t2.gg) r2 rv rw fun v' G' H' M' d t r p => k v' G' H' M' d ((t1.trans t2).trans t) r p)
/-- the method is called with both -/
theorem ko_call (F : KO Y.X.prog Y.X.w Y.X.K Y.X.mg Y.X.base k C m 2 S) (hg : Y.X.A.guards = some []) (hr : Room k Y.X.A) {pins : List (Addr × Obj)} {s : Shared} {σ : L2.St} {B : Bs} {G H : Hp} {Q : VK} {v w : V} {u u' : Value} (so : StOk Y B σ G H M ss) (I : Inv Y.X pins σ H s)
    (r1 : Is Y.X.K G v x) (r2 : Is Y.X.K G w y) (rv : RelV v u) (rw' : RelV w u') (kq : Kon Y G H M P Q) (h : S [x, y] M P fun C gs M' => Y.EE C gs M' ss) :
    ∃ f, PySem.W.findIn Y.X.K (.ref C) m = some (some (.ref f)) ∧ PySem.W.isFn Y.X.K (.ref f) = true ∧ wpAny (model Y.X.prog Y.X.w) Y.X.A (call (.ref f) [u, u']) (PySem.W.CmpBack (EP Y.X pins σ Q)) Y.X.xe s := by
  obtain ⟨f, fd, ps, F, b, c, mt⟩ := F
  obtain ⟨W, tk, hsp⟩ := sp_at so (.cons r1 (.cons r2 .nil)) h kq
  refine ⟨f, mt.at_, mt.fn, wpAny_call (codeAny_mono (F.run Y.X.A Y.X.stack s H ⟨[u, u'], []⟩ [u, u'] [v, w] Q _ hg hr I.env0 (b s [u, u'] rfl) (.cons rv (.cons rw' .nil)) hsp) fun res s2 hq => ?_)⟩
  have z := end_call tk I hq
  match res, z with
  | .error e, z => exact z
  | .ok .next, z => exact z.elim
  | .ok .brk, z => exact z.elim
  | .ok .cont, z => exact z.elim
  | .ok (.ret r), z =>
    have z : EP Y.X pins σ Q r s2 := z
    obtain ⟨v2, H2, I2, rv2, q2⟩ := z
    have ne := relv_ni rv2
    cases r <;> first | exact absurd rfl ne | exact ⟨v2, H2, I2, rv2, q2⟩
/-- what & asks of an own class beside a built-in kind -/
structure AndT (K : PySem.W.Frag) (C : Addr) : Prop where
  sf : PySem.W.selfFirst K C = true
  nr : PySem.W.findIn K (.ref C) (dunderR "and") = some none
  tl : ∀ T ∈ ["tuple", "list"], PySem.W.findIn K (.type T) (dunder "and") = some none ∧ PySem.W.findIn K (.type T) (dunderR "and") = some none
  pu : ∀ T ∈ ["NoneType", "bool", "int", "str"], (∃ fo, PySem.W.findIn K (.type T) (dunder "and") = some fo) ∧ (∃ ro, PySem.W.findIn K (.type T) (dunderR "and") = some ro) ∧ PySem.W.subIn K (.type T) (.ref C) = some false
def andTB (K : PySem.W.Frag) (C : Addr) : Bool := PySem.W.selfFirst K C && (He.eqO (PySem.W.findIn K (.ref C) (dunderR "and")) (some none) && ((["tuple", "list"].all fun T => He.eqO (PySem.W.findIn K (.type T) (dunder "and")) (some none) && He.eqO (PySem.W.findIn K (.type T) (dunderR "and")) (some none)) &&
  ["NoneType", "bool", "int", "str"].all fun T => (PySem.W.findIn K (.type T) (dunder "and")).isSome && ((PySem.W.findIn K (.type T) (dunderR "and")).isSome && decide (PySem.W.subIn K (.type T) (.ref C) = some false))))
theorem andTB_ok {K : PySem.W.Frag} {C : Addr} (h : andTB K C = true) : AndT K C := by
  obtain ⟨h1, h2⟩ := Bool.and_eq_true_iff.mp h
  obtain ⟨h2, h3⟩ := Bool.and_eq_true_iff.mp h2
  obtain ⟨h3, h4⟩ := Bool.and_eq_true_iff.mp h3
  refine ⟨h1, He.eqO_ok h2, fun T hT => ?_, fun T hT => ?_⟩
  · obtain ⟨a, b⟩ := Bool.and_eq_true_iff.mp (List.all_eq_true.mp h3 T hT)
    exact ⟨He.eqO_ok a, He.eqO_ok b⟩
  · obtain ⟨a, b⟩ := Bool.and_eq_true_iff.mp (List.all_eq_true.mp h4 T hT)
    obtain ⟨b, c⟩ := Bool.and_eq_true_iff.mp b
    exact ⟨Option.isSome_iff_exists.mp a, Option.isSome_iff_exists.mp b, of_decide_eq_true c⟩
theorem and_T {A : Around} {E : Value → Shared → Prop} {s : Shared} {K : PySem.W.Frag} {x C L f : Addr} {h₀ : Heap} {m : Str → Option Value} {ox : Obj} {od : Option Obj} {prog : Program} {w : World} {b : Value} {cd : ClassData} {rest : List Value} {T : String} {Q : Value → Shared → Prop} (F : Fr h₀ L s.heap m) (X0 : K.In h₀) (J : PySem.W.InstAt s.heap x ox C od) (hb : PySem.W.Looks (model prog w) s.heap (typeOf b) (.type T))
    (hc : PySem.W.clsIn K C = some cd) (hcm : cd.mro = .ref C :: rest) (hf : PySem.W.findIn K (.ref C) (dunder "and") = some (some (.ref f))) (hfn : PySem.W.isFn K (.ref f) = true)
    (h1 : PySem.W.findIn K (.type T) (dunder "and") = some none) (h2 : PySem.W.findIn K (.type T) (dunderR "and") = some none)
    (h : wpAny (model prog w) A (call (.ref f) [.ref x, b]) (PySem.W.CmpBack Q) E s) : wpAny (model prog w) A (binaryOp .BitAnd (.ref x) b) Q E s := by
  have X : K.In s.heap := X0.keeps F.keep
  unfold binaryOp
  refine wpAny_holding ?_
  show wpAny (model prog w) A (binaryOp1 "and" (.ref x) b >>= _) Q E s
  refine wpAny_bind ?_
  unfold binaryOp1
  refine wpAny_bind (J.type.here ?_)
  refine wpAny_bind (hb.here ?_)
  refine wpAny_bind ((PySem.W.fills_K X hc hcm hf).here ?_)
  rw [if_neg (by simp)]
  have no : PySem.W.Looks (model prog w) s.heap (fillsNumberSlot (.type T) "and") false := PySem.W.ksp_fillsT X h1 h2
  refine wpAny_bind (no.here ?_)
  simp only [Bool.and_false, Bool.false_and, Bool.false_eq_true, if_false, if_true]
  refine wpAny_bind (wpAny_pure ?_)
  simp only [Bool.false_eq_true, if_false, if_true]
  unfold tryMethod
  have hft : PySem.W.typeIn K (.ref f) = some (.type "function") := by simpa [PySem.W.isFn] using hfn
  refine wpAny_bind (wpAny_bind (PySem.W.special_fn X J hf hft ?_))
  refine wpAny_mono h ?_ (fun _ _ e => e)
  intro v s' hv
  cases v <;> first | exact hv.elim | exact wpAny_pure (wpAny_pure (wpAny_pure hv))
theorem first_mro {K : PySem.W.Frag} {C : Addr} (h : PySem.W.selfFirst K C = true) : ∃ cd rest, PySem.W.clsIn K C = some cd ∧ cd.mro = .ref C :: rest := PySem.W.ksp_first h
/-- how y's class stands to x's -/
inductive Beside (K : PySem.W.Frag) (C : Addr) : D → Prop
  | same {fs : List (Str × D)} (h : ClsI K C) : Beside K C (.obj C fs)
  | other {R : Addr} {fs : List (Str × D)} (h : ClsI K R) (a : AndC K C R) : Beside K C (.obj R fs)
  | kind {d : D} (h : known d = true) : Beside K C d
/-- x & y by x's own __and__ -/
theorem o_andX (F : KO Y.X.prog Y.X.w Y.X.K Y.X.mg Y.X.base k C "__and__" 2 S) (hg : Y.X.A.guards = some []) (hr : Room k Y.X.A) (at_ : AndT Y.X.K C) (hx : OAt M x C fs) (hy : Beside Y.X.K C y) (h : S [x, y] M P fun C gs M' => Y.EE C gs M' ss) : OpE Y .BitAnd ss x y M P := .mk fun pins s σ B G H Q v w u u' so I r1 r2 rv rw' kq => by
  obtain ⟨f, hf, hfn, go⟩ := ko_call F hg hr so I r1 r2 rv rw' kq h
  obtain ⟨a, dx, vs, rfl, ha, _⟩ := hx.get so.w r1
  obtain rfl : u = Value.ref a := rv
  obtain ⟨ox, od, J⟩ := inst_of I ha
  obtain ⟨mm, Fm⟩ := I.fr
  have ty : ∀ {t : Value}, TyD Y.X.K y t → PySem.W.Looks (model Y.X.prog Y.X.w) s.heap (typeOf u') t := fun {t} z => by
    obtain ⟨Pr, kx, hp, _⟩ := kit_of I rw' (z.is so.gh r2)
    exact kx.ty _ _ I.kIn hp
  cases hy with
  | same c => exact PySem.W.binop_K (op := .BitAnd) Fm I.mod.kin J (ty ⟨rfl, c⟩) at_.sf hf hfn go
  | other c ac =>
    obtain ⟨cd, rest, c1, c2⟩ := ac.c1
    obtain ⟨rd, e1, e2⟩ := ac.r1
    exact and_K Fm I.mod.kin J (ty ⟨rfl, c⟩) ac.ne c1 c2 hf hfn e1 e2 ac.h1 ac.h2 ac.h3 ac.h4 go
  | kind hk =>
    obtain ⟨cd, rest, c1, c2⟩ := first_mro at_.sf
    have pure_ : ∀ T, T ∈ ["NoneType", "bool", "int", "str"] → typeOf u' = pure (.type T) → wpAny (model Y.X.prog Y.X.w) Y.X.A (binaryOp .BitAnd (.ref a) u') (EP Y.X pins σ Q) Y.X.xe s := fun T hT e => by
      obtain ⟨⟨fo, h1⟩, ⟨ro, h2⟩, h3⟩ := at_.pu T hT
      exact PySem.W.ksp_binT (op := .BitAnd) Fm I.mod.kin J e at_.sf hf hfn at_.nr (.inl rfl) h1 h2 h3 go
    cases y with
    | non => cases r2; cases (show u' = Value.none from rw'); exact pure_ "NoneType" (by simp) rfl
    | bl z => cases r2; cases (show u' = Value.bool z from rw'); exact pure_ "bool" (by simp) rfl
    | int z => cases r2; obtain ⟨t, q⟩ := (show ∃ t, u' = Value.int z t from rw'); cases q; exact pure_ "int" (by simp) rfl
    | str z => cases r2; obtain ⟨t, q⟩ := (show ∃ t, u' = Value.str z t from rw'); cases q; exact pure_ "str" (by simp) rfl
    | tup ds => exact and_T Fm I.mod.kin J (ty (known_ty hk)) c1 c2 hf hfn (at_.tl "tuple" (by simp)).1 (at_.tl "tuple" (by simp)).2 go
    | lst ds => exact and_T Fm I.mod.kin J (ty (known_ty hk)) c1 c2 hf hfn (at_.tl "list" (by simp)).1 (at_.tl "list" (by simp)).2 go
    | _ => cases hk
/-- x == y, both of one own class -/
theorem o_eqK (F : KO Y.X.prog Y.X.w Y.X.K Y.X.mg Y.X.base k C "__eq__" 2 S) (hg : Y.X.A.guards = some []) (hr : Room k Y.X.A) (hx : OAt M x C fs) (hy : OAt M y C gs) (h : S [x, y] M P fun _ _ _ => False) : Op2 Y (compareOp .Eq) x y M P := by
  obtain ⟨f, fd, ps, F, b, c, mt⟩ := F
  refine ⟨fun u v H Q => ∃ a dx fs b dy gs, u = .ref a ∧ v = .ref b ∧ H a = some (.ins C dx fs) ∧ H b = some (.ins C dy gs) ∧ spD Y.X.K S [u, v] H Q E0, ?_, fun G H u v Q w r1 r2 kq => ?_⟩
  · intro pins s σ H u v u' v' Q I r1 r2 h
    obtain ⟨a, dx, fs, b2, dy, gs, rfl, rfl, ha, hb', h⟩ := h
    obtain rfl : u' = Value.ref a := r1
    obtain rfl : v' = Value.ref b2 := r2
    obtain ⟨ox, od, J⟩ := inst_of I ha
    obtain ⟨oy, od2, J2⟩ := inst_of I hb'
    obtain ⟨mm, Fm⟩ := I.fr
    show wpAny (model Y.X.prog Y.X.w) Y.X.A (richCompare .Eq (.ref a) (.ref b2)) (EP Y.X pins σ Q) Y.X.xe s
    refine PySem.W.cmp_K (op := .Eq) (tb := .ref C) hr.units0 Fm I.mod.kin J J2.type (by simp [PySem.W.notFirst]) mt.at_ mt.fn ?_
    refine wpAny_call (codeAny_mono (F.run Y.X.A Y.X.stack s H ⟨[.ref a, .ref b2], []⟩ [.ref a, .ref b2] [.ref a, .ref b2] _ E0 hg hr I.env0 (b s [.ref a, .ref b2] rfl) (.cons rfl (.cons rfl .nil)) h) fun res s2 hq => ?_)
    match res, hq with
    | .error e, hq => exact passL pins σ H s e s2 I hq
    | .ok .next, hq => exact False.elim hq
    | .ok .brk, hq => exact False.elim hq
    | .ok .cont, hq => exact False.elim hq
    | .ok (.ret r), hq =>
      obtain ⟨v2, H2, I2, rv2, q2⟩ := I.after hq
      have ne := relv_ni rv2
      cases r <;> first | exact absurd rfl ne | exact ⟨v2, H2, I2, rv2, q2⟩
  · obtain ⟨a, dx, vs, rfl, h1, _⟩ := hx.get w r1
    obtain ⟨b2, dy, ws, rfl, h2, _⟩ := hy.get w r2
    exact ⟨a, dx, vs, b2, dy, ws, rfl, rfl, h1, h2, G, M, [x, y], P, _, w, .cons r1 (.cons r2 .nil), h, fun v G' H' M' d t ri q => kq _ _ _ _ _ t ri q, fun C gs fs d G' H' M' M2 ee => ee.elim⟩
/-- ~x -/
theorem o_invK (F : KO Y.X.prog Y.X.w Y.X.K Y.X.mg Y.X.base k C "__invert__" 1 S) (hg : Y.X.A.guards = some []) (hr : Room k Y.X.A) (hx : OAt M x C fs) (h : S [x] M P fun _ _ _ => False) : Op1 Y (unaryOp .Invert) x M P := by
  obtain ⟨f, fd, ps, F, b, c, mt⟩ := F
  refine ⟨fun u H Q => ∃ a dx fs, u = .ref a ∧ H a = some (.ins C dx fs) ∧ spD Y.X.K S [u] H Q E0, ?_, fun G H u Q w r1 kq => ?_⟩
  · intro pins s σ H u u' Q I r1 h
    obtain ⟨a, dx, fs, rfl, ha, h⟩ := h
    obtain rfl : u' = Value.ref a := r1
    obtain ⟨ox, od, J⟩ := inst_of I ha
    obtain ⟨mm, Fm⟩ := I.fr
    refine PySem.W.ksp_inv Fm I.mod.kin J mt.at_ mt.fn ?_
    refine wpAny_call (codeAny_mono (F.run Y.X.A Y.X.stack s H ⟨[.ref a], []⟩ [.ref a] [.ref a] _ E0 hg hr I.env0 (b s [.ref a] rfl) (.cons rfl .nil) h) fun res s2 hq => ?_)
    match res, hq with
    | .error e, hq => exact passL pins σ H s e s2 I hq
    | .ok .next, hq => exact False.elim hq
    | .ok .brk, hq => exact False.elim hq
    | .ok .cont, hq => exact False.elim hq
    | .ok (.ret r), hq => exact I.after hq
  · obtain ⟨a, dx, vs, rfl, h1, _⟩ := hx.get w r1
    exact ⟨a, dx, vs, rfl, h1, G, M, [x], P, _, w, .cons r1 .nil, h, fun v G' H' M' d t ri q => kq _ _ _ _ _ t ri q, fun C gs fs d G' H' M' M2 ee => ee.elim⟩
end
end JQ

set_option Elab.async false
set_option linter.all false
set_option maxRecDepth 100000
set_option maxHeartbeats 2000000
/-! # calls where defaults stand in, with keywords or without -/
namespace JQ
open PySem PySem.Spec PyProof.Rows L2
theorem bndK {K : PySem.W.Frag} {x qual : Str} {params : Arguments} {body : List Stmt} {scope : Scope} {dvs : List V} {f : Addr} {fd : FuncData} {ps : List Str} (F : FunD K x qual params body scope dvs [] f fd) (hd : dvs ≠ []) (n : Nat) (ks : List Str) (dd : List D) (hdd : ∀ G, Iss K G dvs dd)
    (g : {α : Type} → List α → List α → List α → List α)
    (hv : ∀ {vs zs : List V} {us its ws : List Value}, Vals vs us → Vals dvs its → Vals zs ws → Vals (g vs dvs zs) (g us its ws)) (hi : ∀ {G : Hp} {vs zs : List V} {ds es : List D}, Iss K G vs ds → Iss K G zs es → Iss K G (g vs dvs zs) (g ds dd es))
    (h : ∀ (T : Addr) (kV doc pm : Value) (an : Option Addr) (cdv ct : Value) (us its ws : List Value), us.length = n → its.length = dvs.length → ws.length = ks.length →
      ∃ k, bindArgs (PySem.W.fnOf x qual params body scope (.ref T) kV doc pm an cdv ct) ⟨us, ks.zip ws⟩ = seqItems? (.ref T) >>= k ∧ k (some its.toArray) = pure (ps.zip (g us its ws))) : Bnd K fd ps n ks fun ds zs => g ds dd zs := by
  obtain ⟨oc, od, dV, kV, doc, pm, an, cdv, ct, osl, rfl, lk, hcd, hD, hK⟩ := F.ex
  rcases hD with ⟨e, _⟩ | ⟨_, T, o, its, m, rfl, lT, oT, rT⟩
  · exact absurd e hd
  · refine ⟨fun us ws => g us its ws, fun vs ys => g vs dvs ys, fun s us ws X h1 h2 => ?_, fun vs us ys ws r1 r2 => hv r1 rT r2, fun G vs ds ys zs r1 r2 => hi r1 r2⟩
    obtain ⟨k, e1, e2⟩ := h T kV doc pm an cdv ct us its ws h1 rT.length.symm h2
    refine BindsTo.of_looks fun M => ?_
    rw [e1]
    exact looks_items X lT oT (.of_pure e2)
/-- an empty tuple that stands as a default -/
def emTB (K : PySem.W.Frag) (a : Addr) : Bool := match K.lookup a with
  | some ⟨.type c, _, .seq its _, _⟩ => decide (c = "tuple") && its.toList.isEmpty
  | _ => false
theorem emTB_ok {K : PySem.W.Frag} {a : Addr} (h : emTB K a = true) (H : Hp) : SqT K H a [] := by
  unfold emTB at h
  split at h
  · next c d its n sl e =>
    obtain ⟨h1, h2⟩ := Bool.and_eq_true_iff.mp h
    have h3 : its.toList = [] := List.isEmpty_iff.mp h2
    refine .inr ⟨_, its, n, e, congrArg Value.type (of_decide_eq_true h1), rfl, ?_, ?_⟩
    · have : its.size = 0 := by rw [← Array.length_toList, h3]; rfl
      rw [this]
      exact Nat.zero_le _
    · rw [h3]
      exact .nil
  · cases h
theorem iss_em {K : PySem.W.Frag} {a : Addr} (h : ∀ H, SqT K H a []) (G : Hp) : Iss K G [.ref a] [.tup []] := .cons (.tup (h G) .nil) .nil
/-- a call of an own class whose instance is data at once, where defaults stand in or keywords are written -/
def KNg (P : Program) (w : World) (K : PySem.W.Frag) (mg : Str → Option Value) (base : Heap) (k : Nat) (x : Str) (C : Addr) (n : Nat) (ks : List Str) (S' : List D → List D → Mm → (D → Mm → Prop) → EEx → Prop) : Prop := ∃ (S : Sd) (f : Addr) (fd : FuncData) (ps : List Str) (g : List D → List D → List D), FnG P w K mg base k f fd ps (spD K S) ∧ Bnd K fd ps (n + 1) ks g ∧ Mk K C f ∧ mg x = some (.ref C) ∧
  ∀ a ds zs M P' EE, M a = none → S' ds zs M P' EE → S (g (.rf a :: ds) zs) (mup M a (.ins C [])) (fun v M' => v = .non ∧ ∃ a', D.rf a = .rf a' ∧ ∃ C' fs, M' a' = some (.ins C' fs) ∧ P' (.obj C' fs) (mdel M' a')) EE
section
variable {Y : Bd} {M : Mm} {P : D → Mm → Prop} {ss : List S} {e : Expr} {es : List Expr} {kws : List Keyword} {pos p : Pos} {k n : Nat} {x : Str} {C : Addr} {ks : List Str} {S' : List D → List D → Mm → (D → Mm → Prop) → EEx → Prop}
theorem we_newG (F : KNg Y.X.prog Y.X.w Y.X.K Y.X.mg Y.X.base k x C n [] S') (hg : Y.X.A.guards = some []) (hr : Room (k + 1) Y.X.A) (h : WA Y (e :: es) ss M fun ds M => ds.length = n ∧ S' ds [] M P fun C gs M' => Y.EE C gs M' ss)
    (gl : Gl Y.X x := by rfl) (hdb : (x == ("__debug__" : Str)) = false := by decide) (he : starEach (e :: es) Y.X.env = (false, eval e Y.X.env) :: starEach es Y.X.env := by rfl) (hpl : (backTo pos (starEach es Y.X.env)).any (·.1) = false := by rfl) : WE Y (.Call (.Name x p) (e :: es) [] pos) ss M P := by
  obtain ⟨S, f, fd, ps, g, G, b, mk, hm, hS⟩ := F
  refine we_frzO (we_call hm mk.kp ?_ gl hdb he hpl)
  exact .mk fun B σ G0 H Q so kq => h B σ G0 H Q so fun vs G' H' M' ds t r ⟨hl, q⟩ => kq vs G' H' M' ds t r (cal_mk mk G hg hr b (fun a ha => hS a ds [] M' P _ ha q) (by rw [hl]) rfl)
theorem we_newK0 (F : KNg Y.X.prog Y.X.w Y.X.K Y.X.mg Y.X.base k x C 0 ks S') (hg : Y.X.A.guards = some []) (hr : Room (k + 1) Y.X.A) (h : WK Y kws ss M fun zs M => zs.length = ks.length ∧ S' [] zs M P fun C gs M' => Y.EE C gs M' ss)
    (gl : Gl Y.X x := by rfl) (hall : (backToKw pos (keywordEach kws Y.X.env)).all (·.1.isSome) = true := by rfl) (hks : (backToKw pos (keywordEach kws Y.X.env)).filterMap (·.1) = ks := by rfl) (hdb : (x == ("__debug__" : Str)) = false := by decide)
    (hpl : ((backTo pos (starEach [] Y.X.env)).any (·.1) || (backToKw pos (keywordEach kws Y.X.env)).any (·.1.isNone)) = false := by rfl) : WE Y (.Call (.Name x p) [] kws pos) ss M P := by
  obtain ⟨S, f, fd, ps, g, G, b, mk, hm, hS⟩ := F
  refine we_frzO (we_callK0 (ks := ks) hm mk.kp ?_ gl hall hks hdb hpl)
  exact .mk fun B σ G0 H Q so kq => h B σ G0 H Q so fun vs G' H' M' ds t r ⟨hl, q⟩ => kq vs G' H' M' ds t r (cal_mk mk G hg hr b (fun a ha => hS a [] ds M' P _ ha q) rfl hl)
end
/-- a list of any things beside the empty one -/
theorem op_neL0 {X : Cx} (hu : X.A.units < cLine) : OpR X (compareOp .NotEq) fun x y H Q => ∃ a b xs, x = V.ref a ∧ y = V.ref b ∧ SqL X.K H a xs ∧ xs ≠ [] ∧ SqL X.K H b [] ∧ Q (.bl true) H := by
  intro pins s σ H x y v u Q I rx ry h
  obtain ⟨a, b, xs, rfl, rfl, ha, hne, hb, q⟩ := h
  obtain rfl : v = Value.ref a := rx
  obtain rfl : u = Value.ref b := ry
  obtain ⟨its, rv, ⟨o, n, p1, p2, p3, p4⟩, _⟩ := I.list ha
  obtain ⟨its2, rv2, ⟨o2, n2, p5, p6, p7, p8⟩, _⟩ := I.list hb
  cases rv2
  refine PySem.SeqAt.RcNeAt.lists_lengths (items := its.toArray) (items2 := #[]) ⟨o, p1, p2, n, p4⟩ ⟨o2, p5, p6, n2, p8⟩ ?_ hu X.prog X.w X.xe _ ⟨.bl true, H, I, rfl, q⟩
  have hl := rv.length
  cases its with
  | nil =>
    cases xs with
    | nil => exact absurd rfl hne
    | cons x xs => cases hl
  | cons y ys => simp
theorem o_neL0 {Y : Bd} {M : Mm} {P : D → Mm → Prop} {x : D} {ds : List D} (hu : Y.X.A.units < cLine) (hne : ds ≠ []) (hx : LAt M x ds) (q : P (.bl true) M) : Op2 Y (compareOp .NotEq) x (.lst []) M P :=
  ⟨_, op_neL0 hu, fun G H vx vy Q w rx ry k => by
    obtain ⟨a, vs, rfl, ha, r⟩ := hx.get w rx
    cases ry with
    | lst hy r2 =>
      cases r2
      refine ⟨_, _, vs, rfl, rfl, SqL.of ha, fun z => ?_, SqL.of (w.gh _ _ hy), k _ _ _ _ _ w.refl (.bl _) q⟩
      subst z
      cases r
      exact hne rfl⟩
end JQ

set_option Elab.async false
set_option linter.all false
set_option maxRecDepth 100000
set_option maxHeartbeats 1000000
/-! # == of data with itself -/
namespace JQ
open PySem PySem.Spec PyProof.Rows L2
mutual
theorem eqv_self : ∀ d : D, PyData.eqv (pyD d) (pyD d) = true
  | .non => by simp [pyD, PyData.eqv]
  | .bl b => by simp [pyD, PyData.eqv]
  | .int i => by simp [pyD, PyData.eqv]
  | .str x => by simp [pyD, PyData.eqv]
  | .tup ds => by simpa [pyD, PyData.eqv] using eqvs_self ds
  | .lst ds => by simpa [pyD, PyData.eqv] using eqvs_self ds
  | .obj _ _ => by simp [pyD, PyData.eqv]
  | .adr _ => by simp [pyD, PyData.eqv]
  | .scr _ => by simp [pyD, PyData.eqv]
  | .clo _ _ => by simp [pyD, PyData.eqv]
theorem eqvs_self : ∀ ds : List D, PyData.eqvAll (pyDs ds) (pyDs ds) = true
  | [] => by simp [pyDs, PyData.eqvAll]
  | d :: ds => by simp [pyDs, PyData.eqvAll, eqv_self d, eqvs_self ds]
end
mutual
/-- its texts can be laid -/
def layD : D → Bool
  | .str x => PyData.strOk x
  | .tup ds => layDs ds
  | .lst ds => layDs ds
  | _ => true
def layDs : List D → Bool
  | [] => true
  | d :: ds => layD d && layDs ds
end
mutual
theorem lay_self : ∀ d : D, layD d = true → PyData.canLay0 (pyD d) = true
  | .non, _ => by simp [pyD, PyData.canLay0]
  | .bl b, _ => by simp [pyD, PyData.canLay0]
  | .int i, _ => by simp [pyD, PyData.canLay0]
  | .str x, h => by
    have h : PyData.strOk x = true := h
    simpa [pyD, PyData.canLay0] using h
  | .tup ds, h => by simpa [pyD, PyData.canLay0] using lays_self ds h
  | .lst ds, h => by simpa [pyD, PyData.canLay0] using lays_self ds h
  | .obj _ _, _ => by simp [pyD, PyData.canLay0]
  | .adr _, _ => by simp [pyD, PyData.canLay0]
  | .scr _, _ => by simp [pyD, PyData.canLay0]
  | .clo _ _, _ => by simp [pyD, PyData.canLay0]
theorem lays_self : ∀ ds : List D, layDs ds = true → PyData.canLayAll0 (pyDs ds) = true
  | [], _ => by simp [pyDs, PyData.canLayAll0]
  | d :: ds, h => by
    obtain ⟨h1, h2⟩ := Bool.and_eq_true_iff.mp h
    simp [pyDs, PyData.canLayAll0, lay_self d h1, lays_self ds h2]
end
theorem lay_all : ∀ {ds : List D}, (∀ d ∈ ds, layD d = true) → layDs ds = true
  | [], _ => rfl
  | d :: ds, h => by
    show (layD d && layDs ds) = true
    rw [h d List.mem_cons_self, lay_all fun x hx => h x (List.mem_cons_of_mem _ hx)]
    rfl
theorem shaped_dep {d : D} (l : layD d = true) (h : (pyD d).depth ≤ 30) : SeqAt.shaped (pyD d) = true := by
  unfold SeqAt.shaped
  rw [Bool.and_eq_true]
  exact ⟨lay_self d l, decide_eq_true (by omega)⟩
theorem depth_all {k : Nat} : ∀ {ds : List D}, (∀ d ∈ ds, (pyD d).depth ≤ k) → PyData.depthAll (pyDs ds) ≤ k
  | [], _ => by simp [pyDs, PyData.depthAll]
  | d :: ds, h => by
    have a := h d List.mem_cons_self
    have b := depth_all fun x hx => h x (List.mem_cons_of_mem _ hx)
    simp only [pyDs, PyData.depthAll]
    omega
theorem depth_lst {k : Nat} {ds : List D} (h : ∀ d ∈ ds, (pyD d).depth ≤ k) : (pyD (.lst ds)).depth ≤ k + 1 := by
  have := depth_all h
  simp only [pyD, PyData.depth]
  omega
theorem depth_tup {k : Nat} {ds : List D} (h : ∀ d ∈ ds, (pyD d).depth ≤ k) : (pyD (.tup ds)).depth ≤ k + 1 := by
  have := depth_all h
  simp only [pyD, PyData.depth]
  omega
theorem plain_all : ∀ {ds : List D}, (∀ d ∈ ds, plainD d = true) → plainDs ds = true
  | [], _ => rfl
  | d :: ds, h => by
    show (plainD d && plainDs ds) = true
    rw [h d List.mem_cons_self, plain_all fun x hx => h x (List.mem_cons_of_mem _ hx)]
    rfl
section
variable {Y : Bd} {M : Mm} {P : D → Mm → Prop} {x y : D}
theorem o_eqSame (hu : Y.X.A.units + 64 < cLine) (e : x = y) (hp : plainD x = true) (hl : layD x = true) (hd : (pyD x).depth ≤ 30) (q : P (.bl true) M) : Op2 Y (compareOp .Eq) x y M P := by
  subst e
  exact o_eqC true hu hp hp (shaped_dep hl hd) (shaped_dep hl hd) (eqv_self x) q
theorem o_neSame (hu : Y.X.A.units + 64 < cLine) (e : x = y) (hp : plainD x = true) (hl : layD x = true) (hd : (pyD x).depth ≤ 30) (q : P (.bl false) M) : Op2 Y (compareOp .NotEq) x y M P := by
  subst e
  exact o_neC true hu hp hp (shaped_dep hl hd) (shaped_dep hl hd) (eqv_self x) q
end
/-- repr of True, False -/
theorem cr_reprB {X : Cx} : CallR X (.builtin "repr") fun vs H Q => ∃ b : Bool, vs = [.bl b] ∧ Q (.str (if b then "True" else "False")) H := by
  intro pins s σ H vs us Q I r h
  obtain ⟨b, rfl, q⟩ := h
  cases r with
  | @cons _ u _ us' h1 h2 =>
    cases h2
    obtain rfl : u = Value.bool b := h1
    exact PySem.P.repr_of_bool ⟨.str _, H, I.tok _, ⟨_, rfl⟩, q⟩
theorem c_reprB {Y : Bd} {M : Mm} {P : D → Mm → Prop} {b : Bool} (q : P (.str (if b then "True" else "False")) M) : OpC Y (.builtin "repr") [.bl b] M P :=
  ⟨_, cr_reprB, fun G H vs Q st r k => by
    obtain ⟨v, rfl, h⟩ := iss_one r
    cases h
    exact ⟨b, rfl, k _ _ _ _ _ st.refl (.str _) q⟩⟩
end JQ

set_option Elab.async false
set_option linter.all false
set_option maxRecDepth 100000
set_option maxHeartbeats 1000000
/-! # f-strings; str(x) of an own instance -/
namespace JQ
open PySem PySem.Spec PyProof.Rows L2
open Evl (Ex)
/-- a part's reading -/
def fpE (X : Cx) : Expr → TE
  | .FormattedValue e (-1) none _ => tFmt (wE X e)
  | e => wE X e
theorem pj_all {X : Cx} : ∀ es : List Expr, PJ X es (es.map (fpE X))
  | [] => .nil
  | e :: es => .cons (by
      unfold fpE
      split
      · exact pe_fmt pe_w
      · exact pe_w) (pj_all es)
theorem fpE_fmt {X : Cx} {e : Expr} {pos : Pos} : fpE X (.FormattedValue e (-1) none pos) = tFmt (wE X e) := by simp only [fpE]
structure WJ (Y : Bd) (es : List Expr) (ss : List S) (M : Mm) (acc : Str) (P : Str → Mm → Prop) : Prop where
  run : ∀ B σ G H (Q : Str → Hp → Prop), StOk Y B σ G H M ss → (∀ out G' H' M', Tr Y.X.K G H M G' H' M' → P out M' → Q out H') → tJs (es.map (fpE Y.X)) acc σ H Q
section
variable {Y : Bd} {ss : List S} {M : Mm} {acc : Str} {P : Str → Mm → Prop} {e : Expr} {es : List Expr} {pos : Pos}
theorem wj_nil (q : P acc M) : WJ Y [] ss M acc P := ⟨fun B σ G H Q st k => k _ _ _ _ st.refl q⟩
theorem wj_txt (h : WE Y e ss M fun x M => ∃ y : Str, x = .str y ∧ (acc ++ y).length ≤ sizeLine ∧ WJ Y es ss M (acc ++ y) P) (he : fpE Y.X e = wE Y.X e := by rfl) : WJ Y (e :: es) ss M acc P := ⟨fun B σ G H Q st k => by
  show fpE Y.X e σ H _
  rw [he]
  refine h _ _ _ _ _ st fun v1 G1 H1 M1 x g1 r1 ⟨y, ex, hz, h1⟩ => ?_
  subst ex
  cases r1
  exact ⟨y, rfl, hz, h1.run _ _ _ _ _ (st.go g1) fun out G' H' M' g p => k _ _ _ _ (g1.trans g) p⟩⟩
theorem wj_int (h : WE Y e ss M fun x M => ∃ i : Int, x = .int i ∧ i.natAbs.log2 < 1920 ∧ (acc ++ (toString i : Str)).length ≤ sizeLine ∧ WJ Y es ss M (acc ++ (toString i : Str)) P) : WJ Y (.FormattedValue e (-1) none pos :: es) ss M acc P := ⟨fun B σ G H Q st k => by
  show fpE Y.X (.FormattedValue e (-1) none pos) σ H _
  rw [fpE_fmt]
  refine h _ _ _ _ _ st fun v1 G1 H1 M1 x g1 r1 ⟨i, ex, hi, hz, h1⟩ => ?_
  subst ex
  cases r1
  exact .inr ⟨i, rfl, hi, _, rfl, hz, h1.run _ _ _ _ _ (st.go g1) fun out G' H' M' g p => k _ _ _ _ (g1.trans g) p⟩⟩
end
theorem we_fstr {Y : Bd} {ss : List S} {M : Mm} {P : D → Mm → Prop} {v1 v2 : Expr} {rest : List Expr} {pos : Pos} (h : WJ Y (v1 :: v2 :: rest) ss M Str.empty fun out M => P (.str out) M) : WE Y (.JoinedStr (v1 :: v2 :: rest) pos) ss M P :=
  we_pe (pe_joined (pj_all _)) fun B σ G H Q st k => h.run _ _ _ _ _ st fun out G' H' M' g p => k _ _ _ _ _ g (.str out) p
/-! ### str(x) -/
section
variable {C f : Addr} {fd : FuncData} {ps : List Str} {k : Nat}
def rStrO (X : Cx) (C : Addr) (sp : Sp) : List V → Hp → VK → Prop := fun vs H Q => ∃ a dx fs, vs = [.ref a] ∧ H a = some (.ins C dx fs) ∧ sp vs H (fun v H' => ∃ y : Str, v = .str y ∧ Q (.str y) H') E0
theorem cr_strO {X : Cx} {sp : Sp} (hm : Meth X.K C "__str__" f) (F : FnG X.prog X.w X.K X.mg X.base k f fd ps sp) (hg : X.A.guards = some []) (hr : Room (k + 2) X.A) (hb : ∀ (s : Shared) us, X.K.In s.heap → us.length = 1 → BindsTo s fd ⟨us, []⟩ (ps.zip us)) : CallR X (.type "str") (rStrO X C sp) := by
  intro pins s σ H vs us Q I r h
  obtain ⟨a, dx, fs, rfl, ha, h⟩ := h
  cases r with
  | @cons _ u _ us' h1 h2 =>
    cases h2
    obtain rfl : u = Value.ref a := h1
    obtain ⟨ox, od, J⟩ := inst_of I ha
    refine PySem.W.kso_call ?_ I.kIn J hm.at_ hm.fn ?_
    · have := hr.un
      show X.A.units + 1 + 1 < cLine
      omega
    refine wpAny_call (codeAny_mono (F.run X.A.in1.in1 X.stack s H ⟨[.ref a], []⟩ [.ref a] [.ref a] _ E0 hg hr.in1.in1 I.env0.in1.in1 (hb s [.ref a] I.kIn rfl) (.cons rfl .nil) h) fun res s2 hq => ?_)
    match res, hq with
    | .error e, hq => exact passL pins σ H s e s2 I hq
    | .ok (.ret u), hq =>
      obtain ⟨z, H', I3, rv, y, ez, q⟩ := I.after hq
      subst ez
      obtain ⟨t, rfl⟩ := rv
      exact ⟨.str y, H', I3, ⟨t, rfl⟩, q⟩
    | .ok .next, hq => exact False.elim hq
    | .ok .brk, hq => exact False.elim hq
    | .ok .cont, hq => exact False.elim hq
end
section
variable {Y : Bd} {M : Mm} {P : D → Mm → Prop} {x : D} {k : Nat} {C : Addr} {fs : List (Str × D)} {S : Sd}
theorem c_strK (F : KO Y.X.prog Y.X.w Y.X.K Y.X.mg Y.X.base k C "__str__" 1 S) (hg : Y.X.A.guards = some []) (hr : Room (k + 2) Y.X.A) (hx : OAt M x C fs) (h : S [x] M (fun d M' => ∃ y, d = .str y ∧ P (.str y) M') fun _ _ _ => False) : OpC Y (.type "str") [x] M P := by
  obtain ⟨f, fd, ps, F, b, c, mt⟩ := F
  exact ⟨_, cr_strO mt F hg hr (fun s us _ hl => b s us hl), fun G H vs Q w r k => by
    obtain ⟨v, rfl, rx⟩ := iss_one r
    obtain ⟨a, dx, vs, rfl, hh, rf⟩ := hx.get w rx
    refine ⟨a, dx, vs, rfl, hh, G, M, [x], _, _, w, .cons rx .nil, h, fun v G' H' M' d t ri ⟨y, ed, q⟩ => ?_, fun C gs fs d G' H' M' M2 ee => ee.elim⟩
    subst ed
    cases ri
    exact ⟨y, rfl, k _ _ _ _ _ t (.str _) q⟩⟩
end
end JQ
namespace JQ
open PySem PySem.Spec PyProof.Rows L2
/-- a list of any things beside the empty one -/
theorem op_eqL0 {X : Cx} (hu : X.A.units < cLine) : OpR X (compareOp .Eq) fun x y H Q => ∃ a b xs, x = V.ref a ∧ y = V.ref b ∧ SqL X.K H a xs ∧ xs ≠ [] ∧ SqL X.K H b [] ∧ Q (.bl false) H := by
  intro pins s σ H x y v u Q I rx ry h
  obtain ⟨a, b, xs, rfl, rfl, ha, hne, hb, q⟩ := h
  obtain rfl : v = Value.ref a := rx
  obtain rfl : u = Value.ref b := ry
  obtain ⟨its, rv, ⟨o, n, p1, p2, p3, p4⟩, _⟩ := I.list ha
  obtain ⟨its2, rv2, ⟨o2, n2, p5, p6, p7, p8⟩, _⟩ := I.list hb
  cases rv2
  refine PySem.SeqAt.RcAt.lists_lengths (items := its.toArray) (items2 := #[]) ⟨o, p1, p2, n, p4⟩ ⟨o2, p5, p6, n2, p8⟩ ?_ hu X.prog X.w X.xe _ ⟨.bl false, H, I, rfl, q⟩
  have hl := rv.length
  cases its with
  | nil =>
    cases xs with
    | nil => exact absurd rfl hne
    | cons x xs => cases hl
  | cons y ys => simp
theorem o_eqL0 {Y : Bd} {M : Mm} {P : D → Mm → Prop} {x : D} {ds : List D} (hu : Y.X.A.units < cLine) (hne : ds ≠ []) (hx : LAt M x ds) (q : P (.bl false) M) : Op2 Y (compareOp .Eq) x (.lst []) M P :=
  ⟨_, op_eqL0 hu, fun G H vx vy Q w rx ry k => by
    obtain ⟨a, vs, rfl, ha, r⟩ := hx.get w rx
    cases ry with
    | lst hy r2 =>
      cases r2
      refine ⟨_, _, vs, rfl, rfl, SqL.of ha, fun z => ?_, SqL.of (w.gh _ _ hy), k _ _ _ _ _ w.refl (.bl _) q⟩
      subst z
      cases r
      exact hne rfl⟩
end JQ
namespace JQ
open PySem PySem.Spec PyProof.Rows L2
/-- isinstance of a dict that changes -/
theorem c_isiD {Y : Bd} {M : Mm} {P : D → Mm → Prop} {p : Addr} {en : List (List Key × D)} {c : V} {u : Value} {b : Bool} (hc : ClsV c u) (em : M p = some (.dT en)) (hk : PySem.W.kitOne Y.X.K (.type "dict") u = some b) (q : P (.bl b) M) : OpC Y (.builtin "isinstance") [.rf p, .adr c] M P :=
  ⟨_, call_isi, fun G H vs Q st r k => by
    obtain ⟨v, w, rfl, h, h2⟩ := iss_two r
    cases h2
    cases h
    obtain ⟨_, u', hu, ob⟩ := st.mo _ _ em
    obtain ⟨kvs, rfl, pr⟩ := ob.dT
    exact ⟨.ref p, c, _, u, b, rfl, hc, .base (.dT hu), hk, k _ _ _ _ _ st.refl (.bl b) q⟩⟩
end JQ

/-! Zones: the gaps of a zone, and least chains. Pure facts, no program in them. -/
namespace ZM
structure Rw where
  one : Nat
  other : Nat
  most : Int
/-! ### gaps -/
abbrev Gp := Nat → Nat → Int
/-- no place is passed by the sum of two gaps -/
structure Closed (n : Nat) (g : Gp) : Prop where
  self : ∀ i, i < n → g i i = 0
  tri : ∀ i j k, i < n → j < n → k < n → g i k ≤ g i j + g j k
def Holds (p : Nat → Int) (r : Rw) : Prop := p r.one - p r.other ≤ r.most
/-- the gaps tell the placings, p 0 = 0 besides -/
def Tells (n : Nat) (g : Gp) (Pl : (Nat → Int) → Prop) : Prop := ∀ p : Nat → Int, p 0 = 0 → (Pl p ↔ ∀ i j, i < n → j < n → p i - p j ≤ g i j)
def narrow (g : Gp) (r : Rw) : Gp := fun i j => min (g i j) (g i r.one + r.most + g r.other j)
theorem narrow_closed {n : Nat} {g : Gp} {r : Rw} (c : Closed n g) (h1 : r.one < n) (h2 : r.other < n) (h : 0 ≤ g r.other r.one + r.most) : Closed n (narrow g r) where
  self := fun i hi => by
    have a := c.self i hi
    have b := c.tri r.other i r.one h2 hi h1
    unfold narrow
    omega
  tri := fun i j k hi hj hk => by
    have a1 := c.tri i j k hi hj hk
    have a2 := c.tri i j r.one hi hj h1
    have a3 := c.tri r.other j k h2 hj hk
    have a4 := c.tri r.other j r.one h2 hj h1
    unfold narrow
    omega
theorem narrow_tells {n : Nat} {g : Gp} {r : Rw} {Pl : (Nat → Int) → Prop} (c : Closed n g) (t : Tells n g Pl) (h1 : r.one < n) (h2 : r.other < n) : Tells n (narrow g r) fun p => Pl p ∧ Holds p r := fun p p0 => by
  show Pl p ∧ Holds p r ↔ _
  rw [t p p0]
  constructor
  · rintro ⟨a, b⟩ i j hi hj
    have a1 := a i j hi hj
    have a2 := a i r.one hi h1
    have a3 := a r.other j h2 hj
    unfold Holds at b
    unfold narrow
    omega
  · intro a
    refine ⟨fun i j hi hj => ?_, ?_⟩
    · have a1 := a i j hi hj
      unfold narrow at a1
      omega
    · have a1 := a r.one r.other h1 h2
      have a2 := c.self r.one h1
      have a3 := c.self r.other h2
      unfold narrow at a1
      unfold Holds
      omega
theorem narrow_same {n : Nat} {g : Gp} {r : Rw} {Pl : (Nat → Int) → Prop} (t : Tells n g Pl) (h1 : r.one < n) (h2 : r.other < n) (h : g r.one r.other ≤ r.most) : Tells n g fun p => Pl p ∧ Holds p r := fun p p0 => by
  show Pl p ∧ Holds p r ↔ _
  rw [t p p0]
  refine ⟨fun a => a.1, fun a => ⟨a, ?_⟩⟩
  have := a r.one r.other h1 h2
  unfold Holds
  omega
theorem narrow_none {n : Nat} {g : Gp} {r : Rw} {Pl : (Nat → Int) → Prop} (t : Tells n g Pl) (h1 : r.one < n) (h2 : r.other < n) (h : g r.other r.one + r.most < 0) : ∀ p, p 0 = 0 → ¬ (Pl p ∧ Holds p r) := fun p p0 ⟨a, b⟩ => by
  have := (t p p0).mp a r.other r.one h2 h1
  unfold Holds at b
  omega
/-- each gap is reached by a placing -/
theorem reached {n : Nat} {g : Gp} {Pl : (Nat → Int) → Prop} (c : Closed n g) (t : Tells n g Pl) (y : Nat) (hy : y < n) : (fun i => g i y - g 0 y) 0 = 0 ∧ Pl fun i => g i y - g 0 y := by
  have z : (fun i => g i y - g 0 y) 0 = 0 := by show g 0 y - g 0 y = 0; omega
  refine ⟨z, (t _ z).mpr fun i j hi hj => ?_⟩
  have := c.tri i j y hi hj hy
  show g i y - g 0 y - (g j y - g 0 y) ≤ g i j
  omega
theorem lowest {n : Nat} {g : Gp} {Pl : (Nat → Int) → Prop} (c : Closed n g) (t : Tells n g Pl) (h0 : 0 < n) : Pl fun i => - g 0 i := by
  have z : (fun i => - g 0 i) 0 = 0 := by have := c.self 0 h0; show - g 0 0 = 0; omega
  refine (t _ z).mpr fun i j hi hj => ?_
  have := c.tri 0 i j h0 hi hj
  show - g 0 i - - g 0 j ≤ g i j
  omega
theorem highest {n : Nat} {g : Gp} {Pl : (Nat → Int) → Prop} (c : Closed n g) (t : Tells n g Pl) (h0 : 0 < n) : Pl fun i => g i 0 := by
  have z : (fun i => g i 0) 0 = 0 := c.self 0 h0
  refine (t (fun i => g i 0) z).mpr fun i j hi hj => ?_
  have := c.tri i j 0 hi hj h0
  show g i 0 - g j 0 ≤ g i j
  omega
/-! ### least chains -/
structure St where
  d : Nat → Option Int
  l : Nat → Option Rw
  ch : Option Nat
def better (d : Nat → Option Int) (r : Rw) : Prop := ∃ a, d r.one = some a ∧ ∀ b, d r.other = some b → a + r.most < b
instance (d : Nat → Option Int) (r : Rw) : Decidable (better d r) :=
  match h : d r.one with
  | none => isFalse fun ⟨a, e, _⟩ => by rw [h] at e; cases e
  | some a => match h2 : d r.other with
    | none => isTrue ⟨a, h, fun b e => by rw [h2] at e; cases e⟩
    | some b => if c : a + r.most < b then isTrue ⟨a, h, fun b' e => by rw [h2] at e; cases e; exact c⟩ else isFalse fun ⟨a', e, q⟩ => by
      rw [h] at e; cases e; exact c (q b h2)
def put {α : Type} (f : Nat → α) (i : Nat) (x : α) : Nat → α := fun j => if j = i then x else f j
theorem put_same {α : Type} {f : Nat → α} {i : Nat} {x : α} : put f i x i = x := if_pos rfl
theorem put_ne {α : Type} {f : Nat → α} {i j : Nat} {x : α} (h : j ≠ i) : put f i x j = f j := if_neg h
def relax (s : St) (r : Rw) : St := if better s.d r then ⟨put s.d r.other ((s.d r.one).map (· + r.most)), put s.l r.other (some r), some r.other⟩ else s
/-- the row is kept to -/
def Kept (d : Nat → Option Int) (r : Rw) : Prop := ∀ a, d r.one = some a → ∃ b, d r.other = some b ∧ b ≤ a + r.most
theorem kept_of {d : Nat → Option Int} {r : Rw} (h : ¬ better d r) : Kept d r := fun a ha => by
  match h2 : d r.other with
  | none => exact absurd ⟨a, ha, fun b e => by rw [h2] at e; cases e⟩ h
  | some b =>
    refine ⟨b, rfl, ?_⟩
    by_cases c : a + r.most < b
    · exact absurd ⟨a, ha, fun b' e => by rw [h2] at e; cases e; exact c⟩ h
    · omega
theorem not_kept {d : Nat → Option Int} {r : Rw} (h : better d r) : ¬ Kept d r := fun k => by
  obtain ⟨a, ha, q⟩ := h
  obtain ⟨b, hb, hle⟩ := k a ha
  have := q b hb
  omega
/-- what holds in pass k, when the rows of don were gone through in it and those of tod were not -/
structure BI (rows : List Rw) (start k : Nat) (don tod : List Rw) (d : Nat → Option Int) (l : Nat → Option Rw) (ch : Option Nat) (τ c : Nat → Nat) (now : Nat) : Prop where
  ptr : ∀ v r, l v = some r → r ∈ rows ∧ r.other = v ∧ ∃ a b, d r.one = some a ∧ d v = some b ∧ a + r.most ≤ b ∧ (a + r.most = b → τ r.one < τ v) ∧ c v ≤ c r.one + 1
  nop : ∀ v, l v = none → c v = 0 ∧ (∀ b, d v = some b → v = start ∧ b = 0)
  beg : d start ≠ none
  tau : ∀ v, τ v ≤ now
  cle : ∀ v, c v ≤ k
  dn : ∀ r ∈ don, Kept d r ∨ k ≤ c r.one
  td : ∀ r ∈ tod, Kept d r ∨ k ≤ c r.one + 1
  cn : ch = none → ∀ r ∈ don, Kept d r
  cs : ∀ v, ch = some v → c v = k
theorem bi_step {rows : List Rw} {start k : Nat} {don tod : List Rw} {r : Rw} {s : St} {τ c : Nat → Nat} {now : Nat} (h : BI rows start k don (r :: tod) s.d s.l s.ch τ c now) (hr : r ∈ rows) (hne : r.one ≠ r.other) : ∃ τ' c' now', BI rows start k (don ++ [r]) tod (relax s r).d (relax s r).l (relax s r).ch τ' c' now' := by
  by_cases hb : better s.d r
  · have e : relax s r = ⟨put s.d r.other ((s.d r.one).map (· + r.most)), put s.l r.other (some r), some r.other⟩ := if_pos hb
    obtain ⟨a, ha, qb⟩ := hb
    rw [e, ha]
    have hc1 : k ≤ c r.one + 1 := (h.td r List.mem_cons_self).resolve_left (not_kept ⟨a, ha, qb⟩)
    have keep : ∀ q : Rw, q.one ≠ r.other → Kept s.d q → Kept (put s.d r.other (some (a + r.most))) q := fun q hq kq x hx => by
      rw [put_ne hq] at hx
      obtain ⟨b, hb, hle⟩ := kq x hx
      by_cases z : q.other = r.other
      · rw [z, put_same]
        rw [z] at hb
        exact ⟨_, rfl, by have := qb b hb; omega⟩
      · rw [put_ne z]
        exact ⟨b, hb, hle⟩
    refine ⟨put τ r.other (now + 1), put c r.other k, now + 1, ?_⟩
    show BI rows start k (don ++ [r]) tod (put s.d r.other (some (a + r.most))) (put s.l r.other (some r)) (some r.other) _ _ _
    have cge : ∀ v, c v ≤ put c r.other k v := fun v => by
      by_cases z : v = r.other
      · rw [z, put_same]; exact h.cle _
      · rw [put_ne z]; exact Nat.le_refl _
    refine ⟨fun v q hq => ?_, fun v hv => ?_, ?_, fun v => ?_, fun v => ?_, fun q hq => ?_, fun q hq => ?_, fun z => (by cases z), fun v hv => ?_⟩
    · by_cases z : v = r.other
      · subst z
        rw [put_same] at hq
        cases hq
        refine ⟨hr, rfl, a, a + r.most, by rw [put_ne hne]; exact ha, put_same, Int.le_refl _, fun _ => ?_, ?_⟩
        · rw [put_same, put_ne hne]
          have := h.tau r.one
          omega
        · rw [put_same, put_ne hne]
          exact hc1
      · rw [put_ne z] at hq
        obtain ⟨h1, h2, x, b, hx, hb, hle, ht, hcc⟩ := h.ptr v q hq
        refine ⟨h1, h2, ?_⟩
        by_cases y : q.one = r.other
        · rw [y, put_same, put_ne z]
          rw [y] at hx
          have := qb x hx
          exact ⟨a + r.most, b, rfl, hb, by omega, fun e => by omega, by rw [put_ne z, put_same]; have := h.cle v; omega⟩
        · rw [put_ne y, put_ne z, put_ne y, put_ne z, put_ne z, put_ne y]
          exact ⟨x, b, hx, hb, hle, ht, hcc⟩
    · by_cases z : v = r.other
      · subst z
        rw [put_same] at hv
        cases hv
      · rw [put_ne z] at hv
        rw [put_ne z, put_ne z]
        exact h.nop v hv
    · by_cases z : start = r.other
      · rw [z, put_same]; exact fun y => by cases y
      · rw [put_ne z]; exact h.beg
    · by_cases z : v = r.other
      · rw [z, put_same]; exact Nat.le_refl _
      · rw [put_ne z]; exact Nat.le_succ_of_le (h.tau v)
    · by_cases z : v = r.other
      · rw [z, put_same]; exact Nat.le_refl _
      · rw [put_ne z]; exact h.cle v
    · by_cases y : q.one = r.other
      · right; rw [y, put_same]; exact Nat.le_refl _
      · rcases List.mem_append.mp hq with hq | hq
        · rcases h.dn q hq with g | g
          · exact .inl (keep q y g)
          · exact .inr (Nat.le_trans g (cge _))
        · rw [List.mem_singleton.mp hq] at y ⊢
          left
          intro x hx
          rw [put_ne hne, ha] at hx
          cases hx
          exact ⟨_, put_same, Int.le_refl _⟩
    · by_cases y : q.one = r.other
      · right; rw [y, put_same]; exact Nat.le_succ _
      · rcases h.td q (List.mem_cons_of_mem _ hq) with g | g
        · exact .inl (keep q y g)
        · exact .inr (Nat.le_trans g (Nat.succ_le_succ (cge _)))
    · cases hv
      exact put_same
  · have e : relax s r = s := if_neg hb
    rw [e]
    refine ⟨τ, c, now, h.ptr, h.nop, h.beg, h.tau, h.cle, fun q hq => ?_, fun q hq => h.td q (List.mem_cons_of_mem _ hq), fun z q hq => ?_, h.cs⟩
    · rcases List.mem_append.mp hq with hq | hq
      · exact h.dn q hq
      · rw [List.mem_singleton.mp hq]; exact .inl (kept_of hb)
    · rcases List.mem_append.mp hq with hq | hq
      · exact h.cn z q hq
      · rw [List.mem_singleton.mp hq]; exact kept_of hb
theorem bi_all {rows : List Rw} {start k : Nat} (hrows : ∀ r ∈ rows, r.one ≠ r.other) (hk : 1 ≤ k) : ∀ (tod don : List Rw) (s : St) (τ c : Nat → Nat) (now : Nat), (∀ r ∈ tod, r ∈ rows) → BI rows start k don tod s.d s.l s.ch τ c now → ∃ τ' c' now', BI rows start k (don ++ tod) [] (tod.foldl relax s).d (tod.foldl relax s).l (tod.foldl relax s).ch τ' c' now'
  | [], don, s, τ, c, now, _, h => ⟨τ, c, now, by rw [List.append_nil]; exact h⟩
  | r :: tod, don, s, τ, c, now, hs, h => by
    obtain ⟨τ', c', now', h'⟩ := bi_step h (hs r List.mem_cons_self) (hrows r (hs r List.mem_cons_self))
    obtain ⟨τ2, c2, now2, h2⟩ := bi_all hrows hk tod (don ++ [r]) (relax s r) τ' c' now' (fun q hq => hs q (List.mem_cons_of_mem _ hq)) h'
    refine ⟨τ2, c2, now2, ?_⟩
    rw [List.append_assoc] at h2
    exact h2
/-- all rows, once -/
def sweep (rows : List Rw) (s : St) : St := rows.foldl relax ⟨s.d, s.l, none⟩
/-- so often, or until nothing changes -/
def sweeps (rows : List Rw) : Nat → St → St
  | 0, s => s
  | m + 1, s => if (sweep rows s).ch = none then sweep rows s else sweeps rows m (sweep rows s)
def first (start : Nat) : St := ⟨put (fun _ => none) start (some 0), fun _ => none, none⟩
/-- what holds behind pass k -/
def Done (rows : List Rw) (start k : Nat) (s : St) : Prop := ∃ τ c now, BI rows start k rows [] s.d s.l s.ch τ c now
theorem first_bi (rows : List Rw) (start : Nat) : BI rows start 1 [] rows (first start).d (first start).l none (fun _ => 0) (fun _ => 0) 0 where
  ptr := fun v r h => by cases h
  nop := fun v _ => ⟨rfl, fun b hb => by
    by_cases z : v = start
    · subst z
      have : (first v).d v = some 0 := if_pos rfl
      rw [this] at hb
      cases hb
      exact ⟨rfl, rfl⟩
    · have : (first start).d v = none := if_neg z
      rw [this] at hb
      cases hb⟩
  beg := by
    have : (first start).d start = some 0 := if_pos rfl
    rw [this]
    exact fun y => by cases y
  tau := fun _ => Nat.le_refl _
  cle := fun _ => Nat.zero_le _
  dn := fun _ h => by cases h
  td := fun _ _ => .inr (Nat.le_refl _)
  cn := fun _ _ h => by cases h
  cs := fun _ h => by cases h
theorem next_bi {rows : List Rw} {start k : Nat} {s : St} {τ c : Nat → Nat} {now : Nat} (h : BI rows start k rows [] s.d s.l s.ch τ c now) : BI rows start (k + 1) [] rows s.d s.l none τ c now where
  ptr := h.ptr
  nop := h.nop
  beg := h.beg
  tau := h.tau
  cle := fun v => Nat.le_succ_of_le (h.cle v)
  dn := fun _ h => by cases h
  td := fun q hq => (h.dn q hq).imp id fun g => Nat.succ_le_succ g
  cn := fun _ _ h => by cases h
  cs := fun _ h => by cases h
theorem sweep_done {rows : List Rw} {start k : Nat} {s : St} {τ c : Nat → Nat} {now : Nat} (hrows : ∀ r ∈ rows, r.one ≠ r.other) (hk : 1 ≤ k) (h : BI rows start k [] rows s.d s.l none τ c now) : Done rows start k (sweep rows s) := by
  have := bi_all hrows hk rows [] ⟨s.d, s.l, none⟩ τ c now (fun _ h => h) h
  rw [List.nil_append] at this
  exact this
theorem sweeps_done {rows : List Rw} {start : Nat} (hrows : ∀ r ∈ rows, r.one ≠ r.other) : ∀ (m k : Nat) (s : St) (τ c : Nat → Nat) (now : Nat), 1 ≤ k → BI rows start k [] rows s.d s.l none τ c now → ∃ k', Done rows start k' (sweeps rows (m + 1) s) ∧ ((sweeps rows (m + 1) s).ch = none ∨ k' = k + m)
  | 0, k, s, τ, c, now, hk, h => by
    have d := sweep_done hrows hk h
    refine ⟨k, ?_, .inr rfl⟩
    unfold sweeps
    by_cases z : (sweep rows s).ch = none
    · rw [if_pos z]; exact d
    · rw [if_neg z]; exact d
  | m + 1, k, s, τ, c, now, hk, h => by
    have d := sweep_done hrows hk h
    unfold sweeps
    by_cases z : (sweep rows s).ch = none
    · rw [if_pos z]; exact ⟨k, d, .inl z⟩
    · rw [if_neg z]
      obtain ⟨τ', c', now', d⟩ := d
      obtain ⟨k', h1, h2⟩ := sweeps_done hrows m (k + 1) (sweep rows s) τ' c' now' (by omega) (next_bi d)
      exact ⟨k', h1, h2.imp id fun e => by omega⟩
/-! ### the way back -/
inductive Bk (l : Nat → Option Rw) : Nat → List Rw → Nat → Prop where
  | one {v r} (h : l v = some r) : Bk l v [r] r.one
  | cons {v r rs w} (h : l v = some r) (b : Bk l r.one rs w) : Bk l v (r :: rs) w
def sum : List Rw → Int
  | [] => 0
  | r :: rs => r.most + sum rs
section
variable {rows : List Rw} {start k : Nat} {d : Nat → Option Int} {l : Nat → Option Rw} {ch : Option Nat} {τ c : Nat → Nat} {now : Nat}
theorem bk_sum (h : BI rows start k rows [] d l ch τ c now) {v w : Nat} {rs : List Rw} (b : Bk l v rs w) : ∃ x y, d w = some x ∧ d v = some y ∧ x + sum rs ≤ y ∧ (x + sum rs = y → τ w < τ v) := by
  induction b with
  | one e =>
    obtain ⟨_, _, x, y, hx, hy, hle, ht, _⟩ := h.ptr _ _ e
    exact ⟨x, y, hx, hy, by simp only [sum]; omega, fun z => ht (by simp only [sum] at z; omega)⟩
  | cons e b ih =>
    obtain ⟨_, _, x, y, hx, hy, hle, ht, _⟩ := h.ptr _ _ e
    obtain ⟨x2, y2, hx2, hy2, hle2, ht2⟩ := ih
    rw [hx] at hy2
    cases hy2
    refine ⟨x2, y, hx2, hy, by simp only [sum]; omega, fun z => ?_⟩
    simp only [sum] at z
    have t1 := ht (by omega)
    have t2 := ht2 (by omega)
    omega
/-- a ring has a sum below 0 -/
theorem bk_ring (h : BI rows start k rows [] d l ch τ c now) {v : Nat} {rs : List Rw} (b : Bk l v rs v) : sum rs < 0 := by
  obtain ⟨x, y, hx, hy, hle, ht⟩ := bk_sum h b
  rw [hx] at hy
  cases hy
  by_cases z : x + sum rs = x
  · exact absurd (ht z) (Nat.lt_irrefl _)
  · omega
theorem bk_mem (h : BI rows start k rows [] d l ch τ c now) {v w : Nat} {rs : List Rw} (b : Bk l v rs w) : ∀ r ∈ rs, r ∈ rows := by
  induction b with
  | one e => exact fun r hr => by rw [List.mem_singleton.mp hr]; exact (h.ptr _ _ e).1
  | cons e b ih =>
    intro r hr
    rcases List.mem_cons.mp hr with rfl | hr
    · exact (h.ptr _ _ e).1
    · exact ih r hr
/-- no placing goes beyond the sum of a chain -/
theorem bk_low (h : BI rows start k rows [] d l ch τ c now) {p : Nat → Int} (hp : ∀ r ∈ rows, Holds p r) {v w : Nat} {rs : List Rw} (b : Bk l v rs w) : p w - p v ≤ sum rs := by
  induction b with
  | one e =>
    obtain ⟨h1, h2, _⟩ := h.ptr _ _ e
    have := hp _ h1
    unfold Holds at this
    rw [h2] at this
    simp only [sum]
    omega
  | cons e b ih =>
    obtain ⟨h1, h2, _⟩ := h.ptr _ _ e
    have := hp _ h1
    unfold Holds at this
    rw [h2] at this
    simp only [sum]
    omega
theorem no_ring (h : BI rows start k rows [] d l ch τ c now) {p : Nat → Int} (hp : ∀ r ∈ rows, Holds p r) {v : Nat} {rs : List Rw} (b : Bk l v rs v) : False := by
  have h1 := bk_ring h b
  have h2 := bk_low h hp b
  omega
/-- a part of a way back -/
theorem bk_part {v w : Nat} {rs : List Rw} (b : Bk l v rs w) : ∀ r ∈ rs, ∃ rs', Bk l v rs' r.one := by
  induction b with
  | one e => exact fun r hr => by rw [List.mem_singleton.mp hr]; exact ⟨_, .one e⟩
  | cons e b ih =>
    intro r hr
    rcases List.mem_cons.mp hr with rfl | hr
    · exact ⟨_, .one e⟩
    · obtain ⟨rs', b'⟩ := ih r hr
      exact ⟨_, .cons e b'⟩
/-- no point comes twice -/
theorem bk_nodup (h : BI rows start k rows [] d l ch τ c now) {p : Nat → Int} (hp : ∀ r ∈ rows, Holds p r) {v w : Nat} {rs : List Rw} (b : Bk l v rs w) : (v :: rs.map Rw.one).Nodup := by
  induction b with
  | @one v r e =>
    refine List.nodup_cons.mpr ⟨fun z => ?_, by simp⟩
    simp only [List.map_cons, List.map_nil, List.mem_singleton] at z
    have b := Bk.one e
    rw [← z] at b
    exact no_ring h hp b
  | @cons v r rs w e b ih =>
    refine List.nodup_cons.mpr ⟨fun z => ?_, ih⟩
    obtain ⟨q, hq, eq⟩ := List.mem_map.mp z
    obtain ⟨rs', b'⟩ := bk_part (Bk.cons e b) q hq
    rw [eq] at b'
    exact no_ring h hp b'
/-- a point that changed late has a long way back -/
theorem bk_long (h : BI rows start k rows [] d l ch τ c now) : ∀ (j v : Nat), j + 1 ≤ c v → ∃ rs w, Bk l v rs w ∧ rs.length = j + 1
  | 0, v, hc => by
    match e : l v with
    | none => have := (h.nop v e).1; omega
    | some r => exact ⟨_, _, .one e, rfl⟩
  | j + 1, v, hc => by
    match e : l v with
    | none => have := (h.nop v e).1; omega
    | some r =>
      obtain ⟨_, _, _, _, _, _, _, _, hcc⟩ := h.ptr _ _ e
      obtain ⟨rs, w, b, hl⟩ := bk_long h j r.one (by omega)
      exact ⟨_, w, .cons e b, by rw [List.length_cons, hl]⟩
end
theorem nodup_sub : ∀ {as bs : List Nat}, as.Nodup → (∀ x, x ∈ as → x ∈ bs) → as.length ≤ bs.length
  | [], bs, _, _ => Nat.zero_le _
  | a :: as, bs, h, s => by
    obtain ⟨h1, h2⟩ := List.nodup_cons.mp h
    have ha : a ∈ bs := s a List.mem_cons_self
    have ih := nodup_sub (as := as) (bs := bs.erase a) h2 fun x hx => by
      have hne : x ≠ a := fun e => h1 (e ▸ hx)
      exact (List.mem_erase_of_ne hne).mpr (s x (List.mem_cons_of_mem _ hx))
    have hl := List.length_erase_of_mem ha
    have hp : 0 < bs.length := List.length_pos_of_mem ha
    rw [List.length_cons]
    omega
theorem nodup_below {n : Nat} {as : List Nat} (h : as.Nodup) (hb : ∀ a ∈ as, a < n) : as.length ≤ n := by
  have := nodup_sub (bs := List.range n) h fun a ha => List.mem_range.mpr (hb a ha)
  rwa [List.length_range] at this
/-! ### zones with a placing: least chains -/
def LowI (p : Nat → Int) (start : Nat) (d : Nat → Option Int) : Prop := ∀ v b, d v = some b → p start - p v ≤ b
theorem low_relax {p : Nat → Int} {start : Nat} {s : St} {r : Rw} (h : LowI p start s.d) (hr : Holds p r) : LowI p start (relax s r).d := by
  unfold relax
  by_cases hb : better s.d r
  · rw [if_pos hb]
    obtain ⟨a, ha, _⟩ := hb
    intro v b hv
    show p start - p v ≤ b
    have hv : put s.d r.other ((s.d r.one).map (· + r.most)) v = some b := hv
    rw [ha] at hv
    by_cases z : v = r.other
    · subst z
      rw [put_same] at hv
      cases hv
      have := h _ _ ha
      unfold Holds at hr
      show p start - p r.other ≤ a + r.most
      omega
    · rw [put_ne z] at hv
      exact h v b hv
  · rw [if_neg hb]; exact h
theorem low_fold {p : Nat → Int} {start : Nat} : ∀ (rows : List Rw) (s : St), (∀ r ∈ rows, Holds p r) → LowI p start s.d → LowI p start (rows.foldl relax s).d
  | [], _, _, h => h
  | r :: rows, s, hp, h => low_fold rows (relax s r) (fun q hq => hp q (List.mem_cons_of_mem _ hq)) (low_relax h (hp r List.mem_cons_self))
theorem low_sweeps {p : Nat → Int} {start : Nat} {rows : List Rw} (hp : ∀ r ∈ rows, Holds p r) : ∀ (m : Nat) (s : St), LowI p start s.d → LowI p start (sweeps rows m s).d
  | 0, _, h => h
  | m + 1, s, h => by
    have h1 : LowI p start (sweep rows s).d := low_fold rows ⟨s.d, s.l, none⟩ hp h
    unfold sweeps
    by_cases z : (sweep rows s).ch = none
    · rw [if_pos z]; exact h1
    · rw [if_neg z]; exact low_sweeps hp m _ h1
theorem low_first (p : Nat → Int) (start : Nat) : LowI p start (first start).d := fun v b hv => by
  by_cases z : v = start
  · subst z
    have : (first v).d v = some 0 := if_pos rfl
    rw [this] at hv
    cases hv
    omega
  · have : (first start).d v = none := if_neg z
    rw [this] at hv
    cases hv
section
variable {rows : List Rw} {start k : Nat} {d : Nat → Option Int} {l : Nat → Option Rw} {ch : Option Nat} {τ c : Nat → Nat} {now : Nat}
theorem way_home (h : BI rows start k rows [] d l ch τ c now) {p : Nat → Int} (hp : ∀ r ∈ rows, Holds p r) (lo : LowI p start d) : ∀ (m t v : Nat) (b : Int), d v = some b → (b + p v - p start).toNat = m → τ v = t → (l v = none ∧ v = start) ∨ ∃ rs, Bk l v rs start := by
  intro m
  induction m using Nat.strongRecOn with
  | _ m ihm =>
    intro t
    induction t using Nat.strongRecOn with
    | _ t iht =>
      intro v b hb em et
      match e : l v with
      | none => exact .inl ⟨rfl, ((h.nop v e).2 b hb).1⟩
      | some r =>
        right
        obtain ⟨h1, h2, x, y, hx, hy, hle, ht, _⟩ := h.ptr _ _ e
        rw [hb] at hy
        cases hy
        have l1 := lo _ _ hx
        have hr := hp _ h1
        unfold Holds at hr
        rw [h2] at hr
        have res : (l r.one = none ∧ r.one = start) ∨ ∃ rs, Bk l r.one rs start := by
          by_cases z : (x + p r.one - p start).toNat < m
          · exact ihm _ z _ r.one x hx rfl rfl
          · have e1 : (x + p r.one - p start).toNat = m := by omega
            have e2 : τ r.one < t := by rw [← et]; exact ht (by omega)
            exact iht _ e2 r.one x hx e1 rfl
        rcases res with ⟨_, e3⟩ | ⟨rs, bk⟩
        · have := Bk.one e
          rw [e3] at this
          exact ⟨_, this⟩
        · exact ⟨_, .cons e bk⟩
theorem home (h : BI rows start k rows [] d l ch τ c now) {p : Nat → Int} (hp : ∀ r ∈ rows, Holds p r) (lo : LowI p start d) : l start = none ∧ d start = some 0 := by
  match e : d start with
  | none => exact absurd e h.beg
  | some b =>
    rcases way_home h hp lo _ _ start b e rfl rfl with ⟨h1, _⟩ | ⟨rs, bk⟩
    · exact ⟨h1, by rw [((h.nop start h1).2 b e).2]⟩
    · exact (no_ring h hp bk).elim
theorem way (h : BI rows start k rows [] d l ch τ c now) {p : Nat → Int} (hp : ∀ r ∈ rows, Holds p r) (lo : LowI p start d) {v : Nat} {b : Int} (hv : d v = some b) (hne : v ≠ start) : ∃ rs, Bk l v rs start := by
  rcases way_home h hp lo _ _ v b hv rfl rfl with ⟨_, h1⟩ | h1
  · exact absurd h1 hne
  · exact h1
theorem settles (h : BI rows start k rows [] d l ch τ c now) {p : Nat → Int} (hp : ∀ r ∈ rows, Holds p r) {n : Nat} (hn : ∀ r ∈ rows, r.one < n ∧ r.other < n) (hk : n ≤ k) (h0 : 0 < n) : ch = none := by
  match e : ch with
  | none => rfl
  | some v =>
    have hc := h.cs v rfl
    obtain ⟨rs, w, b, hl⟩ := bk_long h (n - 1) v (by omega)
    have nd := bk_nodup h hp b
    have hv : v < n := by
      match e2 : l v with
      | none => have := (h.nop v e2).1; omega
      | some r =>
        obtain ⟨h1, h2, _⟩ := h.ptr _ _ e2
        rw [← h2]
        exact (hn r h1).2
    have := nodup_below (n := n) nd fun a ha => by
      rcases List.mem_cons.mp ha with rfl | ha
      · exact hv
      · obtain ⟨r, hr, rfl⟩ := List.mem_map.mp ha
        exact (hn r (bk_mem h b r hr)).1
    rw [List.length_cons, List.length_map, hl] at this
    omega
/-- the walls join all points -/
def Walled (rows : List Rw) (n : Nat) : Prop := ∀ i, 0 < i → i < n → (∃ w, ⟨i, 0, w⟩ ∈ rows) ∧ ⟨0, i, 0⟩ ∈ rows
theorem all_sums (kp : ∀ r ∈ rows, Kept d r) {n : Nat} (hw : Walled rows n) (hs : start < n) (hd : d start ≠ none) : ∀ i, i < n → ∃ b, d i = some b := by
  have z : ∃ b, d 0 = some b := by
    match e : d start with
    | none => exact absurd e hd
    | some a =>
      by_cases y : start = 0
      · rw [← y]; exact ⟨a, e⟩
      · obtain ⟨⟨w, hw1⟩, _⟩ := hw start (by omega) hs
        obtain ⟨b, hb, _⟩ := kp _ hw1 a e
        exact ⟨b, hb⟩
  intro i hi
  by_cases y : i = 0
  · rw [y]; exact z
  · obtain ⟨a, ha⟩ := z
    obtain ⟨b, hb, _⟩ := kp _ (hw i (by omega) hi).2 a ha
    exact ⟨b, hb⟩
/-- settled sums are a placing -/
theorem sums_place (kp : ∀ r ∈ rows, Kept d r) {n : Nat} (hn : ∀ r ∈ rows, r.one < n ∧ r.other < n) (al : ∀ i, i < n → ∃ b, d i = some b) : ∀ r ∈ rows, Holds (fun i => (d 0).getD 0 - (d i).getD 0) r := fun r hr => by
  obtain ⟨a, ha⟩ := al _ (hn r hr).1
  obtain ⟨b, hb, hle⟩ := kp r hr a ha
  show (d 0).getD 0 - (d r.one).getD 0 - ((d 0).getD 0 - (d r.other).getD 0) ≤ r.most
  rw [ha, hb]
  show (d 0).getD 0 - a - ((d 0).getD 0 - b) ≤ r.most
  omega
end
/-- the sums of chains from start: the chain of each other point is least, and no point comes in it twice -/
theorem least_chain {rows : List Rw} {n start e : Nat} {g : Gp} {Pl : (Nat → Int) → Prop} (cg : Closed n g) (tg : Tells n g Pl) (hpl : ∀ p, Pl p → ∀ r ∈ rows, Holds p r) (hlp : ∀ p, p 0 = 0 → (∀ r ∈ rows, Holds p r) → Pl p)
    (hrows : ∀ r ∈ rows, r.one ≠ r.other) (hn : ∀ r ∈ rows, r.one < n ∧ r.other < n) (hw : Walled rows n) (hs : start < n) (he : e < n) (hne : e ≠ start) :
    (sweeps rows n (first start)).ch = none ∧ (sweeps rows n (first start)).l start = none ∧ ∃ rs, Bk (sweeps rows n (first start)).l e rs start ∧ (e :: rs.map Rw.one).Nodup ∧ (∀ r ∈ rs, r ∈ rows) ∧ sum rs = g start e := by
  obtain ⟨p0, pp⟩ := reached cg tg e he
  have hp := hpl _ pp
  obtain ⟨m, rfl⟩ : ∃ m, n = m + 1 := ⟨n - 1, by omega⟩
  obtain ⟨k', ⟨τ, c, now, h⟩, hk'⟩ := sweeps_done hrows m 1 (first start) _ _ _ (Nat.le_refl _) (first_bi rows start)
  have lo := low_sweeps hp (m + 1) (first start) (low_first _ start)
  have hch : (sweeps rows (m + 1) (first start)).ch = none := by
    rcases hk' with z | z
    · exact z
    · exact settles h hp hn (by omega) (by omega)
  generalize sweeps rows (m + 1) (first start) = t at h lo hch
  have kp := h.cn hch
  obtain ⟨hl, hd⟩ := home h hp lo
  have al := all_sums kp hw hs h.beg
  obtain ⟨b, hb⟩ := al e he
  obtain ⟨rs, bk⟩ := way h hp lo hb hne
  refine ⟨hch, hl, rs, bk, bk_nodup h hp bk, bk_mem h bk, ?_⟩
  have up : b ≤ g start e := by
    have pl := hlp _ (by show (t.d 0).getD 0 - (t.d 0).getD 0 = 0; omega) (sums_place kp hn al)
    have := (tg _ (by show (t.d 0).getD 0 - (t.d 0).getD 0 = 0; omega)).mp pl start e hs he
    rw [hd, hb] at this
    have this : (t.d 0).getD 0 - 0 - ((t.d 0).getD 0 - b) ≤ g start e := this
    omega
  have dn : g start e ≤ sum rs := by
    have := bk_low h hp bk
    have ce := cg.self e he
    have this : g start e - g 0 e - (g e e - g 0 e) ≤ sum rs := this
    omega
  obtain ⟨x, y, hx, hy, hle, _⟩ := bk_sum h bk
  rw [hd] at hx
  rw [hb] at hy
  cases hx
  cases hy
  omega
/-! ### zones without a placing: rings -/
section
variable {rows : List Rw} {start k : Nat} {d : Nat → Option Int} {l : Nat → Option Rw} {ch : Option Nat} {τ c : Nat → Nat} {now : Nat}
def hop (l : Nat → Option Rw) (v : Nat) : Nat := match l v with
  | some r => r.one
  | none => v
def hops (l : Nat → Option Rw) (v : Nat) : Nat → Nat
  | 0 => v
  | j + 1 => hop l (hops l v j)
theorem hops_same {l : Nat → Option Rw} {v i j : Nat} (h : hops l v i = hops l v j) : ∀ q, hops l v (i + q) = hops l v (j + q)
  | 0 => h
  | q + 1 => by
    show hop l (hops l v (i + q)) = hop l (hops l v (j + q))
    rw [hops_same h q]
theorem hops_far (h : BI rows start k rows [] d l ch τ c now) {v : Nat} : ∀ j, j ≤ c v → c v ≤ c (hops l v j) + j
  | 0, _ => Nat.le_refl _
  | j + 1, hj => by
    have ih := hops_far h (v := v) j (by omega)
    show c v ≤ c (hop l (hops l v j)) + (j + 1)
    unfold hop
    match e : l (hops l v j) with
    | none => have := (h.nop _ e).1; omega
    | some r =>
      obtain ⟨_, _, _, _, _, _, _, _, hcc⟩ := h.ptr _ _ e
      show c v ≤ c r.one + (j + 1)
      omega
theorem hops_step (h : BI rows start k rows [] d l ch τ c now) {v j : Nat} (hj : j < c v) : ∃ r, l (hops l v j) = some r ∧ hops l v (j + 1) = r.one := by
  have := hops_far h (v := v) j (by omega)
  match e : l (hops l v j) with
  | none => have := (h.nop _ e).1; omega
  | some r =>
    refine ⟨r, rfl, ?_⟩
    show hop l (hops l v j) = r.one
    unfold hop
    rw [e]
theorem bk_walk {v : Nat} : ∀ q a, (∀ s, s ≤ q → ∃ r, l (hops l v (a + s)) = some r ∧ hops l v (a + s + 1) = r.one) → ∃ rs, Bk l (hops l v a) rs (hops l v (a + q + 1)) ∧ rs.map Rw.one = (List.range (q + 1)).map fun s => hops l v (a + s + 1)
  | 0, a, h => by
    obtain ⟨r, e1, e2⟩ := h 0 (Nat.le_refl _)
    refine ⟨[r], ?_, ?_⟩
    · show Bk l (hops l v a) [r] (hops l v (a + 0 + 1))
      rw [e2]
      exact .one e1
    · show [r.one] = [hops l v (a + 0 + 1)]
      rw [e2]
  | q + 1, a, h => by
    obtain ⟨r, e1, e2⟩ := h 0 (Nat.zero_le _)
    obtain ⟨rs, b, e3⟩ := bk_walk q (a + 1) fun s hs => by
      have := h (s + 1) (by omega)
      rw [show a + (s + 1) = a + 1 + s by omega] at this
      exact this
    have e4 : hops l v (a + 1) = r.one := e2
    rw [e4] at b
    refine ⟨r :: rs, ?_, ?_⟩
    · rw [show a + (q + 1) + 1 = a + 1 + q + 1 by omega]
      exact .cons e1 b
    · rw [List.map_cons, e3, List.range_succ_eq_map (n := q + 1), List.map_cons, List.map_map, ← e4]
      congr 1
      refine List.map_congr_left fun s _ => ?_
      show hops l v (a + 1 + s + 1) = hops l v (a + (s + 1) + 1)
      rw [show a + 1 + s + 1 = a + (s + 1) + 1 by omega]
theorem twice {n : Nat} {f : Nat → Nat} (hb : ∀ j, j ≤ n → f j < n) : ∃ i j, i < j ∧ j ≤ n ∧ f i = f j := by
  refine Classical.byContradiction fun z => ?_
  have nd : ((List.range (n + 1)).map f).Nodup := by
    rw [List.Nodup, List.pairwise_map, List.pairwise_iff_getElem]
    intro i j hi hj hij e
    rw [List.length_range] at hi hj
    rw [List.getElem_range, List.getElem_range] at e
    exact z ⟨i, j, hij, by omega, e⟩
  have := nodup_below (n := n) nd fun a ha => by
    obtain ⟨j, hj, rfl⟩ := List.mem_map.mp ha
    exact hb j (by have := List.mem_range.mp hj; omega)
  rw [List.length_map, List.length_range] at this
  omega
end
/-- a point that never settles lies behind a ring with a sum below 0 -/
theorem ring_found {rows : List Rw} {n : Nat} (hno : ∀ p : Nat → Int, p 0 = 0 → ¬ ∀ r ∈ rows, Holds p r) (hrows : ∀ r ∈ rows, r.one ≠ r.other) (hn : ∀ r ∈ rows, r.one < n ∧ r.other < n) (hw : Walled rows n) (h0 : 0 < n) :
    ∃ v, (sweeps rows n (first 0)).ch = some v ∧ (∀ j, j < n → ∃ r, (sweeps rows n (first 0)).l (hops (sweeps rows n (first 0)).l v j) = some r ∧ hops (sweeps rows n (first 0)).l v (j + 1) = r.one) ∧
      ∃ q rs, Bk (sweeps rows n (first 0)).l (hops (sweeps rows n (first 0)).l v n) rs (hops (sweeps rows n (first 0)).l v n) ∧ (rs.map Rw.one = (List.range (q + 1)).map fun s => hops (sweeps rows n (first 0)).l v (n + s + 1)) ∧ (∀ s, s < q → hops (sweeps rows n (first 0)).l v (n + s + 1) ≠ hops (sweeps rows n (first 0)).l v n) ∧ (∀ r ∈ rs, r ∈ rows) ∧ sum rs < 0 := by
  obtain ⟨m, rfl⟩ : ∃ m, n = m + 1 := ⟨n - 1, by omega⟩
  obtain ⟨k', ⟨τ, c, now, h⟩, hk'⟩ := sweeps_done hrows m 1 (first 0) _ _ _ (Nat.le_refl _) (first_bi rows 0)
  generalize sweeps rows (m + 1) (first 0) = t at h hk'
  match e : t.ch with
  | none =>
    exfalso
    rw [e] at h
    have kp := h.cn rfl
    have al := all_sums kp hw h0 h.beg
    exact hno _ (by show (t.d 0).getD 0 - (t.d 0).getD 0 = 0; omega) (sums_place kp hn al)
  | some v =>
    rw [e] at h hk'
    have hc : c v = m + 1 := by
      rcases hk' with z | z
      · cases z
      · rw [h.cs v rfl]; omega
    have st : ∀ j, j < m + 1 → ∃ r, t.l (hops t.l v j) = some r ∧ hops t.l v (j + 1) = r.one := fun j hj => hops_step h (by omega)
    have bd : ∀ j, j ≤ m + 1 → hops t.l v j < m + 1 := fun j hj => by
      cases j with
      | zero =>
        obtain ⟨r, e1, _⟩ := st 0 (by omega)
        obtain ⟨h1, h2, _⟩ := h.ptr _ _ e1
        have h2 : r.other = v := h2
        show v < m + 1
        rw [← h2]
        exact (hn r h1).2
      | succ j =>
        obtain ⟨r, e1, e2⟩ := st j (by omega)
        rw [e2]
        exact (hn r (h.ptr _ _ e1).1).1
    obtain ⟨i, j, hij, hj, eij⟩ := twice bd
    have per : ∀ x, i ≤ x → hops t.l v (x + (j - i)) = hops t.l v x := fun x hx => by
      have := hops_same eij (x - i)
      rw [show i + (x - i) = x by omega, show j + (x - i) = x + (j - i) by omega] at this
      exact this.symm
    have ex : ∃ q, hops t.l v (m + 1 + q + 1) = hops t.l v (m + 1) := ⟨j - i - 1, by
      rw [show m + 1 + (j - i - 1) + 1 = m + 1 + (j - i) by omega]
      exact per _ (by omega)⟩
    obtain ⟨q, hq, hmin⟩ : ∃ q, hops t.l v (m + 1 + q + 1) = hops t.l v (m + 1) ∧ ∀ s, s < q → hops t.l v (m + 1 + s + 1) ≠ hops t.l v (m + 1) := by
      obtain ⟨q0, hq0⟩ := ex
      induction q0 using Nat.strongRecOn with
      | _ q0 ih =>
        by_cases z : ∃ s, s < q0 ∧ hops t.l v (m + 1 + s + 1) = hops t.l v (m + 1)
        · obtain ⟨s, hs, es⟩ := z
          exact ih s hs es
        · exact ⟨q0, hq0, fun s hs es => z ⟨s, hs, es⟩⟩
    have all : ∀ x, ∃ r, t.l (hops t.l v x) = some r ∧ hops t.l v (x + 1) = r.one := fun x => by
      induction x using Nat.strongRecOn with
      | _ x ih =>
        by_cases z : x < m + 1
        · exact st x z
        · obtain ⟨r, e1, e2⟩ := ih (x - (j - i)) (by omega)
          refine ⟨r, ?_, ?_⟩
          · have := per (x - (j - i)) (by omega)
            rw [show x - (j - i) + (j - i) = x by omega] at this
            rw [this]
            exact e1
          · have := per (x - (j - i) + 1) (by omega)
            rw [show x - (j - i) + 1 + (j - i) = x + 1 by omega] at this
            rw [this]
            exact e2
    obtain ⟨rs, b, eo⟩ := bk_walk (l := t.l) (v := v) q (m + 1) fun s _ => all _
    rw [hq] at b
    exact ⟨v, rfl, st, q, rs, b, eo, hmin, bk_mem h b, bk_ring h b⟩
/-! ### the gaps of a zone -/
def narrowO (g : Gp) (r : Rw) : Option Gp := if g r.one r.other ≤ r.most then some g else if g r.other r.one + r.most < 0 then none else some (narrow g r)
def gaps0 (w : Int) : Gp := fun i j => if i = 0 ∨ i = j then 0 else w
def gapsOf (w : Int) (rows : List Rw) : Option Gp := rows.foldlM narrowO (gaps0 w)
def In (n : Nat) (w : Int) (p : Nat → Int) : Prop := ∀ i, i < n → 0 ≤ p i ∧ p i ≤ w
theorem gaps0_closed {n : Nat} {w : Int} (h : 0 ≤ w) : Closed n (gaps0 w) where
  self := fun i _ => if_pos (.inr rfl)
  tri := fun i j k _ _ _ => by
    unfold gaps0
    split <;> split <;> split <;> omega
theorem gaps0_tells {n : Nat} {w : Int} (h0 : 0 < n) (h : 0 ≤ w) : Tells n (gaps0 w) (In n w) := fun p p0 => by
  constructor
  · intro a i j hi hj
    have a1 := a i hi
    have a2 := a j hj
    unfold gaps0
    split
    · rename_i z
      rcases z with z | z
      · rw [z, p0]; omega
      · rw [z]; omega
    · omega
  · intro a i hi
    have a1 := a i 0 hi h0
    have a2 := a 0 i h0 hi
    unfold gaps0 at a1 a2
    rw [p0] at a1 a2
    simp only [true_or, if_true] at a2
    refine ⟨by omega, ?_⟩
    split at a1
    · omega
    · omega
theorem gaps_fold {n : Nat} : ∀ (rows : List Rw) (g : Gp) (Pl : (Nat → Int) → Prop), Closed n g → Tells n g Pl → (∀ r ∈ rows, r.one < n ∧ r.other < n) →
    match rows.foldlM narrowO g with
    | some g' => Closed n g' ∧ Tells n g' fun p => Pl p ∧ ∀ r ∈ rows, Holds p r
    | none => ∀ p, p 0 = 0 → ¬ (Pl p ∧ ∀ r ∈ rows, Holds p r)
  | [], g, Pl, c, t, _ => by
    show Closed n g ∧ Tells n g _
    refine ⟨c, fun p p0 => ?_⟩
    rw [← t p p0]
    exact ⟨fun a => a.1, fun a => ⟨a, fun r hr => by cases hr⟩⟩
  | r :: rows, g, Pl, c, t, hn => by
    obtain ⟨h1, h2⟩ := hn r List.mem_cons_self
    have hn' : ∀ r ∈ rows, r.one < n ∧ r.other < n := fun q hq => hn q (List.mem_cons_of_mem _ hq)
    have fin : ∀ p, ((Pl p ∧ Holds p r) ∧ ∀ q ∈ rows, Holds p q) ↔ (Pl p ∧ ∀ q ∈ r :: rows, Holds p q) := fun p => by
      rw [List.forall_mem_cons, and_assoc]
    have step : ∀ g' : Gp, Closed n g' → Tells n g' (fun p => Pl p ∧ Holds p r) → (match rows.foldlM narrowO g' with
        | some g' => Closed n g' ∧ Tells n g' fun p => Pl p ∧ ∀ q ∈ r :: rows, Holds p q
        | none => ∀ p, p 0 = 0 → ¬ (Pl p ∧ ∀ q ∈ r :: rows, Holds p q)) := fun g' c' t' => by
      have ih := gaps_fold rows g' _ c' t' hn'
      match e : rows.foldlM narrowO g' with
      | some g2 =>
        rw [e] at ih
        exact ⟨ih.1, fun p p0 => (fin p).symm.trans (ih.2 p p0)⟩
      | none =>
        rw [e] at ih
        exact fun p p0 a => ih p p0 ((fin p).mpr a)
    rw [List.foldlM_cons]
    unfold narrowO
    by_cases z1 : g r.one r.other ≤ r.most
    · rw [if_pos z1]
      exact step g c (narrow_same t h1 h2 z1)
    · rw [if_neg z1]
      by_cases z2 : g r.other r.one + r.most < 0
      · rw [if_pos z2]
        show ∀ p : Nat → Int, p 0 = 0 → ¬ _
        exact fun p p0 a => narrow_none t h1 h2 z2 p p0 ⟨a.1, a.2 r List.mem_cons_self⟩
      · rw [if_neg z2]
        exact step _ (narrow_closed c h1 h2 (by omega)) (narrow_tells c t h1 h2)
end ZM

/-! More of zones: how the rows of a way back hang together; rings are not kept by placings. -/
namespace ZM
theorem sweeps_other {rows : List Rw} {n st : Nat} (hrows : ∀ r ∈ rows, r.one ≠ r.other) (h0 : 0 < n) : ∀ v r, (sweeps rows n (first st)).l v = some r → r ∈ rows ∧ r.other = v := by
  obtain ⟨m, rfl⟩ : ∃ m, n = m + 1 := ⟨n - 1, by omega⟩
  obtain ⟨k', ⟨τ, c, now, h⟩, _⟩ := sweeps_done hrows m 1 (first st) _ _ _ (Nat.le_refl _) (first_bi rows st)
  exact fun v r e => ⟨(h.ptr v r e).1, (h.ptr v r e).2.1⟩
theorem bk_link {l : Nat → Option Rw} (hp : ∀ v r, l v = some r → r.other = v) {v w : Nat} {rs : List Rw} (b : Bk l v rs w) : (∀ r, rs[0]? = some r → r.other = v) ∧ (∀ (k : Nat) (a c : Rw), rs[k]? = some a → rs[k + 1]? = some c → c.other = a.one) ∧ (∀ r, rs[rs.length - 1]? = some r → r.one = w) ∧ rs ≠ [] := by
  induction b with
  | one h => exact ⟨fun r e => by cases e; exact hp _ _ h, fun k a c e1 e2 => by simp at e2, fun r e => by cases e; rfl, by simp⟩
  | cons h b ih =>
    obtain ⟨h1, h2, h3, h4⟩ := ih
    refine ⟨fun r e => by cases e; exact hp _ _ h, fun k a c e1 e2 => ?_, fun r e => ?_, by simp⟩
    · match k, e1, e2 with
      | 0, e1, e2 =>
        cases e1
        exact h1 c (by simpa using e2)
      | k + 1, e1, e2 => exact h2 k a c (by simpa using e1) (by simpa using e2)
    · rename_i rs w
      have hl : 0 < rs.length := List.length_pos_iff.mpr h4
      rw [List.length_cons, show rs.length + 1 - 1 = (rs.length - 1) + 1 by omega, List.getElem?_cons_succ] at e
      exact h3 r e
theorem bk_sumle {l : Nat → Option Rw} (hp : ∀ v r, l v = some r → r.other = v) {p : Nat → Int} {v w : Nat} {rs : List Rw} (b : Bk l v rs w) (hh : ∀ r ∈ rs, Holds p r) : p w - p v ≤ sum rs := by
  induction b with
  | one e =>
    have := hh _ List.mem_cons_self
    unfold Holds at this
    rw [hp _ _ e] at this
    simp only [sum]
    omega
  | cons e b ih =>
    have h1 := hh _ List.mem_cons_self
    have h2 := ih fun r hr => hh r (List.mem_cons_of_mem _ hr)
    unfold Holds at h1
    rw [hp _ _ e] at h1
    simp only [sum]
    omega
theorem sum_eq : ∀ rs : List Rw, sum rs = (rs.map Rw.most).sum
  | [] => rfl
  | r :: rs => by rw [List.map_cons, List.sum_cons, sum, sum_eq rs]
/-- the rows of a zone and its walls are kept just by its placings -/
theorem In_walls {n : Nat} {w : Int} {p : Nat → Int} (p0 : p 0 = 0) (hw : 0 ≤ w) (rows : List Rw) (hwalls : ∀ i, 0 < i → i < n → ⟨i, 0, w⟩ ∈ rows ∧ ⟨0, i, 0⟩ ∈ rows) (h : ∀ r ∈ rows, Holds p r) : In n w p := fun i hi => by
  by_cases c : i = 0
  · subst c
    rw [p0]
    exact ⟨Int.le_refl 0, hw⟩
  · obtain ⟨h1, h2⟩ := hwalls i (by omega) hi
    have a := h _ h1
    have b := h _ h2
    unfold Holds at a b
    simp only at a b
    rw [p0] at a b
    exact ⟨by omega, by omega⟩
theorem zone_some {n : Nat} {w : Int} {rows : List Rw} (h0 : 0 < n) (hw : 0 ≤ w) (hn : ∀ r ∈ rows, r.one < n ∧ r.other < n) {g : Gp} (e : gapsOf w rows = some g) : Closed n g ∧ Tells n g fun p => In n w p ∧ ∀ r ∈ rows, Holds p r := by
  have := gaps_fold rows (gaps0 w) (In n w) (gaps0_closed hw) (gaps0_tells h0 hw) hn
  unfold gapsOf at e
  rw [e] at this
  exact this
theorem zone_none {n : Nat} {w : Int} {rows : List Rw} (h0 : 0 < n) (hw : 0 ≤ w) (hn : ∀ r ∈ rows, r.one < n ∧ r.other < n) (e : gapsOf w rows = none) : ∀ p, p 0 = 0 → ¬ (In n w p ∧ ∀ r ∈ rows, Holds p r) := by
  have := gaps_fold rows (gaps0 w) (In n w) (gaps0_closed hw) (gaps0_tells h0 hw) hn
  unfold gapsOf at e
  rw [e] at this
  exact this
theorem zone_has {n : Nat} {w : Int} {rows : List Rw} (h0 : 0 < n) (hw : 0 ≤ w) (hn : ∀ r ∈ rows, r.one < n ∧ r.other < n) {p : Nat → Int} (p0 : p 0 = 0) (hp : In n w p) (hh : ∀ r ∈ rows, Holds p r) : ∃ g, gapsOf w rows = some g := by
  cases e : gapsOf w rows with
  | some g => exact ⟨g, rfl⟩
  | none => exact absurd ⟨hp, hh⟩ (zone_none h0 hw hn e p p0)
end ZM

set_option linter.all false
/-! Placings one behind the other, in the order of their places. -/
namespace ZM
abbrev plc (xs : List Int) (i : Nat) : Int := xs.getD i 0
structure Plx (n : Nat) (g : Gp) (xs : List Int) : Prop where
  len : xs.length = n
  zero : plc xs 0 = 0
  all : ∀ i j, i < n → j < n → plc xs i - plc xs j ≤ g i j
def LeastAt (g : Gp) (ys : List Int) (i : Nat) : Prop := (∃ a, a < i ∧ plc ys i = plc ys a - g a i) ∧ ∀ a, a < i → plc ys a - g a i ≤ plc ys i
def RoomAt (g : Gp) (xs : List Int) (j : Nat) : Prop := ∀ a, a < j → plc xs j < plc xs a + g j a
def Full (g : Gp) (xs : List Int) (i : Nat) : Prop := ∃ a, a < i ∧ plc xs a + g i a ≤ plc xs i
def Nxt (n : Nat) (g : Gp) (xs ys : List Int) : Prop := ∃ j, 1 ≤ j ∧ j < n ∧ RoomAt g xs j ∧ (∀ i, j < i → i < n → Full g xs i) ∧ ys.length = n ∧ (∀ a, a < j → plc ys a = plc xs a) ∧ plc ys j = plc xs j + 1 ∧ ∀ i, j < i → i < n → LeastAt g ys i
def EndX (n : Nat) (g : Gp) (xs : List Int) : Prop := ∀ i, 1 ≤ i → i < n → Full g xs i
def First (n : Nat) (g : Gp) (xs : List Int) : Prop := xs.length = n ∧ plc xs 0 = 0 ∧ ∀ i, 1 ≤ i → i < n → LeastAt g xs i
def LtX (n : Nat) (p q : List Int) : Prop := ∃ k, k < n ∧ (∀ i, i < k → plc p i = plc q i) ∧ plc p k < plc q k
section
variable {n : Nat} {g : Gp} {xs ys qs : List Int}
/-- a good beginning goes on well -/
theorem ext_ok (c : Closed n g) {k : Nat} (h : ∀ i j, i < k → j < k → plc ys i - plc ys j ≤ g i j) (hk : k ≤ n) (hl : ∀ i, k ≤ i → i < n → LeastAt g ys i) : ∀ m, k ≤ m → m ≤ n → ∀ i j, i < m → j < m → plc ys i - plc ys j ≤ g i j := by
  intro m
  induction m with
  | zero => intro _ _ i j hi; omega
  | succ m ih =>
    intro hkm hm i j hi hj
    by_cases e : k = m + 1
    · exact h i j (by omega) (by omega)
    have ih' := ih (by omega) (by omega)
    obtain ⟨⟨b, hb, eb⟩, all⟩ := hl m (by omega) (by omega)
    rcases Nat.lt_or_ge i m with h1 | h1
    · rcases Nat.lt_or_ge j m with h2 | h2
      · exact ih' i j h1 h2
      · obtain rfl : j = m := by omega
        have := all i h1
        omega
    · obtain rfl : i = m := by omega
      rcases Nat.lt_or_ge j i with h2 | h2
      · have h3 := ih' b j hb h2
        have h4 := c.tri b i j (by omega) (by omega) (by omega)
        omega
      · obtain rfl : j = i := by omega
        have := c.self j (by omega)
        omega
/-- .. and is the least that goes on so -/
theorem ext_least (hq : ∀ i j, i < n → j < n → plc qs i - plc qs j ≤ g i j) {k : Nat} (h : ∀ a, a < k → plc ys a ≤ plc qs a) (hl : ∀ i, k ≤ i → i < n → LeastAt g ys i) : ∀ i, i < n → plc ys i ≤ plc qs i := by
  intro i
  induction i using Nat.strongRecOn with
  | ind i ih =>
    intro hi
    rcases Nat.lt_or_ge i k with h1 | h1
    · exact h i h1
    · obtain ⟨⟨b, hb, eb⟩, _⟩ := hl i h1 hi
      have h2 := ih b hb (by omega)
      have h3 := hq b i (by omega) hi
      omega
theorem Nxt.plx (c : Closed n g) (p : Plx n g xs) (h : Nxt n g xs ys) : Plx n g ys := by
  obtain ⟨j, h1, hj, rm, fl, hl, pre, ej, le⟩ := h
  have base : ∀ i k, i < j + 1 → k < j + 1 → plc ys i - plc ys k ≤ g i k := fun i k hi hk => by
    rcases Nat.lt_or_ge i j with a | a
    · rcases Nat.lt_or_ge k j with b | b
      · rw [pre i a, pre k b]
        exact p.all i k (by omega) (by omega)
      · obtain rfl : k = j := by omega
        rw [pre i a, ej]
        have := p.all i k (by omega) hj
        omega
    · obtain rfl : i = j := by omega
      rcases Nat.lt_or_ge k i with b | b
      · rw [pre k b, ej]
        have := rm k b
        omega
      · obtain rfl : k = i := by omega
        have := c.self k (by omega)
        omega
  exact ⟨hl, by rw [pre 0 (by omega)]; exact p.zero, ext_ok c base (by omega) (fun i a b => le i (by omega) b) n (by omega) (Nat.le_refl _)⟩
theorem First.plx (c : Closed n g) (h0 : 0 < n) (h : First n g xs) : Plx n g xs := by
  refine ⟨h.1, h.2.1, ext_ok c (k := 1) (fun i j hi hj => ?_) (by omega) (fun i a b => h.2.2 i a b) n (by omega) (Nat.le_refl _)⟩
  obtain rfl : i = 0 := by omega
  obtain rfl : j = 0 := by omega
  have := c.self 0 h0
  omega
theorem First.least (h : First n g xs) (q : Plx n g qs) : ∀ i, i < n → plc xs i ≤ plc qs i := ext_least q.all (k := 1) (fun a ha => by
  obtain rfl : a = 0 := by omega
  rw [h.2.1, q.zero]
  exact Int.le_refl _) fun i a b => h.2.2 i a b
theorem Nxt.lt (h : Nxt n g xs ys) : LtX n xs ys := by
  obtain ⟨j, h1, hj, rm, fl, hl, pre, ej, le⟩ := h
  exact ⟨j, hj, fun i hi => (pre i hi).symm, by omega⟩
theorem full_stop (hq : ∀ i j, i < n → j < n → plc qs i - plc qs j ≤ g i j) {i : Nat} (hi : i < n) (f : Full g xs i) (e : ∀ a, a < i → plc qs a = plc xs a) : plc qs i ≤ plc xs i := by
  obtain ⟨a, ha, h⟩ := f
  have h1 := hq i a hi (by omega)
  rw [e a ha] at h1
  omega
theorem least_stop (hq : ∀ i j, i < n → j < n → plc qs i - plc qs j ≤ g i j) {i : Nat} (hi : i < n) (f : LeastAt g xs i) (e : ∀ a, a < i → plc qs a = plc xs a) : plc xs i ≤ plc qs i := by
  obtain ⟨⟨a, ha, h⟩, _⟩ := f
  have h1 := hq a i (by omega) hi
  rw [e a ha] at h1
  omega
theorem EndX.max (p : Plx n g xs) (h : EndX n g xs) (q : Plx n g qs) : ¬ LtX n xs qs := fun ⟨k, hk, e, l⟩ => by
  by_cases k0 : k = 0
  · subst k0
    rw [p.zero, q.zero] at l
    omega
  · have := full_stop q.all hk (h k (by omega) hk) fun a ha => (e a ha).symm
    omega
/-- between one and the next there is none -/
theorem Nxt.tight (p : Plx n g xs) (h : Nxt n g xs ys) (q : Plx n g qs) (l : LtX n xs qs) : (∀ i, i < n → plc qs i = plc ys i) ∨ LtX n ys qs := by
  obtain ⟨j, h1, hj, rm, fl, hl, pre, ej, le⟩ := h
  obtain ⟨k, hk, e, lk⟩ := l
  have hkj : k ≤ j := by
    rcases Nat.lt_or_ge j k with a | a
    · have := full_stop q.all hk (fl k a hk) fun b hb => (e b hb).symm
      omega
    · exact a
  rcases Nat.lt_or_ge k j with a | a
  · exact .inr ⟨k, hk, fun i hi => by rw [pre i (by omega)]; exact e i hi, by rw [pre k a]; exact lk⟩
  · obtain rfl : k = j := by omega
    by_cases ek : plc qs k = plc xs k + 1
    · have ge : ∀ i, i < n → plc ys i ≤ plc qs i := ext_least q.all (k := k + 1) (fun b hb => by
        rcases Nat.lt_or_ge b k with c | c
        · rw [pre b c, e b c]; exact Int.le_refl _
        · obtain rfl : b = k := by omega
          omega) fun i c d => le i (by omega) d
      by_cases all : ∀ i, i < n → plc qs i = plc ys i
      · exact .inl all
      · -- the first place where they part
        have : ∃ m, m < n ∧ plc qs m ≠ plc ys m := Classical.byContradiction fun no => all fun i hi => Classical.byContradiction fun z => no ⟨i, hi, z⟩
        obtain ⟨m, hm⟩ := this
        right
        have find : ∀ m, m < n → plc qs m ≠ plc ys m → LtX n ys qs := by
          intro m
          induction m using Nat.strongRecOn with
          | ind m ih =>
            intro hm hne
            by_cases ex : ∃ m', m' < m ∧ plc qs m' ≠ plc ys m'
            · obtain ⟨m', h1', h2'⟩ := ex
              exact ih m' h1' (by omega) h2'
            · refine ⟨m, hm, fun i hi => Classical.byContradiction fun z => ex ⟨i, hi, fun w => z w.symm⟩, ?_⟩
              have := ge m hm
              omega
        exact find m hm.1 hm.2
    · exact .inr ⟨k, hk, fun i hi => by rw [pre i hi]; exact e i hi, by omega⟩
/-! ### the walk -/
inductive Wlk (n : Nat) (g : Gp) : List Int → List (List Int) → Prop
  | last {xs : List Int} : EndX n g xs → Wlk n g xs []
  | next {xs ys : List Int} {rest : List (List Int)} : Nxt n g xs ys → Wlk n g ys rest → Wlk n g xs (ys :: rest)
theorem list_eq {p q : List Int} (hp : p.length = n) (hq : q.length = n) (h : ∀ i, i < n → plc p i = plc q i) : p = q := by
  refine List.ext_getElem (by rw [hp, hq]) fun i h1 h2 => ?_
  have e := h i (by omega)
  simp only [plc, List.getD_eq_getElem?_getD, List.getElem?_eq_getElem h1, List.getElem?_eq_getElem h2, Option.getD_some] at e
  exact e
theorem Wlk.has {rest : List (List Int)} (c : Closed n g) (w : Wlk n g xs rest) (p : Plx n g xs) (q : Plx n g qs) (l : LtX n xs qs) : qs ∈ rest := by
  induction w with
  | last e => exact absurd l (e.max p q)
  | next nx w ih =>
    rcases nx.tight p q l with e | l'
    · rw [list_eq q.len (nx.plx c p).len e]
      exact List.mem_cons_self
    · exact List.mem_cons_of_mem _ (ih (nx.plx c p) l')
theorem parts (h : ∀ i, i < n → plc xs i ≤ plc qs i) (hx : xs.length = n) (hq : qs.length = n) : qs = xs ∨ LtX n xs qs := by
  by_cases all : ∀ i, i < n → plc qs i = plc xs i
  · exact .inl (list_eq hq hx all)
  · obtain ⟨m, hm, hne⟩ : ∃ m, m < n ∧ plc qs m ≠ plc xs m := Classical.byContradiction fun no => all fun i hi => Classical.byContradiction fun z => no ⟨i, hi, z⟩
    right
    have find : ∀ m, m < n → plc qs m ≠ plc xs m → LtX n xs qs := by
      intro m
      induction m using Nat.strongRecOn with
      | ind m ih =>
        intro hm hne
        by_cases ex : ∃ m', m' < m ∧ plc qs m' ≠ plc xs m'
        · obtain ⟨m', h1', h2'⟩ := ex
          exact ih m' h1' (by omega) h2'
        · refine ⟨m, hm, fun i hi => Classical.byContradiction fun z => ex ⟨i, hi, fun w => z w.symm⟩, ?_⟩
          have := h m hm
          omega
    exact find m hm hne
/-- all placings are met -/
theorem walk_all {rest : List (List Int)} (c : Closed n g) (h0 : 0 < n) (f : First n g xs) (w : Wlk n g xs rest) (q : Plx n g qs) : qs ∈ xs :: rest := by
  rcases parts (f.least q) f.1 q.len with e | l
  · rw [e]; exact List.mem_cons_self
  · exact List.mem_cons_of_mem _ (w.has c (f.plx c h0) q l)
theorem Wlk.plx {rest : List (List Int)} (c : Closed n g) (w : Wlk n g xs rest) (p : Plx n g xs) : ∀ q ∈ rest, Plx n g q := by
  induction w with
  | last e => exact fun q hq => nomatch hq
  | next nx w ih =>
    intro q hq
    rcases List.mem_cons.mp hq with rfl | hq
    · exact nx.plx c p
    · exact ih (nx.plx c p) q hq
end
end ZM

set_option linter.all false
/-! There is a walk through all placings. -/
namespace ZM
section
variable {n : Nat} {g : Gp}
theorem max_ex (f : Nat → Int) : ∀ k, 1 ≤ k → ∃ a, a < k ∧ ∀ b, b < k → f b ≤ f a := by
  intro k
  induction k with
  | zero => intro h; omega
  | succ k ih =>
    intro _
    by_cases k0 : k = 0
    · subst k0
      exact ⟨0, by omega, fun b hb => by obtain rfl : b = 0 := by omega
                                         exact Int.le_refl _⟩
    · obtain ⟨a, ha, h⟩ := ih (by omega)
      by_cases c : f a ≤ f k
      · exact ⟨k, by omega, fun b hb => by
          rcases Nat.lt_or_ge b k with d | d
          · have := h b d; omega
          · obtain rfl : b = k := by omega
            exact Int.le_refl _⟩
      · exact ⟨a, by omega, fun b hb => by
          rcases Nat.lt_or_ge b k with d | d
          · exact h b d
          · obtain rfl : b = k := by omega
            omega⟩
theorem plc_take {xs ys : List Int} {k i : Nat} (h : ys.take k = xs) (hi : i < k) : plc ys i = plc xs i := by
  unfold plc
  rw [List.getD_eq_getElem?_getD, List.getD_eq_getElem?_getD, ← h, List.getElem?_take_of_lt hi]
theorem plc_app {xs : List Int} {v : Int} {i : Nat} : plc (xs ++ [v]) i = if i < xs.length then plc xs i else if i = xs.length then v else 0 := by
  unfold plc
  rw [List.getD_eq_getElem?_getD, List.getD_eq_getElem?_getD]
  by_cases c : i < xs.length
  · rw [if_pos c, List.getElem?_append_left c]
  · rw [if_neg c, List.getElem?_append_right (by omega)]
    by_cases d : i = xs.length
    · rw [if_pos d, d]
      simp
    · rw [if_neg d, List.getElem?_eq_none (by simp; omega)]
      rfl
theorem least_take {xs ys : List Int} {k i : Nat} (h : ys.take k = xs) (hi : i < k) : LeastAt g ys i ↔ LeastAt g xs i := by
  have e := fun j (hj : j < k) => plc_take h hj
  unfold LeastAt
  constructor
  · rintro ⟨⟨a, ha, q⟩, r⟩
    refine ⟨⟨a, ha, ?_⟩, fun b hb => ?_⟩
    · rw [← e i hi, ← e a (by omega)]; exact q
    · rw [← e i hi, ← e b (by omega)]; exact r b hb
  · rintro ⟨⟨a, ha, q⟩, r⟩
    refine ⟨⟨a, ha, ?_⟩, fun b hb => ?_⟩
    · rw [e i hi, e a (by omega)]; exact q
    · rw [e i hi, e b (by omega)]; exact r b hb
theorem ext_ex (g : Gp) (n : Nat) : ∀ (m : Nat) (xs : List Int), xs.length + m = n → 1 ≤ xs.length → ∃ ys, ys.length = n ∧ ys.take xs.length = xs ∧ ∀ i, xs.length ≤ i → i < n → LeastAt g ys i := by
  intro m
  induction m with
  | zero => exact fun xs h _ => ⟨xs, h, List.take_length, fun i a b => by omega⟩
  | succ m ih =>
    intro xs h h1
    obtain ⟨a, ha, hm⟩ := max_ex (fun a => plc xs a - g a xs.length) xs.length h1
    obtain ⟨ys, l, t, le⟩ := ih (xs ++ [plc xs a - g a xs.length]) (by simp; omega) (by simp)
    have hl : (xs ++ [plc xs a - g a xs.length]).length = xs.length + 1 := by simp
    rw [hl] at t le
    refine ⟨ys, l, ?_, fun i hi hn => ?_⟩
    · have e := congrArg (List.take xs.length) t
      rw [List.take_take, Nat.min_eq_left (by omega), List.take_left'  rfl] at e
      exact e
    · rcases Nat.lt_or_ge xs.length i with c | c
      · exact le i (by omega) hn
      · obtain rfl : i = xs.length := by omega
        rw [least_take t (by omega)]
        refine ⟨⟨a, ha, ?_⟩, fun b hb => ?_⟩
        · rw [plc_app, plc_app, if_pos ha, if_neg (by omega), if_pos rfl]
        · rw [plc_app, plc_app, if_pos hb, if_neg (by omega), if_pos rfl]
          exact hm b hb
theorem last_ex (p : Nat → Prop) : ∀ n, (∃ i, i < n ∧ p i) → ∃ j, j < n ∧ p j ∧ ∀ i, j < i → i < n → ¬ p i := by
  intro n
  induction n with
  | zero => exact fun ⟨i, h, _⟩ => by omega
  | succ n ih =>
    intro ⟨i, hi, q⟩
    by_cases c : p n
    · exact ⟨n, by omega, c, fun i a b => by omega⟩
    · obtain ⟨j, h1, h2, h3⟩ := ih ⟨i, by
        rcases Nat.lt_or_ge i n with d | d
        · exact d
        · obtain rfl : i = n := by omega
          exact absurd q c, q⟩
      exact ⟨j, by omega, h2, fun i a b => by
        rcases Nat.lt_or_ge i n with d | d
        · exact h3 i a d
        · obtain rfl : i = n := by omega
          exact c⟩
theorem room_of {xs : List Int} {j : Nat} (h : ¬ Full g xs j) : RoomAt g xs j := fun a ha => by
  by_cases c : plc xs a + g j a ≤ plc xs j
  · exact absurd ⟨a, ha, c⟩ h
  · omega
theorem next_ex {xs : List Int} (hx : xs.length = n) : EndX n g xs ∨ ∃ ys, Nxt n g xs ys := by
  by_cases ex : ∃ i, i < n ∧ (1 ≤ i ∧ ¬ Full g xs i)
  · right
    obtain ⟨j, hj, ⟨h1, nf⟩, h3⟩ := last_ex _ n ex
    have hl : (xs.take j ++ [plc xs j + 1]).length = j + 1 := by simp; omega
    obtain ⟨ys, l, t, le⟩ := ext_ex g n (n - (j + 1)) (xs.take j ++ [plc xs j + 1]) (by omega) (by omega)
    rw [hl] at t le
    have ht : (xs.take j).length = j := by simp; omega
    refine ⟨ys, j, h1, hj, room_of nf, fun i a b => Classical.byContradiction fun z => h3 i a b ⟨by omega, z⟩, l, fun a ha => ?_, ?_, fun i a b => le i (by omega) b⟩
    · rw [plc_take t (by omega), plc_app, ht, if_pos ha]
      exact (plc_take rfl ha).symm
    · rw [plc_take t (by omega), plc_app, ht, if_neg (by omega), if_pos rfl]
  · exact .inl fun i a b => Classical.byContradiction fun z => ex ⟨i, b, a, z⟩
theorem LtX.trans {p q r : List Int} (h : LtX n p q) (h' : LtX n q r) : LtX n p r := by
  obtain ⟨k, hk, e, l⟩ := h
  obtain ⟨m, hm, e', l'⟩ := h'
  rcases Nat.lt_trichotomy k m with c | c | c
  · exact ⟨k, hk, fun i hi => (e i hi).trans (e' i (by omega)), by rw [← e' k c]; exact l⟩
  · subst c
    exact ⟨k, hk, fun i hi => (e i hi).trans (e' i hi), by omega⟩
  · exact ⟨m, hm, fun i hi => (e i (by omega)).trans (e' i hi), by rw [e m c]; exact l'⟩
theorem LtX.irr {p : List Int} (h : LtX n p p) : False := by
  obtain ⟨k, _, _, l⟩ := h
  omega
/-- all rows of places -/
def allL (wd : Nat) : Nat → List (List Int)
  | 0 => [[]]
  | n + 1 => (allL wd n).flatMap fun xs => (List.range (wd + 1)).map fun (i : Nat) => xs ++ [(i : Int)]
theorem mem_allL {wd : Nat} : ∀ {n : Nat} {xs : List Int}, xs.length = n → (∀ i, i < n → 0 ≤ plc xs i ∧ plc xs i ≤ wd) → xs ∈ allL wd n := by
  intro n
  induction n with
  | zero =>
    intro xs h _
    rw [List.length_eq_zero_iff.mp h]
    exact List.mem_cons_self
  | succ n ih =>
    intro xs h b
    have e : xs = xs.take n ++ [plc xs n] := by
      have h1 := List.take_append_drop n xs
      have h2 : xs.drop n = [plc xs n] := by
        rw [List.drop_eq_getElem_cons (by omega), List.drop_eq_nil_of_le (by omega)]
        simp only [plc, List.getD_eq_getElem?_getD, List.getElem?_eq_getElem (show n < xs.length by omega), Option.getD_some]
      rw [h2] at h1
      exact h1.symm
    rw [e]
    refine List.mem_flatMap.mpr ⟨xs.take n, ih (by simp; omega) fun i hi => ?_, List.mem_map.mpr ⟨(plc xs n).toNat, List.mem_range.mpr ?_, ?_⟩⟩
    · rw [← plc_take rfl hi]
      exact b i (by omega)
    · have := b n (by omega)
      omega
    · have := b n (by omega)
      rw [show (((plc xs n).toNat : Nat) : Int) = plc xs n by omega]
open Classical in
theorem count_lt {α : Type} {l : List α} {p q : α → Prop} (h : ∀ x, p x → q x) (hx : ∃ x, x ∈ l ∧ q x ∧ ¬ p x) : (l.filter fun x => decide (p x)).length < (l.filter fun x => decide (q x)).length := by
  have le : ∀ l : List α, (l.filter fun x => decide (p x)).length ≤ (l.filter fun x => decide (q x)).length := by
    intro l
    induction l with
    | nil => exact Nat.le_refl _
    | cons x l ih =>
      rw [List.filter_cons, List.filter_cons]
      by_cases c : p x
      · rw [if_pos (decide_eq_true c), if_pos (decide_eq_true (h x c))]
        exact Nat.succ_le_succ ih
      · rw [if_neg (by simpa using c)]
        by_cases d : q x
        · rw [if_pos (decide_eq_true d)]
          exact Nat.le_succ_of_le ih
        · rw [if_neg (by simpa using d)]
          exact ih
  induction l with
  | nil => obtain ⟨x, hx, _⟩ := hx; exact nomatch hx
  | cons y l ih =>
    rw [List.filter_cons, List.filter_cons]
    obtain ⟨x, hm, hq, hp⟩ := hx
    rcases List.mem_cons.mp hm with rfl | hm
    · rw [if_neg (by simpa using hp), if_pos (decide_eq_true hq)]
      exact Nat.lt_succ_of_le (le l)
    · have r := ih ⟨x, hm, hq, hp⟩
      by_cases c : p y
      · rw [if_pos (decide_eq_true c), if_pos (decide_eq_true (h y c))]
        exact Nat.succ_lt_succ r
      · rw [if_neg (by simpa using c)]
        by_cases d : q y
        · rw [if_pos (decide_eq_true d)]
          exact Nat.lt_succ_of_lt r
        · rw [if_neg (by simpa using d)]
          exact r
open Classical in
/-- from each placing a walk goes on to the end -/
theorem walk_ex (c : Closed n g) {wd : Nat} (hb : ∀ q, Plx n g q → ∀ i, i < n → 0 ≤ plc q i ∧ plc q i ≤ wd) : ∀ xs, Plx n g xs → ∃ rest, Wlk n g xs rest := by
  have key : ∀ (m : Nat) (xs : List Int), ((allL wd n).filter fun q => decide (LtX n xs q)).length = m → Plx n g xs → ∃ rest, Wlk n g xs rest := by
    intro m
    induction m using Nat.strongRecOn with
    | ind m ih =>
      intro xs em p
      rcases next_ex (g := g) p.len with e | ⟨ys, nx⟩
      · exact ⟨[], .last e⟩
      · have py := nx.plx c p
        have lt := count_lt (l := allL wd n) (p := fun q => LtX n ys q) (q := fun q => LtX n xs q) (fun q h => nx.lt.trans h) ⟨ys, mem_allL py.len (hb ys py), nx.lt, fun h => h.irr⟩
        obtain ⟨rest, w⟩ := ih _ (by rw [em] at lt; exact lt) ys rfl py
        exact ⟨ys :: rest, .next nx w⟩
  exact fun xs p => key _ xs rfl p
theorem first_ex (g : Gp) {n : Nat} (h0 : 0 < n) : ∃ xs, First n g xs := by
  obtain ⟨ys, l, t, le⟩ := ext_ex g n (n - 1) [0] (by simp; omega) (by simp)
  refine ⟨ys, l, ?_, fun i a b => le i a b⟩
  rw [plc_take t (by simp)]
  rfl
end
end ZM

set_option linter.all false
namespace ZM
section
variable {n : Nat} {g : Gp} {xs ys zs : List Int}
theorem least_same {i : Nat} (e : ∀ a, a < i → plc ys a = plc zs a) (h : LeastAt g ys i) (h' : LeastAt g zs i) : plc ys i = plc zs i := by
  obtain ⟨⟨a, ha, q⟩, r⟩ := h
  obtain ⟨⟨b, hb, q'⟩, r'⟩ := h'
  have h1 := r b hb
  have h2 := r' a ha
  rw [e b hb] at h1
  rw [← e a ha] at h2
  omega
theorem same_from {k : Nat} (e : ∀ a, a < k → plc ys a = plc zs a) (h : ∀ i, k ≤ i → i < n → LeastAt g ys i) (h' : ∀ i, k ≤ i → i < n → LeastAt g zs i) : ∀ i, i < n → plc ys i = plc zs i := by
  intro i
  induction i using Nat.strongRecOn with
  | ind i ih =>
    intro hi
    rcases Nat.lt_or_ge i k with c | c
    · exact e i c
    · exact least_same (fun a ha => ih a ha (by omega)) (h i c hi) (h' i c hi)
theorem First.uniq (h : First n g ys) (h' : First n g zs) : ys = zs := by
  refine list_eq h.1 h'.1 (same_from (k := 1) (fun a ha => ?_) (fun i a b => h.2.2 i a b) fun i a b => h'.2.2 i a b)
  obtain rfl : a = 0 := by omega
  rw [h.2.1, h'.2.1]
theorem not_both {j : Nat} (f : Full g xs j) (r : RoomAt g xs j) : False := by
  obtain ⟨a, ha, q⟩ := f
  have := r a ha
  omega
theorem Nxt.uniq (h : Nxt n g xs ys) (h' : Nxt n g xs zs) : ys = zs := by
  obtain ⟨j, h1, hj, rm, fl, hl, pre, ej, le⟩ := h
  obtain ⟨j', h1', hj', rm', fl', hl', pre', ej', le'⟩ := h'
  obtain rfl : j = j' := by
    rcases Nat.lt_trichotomy j j' with c | c | c
    · exact (not_both (fl j' c hj') rm').elim
    · exact c
    · exact (not_both (fl' j c hj) rm).elim
  refine list_eq hl hl' (same_from (k := j + 1) (fun a ha => ?_) (fun i a b => le i (by omega) b) fun i a b => le' i (by omega) b)
  rcases Nat.lt_or_ge a j with c | c
  · rw [pre a c, pre' a c]
  · obtain rfl : a = j := by omega
    rw [ej, ej']
theorem Nxt.noEnd (h : Nxt n g xs ys) (e : EndX n g xs) : False := by
  obtain ⟨j, h1, hj, rm, _⟩ := h
  exact not_both (e j h1 hj) rm
theorem first_of {ys : List Int} (hl : ys.length = n) (ht : ys.take 1 = [0]) (h : ∀ i, 1 ≤ i → i < n → LeastAt g ys i) : First n g ys := ⟨hl, by rw [plc_take ht (by decide)]; rfl, h⟩
end
end ZM

set_option Elab.async false
set_option linter.all false
set_option maxRecDepth 100000
set_option maxHeartbeats 1000000
/-! # code that runs while generators sleep: they are not woken by it (so they may be thought of as going nowhere) -/
namespace JQ
open PySem
open Sem (wp)
/-- a sleeper that can't be woken -/
abbrev deadK : Resume → Sem Fin := fun _ => .unsupported ""
/-- at i: asleep, and (as a says) not to be woken -/
def Mk (a b : Array GenState) (i : Nat) : Prop := ∃ k l c p fs cl, b[i]? = some (.suspended k l c p fs cl) ∧ a[i]? = some (.suspended deadK l c p fs cl)
def Nog (x : GenState) : Prop := ∀ k l c p fs cl, x = .suspended k l c p fs cl → splitAtGen fs = none
/-- the same generators, but that those of J can't be woken in a -/
structure GRel (J : Nat → Prop) (a b : Array GenState) : Prop where
  size : a.size = b.size
  inn : ∀ i, J i → Mk a b i
  out : ∀ i x, ¬ J i → a[i]? = some x → b[i]? = some x ∧ Nog x
structure Kp (J : Nat → Prop) (a b a' b' : Array GenState) : Prop where
  at_ : ∀ i, J i → a'[i]? = a[i]? ∧ b'[i]? = b[i]?
theorem Kp.refl {J : Nat → Prop} {a b : Array GenState} : Kp J a b a b := ⟨fun _ _ => ⟨rfl, rfl⟩⟩
theorem Kp.trans {J : Nat → Prop} {a b a' b' a2 b2 : Array GenState} (h : Kp J a b a' b') (h' : Kp J a' b' a2 b2) : Kp J a b a2 b2 := ⟨fun i m => by
  obtain ⟨h1, h2⟩ := h.at_ i m
  obtain ⟨h3, h4⟩ := h'.at_ i m
  exact ⟨h3.trans h1, h4.trans h2⟩⟩
theorem split_nil_app {fs gs : List Frame} (h : splitAtGen fs = none) (h' : splitAtGen gs = none) : splitAtGen (fs ++ gs) = none := by
  induction fs with
  | nil => exact h'
  | cons f fs ih =>
    cases f with
    | ret k hh g l c p kp =>
      have e : (splitAtGen fs).map (fun x => (Frame.ret k hh g l c p kp :: x.1, x.2.1, x.2.2)) = none := h
      have e2 : splitAtGen fs = none := by
        cases q : splitAtGen fs with
        | none => rfl
        | some z => rw [q] at e; cases e
      show (splitAtGen (fs ++ gs)).map (fun x => (Frame.ret k hh g l c p kp :: x.1, x.2.1, x.2.2)) = none
      rw [ih e2]
      rfl
    | gen g k l c p => cases h
theorem split_tail {k h g l c p kp} {fs : List Frame} (e : splitAtGen (.ret k h g l c p kp :: fs) = none) : splitAtGen fs = none := by
  cases q : splitAtGen fs with
  | none => rfl
  | some z =>
    have e : (splitAtGen fs).map (fun x => (Frame.ret k h g l c p kp :: x.1, x.2.1, x.2.2)) = none := e
    rw [q] at e
    cases e
theorem nog_end {e : End} (h : ∀ v g l k c p fs, e = .susp v g l k c p fs → splitAtGen fs = none) : Nog e.genState := by
  intro k l c p fs cl q
  cases e with
  | ret r => cases q
  | susp v g l k c p fs => cases q; exact h _ _ _ _ _ _ _ rfl
theorem unsup_no {M : Model} {Γ : Ctx} {p : Pos} {w : String} {fs : List Frame} {s s' : Shared} {e : End} (h : Runs M Γ p (.unsupported w) fs s e s') : False := by
  have h0 : ∀ {Γ : Ctx} {p : Pos} {s s' : Shared} {e : End}, ¬ Runs M Γ p (.unsupported w) [] s e s' := fun h => by cases h
  cases h with
  | segRet h _ => exact h0 h
  | segGen h _ => exact h0 h
  | segSuspOut _ h => exact h0 h
  | segSuspGen _ h _ _ => exact h0 h
theorem set_at {a : Array GenState} {g i : Nat} {x : GenState} : (a.setIfInBounds g x)[i]? = if g = i then (if i < a.size then some x else none) else a[i]? := by
  rw [Array.getElem?_setIfInBounds]
  by_cases h : g = i
  · subst h
    simp
  · rw [if_neg h, if_neg h]
section
variable {J : Nat → Prop} {a b : Array GenState}
/-- a generator that runs, or has come to its end, or sleeps again -/
theorem GRel.set (h : GRel J a b) {g : Nat} {x : GenState} (hx : Nog x) (hm : ¬ J g) : GRel J (a.setIfInBounds g x) (b.setIfInBounds g x) ∧ Kp J a b (a.setIfInBounds g x) (b.setIfInBounds g x) := by
  have kp : Kp J a b (a.setIfInBounds g x) (b.setIfInBounds g x) := ⟨fun i m => by
    have c : g ≠ i := fun z => hm (by rw [z]; exact m)
    rw [set_at, set_at, if_neg c, if_neg c]
    exact ⟨rfl, rfl⟩⟩
  refine ⟨⟨by simpa using h.size, fun i m => ?_, fun i y n hy => ?_⟩, kp⟩
  · obtain ⟨k, l, cc, p, fs, cl, h1, h2⟩ := h.inn i m
    obtain ⟨e1, e2⟩ := kp.at_ i m
    exact ⟨k, l, cc, p, fs, cl, e2.trans h1, e1.trans h2⟩
  · rw [set_at] at hy ⊢
    by_cases c : g = i
    · rw [if_pos c] at hy ⊢
      by_cases hi : i < a.size
      · rw [if_pos hi] at hy
        cases hy
        exact ⟨by rw [if_pos (by rw [← h.size]; exact hi)], hx⟩
      · rw [if_neg hi] at hy
        cases hy
    · rw [if_neg c] at hy ⊢
      exact h.out i y n hy
theorem GRel.push (h : GRel J a b) {x : GenState} (hx : Nog x) : GRel J (a.push x) (b.push x) ∧ Kp J a b (a.push x) (b.push x) := by
  have lt : ∀ {i : Nat} {y : GenState}, a[i]? = some y → i < a.size := fun e => (Array.getElem?_eq_some_iff.mp e).1
  have up : ∀ {i : Nat}, i < a.size → (a.push x)[i]? = a[i]? ∧ (b.push x)[i]? = b[i]? := fun {i} hi => by
    refine ⟨?_, ?_⟩
    · rw [Array.getElem?_push, if_neg (by omega)]
    · rw [Array.getElem?_push, if_neg (by have := h.size; omega)]
  have kp : Kp J a b (a.push x) (b.push x) := ⟨fun i m => by
    obtain ⟨k, l, cc, p, fs, cl, h1, h2⟩ := h.inn i m
    exact up (lt h2)⟩
  refine ⟨⟨by simp [h.size], fun i m => ?_, fun i y n hy => ?_⟩, kp⟩
  · obtain ⟨k, l, cc, p, fs, cl, h1, h2⟩ := h.inn i m
    obtain ⟨e1, e2⟩ := kp.at_ i m
    exact ⟨k, l, cc, p, fs, cl, e2.trans h1, e1.trans h2⟩
  · rw [Array.getElem?_push] at hy
    by_cases c : i = a.size
    · rw [if_pos c] at hy
      cases hy
      exact ⟨by rw [Array.getElem?_push, if_pos (by rw [c, h.size])], hx⟩
    · rw [if_neg c] at hy
      have hi := lt hy
      rw [(up hi).2]
      exact h.out i y n hy
theorem GRel.seen (h : GRel J a b) {g : Nat} {x : GenState} (hg : a[g]? = some x) : ∃ y, b[g]? = some y ∧ y.seen = x.seen := by
  by_cases m : J g
  · obtain ⟨k', l, c, p', fs, cl, q1, q2⟩ := h.inn g m
    rw [hg] at q2
    cases q2
    exact ⟨_, q1, rfl⟩
  · exact ⟨x, (h.out g x m hg).1, rfl⟩
theorem GRel.no (h : GRel J a b) {g : Nat} {x : GenState} (hg : a[g]? = some x) (hx : ∀ l c p fs cl, x ≠ .suspended deadK l c p fs cl) : ¬ J g := fun m => by
  obtain ⟨k, l, c, p, fs, cl, _, e⟩ := h.inn g m
  rw [hg] at e
  exact hx _ _ _ _ _ (Option.some.inj e)
end
/-- with other generators -/
abbrev gw (s : Shared) (b : Array GenState) : Shared := { s with gens := b }
/-- what was run with sleepers that can't be woken runs as well -/
theorem mask {J : Nat → Prop} {M : Model} {Γ : Ctx} {p : Pos} {t : Sem Fin} {fs : List Frame} {s s' : Shared} {e : End} (h : Runs M Γ p t fs s e s') : splitAtGen fs = none → ∀ b, GRel J s.gens b →
    (∀ v g l k c p fs, e = .susp v g l k c p fs → splitAtGen fs = none) ∧ ∃ b', Runs M Γ p t fs (gw s b) e (gw s' b') ∧ GRel J s'.gens b' ∧ Kp J s.gens b s'.gens b' := by
  induction h with
  | done => exact fun _ b r => ⟨fun _ _ _ _ _ _ _ q => (nomatch q), b, .done, r, .refl⟩
  | raise => exact fun _ b r => ⟨fun _ _ _ _ _ _ _ q => (nomatch q), b, .raise, r, .refl⟩
  | again hq _ ih => exact fun z b r => let ⟨h1, b', h2, h3, h4⟩ := ih z b r; ⟨h1, b', .again hq h2, h3, h4⟩
  | rule _ ih => exact fun z b r => let ⟨h1, b', h2, h3, h4⟩ := ih z b r; ⟨h1, b', .rule h2, h3, h4⟩
  | «at» _ ih => exact fun z b r => let ⟨h1, b', h2, h3, h4⟩ := ih z b r; ⟨h1, b', .at h2, h3, h4⟩
  | load ho _ ih => exact fun z b r => let ⟨h1, b', h2, h3, h4⟩ := ih z b r; ⟨h1, b', .load ho h2, h3, h4⟩
  | update ho _ ih => exact fun z b r => let ⟨h1, b', h2, h3, h4⟩ := ih z b r; ⟨h1, b', .update ho h2, h3, h4⟩
  | loadIfAlive _ ih => exact fun z b r => let ⟨h1, b', h2, h3, h4⟩ := ih z b r; ⟨h1, b', .loadIfAlive h2, h3, h4⟩
  | point _ ih => exact fun z b r => let ⟨h1, b', h2, h3, h4⟩ := ih z b r; ⟨h1, b', .point h2, h3, h4⟩
  | alloc _ ih => exact fun z b r => let ⟨h1, b', h2, h3, h4⟩ := ih z b r; ⟨h1, b', .alloc h2, h3, h4⟩
  | fresh _ ih => exact fun z b r => let ⟨h1, b', h2, h3, h4⟩ := ih z b r; ⟨h1, b', .fresh h2, h3, h4⟩
  | ask _ ih => exact fun z b r => let ⟨h1, b', h2, h3, h4⟩ := ih z b r; ⟨h1, b', .ask h2, h3, h4⟩
  | choose hn _ ih => exact fun z b r => let ⟨h1, b', h2, h3, h4⟩ := ih z b r; ⟨h1, b', .choose hn h2, h3, h4⟩
  | os _ ih => exact fun z b r => let ⟨h1, b', h2, h3, h4⟩ := ih z b r; ⟨h1, b', .os h2, h3, h4⟩
  | handled _ ih => exact fun z b r => let ⟨h1, b', h2, h3, h4⟩ := ih z b r; ⟨h1, b', .handled h2, h3, h4⟩
  | genState hg _ ih =>
    intro z b r
    obtain ⟨h1, b', h2, h3, h4⟩ := ih z b r
    obtain ⟨st', q, es⟩ := r.seen hg
    exact ⟨h1, b', .genState q (by rw [es]; exact h2), h3, h4⟩
  | stack _ ih => exact fun z b r => let ⟨h1, b', h2, h3, h4⟩ := ih z b r; ⟨h1, b', .stack h2, h3, h4⟩
  | thread _ ih => exact fun z b r => let ⟨h1, b', h2, h3, h4⟩ := ih z b r; ⟨h1, b', .thread h2, h3, h4⟩
  | newGen _ ih =>
    intro z b r
    obtain ⟨r2, k2⟩ := r.push (x := .fresh _) (fun _ _ _ _ _ _ q => (nomatch q))
    obtain ⟨h1, b', h2, h3, h4⟩ := ih z _ r2
    refine ⟨h1, b', .newGen ?_, h3, k2.trans h4⟩
    rw [r.size] at h2
    exact h2
  | call _ _ ih1 ih2 =>
    intro z b r
    obtain ⟨_, b1, h2, h3, h4⟩ := ih1 rfl b r
    obtain ⟨h5, b2, h6, h7, h8⟩ := ih2 z b1 h3
    exact ⟨h5, b2, .call h2 h6, h7, h4.trans h8⟩
  | callSusp _ ih =>
    intro z b r
    obtain ⟨h1, b1, h2, h3, h4⟩ := ih rfl b r
    refine ⟨fun _ _ _ _ _ _ _ q => ?_, b1, .callSusp h2, h3, h4⟩
    cases q
    exact split_nil_app (h1 _ _ _ _ _ _ _ rfl) rfl
  | yield => exact fun _ b r => ⟨fun _ _ _ _ _ _ _ q => by cases q; rfl, b, .yield, r, .refl⟩
  | @resumeFresh Γ p g l k s c e₁ s₁ e s' hg _ hq _ ih1 ih2 =>
    intro z b r
    have nm : ¬ J g := r.no hg (fun _ _ _ _ _ q => (nomatch q))
    obtain ⟨r1, k1⟩ := r.set (x := .running) (fun _ _ _ _ _ _ q => (nomatch q)) nm
    obtain ⟨h1, b1, h2, h3, h4⟩ := ih1 rfl _ r1
    obtain ⟨r2, k2⟩ := h3.set (x := e₁.genState) (nog_end h1) nm
    obtain ⟨h5, b2, h6, h7, h8⟩ := ih2 z _ r2
    exact ⟨h5, b2, .resumeFresh (r.out g _ nm hg).1 h2 hq h6, h7, ((k1.trans h4).trans k2).trans h8⟩
  | @resumeSuspended Γ p g rr l k s k₀ l₀ c₀ p₀ fs cl e₁ s₁ e s' hg hrun hq _ ih1 ih2 =>
    intro z b r
    by_cases nm : J g
    · obtain ⟨k', l, c, p', fs', cl', q1, q2⟩ := r.inn g nm
      rw [hg] at q2
      cases q2
      exact (unsup_no hrun).elim
    · obtain ⟨q, hn⟩ := r.out g _ nm hg
      obtain ⟨r1, k1⟩ := r.set (x := .running) (fun _ _ _ _ _ _ q => (nomatch q)) nm
      obtain ⟨h1, b1, h2, h3, h4⟩ := ih1 (hn _ _ _ _ _ _ rfl) _ r1
      obtain ⟨r2, k2⟩ := h3.set (x := e₁.genState) (nog_end h1) nm
      obtain ⟨h5, b2, h6, h7, h8⟩ := ih2 z _ r2
      exact ⟨h5, b2, .resumeSuspended q h2 hq h6, h7, ((k1.trans h4).trans k2).trans h8⟩
  | resumeJustStarted hg hv _ ih =>
    intro z b r
    have nm := r.no hg (fun _ _ _ _ _ q => (nomatch q))
    obtain ⟨h1, b', h2, h3, h4⟩ := ih z b r
    exact ⟨h1, b', .resumeJustStarted (r.out _ _ nm hg).1 hv h2, h3, h4⟩
  | resumeThrowFresh hg _ ih =>
    intro z b r
    have nm := r.no hg (fun _ _ _ _ _ q => (nomatch q))
    obtain ⟨r1, k1⟩ := r.set (x := .finished) (fun _ _ _ _ _ _ q => (nomatch q)) nm
    obtain ⟨h1, b', h2, h3, h4⟩ := ih z _ r1
    exact ⟨h1, b', .resumeThrowFresh (r.out _ _ nm hg).1 h2, h3, k1.trans h4⟩
  | resumeRunning hg _ ih =>
    intro z b r
    have nm := r.no hg (fun _ _ _ _ _ q => (nomatch q))
    obtain ⟨h1, b', h2, h3, h4⟩ := ih z b r
    exact ⟨h1, b', .resumeRunning (r.out _ _ nm hg).1 h2, h3, h4⟩
  | resumeFinished hg _ ih =>
    intro z b r
    have nm := r.no hg (fun _ _ _ _ _ q => (nomatch q))
    obtain ⟨h1, b', h2, h3, h4⟩ := ih z b r
    exact ⟨h1, b', .resumeFinished (r.out _ _ nm hg).1 h2, h3, h4⟩
  | segRet _ _ ih1 ih2 =>
    intro z b r
    obtain ⟨_, b1, h2, h3, h4⟩ := ih1 rfl b r
    obtain ⟨h5, b2, h6, h7, h8⟩ := ih2 (split_tail z) b1 h3
    exact ⟨h5, b2, .segRet h2 h6, h7, h4.trans h8⟩
  | segGen _ _ ih1 ih2 => exact fun z => (nomatch z)
  | segSuspOut hs _ ih =>
    intro z b r
    obtain ⟨h1, b1, h2, h3, h4⟩ := ih rfl b r
    refine ⟨fun _ _ _ _ _ _ _ q => ?_, b1, .segSuspOut hs h2, h3, h4⟩
    cases q
    exact split_nil_app (h1 _ _ _ _ _ _ _ rfl) hs
  | segSuspGen hs _ _ _ ih1 ih2 => exact fun z => by rw [hs] at z; cases z
theorem wakes_mask {J : Nat → Prop} {M : Model} {Γ : Ctx} {p : Pos} {g : Nat} {rr : Resume} {s s' : Shared} {res : GenResult} {b : Array GenState} (h : Wakes M Γ p g rr s res s') (r : GRel J s.gens b) : ∃ b', Wakes M Γ p g rr (gw s b) res (gw s' b') ∧ GRel J s'.gens b' ∧ Kp J s.gens b s'.gens b' := by
  unfold Wakes at h
  cases hg : s.gens[g]? with
  | none => rw [hg] at h; exact h.elim
  | some x =>
    rw [hg] at h
    cases x with
    | fresh c =>
      have nm : ¬ J g := r.no hg (fun _ _ _ _ _ q => (nomatch q))
      have bg := (r.out g _ nm hg).1
      cases rr with
      | send v =>
        cases v with
        | none =>
          obtain ⟨e₁, s₁, hr, hq, e1, e2⟩ := h
          obtain ⟨r1, k1⟩ := r.set (x := .running) (fun _ _ _ _ _ _ q => (nomatch q)) nm
          obtain ⟨h1, b1, h2, h3, h4⟩ := mask hr rfl _ r1
          obtain ⟨r2, k2⟩ := h3.set (x := e₁.genState) (nog_end h1) nm
          subst e2
          refine ⟨_, ?_, r2, (k1.trans h4).trans k2⟩
          unfold Wakes
          rw [bg]
          exact ⟨e₁, _, h2, hq, e1, rfl⟩
        | _ =>
          obtain ⟨e1, e2⟩ := h
          subst e2
          refine ⟨b, ?_, r, .refl⟩
          unfold Wakes
          rw [bg]
          exact ⟨e1, rfl⟩
      | throw x =>
        obtain ⟨e1, e2⟩ := h
        subst e2
        obtain ⟨r1, k1⟩ := r.set (x := .finished) (fun _ _ _ _ _ _ q => (nomatch q)) nm
        refine ⟨_, ?_, r1, k1⟩
        unfold Wakes
        rw [bg]
        exact ⟨e1, rfl⟩
    | suspended k₀ l₀ c₀ p₀ fs cl =>
      obtain ⟨e₁, s₁, hr, hq, e1, e2⟩ := h
      by_cases nm : J g
      · obtain ⟨k', l, c, p', fs', cl', q1, q2⟩ := r.inn g nm
        rw [hg] at q2
        cases q2
        exact (unsup_no hr).elim
      · obtain ⟨q, hn⟩ := r.out g _ nm hg
        obtain ⟨r1, k1⟩ := r.set (x := .running) (fun _ _ _ _ _ _ q => (nomatch q)) nm
        obtain ⟨h1, b1, h2, h3, h4⟩ := mask hr (hn _ _ _ _ _ _ rfl) _ r1
        obtain ⟨r2, k2⟩ := h3.set (x := e₁.genState) (nog_end h1) nm
        subst e2
        refine ⟨_, ?_, r2, (k1.trans h4).trans k2⟩
        unfold Wakes
        rw [q]
        exact ⟨e₁, _, h2, hq, e1, rfl⟩
    | running =>
      obtain ⟨e1, e2⟩ := h
      subst e2
      have nm : ¬ J g := r.no hg (fun _ _ _ _ _ q => (nomatch q))
      refine ⟨b, ?_, r, .refl⟩
      unfold Wakes
      rw [(r.out g _ nm hg).1]
      exact ⟨e1, rfl⟩
    | finished =>
      obtain ⟨e1, e2⟩ := h
      subst e2
      have nm : ¬ J g := r.no hg (fun _ _ _ _ _ q => (nomatch q))
      refine ⟨b, ?_, r, .refl⟩
      unfold Wakes
      rw [(r.out g _ nm hg).1]
      exact ⟨e1, rfl⟩
/-- behind code that was run with sleepers that can't be woken -/
def Woke (J : Nat → Prop) (a0 b0 : Array GenState) (Q : Shared → Prop) : Shared → Prop := fun s' => ∃ s1 b', s' = gw s1 b' ∧ GRel J s1.gens b' ∧ Kp J a0 b0 s1.gens b' ∧ Q s1
theorem wp_mask {α : Type} {J : Nat → Prop} {M : Model} {Γ : Ctx} {a0 b0 : Array GenState} (t : Sem α) : ∀ {Q : α → Pos → Shared → Prop} {E : Value → Pos → Shared → Prop} {p : Pos} {s : Shared} {b : Array GenState}, wp M Γ t Q E p s → GRel J s.gens b → Kp J a0 b0 s.gens b →
    wp M Γ t (fun a p' => Woke J a0 b0 (Q a p')) (fun a p' => Woke J a0 b0 (E a p')) p (gw s b) := by
  induction t with
  | pure a => exact fun {Q E p s b} h r k => ⟨s, b, rfl, r, k, h⟩
  | raise e => exact fun {Q E p s b} h r k => ⟨s, b, rfl, r, k, h⟩
  | unsupported w => exact fun {Q E p s b} h r k => h.elim
  | finish e => exact fun {Q E p s b} h r k => h.elim
  | rule tag k ih => exact fun {Q E p s b} h r kk => ih () h r kk
  | «at» p' k ih => exact fun {Q E p s b} h r kk => ih () h r kk
  | load a part k ih => exact fun {Q E p s b} ⟨o, ho, h⟩ r kk => ⟨o, ho, ih o h r kk⟩
  | update a part f k ih => exact fun {Q E p s b} ⟨ho, h⟩ r kk => ⟨ho, ih () h r kk⟩
  | alloc o k ih => exact fun {Q E p s b} h r kk => ih _ h r kk
  | loadIfAlive a k ih => exact fun {Q E p s b} h r kk => ih _ h r kk
  | point l k ih => exact fun {Q E p s b} h r kk => ih () h r kk
  | register a k ih => exact fun {Q E p s b} h r kk => h.elim
  | fresh k ih => exact fun {Q E p s b} h r kk => ih _ h r kk
  | ask k ih => exact fun {Q E p s b} h r kk => ih _ h r kk
  | choose src n k ih => exact fun {Q E p s b} ⟨hn, h⟩ r kk => ⟨hn, ih _ h r kk⟩
  | os q l k ih => exact fun {Q E p s b} h r kk => ih _ h r kk
  | call c h g l k ih =>
    intro Q E p s b ⟨res, s1, hr, hk⟩ r kk
    obtain ⟨_, b1, h2, h3, h4⟩ := mask hr rfl b r
    exact ⟨res, gw s1 b1, h2, ih res hk h3 (kk.trans h4)⟩
  | handled own k ih => exact fun {Q E p s b} h r kk => ih _ h r kk
  | newGen c k ih =>
    intro Q E p s b h r kk
    obtain ⟨r2, k2⟩ := r.push (x := .fresh c) (fun _ _ _ _ _ _ q => (nomatch q))
    have z := ih _ h r2 (kk.trans k2)
    show wp M Γ (k b.size) _ _ p _
    rw [← r.size]
    exact z
  | genState g k ih =>
    intro Q E p s b ⟨st, hg, h⟩ r kk
    obtain ⟨st', q, es⟩ := r.seen hg
    exact ⟨st', q, by rw [es]; exact ih _ h r kk⟩
  | resume g rr l k ih =>
    intro Q E p s b ⟨res, s1, hw, h⟩ r kk
    obtain ⟨b1, h2, h3, h4⟩ := wakes_mask hw r
    exact ⟨res, gw s1 b1, h2, ih res h h3 (kk.trans h4)⟩
  | yield v g l k ih => exact fun {Q E p s b} h r kk => h.elim
  | stack k ih => exact fun {Q E p s b} h r kk => ih _ h r kk
  | fork c k ih => exact fun {Q E p s b} h r kk => h.elim
  | thread k ih => exact fun {Q E p s b} h r kk => ih _ h r kk
  | await a f d l k ih => exact fun {Q E p s b} h r kk => h.elim
theorem wpAny_mask {α : Type} {J : Nat → Prop} {M : Model} {A : Around} {t : Sem α} {Q : α → Shared → Prop} {E : Value → Shared → Prop} {s : Shared} {b : Array GenState} (h : wpAny M A t Q E s) (r : GRel J s.gens b) :
    wpAny M A t (fun a => Woke J s.gens b (Q a)) (fun e => Woke J s.gens b (E e)) (gw s b) := fun Γ p hΓ => wp_mask t (h Γ p hΓ) r .refl
end JQ

set_option Elab.async false
set_option linter.all false
set_option maxRecDepth 100000
set_option maxHeartbeats 1000000
/-! # one turn of a generator: from a wake to the next item or the end -/
namespace JQ
open PySem
/-- it runs on, without cleanup left, to what Q tells -/
def Go (M : Model) (A : Around) (Q : End → Shared → Prop) (c : Code) (t : Sem Fin) (fs : List Frame) (s : Shared) : Prop :=
  ∀ Γ p, Γ.code = c → Γ.Woken A → ∃ e s', Runs M Γ p t fs s e s' ∧ e.quiet = true ∧ Q e s'
/-- a generator that is woken -/
def GoG (M : Model) (A : Around) (Q : End → Shared → Prop) : GenState → Shared → Prop
  | .fresh c, s => Go M A Q c (M.den c) [] s
  | .suspended k _ c _ fs _, s => Go M A Q c (k (.send .none)) fs s
  | _, _ => False
section
variable {M : Model} {A : Around} {Q : End → Shared → Prop} {c : Code} {fs : List Frame} {s : Shared}
theorem go_wrap {α : Type} {m : Sem α} {K : α → Sem Fin} {J : Value → Sem Fin} {gd : Bool → Bool} {lv : List Value → List Value}
    (h : wpAny M (A.over c fs) m (fun a s' => Go M A Q c (K a) fs s') (fun x s' => Go M A Q c (J x) fs s') s) : Go M A Q c (m.wrap K J gd lv) fs s := by
  intro Γ p hc hW
  subst hc
  exact runs_wrap_of_wp (Φ := fun e s' => e.quiet = true ∧ Q e s') K J gd lv m (h _ p (hW.over fs)) (fun _ p' _ q => q Γ p' rfl hW) fun _ p' _ q => q Γ p' rfl hW
theorem go_bind {α : Type} {m : Sem α} {K : α → Sem Fin} (h : wpAny M (A.over c fs) m (fun a s' => Go M A Q c (K a) fs s') (fun x s' => Go M A Q c (.raise x) fs s') s) : Go M A Q c (m >>= K) fs s := by
  rw [Sem.bind_eq_wrap']
  exact go_wrap h
theorem go_at {p' : Pos} {k : Unit → Sem Fin} (h : Go M A Q c (k ()) fs s) : Go M A Q c (.at p' k) fs s :=
  go_wrap (m := standAt p') (K := k) (J := .raise) (gd := id) (lv := id) (wpAny_standAt h)
theorem go_point {l : List Value} {k : Unit → Sem Fin} (h : Go M A Q c (k ()) fs s) : Go M A Q c (.point l k) fs s :=
  go_wrap (m := point) (K := k) (J := .raise) (gd := id) (lv := fun _ => l) (wpAny_point h)
theorem go_call {c' : Code} {h : Option Value} {g : Bool} {l : List Value} {k : Result → Sem Fin} (hc : ∀ p, Go M A Q c' (M.den c') (.ret k h g l c p [] :: fs) s) : Go M A Q c (.call c' h g l k) fs s := by
  intro Γ p e hW
  subst e
  obtain ⟨e, s', hr, he⟩ := hc p _ p rfl (hW.goto c')
  exact ⟨e, s', runs_call_seg hr, he⟩
theorem go_leaf {k : Result → Sem Fin} {h : Option Value} {g : Bool} {l kp : List Value} {c₁ : Code} {p₁ : Pos} (r : Result) (hk : Go M A Q c₁ (k r) fs s) : Go M A Q c (leafOf r) (.ret k h g l c₁ p₁ kp :: fs) s := by
  intro Γ p e hW
  subst e
  obtain ⟨e, s', hr, he⟩ := hk _ p₁ rfl (hW.goto c₁)
  exact ⟨e, s', Runs.pop r hr, he⟩
theorem go_again {c' : Code} (hq : c'.quiet = true) (hc : Go M A Q c' (M.den c') fs s) : Go M A Q c (.pure (.again c')) fs s := by
  intro Γ p e hW
  subst e
  obtain ⟨e, s', hr, he⟩ := hc _ p rfl (hW.goto c')
  exact ⟨e, s', Runs.head (c₁ := c') (fun _ _ x => .again hq x) hr, he⟩
theorem go_end (r : Result) (h : Q (.ret r) s) : Go M A Q c (leafOf r) [] s := fun Γ p e hW => ⟨.ret r, s, Runs.leaf r, rfl, h⟩
theorem go_yield {v : Value} {g : Bool} {l : List Value} {k : Resume → Sem Fin} (hfs : splitAtGen fs = none) (hg : g = false) (hfg : fs.any Frame.guarded = false) (h : ∀ p, Q (.susp v g l k c p fs) s) : Go M A Q c (.yield v g l k) fs s := fun Γ p e hW => by
  subst e
  exact ⟨_, s, Runs.yield' fs hfs, by simp [End.quiet, hg, hfg], h p⟩
theorem go_eq {t t' : Sem Fin} (h : Go M A Q c t fs s) (e : t = t') : Go M A Q c t' fs s := e ▸ h
theorem go_imp {Q' : End → Shared → Prop} {t : Sem Fin} (h : Go M A Q c t fs s) (hq : ∀ e s, Q e s → Q' e s) : Go M A Q' c t fs s := fun Γ p hc hW => let ⟨e, s', h1, h2, h3⟩ := h Γ p hc hW; ⟨e, s', h1, h2, hq _ _ h3⟩
theorem gog_imp {Q' : End → Shared → Prop} {gs : GenState} (h : GoG M A Q gs s) (hq : ∀ e s, Q e s → Q' e s) : GoG M A Q' gs s := by
  cases gs with
  | fresh c => exact go_imp h hq
  | suspended k l c p fs cl => exact go_imp h hq
  | running => exact h.elim
  | finished => exact h.elim
/-- what goes on behind a wake: K -/
def Onward (M : Model) (c : Code) (fs : List Frame) (K kk : Sem Fin) : Prop := ∀ A Q s, Go M A Q c K fs s → Go M A Q c kk fs s
variable {env : Env} {K : Flow → Sem Fin} {J : Value → Sem Fin} {gd : Bool → Bool} {lv : List Value → List Value}
theorem go_nil (h : Go M A Q c (K .next) fs s) : Go M A Q c ((execs [] env).wrap K J gd lv) fs s := h
theorem go_cons {st : Stmt} {rest : List Stmt} (h : Go M A Q c ((exec st env).wrap (fun f => match f with | .next => (execs rest env).wrap K J gd lv | f => K f) J gd lv) fs s) : Go M A Q c ((execs (st :: rest) env).wrap K J gd lv) fs s := by
  rw [execs_cons_wrap]
  exact h
/-- yield e -/
theorem go_exprYield {e : Expr} {yp pos : Pos} (hfs : splitAtGen fs = none) (hgd : gd false = false) (hfg : fs.any Frame.guarded = false)
    (h : wpAny M (A.over c fs) (eval e env) (fun v s' => ∀ l kk p, Onward M c fs (K .next) (kk (.send .none)) → Q (.susp v false l kk c p fs) s') (fun x s' => Go M A Q c (J x) fs s') s)
    (hco : env.scope.isCoroutine = false := by rfl) (hi : interactive env = false := by rfl) : Go M A Q c ((exec (.Expr (.Yield (some e) yp) pos) env).wrap K J gd lv) fs s := by
  rw [exec_Expr env _ pos hi rfl]
  have hy : ∀ v, yieldOut env v = yieldValue v := fun v => by simp only [yieldOut, hco, Bool.false_eq_true, if_false]
  show Go M A Q c (.at pos fun _ => ((eval e env >>= fun v => (standAt yp >>= fun _ => yieldOut env v)) >>= fun x => dropValue (.Yield (some e) yp) pos x).wrap K J gd lv) fs s
  simp only [hy]
  refine go_at ?_
  rw [Sem.bind_eq_wrap', Sem.bind_eq_wrap', Sem.wrap_wrap, Sem.wrap_wrap]
  refine go_wrap (wpAny_mono h (fun v s' q => go_at ?_) fun _ _ x => x)
  have z : ∀ kk l, (∀ p, Q (.susp v (gd false) l kk c p fs) s') → Go M A Q c (.yield v (gd false) l kk) fs s' := fun kk l hh => go_yield hfs hgd hfg hh
  refine z _ _ fun p => ?_
  rw [hgd]
  exact q _ _ p fun A' Q' s'' x => x
/-- while -/
theorem go_While {test : Expr} {body orelse : List Stmt} {pos : Pos}
    (h : ∀ p, Go M A Q (.whileLoop test body orelse env) (M.den (.whileLoop test body orelse env)) (.ret (fun r => ((match r with | .ok f => (.pure f : Sem Flow) | .error e => .raise e).onRaise (L2.cameBack env)).wrap K J gd lv) none (gd false) (lv []) c p [] :: fs) s) :
    Go M A Q c ((exec (.While test body orelse pos) env).wrap K J gd lv) fs s := go_at (go_call h)
end
section
variable {prog : Program} {w : World} {A : Around} {Q : End → Shared → Prop} {fs : List Frame} {s : Shared} {env : Env}
/-- what a loop's code does with an error -/
abbrev noted (e : Value) (env : Env) : Sem Fin := (do noteFrame e env; theTreesLotGoes e : Sem Unit).wrap (fun _ => .raise e) .raise id id
abbrev loopK (c : Code) : Flow → Sem Fin := fun f => match f with
  | .next => .pure (.again c)
  | .cont => .pure (.again c)
  | .brk => .pure (.done .next)
  | .ret v => .pure (.done (.ret v))
theorem go_whileLoop {test : Expr} {body : List Stmt}
    (h : wpAny (model prog w) (A.over (.whileLoop test body [] env) fs) (isTrue test env (eval test env)) (fun b s' => match b with
        | true => Go (model prog w) A Q (.whileLoop test body [] env) ((execs body env).wrap (loopK (.whileLoop test body [] env)) (fun e => noted e env) id id) fs s'
        | false => Go (model prog w) A Q (.whileLoop test body [] env) (leafOf (.ok .next)) fs s')
      (fun x s' => Go (model prog w) A Q (.whileLoop test body [] env) (noted x env) fs s') s) :
    Go (model prog w) A Q (.whileLoop test body [] env) ((model prog w).den (.whileLoop test body [] env)) fs s := by
  show Go _ A Q _ ((whileTurn test body [] env).onRaise (fun x => do noteFrame x env; theTreesLotGoes x)) fs s
  unfold whileTurn
  have eN : ∀ e : Value, (do noteFrame e env; theTreesLotGoes e : Sem Unit).bind (fun _ => (.raise e : Sem Fin)) = noted e env := fun e => Sem.bind_eq_wrap _ _
  rw [Sem.onRaise_eq_wrap, Sem.bind_eq_wrap', Sem.wrap_wrap]
  refine go_wrap (wpAny_mono h (fun b s' hb => ?_) fun x s' hx => ?_)
  · cases b with
    | true =>
      show Go _ A Q _ (Sem.wrap _ _ _ _ (if true = true then _ else _)) fs s'
      rw [if_pos rfl, Sem.bind_eq_wrap', Sem.wrap_wrap]
      refine go_eq hb (Sem.wrap_congr _ _ _ (fun f => ?_) fun e => (eN e).symm)
      cases f <;> rfl
    | false => exact hb
  · show Go _ A Q _ ((do noteFrame x env; theTreesLotGoes x : Sem Unit).bind fun _ => .raise x) fs s'
    rw [eN]
    exact hx
/-- a def's code -/
theorem go_func {body : List Stmt} (h : Go (model prog w) A Q (.func body env) ((execs body env).wrap (fun f => .pure (.done (.ret (match f with | .ret v => v | _ => .none)))) (fun e => (leaving env e).wrap (fun _ => .raise e) .raise id id) id id) fs s) :
    Go (model prog w) A Q (.func body env) ((model prog w).den (.func body env)) fs s := by
  show Go _ A Q _ (.point [] fun _ => ((execs body env).onRaise (leaving env)) >>= _) fs s
  refine go_point ?_
  rw [Sem.onRaise_eq_wrap, Sem.bind_eq_wrap', Sem.wrap_wrap]
  refine go_eq h (Sem.wrap_congr _ _ _ (fun f => ?_) fun e => ?_)
  · cases f <;> rfl
  · rw [Sem.bind_eq_wrap, Sem.wrap_wrap]
    rfl
end
end JQ

set_option Elab.async false
set_option linter.all false
set_option maxRecDepth 100000
set_option maxHeartbeats 1000000
/-! # generator defs over data: they are woken in a world that has grown meanwhile -/
namespace JQ
open PySem PySem.Spec PyProof.Rows L2
open Evl (Ex)
/-- the objects below an address -/
def low (h : Heap) (n : Nat) : Heap := { h with objs := h.objs.extract 0 n }
theorem low_get {h : Heap} {n a : Nat} : (low h n).get? a = if a < n then h.get? a else none := by
  have e : (h.objs.extract 0 n)[a]? = if a < n then h.objs[a]? else none := by
    by_cases c : a < n
    · rw [if_pos c]
      by_cases hi : a < h.objs.size
      · rw [Array.getElem?_extract]
        simp
        omega
      · rw [Array.getElem?_eq_none_iff.mpr (by rw [Array.size_extract]; omega), Array.getElem?_eq_none_iff.mpr (by omega)]
    · rw [if_neg c]
      rw [Array.getElem?_eq_none_iff.mpr (by rw [Array.size_extract]; omega)]
  unfold low Heap.get?
  rw [e]
  by_cases c : a < n
  · rw [if_pos c, if_pos c]
  · rw [if_neg c, if_neg c]
theorem low_some {h : Heap} {n a : Nat} {o : Obj} (e : (low h n).get? a = some o) : a < n ∧ h.get? a = some o := by
  rw [low_get] at e
  by_cases c : a < n
  · rw [if_pos c] at e
    exact ⟨c, e⟩
  · rw [if_neg c] at e
    cases e
theorem low_of {h : Heap} {n a : Nat} {o : Obj} (c : a < n) (e : h.get? a = some o) : (low h n).get? a = some o := by
  rw [low_get, if_pos c]
  exact e
theorem low_size {h : Heap} {n : Nat} (hn : n ≤ h.objs.size) : (low h n).objs.size = n := by
  show (h.objs.extract 0 n).size = n
  rw [Array.size_extract]
  omega
/-- what stays of a generator def's frame -/
structure GD where
  P : Program
  w : World
  K : PySem.W.Frag
  mg : Str → Option Value
  base : Heap
  N : List Str
  qual : Str
  scope : Scope
  f : Addr
  cd : Value
  outer : List Env
  L : Addr
  k : Nat
abbrev GD.env (W : GD) : Env := envOfC W.qual W.scope W.L W.f W.cd
/-- a turn: where it was woken -/
structure Tn where
  A : Around
  s : Shared
  H : Hp
  G : Hp
  pins : List (Addr × Obj)
abbrev GD.low (W : GD) (T : Tn) : Heap := JQ.low T.s.heap W.L
def GD.cx (W : GD) (T : Tn) : Cx where
  prog := W.P
  w := W.w
  K := W.K
  mg := W.mg
  base := W.base
  A := T.A.deeper W.env
  N := W.N
  s_0 := { T.s with heap := W.low T }
  H_0 := T.H
  env := W.env
  outer := W.outer
  stack := W.env :: W.outer
  ex := []
  calm := true
  fn := fun _ => true
  pn := []
  xe := fun _ _ => False
/-- no error leaves it -/
abbrev GD.bd (W : GD) (T : Tn) : Bd := ⟨W.cx T, fun _ _ _ _ => False⟩
/-- of the def: its names, none of them in a cell -/
structure GScp (N : List Str) (sc : Scope) : Prop where
  kind : sc.kind = .function
  nc : ∀ y ∈ sc.names, y.2 ≠ .free ∧ y.2 ≠ .cell
theorem lookup_mem {α β : Type} [BEq α] [LawfulBEq α] {l : List (α × β)} {x : α} {y : β} (h : l.lookup x = some y) : (x, y) ∈ l := by
  induction l with
  | nil => cases h
  | cons p l ih =>
    obtain ⟨a, b⟩ := p
    rw [List.lookup_cons] at h
    cases c : x == a with
    | true =>
      rw [c] at h
      cases h
      rw [eq_of_beq c]
      exact List.mem_cons_self
    | false =>
      rw [c] at h
      exact List.mem_cons_of_mem _ (ih h)
theorem GScp.no {N : List Str} {sc : Scope} (h : GScp N sc) {x : Str} : sc.names.lookup x ≠ some .cell ∧ sc.names.lookup x ≠ some .free := ⟨fun e => (h.nc _ (PySem.mem_of_lookup e)).2 rfl, fun e => (h.nc _ (PySem.mem_of_lookup e)).1 rfl⟩
theorem cells_none : ∀ (ns : List (Str × NameKind)) (n : Nat), (∀ y ∈ ns, y.2 ≠ .free ∧ y.2 ≠ .cell) → cellsFrom n ns [] = [] := by
  intro ns
  induction ns with
  | nil => intro n _; rfl
  | cons y ns ih =>
    intro n h
    obtain ⟨a, k⟩ := y
    have hk := h (a, k) List.mem_cons_self
    have r := ih n fun y hy => h y (List.mem_cons_of_mem _ hy)
    cases k <;> first
      | exact absurd rfl hk.1
      | exact absurd rfl hk.2
      | exact r
end JQ

set_option Elab.async false
set_option linter.all false
set_option maxRecDepth 100000
set_option maxHeartbeats 1000000
namespace JQ
open PySem PySem.Spec PyProof.Rows L2
open Evl (Ex)
/-- the frame's own object, as it stands: the slots -/
def FoOk (W : GD) (fo : Obj) (σ : L2.St) : Prop := σ.length = W.N.length ∧ (∀ v, fo.data ≠ .cell v) ∧ ∃ (es : Array DictEntry) (ep : Nat) (m : Str → Option Value), fo.data = .dict es ep ∧ StrKeys es ∧ (∀ name, nsFind es name = m name) ∧ ∀ (i : Nat) (x : Str) (v : V), W.N[i]? = some x → σ[i]? = some (some v) → Vis W.scope x → ∃ u, RelV v u ∧ W.env.kindOf x = some .local ∧ m x = some u
/-- it may be woken at T: pv are its own objects but the frame, fo the frame -/
structure Wk (W : GD) (T : Tn) (pv : List (Addr × Obj)) (fo : Obj) : Prop where
  fr : T.A.frames = some W.outer
  rm : Room (W.k + 1) T.A
  gd : T.A.guards = some []
  mod : Mod W.K W.mg W.base
  bs : ∀ b o, W.base.get? b = some o → (W.low T).get? b = some o ∧ T.H b = none
  bsz : W.base.objs.size ≤ W.L
  funs : (W.low T).FunFrames W.base W.outer
  frf : ∀ b ∈ frs W.outer, T.H b = none
  hok : HOk W.P W.w T.H T.s.heap
  bare : AllBare T.s.gens
  gh : Ex T.G T.H
  pv : ∀ q ∈ pv, T.s.heap.get? q.1 = some q.2 ∧ T.H q.1 = none
  fo : T.s.heap.get? W.L = some fo ∧ T.H W.L = none
  pins : ∀ p ∈ T.pins, T.s.heap.get? p.1 = some p.2 ∧ T.H p.1 = none ∧ p.1 ≠ W.L ∧ p.1 ∉ frs W.outer ∧ ∀ v, p.2.data ≠ .cell v
/-- own objects: no cells, none of a frame -/
def PvOk (W : GD) (pv : List (Addr × Obj)) : Prop := ∀ q ∈ pv, q.1 ≠ W.L ∧ q.1 ∉ frs W.outer ∧ ∀ v, q.2.data ≠ .cell v
section
variable {W : GD} {T : Tn} {pv : List (Addr × Obj)} {fo : Obj} {σ : L2.St}
theorem Wk.lt (h : Wk W T pv fo) : W.L < T.s.heap.objs.size := Heap.lt_size h.fo.1
theorem Wk.size (h : Wk W T pv fo) : (W.low T).objs.size = W.L := low_size (Nat.le_of_lt h.lt)
theorem Wk.inv (S : GScp W.N W.scope) (h : Wk W T pv fo) (hp : PvOk W pv) (hf : FoOk W fo σ) : Inv (W.cx T) (T.pins ++ pv) σ T.H T.s := by
  have noA : ∀ b : Addr, b ∉ (W.cx T).ex := fun b z => nomatch (show b ∈ ([] : List Addr) from z)
  have noC : ∀ (x : Str) (c : Addr), W.env.cells.lookup x = some c → False := fun x c e => by
    have e : (cellsFrom (W.L + 1) W.scope.names []).lookup x = some c := e
    rw [cells_none _ _ S.nc] at e
    cases e
  obtain ⟨hl, hnc, es, ep, m, hd, hk, hn, hv⟩ := hf
  have sz : (W.low T).objs.size = W.L := h.size
  refine ⟨⟨h.mod, S.kind, rfl, rfl, Nat.le_of_eq sz, fun y z c h1 h2 => (noC y c h1).elim, fun y hy => ?_, fun y c _ h => (noC y c h).elim, fun _ => h.rm.hd, Around.frames_deeper h.fr, .inr ⟨rfl, rfl⟩, fun b z => absurd z (noA b), h.bs, by rw [show (W.cx T).s_0.heap.objs.size = W.L from sz]; exact h.bsz, fun b _ _ => noA b, fun b z => absurd z (noA b), h.funs, h.frf⟩,
    rfl, h.bare, Un.kept fun b o e => (low_some e).2, ⟨m, ⟨fo, es, ep, h.fo.1, hd, hk, hn⟩, fun i y v h1 h2 h3 => ?_⟩, fun y c h => (noC y c h).elim, h.fo.2, fun y c h => (noC y c h).elim, fun p hp' => ?_, h.hok, hl⟩
  · have hy : W.scope.names.lookup y = some .cell ∨ W.scope.names.lookup y = some .free := hy
    rcases hy with hy | hy
    · exact absurd hy S.no.1
    · exact absurd hy S.no.2
  · obtain ⟨u, r, k1, k2⟩ := hv i y v h1 h2 h3
    exact ⟨u, r, .inl ⟨k1, k2⟩⟩
  · rcases List.mem_append.mp (show p ∈ T.pins ++ pv from hp') with hp' | hp'
    · obtain ⟨e1, e2, e3, e4, e5⟩ := h.pins p hp'
      exact ⟨e1, e2, e3, e4, e5⟩
    · obtain ⟨e1, e2⟩ := h.pv p hp'
      obtain ⟨e3, e4, e5⟩ := hp p hp'
      exact ⟨e1, e2, e3, e4, e5⟩
/-- what its state tells of the frame -/
theorem fo_of (S : GScp W.N W.scope) {pins : List (Addr × Obj)} {H : Hp} {s : Shared} (I : Inv (W.cx T) pins σ H s) : ∃ fo, s.heap.get? W.L = some fo ∧ H W.L = none ∧ FoOk W fo σ := by
  obtain ⟨m, ⟨o, es, ep, ho, hd, hk, hn⟩, hv⟩ := I.loc
  refine ⟨o, ho, I.free, I.len, fun v q => (by rw [hd] at q; cases q), es, ep, m, hd, hk, hn, fun i x v h1 h2 h3 => ?_⟩
  obtain ⟨u, r, l⟩ := hv i x v h1 h2 h3
  rcases l with ⟨l1, l2⟩ | ⟨_, c, e, _⟩
  · exact ⟨u, r, l1, l2⟩
  · have e : (cellsFrom (W.L + 1) W.scope.names []).lookup x = some c := e
    rw [cells_none _ _ S.nc] at e
    cases e
end
/-! ### what a turn leaves -/
structure Fx (W : GD) (T : Tn) (pv : List (Addr × Obj)) (G H : Hp) (s : Shared) : Prop where
  tr : Tr W.K T.G T.H m0 G H m0
  os : s.os = T.s.os
  bare : AllBare s.gens
  un : Un (frs W.outer) [] T.H H (W.low T) s.heap
  hok : HOk W.P W.w H s.heap
  pins : ∀ p ∈ T.pins, s.heap.get? p.1 = some p.2 ∧ H p.1 = none
  pv : ∀ q ∈ pv, s.heap.get? q.1 = some q.2 ∧ H q.1 = none
/-- own iterators are young, and no pins of others -/
def IpOk (W : GD) (T : Tn) (ip : List (Addr × Obj)) : Prop := ∀ q ∈ ip, W.L ≤ q.1 ∧ ∀ p ∈ T.pins, p.1 ≠ q.1
/-- asleep, ds still to come: ag its own object, ip its iterators, fo its frame, G the data that it knows -/
def GSt (W : GD) (ag : Addr × Obj) : List D → Hp → List (Addr × Obj) → Obj → GenState → Prop
  | [], G, ip, fo, gs => ∀ T : Tn, T.G = G → Wk W T (ag :: ip) fo → IpOk W T (ag :: ip) → GoG (model W.P W.w) T.A (fun e s => ∃ G' H', (e = .ret (.ok .next) ∨ e = .ret (.ok (.ret .none))) ∧ Fx W T [ag] G' H' s) gs T.s
  | d :: ds, G, ip, fo, gs => ∀ T : Tn, T.G = G → Wk W T (ag :: ip) fo → IpOk W T (ag :: ip) → GoG (model W.P W.w) T.A (fun e s => ∃ v g l k c p fs G' H' x ip' fo', e = .susp v g l k c p fs ∧ Fx W T ((W.L, fo') :: ag :: ip') G' H' s ∧ PvOk W ip' ∧ (∀ v, fo'.data ≠ .cell v) ∧ IpOk W T (ag :: ip') ∧ RelV x v ∧ Is W.K G' x d ∧ GSt W ag ds G' ip' fo' e.genState) gs T.s
/-- what a turn is to reach -/
def Out (W : GD) (ag : Addr × Obj) (T : Tn) : List D → End → Shared → Prop
  | [] => fun e s => ∃ G' H', (e = .ret (.ok .next) ∨ e = .ret (.ok (.ret .none))) ∧ Fx W T [ag] G' H' s
  | d :: ds => fun e s => ∃ v g l k c p fs G' H' x ip' fo', e = .susp v g l k c p fs ∧ Fx W T ((W.L, fo') :: ag :: ip') G' H' s ∧ PvOk W ip' ∧ (∀ v, fo'.data ≠ .cell v) ∧ IpOk W T (ag :: ip') ∧ RelV x v ∧ Is W.K G' x d ∧ GSt W ag ds G' ip' fo' e.genState
theorem gst_of {W : GD} {ag : Addr × Obj} {ds : List D} {G : Hp} {ip : List (Addr × Obj)} {fo : Obj} {gs : GenState} (h : ∀ T : Tn, T.G = G → Wk W T (ag :: ip) fo → IpOk W T (ag :: ip) → GoG (model W.P W.w) T.A (Out W ag T ds) gs T.s) : GSt W ag ds G ip fo gs := by
  cases ds with
  | nil => exact h
  | cons d ds => exact h
theorem gst_go {W : GD} {ag : Addr × Obj} {ds : List D} {G : Hp} {ip : List (Addr × Obj)} {fo : Obj} {gs : GenState} (h : GSt W ag ds G ip fo gs) : ∀ T : Tn, T.G = G → Wk W T (ag :: ip) fo → IpOk W T (ag :: ip) → GoG (model W.P W.w) T.A (Out W ag T ds) gs T.s := by
  cases ds with
  | nil => exact h
  | cons d ds => exact h
/-! ### the body's statements -/
/-- running in the turn T -/
structure Rn (W : GD) (ag : Addr × Obj) (T : Tn) (ip : List (Addr × Obj)) (σ : L2.St) (G H : Hp) (ss : List S) (s : Shared) : Prop where
  inv : Inv (W.cx T) (T.pins ++ ag :: ip) σ H s
  tr : Tr W.K T.G T.H m0 G H m0
  f : Frm W.K G σ ss
  rm : Room W.k (T.A.deeper W.env)
  gd : (T.A.deeper W.env).guards = some []
  ip : IpOk W T (ag :: ip)
theorem Rn.fx {W : GD} {ag : Addr × Obj} {T : Tn} {ip : List (Addr × Obj)} {σ : L2.St} {G H : Hp} {ss : List S} {s : Shared} (h : Rn W ag T ip σ G H ss s) : Fx W T (ag :: ip) G H s where
  tr := h.tr
  os := h.inv.os
  bare := h.inv.bare
  un := h.inv.base
  hok := h.inv.hok
  pins := fun p hp => let ⟨h1, h2, _⟩ := h.inv.pin p (List.mem_append_right _ (List.mem_append_left _ hp)); ⟨h1, h2⟩
  pv := fun p hp => let ⟨h1, h2, _⟩ := h.inv.pin p (List.mem_append_right _ (List.mem_append_right _ hp)); ⟨h1, h2⟩
theorem Rn.pv {W : GD} {ag : Addr × Obj} {T : Tn} {ip : List (Addr × Obj)} {σ : L2.St} {G H : Hp} {ss : List S} {s : Shared} (h : Rn W ag T ip σ G H ss s) : PvOk W (ag :: ip) := fun q hq => let ⟨_, _, h3, h4, h5⟩ := h.inv.pin q (List.mem_append_right _ (List.mem_append_right _ hq)); ⟨h3, h4, h5⟩
/-- where the code stands -/
structure GCx (W : GD) (c : Code) (fs : List Frame) (gd : Bool → Bool) : Prop where
  over : ∀ A : Around, A.over c fs = A.deeper W.env
  split : splitAtGen fs = none
  guard : fs.any Frame.guarded = false
  gd : gd false = false
/-- what is wanted behind a statement: the items still to come, the slots -/
structure GN where
  nx : List D → List S → Prop
  rt : List D → Prop
  bk : List D → List S → Prop := fun _ _ => False
  ct : List D → List S → Prop := fun _ _ => False
def GN.at_ (N : GN) : Flow → List D → List S → Prop
  | .next, ds, ss => N.nx ds ss
  | .brk, ds, ss => N.bk ds ss
  | .cont, ds, ss => N.ct ds ss
  | .ret v, ds, _ => v = .none ∧ N.rt ds
structure GKx (W : GD) (ag : Addr × Obj) (ip : List (Addr × Obj)) (c : Code) (fs : List Frame) (K : Flow → Sem PySem.Fin) (N : GN) : Prop where
  ok : ∀ T ds ss σ G H s f, Rn W ag T ip σ G H ss s → N.at_ f ds ss → Go (model W.P W.w) T.A (Out W ag T ds) c (K f) fs s
structure GSt1 (W : GD) (ag : Addr × Obj) (st : Stmt) (ss : List S) (ds : List D) (N : GN) : Prop where
  run : ∀ ip c fs K J gd lv T σ G H s, GCx W c fs gd → GKx W ag ip c fs K N → Rn W ag T ip σ G H ss s → Go (model W.P W.w) T.A (Out W ag T ds) c ((exec st W.env).wrap K J gd lv) fs s
structure GSts (W : GD) (ag : Addr × Obj) (st : List Stmt) (ss : List S) (ds : List D) (N : GN) : Prop where
  run : ∀ ip c fs K J gd lv T σ G H s, GCx W c fs gd → GKx W ag ip c fs K N → Rn W ag T ip σ G H ss s → Go (model W.P W.w) T.A (Out W ag T ds) c ((execs st W.env).wrap K J gd lv) fs s
section
variable {W : GD} {ag : Addr × Obj} {ss : List S} {ds : List D} {N : GN} {st : Stmt} {rest : List Stmt}
theorem Rn.so {ip : List (Addr × Obj)} {T : Tn} {σ : L2.St} {G H : Hp} {s : Shared} (h : Rn W ag T ip σ G H ss s) : StOk (W.bd T) ⟨T.G, T.H, m0⟩ σ G H m0 ss := ⟨h.tr, ⟨fun _ _ _ _ => False, takes0, fun C gs fs d σ G H M M' ss e => e.elim⟩, h.f⟩
theorem Rn.of {ip : List (Addr × Obj)} {T : Tn} {σ σ' : L2.St} {G H G' H' : Hp} {M' : Mm} {ss' : List S} {s s' : Shared} (h : Rn W ag T ip σ G H ss s) (I : Inv (W.cx T) (T.pins ++ ag :: ip) σ' H' s') (so : StOk (W.bd T) ⟨T.G, T.H, m0⟩ σ' G' H' M' ss') : Rn W ag T ip σ' G' H' ss' s' :=
  ⟨I, so.t.trans (so.t.wd.drop fun _ _ e => nomatch e), so.f, h.rm, h.gd, h.ip⟩
/-- a statement that hands out nothing -/
theorem gs_plain (h : ∀ T, (T.A.deeper W.env).guards = some [] → Room W.k (T.A.deeper W.env) → WS (W.bd T) st ss m0 { nx := fun ss' _ => N.nx ds ss', rt := fun d _ => d = .non ∧ N.rt ds, bk := fun ss' _ => N.bk ds ss', ct := fun ss' _ => N.ct ds ss' }) : GSt1 W ag st ss ds N := by
  refine ⟨fun ip c fs K J gd lv T σ G H s g k r => ?_⟩
  refine go_wrap ?_
  rw [g.over]
  refine wpAny_mono ((h T r.gd r.rm).run ⟨T.G, T.H, m0⟩ σ G H { nx := fun σ' H' => ∃ G' M' ss', StOk (W.bd T) ⟨T.G, T.H, m0⟩ σ' G' H' M' ss' ∧ N.nx ds ss', rt := fun v H' => v = .non ∧ ∃ G' M', Tr W.K T.G T.H m0 G' H' M' ∧ N.rt ds, bk := fun σ' H' => ∃ G' M' ss', StOk (W.bd T) ⟨T.G, T.H, m0⟩ σ' G' H' M' ss' ∧ N.bk ds ss', ct := fun σ' H' => ∃ G' M' ss', StOk (W.bd T) ⟨T.G, T.H, m0⟩ σ' G' H' M' ss' ∧ N.ct ds ss' } r.so
    ⟨fun σ' G' H' M' ss' so q => ⟨G', M', ss', so, q⟩, fun v G' H' M' d t ri q => ?_, fun σ' G' H' M' ss' so q => ⟨G', M', ss', so, q⟩, fun σ' G' H' M' ss' so q => ⟨G', M', ss', so, q⟩⟩ _ s r.inv) (fun f s' hs => ?_) fun x s' hx => (show False from hx).elim
  · obtain ⟨e, q⟩ := q
    subst e
    cases ri
    exact ⟨rfl, G', M', t, q⟩
  · cases f with
    | next => obtain ⟨σ', H', I, G', M', ss', so, q⟩ := hs; exact k.ok T ds ss' σ' G' H' s' .next (r.of I so) q
    | brk => obtain ⟨σ', H', I, G', M', ss', so, q⟩ := hs; exact k.ok T ds ss' σ' G' H' s' .brk (r.of I so) q
    | cont => obtain ⟨σ', H', I, G', M', ss', so, q⟩ := hs; exact k.ok T ds ss' σ' G' H' s' .cont (r.of I so) q
    | ret u =>
      obtain ⟨v, σ', H', I, rv, ev, G', M', t, q⟩ := hs
      subst ev
      obtain rfl : u = Value.none := rv
      refine k.ok T ds (List.replicate σ'.length none) σ' G' H' s' (.ret .none) ⟨I, t.trans (t.wd.drop fun _ _ e => nomatch e), ⟨by simp, fun i x d _ b => ?_⟩, r.rm, r.gd, r.ip⟩ ⟨rfl, q⟩
      rw [List.getElem?_replicate] at b
      split at b <;> cases b
theorem gs_nil (q : N.nx ds ss) : GSts W ag [] ss ds N := ⟨fun ip c fs K J gd lv T σ G H s g k r => go_nil (k.ok T ds ss σ G H s .next r q)⟩
theorem gs_cons (h : GSt1 W ag st ss ds { N with nx := fun ds' ss' => GSts W ag rest ss' ds' N }) : GSts W ag (st :: rest) ss ds N := by
  refine ⟨fun ip c fs K J gd lv T σ G H s g k r => go_cons ?_⟩
  refine h.run ip c fs _ J gd lv T σ G H s g ⟨fun T' ds' ss' σ' G' H' s' f r' q => ?_⟩ r
  cases f with
  | next => exact GSts.run q ip c fs K J gd lv T' σ' G' H' s' g k r'
  | brk => exact k.ok T' ds' ss' σ' G' H' s' .brk r' q
  | cont => exact k.ok T' ds' ss' σ' G' H' s' .cont r' q
  | ret u => exact k.ok T' ds' ss' σ' G' H' s' (.ret u) r' q
end
end JQ

set_option Elab.async false
set_option linter.all false
set_option maxRecDepth 100000
set_option maxHeartbeats 1000000
namespace JQ
open PySem PySem.Spec PyProof.Rows L2
open Evl (Ex)
section
variable {W : GD} {ag : Addr × Obj} {ss : List S} {ds : List D} {N : GN} {st : Stmt} {rest : List Stmt}
theorem m0_sub {M : Mm} : Msub m0 M := fun _ _ e => nomatch e
/-- it is woken, and runs -/
theorem Wk.rn {T : Tn} {ip : List (Addr × Obj)} {fo : Obj} {σ : L2.St} (S : GScp W.N W.scope) (h : Wk W T (ag :: ip) fo) (hp : PvOk W (ag :: ip)) (hf : FoOk W fo σ) (f : Frm W.K T.G σ ss) (hi : IpOk W T (ag :: ip)) : Rn W ag T ip σ T.G T.H ss T.s where
  inv := h.inv S hp hf
  tr := (show Wd W.K T.G T.H m0 from ⟨h.gh, fun _ _ e => nomatch e⟩).refl
  f := f
  rm := h.rm.deeper _
  gd := h.gd
  ip := hi
/-- yield e -/
theorem gs_yield {e : Expr} {yp pos : Pos} (S : GScp W.N W.scope) (h : ∀ T, (T.A.deeper W.env).guards = some [] → Room W.k (T.A.deeper W.env) → WE (W.bd T) e ss m0 fun d _ => ∃ ds', ds = d :: ds' ∧ N.nx ds' ss)
    (hco : W.env.scope.isCoroutine = false := by rfl) (hi : interactive W.env = false := by rfl) : GSt1 W ag (.Expr (.Yield (some e) yp) pos) ss ds N := by
  refine ⟨fun ip c fs K J gd lv T σ G H s g k r => ?_⟩
  refine go_exprYield g.split g.gd g.guard ?_ hco hi
  rw [g.over]
  refine wpAny_mono ((h T r.gd r.rm).run ⟨T.G, T.H, m0⟩ σ G H (fun v H' => ∃ G' M' d ds', Tr W.K G H m0 G' H' M' ∧ Is W.K G' v d ∧ ds = d :: ds' ∧ N.nx ds' ss) r.so (fun v G' H' M' d t ri ⟨ds', q1, q2⟩ => ⟨G', M', d, ds', t, ri, q1, q2⟩) _ s r.inv) (fun v s' hv => ?_) fun x s' hx => (show False from hx).elim
  obtain ⟨x, H', I, rv, G', M', d, ds', t, ri, e1, q⟩ := hv
  subst e1
  intro l kk p onw
  have r' : Rn W ag T ip σ G' H' ss s' := r.of I (r.so.go t)
  obtain ⟨fo, f1, f2, f3⟩ := fo_of S I
  have hpv := r'.pv
  have fx := r'.fx
  refine ⟨v, false, l, kk, c, p, fs, G', H', x, ip, fo, rfl, ⟨fx.tr, fx.os, fx.bare, fx.un, fx.hok, fx.pins, fun q hq => ?_⟩, fun q hq => hpv q (List.mem_cons_of_mem _ hq), f3.2.1, r'.ip, rv, ri, gst_of fun T' eG wk hip => ?_⟩
  · rcases List.mem_cons.mp hq with rfl | hq
    · exact ⟨f1, f2⟩
    · exact fx.pv q hq
  · exact onw _ _ _ (k.ok T' ds' ss σ T'.G T'.H T'.s .next (wk.rn S hpv f3 (by rw [eG]; exact r'.f) hip) q)
/-- if c: ts else: fs -/
theorem gs_if {c : Expr} {ts es : List Stmt} {pos : Pos} (h : ∀ T, (T.A.deeper W.env).guards = some [] → Room W.k (T.A.deeper W.env) → WT (W.bd T) c ss m0 fun b _ => if b = true then GSts W ag ts ss ds N else GSts W ag es ss ds N) : GSt1 W ag (.If c ts es pos) ss ds N := by
  refine ⟨fun ip cd fs K J gd lv T σ G H s g k r => ?_⟩
  rw [exec_If]
  show Go _ _ _ cd (.at pos fun _ => (isTrue c W.env (eval c W.env) >>= fun b => if b = true then execs ts W.env else execs es W.env).wrap K J gd lv) fs s
  refine go_at ?_
  rw [Sem.bind_eq_wrap', Sem.wrap_wrap]
  refine go_wrap ?_
  rw [g.over]
  refine wpAny_mono ((h T r.gd r.rm).run ⟨T.G, T.H, m0⟩ σ G H (fun b H' => ∃ G' M', Tr W.K G H m0 G' H' M' ∧ if b = true then GSts W ag ts ss ds N else GSts W ag es ss ds N) r.so (fun b G' H' M' t q => ⟨G', M', t, q⟩) _ s r.inv) (fun b s' hb => ?_) fun x s' hx => (show False from hx).elim
  obtain ⟨H', I, G', M', t, q⟩ := hb
  have r' : Rn W ag T ip σ G' H' ss s' := r.of I (r.so.go t)
  cases b with
  | true => exact (ifT q).run ip cd fs K J gd lv T σ G' H' s' g k r'
  | false => exact (ifF q).run ip cd fs K J gd lv T σ G' H' s' g k r'
theorem GCx.loop {c c' : Code} {fs : List Frame} {gd : Bool → Bool} {k : Result → Sem PySem.Fin} {l kp : List Value} {p : Pos} (g : GCx W c fs gd) (hw : c'.weight = 0) (hu : c'.cUnits = 0) : GCx W c' (.ret k none (gd false) l c p kp :: fs) id where
  over := fun A => (GenW.over_loop hw hu).trans (g.over A)
  split := by
    show (splitAtGen fs).map _ = none
    rw [g.split]
    rfl
  guard := by
    show (gd false || fs.any Frame.guarded) = false
    rw [g.gd, g.guard]
    rfl
  gd := rfl
/-- while c: body; Iv by a measure, the items still to come, the slots -/
theorem gs_while {c : Expr} {body : List Stmt} {pos : Pos} (Iv : Nat → List D → List S → Prop) (m : Nat) (h0 : Iv m ds ss)
    (ht : ∀ m ds ss, Iv m ds ss → ∀ T, (T.A.deeper W.env).guards = some [] → Room W.k (T.A.deeper W.env) → WT (W.bd T) c ss m0 fun b _ => if b = true then GSts W ag body ss ds { nx := fun ds' ss' => ∃ m', m' < m ∧ Iv m' ds' ss', ct := fun ds' ss' => ∃ m', m' < m ∧ Iv m' ds' ss', bk := N.nx, rt := N.rt } else N.nx ds ss) : GSt1 W ag (.While c body [] pos) ss ds N := by
  refine ⟨fun ip cd fs K J gd lv T σ G H s g k r => ?_⟩
  refine go_While fun p => ?_
  have gl := fun (kk : Result → Sem PySem.Fin) => GCx.loop (k := kk) (c' := .whileLoop c body [] W.env) (l := lv []) (kp := []) (p := p) g rfl rfl
  have loop : ∀ (m : Nat) (T : Tn) (ds : List D) (ss : List S) (σ : L2.St) (G H : Hp) (s : Shared), Iv m ds ss → Rn W ag T ip σ G H ss s → Go (model W.P W.w) T.A (Out W ag T ds) (.whileLoop c body [] W.env) ((model W.P W.w).den (.whileLoop c body [] W.env))
      (.ret (fun r => ((match r with | .ok f => (.pure f : Sem Flow) | .error e => .raise e).onRaise (L2.cameBack W.env)).wrap K J gd lv) none (gd false) (lv []) cd p [] :: fs) s := by
    intro m
    induction m using Nat.strongRecOn with
    | ind m ih =>
      intro T ds ss σ G H s iv r
      refine go_whileLoop ?_
      rw [(gl _).over]
      refine wpAny_mono ((ht m ds ss iv T r.gd r.rm).run ⟨T.G, T.H, m0⟩ σ G H (fun b H' => ∃ G' M', Tr W.K G H m0 G' H' M' ∧ if b = true then GSts W ag body ss ds { nx := fun ds' ss' => ∃ m', m' < m ∧ Iv m' ds' ss', ct := fun ds' ss' => ∃ m', m' < m ∧ Iv m' ds' ss', bk := N.nx, rt := N.rt } else N.nx ds ss) r.so (fun b G' H' M' t q => ⟨G', M', t, q⟩) _ s r.inv) (fun b s' hb => ?_) fun x s' hx => (show False from hx).elim
      obtain ⟨H', I, G', M', t, q⟩ := hb
      have r' : Rn W ag T ip σ G' H' ss s' := r.of I (r.so.go t)
      cases b with
      | false => exact go_leaf (.ok .next) (k.ok T ds ss σ G' H' s' .next r' (ifF q))
      | true =>
        refine (ifT q).run ip _ _ _ _ id id T σ G' H' s' (gl _) ⟨fun T2 ds2 ss2 σ2 G2 H2 s2 f r2 q2 => ?_⟩ r'
        cases f with
        | next =>
          obtain ⟨m', hm, iv'⟩ := q2
          exact go_again rfl (ih m' hm T2 ds2 ss2 σ2 G2 H2 s2 iv' r2)
        | cont =>
          obtain ⟨m', hm, iv'⟩ := q2
          exact go_again rfl (ih m' hm T2 ds2 ss2 σ2 G2 H2 s2 iv' r2)
        | brk => exact go_leaf (.ok .next) (k.ok T2 ds2 ss2 σ2 G2 H2 s2 .next r2 q2)
        | ret u => exact go_leaf (.ok (.ret u)) (k.ok T2 ds2 ss2 σ2 G2 H2 s2 (.ret u) r2 q2)
  exact loop m T ds ss σ G H s h0 r
end
end JQ

set_option Elab.async false
set_option linter.all false
set_option maxRecDepth 100000
set_option maxHeartbeats 1000000
/-! # a generator is asked for its next item; a generator is made -/
namespace JQ
open PySem PySem.Spec PyProof.Rows L2
open Evl (Ex)
section
variable {M : Model} {A : Around} {s : Shared} {g : Nat} {gs : GenState} {Q : End → Shared → Prop}
theorem resume_go {E : Value → Shared → Prop} {l : List Value} {α : Type} {k : GenResult → Sem α} {R : α → Shared → Prop} (hg : s.gens[g]? = some gs) (hgo : GoG M A Q gs (s.setGen g .running))
    (h : ∀ e s₁, e.quiet = true → s.gens.size ≤ s₁.gens.size → Q e s₁ → wpAny M A (k e.result) R E (s₁.setGen g e.genState)) : wpAny M A (.resume g (.send .none) l k) R E s := by
  intro Γ p hΓ
  rw [Sem.wp_resume]
  have wk : ∀ c, (Γ.wake c p).Woken A := fun c => hΓ.wake c p
  cases gs with
  | fresh c =>
    obtain ⟨e, s₁, hr, hq, hQ⟩ := hgo (Γ.wake c p) p rfl (wk c)
    refine ⟨e.result, s₁.setGen g e.genState, ?_, h e s₁ hq (by have z := GenW.runs_gsz hr; rwa [GenW.setGen_size] at z) hQ Γ p hΓ⟩
    unfold Wakes
    rw [hg]
    exact ⟨e, s₁, hr, hq, rfl, rfl⟩
  | suspended k₀ l₀ c₀ p₀ fs₀ cl =>
    obtain ⟨e, s₁, hr, hq, hQ⟩ := hgo (Γ.wake c₀ p) p₀ rfl (wk c₀)
    refine ⟨e.result, s₁.setGen g e.genState, ?_, h e s₁ hq (by have z := GenW.runs_gsz hr; rwa [GenW.setGen_size] at z) hQ Γ p hΓ⟩
    unfold Wakes
    rw [hg]
    exact ⟨e, s₁, hr, hq, rfl, rfl⟩
  | running => exact hgo.elim
  | finished => exact hgo.elim
end
section
variable {prog : Program} {w : World} {A : Around} {s : Shared} {a : Addr} {g : Nat} {gs : GenState} {Q : End → Shared → Prop} {R : Option Value → Shared → Prop} {E : Value → Shared → Prop}
theorem next_go (hh : A.handled = none) (hl : s.heap.NoLimit) (hroom : A.depth < recursionLimit) (hg : s.heap.IsGen a g) (hgs : s.gens[g]? = some gs) (hgo : GoG (model prog w) A.in1 Q gs (s.setGen g .running))
    (hY : ∀ v gd l k c p fs s₁, (End.susp v gd l k c p fs).quiet = true → s.gens.size ≤ s₁.gens.size → Q (.susp v gd l k c p fs) s₁ → R (some v) (s₁.setGen g (End.susp v gd l k c p fs).genState))
    (hR : ∀ r s₁, Q (.ret r) s₁ → (r = .ok .next ∨ r = .ok (.ret .none)) ∧ ∀ h', (∀ b o, s₁.heap.get? b = some o → h'.get? b = some o) → R none { s₁.setGen g .finished with heap := h' }) : wpAny (model prog w) A (pyNext (.ref a)) R E s := by
  unfold pyNext
  have slot := slot_gen_next
  refine wpAny_bind (wpAny_attempt (wpAny_callSpecial?_slot (name := Str.ofString "__next__") hg.typeIs slot (wpAny_call_entry slot hg.typeIs entry_gen_next (show wpAny _ A.in1 (Builtin.Generator.genWake (.ref a) (.send .none)) _ _ s from ?_) (args_gen_next _))))
  unfold Builtin.Generator.genWake
  refine wpAny_bind (wpAny_holding <| wpAny_genNumber hg <| wpAny_bind <| wpAny_genState hgs ?_)
  have fresh_or : gs.status = .fresh ∨ gs.status = .suspended := by
    cases gs with
    | fresh c => exact .inl rfl
    | suspended k₀ l₀ c₀ p₀ fs₀ cl => exact .inr rfl
    | running => exact hgo.elim
    | finished => exact hgo.elim
  have rest : ∀ {R' : PySem.Fin → Shared → Prop} {E' : Value → Shared → Prop} (K : GenResult → Sem PySem.Fin), (∀ e s₁, e.quiet = true → s.gens.size ≤ s₁.gens.size → Q e s₁ → wpAny (model prog w) A.in1 (K e.result) R' E' (s₁.setGen g e.genState)) → wpAny (model prog w) A.in1 (.resume g (.send .none) [] K) R' E' s := fun K hK => resume_go hgs hgo hK
  rcases fresh_or with h0 | h0
  all_goals
    rw [h0]
    refine wpAny_bind (wpAny_roomToWake hl hroom (rest _ fun e s₁ hq hz hQ => ?_))
    cases e with
    | susp v gd l k c p fs => exact wpAny_pure ⟨v, rfl, wpAny_pure (hY v gd l k c p fs s₁ hq hz hQ)⟩
    | ret r =>
      obtain ⟨hr, hend⟩ := hR r s₁ hQ
      have er : (End.ret r).result = .returned .none := by rcases hr with rfl | rfl <;> rfl
      rw [er]
      show wpAny _ A.in1 (newExc (.type "StopIteration") [] >>= _) _ _ _
      refine wpAny_bind ?_
      simp only [newExc, newTuple]
      refine wpAny_bind (wpAny_newObj_type (wpAny_bind (m := firstArgMember _ _) (wpAny_of_eq (a := Value.none) (by first | rfl | (simp only [firstArgMember]; rfl)) (wpAny_newObj_type ?_ (by size_fits)))) (by size_fits))
      simp only [raiseNew]
      refine wpAny_bind (wpAny_bind (wpAny_handled ?_))
      rw [show A.in1.handled = none from hh]
      refine wpAny_throw (wpAny_bind (wpAny_isInstance (T := "StopIteration") (b := true) ⟨_, Heap.get?_push_size _ rfl, rfl⟩ isSubtype_stop (wpAny_pure (hend _ fun b o hb => ?_))))
      exact Heap.get?_push_of_some _ (Heap.get?_push_of_some _ hb)
end
end JQ

set_option Elab.async false
set_option linter.all false
set_option maxRecDepth 100000
set_option maxHeartbeats 1000000
/-! # a generator def is called -/
namespace JQ
open PySem PySem.Spec PyProof.Rows L2 GenW
open Evl (Ex)
def IsGenO (o : Obj) (g : Nat) : Prop := o.cls = .type "generator" ∧ ∃ nm qn, o.data = .fields #[.int g 0, nm, qn] ∧ o.slots = #[]
theorem IsGenO.gen {o : Obj} {g : Nat} {h : Heap} {a : Addr} (x : IsGenO o g) (e : h.get? a = some o) : h.IsGen a g := by
  obtain ⟨c, nm, qn, d, sl⟩ := x
  exact ⟨o, nm, qn, e, c, d, sl⟩
theorem IsGenO.nc {o : Obj} {g : Nat} (x : IsGenO o g) : ∀ v, o.data ≠ .cell v := fun v q => by
  obtain ⟨_, nm, qn, d, _⟩ := x
  rw [d] at q
  cases q
structure Made (P : Program) (w : World) (K : PySem.W.Frag) (mg : Str → Option Value) (base : Heap) (k : Nat) (outer : List Env) (s : Shared) (G : Hp) (items : List D) (W : GD) (ag : Addr × Obj) (g : Nat) (fo : Obj) (gs : GenState) (u : Value) (s' : Shared) : Prop where
  eu : u = .ref ag.1
  eP : W.P = P
  ew : W.w = w
  eK : W.K = K
  emg : W.mg = mg
  ebase : W.base = base
  eout : W.outer = outer
  eL : W.L = s.heap.objs.size
  ek : W.k + 1 = k
  lt : W.L < ag.1
  own : s'.heap.get? W.L = some fo ∧ s'.heap.get? ag.1 = some ag.2
  gen : IsGenO ag.2 g
  gat : s'.gens[g]? = some gs
  gst : GSt W ag items G [] fo gs
  nc : ∀ v, fo.data ≠ .cell v
  os : s'.os = s.os
  bare : AllBare s'.gens
  keep : ∀ b o, s.heap.get? b = some o → s'.heap.get? b = some o
structure GnG (P : Program) (w : World) (K : PySem.W.Frag) (mg : Str → Option Value) (base : Heap) (k : Nat) (f : Addr) (fd : FuncData) (ps : List Str) (SG : List D → List D → Prop) : Prop where
  run : ∀ (A : Around) (outer : List Env) (s : Shared) (H G : Hp) (args : Args) (us : List Value) (vs : List V) (ds items : List D), A.guards = some [] → Room k A → Env0 P w K mg base A outer s H → BindsTo s fd args (ps.zip us) → Vals vs us → Iss K G vs ds → SG ds items →
    codeAny (model P w) A (.call (.ref f) args) (fun r s' => ∃ u W ag g fo gs, r = .ok (.ret u) ∧ Made P w K mg base k outer s G items W ag g fo gs u s') s
theorem GnG.up {P : Program} {w : World} {K : PySem.W.Frag} {mg : Str → Option Value} {base : Heap} {k : Nat} {f : Addr} {fd : FuncData} {ps : List Str} {SG SG' : List D → List D → Prop} (h : GnG P w K mg base k f fd ps SG) (q : ∀ ds is, SG' ds is → SG ds is) : GnG P w K mg base k f fd ps SG' := ⟨fun A outer s H G args us vs ds items h1 h2 h3 h4 h5 h6 h7 => h.run A outer s H G args us vs ds items h1 h2 h3 h4 h5 h6 (q _ _ h7)⟩
/-- a generator def keeps its promise, by its body -/
theorem gnD {P : Program} {w : World} {K : PySem.W.Frag} {mg : Str → Option Value} {base : Heap} {x qual : Str} {params : Arguments} {body : List Stmt} {scope : Scope} {dvs : List V} {kws : List (Str × V)} {f : Addr} {fd : FuncData} {N ps : List Str} {k : Nat} {SG : List D → List D → Prop}
    (F : FunD K x qual params body scope dvs kws f fd) (S : GScope N ps scope) (S2 : GScp N scope) (len : ∀ ds items, SG ds items → ds.length = ps.length)
    (hb : ∀ (cd : Value) (outer : List Env) (L : Addr) (ag : Addr × Obj) (ds items : List D), SG ds items → GSts ⟨P, w, K, mg, base, N, qual, scope, f, cd, outer, L, k⟩ ag body (startS N ds) items { nx := fun ds _ => ds = [], rt := fun ds => ds = [] }) : GnG P w K mg base (k + 1) f fd ps SG := by
  obtain ⟨oc, od, dV, kV, doc, pm, an, cdv, ct, osl, rfl, lk, hcd, _, _⟩ := F.ex
  refine ⟨fun A outer s H G args us vs ds items hg hr e0 bnd rv ri hsg => ?_⟩
  have hl : vs.length = ps.length := by rw [ri.length]; exact len _ _ hsg
  have KX : K.In s.heap := e0.mod.kin.keeps fun b o e => (e0.bs b o e).1
  have lim : s.heap.NoLimit := e0.mod.nolimit.keeps fun b o e => (e0.bs b o e).1
  have hkind : ∀ y ∈ ps.zip us, scope.names.lookup y.1 = some .local ∨ (scope.names.lookup y.1 = some .cell ∧ ((cellsFrom (s.heap.objs.size + 1) scope.names []).lookup y.1).isSome = true) := fun y hy => by
    have hy1 : y.1 ∈ ps := (List.of_mem_zip (show (y.1, y.2) ∈ ps.zip us from hy)).1
    rcases S.par y.1 hy1 with q | q
    · exact .inl q
    · exact absurd q S2.no.1
  refine codeAny_call_generator hr.depth (KX _ _ lk) rfl S.co S.gen rfl (PySem.W.codeRec_of KX hcd) (bnd _ _ _ _ ?_)
  refine wpAny_newFunctionEnv_cells S.kind hkind fun env he s1 x => ⟨lim.keeps (he ▸ x).toInCall.keep, ?_⟩
  subst he
  let W : GD := ⟨P, w, K, mg, base, N, qual, scope, f, cdv, outer, s.heap.objs.size, k⟩
  have I1 : Inv (gcxOf P w K mg base N qual scope f cdv A outer s H (fun _ _ _ => False) []) [] (start N vs) H s1 := inv_startG S hr.hd e0 hl rv x
  obtain ⟨h1, tk, es1, hk1⟩ := x.done
  have os1 : s1.os = s.os := by rw [es1]
  have gen1 : s1.gens = s.gens := by rw [es1]
  have lt1 : s.heap.objs.size < s1.heap.objs.size := x.toInCall.ns.lt
  have kp1 := x.toInCall.keep
  obtain ⟨m, ⟨o, dic, ep, ho, hd, hk, hn⟩, hv⟩ := I1.loc
  have fok : FoOk W o (start N vs) := by
    refine ⟨I1.len, fun v q => (by rw [hd] at q; cases q), dic, ep, m, hd, hk, hn, fun i x v h1 h2 h3 => ?_⟩
    obtain ⟨u, r, l⟩ := hv i x v h1 h2 h3
    rcases l with ⟨l1, l2⟩ | ⟨_, c, e, _⟩
    · exact ⟨u, r, l1, l2⟩
    · have e : (cellsFrom (s.heap.objs.size + 1) scope.names []).lookup x = some c := e
      rw [cells_none _ _ S2.nc] at e
      cases e
  have main : ∀ (go : Obj) (tk2 : Nat), IsGenO go s1.gens.size → (∀ h : Heap, (h.push go).get? h.objs.size = some go) →
      Made P w K mg base (k + 1) outer s G items W (s1.heap.objs.size, go) s1.gens.size o (.fresh (.func body W.env)) (.ref s1.heap.objs.size) { s1 with gens := s1.gens.push (.fresh (.func body W.env)), toks := tk2, heap := s1.heap.push go } := fun go tk2 hgo hpush => by
    refine ⟨rfl, rfl, rfl, rfl, rfl, rfl, rfl, rfl, rfl, lt1, ⟨Heap.get?_push_of_some _ ho, hpush _⟩, hgo, Array.getElem?_push_size .., ?_, fok.2.1, os1, AllBare.push (by rw [gen1]; exact e0.bare) rfl, fun b o e => Heap.get?_push_of_some _ (kp1 b o e)⟩
    refine gst_of fun T eG wk hip => ?_
    have hpv : PvOk W [(s1.heap.objs.size, go)] := fun q hq => by
      rw [List.mem_singleton.mp hq]
      exact ⟨Nat.ne_of_gt lt1, I1.nofs (Nat.le_refl _), hgo.nc⟩
    have rn : Rn W (s1.heap.objs.size, go) T [] (start N vs) T.G T.H (startS N ds) T.s := wk.rn S2 hpv fok (by rw [eG]; exact start_frm ri) hip
    show Go (model P w) T.A (Out W (s1.heap.objs.size, go) T items) (.func body W.env) ((model P w).den (.func body W.env)) [] T.s
    refine go_func ?_
    refine (hb cdv outer s.heap.objs.size (s1.heap.objs.size, go) ds items hsg).run [] _ [] _ _ id id T _ _ _ _ ⟨fun A => over_func, rfl, rfl, rfl⟩ ⟨fun T' ds' ss' σ' G' H' s' fl r' q => ?_⟩ rn
    cases fl with
    | next =>
      obtain rfl : ds' = [] := q
      exact go_end (.ok (.ret .none)) ⟨G', H', .inr rfl, r'.fx⟩
    | brk => exact q.elim
    | cont => exact q.elim
    | ret u =>
      obtain ⟨rfl, q⟩ := q
      obtain rfl : ds' = [] := q
      exact go_end (.ok (.ret .none)) ⟨G', H', .inr rfl, r'.fx⟩
  exact ⟨_, W, _, _, _, _, rfl, main _ _ ⟨rfl, _, _, rfl, rfl⟩ fun h => Heap.get?_push_size _ rfl⟩
end JQ

set_option Elab.async false
set_option linter.all false
set_option maxRecDepth 100000
set_option maxHeartbeats 1000000
/-! # a generator is walked by for -/
namespace JQ
open PySem PySem.Spec PyProof.Rows L2 GenW
open Evl (Ex)
/-! ### sleepers hidden -/
def dead : GenState → GenState
  | .suspended _ l c p fs cl => .suspended deadK l c p fs cl
  | x => x
def Slp (b : Array GenState) : Nat → Prop := fun i => ∃ k l c p fs cl, b[i]? = some (.suspended k l c p fs cl)
theorem dead_rel (b : Array GenState) : GRel (Slp b) (b.map dead) b where
  size := by simp
  inn := fun i ⟨k, l, c, p, fs, cl, e⟩ => ⟨k, l, c, p, fs, cl, e, by rw [Array.getElem?_map, e]; rfl⟩
  out := fun i x n e => by
    rw [Array.getElem?_map] at e
    cases q : b[i]? with
    | none => rw [q] at e; cases e
    | some y =>
      rw [q] at e
      have e : dead y = x := Option.some.inj e
      cases y with
      | suspended k l c p fs cl => exact absurd ⟨k, l, c, p, fs, cl, q⟩ n
      | fresh c => subst e; exact ⟨rfl, fun _ _ _ _ _ _ z => nomatch z⟩
      | running => subst e; exact ⟨rfl, fun _ _ _ _ _ _ z => nomatch z⟩
      | finished => subst e; exact ⟨rfl, fun _ _ _ _ _ _ z => nomatch z⟩
theorem bare_at {b : Array GenState} (h : AllBare b) {i : Nat} {x : GenState} (e : b[i]? = some x) : x.bare = true := by
  obtain ⟨hi, e⟩ := Array.getElem?_eq_some_iff.mp e
  exact h x (by rw [← e]; exact Array.getElem_mem hi)
theorem bare_of {b : Array GenState} (h : ∀ (i : Nat) x, b[i]? = some x → x.bare = true) : AllBare b := fun x hx => by
  obtain ⟨i, hi, e⟩ := Array.mem_iff_getElem.mp hx
  exact h i x (by rw [Array.getElem?_eq_getElem hi, e])
theorem dead_bare {b : Array GenState} (h : AllBare b) : AllBare (b.map dead) := bare_of fun i x e => by
  rw [Array.getElem?_map] at e
  cases q : b[i]? with
  | none => rw [q] at e; cases e
  | some y =>
    rw [q] at e
    have e : dead y = x := Option.some.inj e
    have hy := bare_at h q
    cases y <;> · subst e; exact hy
theorem rel_bare {J : Nat → Prop} {a b : Array GenState} (r : GRel J a b) (h : AllBare a) : AllBare b := bare_of fun i x e => by
  have hi := (Array.getElem?_eq_some_iff.mp e).1
  have ha : a[i]? = some (a[i]'(by rw [r.size]; exact hi)) := Array.getElem?_eq_getElem (by rw [r.size]; exact hi)
  by_cases m : J i
  · obtain ⟨k, l, c, p, fs, cl, e1, e2⟩ := r.inn i m
    have hb := bare_at h e2
    rw [e] at e1
    cases e1
    exact hb
  · have q := (r.out i _ m ha).1
    rw [e] at q
    cases q
    exact bare_at h ha
theorem set_bare {b : Array GenState} (h : AllBare b) {g : Nat} {x : GenState} (hx : x.bare = true) : AllBare (b.setIfInBounds g x) := bare_of fun i y e => by
  rw [set_at] at e
  split at e
  · split at e
    · cases e; exact hx
    · cases e
  · exact bare_at h e
theorem _root_.L2.Inv.regen {X : Cx} {pins : List (Addr × Obj)} {σ : L2.St} {H : Hp} {s : Shared} {b : Array GenState} (I : L2.Inv X pins σ H s) (h : AllBare b) : L2.Inv X pins σ H (gw s b) :=
  ⟨I.ok, I.os, h, I.base, I.loc, I.cell, I.free, I.freeC, I.pin, I.hok, I.len⟩
/-- an error's wish asks nothing of the sleepers -/
def XeU (X : Cx) : Prop := ∀ (e : Value) (s : Shared) (J : Nat → Prop) (b : Array GenState), GRel J s.gens b → X.xe e s → X.xe e (gw s b)
theorem cx_regen {P : Program} {w : World} {outer : List Env} {H : Hp} {s s1 : Shared} {E : XK} {u : Value} {J : Nat → Prop} {b : Array GenState} (h : CX P w outer H s E u s1) (r : GRel J s1.gens b) : CX P w outer H s E u (gw s1 b) := by
  obtain ⟨a, B, H', cls, d, h1, h2, h3, h4, h5, h6, h7, h8⟩ := h
  exact ⟨a, B, H', cls, d, h1, h2, h3, h4, h5, h6, rel_bare r h7, h8⟩
theorem xeU_def {P : Program} {w : World} {K : PySem.W.Frag} {mg : Str → Option Value} {base : Heap} {N : List Str} {qual : Str} {scope : Scope} {f : Addr} {cd : Value} {A : Around} {outer : List Env} {s : Shared} {H : Hp} {E : XK} : XeU (cxOf (L2.CX P w) P w K mg base N qual scope f cd A outer s H E) := fun e s1 J b r h => by
  refine wpAny_mono (wpAny_mask (J := J) (b := b) h r) (fun _ s2 q => ?_) fun e' s2 q => ?_
  · obtain ⟨s3, b', e1, r', _, q⟩ := q
    rw [e1]
    exact cx_regen q r'
  · obtain ⟨s3, b', e1, r', _, q⟩ := q
    rw [e1]
    exact cx_regen q r'
/-! ### the walker -/
structure Stc (X : Cx) (W : GD) : Prop where
  eP : W.P = X.prog
  ew : W.w = X.w
  eK : W.K = X.K
  emg : W.mg = X.mg
  ebase : W.base = X.base
  eout : W.outer = X.stack
  loc : X.env.locals < W.L
  cel : ∀ x c, X.env.cells.lookup x = some c → c < W.L
  frm : ∀ b ∈ frs X.stack, b < W.L
  bsz : X.base.objs.size ≤ W.L
  sz : X.s_0.heap.objs.size ≤ W.L
  rm : Room (W.k + 2) X.A
  gd : X.A.guards = some []
structure Rdy (X : Cx) (pins : List (Addr × Obj)) (W : GD) (ag : Addr × Obj) (g : Nat) (items : List D) (Gi : Hp) (ip : List (Addr × Obj)) (fo : Obj) (gs : GenState) (H : Hp) (s : Shared) : Prop where
  gst : GSt W ag items Gi ip fo gs
  gat : s.gens[g]? = some gs
  gen : IsGenO ag.2 g
  own : ∀ q ∈ (W.L, fo) :: ag :: ip, s.heap.get? q.1 = some q.2 ∧ H q.1 = none
  pv : PvOk W (ag :: ip)
  nc : ∀ v, fo.data ≠ .cell v
  ipL : ∀ q ∈ ag :: ip, W.L ≤ q.1
  apart : ∀ q ∈ (W.L, fo) :: ag :: ip, ∀ p ∈ X.pn ++ pins, p.1 ≠ q.1
theorem funs_low {h base : Heap} {n : Nat} : ∀ {l : List Env}, (∀ b ∈ frs l, b < n) → h.FunFrames base l → (low h n).FunFrames base l := by
  intro l
  induction l with
  | nil => exact fun _ _ => trivial
  | cons env l ih =>
    intro hb ⟨h1, ⟨L, o, h2, h3, h4, h5⟩, h6⟩
    have hL : L < n := hb L (List.mem_filterMap.mpr ⟨env, List.mem_cons_self, h2⟩)
    exact ⟨h1, ⟨L, o, h2, h3, low_of hL h4, h5⟩, ih (fun b hb' => hb b (by
      obtain ⟨e, he, q⟩ := List.mem_filterMap.mp hb'
      exact List.mem_filterMap.mpr ⟨e, List.mem_cons_of_mem _ he, q⟩)) h6⟩
section
variable {X : Cx} {pins : List (Addr × Obj)} {σ : L2.St} {H : Hp} {s : Shared} {W : GD} {ag : Addr × Obj} {g : Nat} {items : List D} {Gi : Hp} {ip : List (Addr × Obj)} {fo : Obj} {gs : GenState}
abbrev tnAt (X : Cx) (pins : List (Addr × Obj)) (g : Nat) (Gi H : Hp) (s : Shared) : Tn := ⟨X.A.in1, s.setGen g .running, H, Gi, X.pn ++ pins⟩
theorem wk_at (St : Stc X W) (I : L2.Inv X pins σ H s) (R : Rdy X pins W ag g items Gi ip fo gs H s) (eG : Ex Gi H) : Wk W (tnAt X pins g Gi H s) (ag :: ip) fo ∧ IpOk W (tnAt X pins g Gi H s) (ag :: ip) := by
  obtain ⟨P, w, K, mg, base, N, qual, scope, f, cd, outer, L, k⟩ := W
  obtain ⟨eP, ew, eK, emg, ebase, eout, loc, cel, frm, bsz, sz, rm, gd⟩ := St
  dsimp only at eP ew eK emg ebase eout loc cel frm bsz sz rm
  subst eP ew eK emg ebase eout
  have e0 := I.env0
  refine ⟨⟨I.ok.frames, rm.in1, gd, I.ok.mod, fun b o e => ⟨low_of (Nat.lt_of_lt_of_le (Heap.lt_size e) bsz) (I.bs b o e).1, (I.bs b o e).2⟩, bsz, funs_low frm e0.funs, e0.frf, I.hok, set_bare I.bare rfl, eG, fun q hq => R.own q (List.mem_cons_of_mem _ hq), R.own _ List.mem_cons_self, fun p hp => ?_⟩, fun q hq => ⟨R.ipL q hq, R.apart q (List.mem_cons_of_mem _ hq)⟩⟩
  obtain ⟨h1, h2, h3, h4, h5⟩ := I.pin p hp
  refine ⟨h1, h2, R.apart _ List.mem_cons_self p hp, fun z => ?_, h5⟩
  rcases List.mem_cons.mp (I.stkSub p.1 z) with z | z
  · exact h3 z
  · exact h4 z
/-- behind a turn the walker goes on -/
theorem back_inv (St : Stc X W) (I : L2.Inv X pins σ H s) {pv : List (Addr × Obj)} {G' H' : Hp} {s1 : Shared} (F : Fx W (tnAt X pins g Gi H s) pv G' H' s1) : L2.Inv X pins σ H' s1 := by
  obtain ⟨P, w, K, mg, base, N, qual, scope, f, cd, outer, L, k⟩ := W
  obtain ⟨eP, ew, eK, emg, ebase, eout, loc, cel, frm, bsz, sz, rm, gd⟩ := St
  dsimp only at eP ew eK emg ebase eout loc cel frm bsz sz rm
  subst eP ew eK emg ebase eout
  have pinT : ∀ b o, s.heap.get? b = some o → (∃ p ∈ X.pn ++ pins, p.1 = b) → s1.heap.get? b = some o ∧ H' b = none := fun b o e ⟨p, hp, hb⟩ => by
    obtain ⟨h1, h2⟩ := F.pins p hp
    have h3 := (I.pin p hp).1
    rw [hb] at h1 h2 h3
    rw [e] at h3
    cases h3
    exact ⟨h1, h2⟩
  let ch : List Addr := (List.range s.heap.objs.size).filter fun b => decide (L ≤ b) && ((H b).isNone && (X.pn ++ pins).all fun p => decide (p.1 ≠ b))
  have mem : ∀ b, b ∈ ch ↔ b < s.heap.objs.size ∧ L ≤ b ∧ H b = none ∧ ∀ p ∈ X.pn ++ pins, p.1 ≠ b := fun b => by
    show b ∈ (List.range s.heap.objs.size).filter _ ↔ _
    rw [List.mem_filter, List.mem_range, Bool.and_eq_true, Bool.and_eq_true, decide_eq_true_eq, Option.isNone_iff_eq_none, List.all_eq_true]
    simp only [decide_eq_true_eq]
  have cases_ : ∀ b o, s.heap.get? b = some o → H b = none → b ∉ ch → b < L ∨ ∃ p ∈ X.pn ++ pins, p.1 = b := fun b o e n hb => by
    by_cases c : b < L
    · exact .inl c
    · refine .inr (Classical.byContradiction fun no => hb ((mem b).mpr ⟨Heap.lt_size e, Nat.le_of_not_lt c, n, fun p hp z => no ⟨p, hp, z⟩⟩))
  refine I.call' (ch := ch) F.os ⟨fun b o e n hf hc => ?_, fun b o e n hf hc => ?_, fun b o e n hc => ?_, fun b o e hc => ?_, F.un.tups, F.un.frzs, F.un.tbls⟩ F.hok F.bare fun b hb => ?_
  · rcases cases_ b o e n hc with c | c
    · exact F.un.keep b o (low_of c e) n hf (fun z => nomatch z)
    · exact (pinT b o e c).1
  · exact F.un.slot b o (low_of (frm b hf) e) n hf (fun z => nomatch z)
  · rcases cases_ b o e n hc with c | c
    · exact F.un.free b o (low_of c e) n (fun z => nomatch z)
    · exact (pinT b o e c).2
  · cases q : H b with
    | none =>
      rcases cases_ b o e q hc with c | c
      · exact F.un.there b o (low_of c e) (fun z => nomatch z)
      · exact ⟨o, (pinT b o e c).1⟩
    | some u =>
      obtain ⟨u', q'⟩ := F.tr.lv b u q
      cases z : s1.heap.get? b with
      | some o' => exact ⟨o', rfl⟩
      | none => rw [F.hok.gone z] at q'; cases q'
  · obtain ⟨h1, h2, h3, h4⟩ := (mem b).mp hb
    exact ⟨.inr (Nat.le_trans sz h2), Nat.ne_of_gt (Nat.lt_of_lt_of_le loc h2), fun x c e => Nat.ne_of_lt (Nat.lt_of_lt_of_le (cel x c e) h2), h4⟩
end
end JQ

set_option Elab.async false
set_option linter.all false
set_option maxRecDepth 100000
set_option maxHeartbeats 1000000
namespace JQ
open PySem PySem.Spec PyProof.Rows L2 GenW
open Evl (Ex)
/-- the walker's data and what the turn made -/
def Hp.with (G G' : Hp) : Hp := fun b => match G' b with
  | some o => some o
  | none => G b
section
variable {K : PySem.W.Frag} {G Gi H G' H' : Hp} {M : Mm}
theorem with_ex : Ex G' (Hp.with G G') := fun b o e => by
  show (match G' b with | some o => some o | none => G b) = some o
  rw [e]
/-- a turn that knows less of the world leaves all else as it was -/
theorem tr_frame (w : Wd K G H M) (eG : Ex Gi G) (t : Tr K Gi H m0 G' H' m0) : Tr K G H M (Hp.with G G') H' M := by
  have hG' : ∀ b o, H b = some o → G' b = Gi b ∧ H' b = some o := fun b o e => by
    obtain ⟨h1, _, h3⟩ := t.fr b o e rfl
    exact ⟨h3, h1⟩
  have at_ : ∀ b, (Hp.with G G') b = match G' b with | some o => some o | none => G b := fun b => rfl
  have old : ∀ b o, H b = some o → (Hp.with G G') b = G b := fun b o e => by
    rw [at_, (hG' b o e).1]
    cases q : Gi b with
    | none => rfl
    | some u => exact (eG b u q).symm
  refine ⟨fun b o e => ?_, ⟨fun b o e => ?_, fun b o e => ?_⟩, fun b o e m => ⟨(hG' b o e).2, m, old b o e⟩, fun b o e => ⟨o, (hG' b o e).2⟩⟩
  · rw [old b o (w.gh b o e)]
    exact e
  · rw [at_] at e
    cases q : G' b with
    | some u =>
      rw [q] at e
      cases e
      exact t.gh b o q
    | none =>
      rw [q] at e
      exact (hG' b o (w.gh b o e)).2
  · obtain ⟨h1, u, h2, h3⟩ := w.mo b o e
    refine ⟨by rw [old b u h2]; exact h1, u, (hG' b u h2).2, h3.mono fun c o e => ?_⟩
    rw [old c o (w.gh c o e)]
    exact e
end
/-- a generator comes of an expression: its items -/
structure WIG (Y : Bd) (iter : Expr) (ss : List S) (M : Mm) (R : List D → Mm → Prop) : Prop where
  run : ∀ B σ G H pins s, StOk Y B σ G H M ss → L2.Inv Y.X pins σ H s → wpAny (model Y.X.prog Y.X.w) Y.X.A (eval iter Y.X.env) (fun v s1 => ∃ W ag g fo gs G1 H1 M1 items, v = .ref ag.1 ∧ L2.Inv Y.X pins σ H1 s1 ∧ Tr Y.X.K G H M G1 H1 M1 ∧ Stc Y.X W ∧ Rdy Y.X pins W ag g items G1 [] fo gs H1 s1 ∧ R items M1) Y.X.xe s
section
variable {Y : Bd} {ss : List S} {M : Mm} {N : DE} {tg iter e : Expr} {pos : Pos}
/-- for tg in iter: body, iter a generator -/
theorem ws_forG {T : List Nat} {body : List Stmt} (hp : PassesOwn (model Y.X.prog Y.X.w) Y.X.A Y.X.env Y.X.xe) (hu : XeU Y.X)
    (h : WIG Y iter ss M fun ds M1 => ∃ Iv : Nat → List S → Mm → Prop, Iv 0 ss M1 ∧ (∀ i d ss' M', ds[i]? = some d → Iv i ss' M' → WG Y tg T d ss' M' fun ss2 M2 => WSs Y body ss2 M2 { nx := Iv (i + 1), ct := Iv (i + 1), bk := N.nx, rt := N.rt }) ∧ ∀ ss' M', Iv ds.length ss' M' → N.nx ss' M')
    (hs : ∀ x, foldedSetIterable iter Y.X.env x = pure x := by intro _; rfl) : WS Y (.For tg iter body [] pos) ss M N := .mk fun B σ G H E so eo pins s I => by
  refine wpAny_For (thn (h.run B σ G H pins s so I) fun v s1 h1 => ?_) hs
  obtain ⟨W, ag, g, fo, gs, G1, H1, M1, items, ev, I1, t1, St, R1, Iv, iv0, step, last⟩ := h1
  subst ev
  have ga : s1.heap.IsGen ag.1 g := R1.gen.gen (R1.own ag (List.mem_cons_of_mem _ List.mem_cons_self)).1
  refine wpAny_pyIter_gen ga ?_
  refine codeAny_forLoop_any (fun n s' => ∃ i σ G H M ss Gi ip fo gs, n = items.length - i ∧ i ≤ items.length ∧ L2.Inv Y.X pins σ H s' ∧ StOk Y B σ G H M ss ∧ Ex Gi G ∧ Rdy Y.X pins W ag g (items.drop i) Gi ip fo gs H s' ∧ Iv i ss M) ?_ (items.length - 0) ⟨0, σ, G1, H1, M1, ss, G1, [], fo, gs, rfl, Nat.zero_le _, I1, so.go t1, Ex.refl _, R1, iv0⟩
  rintro n s3 ⟨i, σ3, G3, H3, M3, ss3, Gi, ip, fo3, gs3, rfl, hi, I3, so3, eG, R3, iv3⟩
  obtain ⟨wk, ipk⟩ := wk_at St I3 R3 (fun b o e => so3.gh b o (eG b o e))
  have ga3 : s3.heap.IsGen ag.1 g := R3.gen.gen (R3.own ag (List.mem_cons_of_mem _ List.mem_cons_self)).1
  have go3 := gst_go R3.gst (tnAt Y.X pins g Gi H3 s3) rfl wk ipk
  rw [St.eP, St.ew] at go3
  have hroom := St.rm
  refine wpAny_passesOwn hp (next_go St.rm.hd I3.nolimit St.rm.depth ga3 R3.gat go3 (fun v gd l k c p fs s4 hq hz ho => ?_) fun r s4 ho => ?_)
  · -- an item
    by_cases hlt : i < items.length
    case neg =>
      exfalso
      rw [List.drop_eq_nil_of_le (by omega)] at ho
      obtain ⟨_, _, e, _⟩ := ho
      rcases e with e | e <;> cases e
    case pos =>
    have ed : items.drop i = items[i] :: items.drop (i + 1) := List.drop_eq_getElem_cons hlt
    rw [ed] at ho
    obtain ⟨v', gd', l', k', c', p', fs', G', H', x, ip', fo', ee, F, pvk, nck, ipk', rv, ri, gst'⟩ := ho
    cases ee
    have I4 := back_inv St I3 F
    have tr4 := F.tr
    rw [St.eK] at tr4 ri
    have t4 := tr_frame so3.w eG tr4
    have so4 := so3.go t4
    have hb : (End.susp v gd l k c p fs).genState.bare = true := End.bare_of_quiet hq
    generalize hgs : (End.susp v gd l k c p fs).genState = gs' at gst' hb ⊢
    have hgsS : ∃ k l c p fs cl, gs' = .suspended k l c p fs cl := ⟨_, _, _, _, _, _, hgs.symm⟩
    have hg4 : g < s4.gens.size := Nat.lt_of_lt_of_le (Array.getElem?_eq_some_iff.mp R3.gat).1 hz
    have g5 : (s4.setGen g gs').gens[g]? = some gs' := by
      show (s4.gens.setIfInBounds g gs')[g]? = _
      rw [set_at, if_pos rfl, if_pos hg4]
    have I5 : L2.Inv Y.X pins σ3 H' (s4.setGen g gs') := I4.regen (set_bare I4.bare hb)
    have ownF := F.pv
    have own5 : ∀ q ∈ (W.L, fo') :: ag :: ip', (s4.setGen g gs').heap.get? q.1 = some q.2 ∧ H' q.1 = none := F.pv
    have pv5 : PvOk W (ag :: ip') := fun q hq => by
      rcases List.mem_cons.mp hq with rfl | hq
      · exact R3.pv _ List.mem_cons_self
      · exact pvk q hq
    have ipL5 : ∀ q ∈ ag :: ip', W.L ≤ q.1 := fun q hq => (ipk' q hq).1
    have ap5 : ∀ q ∈ (W.L, fo') :: ag :: ip', ∀ p ∈ Y.X.pn ++ pins, p.1 ≠ q.1 := fun q hq p hp => by
      rcases List.mem_cons.mp hq with rfl | hq
      · exact R3.apart (W.L, fo3) List.mem_cons_self p hp
      · exact (ipk' q hq).2 p hp
    have fsL : ∀ b, W.L ≤ b → b ≠ Y.X.env.locals ∧ b ∉ Y.X.fs := fun b hb => by
      refine ⟨Nat.ne_of_gt (Nat.lt_of_lt_of_le St.loc hb), fun hm => ?_⟩
      have hm2 : b ∈ frs Y.X.stack := by
        rcases I3.ok.stk with e | ⟨e, hf⟩
        · rw [e]; exact hm
        · rw [e]
          show b ∈ (Y.X.env :: Y.X.outer).filterMap (·.frame)
          rw [List.filterMap_cons, hf]
          exact List.mem_cons_of_mem _ hm
      exact absurd (Nat.lt_of_lt_of_le (St.frm b hm2) hb) (Nat.lt_irrefl _)
    have Ip : L2.Inv Y.X (pins ++ ((W.L, fo') :: ag :: ip')) σ3 H' (s4.setGen g gs') := I5.pins_of fun q hq => by
      rcases List.mem_append.mp hq with hq | hq
      · exact I5.pin q (List.mem_append_right _ hq)
      · obtain ⟨h1, h2⟩ := own5 q hq
        rcases List.mem_cons.mp hq with rfl | hq'
        · exact ⟨h1, h2, (fsL _ (Nat.le_refl _)).1, (fsL _ (Nat.le_refl _)).2, nck⟩
        · exact ⟨h1, h2, (fsL _ (ipL5 q hq')).1, (fsL _ (ipL5 q hq')).2, (pv5 q hq').2.2⟩
    obtain ⟨gc, nm, qn, gdt, gsl⟩ := R3.gen
    refine wpAny_passesOwn hp (go_of (own5 ag (List.mem_cons_of_mem _ List.mem_cons_self)).1 gc gdt (by decide) ?_)
    -- the target and the body, while it sleeps
    have xw : ∀ {J : Nat → Prop} {a b : Array GenState} (e : Value) (z : Shared), Woke J a b (Y.X.xe e) z → Y.X.xe e z := fun {J a b} e z ⟨z1, b', e1, r', _, q⟩ => by
      rw [e1]
      exact hu e z1 J b' r' q
    have jg : Slp (s4.setGen g gs').gens g := by
      obtain ⟨k, l, c, p, fs, cl, e⟩ := hgsS
      exact ⟨k, l, c, p, fs, cl, by rw [g5, e]⟩
    have so5 : StOk Y ⟨Hp.with G3 G', H', M3⟩ σ3 (Hp.with G3 G') H' M3 ss3 := ⟨so4.refl, so4.er.base so4.t, so4.f⟩
    have eo5 : EndsOk Y ⟨Hp.with G3 G', H', M3⟩ N E := eo.base so4.t so4.er
    have w1 := (step i items[i] ss3 M3 (List.getElem?_eq_getElem hlt) iv3).run ⟨Hp.with G3 G', H', M3⟩ σ3 _ H' x (fun σ' H2 => ∃ G2 M2 ss2, StOk Y ⟨Hp.with G3 G', H', M3⟩ σ' G2 H2 M2 ss2 ∧ WSs Y body ss2 M2 { nx := Iv (i + 1), ct := Iv (i + 1), bk := N.nx, rt := N.rt }) so5 (ri.mono with_ex) (fun σ' G2 H2 M2 ss2 so2 _ _ q => ⟨G2, M2, ss2, so2, q⟩) _ (gw (s4.setGen g gs') ((s4.setGen g gs').gens.map dead)) v (Ip.regen (dead_bare Ip.bare)) rv
    have w2 := wpAny_mask (b := (s4.setGen g gs').gens) w1 (dead_rel (s4.setGen g gs').gens)
    refine wpAny_passesOwn hp (wpAny_mono w2 (fun _ s6 q6 => ?_) xw)
    obtain ⟨s6', b6, e6, r6, k6, σ6, H6, I6, G6, M6, ss6, so6, hbody⟩ := q6
    subst e6
    have w3 := hbody.run ⟨Hp.with G3 G', H', M3⟩ σ6 G6 H6 { nx := fun σ' H2 => ∃ G2 M2 ss2, StOk Y ⟨Hp.with G3 G', H', M3⟩ σ' G2 H2 M2 ss2 ∧ Iv (i + 1) ss2 M2, ct := fun σ' H2 => ∃ G2 M2 ss2, StOk Y ⟨Hp.with G3 G', H', M3⟩ σ' G2 H2 M2 ss2 ∧ Iv (i + 1) ss2 M2, bk := E.nx, rt := E.rt } so6
      ⟨fun σ' G2 H2 M2 ss2 so2 q => ⟨G2, M2, ss2, so2, q⟩, eo5.rt, eo5.nx, fun σ' G2 H2 M2 ss2 so2 q => ⟨G2, M2, ss2, so2, q⟩⟩ _ s6' I6
    have w4 := wpAny_mask w3 r6
    refine wpAny_passesOwn hp (wpAny_mono w4 (fun f s7 q7 => ?_) xw)
    obtain ⟨s7', b7, e7, r7, k7, sp⟩ := q7
    subst e7
    have g7 : b7[g]? = some gs' := ((k7.at_ g jg).2.trans (k6.at_ g jg).2).trans g5
    have again : ∀ {σ7 : L2.St} {H7 : Hp}, L2.Inv Y.X (pins ++ ((W.L, fo') :: ag :: ip')) σ7 H7 s7' → (∃ G2 M2 ss2, StOk Y ⟨Hp.with G3 G', H', M3⟩ σ7 G2 H7 M2 ss2 ∧ Iv (i + 1) ss2 M2) →
        ∃ m, m < items.length - i ∧ ∃ i σ G H M ss Gi ip fo gs, m = items.length - i ∧ i ≤ items.length ∧ L2.Inv Y.X pins σ H (gw s7' b7) ∧ StOk Y B σ G H M ss ∧ Ex Gi G ∧ Rdy Y.X pins W ag g (items.drop i) Gi ip fo gs H (gw s7' b7) ∧ Iv i ss M := fun {σ7 H7} I7 ⟨G2, M2, ss2, so2, q⟩ => by
      refine ⟨items.length - (i + 1), by omega, i + 1, σ7, G2, H7, M2, ss2, G', ip', fo', gs', rfl, hlt, (I7.unpinned).regen (rel_bare r7 I7.bare), so2.unbase so4.t so4.er, (with_ex (G := G3)).trans so2.t.gg, ⟨gst', g7, ⟨gc, nm, qn, gdt, gsl⟩, fun q hq => ?_, pv5, nck, ipL5, ap5⟩, q⟩
      obtain ⟨h1, h2, _⟩ := I7.pin q (List.mem_append_right _ (List.mem_append_right _ hq))
      exact ⟨h1, h2⟩
    have out : ∀ {σ7 : L2.St} {H7 : Hp}, L2.Inv Y.X (pins ++ ((W.L, fo') :: ag :: ip')) σ7 H7 s7' → L2.Inv Y.X pins σ7 H7 (gw s7' b7) := fun I7 => (I7.unpinned).regen (rel_bare r7 I7.bare)
    cases f with
    | next => obtain ⟨σ7, H7, I7, q7⟩ := sp; exact again I7 q7
    | cont => obtain ⟨σ7, H7, I7, q7⟩ := sp; exact again I7 q7
    | brk => obtain ⟨σ7, H7, I7, q7⟩ := sp; exact ⟨σ7, H7, out I7, q7⟩
    | ret u => obtain ⟨x7, σ7, H7, I7, rv7, q7⟩ := sp; exact ⟨x7, σ7, H7, out I7, rv7, q7⟩
  · -- the end
    by_cases hlt : i < items.length
    case pos =>
      exfalso
      rw [List.drop_eq_getElem_cons hlt] at ho
      obtain ⟨v', gd', l', k', c', p', fs', G', H', x, ip', fo', ee, _⟩ := ho
      cases ee
    case neg =>
    have ei : i = items.length := by omega
    rw [List.drop_eq_nil_of_le (by omega)] at ho
    obtain ⟨G', H', er, F⟩ := ho
    refine ⟨?_, fun h' hk => ?_⟩
    · rcases er with e | e <;> cases e
      · exact .inl rfl
      · exact .inr rfl
    · have I4 := back_inv St I3 F
      have tr4 := F.tr
      rw [St.eK] at tr4
      have so4 := so3.go (tr_frame so3.w eG tr4)
      have I5 : L2.Inv Y.X pins σ3 H' { s4.setGen g .finished with heap := h' } := (I4.regen (b := s4.gens.setIfInBounds g .finished) (set_bare I4.bare rfl)).kept (t' := s4.toks) hk
      exact wpAny_execs_nil ⟨σ3, H', I5, eo.nx _ _ _ _ _ so4 (last ss3 M3 (by rw [← ei]; exact iv3))⟩
end
end JQ

set_option Elab.async false
set_option linter.all false
set_option maxRecDepth 100000
set_option maxHeartbeats 1000000
namespace JQ
open PySem PySem.Spec PyProof.Rows L2 GenW
open Evl (Ex)
/-- a generator method, a generator def -/
def KGM (P : Program) (w : World) (K : PySem.W.Frag) (mg : Str → Option Value) (base : Heap) (k : Nat) (C : Addr) (m : Str) (n : Nat) (SG : List D → List D → Prop) : Prop := ∃ f fd ps, GnG P w K mg base k f fd ps SG ∧ Bnd K fd ps (n + 1) [] (· ++ ·) ∧ Cls K C ∧ Meth K C m f
def KGF (P : Program) (w : World) (K : PySem.W.Frag) (mg : Str → Option Value) (base : Heap) (k : Nat) (x : Str) (n : Nat) (SG : List D → List D → Prop) : Prop := ∃ f fd ps, GnG P w K mg base k f fd ps SG ∧ Bnd K fd ps n [] (· ++ ·) ∧ mg x = some (.ref f) ∧ PySem.W.keepIn K (.ref f) = true
section
variable {Y : Bd} {ss : List S} {M : Mm} {N : DE} {o e : Expr} {es : List Expr} {pos p apos : Pos} {k n : Nat} {C f : Addr} {m x : Str} {SG : List D → List D → Prop} {R : List D → Mm → Prop}
/-- what is wanted of a generator that comes -/
abbrev Comes (Y : Bd) (pins : List (Addr × Obj)) (σ : L2.St) (G H : Hp) (M : Mm) (R : List D → Mm → Prop) (v : Value) (s1 : Shared) : Prop := ∃ W ag g fo gs G1 H1 M1 items, v = .ref ag.1 ∧ L2.Inv Y.X pins σ H1 s1 ∧ Tr Y.X.K G H M G1 H1 M1 ∧ Stc Y.X W ∧ Rdy Y.X pins W ag g items G1 [] fo gs H1 s1 ∧ R items M1
theorem gn_call {fd : FuncData} {ps : List Str} (F : GnG Y.X.prog Y.X.w Y.X.K Y.X.mg Y.X.base k f fd ps SG) (hg : Y.X.A.guards = some []) (hr : Room (k + 1) Y.X.A) (hb : Bnd Y.X.K fd ps n [] (· ++ ·)) {pins : List (Addr × Obj)} {σ : L2.St} {G H G1 H1 : Hp} {M1 : Mm} {s1 : Shared} {vs : List V} {us : List Value} {ds items : List D}
    (I : L2.Inv Y.X pins σ H1 s1) (t : Tr Y.X.K G H M G1 H1 M1) (r : Iss Y.X.K G1 vs ds) (rv : Vals vs us) (hn : ds.length = n) (h : SG ds items) (q : R items M1) : wpAny (model Y.X.prog Y.X.w) Y.X.A (call (.ref f) us []) (Comes Y pins σ G H M R) Y.X.xe s1 := by
  obtain ⟨gu, gv, b1, b2, b3⟩ := hb.ex
  have e0 := I.env0
  refine wpAny_call (codeAny_mono (F.run Y.X.A Y.X.stack s1 H1 G1 ⟨us, []⟩ (gu us []) (gv vs []) (ds ++ []) items hg (hr.mono (by omega)) e0 (b1 s1 us [] I.kIn ?_ rfl) (b2 _ _ _ _ rv .nil) (b3 _ _ _ _ _ r .nil) (by rw [List.append_nil]; exact h)) fun res s2 hq => ?_)
  · rw [← rv.length, r.length, hn]
  · obtain ⟨u, W, ag, g, fo, gs, eres, md⟩ := hq
    subst eres
    have hL := md.eL
    have J : L2.Inv Y.X pins σ H1 s2 := I.call' (ch := []) (md.os) (Un.kept md.keep) (I.hok.kept md.keep) md.bare fun b z => nomatch z
    have lt : ∀ {b : Addr} {o : Obj}, s1.heap.get? b = some o → b < W.L := fun e => by rw [hL]; exact Heap.lt_size e
    have frs_lt : ∀ b ∈ frs Y.X.stack, b < W.L := fun b hb => by
      obtain ⟨_, o, ho, _⟩ := e0.funs.mem hb
      exact lt ho
    have fresh : ∀ b, W.L ≤ b → H1 b = none := fun b hb => I.hok.fresh (by rw [← hL]; exact hb)
    refine ⟨W, ag, g, fo, gs, G1, H1, M1, items, md.eu, J, t, ⟨md.eP, md.ew, md.eK, md.emg, md.ebase, md.eout, by rw [hL]; exact I.lt, fun x c e => ?_, frs_lt, by rw [hL]; exact e0.bsz, by rw [hL]; exact I.sz, hr.mono (by have := md.ek; omega), hg⟩, ⟨md.gst, md.gat, md.gen, fun q hq => ?_, fun q hq => ?_, md.nc, fun q hq => ?_, fun q hq p hp => ?_⟩, q⟩
    · obtain ⟨v, o, ho, _⟩ := I.cell x c e
      exact lt ho
    · rcases List.mem_cons.mp hq with rfl | hq
      · exact ⟨md.own.1, fresh _ (Nat.le_refl _)⟩
      · rw [List.mem_singleton.mp hq]
        exact ⟨md.own.2, fresh _ (Nat.le_of_lt md.lt)⟩
    · rw [List.mem_singleton.mp hq]
      refine ⟨Nat.ne_of_gt md.lt, fun hm => ?_, md.gen.nc⟩
      rw [md.eout] at hm
      exact absurd (Nat.lt_trans (frs_lt _ hm) md.lt) (Nat.lt_irrefl _)
    · rw [List.mem_singleton.mp hq]
      exact Nat.le_of_lt md.lt
    · have hp1 := lt (I.pin p hp).1
      rcases List.mem_cons.mp hq with rfl | hq
      · exact Nat.ne_of_lt hp1
      · rw [List.mem_singleton.mp hq]
        exact Nat.ne_of_lt (Nat.lt_trans hp1 md.lt)
/-- o.m(), a generator method -/
theorem weg_me0 {pl : Sem Bool} (F : KGM Y.X.prog Y.X.w Y.X.K Y.X.mg Y.X.base k C m 0 SG) (hg : Y.X.A.guards = some []) (hr : Room (k + 1) Y.X.A) (h : WE Y o ss M fun d M => ∃ fs, OAt M d C fs ∧ fs.lookup m = none ∧ ∃ items, SG [d] items ∧ R items M) (ht : MethTerm o m [] [] apos pos Y.X.env pl := by rfl) : WIG Y (.Call (.Attribute o m apos) [] [] pos) ss M R := by
  obtain ⟨f, fd, ps, G0, b, cl, mt⟩ := F
  refine ⟨fun B σ G H pins s so I => meth_at (f := f) (R2 := fun d M => ∃ items, SG [d] items ∧ R items M) ht so I (h.mono fun d M ⟨fs, oa, lk, q⟩ => ⟨⟨C, fs, oa, cl, mt, lk⟩, q⟩) fun a s1 G1 H1 M1 d I1 t r ⟨items, q1, q2⟩ => ?_⟩
  exact PySem.W.callWith_K0 (first := [.ref a]) I1.kIn mt.kp (gn_call G0 hg hr b I1 t (.cons r .nil) (.cons rfl .nil) rfl q1 q2)
/-- o.m(e, ..) -/
theorem weg_me {pl : Sem Bool} (F : KGM Y.X.prog Y.X.w Y.X.K Y.X.mg Y.X.base k C m n SG) (hg : Y.X.A.guards = some []) (hr : Room (k + 1) Y.X.A) (h : WE Y o ss M fun d M => ∃ fs, OAt M d C fs ∧ fs.lookup m = none ∧ WA Y (e :: es) ss M fun ds M => ds.length = n ∧ ∃ items, SG (d :: ds) items ∧ R items M)
    (hst : starEach (e :: es) Y.X.env = (false, eval e Y.X.env) :: starEach es Y.X.env := by rfl) (hpl : (backTo pos (starEach es Y.X.env)).any (·.1) = false := by rfl) (ht : MethTerm o m (e :: es) [] apos pos Y.X.env pl := by rfl) : WIG Y (.Call (.Attribute o m apos) (e :: es) [] pos) ss M R := by
  obtain ⟨f, fd, ps, G0, b, cl, mt⟩ := F
  refine ⟨fun B σ G H pins s so I => meth_at (f := f) (R2 := fun d M => WA Y (e :: es) ss M fun ds M => ds.length = n ∧ ∃ items, SG (d :: ds) items ∧ R items M) ht so I (h.mono fun d M ⟨fs, oa, lk, q⟩ => ⟨⟨C, fs, oa, cl, mt, lk⟩, q⟩) fun a s1 G1 H1 M1 d I1 t r c => ?_⟩
  refine PySem.W.callWith_K (first := [.ref a]) (h₀ := Y.X.base) I1.ok.mod.kin mt.kp (thn (pa_w.run pos pins s1 σ H1 (fun vs H2 => ∃ G2 M2 ds, Tr Y.X.K G1 H1 M1 G2 H2 M2 ∧ Iss Y.X.K G2 vs ds ∧ ds.length = n ∧ ∃ items, SG (d :: ds) items ∧ R items M2) I1
    (c _ _ _ _ _ (so.go t) fun vs G2 H2 M2 ds g2 r2 c2 => ⟨G2, M2, ds, g2, r2, c2⟩)) fun us s2 ⟨vs, H2, I2, rv, G2, M2, ds, g2, r2, hl, items, q1, q2⟩ => ⟨I2.kIn, ?_⟩) hst hpl
  exact gn_call G0 hg hr b I2 (t.trans g2) (.cons (r.mono g2.gg) r2) (.cons rfl rv) (by rw [List.length_cons, hl]) q1 q2
/-- f(e, ..), a generator def -/
theorem weg_fn (F : KGF Y.X.prog Y.X.w Y.X.K Y.X.mg Y.X.base k x n SG) (hg : Y.X.A.guards = some []) (hr : Room (k + 1) Y.X.A) (h : WA Y (e :: es) ss M fun ds M => ds.length = n ∧ ∃ items, SG ds items ∧ R items M)
    (gl : Gl Y.X x := by rfl) (hdb : (x == ("__debug__" : Str)) = false := by decide) (he : starEach (e :: es) Y.X.env = (false, eval e Y.X.env) :: starEach es Y.X.env := by rfl) (hpl : (backTo pos (starEach es Y.X.env)).any (·.1) = false := by rfl) : WIG Y (.Call (.Name x p) (e :: es) [] pos) ss M R := by
  obtain ⟨f, fd, ps, G0, b, hm, hk⟩ := F
  refine ⟨fun B σ G H pins s so I => wpAny_Call_Name_kw (ld_glob I gl hm (PySem.W.callWith_K (h₀ := Y.X.base) I.ok.mod.kin hk (thn (pa_w.run pos pins s σ H (fun vs H1 => ∃ G1 M1 ds, Tr Y.X.K G H M G1 H1 M1 ∧ Iss Y.X.K G1 vs ds ∧ ds.length = n ∧ ∃ items, SG ds items ∧ R items M1) I
    (h _ _ _ _ _ so fun vs G1 H1 M1 ds t r c => ⟨G1, M1, ds, t, r, c⟩)) fun us s1 ⟨vs, H1, I1, rv, G1, M1, ds, t, r, hl, items, q1, q2⟩ => ⟨I1.kIn, ?_⟩) he hpl) hdb)⟩
  exact gn_call G0 hg hr b I1 t r rv hl q1 q2
end
end JQ

set_option Elab.async false
set_option linter.all false
set_option maxRecDepth 100000
set_option maxHeartbeats 0
namespace K05
open PySem PySem.Spec PyProof.Rows L2 JQ
def top (i : Nat) : Stmt := PySem.Challenge.pw_jumblepost_k05_whole_placings_come_one_b.main.body.getD i (.Pass ⟨0, 0, 0, 0⟩)
abbrev s_PostError_init : Stmt := inClass (top 1) 0
abbrev s_BadValue_init : Stmt := inClass (top 2) 0
abbrev s_BadRow_init : Stmt := inClass (top 3) 0
abbrev s_NoPlacing_init : Stmt := inClass (top 4) 0
abbrev s_BadText_init : Stmt := inClass (top 5) 0
abbrev s_is_integer : Stmt := top 9
abbrev s_is_between : Stmt := top 10
abbrev s_is_series : Stmt := top 11
abbrev s_are_integers : Stmt := top 12
abbrev s_integer_of : Stmt := top 13
abbrev s_Words_init : Stmt := inClass (top 14) 0
abbrev s_Words_coming : Stmt := inClass (top 14) 1
abbrev s_Words_refuse : Stmt := inClass (top 14) 2
abbrev s_Words_skip : Stmt := inClass (top 14) 3
abbrev s_Words_comes : Stmt := inClass (top 14) 4
abbrev s_Words_integer : Stmt := inClass (top 14) 5
abbrev s_Words_finish : Stmt := inClass (top 14) 6
abbrev s_read_point : Stmt := top 19
abbrev s_Row_init : Stmt := inClass (top 20) 0
abbrev s_Row_invert : Stmt := inClass (top 20) 1
abbrev s_Row_eq : Stmt := inClass (top 20) 2
abbrev s_Row_str : Stmt := inClass (top 20) 3
abbrev s_Row_holds : Stmt := inClass (top 20) 4
abbrev s_Ring_init : Stmt := inClass (top 24) 0
abbrev s_Ring_eq : Stmt := inClass (top 24) 1
abbrev s_Chain_init : Stmt := inClass (top 25) 0
abbrev s_Chain_eq : Stmt := inClass (top 25) 1
abbrev s_is_row_below : Stmt := top 26
abbrev s_without_repeats : Stmt := top 27
abbrev s_walls_of : Stmt := top 28
abbrev s_narrowed : Stmt := top 29
abbrev s_gaps_of : Stmt := top 30
abbrev s_lowest_of : Stmt := top 31
abbrev s_highest_of : Stmt := top 32
abbrev s_least_from : Stmt := top 33
abbrev s_placing_behind : Stmt := top 34
abbrev s_last_rows : Stmt := top 35
abbrev s_rows_back : Stmt := top 36
abbrev s_Zone_init : Stmt := inClass (top 37) 0
abbrev s_Zone_and : Stmt := inClass (top 37) 1
abbrev s_Zone_contains : Stmt := inClass (top 37) 2
abbrev s_Zone_bool : Stmt := inClass (top 37) 3
abbrev s_Zone_eq : Stmt := inClass (top 37) 4
abbrev s_Zone_gap : Stmt := inClass (top 37) 5
abbrev s_Zone_lowest : Stmt := inClass (top 37) 6
abbrev s_Zone_highest : Stmt := inClass (top 37) 7
abbrev s_Zone_placings : Stmt := inClass (top 37) 8
abbrev s_Zone_ring : Stmt := inClass (top 37) 9
abbrev s_Zone_chain : Stmt := inClass (top 37) 10
abbrev s_look_placing : Stmt := top 39
abbrev s_l_pen : Stmt := top 41
abbrev s_l_draw : Stmt := top 42
abbrev s_l_pick : Stmt := top 43
abbrev s_l_zone : Stmt := top 44
abbrev s_l_fixed : Stmt := top 45
abbrev s_l_above : Stmt := top 46
abbrev s_l_below : Stmt := top 47
abbrev s_l_none_behind : Stmt := top 48
abbrev s_l_none_ahead : Stmt := top 49
abbrev s_l_next_right : Stmt := top 50
abbrev s_l_first : Stmt := top 51
abbrev s_l_rows_right : Stmt := top 52
abbrev s_law : Stmt := top 53
def d_PostError_init : He.DefD := ⟨("PostError", some "__init__"), "__init__", "PostError.__init__", defArgs s_PostError_init, defBody s_PostError_init, defScope s_PostError_init, [], []⟩
def d_BadValue_init : He.DefD := ⟨("BadValue", some "__init__"), "__init__", "BadValue.__init__", defArgs s_BadValue_init, defBody s_BadValue_init, defScope s_BadValue_init, [], []⟩
def d_BadRow_init : He.DefD := ⟨("BadRow", some "__init__"), "__init__", "BadRow.__init__", defArgs s_BadRow_init, defBody s_BadRow_init, defScope s_BadRow_init, [], []⟩
def d_NoPlacing_init : He.DefD := ⟨("NoPlacing", some "__init__"), "__init__", "NoPlacing.__init__", defArgs s_NoPlacing_init, defBody s_NoPlacing_init, defScope s_NoPlacing_init, [], []⟩
def d_BadText_init : He.DefD := ⟨("BadText", some "__init__"), "__init__", "BadText.__init__", defArgs s_BadText_init, defBody s_BadText_init, defScope s_BadText_init, [], []⟩
def d_is_integer : He.DefD := ⟨("is_integer", none), "is_integer", "is_integer", defArgs s_is_integer, defBody s_is_integer, defScope s_is_integer, [], []⟩
def d_is_between : He.DefD := ⟨("is_between", none), "is_between", "is_between", defArgs s_is_between, defBody s_is_between, defScope s_is_between, [], []⟩
def d_is_series : He.DefD := ⟨("is_series", none), "is_series", "is_series", defArgs s_is_series, defBody s_is_series, defScope s_is_series, [], []⟩
def d_are_integers : He.DefD := ⟨("are_integers", none), "are_integers", "are_integers", defArgs s_are_integers, defBody s_are_integers, defScope s_are_integers, [], []⟩
def d_integer_of : He.DefD := ⟨("integer_of", none), "integer_of", "integer_of", defArgs s_integer_of, defBody s_integer_of, defScope s_integer_of, [], []⟩
def d_Words_init : He.DefD := ⟨("Words", some "__init__"), "__init__", "Words.__init__", defArgs s_Words_init, defBody s_Words_init, defScope s_Words_init, [], []⟩
def d_Words_coming : He.DefD := ⟨("Words", some "coming"), "coming", "Words.coming", defArgs s_Words_coming, defBody s_Words_coming, defScope s_Words_coming, [], []⟩
def d_Words_refuse : He.DefD := ⟨("Words", some "refuse"), "refuse", "Words.refuse", defArgs s_Words_refuse, defBody s_Words_refuse, defScope s_Words_refuse, [], []⟩
def d_Words_skip : He.DefD := ⟨("Words", some "skip"), "skip", "Words.skip", defArgs s_Words_skip, defBody s_Words_skip, defScope s_Words_skip, [], []⟩
def d_Words_comes : He.DefD := ⟨("Words", some "comes"), "comes", "Words.comes", defArgs s_Words_comes, defBody s_Words_comes, defScope s_Words_comes, [], []⟩
def d_Words_integer : He.DefD := ⟨("Words", some "integer"), "integer", "Words.integer", defArgs s_Words_integer, defBody s_Words_integer, defScope s_Words_integer, [(.adr (He.dflAt ("Words", some "integer") 0))], []⟩
def d_Words_finish : He.DefD := ⟨("Words", some "finish"), "finish", "Words.finish", defArgs s_Words_finish, defBody s_Words_finish, defScope s_Words_finish, [], []⟩
def d_read_point : He.DefD := ⟨("read_point", none), "read_point", "read_point", defArgs s_read_point, defBody s_read_point, defScope s_read_point, [], []⟩
def d_Row_init : He.DefD := ⟨("Row", some "__init__"), "__init__", "Row.__init__", defArgs s_Row_init, defBody s_Row_init, defScope s_Row_init, [], []⟩
def d_Row_invert : He.DefD := ⟨("Row", some "__invert__"), "__invert__", "Row.__invert__", defArgs s_Row_invert, defBody s_Row_invert, defScope s_Row_invert, [], []⟩
def d_Row_eq : He.DefD := ⟨("Row", some "__eq__"), "__eq__", "Row.__eq__", defArgs s_Row_eq, defBody s_Row_eq, defScope s_Row_eq, [], []⟩
def d_Row_str : He.DefD := ⟨("Row", some "__str__"), "__str__", "Row.__str__", defArgs s_Row_str, defBody s_Row_str, defScope s_Row_str, [], []⟩
def d_Row_holds : He.DefD := ⟨("Row", some "holds"), "holds", "Row.holds", defArgs s_Row_holds, defBody s_Row_holds, defScope s_Row_holds, [], []⟩
def d_Ring_init : He.DefD := ⟨("Ring", some "__init__"), "__init__", "Ring.__init__", defArgs s_Ring_init, defBody s_Ring_init, defScope s_Ring_init, [], []⟩
def d_Ring_eq : He.DefD := ⟨("Ring", some "__eq__"), "__eq__", "Ring.__eq__", defArgs s_Ring_eq, defBody s_Ring_eq, defScope s_Ring_eq, [], []⟩
def d_Chain_init : He.DefD := ⟨("Chain", some "__init__"), "__init__", "Chain.__init__", defArgs s_Chain_init, defBody s_Chain_init, defScope s_Chain_init, [], []⟩
def d_Chain_eq : He.DefD := ⟨("Chain", some "__eq__"), "__eq__", "Chain.__eq__", defArgs s_Chain_eq, defBody s_Chain_eq, defScope s_Chain_eq, [], []⟩
def d_is_row_below : He.DefD := ⟨("is_row_below", none), "is_row_below", "is_row_below", defArgs s_is_row_below, defBody s_is_row_below, defScope s_is_row_below, [], []⟩
def d_without_repeats : He.DefD := ⟨("without_repeats", none), "without_repeats", "without_repeats", defArgs s_without_repeats, defBody s_without_repeats, defScope s_without_repeats, [], []⟩
def d_walls_of : He.DefD := ⟨("walls_of", none), "walls_of", "walls_of", defArgs s_walls_of, defBody s_walls_of, defScope s_walls_of, [], []⟩
def d_narrowed : He.DefD := ⟨("narrowed", none), "narrowed", "narrowed", defArgs s_narrowed, defBody s_narrowed, defScope s_narrowed, [], []⟩
def d_gaps_of : He.DefD := ⟨("gaps_of", none), "gaps_of", "gaps_of", defArgs s_gaps_of, defBody s_gaps_of, defScope s_gaps_of, [], []⟩
def d_lowest_of : He.DefD := ⟨("lowest_of", none), "lowest_of", "lowest_of", defArgs s_lowest_of, defBody s_lowest_of, defScope s_lowest_of, [], []⟩
def d_highest_of : He.DefD := ⟨("highest_of", none), "highest_of", "highest_of", defArgs s_highest_of, defBody s_highest_of, defScope s_highest_of, [], []⟩
def d_least_from : He.DefD := ⟨("least_from", none), "least_from", "least_from", defArgs s_least_from, defBody s_least_from, defScope s_least_from, [], []⟩
def d_placing_behind : He.DefD := ⟨("placing_behind", none), "placing_behind", "placing_behind", defArgs s_placing_behind, defBody s_placing_behind, defScope s_placing_behind, [], []⟩
def d_last_rows : He.DefD := ⟨("last_rows", none), "last_rows", "last_rows", defArgs s_last_rows, defBody s_last_rows, defScope s_last_rows, [], []⟩
def d_rows_back : He.DefD := ⟨("rows_back", none), "rows_back", "rows_back", defArgs s_rows_back, defBody s_rows_back, defScope s_rows_back, [], []⟩
def d_Zone_init : He.DefD := ⟨("Zone", some "__init__"), "__init__", "Zone.__init__", defArgs s_Zone_init, defBody s_Zone_init, defScope s_Zone_init, [(.adr (He.dflAt ("Zone", some "__init__") 0))], []⟩
def d_Zone_and : He.DefD := ⟨("Zone", some "__and__"), "__and__", "Zone.__and__", defArgs s_Zone_and, defBody s_Zone_and, defScope s_Zone_and, [], []⟩
def d_Zone_contains : He.DefD := ⟨("Zone", some "__contains__"), "__contains__", "Zone.__contains__", defArgs s_Zone_contains, defBody s_Zone_contains, defScope s_Zone_contains, [], []⟩
def d_Zone_bool : He.DefD := ⟨("Zone", some "__bool__"), "__bool__", "Zone.__bool__", defArgs s_Zone_bool, defBody s_Zone_bool, defScope s_Zone_bool, [], []⟩
def d_Zone_eq : He.DefD := ⟨("Zone", some "__eq__"), "__eq__", "Zone.__eq__", defArgs s_Zone_eq, defBody s_Zone_eq, defScope s_Zone_eq, [], []⟩
def d_Zone_gap : He.DefD := ⟨("Zone", some "gap"), "gap", "Zone.gap", defArgs s_Zone_gap, defBody s_Zone_gap, defScope s_Zone_gap, [], []⟩
def d_Zone_lowest : He.DefD := ⟨("Zone", some "lowest"), "lowest", "Zone.lowest", defArgs s_Zone_lowest, defBody s_Zone_lowest, defScope s_Zone_lowest, [], []⟩
def d_Zone_highest : He.DefD := ⟨("Zone", some "highest"), "highest", "Zone.highest", defArgs s_Zone_highest, defBody s_Zone_highest, defScope s_Zone_highest, [], []⟩
def d_Zone_placings : He.DefD := ⟨("Zone", some "placings"), "placings", "Zone.placings", defArgs s_Zone_placings, defBody s_Zone_placings, defScope s_Zone_placings, [], []⟩
def d_Zone_ring : He.DefD := ⟨("Zone", some "ring"), "ring", "Zone.ring", defArgs s_Zone_ring, defBody s_Zone_ring, defScope s_Zone_ring, [], []⟩
def d_Zone_chain : He.DefD := ⟨("Zone", some "chain"), "chain", "Zone.chain", defArgs s_Zone_chain, defBody s_Zone_chain, defScope s_Zone_chain, [], []⟩
def d_look_placing : He.DefD := ⟨("look_placing", none), "look_placing", "look_placing", defArgs s_look_placing, defBody s_look_placing, defScope s_look_placing, [], []⟩
def d_l_pen : He.DefD := ⟨("_law_pen", none), "_law_pen", "_law_pen", defArgs s_l_pen, defBody s_l_pen, defScope s_l_pen, [], []⟩
def d_l_draw : He.DefD := ⟨("_law_draw", none), "_law_draw", "_law_draw", defArgs s_l_draw, defBody s_l_draw, defScope s_l_draw, [], []⟩
def d_l_pick : He.DefD := ⟨("_law_pick", none), "_law_pick", "_law_pick", defArgs s_l_pick, defBody s_l_pick, defScope s_l_pick, [], []⟩
def d_l_zone : He.DefD := ⟨("_law_zone", none), "_law_zone", "_law_zone", defArgs s_l_zone, defBody s_l_zone, defScope s_l_zone, [], []⟩
def d_l_fixed : He.DefD := ⟨("_law_fixed", none), "_law_fixed", "_law_fixed", defArgs s_l_fixed, defBody s_l_fixed, defScope s_l_fixed, [], []⟩
def d_l_above : He.DefD := ⟨("_law_above", none), "_law_above", "_law_above", defArgs s_l_above, defBody s_l_above, defScope s_l_above, [], []⟩
def d_l_below : He.DefD := ⟨("_law_below", none), "_law_below", "_law_below", defArgs s_l_below, defBody s_l_below, defScope s_l_below, [], []⟩
def d_l_none_behind : He.DefD := ⟨("_law_none_behind", none), "_law_none_behind", "_law_none_behind", defArgs s_l_none_behind, defBody s_l_none_behind, defScope s_l_none_behind, [], []⟩
def d_l_none_ahead : He.DefD := ⟨("_law_none_ahead", none), "_law_none_ahead", "_law_none_ahead", defArgs s_l_none_ahead, defBody s_l_none_ahead, defScope s_l_none_ahead, [], []⟩
def d_l_next_right : He.DefD := ⟨("_law_next_right", none), "_law_next_right", "_law_next_right", defArgs s_l_next_right, defBody s_l_next_right, defScope s_l_next_right, [], []⟩
def d_l_first : He.DefD := ⟨("_law_first", none), "_law_first", "_law_first", defArgs s_l_first, defBody s_l_first, defScope s_l_first, [], []⟩
def d_l_rows_right : He.DefD := ⟨("_law_rows_right", none), "_law_rows_right", "_law_rows_right", defArgs s_l_rows_right, defBody s_l_rows_right, defScope s_l_rows_right, [], []⟩
def d_law : He.DefD := ⟨("law", none), "law", "law", defArgs s_law, defBody s_law, defScope s_law, [], []⟩
def fn : List He.DefD := [d_PostError_init, d_BadValue_init, d_BadRow_init, d_NoPlacing_init, d_BadText_init, d_is_integer, d_is_between, d_is_series, d_are_integers, d_integer_of, d_Words_init, d_Words_coming, d_Words_refuse, d_Words_skip, d_Words_comes, d_Words_integer, d_Words_finish, d_read_point, d_Row_init, d_Row_invert, d_Row_eq, d_Row_str, d_Row_holds, d_Ring_init, d_Ring_eq, d_Chain_init, d_Chain_eq, d_is_row_below, d_without_repeats, d_walls_of, d_narrowed, d_gaps_of, d_lowest_of, d_highest_of, d_least_from, d_placing_behind, d_last_rows, d_rows_back, d_Zone_init, d_Zone_and, d_Zone_contains, d_Zone_bool, d_Zone_eq, d_Zone_gap, d_Zone_lowest, d_Zone_highest, d_Zone_placings, d_Zone_ring, d_Zone_chain, d_look_placing, d_l_pen, d_l_draw, d_l_pick, d_l_zone, d_l_fixed, d_l_above, d_l_below, d_l_none_behind, d_l_none_ahead, d_l_next_right, d_l_first, d_l_rows_right, d_law]
def fa : List He.Fa := [.glo "PostError",
  .glo "BadValue",
  .glo "BadRow",
  .glo "NoPlacing",
  .glo "BadText",
  .glo "is_integer",
  .glo "is_between",
  .glo "is_series",
  .glo "are_integers",
  .glo "integer_of",
  .glo "Words",
  .glo "read_point",
  .glo "Row",
  .glo "Ring",
  .glo "Chain",
  .glo "is_row_below",
  .glo "without_repeats",
  .glo "walls_of",
  .glo "narrowed",
  .glo "gaps_of",
  .glo "lowest_of",
  .glo "highest_of",
  .glo "least_from",
  .glo "placing_behind",
  .glo "last_rows",
  .glo "rows_back",
  .glo "Zone",
  .glo "look_placing",
  .glo "_law_pen",
  .glo "_law_draw",
  .glo "_law_pick",
  .glo "_law_zone",
  .glo "_law_fixed",
  .glo "_law_above",
  .glo "_law_below",
  .glo "_law_none_behind",
  .glo "_law_none_ahead",
  .glo "_law_next_right",
  .glo "_law_first",
  .glo "_law_rows_right",
  .glo "law",
  .free "ValueError",
  .free "abs",
  .free "all",
  .free "bool",
  .free "classmethod",
  .free "enumerate",
  .free "int",
  .free "isinstance",
  .free "len",
  .free "list",
  .free "max",
  .free "min",
  .free "range",
  .free "str",
  .free "sum",
  .free "tuple",
  .free "zip",
  .str "DIGITS" "0123456789",
  .int "MOST_DIGITS" (61),
  .int "MOST_POINT" (11),
  .int "LEAST_MOST" (-1000000),
  .int "MOST_MOST" (999999),
  .int "MOST_POINTS" (12),
  .int "MOST_WIDTH" (999999),
  .cls "Words",
  .noat "Words" "words",
  .noat "Words" "at",
  .mkr "Words",
  .meth "Words" "coming",
  .meth "Words" "refuse",
  .meth "Words" "skip",
  .meth "Words" "comes",
  .meth "Words" "integer",
  .meth "Words" "finish",
  .cls "Row",
  .noat "Row" "one",
  .noat "Row" "other",
  .noat "Row" "most",
  .mkr "Row",
  .meth "Row" "__invert__",
  .meth "Row" "__eq__",
  .meth "Row" "__str__",
  .meth "Row" "holds",
  .cls "Ring",
  .noat "Ring" "rows",
  .mkr "Ring",
  .meth "Ring" "__eq__",
  .cls "Chain",
  .noat "Chain" "rows",
  .mkr "Chain",
  .meth "Chain" "__eq__",
  .cls "Zone",
  .noat "Zone" "points",
  .noat "Zone" "width",
  .noat "Zone" "rows",
  .noat "Zone" "gaps",
  .mkr "Zone",
  .meth "Zone" "__and__",
  .meth "Zone" "__contains__",
  .meth "Zone" "__bool__",
  .meth "Zone" "__eq__",
  .meth "Zone" "gap",
  .meth "Zone" "lowest",
  .meth "Zone" "highest",
  .meth "Zone" "placings",
  .meth "Zone" "ring",
  .meth "Zone" "chain"]
def mores (K : PySem.W.Frag) : List Bool := [oexB K (He.ga K "PostError"),
  xfB K (He.ga K "PostError"),
  (He.eqO (PySem.W.findIn K (.ref (He.ga K "PostError")) "__init__") (some (some (.ref (He.ma K (He.ga K "PostError") "__init__"))))),
  (decide (PySem.W.typeIn K (.ref (He.ma K (He.ga K "PostError") "__init__")) = some (.type "function"))),
  oexB K (He.ga K "BadValue"),
  xfB K (He.ga K "BadValue"),
  (He.eqO (PySem.W.findIn K (.ref (He.ga K "BadValue")) "__init__") (some (some (.ref (He.ma K (He.ga K "BadValue") "__init__"))))),
  (decide (PySem.W.typeIn K (.ref (He.ma K (He.ga K "BadValue") "__init__")) = some (.type "function"))),
  (He.eqO (PySem.W.findIn K (.ref (He.ga K "BadValue")) "what") (some none)),
  oexB K (He.ga K "BadRow"),
  xfB K (He.ga K "BadRow"),
  (He.eqO (PySem.W.findIn K (.ref (He.ga K "BadRow")) "__init__") (some (some (.ref (He.ma K (He.ga K "BadRow") "__init__"))))),
  (decide (PySem.W.typeIn K (.ref (He.ma K (He.ga K "BadRow") "__init__")) = some (.type "function"))),
  (He.eqO (PySem.W.findIn K (.ref (He.ga K "BadRow")) "index") (some none)),
  oexB K (He.ga K "NoPlacing"),
  xfB K (He.ga K "NoPlacing"),
  (He.eqO (PySem.W.findIn K (.ref (He.ga K "NoPlacing")) "__init__") (some (some (.ref (He.ma K (He.ga K "NoPlacing") "__init__"))))),
  (decide (PySem.W.typeIn K (.ref (He.ma K (He.ga K "NoPlacing") "__init__")) = some (.type "function"))),
  (He.eqO (PySem.W.findIn K (.ref (He.ga K "NoPlacing")) "station") (some none)),
  oexB K (He.ga K "BadText"),
  xfB K (He.ga K "BadText"),
  (He.eqO (PySem.W.findIn K (.ref (He.ga K "BadText")) "__init__") (some (some (.ref (He.ma K (He.ga K "BadText") "__init__"))))),
  (decide (PySem.W.typeIn K (.ref (He.ma K (He.ga K "BadText") "__init__")) = some (.type "function"))),
  (He.eqO (PySem.W.findIn K (.ref (He.ga K "BadText")) "at") (some none)),
  (He.eqO (PySem.W.findIn K (.ref (He.ga K "BadText")) "word") (some none)),
  (excIB K (He.ga K "PostError")),
  (excIB K (He.ga K "BadValue")),
  (excIB K (He.ga K "BadRow")),
  (excIB K (He.ga K "NoPlacing")),
  (excIB K (He.ga K "BadText")),
  (PySem.W.keepIn K (.ref (He.ga K "PostError"))),
  (PySem.W.keepIn K (.ref (He.ga K "BadValue"))),
  (PySem.W.keepIn K (.ref (He.ga K "BadRow"))),
  (PySem.W.keepIn K (.ref (He.ga K "NoPlacing"))),
  (PySem.W.keepIn K (.ref (He.ga K "BadText"))),
  (PySem.W.keepIn K (.ref (He.ga K "Words"))),
  (PySem.W.keepIn K (.ref (He.ga K "Row"))),
  (PySem.W.keepIn K (.ref (He.ga K "Ring"))),
  (PySem.W.keepIn K (.ref (He.ga K "Chain"))),
  (PySem.W.keepIn K (.ref (He.ga K "Zone"))),
  (clsiB K (He.ga K "Words")),
  (clsiB K (He.ga K "Row")),
  (clsiB K (He.ga K "Ring")),
  (clsiB K (He.ga K "Chain")),
  (clsiB K (He.ga K "Zone")),
  (kitBB K (He.ga K "Row")),
  (kitBB K (He.ga K "Ring")),
  (kitBB K (He.ga K "Chain")),
  (kitBB K (He.ga K "Zone")),
  (decide (PySem.W.kitOne K (.ref (He.ga K "Words")) (.ref (He.ga K "Row")) = some false)),
  (decide (PySem.W.kitOne K (.ref (He.ga K "Words")) (.ref (He.ga K "Ring")) = some false)),
  (decide (PySem.W.kitOne K (.ref (He.ga K "Words")) (.ref (He.ga K "Chain")) = some false)),
  (decide (PySem.W.kitOne K (.ref (He.ga K "Words")) (.ref (He.ga K "Zone")) = some false)),
  (decide (PySem.W.kitOne K (.ref (He.ga K "Words")) (.type "int") = some false)),
  (decide (PySem.W.kitOne K (.ref (He.ga K "Words")) (.type "bool") = some false)),
  (decide (PySem.W.kitOne K (.ref (He.ga K "Words")) (.type "str") = some false)),
  (decide (PySem.W.kitOne K (.ref (He.ga K "Words")) (.type "tuple") = some false)),
  (decide (PySem.W.kitOne K (.ref (He.ga K "Words")) (.type "list") = some false)),
  (decide (PySem.W.kitOne K (.ref (He.ga K "Row")) (.ref (He.ga K "Ring")) = some false)),
  (decide (PySem.W.kitOne K (.ref (He.ga K "Row")) (.ref (He.ga K "Chain")) = some false)),
  (decide (PySem.W.kitOne K (.ref (He.ga K "Row")) (.ref (He.ga K "Zone")) = some false)),
  (decide (PySem.W.kitOne K (.ref (He.ga K "Row")) (.type "int") = some false)),
  (decide (PySem.W.kitOne K (.ref (He.ga K "Row")) (.type "bool") = some false)),
  (decide (PySem.W.kitOne K (.ref (He.ga K "Row")) (.type "str") = some false)),
  (decide (PySem.W.kitOne K (.ref (He.ga K "Row")) (.type "tuple") = some false)),
  (decide (PySem.W.kitOne K (.ref (He.ga K "Row")) (.type "list") = some false)),
  (decide (PySem.W.kitOne K (.ref (He.ga K "Ring")) (.ref (He.ga K "Row")) = some false)),
  (decide (PySem.W.kitOne K (.ref (He.ga K "Ring")) (.ref (He.ga K "Chain")) = some false)),
  (decide (PySem.W.kitOne K (.ref (He.ga K "Ring")) (.ref (He.ga K "Zone")) = some false)),
  (decide (PySem.W.kitOne K (.ref (He.ga K "Ring")) (.type "int") = some false)),
  (decide (PySem.W.kitOne K (.ref (He.ga K "Ring")) (.type "bool") = some false)),
  (decide (PySem.W.kitOne K (.ref (He.ga K "Ring")) (.type "str") = some false)),
  (decide (PySem.W.kitOne K (.ref (He.ga K "Ring")) (.type "tuple") = some false)),
  (decide (PySem.W.kitOne K (.ref (He.ga K "Ring")) (.type "list") = some false)),
  (decide (PySem.W.kitOne K (.ref (He.ga K "Chain")) (.ref (He.ga K "Row")) = some false)),
  (decide (PySem.W.kitOne K (.ref (He.ga K "Chain")) (.ref (He.ga K "Ring")) = some false)),
  (decide (PySem.W.kitOne K (.ref (He.ga K "Chain")) (.ref (He.ga K "Zone")) = some false)),
  (decide (PySem.W.kitOne K (.ref (He.ga K "Chain")) (.type "int") = some false)),
  (decide (PySem.W.kitOne K (.ref (He.ga K "Chain")) (.type "bool") = some false)),
  (decide (PySem.W.kitOne K (.ref (He.ga K "Chain")) (.type "str") = some false)),
  (decide (PySem.W.kitOne K (.ref (He.ga K "Chain")) (.type "tuple") = some false)),
  (decide (PySem.W.kitOne K (.ref (He.ga K "Chain")) (.type "list") = some false)),
  (decide (PySem.W.kitOne K (.ref (He.ga K "Zone")) (.ref (He.ga K "Row")) = some false)),
  (decide (PySem.W.kitOne K (.ref (He.ga K "Zone")) (.ref (He.ga K "Ring")) = some false)),
  (decide (PySem.W.kitOne K (.ref (He.ga K "Zone")) (.ref (He.ga K "Chain")) = some false)),
  (decide (PySem.W.kitOne K (.ref (He.ga K "Zone")) (.type "int") = some false)),
  (decide (PySem.W.kitOne K (.ref (He.ga K "Zone")) (.type "bool") = some false)),
  (decide (PySem.W.kitOne K (.ref (He.ga K "Zone")) (.type "str") = some false)),
  (decide (PySem.W.kitOne K (.ref (He.ga K "Zone")) (.type "tuple") = some false)),
  (decide (PySem.W.kitOne K (.ref (He.ga K "Zone")) (.type "list") = some false)),
  (andB K (He.ga K "Zone") (He.ga K "Words")),
  (andB K (He.ga K "Zone") (He.ga K "Row")),
  (andB K (He.ga K "Zone") (He.ga K "Ring")),
  (andB K (He.ga K "Zone") (He.ga K "Chain")),
  (emTB K (He.dflAt ("Words", some "integer") 0 K)),
  (emTB K (He.dflAt ("Zone", some "__init__") 0 K)),
  (andTB K (He.ga K "Zone"))]
def more (K : PySem.W.Frag) : Bool := (mores K).all id
structure Tx (K : PySem.W.Frag) (mg : Str → Option Value) : Prop where
  c : He.SaysD fa fn K
  h : ∃ h : Heap, K.In h ∧ h.Ns mainGlobals mg
  m : more K = true
section
variable {K : PySem.W.Frag} {mg : Str → Option Value}
theorem Tx.mo (T : Tx K mg) (i : Nat) {x : Bool} (h : (mores K)[i]? = some x := by rfl) : x = true := List.all_eq_true.mp T.m x (List.mem_of_getElem? h)
theorem g_PostError (T : Tx K mg) : mg "PostError" = some (.ref (He.ga K "PostError")) := by
  obtain ⟨h, X, G⟩ := T.h
  exact He.glo_ok X G (T.c.fact 0 (f := .glo "PostError") rfl)
theorem g_BadValue (T : Tx K mg) : mg "BadValue" = some (.ref (He.ga K "BadValue")) := by
  obtain ⟨h, X, G⟩ := T.h
  exact He.glo_ok X G (T.c.fact 1 (f := .glo "BadValue") rfl)
theorem g_BadRow (T : Tx K mg) : mg "BadRow" = some (.ref (He.ga K "BadRow")) := by
  obtain ⟨h, X, G⟩ := T.h
  exact He.glo_ok X G (T.c.fact 2 (f := .glo "BadRow") rfl)
theorem g_NoPlacing (T : Tx K mg) : mg "NoPlacing" = some (.ref (He.ga K "NoPlacing")) := by
  obtain ⟨h, X, G⟩ := T.h
  exact He.glo_ok X G (T.c.fact 3 (f := .glo "NoPlacing") rfl)
theorem g_BadText (T : Tx K mg) : mg "BadText" = some (.ref (He.ga K "BadText")) := by
  obtain ⟨h, X, G⟩ := T.h
  exact He.glo_ok X G (T.c.fact 4 (f := .glo "BadText") rfl)
theorem g_is_integer (T : Tx K mg) : mg "is_integer" = some (.ref (He.ga K "is_integer")) := by
  obtain ⟨h, X, G⟩ := T.h
  exact He.glo_ok X G (T.c.fact 5 (f := .glo "is_integer") rfl)
theorem g_is_between (T : Tx K mg) : mg "is_between" = some (.ref (He.ga K "is_between")) := by
  obtain ⟨h, X, G⟩ := T.h
  exact He.glo_ok X G (T.c.fact 6 (f := .glo "is_between") rfl)
theorem g_is_series (T : Tx K mg) : mg "is_series" = some (.ref (He.ga K "is_series")) := by
  obtain ⟨h, X, G⟩ := T.h
  exact He.glo_ok X G (T.c.fact 7 (f := .glo "is_series") rfl)
theorem g_are_integers (T : Tx K mg) : mg "are_integers" = some (.ref (He.ga K "are_integers")) := by
  obtain ⟨h, X, G⟩ := T.h
  exact He.glo_ok X G (T.c.fact 8 (f := .glo "are_integers") rfl)
theorem g_integer_of (T : Tx K mg) : mg "integer_of" = some (.ref (He.ga K "integer_of")) := by
  obtain ⟨h, X, G⟩ := T.h
  exact He.glo_ok X G (T.c.fact 9 (f := .glo "integer_of") rfl)
theorem g_Words (T : Tx K mg) : mg "Words" = some (.ref (He.ga K "Words")) := by
  obtain ⟨h, X, G⟩ := T.h
  exact He.glo_ok X G (T.c.fact 10 (f := .glo "Words") rfl)
theorem g_read_point (T : Tx K mg) : mg "read_point" = some (.ref (He.ga K "read_point")) := by
  obtain ⟨h, X, G⟩ := T.h
  exact He.glo_ok X G (T.c.fact 11 (f := .glo "read_point") rfl)
theorem g_Row (T : Tx K mg) : mg "Row" = some (.ref (He.ga K "Row")) := by
  obtain ⟨h, X, G⟩ := T.h
  exact He.glo_ok X G (T.c.fact 12 (f := .glo "Row") rfl)
theorem g_Ring (T : Tx K mg) : mg "Ring" = some (.ref (He.ga K "Ring")) := by
  obtain ⟨h, X, G⟩ := T.h
  exact He.glo_ok X G (T.c.fact 13 (f := .glo "Ring") rfl)
theorem g_Chain (T : Tx K mg) : mg "Chain" = some (.ref (He.ga K "Chain")) := by
  obtain ⟨h, X, G⟩ := T.h
  exact He.glo_ok X G (T.c.fact 14 (f := .glo "Chain") rfl)
theorem g_is_row_below (T : Tx K mg) : mg "is_row_below" = some (.ref (He.ga K "is_row_below")) := by
  obtain ⟨h, X, G⟩ := T.h
  exact He.glo_ok X G (T.c.fact 15 (f := .glo "is_row_below") rfl)
theorem g_without_repeats (T : Tx K mg) : mg "without_repeats" = some (.ref (He.ga K "without_repeats")) := by
  obtain ⟨h, X, G⟩ := T.h
  exact He.glo_ok X G (T.c.fact 16 (f := .glo "without_repeats") rfl)
theorem g_walls_of (T : Tx K mg) : mg "walls_of" = some (.ref (He.ga K "walls_of")) := by
  obtain ⟨h, X, G⟩ := T.h
  exact He.glo_ok X G (T.c.fact 17 (f := .glo "walls_of") rfl)
theorem g_narrowed (T : Tx K mg) : mg "narrowed" = some (.ref (He.ga K "narrowed")) := by
  obtain ⟨h, X, G⟩ := T.h
  exact He.glo_ok X G (T.c.fact 18 (f := .glo "narrowed") rfl)
theorem g_gaps_of (T : Tx K mg) : mg "gaps_of" = some (.ref (He.ga K "gaps_of")) := by
  obtain ⟨h, X, G⟩ := T.h
  exact He.glo_ok X G (T.c.fact 19 (f := .glo "gaps_of") rfl)
theorem g_lowest_of (T : Tx K mg) : mg "lowest_of" = some (.ref (He.ga K "lowest_of")) := by
  obtain ⟨h, X, G⟩ := T.h
  exact He.glo_ok X G (T.c.fact 20 (f := .glo "lowest_of") rfl)
theorem g_highest_of (T : Tx K mg) : mg "highest_of" = some (.ref (He.ga K "highest_of")) := by
  obtain ⟨h, X, G⟩ := T.h
  exact He.glo_ok X G (T.c.fact 21 (f := .glo "highest_of") rfl)
theorem g_least_from (T : Tx K mg) : mg "least_from" = some (.ref (He.ga K "least_from")) := by
  obtain ⟨h, X, G⟩ := T.h
  exact He.glo_ok X G (T.c.fact 22 (f := .glo "least_from") rfl)
theorem g_placing_behind (T : Tx K mg) : mg "placing_behind" = some (.ref (He.ga K "placing_behind")) := by
  obtain ⟨h, X, G⟩ := T.h
  exact He.glo_ok X G (T.c.fact 23 (f := .glo "placing_behind") rfl)
theorem g_last_rows (T : Tx K mg) : mg "last_rows" = some (.ref (He.ga K "last_rows")) := by
  obtain ⟨h, X, G⟩ := T.h
  exact He.glo_ok X G (T.c.fact 24 (f := .glo "last_rows") rfl)
theorem g_rows_back (T : Tx K mg) : mg "rows_back" = some (.ref (He.ga K "rows_back")) := by
  obtain ⟨h, X, G⟩ := T.h
  exact He.glo_ok X G (T.c.fact 25 (f := .glo "rows_back") rfl)
theorem g_Zone (T : Tx K mg) : mg "Zone" = some (.ref (He.ga K "Zone")) := by
  obtain ⟨h, X, G⟩ := T.h
  exact He.glo_ok X G (T.c.fact 26 (f := .glo "Zone") rfl)
theorem g_look_placing (T : Tx K mg) : mg "look_placing" = some (.ref (He.ga K "look_placing")) := by
  obtain ⟨h, X, G⟩ := T.h
  exact He.glo_ok X G (T.c.fact 27 (f := .glo "look_placing") rfl)
theorem g_l_pen (T : Tx K mg) : mg "_law_pen" = some (.ref (He.ga K "_law_pen")) := by
  obtain ⟨h, X, G⟩ := T.h
  exact He.glo_ok X G (T.c.fact 28 (f := .glo "_law_pen") rfl)
theorem g_l_draw (T : Tx K mg) : mg "_law_draw" = some (.ref (He.ga K "_law_draw")) := by
  obtain ⟨h, X, G⟩ := T.h
  exact He.glo_ok X G (T.c.fact 29 (f := .glo "_law_draw") rfl)
theorem g_l_pick (T : Tx K mg) : mg "_law_pick" = some (.ref (He.ga K "_law_pick")) := by
  obtain ⟨h, X, G⟩ := T.h
  exact He.glo_ok X G (T.c.fact 30 (f := .glo "_law_pick") rfl)
theorem g_l_zone (T : Tx K mg) : mg "_law_zone" = some (.ref (He.ga K "_law_zone")) := by
  obtain ⟨h, X, G⟩ := T.h
  exact He.glo_ok X G (T.c.fact 31 (f := .glo "_law_zone") rfl)
theorem g_l_fixed (T : Tx K mg) : mg "_law_fixed" = some (.ref (He.ga K "_law_fixed")) := by
  obtain ⟨h, X, G⟩ := T.h
  exact He.glo_ok X G (T.c.fact 32 (f := .glo "_law_fixed") rfl)
theorem g_l_above (T : Tx K mg) : mg "_law_above" = some (.ref (He.ga K "_law_above")) := by
  obtain ⟨h, X, G⟩ := T.h
  exact He.glo_ok X G (T.c.fact 33 (f := .glo "_law_above") rfl)
theorem g_l_below (T : Tx K mg) : mg "_law_below" = some (.ref (He.ga K "_law_below")) := by
  obtain ⟨h, X, G⟩ := T.h
  exact He.glo_ok X G (T.c.fact 34 (f := .glo "_law_below") rfl)
theorem g_l_none_behind (T : Tx K mg) : mg "_law_none_behind" = some (.ref (He.ga K "_law_none_behind")) := by
  obtain ⟨h, X, G⟩ := T.h
  exact He.glo_ok X G (T.c.fact 35 (f := .glo "_law_none_behind") rfl)
theorem g_l_none_ahead (T : Tx K mg) : mg "_law_none_ahead" = some (.ref (He.ga K "_law_none_ahead")) := by
  obtain ⟨h, X, G⟩ := T.h
  exact He.glo_ok X G (T.c.fact 36 (f := .glo "_law_none_ahead") rfl)
theorem g_l_next_right (T : Tx K mg) : mg "_law_next_right" = some (.ref (He.ga K "_law_next_right")) := by
  obtain ⟨h, X, G⟩ := T.h
  exact He.glo_ok X G (T.c.fact 37 (f := .glo "_law_next_right") rfl)
theorem g_l_first (T : Tx K mg) : mg "_law_first" = some (.ref (He.ga K "_law_first")) := by
  obtain ⟨h, X, G⟩ := T.h
  exact He.glo_ok X G (T.c.fact 38 (f := .glo "_law_first") rfl)
theorem g_l_rows_right (T : Tx K mg) : mg "_law_rows_right" = some (.ref (He.ga K "_law_rows_right")) := by
  obtain ⟨h, X, G⟩ := T.h
  exact He.glo_ok X G (T.c.fact 39 (f := .glo "_law_rows_right") rfl)
theorem g_law (T : Tx K mg) : mg "law" = some (.ref (He.ga K "law")) := by
  obtain ⟨h, X, G⟩ := T.h
  exact He.glo_ok X G (T.c.fact 40 (f := .glo "law") rfl)
theorem free_ValueError (T : Tx K mg) : mg "ValueError" = none := by
  obtain ⟨h, X, G⟩ := T.h
  exact He.free_ok X G (T.c.fact 41 (f := .free "ValueError") rfl)
theorem free_abs (T : Tx K mg) : mg "abs" = none := by
  obtain ⟨h, X, G⟩ := T.h
  exact He.free_ok X G (T.c.fact 42 (f := .free "abs") rfl)
theorem free_all (T : Tx K mg) : mg "all" = none := by
  obtain ⟨h, X, G⟩ := T.h
  exact He.free_ok X G (T.c.fact 43 (f := .free "all") rfl)
theorem free_bool (T : Tx K mg) : mg "bool" = none := by
  obtain ⟨h, X, G⟩ := T.h
  exact He.free_ok X G (T.c.fact 44 (f := .free "bool") rfl)
theorem free_classmethod (T : Tx K mg) : mg "classmethod" = none := by
  obtain ⟨h, X, G⟩ := T.h
  exact He.free_ok X G (T.c.fact 45 (f := .free "classmethod") rfl)
theorem free_enumerate (T : Tx K mg) : mg "enumerate" = none := by
  obtain ⟨h, X, G⟩ := T.h
  exact He.free_ok X G (T.c.fact 46 (f := .free "enumerate") rfl)
theorem free_int (T : Tx K mg) : mg "int" = none := by
  obtain ⟨h, X, G⟩ := T.h
  exact He.free_ok X G (T.c.fact 47 (f := .free "int") rfl)
theorem free_isinstance (T : Tx K mg) : mg "isinstance" = none := by
  obtain ⟨h, X, G⟩ := T.h
  exact He.free_ok X G (T.c.fact 48 (f := .free "isinstance") rfl)
theorem free_len (T : Tx K mg) : mg "len" = none := by
  obtain ⟨h, X, G⟩ := T.h
  exact He.free_ok X G (T.c.fact 49 (f := .free "len") rfl)
theorem free_list (T : Tx K mg) : mg "list" = none := by
  obtain ⟨h, X, G⟩ := T.h
  exact He.free_ok X G (T.c.fact 50 (f := .free "list") rfl)
theorem free_max (T : Tx K mg) : mg "max" = none := by
  obtain ⟨h, X, G⟩ := T.h
  exact He.free_ok X G (T.c.fact 51 (f := .free "max") rfl)
theorem free_min (T : Tx K mg) : mg "min" = none := by
  obtain ⟨h, X, G⟩ := T.h
  exact He.free_ok X G (T.c.fact 52 (f := .free "min") rfl)
theorem free_range (T : Tx K mg) : mg "range" = none := by
  obtain ⟨h, X, G⟩ := T.h
  exact He.free_ok X G (T.c.fact 53 (f := .free "range") rfl)
theorem free_str (T : Tx K mg) : mg "str" = none := by
  obtain ⟨h, X, G⟩ := T.h
  exact He.free_ok X G (T.c.fact 54 (f := .free "str") rfl)
theorem free_sum (T : Tx K mg) : mg "sum" = none := by
  obtain ⟨h, X, G⟩ := T.h
  exact He.free_ok X G (T.c.fact 55 (f := .free "sum") rfl)
theorem free_tuple (T : Tx K mg) : mg "tuple" = none := by
  obtain ⟨h, X, G⟩ := T.h
  exact He.free_ok X G (T.c.fact 56 (f := .free "tuple") rfl)
theorem free_zip (T : Tx K mg) : mg "zip" = none := by
  obtain ⟨h, X, G⟩ := T.h
  exact He.free_ok X G (T.c.fact 57 (f := .free "zip") rfl)
theorem str_DIGITS (T : Tx K mg) : ∃ t, mg "DIGITS" = some (.str "0123456789" t) := by
  obtain ⟨h, X, G⟩ := T.h
  exact He.str_ok X G (T.c.fact 58 (f := .str "DIGITS" "0123456789") rfl)
theorem int_MOST_DIGITS (T : Tx K mg) : ∃ t, mg "MOST_DIGITS" = some (.int (61) t) := by
  obtain ⟨h, X, G⟩ := T.h
  exact He.int_ok X G (T.c.fact 59 (f := .int "MOST_DIGITS" (61)) rfl)
theorem int_MOST_POINT (T : Tx K mg) : ∃ t, mg "MOST_POINT" = some (.int (11) t) := by
  obtain ⟨h, X, G⟩ := T.h
  exact He.int_ok X G (T.c.fact 60 (f := .int "MOST_POINT" (11)) rfl)
theorem int_LEAST_MOST (T : Tx K mg) : ∃ t, mg "LEAST_MOST" = some (.int (-1000000) t) := by
  obtain ⟨h, X, G⟩ := T.h
  exact He.int_ok X G (T.c.fact 61 (f := .int "LEAST_MOST" (-1000000)) rfl)
theorem int_MOST_MOST (T : Tx K mg) : ∃ t, mg "MOST_MOST" = some (.int (999999) t) := by
  obtain ⟨h, X, G⟩ := T.h
  exact He.int_ok X G (T.c.fact 62 (f := .int "MOST_MOST" (999999)) rfl)
theorem int_MOST_POINTS (T : Tx K mg) : ∃ t, mg "MOST_POINTS" = some (.int (12) t) := by
  obtain ⟨h, X, G⟩ := T.h
  exact He.int_ok X G (T.c.fact 63 (f := .int "MOST_POINTS" (12)) rfl)
theorem int_MOST_WIDTH (T : Tx K mg) : ∃ t, mg "MOST_WIDTH" = some (.int (999999) t) := by
  obtain ⟨h, X, G⟩ := T.h
  exact He.int_ok X G (T.c.fact 64 (f := .int "MOST_WIDTH" (999999)) rfl)
theorem cls_Words (T : Tx K mg) : Cls K (He.ga K "Words") := He.cls_ok (T.c.fact 65 (f := .cls "Words") rfl)
theorem no_Words_words (T : Tx K mg) : NoAttr K (He.ga K "Words") "words" := He.noat_ok (T.c.fact 66 (f := .noat "Words" "words") rfl)
theorem no_Words_at (T : Tx K mg) : NoAttr K (He.ga K "Words") "at" := He.noat_ok (T.c.fact 67 (f := .noat "Words" "at") rfl)
theorem mk_Words (T : Tx K mg) : Mk K (He.ga K "Words") (He.ma K (He.ga K "Words") "__init__") := He.mkr_ok (T.c.fact 68 (f := .mkr "Words") rfl)
theorem me_Words_coming (T : Tx K mg) : Meth K (He.ga K "Words") "coming" (He.ma K (He.ga K "Words") "coming") := He.meth_ok (T.c.fact 69 (f := .meth "Words" "coming") rfl)
theorem me_Words_refuse (T : Tx K mg) : Meth K (He.ga K "Words") "refuse" (He.ma K (He.ga K "Words") "refuse") := He.meth_ok (T.c.fact 70 (f := .meth "Words" "refuse") rfl)
theorem me_Words_skip (T : Tx K mg) : Meth K (He.ga K "Words") "skip" (He.ma K (He.ga K "Words") "skip") := He.meth_ok (T.c.fact 71 (f := .meth "Words" "skip") rfl)
theorem me_Words_comes (T : Tx K mg) : Meth K (He.ga K "Words") "comes" (He.ma K (He.ga K "Words") "comes") := He.meth_ok (T.c.fact 72 (f := .meth "Words" "comes") rfl)
theorem me_Words_integer (T : Tx K mg) : Meth K (He.ga K "Words") "integer" (He.ma K (He.ga K "Words") "integer") := He.meth_ok (T.c.fact 73 (f := .meth "Words" "integer") rfl)
theorem me_Words_finish (T : Tx K mg) : Meth K (He.ga K "Words") "finish" (He.ma K (He.ga K "Words") "finish") := He.meth_ok (T.c.fact 74 (f := .meth "Words" "finish") rfl)
theorem cls_Row (T : Tx K mg) : Cls K (He.ga K "Row") := He.cls_ok (T.c.fact 75 (f := .cls "Row") rfl)
theorem no_Row_one (T : Tx K mg) : NoAttr K (He.ga K "Row") "one" := He.noat_ok (T.c.fact 76 (f := .noat "Row" "one") rfl)
theorem no_Row_other (T : Tx K mg) : NoAttr K (He.ga K "Row") "other" := He.noat_ok (T.c.fact 77 (f := .noat "Row" "other") rfl)
theorem no_Row_most (T : Tx K mg) : NoAttr K (He.ga K "Row") "most" := He.noat_ok (T.c.fact 78 (f := .noat "Row" "most") rfl)
theorem mk_Row (T : Tx K mg) : Mk K (He.ga K "Row") (He.ma K (He.ga K "Row") "__init__") := He.mkr_ok (T.c.fact 79 (f := .mkr "Row") rfl)
theorem me_Row_invert (T : Tx K mg) : Meth K (He.ga K "Row") "__invert__" (He.ma K (He.ga K "Row") "__invert__") := He.meth_ok (T.c.fact 80 (f := .meth "Row" "__invert__") rfl)
theorem me_Row_eq (T : Tx K mg) : Meth K (He.ga K "Row") "__eq__" (He.ma K (He.ga K "Row") "__eq__") := He.meth_ok (T.c.fact 81 (f := .meth "Row" "__eq__") rfl)
theorem me_Row_str (T : Tx K mg) : Meth K (He.ga K "Row") "__str__" (He.ma K (He.ga K "Row") "__str__") := He.meth_ok (T.c.fact 82 (f := .meth "Row" "__str__") rfl)
theorem me_Row_holds (T : Tx K mg) : Meth K (He.ga K "Row") "holds" (He.ma K (He.ga K "Row") "holds") := He.meth_ok (T.c.fact 83 (f := .meth "Row" "holds") rfl)
theorem cls_Ring (T : Tx K mg) : Cls K (He.ga K "Ring") := He.cls_ok (T.c.fact 84 (f := .cls "Ring") rfl)
theorem no_Ring_rows (T : Tx K mg) : NoAttr K (He.ga K "Ring") "rows" := He.noat_ok (T.c.fact 85 (f := .noat "Ring" "rows") rfl)
theorem mk_Ring (T : Tx K mg) : Mk K (He.ga K "Ring") (He.ma K (He.ga K "Ring") "__init__") := He.mkr_ok (T.c.fact 86 (f := .mkr "Ring") rfl)
theorem me_Ring_eq (T : Tx K mg) : Meth K (He.ga K "Ring") "__eq__" (He.ma K (He.ga K "Ring") "__eq__") := He.meth_ok (T.c.fact 87 (f := .meth "Ring" "__eq__") rfl)
theorem cls_Chain (T : Tx K mg) : Cls K (He.ga K "Chain") := He.cls_ok (T.c.fact 88 (f := .cls "Chain") rfl)
theorem no_Chain_rows (T : Tx K mg) : NoAttr K (He.ga K "Chain") "rows" := He.noat_ok (T.c.fact 89 (f := .noat "Chain" "rows") rfl)
theorem mk_Chain (T : Tx K mg) : Mk K (He.ga K "Chain") (He.ma K (He.ga K "Chain") "__init__") := He.mkr_ok (T.c.fact 90 (f := .mkr "Chain") rfl)
theorem me_Chain_eq (T : Tx K mg) : Meth K (He.ga K "Chain") "__eq__" (He.ma K (He.ga K "Chain") "__eq__") := He.meth_ok (T.c.fact 91 (f := .meth "Chain" "__eq__") rfl)
theorem cls_Zone (T : Tx K mg) : Cls K (He.ga K "Zone") := He.cls_ok (T.c.fact 92 (f := .cls "Zone") rfl)
theorem no_Zone_points (T : Tx K mg) : NoAttr K (He.ga K "Zone") "points" := He.noat_ok (T.c.fact 93 (f := .noat "Zone" "points") rfl)
theorem no_Zone_width (T : Tx K mg) : NoAttr K (He.ga K "Zone") "width" := He.noat_ok (T.c.fact 94 (f := .noat "Zone" "width") rfl)
theorem no_Zone_rows (T : Tx K mg) : NoAttr K (He.ga K "Zone") "rows" := He.noat_ok (T.c.fact 95 (f := .noat "Zone" "rows") rfl)
theorem no_Zone_gaps (T : Tx K mg) : NoAttr K (He.ga K "Zone") "gaps" := He.noat_ok (T.c.fact 96 (f := .noat "Zone" "gaps") rfl)
theorem mk_Zone (T : Tx K mg) : Mk K (He.ga K "Zone") (He.ma K (He.ga K "Zone") "__init__") := He.mkr_ok (T.c.fact 97 (f := .mkr "Zone") rfl)
theorem me_Zone_and (T : Tx K mg) : Meth K (He.ga K "Zone") "__and__" (He.ma K (He.ga K "Zone") "__and__") := He.meth_ok (T.c.fact 98 (f := .meth "Zone" "__and__") rfl)
theorem me_Zone_contains (T : Tx K mg) : Meth K (He.ga K "Zone") "__contains__" (He.ma K (He.ga K "Zone") "__contains__") := He.meth_ok (T.c.fact 99 (f := .meth "Zone" "__contains__") rfl)
theorem me_Zone_bool (T : Tx K mg) : Meth K (He.ga K "Zone") "__bool__" (He.ma K (He.ga K "Zone") "__bool__") := He.meth_ok (T.c.fact 100 (f := .meth "Zone" "__bool__") rfl)
theorem me_Zone_eq (T : Tx K mg) : Meth K (He.ga K "Zone") "__eq__" (He.ma K (He.ga K "Zone") "__eq__") := He.meth_ok (T.c.fact 101 (f := .meth "Zone" "__eq__") rfl)
theorem me_Zone_gap (T : Tx K mg) : Meth K (He.ga K "Zone") "gap" (He.ma K (He.ga K "Zone") "gap") := He.meth_ok (T.c.fact 102 (f := .meth "Zone" "gap") rfl)
theorem me_Zone_lowest (T : Tx K mg) : Meth K (He.ga K "Zone") "lowest" (He.ma K (He.ga K "Zone") "lowest") := He.meth_ok (T.c.fact 103 (f := .meth "Zone" "lowest") rfl)
theorem me_Zone_highest (T : Tx K mg) : Meth K (He.ga K "Zone") "highest" (He.ma K (He.ga K "Zone") "highest") := He.meth_ok (T.c.fact 104 (f := .meth "Zone" "highest") rfl)
theorem me_Zone_placings (T : Tx K mg) : Meth K (He.ga K "Zone") "placings" (He.ma K (He.ga K "Zone") "placings") := He.meth_ok (T.c.fact 105 (f := .meth "Zone" "placings") rfl)
theorem me_Zone_ring (T : Tx K mg) : Meth K (He.ga K "Zone") "ring" (He.ma K (He.ga K "Zone") "ring") := He.meth_ok (T.c.fact 106 (f := .meth "Zone" "ring") rfl)
theorem me_Zone_chain (T : Tx K mg) : Meth K (He.ga K "Zone") "chain" (He.ma K (He.ga K "Zone") "chain") := He.meth_ok (T.c.fact 107 (f := .meth "Zone" "chain") rfl)
theorem oex_PostError (T : Tx K mg) : OexC K (He.ga K "PostError") := oexB_ok (T.mo 0)
theorem xf_PostError (T : Tx K mg) : XfC K (He.ga K "PostError") := xfB_ok (T.mo 1)
theorem ini_PostError (T : Tx K mg) : PySem.W.findIn K (.ref (He.ga K "PostError")) "__init__" = some (some (.ref (He.ma K (He.ga K "PostError") "__init__"))) := He.eqO_ok (T.mo 2)
theorem tyi_PostError (T : Tx K mg) : PySem.W.typeIn K (.ref (He.ma K (He.ga K "PostError") "__init__")) = some (.type "function") := of_decide_eq_true (T.mo 3)
theorem oex_BadValue (T : Tx K mg) : OexC K (He.ga K "BadValue") := oexB_ok (T.mo 4)
theorem xf_BadValue (T : Tx K mg) : XfC K (He.ga K "BadValue") := xfB_ok (T.mo 5)
theorem ini_BadValue (T : Tx K mg) : PySem.W.findIn K (.ref (He.ga K "BadValue")) "__init__" = some (some (.ref (He.ma K (He.ga K "BadValue") "__init__"))) := He.eqO_ok (T.mo 6)
theorem tyi_BadValue (T : Tx K mg) : PySem.W.typeIn K (.ref (He.ma K (He.ga K "BadValue") "__init__")) = some (.type "function") := of_decide_eq_true (T.mo 7)
theorem nof_BadValue_what (T : Tx K mg) : PySem.W.findIn K (.ref (He.ga K "BadValue")) "what" = some none := He.eqO_ok (T.mo 8)
theorem oex_BadRow (T : Tx K mg) : OexC K (He.ga K "BadRow") := oexB_ok (T.mo 9)
theorem xf_BadRow (T : Tx K mg) : XfC K (He.ga K "BadRow") := xfB_ok (T.mo 10)
theorem ini_BadRow (T : Tx K mg) : PySem.W.findIn K (.ref (He.ga K "BadRow")) "__init__" = some (some (.ref (He.ma K (He.ga K "BadRow") "__init__"))) := He.eqO_ok (T.mo 11)
theorem tyi_BadRow (T : Tx K mg) : PySem.W.typeIn K (.ref (He.ma K (He.ga K "BadRow") "__init__")) = some (.type "function") := of_decide_eq_true (T.mo 12)
theorem nof_BadRow_index (T : Tx K mg) : PySem.W.findIn K (.ref (He.ga K "BadRow")) "index" = some none := He.eqO_ok (T.mo 13)
theorem oex_NoPlacing (T : Tx K mg) : OexC K (He.ga K "NoPlacing") := oexB_ok (T.mo 14)
theorem xf_NoPlacing (T : Tx K mg) : XfC K (He.ga K "NoPlacing") := xfB_ok (T.mo 15)
theorem ini_NoPlacing (T : Tx K mg) : PySem.W.findIn K (.ref (He.ga K "NoPlacing")) "__init__" = some (some (.ref (He.ma K (He.ga K "NoPlacing") "__init__"))) := He.eqO_ok (T.mo 16)
theorem tyi_NoPlacing (T : Tx K mg) : PySem.W.typeIn K (.ref (He.ma K (He.ga K "NoPlacing") "__init__")) = some (.type "function") := of_decide_eq_true (T.mo 17)
theorem nof_NoPlacing_station (T : Tx K mg) : PySem.W.findIn K (.ref (He.ga K "NoPlacing")) "station" = some none := He.eqO_ok (T.mo 18)
theorem oex_BadText (T : Tx K mg) : OexC K (He.ga K "BadText") := oexB_ok (T.mo 19)
theorem xf_BadText (T : Tx K mg) : XfC K (He.ga K "BadText") := xfB_ok (T.mo 20)
theorem ini_BadText (T : Tx K mg) : PySem.W.findIn K (.ref (He.ga K "BadText")) "__init__" = some (some (.ref (He.ma K (He.ga K "BadText") "__init__"))) := He.eqO_ok (T.mo 21)
theorem tyi_BadText (T : Tx K mg) : PySem.W.typeIn K (.ref (He.ma K (He.ga K "BadText") "__init__")) = some (.type "function") := of_decide_eq_true (T.mo 22)
theorem nof_BadText_at (T : Tx K mg) : PySem.W.findIn K (.ref (He.ga K "BadText")) "at" = some none := He.eqO_ok (T.mo 23)
theorem nof_BadText_word (T : Tx K mg) : PySem.W.findIn K (.ref (He.ga K "BadText")) "word" = some none := He.eqO_ok (T.mo 24)
theorem exi_PostError (T : Tx K mg) : ExcI K (He.ga K "PostError") := excIB_ok (T.mo 25)
theorem exi_BadValue (T : Tx K mg) : ExcI K (He.ga K "BadValue") := excIB_ok (T.mo 26)
theorem exi_BadRow (T : Tx K mg) : ExcI K (He.ga K "BadRow") := excIB_ok (T.mo 27)
theorem exi_NoPlacing (T : Tx K mg) : ExcI K (He.ga K "NoPlacing") := excIB_ok (T.mo 28)
theorem exi_BadText (T : Tx K mg) : ExcI K (He.ga K "BadText") := excIB_ok (T.mo 29)
theorem keep_PostError (T : Tx K mg) : PySem.W.keepIn K (.ref (He.ga K "PostError")) = true := id (T.mo 30)
theorem keep_BadValue (T : Tx K mg) : PySem.W.keepIn K (.ref (He.ga K "BadValue")) = true := id (T.mo 31)
theorem keep_BadRow (T : Tx K mg) : PySem.W.keepIn K (.ref (He.ga K "BadRow")) = true := id (T.mo 32)
theorem keep_NoPlacing (T : Tx K mg) : PySem.W.keepIn K (.ref (He.ga K "NoPlacing")) = true := id (T.mo 33)
theorem keep_BadText (T : Tx K mg) : PySem.W.keepIn K (.ref (He.ga K "BadText")) = true := id (T.mo 34)
theorem keep_Words (T : Tx K mg) : PySem.W.keepIn K (.ref (He.ga K "Words")) = true := id (T.mo 35)
theorem keep_Row (T : Tx K mg) : PySem.W.keepIn K (.ref (He.ga K "Row")) = true := id (T.mo 36)
theorem keep_Ring (T : Tx K mg) : PySem.W.keepIn K (.ref (He.ga K "Ring")) = true := id (T.mo 37)
theorem keep_Chain (T : Tx K mg) : PySem.W.keepIn K (.ref (He.ga K "Chain")) = true := id (T.mo 38)
theorem keep_Zone (T : Tx K mg) : PySem.W.keepIn K (.ref (He.ga K "Zone")) = true := id (T.mo 39)
theorem clsi_Words (T : Tx K mg) : ClsI K (He.ga K "Words") ∧ PySem.W.kitOne K (.ref (He.ga K "Words")) (.ref (He.ga K "Words")) = some true := clsiB_ok (T.mo 40) (cls_Words T)
theorem clsi_Row (T : Tx K mg) : ClsI K (He.ga K "Row") ∧ PySem.W.kitOne K (.ref (He.ga K "Row")) (.ref (He.ga K "Row")) = some true := clsiB_ok (T.mo 41) (cls_Row T)
theorem clsi_Ring (T : Tx K mg) : ClsI K (He.ga K "Ring") ∧ PySem.W.kitOne K (.ref (He.ga K "Ring")) (.ref (He.ga K "Ring")) = some true := clsiB_ok (T.mo 42) (cls_Ring T)
theorem clsi_Chain (T : Tx K mg) : ClsI K (He.ga K "Chain") ∧ PySem.W.kitOne K (.ref (He.ga K "Chain")) (.ref (He.ga K "Chain")) = some true := clsiB_ok (T.mo 43) (cls_Chain T)
theorem clsi_Zone (T : Tx K mg) : ClsI K (He.ga K "Zone") ∧ PySem.W.kitOne K (.ref (He.ga K "Zone")) (.ref (He.ga K "Zone")) = some true := clsiB_ok (T.mo 44) (cls_Zone T)
theorem kitB_Row (T : Tx K mg) : ∀ {d : D}, known d = true → PySem.W.kitOne K (.type (tyN d)) (.ref (He.ga K "Row")) = some false := kitBB_ok (T.mo 45)
theorem kitB_Ring (T : Tx K mg) : ∀ {d : D}, known d = true → PySem.W.kitOne K (.type (tyN d)) (.ref (He.ga K "Ring")) = some false := kitBB_ok (T.mo 46)
theorem kitB_Chain (T : Tx K mg) : ∀ {d : D}, known d = true → PySem.W.kitOne K (.type (tyN d)) (.ref (He.ga K "Chain")) = some false := kitBB_ok (T.mo 47)
theorem kitB_Zone (T : Tx K mg) : ∀ {d : D}, known d = true → PySem.W.kitOne K (.type (tyN d)) (.ref (He.ga K "Zone")) = some false := kitBB_ok (T.mo 48)
theorem kit_Words_Row (T : Tx K mg) : PySem.W.kitOne K (.ref (He.ga K "Words")) (.ref (He.ga K "Row")) = some false := of_decide_eq_true (T.mo 49)
theorem kit_Words_Ring (T : Tx K mg) : PySem.W.kitOne K (.ref (He.ga K "Words")) (.ref (He.ga K "Ring")) = some false := of_decide_eq_true (T.mo 50)
theorem kit_Words_Chain (T : Tx K mg) : PySem.W.kitOne K (.ref (He.ga K "Words")) (.ref (He.ga K "Chain")) = some false := of_decide_eq_true (T.mo 51)
theorem kit_Words_Zone (T : Tx K mg) : PySem.W.kitOne K (.ref (He.ga K "Words")) (.ref (He.ga K "Zone")) = some false := of_decide_eq_true (T.mo 52)
theorem kit_Words_int (T : Tx K mg) : PySem.W.kitOne K (.ref (He.ga K "Words")) (.type "int") = some false := of_decide_eq_true (T.mo 53)
theorem kit_Words_bool (T : Tx K mg) : PySem.W.kitOne K (.ref (He.ga K "Words")) (.type "bool") = some false := of_decide_eq_true (T.mo 54)
theorem kit_Words_str (T : Tx K mg) : PySem.W.kitOne K (.ref (He.ga K "Words")) (.type "str") = some false := of_decide_eq_true (T.mo 55)
theorem kit_Words_tuple (T : Tx K mg) : PySem.W.kitOne K (.ref (He.ga K "Words")) (.type "tuple") = some false := of_decide_eq_true (T.mo 56)
theorem kit_Words_list (T : Tx K mg) : PySem.W.kitOne K (.ref (He.ga K "Words")) (.type "list") = some false := of_decide_eq_true (T.mo 57)
theorem kit_Row_Ring (T : Tx K mg) : PySem.W.kitOne K (.ref (He.ga K "Row")) (.ref (He.ga K "Ring")) = some false := of_decide_eq_true (T.mo 58)
theorem kit_Row_Chain (T : Tx K mg) : PySem.W.kitOne K (.ref (He.ga K "Row")) (.ref (He.ga K "Chain")) = some false := of_decide_eq_true (T.mo 59)
theorem kit_Row_Zone (T : Tx K mg) : PySem.W.kitOne K (.ref (He.ga K "Row")) (.ref (He.ga K "Zone")) = some false := of_decide_eq_true (T.mo 60)
theorem kit_Row_int (T : Tx K mg) : PySem.W.kitOne K (.ref (He.ga K "Row")) (.type "int") = some false := of_decide_eq_true (T.mo 61)
theorem kit_Row_bool (T : Tx K mg) : PySem.W.kitOne K (.ref (He.ga K "Row")) (.type "bool") = some false := of_decide_eq_true (T.mo 62)
theorem kit_Row_str (T : Tx K mg) : PySem.W.kitOne K (.ref (He.ga K "Row")) (.type "str") = some false := of_decide_eq_true (T.mo 63)
theorem kit_Row_tuple (T : Tx K mg) : PySem.W.kitOne K (.ref (He.ga K "Row")) (.type "tuple") = some false := of_decide_eq_true (T.mo 64)
theorem kit_Row_list (T : Tx K mg) : PySem.W.kitOne K (.ref (He.ga K "Row")) (.type "list") = some false := of_decide_eq_true (T.mo 65)
theorem kit_Ring_Row (T : Tx K mg) : PySem.W.kitOne K (.ref (He.ga K "Ring")) (.ref (He.ga K "Row")) = some false := of_decide_eq_true (T.mo 66)
theorem kit_Ring_Chain (T : Tx K mg) : PySem.W.kitOne K (.ref (He.ga K "Ring")) (.ref (He.ga K "Chain")) = some false := of_decide_eq_true (T.mo 67)
theorem kit_Ring_Zone (T : Tx K mg) : PySem.W.kitOne K (.ref (He.ga K "Ring")) (.ref (He.ga K "Zone")) = some false := of_decide_eq_true (T.mo 68)
theorem kit_Ring_int (T : Tx K mg) : PySem.W.kitOne K (.ref (He.ga K "Ring")) (.type "int") = some false := of_decide_eq_true (T.mo 69)
theorem kit_Ring_bool (T : Tx K mg) : PySem.W.kitOne K (.ref (He.ga K "Ring")) (.type "bool") = some false := of_decide_eq_true (T.mo 70)
theorem kit_Ring_str (T : Tx K mg) : PySem.W.kitOne K (.ref (He.ga K "Ring")) (.type "str") = some false := of_decide_eq_true (T.mo 71)
theorem kit_Ring_tuple (T : Tx K mg) : PySem.W.kitOne K (.ref (He.ga K "Ring")) (.type "tuple") = some false := of_decide_eq_true (T.mo 72)
theorem kit_Ring_list (T : Tx K mg) : PySem.W.kitOne K (.ref (He.ga K "Ring")) (.type "list") = some false := of_decide_eq_true (T.mo 73)
theorem kit_Chain_Row (T : Tx K mg) : PySem.W.kitOne K (.ref (He.ga K "Chain")) (.ref (He.ga K "Row")) = some false := of_decide_eq_true (T.mo 74)
theorem kit_Chain_Ring (T : Tx K mg) : PySem.W.kitOne K (.ref (He.ga K "Chain")) (.ref (He.ga K "Ring")) = some false := of_decide_eq_true (T.mo 75)
theorem kit_Chain_Zone (T : Tx K mg) : PySem.W.kitOne K (.ref (He.ga K "Chain")) (.ref (He.ga K "Zone")) = some false := of_decide_eq_true (T.mo 76)
theorem kit_Chain_int (T : Tx K mg) : PySem.W.kitOne K (.ref (He.ga K "Chain")) (.type "int") = some false := of_decide_eq_true (T.mo 77)
theorem kit_Chain_bool (T : Tx K mg) : PySem.W.kitOne K (.ref (He.ga K "Chain")) (.type "bool") = some false := of_decide_eq_true (T.mo 78)
theorem kit_Chain_str (T : Tx K mg) : PySem.W.kitOne K (.ref (He.ga K "Chain")) (.type "str") = some false := of_decide_eq_true (T.mo 79)
theorem kit_Chain_tuple (T : Tx K mg) : PySem.W.kitOne K (.ref (He.ga K "Chain")) (.type "tuple") = some false := of_decide_eq_true (T.mo 80)
theorem kit_Chain_list (T : Tx K mg) : PySem.W.kitOne K (.ref (He.ga K "Chain")) (.type "list") = some false := of_decide_eq_true (T.mo 81)
theorem kit_Zone_Row (T : Tx K mg) : PySem.W.kitOne K (.ref (He.ga K "Zone")) (.ref (He.ga K "Row")) = some false := of_decide_eq_true (T.mo 82)
theorem kit_Zone_Ring (T : Tx K mg) : PySem.W.kitOne K (.ref (He.ga K "Zone")) (.ref (He.ga K "Ring")) = some false := of_decide_eq_true (T.mo 83)
theorem kit_Zone_Chain (T : Tx K mg) : PySem.W.kitOne K (.ref (He.ga K "Zone")) (.ref (He.ga K "Chain")) = some false := of_decide_eq_true (T.mo 84)
theorem kit_Zone_int (T : Tx K mg) : PySem.W.kitOne K (.ref (He.ga K "Zone")) (.type "int") = some false := of_decide_eq_true (T.mo 85)
theorem kit_Zone_bool (T : Tx K mg) : PySem.W.kitOne K (.ref (He.ga K "Zone")) (.type "bool") = some false := of_decide_eq_true (T.mo 86)
theorem kit_Zone_str (T : Tx K mg) : PySem.W.kitOne K (.ref (He.ga K "Zone")) (.type "str") = some false := of_decide_eq_true (T.mo 87)
theorem kit_Zone_tuple (T : Tx K mg) : PySem.W.kitOne K (.ref (He.ga K "Zone")) (.type "tuple") = some false := of_decide_eq_true (T.mo 88)
theorem kit_Zone_list (T : Tx K mg) : PySem.W.kitOne K (.ref (He.ga K "Zone")) (.type "list") = some false := of_decide_eq_true (T.mo 89)
theorem and_Zone_Words (T : Tx K mg) : AndC K (He.ga K "Zone") (He.ga K "Words") := andB_ok (T.mo 90)
theorem and_Zone_Row (T : Tx K mg) : AndC K (He.ga K "Zone") (He.ga K "Row") := andB_ok (T.mo 91)
theorem and_Zone_Ring (T : Tx K mg) : AndC K (He.ga K "Zone") (He.ga K "Ring") := andB_ok (T.mo 92)
theorem and_Zone_Chain (T : Tx K mg) : AndC K (He.ga K "Zone") (He.ga K "Chain") := andB_ok (T.mo 93)
theorem dfl_Words_integer_0 (T : Tx K mg) : ∀ H, SqT K H (He.dflAt ("Words", some "integer") 0 K) [] := emTB_ok (T.mo 94)
theorem dfl_Zone_init_0 (T : Tx K mg) : ∀ H, SqT K H (He.dflAt ("Zone", some "__init__") 0 K) [] := emTB_ok (T.mo 95)
theorem andT_Zone (T : Tx K mg) : AndT K (He.ga K "Zone") := andTB_ok (T.mo 96)
theorem F_PostError_init (T : Tx K mg) : ∃ fd, FunD K "__init__" "PostError.__init__" (defArgs s_PostError_init) (defBody s_PostError_init) (defScope s_PostError_init) [] [] (He.ma K (He.ga K "PostError") "__init__") fd := T.c.def_ 0 (d := d_PostError_init) rfl
theorem F_BadValue_init (T : Tx K mg) : ∃ fd, FunD K "__init__" "BadValue.__init__" (defArgs s_BadValue_init) (defBody s_BadValue_init) (defScope s_BadValue_init) [] [] (He.ma K (He.ga K "BadValue") "__init__") fd := T.c.def_ 1 (d := d_BadValue_init) rfl
theorem F_BadRow_init (T : Tx K mg) : ∃ fd, FunD K "__init__" "BadRow.__init__" (defArgs s_BadRow_init) (defBody s_BadRow_init) (defScope s_BadRow_init) [] [] (He.ma K (He.ga K "BadRow") "__init__") fd := T.c.def_ 2 (d := d_BadRow_init) rfl
theorem F_NoPlacing_init (T : Tx K mg) : ∃ fd, FunD K "__init__" "NoPlacing.__init__" (defArgs s_NoPlacing_init) (defBody s_NoPlacing_init) (defScope s_NoPlacing_init) [] [] (He.ma K (He.ga K "NoPlacing") "__init__") fd := T.c.def_ 3 (d := d_NoPlacing_init) rfl
theorem F_BadText_init (T : Tx K mg) : ∃ fd, FunD K "__init__" "BadText.__init__" (defArgs s_BadText_init) (defBody s_BadText_init) (defScope s_BadText_init) [] [] (He.ma K (He.ga K "BadText") "__init__") fd := T.c.def_ 4 (d := d_BadText_init) rfl
theorem F_is_integer (T : Tx K mg) : ∃ fd, FunD K "is_integer" "is_integer" (defArgs s_is_integer) (defBody s_is_integer) (defScope s_is_integer) [] [] (He.ga K "is_integer") fd := T.c.def_ 5 (d := d_is_integer) rfl
theorem F_is_between (T : Tx K mg) : ∃ fd, FunD K "is_between" "is_between" (defArgs s_is_between) (defBody s_is_between) (defScope s_is_between) [] [] (He.ga K "is_between") fd := T.c.def_ 6 (d := d_is_between) rfl
theorem F_is_series (T : Tx K mg) : ∃ fd, FunD K "is_series" "is_series" (defArgs s_is_series) (defBody s_is_series) (defScope s_is_series) [] [] (He.ga K "is_series") fd := T.c.def_ 7 (d := d_is_series) rfl
theorem F_are_integers (T : Tx K mg) : ∃ fd, FunD K "are_integers" "are_integers" (defArgs s_are_integers) (defBody s_are_integers) (defScope s_are_integers) [] [] (He.ga K "are_integers") fd := T.c.def_ 8 (d := d_are_integers) rfl
theorem F_integer_of (T : Tx K mg) : ∃ fd, FunD K "integer_of" "integer_of" (defArgs s_integer_of) (defBody s_integer_of) (defScope s_integer_of) [] [] (He.ga K "integer_of") fd := T.c.def_ 9 (d := d_integer_of) rfl
theorem F_Words_init (T : Tx K mg) : ∃ fd, FunD K "__init__" "Words.__init__" (defArgs s_Words_init) (defBody s_Words_init) (defScope s_Words_init) [] [] (He.ma K (He.ga K "Words") "__init__") fd := T.c.def_ 10 (d := d_Words_init) rfl
theorem F_Words_coming (T : Tx K mg) : ∃ fd, FunD K "coming" "Words.coming" (defArgs s_Words_coming) (defBody s_Words_coming) (defScope s_Words_coming) [] [] (He.ma K (He.ga K "Words") "coming") fd := T.c.def_ 11 (d := d_Words_coming) rfl
theorem F_Words_refuse (T : Tx K mg) : ∃ fd, FunD K "refuse" "Words.refuse" (defArgs s_Words_refuse) (defBody s_Words_refuse) (defScope s_Words_refuse) [] [] (He.ma K (He.ga K "Words") "refuse") fd := T.c.def_ 12 (d := d_Words_refuse) rfl
theorem F_Words_skip (T : Tx K mg) : ∃ fd, FunD K "skip" "Words.skip" (defArgs s_Words_skip) (defBody s_Words_skip) (defScope s_Words_skip) [] [] (He.ma K (He.ga K "Words") "skip") fd := T.c.def_ 13 (d := d_Words_skip) rfl
theorem F_Words_comes (T : Tx K mg) : ∃ fd, FunD K "comes" "Words.comes" (defArgs s_Words_comes) (defBody s_Words_comes) (defScope s_Words_comes) [] [] (He.ma K (He.ga K "Words") "comes") fd := T.c.def_ 14 (d := d_Words_comes) rfl
theorem F_Words_integer (T : Tx K mg) : ∃ fd, FunD K "integer" "Words.integer" (defArgs s_Words_integer) (defBody s_Words_integer) (defScope s_Words_integer) (d_Words_integer.dvs K) [] (He.ma K (He.ga K "Words") "integer") fd := T.c.def_ 15 (d := d_Words_integer) rfl
theorem F_Words_finish (T : Tx K mg) : ∃ fd, FunD K "finish" "Words.finish" (defArgs s_Words_finish) (defBody s_Words_finish) (defScope s_Words_finish) [] [] (He.ma K (He.ga K "Words") "finish") fd := T.c.def_ 16 (d := d_Words_finish) rfl
theorem F_read_point (T : Tx K mg) : ∃ fd, FunD K "read_point" "read_point" (defArgs s_read_point) (defBody s_read_point) (defScope s_read_point) [] [] (He.ga K "read_point") fd := T.c.def_ 17 (d := d_read_point) rfl
theorem F_Row_init (T : Tx K mg) : ∃ fd, FunD K "__init__" "Row.__init__" (defArgs s_Row_init) (defBody s_Row_init) (defScope s_Row_init) [] [] (He.ma K (He.ga K "Row") "__init__") fd := T.c.def_ 18 (d := d_Row_init) rfl
theorem F_Row_invert (T : Tx K mg) : ∃ fd, FunD K "__invert__" "Row.__invert__" (defArgs s_Row_invert) (defBody s_Row_invert) (defScope s_Row_invert) [] [] (He.ma K (He.ga K "Row") "__invert__") fd := T.c.def_ 19 (d := d_Row_invert) rfl
theorem F_Row_eq (T : Tx K mg) : ∃ fd, FunD K "__eq__" "Row.__eq__" (defArgs s_Row_eq) (defBody s_Row_eq) (defScope s_Row_eq) [] [] (He.ma K (He.ga K "Row") "__eq__") fd := T.c.def_ 20 (d := d_Row_eq) rfl
theorem F_Row_str (T : Tx K mg) : ∃ fd, FunD K "__str__" "Row.__str__" (defArgs s_Row_str) (defBody s_Row_str) (defScope s_Row_str) [] [] (He.ma K (He.ga K "Row") "__str__") fd := T.c.def_ 21 (d := d_Row_str) rfl
theorem F_Row_holds (T : Tx K mg) : ∃ fd, FunD K "holds" "Row.holds" (defArgs s_Row_holds) (defBody s_Row_holds) (defScope s_Row_holds) [] [] (He.ma K (He.ga K "Row") "holds") fd := T.c.def_ 22 (d := d_Row_holds) rfl
theorem F_Ring_init (T : Tx K mg) : ∃ fd, FunD K "__init__" "Ring.__init__" (defArgs s_Ring_init) (defBody s_Ring_init) (defScope s_Ring_init) [] [] (He.ma K (He.ga K "Ring") "__init__") fd := T.c.def_ 23 (d := d_Ring_init) rfl
theorem F_Ring_eq (T : Tx K mg) : ∃ fd, FunD K "__eq__" "Ring.__eq__" (defArgs s_Ring_eq) (defBody s_Ring_eq) (defScope s_Ring_eq) [] [] (He.ma K (He.ga K "Ring") "__eq__") fd := T.c.def_ 24 (d := d_Ring_eq) rfl
theorem F_Chain_init (T : Tx K mg) : ∃ fd, FunD K "__init__" "Chain.__init__" (defArgs s_Chain_init) (defBody s_Chain_init) (defScope s_Chain_init) [] [] (He.ma K (He.ga K "Chain") "__init__") fd := T.c.def_ 25 (d := d_Chain_init) rfl
theorem F_Chain_eq (T : Tx K mg) : ∃ fd, FunD K "__eq__" "Chain.__eq__" (defArgs s_Chain_eq) (defBody s_Chain_eq) (defScope s_Chain_eq) [] [] (He.ma K (He.ga K "Chain") "__eq__") fd := T.c.def_ 26 (d := d_Chain_eq) rfl
theorem F_is_row_below (T : Tx K mg) : ∃ fd, FunD K "is_row_below" "is_row_below" (defArgs s_is_row_below) (defBody s_is_row_below) (defScope s_is_row_below) [] [] (He.ga K "is_row_below") fd := T.c.def_ 27 (d := d_is_row_below) rfl
theorem F_without_repeats (T : Tx K mg) : ∃ fd, FunD K "without_repeats" "without_repeats" (defArgs s_without_repeats) (defBody s_without_repeats) (defScope s_without_repeats) [] [] (He.ga K "without_repeats") fd := T.c.def_ 28 (d := d_without_repeats) rfl
theorem F_walls_of (T : Tx K mg) : ∃ fd, FunD K "walls_of" "walls_of" (defArgs s_walls_of) (defBody s_walls_of) (defScope s_walls_of) [] [] (He.ga K "walls_of") fd := T.c.def_ 29 (d := d_walls_of) rfl
theorem F_narrowed (T : Tx K mg) : ∃ fd, FunD K "narrowed" "narrowed" (defArgs s_narrowed) (defBody s_narrowed) (defScope s_narrowed) [] [] (He.ga K "narrowed") fd := T.c.def_ 30 (d := d_narrowed) rfl
theorem F_gaps_of (T : Tx K mg) : ∃ fd, FunD K "gaps_of" "gaps_of" (defArgs s_gaps_of) (defBody s_gaps_of) (defScope s_gaps_of) [] [] (He.ga K "gaps_of") fd := T.c.def_ 31 (d := d_gaps_of) rfl
theorem F_lowest_of (T : Tx K mg) : ∃ fd, FunD K "lowest_of" "lowest_of" (defArgs s_lowest_of) (defBody s_lowest_of) (defScope s_lowest_of) [] [] (He.ga K "lowest_of") fd := T.c.def_ 32 (d := d_lowest_of) rfl
theorem F_highest_of (T : Tx K mg) : ∃ fd, FunD K "highest_of" "highest_of" (defArgs s_highest_of) (defBody s_highest_of) (defScope s_highest_of) [] [] (He.ga K "highest_of") fd := T.c.def_ 33 (d := d_highest_of) rfl
theorem F_least_from (T : Tx K mg) : ∃ fd, FunD K "least_from" "least_from" (defArgs s_least_from) (defBody s_least_from) (defScope s_least_from) [] [] (He.ga K "least_from") fd := T.c.def_ 34 (d := d_least_from) rfl
theorem F_placing_behind (T : Tx K mg) : ∃ fd, FunD K "placing_behind" "placing_behind" (defArgs s_placing_behind) (defBody s_placing_behind) (defScope s_placing_behind) [] [] (He.ga K "placing_behind") fd := T.c.def_ 35 (d := d_placing_behind) rfl
theorem F_last_rows (T : Tx K mg) : ∃ fd, FunD K "last_rows" "last_rows" (defArgs s_last_rows) (defBody s_last_rows) (defScope s_last_rows) [] [] (He.ga K "last_rows") fd := T.c.def_ 36 (d := d_last_rows) rfl
theorem F_rows_back (T : Tx K mg) : ∃ fd, FunD K "rows_back" "rows_back" (defArgs s_rows_back) (defBody s_rows_back) (defScope s_rows_back) [] [] (He.ga K "rows_back") fd := T.c.def_ 37 (d := d_rows_back) rfl
theorem F_Zone_init (T : Tx K mg) : ∃ fd, FunD K "__init__" "Zone.__init__" (defArgs s_Zone_init) (defBody s_Zone_init) (defScope s_Zone_init) (d_Zone_init.dvs K) [] (He.ma K (He.ga K "Zone") "__init__") fd := T.c.def_ 38 (d := d_Zone_init) rfl
theorem F_Zone_and (T : Tx K mg) : ∃ fd, FunD K "__and__" "Zone.__and__" (defArgs s_Zone_and) (defBody s_Zone_and) (defScope s_Zone_and) [] [] (He.ma K (He.ga K "Zone") "__and__") fd := T.c.def_ 39 (d := d_Zone_and) rfl
theorem F_Zone_contains (T : Tx K mg) : ∃ fd, FunD K "__contains__" "Zone.__contains__" (defArgs s_Zone_contains) (defBody s_Zone_contains) (defScope s_Zone_contains) [] [] (He.ma K (He.ga K "Zone") "__contains__") fd := T.c.def_ 40 (d := d_Zone_contains) rfl
theorem F_Zone_bool (T : Tx K mg) : ∃ fd, FunD K "__bool__" "Zone.__bool__" (defArgs s_Zone_bool) (defBody s_Zone_bool) (defScope s_Zone_bool) [] [] (He.ma K (He.ga K "Zone") "__bool__") fd := T.c.def_ 41 (d := d_Zone_bool) rfl
theorem F_Zone_eq (T : Tx K mg) : ∃ fd, FunD K "__eq__" "Zone.__eq__" (defArgs s_Zone_eq) (defBody s_Zone_eq) (defScope s_Zone_eq) [] [] (He.ma K (He.ga K "Zone") "__eq__") fd := T.c.def_ 42 (d := d_Zone_eq) rfl
theorem F_Zone_gap (T : Tx K mg) : ∃ fd, FunD K "gap" "Zone.gap" (defArgs s_Zone_gap) (defBody s_Zone_gap) (defScope s_Zone_gap) [] [] (He.ma K (He.ga K "Zone") "gap") fd := T.c.def_ 43 (d := d_Zone_gap) rfl
theorem F_Zone_lowest (T : Tx K mg) : ∃ fd, FunD K "lowest" "Zone.lowest" (defArgs s_Zone_lowest) (defBody s_Zone_lowest) (defScope s_Zone_lowest) [] [] (He.ma K (He.ga K "Zone") "lowest") fd := T.c.def_ 44 (d := d_Zone_lowest) rfl
theorem F_Zone_highest (T : Tx K mg) : ∃ fd, FunD K "highest" "Zone.highest" (defArgs s_Zone_highest) (defBody s_Zone_highest) (defScope s_Zone_highest) [] [] (He.ma K (He.ga K "Zone") "highest") fd := T.c.def_ 45 (d := d_Zone_highest) rfl
theorem F_Zone_placings (T : Tx K mg) : ∃ fd, FunD K "placings" "Zone.placings" (defArgs s_Zone_placings) (defBody s_Zone_placings) (defScope s_Zone_placings) [] [] (He.ma K (He.ga K "Zone") "placings") fd := T.c.def_ 46 (d := d_Zone_placings) rfl
theorem F_Zone_ring (T : Tx K mg) : ∃ fd, FunD K "ring" "Zone.ring" (defArgs s_Zone_ring) (defBody s_Zone_ring) (defScope s_Zone_ring) [] [] (He.ma K (He.ga K "Zone") "ring") fd := T.c.def_ 47 (d := d_Zone_ring) rfl
theorem F_Zone_chain (T : Tx K mg) : ∃ fd, FunD K "chain" "Zone.chain" (defArgs s_Zone_chain) (defBody s_Zone_chain) (defScope s_Zone_chain) [] [] (He.ma K (He.ga K "Zone") "chain") fd := T.c.def_ 48 (d := d_Zone_chain) rfl
theorem F_look_placing (T : Tx K mg) : ∃ fd, FunD K "look_placing" "look_placing" (defArgs s_look_placing) (defBody s_look_placing) (defScope s_look_placing) [] [] (He.ga K "look_placing") fd := T.c.def_ 49 (d := d_look_placing) rfl
theorem F_l_pen (T : Tx K mg) : ∃ fd, FunD K "_law_pen" "_law_pen" (defArgs s_l_pen) (defBody s_l_pen) (defScope s_l_pen) [] [] (He.ga K "_law_pen") fd := T.c.def_ 50 (d := d_l_pen) rfl
theorem F_l_draw (T : Tx K mg) : ∃ fd, FunD K "_law_draw" "_law_draw" (defArgs s_l_draw) (defBody s_l_draw) (defScope s_l_draw) [] [] (He.ga K "_law_draw") fd := T.c.def_ 51 (d := d_l_draw) rfl
theorem F_l_pick (T : Tx K mg) : ∃ fd, FunD K "_law_pick" "_law_pick" (defArgs s_l_pick) (defBody s_l_pick) (defScope s_l_pick) [] [] (He.ga K "_law_pick") fd := T.c.def_ 52 (d := d_l_pick) rfl
theorem F_l_zone (T : Tx K mg) : ∃ fd, FunD K "_law_zone" "_law_zone" (defArgs s_l_zone) (defBody s_l_zone) (defScope s_l_zone) [] [] (He.ga K "_law_zone") fd := T.c.def_ 53 (d := d_l_zone) rfl
theorem F_l_fixed (T : Tx K mg) : ∃ fd, FunD K "_law_fixed" "_law_fixed" (defArgs s_l_fixed) (defBody s_l_fixed) (defScope s_l_fixed) [] [] (He.ga K "_law_fixed") fd := T.c.def_ 54 (d := d_l_fixed) rfl
theorem F_l_above (T : Tx K mg) : ∃ fd, FunD K "_law_above" "_law_above" (defArgs s_l_above) (defBody s_l_above) (defScope s_l_above) [] [] (He.ga K "_law_above") fd := T.c.def_ 55 (d := d_l_above) rfl
theorem F_l_below (T : Tx K mg) : ∃ fd, FunD K "_law_below" "_law_below" (defArgs s_l_below) (defBody s_l_below) (defScope s_l_below) [] [] (He.ga K "_law_below") fd := T.c.def_ 56 (d := d_l_below) rfl
theorem F_l_none_behind (T : Tx K mg) : ∃ fd, FunD K "_law_none_behind" "_law_none_behind" (defArgs s_l_none_behind) (defBody s_l_none_behind) (defScope s_l_none_behind) [] [] (He.ga K "_law_none_behind") fd := T.c.def_ 57 (d := d_l_none_behind) rfl
theorem F_l_none_ahead (T : Tx K mg) : ∃ fd, FunD K "_law_none_ahead" "_law_none_ahead" (defArgs s_l_none_ahead) (defBody s_l_none_ahead) (defScope s_l_none_ahead) [] [] (He.ga K "_law_none_ahead") fd := T.c.def_ 58 (d := d_l_none_ahead) rfl
theorem F_l_next_right (T : Tx K mg) : ∃ fd, FunD K "_law_next_right" "_law_next_right" (defArgs s_l_next_right) (defBody s_l_next_right) (defScope s_l_next_right) [] [] (He.ga K "_law_next_right") fd := T.c.def_ 59 (d := d_l_next_right) rfl
theorem F_l_first (T : Tx K mg) : ∃ fd, FunD K "_law_first" "_law_first" (defArgs s_l_first) (defBody s_l_first) (defScope s_l_first) [] [] (He.ga K "_law_first") fd := T.c.def_ 60 (d := d_l_first) rfl
theorem F_l_rows_right (T : Tx K mg) : ∃ fd, FunD K "_law_rows_right" "_law_rows_right" (defArgs s_l_rows_right) (defBody s_l_rows_right) (defScope s_l_rows_right) [] [] (He.ga K "_law_rows_right") fd := T.c.def_ 61 (d := d_l_rows_right) rfl
theorem F_law (T : Tx K mg) : ∃ fd, FunD K "law" "law" (defArgs s_law) (defBody s_law) (defScope s_law) [] [] (He.ga K "law") fd := T.c.def_ 62 (d := d_law) rfl
def jqClasses : List String := ["Words", "Row", "Ring", "Chain", "Zone"]
end
end K05

set_option Elab.async false
set_option linter.all false
set_option maxRecDepth 100000
set_option maxHeartbeats 0
namespace K05
open PySem PySem.Spec PyProof.Rows L2 JQ
abbrev R : PySem.W.OpenRow := PySem.W.OpenLaw.row PySem.Challenge.rw_jumblepost_k05_whole_placings_come_one_b
abbrev hk : PySem.W.Hook := He.hookX 6 fa fn [] [] more
def ob (s : PySem.W.SharedT) : He.AlX := He.obsX 6 fa fn [] [] more (HandSHeadRun.getT s)
theorem ob_eq (s : PySem.W.SharedT) : ob s = hk.obs s.abs := He.obsX_eq (HandSHeadRun.getT_eq s)
def loose : List PySem.Str := (["PostError", "BadValue", "BadRow", "NoPlacing", "BadText", "DIGITS", "MOST_DIGITS", "is_integer", "is_between", "is_series", "are_integers", "integer_of", "Words", "MOST_POINT"] : List PySem.Str) ++ (["LEAST_MOST", "MOST_MOST", "read_point", "Row", "MOST_POINTS", "MOST_WIDTH", "Ring", "Chain", "is_row_below", "without_repeats", "walls_of", "narrowed", "gaps_of", "lowest_of"] : List PySem.Str) ++ (["highest_of", "least_from", "placing_behind", "last_rows", "rows_back", "Zone", "look_placing", "_law_pen", "_law_draw", "_law_pick", "_law_zone", "_law_fixed", "_law_above", "_law_below"] : List PySem.Str) ++ (["_law_none_behind", "_law_none_ahead", "_law_next_right", "_law_first", "_law_rows_right"] : List PySem.Str)
theorem map_two {σ α β : Type} {o : Option σ} {f : σ → α} {g : σ → β} {a : α} {b : β} (h1 : o.map f = some a) (h2 : o.map g = some b) : o.map (fun s => (f s, g s)) = some (a, b) := by
  cases o with
  | none => cases h1
  | some s =>
    cases h1
    cases h2
    rfl
theorem map_and {σ : Type} {o : Option σ} {f g : σ → Bool} (h1 : o.map f = some true) (h2 : o.map g = some true) : o.map (fun s => f s && g s) = some true := by
  cases o with
  | none => cases h1
  | some s =>
    have e1 : f s = true := Option.some.inj h1
    have e2 : g s = true := Option.some.inj h2
    show some (f s && g s) = some true
    rw [e1, e2]
    rfl
theorem map_nil {σ α β : Type} {o : Option σ} {f : σ → α} {a : α} (h1 : o.map f = some a) : o.map (fun _ => ([] : List β)) = some [] := by
  cases o with
  | none => cases h1
  | some s => rfl
open HandSHeadRun in
abbrev qV : PySem.Program := PySem.W.view R.prog [53]
open HandSHeadRun in
noncomputable abbrev rO (w : World) (os : OsState) : Option PySem.W.SharedT := endF (stepQ (denQ tabQ) R.prog w) 6000 R.prog w os
abbrev frO (s : PySem.W.SharedT) : PySem.W.Frag := He.frT (HandSHeadRun.getT s) (He.asD (HandSHeadRun.getT s) 6)
open HandSHeadRun PySem.W in
theorem run1 (w : World) (os : OsState) : (rO w os).map (fun s => looksF R.prog (boot_heap w.params) s.abs) = some true := by kernel_rfl
open HandSHeadRun PySem.W in
theorem run2 (w : World) (os : OsState) : (rO w os).map (fun s => seenQ qV loose (importedModules R.prog.main.body) (fun s => xlAt qV [] s && recOk R.toRowW.records s) s.abs) = some (openGood qV loose) := by kernel_rfl
theorem run3 (w : World) (os : OsState) : (rO w os).map (fun s => fa.all fun f => f.ok (frO s)) = some true := by kernel_rfl
theorem run3b (w : World) (os : OsState) : (rO w os).map (fun s => fn.all fun d => d.ok (frO s)) = some true := by kernel_rfl
theorem run4 (w : World) (os : OsState) : (rO w os).map (fun s => fn.map fun d => He.fnW (frO s) d.at_) = some (fn.map He.DefD.val) := by kernel_rfl
theorem run5 (w : World) (os : OsState) : (rO w os).map (fun s => more (frO s) && He.tabsB (HandSHeadRun.getT s) [] (frO s)) = some true := by kernel_rfl
theorem run (w : World) : HandSHeadRun.RunEq R qV hk ob 6000 loose w := by
  intro os
  exact map_two (run1 w os) (map_two (run2 w os) (map_two (map_two (map_two (map_and (run3 w os) (run3b w os)) (run4 w os)) (map_nil (run1 w os))) (run5 w os)))
end K05

set_option Elab.async false
set_option linter.all false
set_option maxRecDepth 100000
set_option maxHeartbeats 1000000
namespace K05
open PySem PySem.Spec PyProof.Rows L2 JQ
local macro_rules | `(tactic| fail) => `(tactic| first | refine o_add ?_ | refine o_sub ?_ | refine o_lt ?_ | refine o_le ?_ | refine o_gt ?_ | refine o_ge ?_ | refine o_eqI ?_ | refine o_neI ?_)
local macro_rules | `(tactic| fail) => `(tactic| first | refine wa_cons ?_ | refine wa_nil ?_ | refine wk_cons ?_ | refine wk_nil ?_)
local macro_rules | `(tactic| fail) => `(tactic| first | refine wt_cmp ?_ | refine wt_chain ?_ | refine wt_not ?_ | refine wt_and2 ?_ | refine wt_or2 ?_)
local macro_rules | `(tactic| fail) => `(tactic| first | refine we_int ?_ | refine we_str ?_ | refine we_bl ?_ | refine we_non ?_ | refine we_tup ?_ | refine we_bin ?_ | refine we_cmp ?_ | refine we_chain ?_ | refine we_not ?_ | refine we_un ?_ | refine we_and ?_ | refine we_or ?_ | refine we_one ?_ | refine we_ifx ?_)
local macro_rules | `(tactic| fail) => `(tactic| first | refine we_var 0 (by rfl) ?_ | refine we_var 1 (by rfl) ?_ | refine we_var 2 (by rfl) ?_ | refine we_var 3 (by rfl) ?_ | refine we_var 4 (by rfl) ?_ | refine we_var 5 (by rfl) ?_ | refine we_var 6 (by rfl) ?_ | refine we_var 7 (by rfl) ?_ | refine we_var 8 (by rfl) ?_ | refine we_var 9 (by rfl) ?_ | refine we_var 10 (by rfl) ?_ | refine we_var 11 (by rfl) ?_)
local macro_rules | `(tactic| fail) => `(tactic| first | refine ws_ret ?_ | refine ws_retN ?_ | refine ws_if ?_ | refine ws_expr ?_ | refine ws_set 0 (by assumption) ?_ | refine ws_set 1 (by assumption) ?_ | refine ws_set 2 (by assumption) ?_ | refine ws_set 3 (by assumption) ?_ | refine ws_set 4 (by assumption) ?_ | refine ws_set 5 (by assumption) ?_ | refine ws_set 6 (by assumption) ?_ | refine ws_set 7 (by assumption) ?_ | refine ws_set 8 (by assumption) ?_ | refine ws_set 9 (by assumption) ?_ | refine ws_set 10 (by assumption) ?_ | refine ws_set 11 (by assumption) ?_)
local macro_rules | `(tactic| fail) => `(tactic| first | refine wss_cons ?_ | refine wss_nil ?_)
section
variable {P : Program} {w : World} {K : PySem.W.Frag} {mg : Str → Option Value} {base : Heap}
/-! ### common -/
theorem btw_of {i a b : Int} (h : a ≤ i) : decide (i ≤ b) = decide (a ≤ i ∧ i ≤ b) := by
  by_cases c : i ≤ b <;> simp [c, h]
def btw (d : D) (a b : Int) : Bool := match d with
  | .int i => decide (a ≤ i ∧ i ≤ b)
  | _ => false
def SInt : Sd := fun ds M P _ => ∃ d, ds = [d] ∧ known d = true ∧ P (.bl (isInt d)) M
def SBtw : Sd := fun ds M P _ => ∃ d a b, ds = [d, .int a, .int b] ∧ known d = true ∧ P (.bl (btw d a b)) M
theorem sc_is_integer : FnScope ["value"] ["value"] (defScope s_is_integer) := ⟨rfl, rfl, rfl, by decide +kernel, rfl, by decide +kernel, by decide +kernel⟩
theorem sc_is_between : FnScope ["value", "least", "most"] ["value", "least", "most"] (defScope s_is_between) := ⟨rfl, rfl, rfl, by decide +kernel, rfl, by decide +kernel, by decide +kernel⟩
theorem len_SInt : ∀ ds M P EE, SInt ds M P EE → ds.length = 1 := fun ds M P EE ⟨d, e, _⟩ => by rw [e]; rfl
theorem len_SBtw : ∀ ds M P EE, SBtw ds M P EE → ds.length = 3 := fun ds M P EE ⟨d, a, b, e, _⟩ => by rw [e]; rfl
theorem kf_is_integer (T : Tx K mg) : KF P w K mg base 1 "is_integer" 1 [] SInt := by
  obtain ⟨fd, F⟩ := F_is_integer T
  refine ⟨_, fd, ["value"], ?_, bndD F 1 [] (fun _ _ _ _ _ _ us ws h1 h2 => match us, ws, h1, h2 with | [_], [], _, _ => rfl), g_is_integer T, F.kp⟩
  refine fnDD F sc_is_integer len_SInt fun cdv A outer s H E hg hr ds M Pd EE ⟨d, e, kn, q⟩ => ?_
  subst e
  have f1 := free_isinstance T
  fail; fail; fail
  refine we_callB (id := "isinstance") ?_ f1
  repeat fail
  refine we_bty (n := "int") (free_int T) (by decide +kernel) ?_
  fail
  refine c_isi (.ty "int") (known_ty kn) (kit_int kn) ?_
  refine ⟨_, rfl, iteB (fun h => ?_) fun h => ?_⟩
  · fail; fail
    refine we_callB (id := "isinstance") ?_ f1
    repeat fail
    refine we_bty (n := "bool") (free_bool T) (by decide +kernel) ?_
    fail
    refine c_isi (.ty "bool") (known_ty kn) (kit_bool kn) ?_
    refine ⟨_, rfl, ?_⟩
    cases d <;> first | exact q | cases h
  · cases d <;> first | exact q | cases h
theorem kf_is_between (T : Tx K mg) : KF P w K mg base 2 "is_between" 3 [] SBtw := by
  obtain ⟨fd, F⟩ := F_is_between T
  refine ⟨_, fd, ["value", "least", "most"], ?_, bndD F 3 [] (fun _ _ _ _ _ _ us ws h1 h2 => match us, ws, h1, h2 with | [_, _, _], [], _, _ => rfl), g_is_between T, F.kp⟩
  refine fnDD F sc_is_between len_SBtw fun cdv A outer s H E hg hr ds M Pd EE ⟨d, a, b, e, kn, q⟩ => ?_
  subst e
  fail; fail; fail
  refine we_fn (kf_is_integer T) hg hr ?_ rfl (hlen := len_SInt)
  fail; fail; fail
  refine ⟨d, rfl, kn, _, rfl, iteB (fun h => ?_) fun h => ?_⟩
  · cases d with
    | int i =>
      repeat fail
      refine ⟨_, rfl, iteB (fun h1 => ?_) fun h1 => ?_⟩
      · fail; fail
        rw [btw_of (of_decide_eq_true h1)]
        exact q
      · have e : btw (.int i) a b = false := by
          have := of_decide_eq_false h1
          simp [btw, this]
        rw [e] at q
        exact q
    | _ => cases h
  · have e : btw d a b = false := by cases d <;> first | rfl | cases h
    rw [e] at q
    exact q
end
end K05

set_option Elab.async false
set_option linter.all false
set_option maxRecDepth 100000
set_option maxHeartbeats 1000000
namespace K05
open PySem PySem.Spec PyProof.Rows L2 JQ
local macro_rules | `(tactic| fail) => `(tactic| first | refine o_add ?_ | refine o_sub ?_ | refine o_lt ?_ | refine o_le ?_ | refine o_gt ?_ | refine o_ge ?_ | refine o_eqI ?_ | refine o_neI ?_)
local macro_rules | `(tactic| fail) => `(tactic| first | refine wa_cons ?_ | refine wa_nil ?_ | refine wk_cons ?_ | refine wk_nil ?_)
local macro_rules | `(tactic| fail) => `(tactic| first | refine wt_cmp ?_ | refine wt_chain ?_ | refine wt_not ?_ | refine wt_and2 ?_ | refine wt_or2 ?_)
local macro_rules | `(tactic| fail) => `(tactic| first | refine we_int ?_ | refine we_str ?_ | refine we_bl ?_ | refine we_non ?_ | refine we_tup ?_ | refine we_bin ?_ | refine we_cmp ?_ | refine we_chain ?_ | refine we_not ?_ | refine we_un ?_ | refine we_and ?_ | refine we_or ?_ | refine we_one ?_ | refine we_ifx ?_)
local macro_rules | `(tactic| fail) => `(tactic| first | refine we_var 0 (by rfl) ?_ | refine we_var 1 (by rfl) ?_ | refine we_var 2 (by rfl) ?_ | refine we_var 3 (by rfl) ?_ | refine we_var 4 (by rfl) ?_ | refine we_var 5 (by rfl) ?_ | refine we_var 6 (by rfl) ?_ | refine we_var 7 (by rfl) ?_ | refine we_var 8 (by rfl) ?_ | refine we_var 9 (by rfl) ?_ | refine we_var 10 (by rfl) ?_ | refine we_var 11 (by rfl) ?_)
local macro_rules | `(tactic| fail) => `(tactic| first | refine ws_ret ?_ | refine ws_retN ?_ | refine ws_if ?_ | refine ws_expr ?_ | refine ws_set 0 (by assumption) ?_ | refine ws_set 1 (by assumption) ?_ | refine ws_set 2 (by assumption) ?_ | refine ws_set 3 (by assumption) ?_ | refine ws_set 4 (by assumption) ?_ | refine ws_set 5 (by assumption) ?_ | refine ws_set 6 (by assumption) ?_ | refine ws_set 7 (by assumption) ?_ | refine ws_set 8 (by assumption) ?_ | refine ws_set 9 (by assumption) ?_ | refine ws_set 10 (by assumption) ?_ | refine ws_set 11 (by assumption) ?_)
local macro_rules | `(tactic| fail) => `(tactic| first | refine wss_cons ?_ | refine wss_nil ?_)
section
variable {P : Program} {w : World} {K : PySem.W.Frag} {mg : Str → Option Value} {base : Heap}
/-! ### rows -/
theorem btw_ok {i a b : Int} (h : a ≤ i ∧ i ≤ b) : btw (.int i) a b = true := decide_eq_true h
abbrev cRow (K : PySem.W.Frag) : Addr := He.ga K "Row"
def rfs (a b m : Int) : List (Str × D) := [("one", .int a), ("other", .int b), ("most", .int m)]
abbrev rowD (K : PySem.W.Frag) (a b m : Int) : D := .obj (cRow K) (rfs a b m)
def SRow (K : PySem.W.Frag) : Sd := fun ds M P _ => ∃ x a b m, ds = [.rf x, .int a, .int b, .int m] ∧ M x = some (.ins (cRow K) []) ∧ 0 ≤ a ∧ a ≤ 11 ∧ 0 ≤ b ∧ b ≤ 11 ∧ a ≠ b ∧ -1000000 ≤ m ∧ m ≤ 999999 ∧ P .non (mup M x (.ins (cRow K) (rfs a b m)))
theorem len_SRow : ∀ ds M P EE, SRow K ds M P EE → ds.length = 4 := fun ds M P EE ⟨_, _, _, _, e, _⟩ => by rw [e]; rfl
theorem sc_Row_init : FnScope ["self", "one", "other", "most"] ["self", "one", "other", "most"] (defScope s_Row_init) := ⟨rfl, rfl, rfl, by decide +kernel, rfl, by decide +kernel, by decide +kernel⟩
theorem kc_Row (T : Tx K mg) : KC P w K mg base 3 "Row" (cRow K) 3 [] (SRow K) := by
  obtain ⟨fd, F⟩ := F_Row_init T
  refine ⟨_, fd, ["self", "one", "other", "most"], ?_, bndD F 4 [] (fun _ _ _ _ _ _ us ws h1 h2 => match us, ws, h1, h2 with | [_, _, _, _], [], _, _ => rfl), mk_Row T, g_Row T⟩
  refine fnDD F sc_Row_init len_SRow fun cdv A outer s H E hg hr ds M Pd EE ⟨x, a, b, m, e, em, ha0, ha1, hb0, hb1, hab, hm0, hm1, q⟩ => ?_
  subst e
  obtain ⟨t1, gp⟩ := int_MOST_POINT T
  obtain ⟨t2, gl⟩ := int_LEAST_MOST T
  obtain ⟨t3, gm⟩ := int_MOST_MOST T
  have cl := cls_Row T
  fail; fail
  refine wt_not (wt_val ?_)
  refine we_fn (kf_is_between T) hg (hr.mono (by decide)) ?_ rfl (hlen := len_SBtw)
  repeat fail
  refine we_gint gp ?_
  fail
  refine ⟨.int a, _, _, rfl, rfl, _, rfl, iteB (fun h => ?_) fun _ => ?_⟩
  · rw [btw_ok ⟨ha0, ha1⟩] at h; cases h
  fail; fail; fail; fail
  refine wt_not (wt_val ?_)
  refine we_fn (kf_is_between T) hg (hr.mono (by decide)) ?_ rfl (hlen := len_SBtw)
  repeat fail
  refine we_gint gp ?_
  fail
  refine ⟨.int b, _, _, rfl, rfl, _, rfl, iteB (fun h => ?_) fun _ => ?_⟩
  · rw [btw_ok ⟨hb0, hb1⟩] at h; cases h
  repeat fail
  refine ⟨_, rfl, iteB (fun h => ?_) fun _ => ?_⟩
  · exact absurd (of_decide_eq_true h).symm hab
  fail; fail; fail
  refine wt_not (wt_val ?_)
  refine we_fn (kf_is_between T) hg (hr.mono (by decide)) ?_ rfl (hlen := len_SBtw)
  fail; fail; fail
  refine we_gint gl ?_
  fail
  refine we_gint gm ?_
  fail
  refine ⟨.int m, _, _, rfl, rfl, _, rfl, iteB (fun h => ?_) fun _ => ?_⟩
  · rw [btw_ok ⟨hm0, hm1⟩] at h; cases h
  fail; fail
  refine ws_fld ?_
  fail; fail
  refine ⟨x, _, [], rfl, em, cl, no_Row_one T, by decide, ?_⟩
  fail
  refine ws_fld ?_
  fail; fail
  refine ⟨x, _, _, rfl, mup_same, cl, no_Row_other T, of_decide_eq_true rfl, ?_⟩
  fail
  refine ws_fld ?_
  fail; fail
  refine ⟨x, _, _, rfl, mup_same, cl, no_Row_most T, of_decide_eq_true rfl, ?_⟩
  fail
  rw [mup_mup, mup_mup]
  exact q
end
end K05

set_option Elab.async false
set_option linter.all false
set_option maxRecDepth 100000
set_option maxHeartbeats 1000000
namespace K05
open PySem PySem.Spec PyProof.Rows L2 JQ
local macro_rules | `(tactic| fail) => `(tactic| first | refine o_add ?_ | refine o_sub ?_ | refine o_lt ?_ | refine o_le ?_ | refine o_gt ?_ | refine o_ge ?_ | refine o_eqI ?_ | refine o_neI ?_)
local macro_rules | `(tactic| fail) => `(tactic| first | refine wa_cons ?_ | refine wa_nil ?_ | refine wk_cons ?_ | refine wk_nil ?_)
local macro_rules | `(tactic| fail) => `(tactic| first | refine wt_cmp ?_ | refine wt_chain ?_ | refine wt_not ?_ | refine wt_and2 ?_ | refine wt_or2 ?_)
local macro_rules | `(tactic| fail) => `(tactic| first | refine we_int ?_ | refine we_str ?_ | refine we_bl ?_ | refine we_non ?_ | refine we_tup ?_ | refine we_bin ?_ | refine we_cmp ?_ | refine we_chain ?_ | refine we_not ?_ | refine we_un ?_ | refine we_and ?_ | refine we_or ?_ | refine we_one ?_ | refine we_ifx ?_)
local macro_rules | `(tactic| fail) => `(tactic| first | refine we_var 0 (by rfl) ?_ | refine we_var 1 (by rfl) ?_ | refine we_var 2 (by rfl) ?_ | refine we_var 3 (by rfl) ?_ | refine we_var 4 (by rfl) ?_ | refine we_var 5 (by rfl) ?_ | refine we_var 6 (by rfl) ?_ | refine we_var 7 (by rfl) ?_ | refine we_var 8 (by rfl) ?_ | refine we_var 9 (by rfl) ?_ | refine we_var 10 (by rfl) ?_ | refine we_var 11 (by rfl) ?_)
local macro_rules | `(tactic| fail) => `(tactic| first | refine ws_ret ?_ | refine ws_retN ?_ | refine ws_if ?_ | refine ws_expr ?_ | refine ws_set 0 (by assumption) ?_ | refine ws_set 1 (by assumption) ?_ | refine ws_set 2 (by assumption) ?_ | refine ws_set 3 (by assumption) ?_ | refine ws_set 4 (by assumption) ?_ | refine ws_set 5 (by assumption) ?_ | refine ws_set 6 (by assumption) ?_ | refine ws_set 7 (by assumption) ?_ | refine ws_set 8 (by assumption) ?_ | refine ws_set 9 (by assumption) ?_ | refine ws_set 10 (by assumption) ?_ | refine ws_set 11 (by assumption) ?_)
local macro_rules | `(tactic| fail) => `(tactic| first | refine wss_cons ?_ | refine wss_nil ?_)
section
variable {P : Program} {w : World} {K : PySem.W.Frag} {mg : Str → Option Value} {base : Heap}
/-! ### the pen -/
abbrev pen (cells : List Int) (at_ great sp : Int) : MO := .lst [.lst (cells.map D.int), .int at_, .int great, .int sp]
def SPen : Sd := fun ds M P _ => ∃ ns : List Int, ds = [.scr (ns.map D.int)] ∧ ns.length ≤ 63 ∧ ∀ p sp, M p = none → 0 ≤ sp → sp < 1000003 → P (.rf p) (mup M p (pen ns 0 0 sp))
theorem len_SPen : ∀ ds M P EE, SPen ds M P EE → ds.length = 1 := fun ds M P EE ⟨ns, e, _⟩ => by rw [e]; rfl
theorem sc_l_pen : FnScope ["_law_script"] ["_law_script"] (defScope s_l_pen) := ⟨rfl, rfl, rfl, by decide +kernel, rfl, by decide +kernel, by decide +kernel⟩
theorem cut_63 {α : Type} {xs : List α} (h : xs.length ≤ 63) : cutL xs none (some 63) = xs := by
  have e1 : HT.sIx xs.length 0 none = 0 := rfl
  have e2 : HT.sIx xs.length xs.length (some 63) = xs.length := by unfold HT.sIx; simp; omega
  unfold cutL
  rw [e1, e2]
  simp
theorem cut_map {α β : Type} (f : α → β) (xs : List α) (lo hi : Option Int) : cutL (xs.map f) lo hi = (cutL xs lo hi).map f := by
  unfold cutL
  rw [List.length_map, List.map_take, List.map_drop]
theorem kf_pen (T : Tx K mg) : KF P w K mg base 1 "_law_pen" 1 [] SPen := by
  obtain ⟨fd, F⟩ := F_l_pen T
  refine ⟨_, fd, ["_law_script"], ?_, bndD F 1 [] (fun _ _ _ _ _ _ us ws h1 h2 => match us, ws, h1, h2 with | [_], [], _, _ => rfl), g_l_pen T, F.kp⟩
  refine fnDD F sc_l_pen len_SPen fun cdv A outer s H E hg hr ds M Pd EE ⟨ns, e, hl, q⟩ => ?_
  subst e
  repeat fail
  refine we_lst ?_
  repeat fail
  refine we_callTy (T := "list") ?_ (free_list T)
  repeat fail
  refine we_slS ?_
  repeat fail
  refine wo_no (wo_some ?_)
  repeat fail
  refine ⟨63, rfl, _, rfl, .inl ?_⟩
  rw [cut_63 (by rw [List.length_map]; exact hl)]
  repeat fail
  refine c_lst .lst (.inl ?_)
  repeat fail
  refine we_callB (id := "sum") ?_ (free_sum T)
  repeat fail
  refine we_slS ?_
  repeat fail
  refine wo_no (wo_some ?_)
  repeat fail
  refine ⟨1, rfl, _, rfl, .inl ?_⟩
  rw [cut_map]
  repeat fail
  refine c_sum rfl rfl ?_
  repeat fail
  refine o_mod (by decide) ?_
  repeat fail
  exact ⟨(by decide : 4 ≤ sizeLine), .inr fun p hp => q p _ hp (Int.emod_nonneg _ (by decide)) (Int.emod_lt_of_pos _ (by decide))⟩
def SDraw : Sd := fun ds M P _ => ∃ p cells at_ great sp n, ds = [.rf p, .int n] ∧ M p = some (pen cells at_ great sp) ∧ cells.length ≤ 63 ∧ 0 ≤ at_ ∧ at_ < 1000000 ∧ 0 ≤ sp ∧ sp < 1000003 ∧ 0 < n ∧ n < 2 ^ 200 ∧ ∀ k at' great', 0 ≤ k → k < n → at_ ≤ at' → at' ≤ at_ + 1 → P (.int k) (mup M p (pen cells at' great' sp))
theorem len_SDraw : ∀ ds M P EE, SDraw ds M P EE → ds.length = 2 := fun ds M P EE ⟨p, c, a, g, sp, n, e, _⟩ => by rw [e]; rfl
theorem sc_l_draw : FnScope ["_law_pen_here", "_law_many", "_law_digit", "_law_spot", "_law_cell", "_law_great", "_law_mixed"] ["_law_pen_here", "_law_many"] (defScope s_l_draw) := ⟨rfl, rfl, rfl, by decide +kernel, rfl, by decide +kernel, by decide +kernel⟩
theorem divW {n : Int} (i : Int) (h0 : 0 < n) (h : n < 2 ^ 200) : CDivW i n := wide_div (b := 200) h0 (by omega) (by decide) (by decide)
theorem kf_draw (T : Tx K mg) : KF P w K mg base 2 "_law_draw" 2 [] SDraw := by
  obtain ⟨fd, F⟩ := F_l_draw T
  refine ⟨_, fd, ["_law_pen_here", "_law_many"], ?_, bndD F 2 [] (fun _ _ _ _ _ _ us ws h1 h2 => match us, ws, h1, h2 with | [_, _], [], _, _ => rfl), g_l_draw T, F.kp⟩
  refine fnDD F sc_l_draw len_SDraw fun cdv A outer s H E hg hr ds M Pd EE ⟨p, cells, at_, great, sp, n, e, em, hc, ha0, ha1, hs0, hs1, hn0, hn1, q⟩ => ?_
  subst e
  have nd := sc_l_draw.nd
  have fi := free_int T
  have m0' : ∀ x : Int, 0 ≤ x % n := fun x => Int.emod_nonneg x (by omega)
  have m1' : ∀ x : Int, x % n < n := fun x => Int.emod_lt_of_pos x hn0
  repeat fail
  refine we_ix ?_
  repeat fail
  refine ⟨2, .int great, rfl, ⟨_, em, rfl⟩, ?_⟩
  repeat fail
  refine ⟨_, rfl, iteB (fun h => ?_) fun h => ?_⟩
  · fail; fail; fail
    refine we_callTy (T := "int") ?_ fi
    repeat fail
    refine we_ix ?_
    repeat fail
    refine ⟨2, .int great, rfl, ⟨_, em, rfl⟩, ?_⟩
    repeat fail
    refine c_int ?_
    repeat fail
    refine o_mod hn0 ?_
    repeat fail
    refine ws_asg (T := []) ?_
    repeat fail
    refine we_callTy (T := "int") ?_ fi
    repeat fail
    refine we_ix ?_
    repeat fail
    refine ⟨2, .int great, rfl, ⟨_, em, rfl⟩, ?_⟩
    repeat fail
    refine c_int ?_
    repeat fail
    refine o_fdivW (divW _ hn0 hn1) ?_
    refine wg_ix ?_
    repeat fail
    refine ⟨p, _, 2, 2, rfl, rfl, em, rfl, ?_⟩
    repeat fail
    exact q _ _ _ (m0' _) (m1' _) (by omega) (by omega)
  · have em1 : mup M p (pen cells (at_ + 1) great sp) p = some (pen cells (at_ + 1) great sp) := mup_same
    have rest : ∀ cell : Int, WSs (bdOf P w K mg base ["_law_pen_here", "_law_many", "_law_digit", "_law_spot", "_law_cell", "_law_great", "_law_mixed"] "_law_draw" (defScope s_l_draw) (He.ga K "_law_draw") cdv A outer s H E EE) ((defBody s_l_draw).drop 5)
        (((startS ["_law_pen_here", "_law_many", "_law_digit", "_law_spot", "_law_cell", "_law_great", "_law_mixed"] [.rf p, .int n]).set 3 (some (.int at_))).set 4 (some (.int cell))) (mup M p (pen cells (at_ + 1) great sp)) { nx := fun _ => Pd .non, rt := Pd } := fun cell => by
      repeat fail
      refine we_callB (id := "len") ?_ (free_len T)
      repeat fail
      refine we_ix ?_
      repeat fail
      refine ⟨0, .lst (cells.map D.int), rfl, ⟨_, em1, rfl⟩, ?_⟩
      repeat fail
      refine c_len .lst ?_
      repeat fail
      refine ⟨_, rfl, ?_⟩
      -- the last three rows
      have mix : WSs (bdOf P w K mg base ["_law_pen_here", "_law_many", "_law_digit", "_law_spot", "_law_cell", "_law_great", "_law_mixed"] "_law_draw" (defScope s_l_draw) (He.ga K "_law_draw") cdv A outer s H E EE) ((defBody s_l_draw).drop 6)
          (((startS ["_law_pen_here", "_law_many", "_law_digit", "_law_spot", "_law_cell", "_law_great", "_law_mixed"] [.rf p, .int n]).set 3 (some (.int at_))).set 4 (some (.int cell))) (mup M p (pen cells (at_ + 1) great sp)) { nx := fun _ => Pd .non, rt := Pd } := by
        have c0 : 0 ≤ cell % 2147483563 := Int.emod_nonneg _ (by decide)
        have c1 : cell % 2147483563 < 2147483563 := Int.emod_lt_of_pos _ (by decide)
        repeat fail
        refine we_callTy (T := "int") ?_ fi
        repeat fail
        refine we_callTy (T := "int") ?_ fi
        repeat fail
        refine c_int ?_
        repeat fail
        refine o_mod (by decide) ?_
        repeat fail
        refine o_mul (.inl (by decide)) ?_
        repeat fail
        refine o_pow ⟨by decide, by decide, by omega⟩ ?_
        repeat fail
        refine c_int ?_
        repeat fail
        refine o_mod (by decide) ?_
        generalize hm1 : ((cell % 2147483563 + 70991 * at_ + 2909) ^ (5 : Int).toNat) % 2147483629 = mx
        have x0 : 0 ≤ mx := by rw [← hm1]; exact Int.emod_nonneg _ (by decide)
        have x1 : mx < 2147483629 := by rw [← hm1]; exact Int.emod_lt_of_pos _ (by decide)
        have b1 : mx * (2 * at_ + 613) ≤ 2147483629 * (2 * 1000000 + 613) := Int.mul_le_mul (by omega) (by omega) (by omega) (by omega)
        have b0 : 0 ≤ mx * (2 * at_ + 613) := Int.mul_nonneg x0 (by omega)
        have b2 : 69067 * at_ * at_ ≤ 69067 * 1000000 * 1000000 := Int.mul_le_mul (by omega) (by omega) (by omega) (by omega)
        have b3 : 0 ≤ 69067 * at_ * at_ := Int.mul_nonneg (by omega) ha0
        repeat fail
        refine we_callTy (T := "int") ?_ fi
        repeat fail
        refine o_mul (.inl (by decide)) ?_
        repeat fail
        refine o_mul (.inl (by omega)) ?_
        repeat fail
        refine o_mul (.inl (by decide)) ?_
        repeat fail
        refine o_mul (.inr (by omega)) ?_
        repeat fail
        refine o_pow ⟨by decide, by decide, by omega⟩ ?_
        repeat fail
        refine c_int ?_
        repeat fail
        refine o_mod (by decide) ?_
        repeat fail
        refine we_callTy (T := "int") ?_ fi
        repeat fail
        refine o_fdiv ⟨by decide, by decide⟩ ?_
        repeat fail
        refine c_int ?_
        repeat fail
        refine o_mod hn0 ?_
        exact q _ _ _ (m0' _) (m1' _) (by omega) (by omega)
      refine iteB (fun h1 => ?_) fun h1 => ?_
      · refine wt_cmp ?_
        refine we_callB (id := "abs") ?_ (free_abs T)
        repeat fail
        refine c_abs ?_
        repeat fail
        refine o_pow ⟨by decide, by decide, by decide⟩ ?_
        repeat fail
        refine ⟨_, rfl, iteB (fun h2 => ?_) fun h2 => ?_⟩
        · fail; fail; fail; fail; fail; fail
          refine we_callB (id := "abs") ?_ (free_abs T)
          repeat fail
          refine c_abs ?_
          repeat fail
          refine o_pow ⟨by decide, by decide, by decide⟩ ?_
          repeat fail
          refine o_mul (.inl (by decide)) ?_
          refine we_callTy (T := "int") ?_ fi
          repeat fail
          refine c_intB ?_
          repeat fail
          refine ws_asg (T := []) ?_
          repeat fail
          refine we_callTy (T := "int") ?_ fi
          repeat fail
          refine c_int ?_
          repeat fail
          refine o_fdivW (divW _ hn0 hn1) ?_
          refine wg_ix ?_
          repeat fail
          refine ⟨p, _, 2, 2, rfl, rfl, em1, rfl, ?_⟩
          repeat fail
          refine we_callTy (T := "int") ?_ fi
          repeat fail
          refine c_int ?_
          repeat fail
          refine o_mod hn0 ?_
          rw [mup_mup]
          exact q _ _ _ (m0' _) (m1' _) (by omega) (by omega)
        · fail
          exact mix
      · fail
        exact mix
    repeat fail
    refine we_ix ?_
    repeat fail
    refine ⟨1, .int at_, rfl, ⟨_, em, rfl⟩, ?_⟩
    repeat fail
    refine ws_asg (T := []) ?_
    repeat fail
    refine wg_ix ?_
    repeat fail
    refine ⟨p, _, 1, 1, rfl, rfl, em, rfl, ?_⟩
    repeat fail
    refine o_mul (.inl (by decide)) ?_
    repeat fail
    refine we_ix ?_
    repeat fail
    refine ⟨3, .int sp, rfl, ⟨_, mup_same, rfl⟩, ?_⟩
    repeat fail
    refine we_ix ?_
    repeat fail
    refine ⟨0, .lst (cells.map D.int), rfl, ⟨_, mup_same, rfl⟩, ?_⟩
    refine we_lst ?_
    repeat fail
    refine ⟨by decide, .inl ?_⟩
    refine o_neD (d := .lst (cells.map D.int)) (e := .lst []) hr.units (.self (plain_ints cells)) (.self rfl) (shaped_ints cells) rfl ?_
    refine ⟨_, rfl, iteB (fun h1 => ?_) fun h1 => ?_⟩
    · have hne : cells ≠ [] := fun z => by rw [z] at h1; cases h1
      have hpos : (0 : Int) < cells.length := by
        cases cells with
        | nil => exact absurd rfl hne
        | cons c cs => simp only [List.length_cons]; omega
      repeat fail
      refine we_ix ?_
      refine we_ix ?_
      repeat fail
      refine ⟨0, .lst (cells.map D.int), rfl, ⟨_, mup_same, rfl⟩, ?_⟩
      repeat fail
      refine we_callTy (T := "int") ?_ fi
      repeat fail
      refine c_int ?_
      refine we_callB (id := "len") ?_ (free_len T)
      repeat fail
      refine we_ix ?_
      repeat fail
      refine ⟨0, .lst (cells.map D.int), rfl, ⟨_, mup_same, rfl⟩, ?_⟩
      repeat fail
      refine c_len .lst ?_
      rw [List.length_map]
      refine o_mod hpos ?_
      have y0 : 0 ≤ at_ % (cells.length : Int) := Int.emod_nonneg _ (by omega)
      have y1 : at_ % (cells.length : Int) < cells.length := Int.emod_lt_of_pos _ hpos
      obtain ⟨j, hj⟩ : ∃ j : Nat, at_ % (cells.length : Int) = (j : Int) := ⟨(at_ % (cells.length : Int)).toNat, by omega⟩
      rw [hj] at y1 ⊢
      have hjl : j < cells.length := by omega
      refine ⟨j, .int cells[j], rfl, atI_of (by simp [hjl]), ?_⟩
      fail
      exact rest _
    · fail
      exact rest _
end
end K05

set_option Elab.async false
set_option linter.all false
set_option maxRecDepth 100000
set_option maxHeartbeats 1000000
namespace K05
open PySem PySem.Spec PyProof.Rows L2 JQ
local macro_rules | `(tactic| fail) => `(tactic| first | refine o_add ?_ | refine o_sub ?_ | refine o_lt ?_ | refine o_le ?_ | refine o_gt ?_ | refine o_ge ?_ | refine o_eqI ?_ | refine o_neI ?_)
local macro_rules | `(tactic| fail) => `(tactic| first | refine wa_cons ?_ | refine wa_nil ?_ | refine wk_cons ?_ | refine wk_nil ?_)
local macro_rules | `(tactic| fail) => `(tactic| first | refine wt_cmp ?_ | refine wt_chain ?_ | refine wt_not ?_ | refine wt_and2 ?_ | refine wt_or2 ?_)
local macro_rules | `(tactic| fail) => `(tactic| first | refine we_int ?_ | refine we_str ?_ | refine we_bl ?_ | refine we_non ?_ | refine we_tup ?_ | refine we_bin ?_ | refine we_cmp ?_ | refine we_chain ?_ | refine we_not ?_ | refine we_un ?_ | refine we_and ?_ | refine we_or ?_ | refine we_one ?_ | refine we_ifx ?_)
local macro_rules | `(tactic| fail) => `(tactic| first | refine we_var 0 (by rfl) ?_ | refine we_var 1 (by rfl) ?_ | refine we_var 2 (by rfl) ?_ | refine we_var 3 (by rfl) ?_ | refine we_var 4 (by rfl) ?_ | refine we_var 5 (by rfl) ?_ | refine we_var 6 (by rfl) ?_ | refine we_var 7 (by rfl) ?_ | refine we_var 8 (by rfl) ?_ | refine we_var 9 (by rfl) ?_ | refine we_var 10 (by rfl) ?_ | refine we_var 11 (by rfl) ?_)
local macro_rules | `(tactic| fail) => `(tactic| first | refine ws_ret ?_ | refine ws_retN ?_ | refine ws_if ?_ | refine ws_expr ?_ | refine ws_set 0 (by assumption) ?_ | refine ws_set 1 (by assumption) ?_ | refine ws_set 2 (by assumption) ?_ | refine ws_set 3 (by assumption) ?_ | refine ws_set 4 (by assumption) ?_ | refine ws_set 5 (by assumption) ?_ | refine ws_set 6 (by assumption) ?_ | refine ws_set 7 (by assumption) ?_ | refine ws_set 8 (by assumption) ?_ | refine ws_set 9 (by assumption) ?_ | refine ws_set 10 (by assumption) ?_ | refine ws_set 11 (by assumption) ?_)
local macro_rules | `(tactic| fail) => `(tactic| first | refine wss_cons ?_ | refine wss_nil ?_)
section
variable {P : Program} {w : World} {K : PySem.W.Frag} {mg : Str → Option Value} {base : Heap}
def SPick : Sd := fun ds M P _ => ∃ p cells at_ great sp xs, ds = [.rf p, .lst xs] ∧ M p = some (pen cells at_ great sp) ∧ cells.length ≤ 63 ∧ 0 ≤ at_ ∧ at_ < 1000000 ∧ 0 ≤ sp ∧ sp < 1000003 ∧ 0 < xs.length ∧ xs.length < 1000000 ∧ ∀ (i : Nat) d at' great', xs[i]? = some d → at_ ≤ at' → at' ≤ at_ + 1 → P d (mup M p (pen cells at' great' sp))
theorem len_SPick : ∀ ds M P EE, SPick ds M P EE → ds.length = 2 := fun ds M P EE ⟨p, c, a, g, sp, n, e, _⟩ => by rw [e]; rfl
theorem sc_l_pick : FnScope ["_law_pen_here", "_law_some"] ["_law_pen_here", "_law_some"] (defScope s_l_pick) := ⟨rfl, rfl, rfl, by decide +kernel, rfl, by decide +kernel, by decide +kernel⟩
theorem kf_pick (T : Tx K mg) : KF P w K mg base 3 "_law_pick" 2 [] SPick := by
  obtain ⟨fd, F⟩ := F_l_pick T
  refine ⟨_, fd, ["_law_pen_here", "_law_some"], ?_, bndD F 2 [] (fun _ _ _ _ _ _ us ws h1 h2 => match us, ws, h1, h2 with | [_, _], [], _, _ => rfl), g_l_pick T, F.kp⟩
  refine fnDD F sc_l_pick len_SPick fun cdv A outer s H E hg hr ds M Pd EE ⟨p, cells, at_, great, sp, xs, e, em, hc, ha0, ha1, hs0, hs1, hx0, hx1, q⟩ => ?_
  subst e
  repeat fail
  refine we_ix ?_
  repeat fail
  refine we_fn (kf_draw T) hg (hr.mono (by decide)) ?_ rfl (hlen := len_SDraw)
  repeat fail
  refine we_callB (id := "len") ?_ (free_len T)
  repeat fail
  refine c_len .lst ?_
  repeat fail
  refine ⟨p, cells, at_, great, sp, _, rfl, em, hc, ha0, ha1, hs0, hs1, by omega, by omega, fun k at' great' h0 h1 h2 h3 => ?_⟩
  obtain ⟨j, rfl⟩ : ∃ j : Nat, k = (j : Int) := ⟨k.toNat, by omega⟩
  have hj : j < xs.length := by omega
  refine ⟨j, xs[j], rfl, ?_, q j _ at' great' (by simp [hj]) h2 h3⟩
  exact atI_of (by simp [hj])
/-! ### rows as data -/
abbrev Rw := ZM.Rw
abbrev rD (K : PySem.W.Frag) (r : Rw) : D := rowD K r.one r.other r.most
def triD (r : Rw) : D := .tup [.int r.one, .int r.other, .int r.most]
end
end K05

set_option Elab.async false
set_option linter.all false
set_option maxRecDepth 100000
set_option maxHeartbeats 1000000
namespace K05
open PySem PySem.Spec PyProof.Rows L2 JQ
local macro_rules | `(tactic| fail) => `(tactic| first | refine o_add ?_ | refine o_sub ?_ | refine o_lt ?_ | refine o_le ?_ | refine o_gt ?_ | refine o_ge ?_ | refine o_eqI ?_ | refine o_neI ?_)
local macro_rules | `(tactic| fail) => `(tactic| first | refine wa_cons ?_ | refine wa_nil ?_ | refine wk_cons ?_ | refine wk_nil ?_)
local macro_rules | `(tactic| fail) => `(tactic| first | refine wt_cmp ?_ | refine wt_chain ?_ | refine wt_not ?_ | refine wt_and2 ?_ | refine wt_or2 ?_)
local macro_rules | `(tactic| fail) => `(tactic| first | refine we_int ?_ | refine we_str ?_ | refine we_bl ?_ | refine we_non ?_ | refine we_tup ?_ | refine we_bin ?_ | refine we_cmp ?_ | refine we_chain ?_ | refine we_not ?_ | refine we_un ?_ | refine we_and ?_ | refine we_or ?_ | refine we_one ?_ | refine we_ifx ?_)
local macro_rules | `(tactic| fail) => `(tactic| first | refine we_var 0 (by rfl) ?_ | refine we_var 1 (by rfl) ?_ | refine we_var 2 (by rfl) ?_ | refine we_var 3 (by rfl) ?_ | refine we_var 4 (by rfl) ?_ | refine we_var 5 (by rfl) ?_ | refine we_var 6 (by rfl) ?_ | refine we_var 7 (by rfl) ?_ | refine we_var 8 (by rfl) ?_ | refine we_var 9 (by rfl) ?_ | refine we_var 10 (by rfl) ?_ | refine we_var 11 (by rfl) ?_)
local macro_rules | `(tactic| fail) => `(tactic| first | refine ws_ret ?_ | refine ws_retN ?_ | refine ws_if ?_ | refine ws_expr ?_ | refine ws_set 0 (by assumption) ?_ | refine ws_set 1 (by assumption) ?_ | refine ws_set 2 (by assumption) ?_ | refine ws_set 3 (by assumption) ?_ | refine ws_set 4 (by assumption) ?_ | refine ws_set 5 (by assumption) ?_ | refine ws_set 6 (by assumption) ?_ | refine ws_set 7 (by assumption) ?_ | refine ws_set 8 (by assumption) ?_ | refine ws_set 9 (by assumption) ?_ | refine ws_set 10 (by assumption) ?_ | refine ws_set 11 (by assumption) ?_)
local macro_rules | `(tactic| fail) => `(tactic| first | refine wss_cons ?_ | refine wss_nil ?_)
section
variable {P : Program} {w : World} {K : PySem.W.Frag} {mg : Str → Option Value} {base : Heap}
/-! ### gaps as data -/
abbrev Gp := ZM.Gp
def gapRow (n : Nat) (g : Gp) (i : Nat) : D := .tup ((List.range n).map fun j => .int (g i j))
def gapD (n : Nat) (g : Gp) : D := .tup ((List.range n).map (gapRow n g))
abbrev narrow (g : Gp) (one other : Nat) (most : Int) : Gp := ZM.narrow g ⟨one, other, most⟩
theorem ix_range {α : Type} {f : Nat → α} {n i : Nat} (h : i < n) : ((List.range n).map f)[i]? = some (f i) := by
  rw [List.getElem?_map, List.getElem?_range h]
  rfl
def scO (b : List Stmt) : Scope := match b with
  | [_, _, _, .Return (some (.Call _ [.ListComp _ _ s _] _ _)) _] => s
  | _ => ⟨.function, [], false, false, []⟩
theorem get_range {α : Type} {f : Nat → α} {n i : Nat} {d : α} (h : ((List.range n).map f)[i]? = some d) : i < n ∧ d = f i := by
  rw [List.getElem?_map] at h
  by_cases c : i < n
  · rw [List.getElem?_range c] at h
    cases h
    exact ⟨c, rfl⟩
  · rw [List.getElem?_eq_none (by simpa using c)] at h
    cases h
theorem range_snoc {α : Type} {f : Nat → α} {i : Nat} : (List.range i).map f ++ [f i] = (List.range (i + 1)).map f := by
  rw [List.range_succ, List.map_append]
  rfl
theorem zip_range {f g : Nat → D} {n i : Nat} {d : D} (h : (zipD ((List.range n).map f) ((List.range n).map g))[i]? = some d) : i < n ∧ d = .tup [f i, g i] := by
  unfold zipD at h
  rw [List.length_map, List.length_map, List.length_range, Nat.min_self] at h
  obtain ⟨h1, h2⟩ := get_range h
  refine ⟨h1, h2.trans ?_⟩
  rw [getD_of (ix_range h1), getD_of (ix_range h1)]
theorem zip_len {f g : Nat → D} {n : Nat} : (zipD ((List.range n).map f) ((List.range n).map g)).length = n := by simp [zipD]
theorem min_of (a b : Int) : (if b < a then b else a) = min a b := by
  by_cases c : b < a
  · rw [if_pos c, Int.min_eq_right (by omega)]
  · rw [if_neg c, Int.min_eq_left (by omega)]
def SNar : Sd := fun ds M P _ => ∃ (n : Nat) (g : Gp) (one other : Nat) (most : Int), ds = [gapD n g, .int one, .int other, .int most] ∧ n ≤ 12 ∧ one < n ∧ other < n ∧ (g one other ≤ most → P (gapD n g) M) ∧ (¬ g one other ≤ most → g other one + most < 0 → P .non M) ∧ (¬ g one other ≤ most → ¬ g other one + most < 0 → P (gapD n (narrow g one other most)) M)
theorem len_SNar : ∀ ds M P EE, SNar ds M P EE → ds.length = 4 := fun ds M P EE ⟨_, _, _, _, _, e, _⟩ => by rw [e]; rfl
abbrev N_nar : List Str := ["gaps", "one", "other", "most", "behind", "row", "gap", "rest"]
theorem sc_narrowed : FnScope N_nar ["gaps", "one", "other", "most"] (defScope s_narrowed) := ⟨rfl, rfl, rfl, by decide +kernel, rfl, by decide +kernel, by decide +kernel⟩
theorem kf_narrowed (T : Tx K mg) : KF P w K mg base 1 "narrowed" 4 [] SNar := by
  obtain ⟨fd, F⟩ := F_narrowed T
  refine ⟨_, fd, ["gaps", "one", "other", "most"], ?_, bndD F 4 [] (fun _ _ _ _ _ _ us ws h1 h2 => match us, ws, h1, h2 with | [_, _, _, _], [], _, _ => rfl), g_narrowed T, F.kp⟩
  refine fnDD F sc_narrowed len_SNar fun cdv A outer s H E hg hr ds M Pd EE ⟨n, g, one, other, most, e, hn, h1, h2, q1, q2, q3⟩ => ?_
  subst e
  have nd := sc_narrowed.nd
  fail; fail; fail
  refine we_ix ?_
  refine we_ix ?_
  fail; fail
  refine ⟨one, gapRow n g one, rfl, atI_of (ix_range h1), ?_⟩
  fail
  refine ⟨other, .int (g one other), rfl, atI_of (ix_range h2), ?_⟩
  fail; fail
  refine ⟨_, rfl, iteB (fun c1 => ?_) fun c1 => ?_⟩
  · fail; fail; fail
    exact q1 (of_decide_eq_true c1)
  have d1 : ¬ g one other ≤ most := of_decide_eq_false c1
  fail; fail; fail; fail; fail
  refine we_ix ?_
  refine we_ix ?_
  fail; fail
  refine ⟨other, gapRow n g other, rfl, atI_of (ix_range h2), ?_⟩
  fail
  refine ⟨one, .int (g other one), rfl, atI_of (ix_range h1), ?_⟩
  fail; fail; fail; fail
  refine ⟨_, rfl, iteB (fun c2 => ?_) fun c2 => ?_⟩
  · fail; fail; fail
    exact q2 d1 (of_decide_eq_true c2)
  have q := q3 d1 (of_decide_eq_false c2)
  fail; fail; fail
  refine we_ix ?_
  fail; fail
  refine ⟨other, gapRow n g other, rfl, atI_of (ix_range h2), ?_⟩
  fail; fail
  refine we_callTy (T := "tuple") ?_ (free_tuple T)
  fail
  refine we_lc [("row", 5)] rfl nd (blkOk_by (N := N_nar) (sc := defScope s_narrowed) (by decide +kernel)) ?_
  refine wi_tup ?_
  fail
  refine ⟨_, rfl, ?_⟩
  refine ⟨by rw [List.length_map, List.length_range]; omega, fun i acc M' => acc = (List.range i).map (gapRow n (narrow g one other most)) ∧ M' = M, ⟨rfl, rfl⟩, fun _ _ _ _ => trivial, fun i d acc M' hd ac s H C cl fp => ⟨[5], by simp, ?_⟩, fun acc M' ac => .inl ?_⟩
  · obtain ⟨rfl, eM⟩ := ac
    rw [eM]
    obtain ⟨hi, rfl⟩ := get_range hd
    refine wg_name 5 nd ?_
    intro s H C cl fp
    refine wts_nil ?_
    refine iteB (fun _ => ?_) fun h => Bool.noConfusion h
    intro s H C cl fp
    refine we_callTy (T := "tuple") ?_ (free_tuple T)
    fail
    refine we_lc [("gap", 6), ("rest", 7)] rfl nd (blkOk_by (N := N_nar) (sc := L2.relS (scO (defBody s_narrowed)) (defScope s_narrowed)) (by decide +kernel)) ?_
    refine wi_zipT (free_zip T) ?_
    fail; fail; fail; fail; fail
    refine ⟨_, _, rfl, ?_⟩
    refine ⟨by rw [zip_len]; omega, fun j acc M' => acc = (List.range j).map (fun j => D.int (narrow g one other most i j)) ∧ M' = M, ⟨rfl, rfl⟩, fun _ _ _ _ => trivial, fun j d acc M' hd ac s H C cl fp => ⟨[6] ++ ([7] ++ []), by simp, ?_⟩, fun acc M' ac => .inl ?_⟩
    · obtain ⟨rfl, eM⟩ := ac
      rw [eM]
      obtain ⟨hj, rfl⟩ := zip_range hd
      refine wg_tup rfl (wgs_cons (wg_name 6 nd (wgs_cons (wg_name 7 nd (wgs_nil ?_)))))
      intro s H C cl fp
      refine wts_nil ?_
      refine iteB (fun _ => ?_) fun h => Bool.noConfusion h
      intro s H C cl fp
      refine we_callB (id := "min") ?_ (free_min T)
      fail; fail; fail; fail; fail
      refine we_ix ?_
      fail; fail
      refine ⟨one, .int (g i one), rfl, atI_of (ix_range h1), ?_⟩
      fail; fail; fail; fail; fail
      refine c_min2 rfl ?_
      refine ⟨?_, rfl⟩
      rw [min_of]
      exact range_snoc (f := fun j => D.int (narrow g one other most i j))
    · obtain ⟨rfl, eM⟩ := ac
      rw [zip_len, eM]
      fail
      refine c_tup .lst ?_
      exact ⟨range_snoc (f := gapRow n (narrow g one other most)), rfl⟩
  · obtain ⟨rfl, eM⟩ := ac
    rw [List.length_map, List.length_range, eM]
    fail
    refine c_tup .lst ?_
    exact q
end
end K05

set_option Elab.async false
set_option linter.all false
set_option maxRecDepth 100000
set_option maxHeartbeats 1000000
namespace K05
open PySem PySem.Spec PyProof.Rows L2 JQ
local macro_rules | `(tactic| fail) => `(tactic| first | refine o_add ?_ | refine o_sub ?_ | refine o_lt ?_ | refine o_le ?_ | refine o_gt ?_ | refine o_ge ?_ | refine o_eqI ?_ | refine o_neI ?_)
local macro_rules | `(tactic| fail) => `(tactic| first | refine wa_cons ?_ | refine wa_nil ?_ | refine wk_cons ?_ | refine wk_nil ?_)
local macro_rules | `(tactic| fail) => `(tactic| first | refine wt_cmp ?_ | refine wt_chain ?_ | refine wt_not ?_ | refine wt_and2 ?_ | refine wt_or2 ?_)
local macro_rules | `(tactic| fail) => `(tactic| first | refine we_int ?_ | refine we_str ?_ | refine we_bl ?_ | refine we_non ?_ | refine we_tup ?_ | refine we_bin ?_ | refine we_cmp ?_ | refine we_chain ?_ | refine we_not ?_ | refine we_un ?_ | refine we_and ?_ | refine we_or ?_ | refine we_one ?_ | refine we_ifx ?_)
local macro_rules | `(tactic| fail) => `(tactic| first | refine we_var 0 (by rfl) ?_ | refine we_var 1 (by rfl) ?_ | refine we_var 2 (by rfl) ?_ | refine we_var 3 (by rfl) ?_ | refine we_var 4 (by rfl) ?_ | refine we_var 5 (by rfl) ?_ | refine we_var 6 (by rfl) ?_ | refine we_var 7 (by rfl) ?_ | refine we_var 8 (by rfl) ?_ | refine we_var 9 (by rfl) ?_ | refine we_var 10 (by rfl) ?_ | refine we_var 11 (by rfl) ?_)
local macro_rules | `(tactic| fail) => `(tactic| first | refine ws_ret ?_ | refine ws_retN ?_ | refine ws_if ?_ | refine ws_expr ?_ | refine ws_set 0 (by assumption) ?_ | refine ws_set 1 (by assumption) ?_ | refine ws_set 2 (by assumption) ?_ | refine ws_set 3 (by assumption) ?_ | refine ws_set 4 (by assumption) ?_ | refine ws_set 5 (by assumption) ?_ | refine ws_set 6 (by assumption) ?_ | refine ws_set 7 (by assumption) ?_ | refine ws_set 8 (by assumption) ?_ | refine ws_set 9 (by assumption) ?_ | refine ws_set 10 (by assumption) ?_ | refine ws_set 11 (by assumption) ?_)
local macro_rules | `(tactic| fail) => `(tactic| first | refine wss_cons ?_ | refine wss_nil ?_)
section
variable {P : Program} {w : World} {K : PySem.W.Frag} {mg : Str → Option Value} {base : Heap}
def gapO (n : Nat) : Option Gp → D
  | none => .non
  | some g => gapD n g
def SGaps (K : PySem.W.Frag) : Sd := fun ds M P _ => ∃ (n : Nat) (wd : Int) (rs : List Rw), ds = [.int n, .int wd, .tup (rs.map (rD K))] ∧ n ≤ 12 ∧ (∀ r ∈ rs, r.one < n ∧ r.other < n) ∧ P (gapO n (ZM.gapsOf wd rs)) M
theorem len_SGaps : ∀ ds M P EE, SGaps K ds M P EE → ds.length = 3 := fun ds M P EE ⟨_, _, _, e, _⟩ => by rw [e]; rfl
abbrev N_gp : List Str := ["points", "width", "rows", "gaps", "row", "one", "other"]
theorem sc_gaps_of : FnScope N_gp ["points", "width", "rows"] (defScope s_gaps_of) := ⟨rfl, rfl, rfl, by decide +kernel, rfl, by decide +kernel, by decide +kernel⟩
def scG (b : List Stmt) : Scope := match b with
  | .Assign _ (.Call _ [.ListComp _ _ s _] _ _) _ :: _ => s
  | _ => ⟨.function, [], false, false, []⟩
theorem kf_gaps_of (T : Tx K mg) : KF P w K mg base 2 "gaps_of" 3 [] (SGaps K) := by
  obtain ⟨fd, F⟩ := F_gaps_of T
  refine ⟨_, fd, ["points", "width", "rows"], ?_, bndD F 3 [] (fun _ _ _ _ _ _ us ws h1 h2 => match us, ws, h1, h2 with | [_, _, _], [], _, _ => rfl), g_gaps_of T, F.kp⟩
  refine fnDD F sc_gaps_of len_SGaps fun cdv A outer s H E hg hr ds M Pd EE ⟨n, wd, rs, e, hn, hrs, q⟩ => ?_
  subst e
  have nd := sc_gaps_of.nd
  have cl := cls_Row T
  fail
  refine ws_set 3 nd ?_
  refine we_callTy (T := "tuple") ?_ (free_tuple T)
  fail
  refine we_lc [("one", 5)] rfl nd (blkOk_by (N := N_gp) (sc := defScope s_gaps_of) (by decide +kernel)) ?_
  refine wi_rng1 (free_range T) ?_
  fail
  refine ⟨n, rfl, by omega, by omega, ?_⟩
  refine ⟨by rw [rngD_len]; omega, fun i acc M' => acc = (List.range i).map (gapRow n (ZM.gaps0 wd)) ∧ M' = M, ⟨rfl, rfl⟩, fun _ _ _ _ => trivial, fun i d acc M' hd ac s H C cl fp => ⟨[5], by simp, ?_⟩, fun acc M' ac => .inl ?_⟩
  · obtain ⟨rfl, eM⟩ := ac
    rw [eM]
    obtain ⟨hi, rfl⟩ := rngD_get hd
    refine wg_name 5 nd ?_
    intro s H C cl fp
    refine wts_nil ?_
    refine iteB (fun _ => ?_) fun h => Bool.noConfusion h
    intro s H C cl fp
    refine we_callTy (T := "tuple") ?_ (free_tuple T)
    fail
    refine we_lc [("other", 6)] rfl nd (blkOk_by (N := N_gp) (sc := L2.relS (scG (defBody s_gaps_of)) (defScope s_gaps_of)) (by decide +kernel)) ?_
    refine wi_rng1 (free_range T) ?_
    fail
    refine ⟨n, rfl, by omega, by omega, ?_⟩
    refine ⟨by rw [rngD_len]; omega, fun j acc M' => acc = (List.range j).map (fun j => D.int (ZM.gaps0 wd i j)) ∧ M' = M, ⟨rfl, rfl⟩, fun _ _ _ _ => trivial, fun j d acc M' hd ac s H C cl fp => ⟨[6], by simp, ?_⟩, fun acc M' ac => .inl ?_⟩
    · obtain ⟨rfl, eM⟩ := ac
      rw [eM]
      obtain ⟨hj, rfl⟩ := rngD_get hd
      refine wg_name 6 nd ?_
      intro s H C cl fp
      refine wts_nil ?_
      refine iteB (fun _ => ?_) fun h => Bool.noConfusion h
      intro s H C cl fp
      repeat fail
      refine ⟨(by decide : 2 ≤ sizeLine), ?_⟩
      refine o_in (ns := [0, 0 + (j : Int)]) (.inl rfl) ?_
      refine ⟨_, rfl, iteB (fun h => ?_) fun h => ?_⟩
      · have hz : i = 0 ∨ i = j := by
          have := of_decide_eq_true h
          simp only [List.mem_cons, List.not_mem_nil, or_false] at this
          omega
        fail
        refine ⟨?_, rfl⟩
        have e : ZM.gaps0 wd i j = 0 := if_pos hz
        rw [← range_snoc (f := fun j => D.int (ZM.gaps0 wd i j)), e]
      · have hz : ¬ (i = 0 ∨ i = j) := by
          have := of_decide_eq_false h
          simp only [List.mem_cons, List.not_mem_nil, or_false] at this
          omega
        fail
        refine ⟨?_, rfl⟩
        have e : ZM.gaps0 wd i j = wd := if_neg hz
        rw [← range_snoc (f := fun j => D.int (ZM.gaps0 wd i j)), e]
    · obtain ⟨rfl, eM⟩ := ac
      rw [rngD_len, eM]
      fail
      refine c_tup .lst ?_
      exact ⟨range_snoc (f := gapRow n (ZM.gaps0 wd)), rfl⟩
  · obtain ⟨rfl, eM⟩ := ac
    rw [rngD_len, eM]
    fail
    refine c_tup .lst ?_
    fail
    refine ws_for (T := [4]) (passes_of rfl) rfl ?_
    refine wi_tup ?_
    fail
    refine ⟨_, rfl, ?_⟩
    refine ⟨fun k ss' M' => ∃ s4 : S, ∃ g : Gp, ss' = [some (.int n), some (.int wd), some (.tup (rs.map (rD K))), some (gapD n g), s4, none, none] ∧ M' = M ∧ ZM.gapsOf wd rs = (rs.drop k).foldlM ZM.narrowO g, ?_, fun _ _ _ _ => trivial, fun k d ss' M' hd iv => ?_, fun ss' M' iv => ?_⟩
    · exact ⟨none, ZM.gaps0 wd, rfl, rfl, rfl⟩
    · obtain ⟨s4, g, rfl, rfl, eg⟩ := iv
      obtain ⟨r, hr', rfl⟩ : ∃ r, rs[k]? = some r ∧ d = rD K r := by
        rw [List.getElem?_map] at hd
        match h : rs[k]?, hd with
        | some r, rfl => exact ⟨r, rfl, rfl⟩
      have hk := (List.getElem?_eq_some_iff.mp hr').1
      have ed : rs.drop k = r :: rs.drop (k + 1) := by
        rw [List.drop_eq_getElem_cons hk]
        congr 1
        exact (List.getElem?_eq_some_iff.mp hr').2
      rw [ed, List.foldlM_cons] at eg
      obtain ⟨hr1, hr2⟩ := hrs r (List.mem_of_getElem? hr')
      refine wg_name 4 nd ?_
      fail
      refine ws_set 3 nd ?_
      refine we_fn (kf_narrowed T) hg (hr.mono (by decide)) ?_ rfl (hlen := len_SNar)
      fail; fail; fail
      refine we_fld ?_
      fail
      refine ⟨_, _, _, OAt.obj, cl, no_Row_one T, rfl, ?_⟩
      fail
      refine we_fld ?_
      fail
      refine ⟨_, _, _, OAt.obj, cl, no_Row_other T, rfl, ?_⟩
      fail
      refine we_fld ?_
      fail
      refine ⟨_, _, _, OAt.obj, cl, no_Row_most T, rfl, ?_⟩
      fail
      refine ⟨n, g, r.one, r.other, r.most, rfl, hn, hr1, hr2, fun c => ?_, fun c c2 => ?_, fun c c2 => ?_⟩
      · have en : ZM.narrowO g r = some g := if_pos c
        rw [en] at eg
        fail; fail; fail; fail; fail
        refine o_isN' rfl ?_
        refine ⟨_, rfl, iteB (fun h => Bool.noConfusion h) fun _ => ?_⟩
        fail; fail
        exact ⟨_, g, rfl, rfl, eg⟩
      · have en : ZM.narrowO g r = none := by unfold ZM.narrowO; rw [if_neg c, if_pos c2]
        rw [en] at eg
        fail; fail; fail; fail; fail
        refine o_isN ?_
        refine ⟨_, rfl, iteB (fun _ => ?_) fun h => Bool.noConfusion h⟩
        fail; fail; fail
        rw [eg] at q
        exact q
      · have en : ZM.narrowO g r = some (narrow g r.one r.other r.most) := by unfold ZM.narrowO; rw [if_neg c, if_neg c2]
        rw [en] at eg
        fail; fail; fail; fail; fail
        refine o_isN' rfl ?_
        refine ⟨_, rfl, iteB (fun h => Bool.noConfusion h) fun _ => ?_⟩
        fail; fail
        exact ⟨_, _, rfl, rfl, eg⟩
    · obtain ⟨s4, g, rfl, rfl, eg⟩ := iv
      rw [List.length_map, List.drop_length] at eg
      fail; fail; fail
      have eg : ZM.gapsOf wd rs = some g := eg
      rw [eg] at q
      exact q
end
end K05

set_option Elab.async false
set_option linter.all false
set_option maxRecDepth 100000
set_option maxHeartbeats 1000000
namespace K05
open PySem PySem.Spec PyProof.Rows L2 JQ
local macro_rules | `(tactic| fail) => `(tactic| first | refine o_add ?_ | refine o_sub ?_ | refine o_lt ?_ | refine o_le ?_ | refine o_gt ?_ | refine o_ge ?_ | refine o_eqI ?_ | refine o_neI ?_)
local macro_rules | `(tactic| fail) => `(tactic| first | refine wa_cons ?_ | refine wa_nil ?_ | refine wk_cons ?_ | refine wk_nil ?_)
local macro_rules | `(tactic| fail) => `(tactic| first | refine wt_cmp ?_ | refine wt_chain ?_ | refine wt_not ?_ | refine wt_and2 ?_ | refine wt_or2 ?_)
local macro_rules | `(tactic| fail) => `(tactic| first | refine we_int ?_ | refine we_str ?_ | refine we_bl ?_ | refine we_non ?_ | refine we_tup ?_ | refine we_bin ?_ | refine we_cmp ?_ | refine we_chain ?_ | refine we_not ?_ | refine we_un ?_ | refine we_and ?_ | refine we_or ?_ | refine we_one ?_ | refine we_ifx ?_)
local macro_rules | `(tactic| fail) => `(tactic| first | refine we_var 0 (by rfl) ?_ | refine we_var 1 (by rfl) ?_ | refine we_var 2 (by rfl) ?_ | refine we_var 3 (by rfl) ?_ | refine we_var 4 (by rfl) ?_ | refine we_var 5 (by rfl) ?_ | refine we_var 6 (by rfl) ?_ | refine we_var 7 (by rfl) ?_ | refine we_var 8 (by rfl) ?_ | refine we_var 9 (by rfl) ?_ | refine we_var 10 (by rfl) ?_ | refine we_var 11 (by rfl) ?_)
local macro_rules | `(tactic| fail) => `(tactic| first | refine ws_ret ?_ | refine ws_retN ?_ | refine ws_if ?_ | refine ws_expr ?_ | refine ws_set 0 (by assumption) ?_ | refine ws_set 1 (by assumption) ?_ | refine ws_set 2 (by assumption) ?_ | refine ws_set 3 (by assumption) ?_ | refine ws_set 4 (by assumption) ?_ | refine ws_set 5 (by assumption) ?_ | refine ws_set 6 (by assumption) ?_ | refine ws_set 7 (by assumption) ?_ | refine ws_set 8 (by assumption) ?_ | refine ws_set 9 (by assumption) ?_ | refine ws_set 10 (by assumption) ?_ | refine ws_set 11 (by assumption) ?_)
local macro_rules | `(tactic| fail) => `(tactic| first | refine wss_cons ?_ | refine wss_nil ?_)
section
variable {P : Program} {w : World} {K : PySem.W.Frag} {mg : Str → Option Value} {base : Heap}
def wallR (wd : Int) (i : Nat) : Rw := ⟨i + 1, 0, wd⟩
def wallL (i : Nat) : Rw := ⟨0, i + 1, 0⟩
def walls (n : Nat) (wd : Int) : List Rw := (List.range (n - 1)).map (wallR wd) ++ (List.range (n - 1)).map wallL
def SWalls (K : PySem.W.Frag) : Sd := fun ds M P _ => ∃ (n : Nat) (wd : Int), ds = [.int n, .int wd] ∧ 1 ≤ n ∧ n ≤ 12 ∧ 0 ≤ wd ∧ wd ≤ 999999 ∧ P (.tup ((walls n wd).map (rD K))) M
theorem len_SWalls : ∀ ds M P EE, SWalls K ds M P EE → ds.length = 2 := fun ds M P EE ⟨_, _, e, _⟩ => by rw [e]; rfl
abbrev N_wl : List Str := ["points", "width", "right", "left", "point"]
theorem sc_walls_of : FnScope N_wl ["points", "width"] (defScope s_walls_of) := ⟨rfl, rfl, rfl, by decide +kernel, rfl, by decide +kernel, by decide +kernel⟩
theorem kf_walls_of (T : Tx K mg) : KF P w K mg base 5 "walls_of" 2 [] (SWalls K) := by
  obtain ⟨fd, F⟩ := F_walls_of T
  refine ⟨_, fd, ["points", "width"], ?_, bndD F 2 [] (fun _ _ _ _ _ _ us ws h1 h2 => match us, ws, h1, h2 with | [_, _], [], _, _ => rfl), g_walls_of T, F.kp⟩
  refine fnDD F sc_walls_of len_SWalls fun cdv A outer s H E hg hr ds M Pd EE ⟨n, wd, e, hn0, hn, hw0, hw1, q⟩ => ?_
  subst e
  have nd := sc_walls_of.nd
  have cl := cls_Row T
  fail
  refine ws_lc 2 [("point", 4)] rfl nd (blkOk_by (N := N_wl) (sc := defScope s_walls_of) (by decide +kernel)) rfl ?_
  refine wi_rng2 (free_range T) ?_
  fail; fail; fail; fail; fail
  refine ⟨1, n, rfl, ⟨by omega, by omega, by omega, by omega⟩, ?_⟩
  have en : ((n : Int) - 1).toNat = n - 1 := by omega
  rw [en]
  refine ⟨by rw [rngD_len]; omega, fun i acc M' => acc = (List.range i).map (fun i => rD K (wallR wd i)) ∧ M' = M, ⟨rfl, rfl⟩, fun _ _ _ _ => trivial, fun i d acc M' hd ac s H C cl' fp => ⟨[4], by simp, ?_⟩, fun acc M' ac => .inl ?_⟩
  · obtain ⟨rfl, eM⟩ := ac
    rw [eM]
    obtain ⟨hi, rfl⟩ := rngD_get hd
    refine wg_name 4 nd ?_
    intro s H C cl' fp
    refine wts_nil ?_
    refine iteB (fun _ => ?_) fun h => Bool.noConfusion h
    intro s H C cl' fp
    refine we_frzO ?_
    refine we_mk (kc_Row T) hg (hr.mono (by decide)) ?_
    repeat fail
    refine ⟨rfl, fun x hx => ?_⟩
    refine ⟨x, _, _, _, rfl, mup_same, by omega, by omega, by omega, by omega, by omega, by omega, by omega, ?_⟩
    rw [mup_mup]
    refine ⟨rfl, x, rfl, _, _, mup_same, ?_, mdel_mup hx⟩
    rw [show (1 : Int) + (i : Int) = ((i + 1 : Nat) : Int) by omega]
    exact range_snoc (f := fun i => rD K (wallR wd i))
  obtain ⟨rfl, eM⟩ := ac
  rw [rngD_len, eM]
  fail
  refine ws_lc 3 [("point", 4)] rfl nd (blkOk_by (N := N_wl) (sc := defScope s_walls_of) (by decide +kernel)) rfl ?_
  refine wi_rng2 (free_range T) ?_
  fail; fail; fail; fail; fail
  refine ⟨1, n, rfl, ⟨by omega, by omega, by omega, by omega⟩, ?_⟩
  rw [en]
  refine ⟨by rw [rngD_len]; omega, fun i acc M' => acc = (List.range i).map (fun i => rD K (wallL i)) ∧ M' = M, ⟨rfl, rfl⟩, fun _ _ _ _ => trivial, fun i d acc M' hd ac s H C cl' fp => ⟨[4], by simp, ?_⟩, fun acc M' ac => .inl ?_⟩
  · obtain ⟨rfl, eM⟩ := ac
    rw [eM]
    obtain ⟨hi, rfl⟩ := rngD_get hd
    refine wg_name 4 nd ?_
    intro s H C cl' fp
    refine wts_nil ?_
    refine iteB (fun _ => ?_) fun h => Bool.noConfusion h
    intro s H C cl' fp
    refine we_frzO ?_
    refine we_mk (kc_Row T) hg (hr.mono (by decide)) ?_
    repeat fail
    refine ⟨rfl, fun x hx => ?_⟩
    refine ⟨x, _, _, _, rfl, mup_same, by omega, by omega, by omega, by omega, by omega, by omega, by omega, ?_⟩
    rw [mup_mup]
    refine ⟨rfl, x, rfl, _, _, mup_same, ?_, mdel_mup hx⟩
    rw [show (1 : Int) + (i : Int) = ((i + 1 : Nat) : Int) by omega]
    exact range_snoc (f := fun i => rD K (wallL i))
  obtain ⟨rfl, eM⟩ := ac
  rw [rngD_len, eM]
  fail; fail
  refine we_callTy (T := "tuple") ?_ (free_tuple T)
  repeat fail
  refine o_catL rfl rfl ?_ (.inl ?_)
  · rw [List.length_map, List.length_map, List.length_range]
    exact Nat.le_trans (by omega : n - 1 + (n - 1) ≤ 100) (by decide)
  repeat fail
  refine c_tup .lst ?_
  have e : (walls n wd).map (rD K) = (List.range (n - 1)).map (fun i => rD K (wallR wd i)) ++ (List.range (n - 1)).map (fun i => rD K (wallL i)) := by
    unfold walls
    rw [List.map_append, List.map_map, List.map_map]
    rfl
  rw [e] at q
  exact q
end
end K05

set_option Elab.async false
set_option linter.all false
set_option maxRecDepth 100000
set_option maxHeartbeats 1000000
namespace K05
open PySem PySem.Spec PyProof.Rows L2 JQ
local macro_rules | `(tactic| fail) => `(tactic| first | refine o_add ?_ | refine o_sub ?_ | refine o_lt ?_ | refine o_le ?_ | refine o_gt ?_ | refine o_ge ?_ | refine o_eqI ?_ | refine o_neI ?_)
local macro_rules | `(tactic| fail) => `(tactic| first | refine wa_cons ?_ | refine wa_nil ?_ | refine wk_cons ?_ | refine wk_nil ?_)
local macro_rules | `(tactic| fail) => `(tactic| first | refine wt_cmp ?_ | refine wt_chain ?_ | refine wt_not ?_ | refine wt_and2 ?_ | refine wt_or2 ?_)
local macro_rules | `(tactic| fail) => `(tactic| first | refine we_int ?_ | refine we_str ?_ | refine we_bl ?_ | refine we_non ?_ | refine we_tup ?_ | refine we_bin ?_ | refine we_cmp ?_ | refine we_chain ?_ | refine we_not ?_ | refine we_un ?_ | refine we_and ?_ | refine we_or ?_ | refine we_one ?_ | refine we_ifx ?_)
local macro_rules | `(tactic| fail) => `(tactic| first | refine we_var 0 (by rfl) ?_ | refine we_var 1 (by rfl) ?_ | refine we_var 2 (by rfl) ?_ | refine we_var 3 (by rfl) ?_ | refine we_var 4 (by rfl) ?_ | refine we_var 5 (by rfl) ?_ | refine we_var 6 (by rfl) ?_ | refine we_var 7 (by rfl) ?_ | refine we_var 8 (by rfl) ?_ | refine we_var 9 (by rfl) ?_ | refine we_var 10 (by rfl) ?_ | refine we_var 11 (by rfl) ?_)
local macro_rules | `(tactic| fail) => `(tactic| first | refine ws_ret ?_ | refine ws_retN ?_ | refine ws_if ?_ | refine ws_expr ?_ | refine ws_set 0 (by assumption) ?_ | refine ws_set 1 (by assumption) ?_ | refine ws_set 2 (by assumption) ?_ | refine ws_set 3 (by assumption) ?_ | refine ws_set 4 (by assumption) ?_ | refine ws_set 5 (by assumption) ?_ | refine ws_set 6 (by assumption) ?_ | refine ws_set 7 (by assumption) ?_ | refine ws_set 8 (by assumption) ?_ | refine ws_set 9 (by assumption) ?_ | refine ws_set 10 (by assumption) ?_ | refine ws_set 11 (by assumption) ?_)
local macro_rules | `(tactic| fail) => `(tactic| first | refine wss_cons ?_ | refine wss_nil ?_)
section
variable {P : Program} {w : World} {K : PySem.W.Frag} {mg : Str → Option Value} {base : Heap}
def SLow : Sd := fun ds M P _ => ∃ (n : Nat) (g : Gp), ds = [gapD n g] ∧ 1 ≤ n ∧ n ≤ 12 ∧ P (.tup ((List.range n).map fun j => .int (-(g 0 j)))) M
def SHigh : Sd := fun ds M P _ => ∃ (n : Nat) (g : Gp), ds = [gapD n g] ∧ 1 ≤ n ∧ n ≤ 12 ∧ P (.tup ((List.range n).map fun i => .int (g i 0))) M
theorem len_SLow : ∀ ds M P EE, SLow ds M P EE → ds.length = 1 := fun ds M P EE ⟨_, _, e, _⟩ => by rw [e]; rfl
theorem len_SHigh : ∀ ds M P EE, SHigh ds M P EE → ds.length = 1 := fun ds M P EE ⟨_, _, e, _⟩ => by rw [e]; rfl
theorem sc_lowest_of : FnScope ["gaps", "gap"] ["gaps"] (defScope s_lowest_of) := ⟨rfl, rfl, rfl, by decide +kernel, rfl, by decide +kernel, by decide +kernel⟩
theorem sc_highest_of : FnScope ["gaps", "row"] ["gaps"] (defScope s_highest_of) := ⟨rfl, rfl, rfl, by decide +kernel, rfl, by decide +kernel, by decide +kernel⟩
theorem kf_lowest_of (T : Tx K mg) : KF P w K mg base 1 "lowest_of" 1 [] SLow := by
  obtain ⟨fd, F⟩ := F_lowest_of T
  refine ⟨_, fd, ["gaps"], ?_, bndD F 1 [] (fun _ _ _ _ _ _ us ws h1 h2 => match us, ws, h1, h2 with | [_], [], _, _ => rfl), g_lowest_of T, F.kp⟩
  refine fnDD F sc_lowest_of len_SLow fun cdv A outer s H E hg hr ds M Pd EE ⟨n, g, e, h0, hn, q⟩ => ?_
  subst e
  have nd := sc_lowest_of.nd
  fail; fail
  refine we_callTy (T := "tuple") ?_ (free_tuple T)
  fail
  refine we_lc [("gap", 1)] rfl nd (blkOk_by (N := ["gaps", "gap"]) (sc := defScope s_lowest_of) (by decide +kernel)) ?_
  refine wi_tup ?_
  refine we_ix ?_
  fail; fail
  refine ⟨0, gapRow n g 0, rfl, atI_of (i := 0) (ix_range (by omega)), ?_⟩
  refine ⟨_, rfl, ?_⟩
  refine ⟨by rw [List.length_map, List.length_range]; omega, fun j acc M' => acc = (List.range j).map (fun j => D.int (-(g 0 j))) ∧ M' = M, ⟨rfl, rfl⟩, fun _ _ _ _ => trivial, fun j d acc M' hd ac s H C cl' fp => ⟨[1], by simp, ?_⟩, fun acc M' ac => .inl ?_⟩
  · obtain ⟨rfl, eM⟩ := ac
    rw [eM]
    obtain ⟨hj, rfl⟩ := get_range hd
    refine wg_name 1 nd ?_
    intro s H C cl' fp
    refine wts_nil ?_
    refine iteB (fun _ => ?_) fun h => Bool.noConfusion h
    intro s H C cl' fp
    fail; fail
    refine o_neg ?_
    exact ⟨range_snoc (f := fun j => D.int (-(g 0 j))), rfl⟩
  · obtain ⟨rfl, eM⟩ := ac
    rw [List.length_map, List.length_range, eM]
    fail
    refine c_tup .lst ?_
    exact q
theorem kf_highest_of (T : Tx K mg) : KF P w K mg base 1 "highest_of" 1 [] SHigh := by
  obtain ⟨fd, F⟩ := F_highest_of T
  refine ⟨_, fd, ["gaps"], ?_, bndD F 1 [] (fun _ _ _ _ _ _ us ws h1 h2 => match us, ws, h1, h2 with | [_], [], _, _ => rfl), g_highest_of T, F.kp⟩
  refine fnDD F sc_highest_of len_SHigh fun cdv A outer s H E hg hr ds M Pd EE ⟨n, g, e, h0, hn, q⟩ => ?_
  subst e
  have nd := sc_highest_of.nd
  fail; fail
  refine we_callTy (T := "tuple") ?_ (free_tuple T)
  fail
  refine we_lc [("row", 1)] rfl nd (blkOk_by (N := ["gaps", "row"]) (sc := defScope s_highest_of) (by decide +kernel)) ?_
  refine wi_tup ?_
  fail
  refine ⟨_, rfl, ?_⟩
  refine ⟨by rw [List.length_map, List.length_range]; omega, fun j acc M' => acc = (List.range j).map (fun j => D.int (g j 0)) ∧ M' = M, ⟨rfl, rfl⟩, fun _ _ _ _ => trivial, fun j d acc M' hd ac s H C cl' fp => ⟨[1], by simp, ?_⟩, fun acc M' ac => .inl ?_⟩
  · obtain ⟨rfl, eM⟩ := ac
    rw [eM]
    obtain ⟨hj, rfl⟩ := get_range hd
    refine wg_name 1 nd ?_
    intro s H C cl' fp
    refine wts_nil ?_
    refine iteB (fun _ => ?_) fun h => Bool.noConfusion h
    intro s H C cl' fp
    refine we_ix ?_
    fail; fail
    refine ⟨0, .int (g j 0), rfl, atI_of (i := 0) (ix_range (by omega)), ?_⟩
    exact ⟨range_snoc (f := fun j => D.int (g j 0)), rfl⟩
  · obtain ⟨rfl, eM⟩ := ac
    rw [List.length_map, List.length_range, eM]
    fail
    refine c_tup .lst ?_
    exact q
end
end K05

set_option Elab.async false
set_option linter.all false
set_option maxRecDepth 100000
set_option maxHeartbeats 1000000
namespace K05
open PySem PySem.Spec PyProof.Rows L2 JQ
local macro_rules | `(tactic| fail) => `(tactic| first | refine o_add ?_ | refine o_sub ?_ | refine o_lt ?_ | refine o_le ?_ | refine o_gt ?_ | refine o_ge ?_ | refine o_eqI ?_ | refine o_neI ?_)
local macro_rules | `(tactic| fail) => `(tactic| first | refine wa_cons ?_ | refine wa_nil ?_ | refine wk_cons ?_ | refine wk_nil ?_)
local macro_rules | `(tactic| fail) => `(tactic| first | refine wt_cmp ?_ | refine wt_chain ?_ | refine wt_not ?_ | refine wt_and2 ?_ | refine wt_or2 ?_)
local macro_rules | `(tactic| fail) => `(tactic| first | refine we_int ?_ | refine we_str ?_ | refine we_bl ?_ | refine we_non ?_ | refine we_tup ?_ | refine we_bin ?_ | refine we_cmp ?_ | refine we_chain ?_ | refine we_not ?_ | refine we_un ?_ | refine we_and ?_ | refine we_or ?_ | refine we_one ?_ | refine we_ifx ?_)
local macro_rules | `(tactic| fail) => `(tactic| first | refine we_var 0 (by rfl) ?_ | refine we_var 1 (by rfl) ?_ | refine we_var 2 (by rfl) ?_ | refine we_var 3 (by rfl) ?_ | refine we_var 4 (by rfl) ?_ | refine we_var 5 (by rfl) ?_ | refine we_var 6 (by rfl) ?_ | refine we_var 7 (by rfl) ?_ | refine we_var 8 (by rfl) ?_ | refine we_var 9 (by rfl) ?_ | refine we_var 10 (by rfl) ?_ | refine we_var 11 (by rfl) ?_)
local macro_rules | `(tactic| fail) => `(tactic| first | refine ws_ret ?_ | refine ws_retN ?_ | refine ws_if ?_ | refine ws_expr ?_ | refine ws_set 0 (by assumption) ?_ | refine ws_set 1 (by assumption) ?_ | refine ws_set 2 (by assumption) ?_ | refine ws_set 3 (by assumption) ?_ | refine ws_set 4 (by assumption) ?_ | refine ws_set 5 (by assumption) ?_ | refine ws_set 6 (by assumption) ?_ | refine ws_set 7 (by assumption) ?_ | refine ws_set 8 (by assumption) ?_ | refine ws_set 9 (by assumption) ?_ | refine ws_set 10 (by assumption) ?_ | refine ws_set 11 (by assumption) ?_)
local macro_rules | `(tactic| fail) => `(tactic| first | refine wss_cons ?_ | refine wss_nil ?_)
section
variable {P : Program} {w : World} {K : PySem.W.Frag} {mg : Str → Option Value} {base : Heap}
/-! ### series, rows below, rows once -/
def SSer : Sd := fun ds M P _ => ∃ d, ds = [d] ∧ known d = true ∧ (isLst d = true ∨ isTup d = true) ∧ P (.bl true) M
theorem len_SSer : ∀ ds M P EE, SSer ds M P EE → ds.length = 1 := fun ds M P EE ⟨_, e, _⟩ => by rw [e]; rfl
theorem sc_is_series : FnScope ["value"] ["value"] (defScope s_is_series) := ⟨rfl, rfl, rfl, by decide +kernel, rfl, by decide +kernel, by decide +kernel⟩
theorem kf_is_series (T : Tx K mg) : KF P w K mg base 1 "is_series" 1 [] SSer := by
  obtain ⟨fd, F⟩ := F_is_series T
  refine ⟨_, fd, ["value"], ?_, bndD F 1 [] (fun _ _ _ _ _ _ us ws h1 h2 => match us, ws, h1, h2 with | [_], [], _, _ => rfl), g_is_series T, F.kp⟩
  refine fnDD F sc_is_series len_SSer fun cdv A outer s H E hg hr ds M Pd EE ⟨d, e, kn, hl, q⟩ => ?_
  subst e
  fail; fail
  refine we_dropR ?_
  refine we_callB (id := "isinstance") ?_ (free_isinstance T)
  fail; fail; fail
  refine we_tupM ?_
  fail
  refine we_bty (n := "list") (free_list T) (by decide +kernel) ?_
  fail
  refine we_bty (n := "tuple") (free_tuple T) (by decide +kernel) ?_
  fail
  refine ⟨(by decide : 2 ≤ sizeLine), fun p hp => ?_⟩
  fail
  refine c_isiT (cs := [.ty "list", .ty "tuple"]) (us := [.type "list", .type "tuple"]) mup_same (.cons (.ty _) (.cons (.ty _) .nil)) (known_ty kn) (kit_lt hl kn) ?_
  exact ⟨M, msub_up hp, q⟩
def SBelow (K : PySem.W.Frag) : Sd := fun ds M P _ => ∃ (r : Rw) (n : Nat), ds = [rD K r, .int n] ∧ r.one < n ∧ r.other < n ∧ P (.bl true) M
theorem len_SBelow : ∀ ds M P EE, SBelow K ds M P EE → ds.length = 2 := fun ds M P EE ⟨_, _, e, _⟩ => by rw [e]; rfl
theorem sc_is_row_below : FnScope ["value", "points"] ["value", "points"] (defScope s_is_row_below) := ⟨rfl, rfl, rfl, by decide +kernel, rfl, by decide +kernel, by decide +kernel⟩
theorem kf_is_row_below (T : Tx K mg) : KF P w K mg base 1 "is_row_below" 2 [] (SBelow K) := by
  obtain ⟨fd, F⟩ := F_is_row_below T
  refine ⟨_, fd, ["value", "points"], ?_, bndD F 2 [] (fun _ _ _ _ _ _ us ws h1 h2 => match us, ws, h1, h2 with | [_, _], [], _, _ => rfl), g_is_row_below T, F.kp⟩
  refine fnDD F sc_is_row_below len_SBelow fun cdv A outer s H E hg hr ds M Pd EE ⟨r, n, e, h1, h2, q⟩ => ?_
  subst e
  have cl := cls_Row T
  obtain ⟨ci, ck⟩ := clsi_Row T
  fail; fail; fail
  refine we_callB (id := "isinstance") ?_ (free_isinstance T)
  fail; fail; fail
  refine we_gref (g_Row T) ?_
  fail
  refine c_isi (.own _) ⟨rfl, ci⟩ ck ?_
  refine ⟨_, rfl, iteB (fun _ => ?_) fun h => Bool.noConfusion h⟩
  fail; fail
  refine we_callB (id := "max") ?_ (free_max T)
  fail
  refine we_fld ?_
  fail
  refine ⟨_, _, _, OAt.obj, cl, no_Row_one T, rfl, ?_⟩
  fail
  refine we_fld ?_
  fail
  refine ⟨_, _, _, OAt.obj, cl, no_Row_other T, rfl, ?_⟩
  fail
  refine c_max2 rfl ?_
  fail
  refine o_lt ?_
  have e : decide ((if ((r.other : Nat) : Int) > ((r.one : Nat) : Int) then ((r.other : Nat) : Int) else ((r.one : Nat) : Int)) < (n : Int)) = true := by
    refine decide_eq_true ?_
    split <;> omega
  rw [e]
  exact q
end
end K05

set_option Elab.async false
set_option linter.all false
set_option maxRecDepth 100000
set_option maxHeartbeats 1000000
namespace K05
open PySem PySem.Spec PyProof.Rows L2 JQ
local macro_rules | `(tactic| fail) => `(tactic| first | refine o_add ?_ | refine o_sub ?_ | refine o_lt ?_ | refine o_le ?_ | refine o_gt ?_ | refine o_ge ?_ | refine o_eqI ?_ | refine o_neI ?_)
local macro_rules | `(tactic| fail) => `(tactic| first | refine wa_cons ?_ | refine wa_nil ?_ | refine wk_cons ?_ | refine wk_nil ?_)
local macro_rules | `(tactic| fail) => `(tactic| first | refine wt_cmp ?_ | refine wt_chain ?_ | refine wt_not ?_ | refine wt_and2 ?_ | refine wt_or2 ?_)
local macro_rules | `(tactic| fail) => `(tactic| first | refine we_int ?_ | refine we_str ?_ | refine we_bl ?_ | refine we_non ?_ | refine we_tup ?_ | refine we_bin ?_ | refine we_cmp ?_ | refine we_chain ?_ | refine we_not ?_ | refine we_un ?_ | refine we_and ?_ | refine we_or ?_ | refine we_one ?_ | refine we_ifx ?_)
local macro_rules | `(tactic| fail) => `(tactic| first | refine we_var 0 (by rfl) ?_ | refine we_var 1 (by rfl) ?_ | refine we_var 2 (by rfl) ?_ | refine we_var 3 (by rfl) ?_ | refine we_var 4 (by rfl) ?_ | refine we_var 5 (by rfl) ?_ | refine we_var 6 (by rfl) ?_ | refine we_var 7 (by rfl) ?_ | refine we_var 8 (by rfl) ?_ | refine we_var 9 (by rfl) ?_ | refine we_var 10 (by rfl) ?_ | refine we_var 11 (by rfl) ?_)
local macro_rules | `(tactic| fail) => `(tactic| first | refine ws_ret ?_ | refine ws_retN ?_ | refine ws_if ?_ | refine ws_expr ?_ | refine ws_set 0 (by assumption) ?_ | refine ws_set 1 (by assumption) ?_ | refine ws_set 2 (by assumption) ?_ | refine ws_set 3 (by assumption) ?_ | refine ws_set 4 (by assumption) ?_ | refine ws_set 5 (by assumption) ?_ | refine ws_set 6 (by assumption) ?_ | refine ws_set 7 (by assumption) ?_ | refine ws_set 8 (by assumption) ?_ | refine ws_set 9 (by assumption) ?_ | refine ws_set 10 (by assumption) ?_ | refine ws_set 11 (by assumption) ?_)
local macro_rules | `(tactic| fail) => `(tactic| first | refine wss_cons ?_ | refine wss_nil ?_)
section
variable {P : Program} {w : World} {K : PySem.W.Frag} {mg : Str → Option Value} {base : Heap}
instance : DecidableEq Rw := fun a b => match a, b with
  | ⟨a1, a2, a3⟩, ⟨b1, b2, b3⟩ => if h : a1 = b1 ∧ a2 = b2 ∧ a3 = b3 then isTrue (by obtain ⟨rfl, rfl, rfl⟩ := h; rfl) else isFalse fun e => by cases e; exact h ⟨rfl, rfl, rfl⟩
def addR (acc : List Rw) (r : Rw) : List Rw := if r ∈ acc then acc else acc ++ [r]
def onceR (rs : List Rw) : List Rw := rs.foldl addR []
def kR (r : Rw) : List Key := [.inl r.one, .inl r.other, .inl r.most]
theorem kR_inj {a b : Rw} (h : kR a = kR b) : a = b := by
  obtain ⟨a1, a2, a3⟩ := a
  obtain ⟨b1, b2, b3⟩ := b
  unfold kR at h
  injection h with h1 h
  injection h with h2 h
  injection h with h3 h
  injection h1 with h1
  injection h2 with h2
  injection h3 with h3
  have h1 : (a1 : Int) = b1 := h1
  have h2 : (a2 : Int) = b2 := h2
  have h3 : a3 = b3 := h3
  have e1 : a1 = b1 := by omega
  have e2 : a2 = b2 := by omega
  rw [e1, e2, h3]
theorem kD_R (r : Rw) : (kR r).map kD = [.int r.one, .int r.other, .int r.most] := rfl
def ent (K : PySem.W.Frag) (f : Rw → D) (acc : List Rw) : List (List Key × D) := acc.map fun r => (kR r, f r)
theorem get_ent {f : Rw → D} {r : Rw} : ∀ acc : List Rw, (getK (ent K f acc) (kR r)).isSome = decide (r ∈ acc)
  | [] => rfl
  | a :: acc => by
    by_cases c : a = r
    · subst c
      simp [getK, ent, List.find?_cons]
    · have c2 : kR a ≠ kR r := fun z => c (kR_inj z)
      have c3 : ¬ r = a := fun z => c z.symm
      have ih := get_ent (f := f) (r := r) acc
      unfold getK ent at ih ⊢
      rw [List.map_cons, List.find?_cons_of_neg (by simpa using c2), ih]
      simp [c3]
theorem any_ent {f : Rw → D} {r : Rw} : ∀ acc : List Rw, ((ent K f acc).any fun e => decide (e.1 = kR r)) = decide (r ∈ acc)
  | [] => rfl
  | a :: acc => by
    have ih := any_ent (f := f) (r := r) acc
    unfold ent at ih ⊢
    rw [List.map_cons, List.any_cons, ih]
    by_cases c : a = r
    · subst c; simp
    · have c2 : kR a ≠ kR r := fun z => c (kR_inj z)
      have c3 : ¬ r = a := fun z => c z.symm
      simp [c2, c3]
theorem put_ent {f : Rw → D} {r : Rw} {acc : List Rw} (h : r ∉ acc) : putKD (ent K f acc) (kR r) (f r) = ent K f (acc ++ [r]) := by
  unfold putKD
  rw [any_ent, if_neg (by simpa using h)]
  simp [ent]
theorem put_entC {d : D} {r : Rw} {acc : List Rw} : putKD (ent K (fun _ => d) acc) (kR r) d = ent K (fun _ => d) (addR acc r) := by
  unfold addR
  by_cases h : r ∈ acc
  · rw [if_pos h]
    unfold putKD
    rw [any_ent, if_pos (by simpa using h)]
    conv => rhs; rw [← List.map_id (ent K (fun _ => d) acc)]
    refine List.map_congr_left fun e he => ?_
    obtain ⟨a, _, rfl⟩ := List.mem_map.mp he
    by_cases c : kR a = kR r
    · rw [if_pos c]; rfl
    · rw [if_neg c]; rfl
  · rw [if_neg h]
    exact put_ent (f := fun _ => d) h
theorem nodup_ent {f : Rw → D} {acc : List Rw} (h : acc.Nodup) : ((ent K f acc).map (·.1)).Nodup := by
  unfold ent
  rw [List.map_map]
  exact List.pairwise_map.mpr (h.imp fun hne e => hne (kR_inj e))
theorem addR_nodup {acc : List Rw} {r : Rw} (h : acc.Nodup) : (addR acc r).Nodup := by
  unfold addR
  by_cases c : r ∈ acc
  · rw [if_pos c]; exact h
  · rw [if_neg c, List.nodup_append]
    exact ⟨h, by simp, fun a ha b hb => by rw [List.mem_singleton] at hb; rw [hb]; exact fun z => c (by rw [← z]; exact ha)⟩
theorem addR_len {acc : List Rw} {r : Rw} : (addR acc r).length ≤ acc.length + 1 := by
  unfold addR
  split <;> simp
theorem addR_mem {acc : List Rw} {r q : Rw} : q ∈ addR acc r ↔ q ∈ acc ∨ q = r := by
  unfold addR
  by_cases c : r ∈ acc
  · rw [if_pos c]
    exact ⟨.inl, fun h => h.elim id fun z => by rw [z]; exact c⟩
  · rw [if_neg c]
    simp
theorem fold_mem {q : Rw} : ∀ (rs acc : List Rw), q ∈ rs.foldl addR acc ↔ q ∈ acc ∨ q ∈ rs
  | [], acc => by simp
  | r :: rs, acc => by
    rw [List.foldl_cons, fold_mem rs, addR_mem, List.mem_cons, or_assoc]
theorem once_mem {q : Rw} {rs : List Rw} : q ∈ onceR rs ↔ q ∈ rs := by
  unfold onceR
  rw [fold_mem]
  simp
theorem fold_len : ∀ (rs acc : List Rw), (rs.foldl addR acc).length ≤ acc.length + rs.length
  | [], acc => by simp
  | r :: rs, acc => by
    have h1 := fold_len rs (addR acc r)
    have h2 := addR_len (acc := acc) (r := r)
    rw [List.foldl_cons, List.length_cons]
    omega
theorem once_len {rs : List Rw} : (onceR rs).length ≤ rs.length := by
  have := fold_len rs []
  unfold onceR
  simpa using this
theorem wi_sq {Y : Bd} {ss : List S} {M : Mm} {tg e : Expr} {d : D} {ds : List D} {R : List D → (Mm → Prop) → Mm → Prop} (hd : d = .tup ds ∨ d = .lst ds) (h : WE Y e ss M fun x M => x = d ∧ R ds L0 M) : WI Y tg e ss M R := by
  rcases hd with rfl | rfl
  · exact wi_tup (h.mono fun x M q => ⟨ds, q.1, q.2⟩)
  · exact wi_list (h.mono fun x M q => ⟨ds, q.1, q.2⟩)
theorem fold_nodup : ∀ (rs acc : List Rw), acc.Nodup → (rs.foldl addR acc).Nodup
  | [], acc, h => h
  | r :: rs, acc, h => fold_nodup rs (addR acc r) (addR_nodup h)
theorem map_at {α : Type} {f : α → D} {l : List α} {i : Nat} {d : D} (h : (l.map f)[i]? = some d) : ∃ r, l[i]? = some r ∧ d = f r := by
  rw [List.getElem?_map] at h
  match e : l[i]?, h with
  | some r, h => exact ⟨r, rfl, (Option.some.inj h).symm⟩
theorem take_snoc {α : Type} {l : List α} {i : Nat} {r : α} (h : l[i]? = some r) : l.take (i + 1) = l.take i ++ [r] := by
  rw [List.take_add_one, h]
  rfl
def SOnce (K : PySem.W.Frag) : Sd := fun ds M P _ => ∃ (d : D) (rs : List Rw), ds = [d] ∧ (d = .tup (rs.map (rD K)) ∨ d = .lst (rs.map (rD K))) ∧ rs.length ≤ 1000 ∧ P (.tup ((onceR rs).map (rD K))) M
theorem len_SOnce : ∀ ds M P EE, SOnce K ds M P EE → ds.length = 1 := fun ds M P EE ⟨_, _, e, _⟩ => by rw [e]; rfl
theorem sc_wr : FnScope ["rows", "table", "row", "key"] ["rows"] (defScope s_without_repeats) := ⟨rfl, rfl, rfl, by decide +kernel, rfl, by decide +kernel, by decide +kernel⟩
theorem kf_without_repeats (T : Tx K mg) : KF P w K mg base 2 "without_repeats" 1 [] (SOnce K) := by
  obtain ⟨fd, F⟩ := F_without_repeats T
  refine ⟨_, fd, ["rows"], ?_, bndD F 1 [] (fun _ _ _ _ _ _ us ws h1 h2 => match us, ws, h1, h2 with | [_], [], _, _ => rfl), g_without_repeats T, F.kp⟩
  refine fnDD F sc_wr len_SOnce fun cdv A outer s H E hg hr ds M Pd EE ⟨d, rs, e, ed, hz, q⟩ => ?_
  subst e
  have nd := sc_wr.nd
  have cl := cls_Row T
  fail
  refine ws_set 1 nd ?_
  refine we_dnew fun p hp => ?_
  fail
  refine ws_for (T := [2]) (passes_of rfl) rfl ?_
  refine wi_sq ed ?_
  fail
  refine ⟨rfl, fun k ss' M' => ∃ s2 s3 : S, ss' = [some d, some (.rf p), s2, s3] ∧ M' p = some (.dT (ent K (rD K) ((rs.take k).foldl addR []))) ∧ Msub M M', ⟨none, none, rfl, mup_same, msub_up hp⟩, fun _ _ _ _ => trivial, fun k d' ss' M' hd iv => ?_, fun ss' M' iv => ?_⟩
  · obtain ⟨s2, s3, rfl, em, sub⟩ := iv
    obtain ⟨r, hr', rfl⟩ := map_at hd
    have acl : ((rs.take k).foldl addR []).length ≤ 1000 := Nat.le_trans (once_len (rs := rs.take k)) (by rw [List.length_take]; omega)
    have est : (rs.take (k + 1)).foldl addR [] = addR ((rs.take k).foldl addR []) r := by rw [take_snoc hr', List.foldl_append]; rfl
    generalize (rs.take k).foldl addR [] = acc at em acl est
    refine wg_name 2 nd ?_
    fail
    refine ws_set 3 nd ?_
    refine we_tupM ?_
    fail
    refine we_fld ?_
    fail
    refine ⟨_, _, _, OAt.obj, cl, no_Row_one T, rfl, ?_⟩
    fail
    refine we_fld ?_
    fail
    refine ⟨_, _, _, OAt.obj, cl, no_Row_other T, rfl, ?_⟩
    fail
    refine we_fld ?_
    fail
    refine ⟨_, _, _, OAt.obj, cl, no_Row_most T, rfl, ?_⟩
    fail
    refine ⟨(by decide : 3 ≤ sizeLine), fun x hx => ?_⟩
    have hxp : p ≠ x := fun z => by rw [z, hx] at em; cases em
    have emx : mup M' x (.tp [.int r.one, .int r.other, .int r.most]) p = some (.dT (ent K (rD K) acc)) := by rw [mup_ne hxp]; exact em
    have sub2 := msub_new (u := .tp [.int r.one, .int r.other, .int r.most]) sub hx
    fail; fail
    refine wt_dnotin (room1 hr) ?_
    fail; fail
    refine ⟨kR r, _, ⟨x, p, rfl, mup_same, rfl, emx⟩, ?_⟩
    rw [get_ent]
    by_cases c : r ∈ acc
    · rw [decide_eq_true c]
      refine iteB (fun h => Bool.noConfusion h) fun _ => ?_
      fail; fail
      refine ⟨_, _, rfl, ?_, sub2⟩
      show _ = some (MO.dT (ent K (rD K) ((rs.take (k + 1)).foldl addR [])))
      rw [est, emx, addR, if_pos c]
    · rw [decide_eq_false c]
      refine iteB (fun _ => ?_) fun h => Bool.noConfusion h
      fail
      refine ws_dput (room1 hr) ?_
      fail; fail; fail
      refine ⟨kR r, _, p, ⟨x, p, rfl, mup_same, rfl, emx⟩, rfl, ?_, ?_⟩
      · unfold ent
        rw [List.length_map]
        exact Nat.lt_of_le_of_lt acl (by decide)
      fail; fail
      refine ⟨_, _, rfl, ?_, msub_put sub2 hp⟩
      show _ = some (MO.dT (ent K (rD K) ((rs.take (k + 1)).foldl addR [])))
      rw [est, mup_same, put_ent c, addR, if_neg c]
  · obtain ⟨s2, s3, rfl, em, sub⟩ := iv
    rw [List.length_map, List.take_length] at em
    fail; fail
    refine we_dropR ?_
    refine we_callTy (T := "tuple") ?_ (free_tuple T)
    fail
    refine we_lcVals 3 1 (t := "table") (x := "key") rfl nd (blkOk_by (N := ["rows", "table", "row", "key"]) (sc := defScope s_without_repeats) (by decide +kernel)) (room1 hr) rfl (by decide) (by decide : 3 < 4) em (nodup_ent (fold_nodup rs [] .nil)) ?_ (.inl ?_) (pv 1) (fun _ _ _ _ _ => pv 1) (fun _ _ _ _ _ => pv 3) (fun _ _ _ _ _ => pg_name nd rfl (Or.inl rfl))
    · unfold ent
      rw [List.length_map]
      exact Nat.le_trans (once_len (rs := rs)) (by omega)
    fail
    refine c_tup .lst ?_
    refine ⟨M, sub, ?_⟩
    have e : (ent K (rD K) (rs.foldl addR [])).map (·.2) = (onceR rs).map (rD K) := by
      unfold ent onceR
      rw [List.map_map]
      rfl
    rw [e]
    exact q
end
end K05

set_option Elab.async false
set_option linter.all false
set_option maxRecDepth 100000
set_option maxHeartbeats 1000000
namespace K05
open PySem PySem.Spec PyProof.Rows L2 JQ
local macro_rules | `(tactic| fail) => `(tactic| first | refine o_add ?_ | refine o_sub ?_ | refine o_lt ?_ | refine o_le ?_ | refine o_gt ?_ | refine o_ge ?_ | refine o_eqI ?_ | refine o_neI ?_)
local macro_rules | `(tactic| fail) => `(tactic| first | refine wa_cons ?_ | refine wa_nil ?_ | refine wk_cons ?_ | refine wk_nil ?_)
local macro_rules | `(tactic| fail) => `(tactic| first | refine wt_cmp ?_ | refine wt_chain ?_ | refine wt_not ?_ | refine wt_and2 ?_ | refine wt_or2 ?_)
local macro_rules | `(tactic| fail) => `(tactic| first | refine we_int ?_ | refine we_str ?_ | refine we_bl ?_ | refine we_non ?_ | refine we_tup ?_ | refine we_bin ?_ | refine we_cmp ?_ | refine we_chain ?_ | refine we_not ?_ | refine we_un ?_ | refine we_and ?_ | refine we_or ?_ | refine we_one ?_ | refine we_ifx ?_)
local macro_rules | `(tactic| fail) => `(tactic| first | refine we_var 0 (by rfl) ?_ | refine we_var 1 (by rfl) ?_ | refine we_var 2 (by rfl) ?_ | refine we_var 3 (by rfl) ?_ | refine we_var 4 (by rfl) ?_ | refine we_var 5 (by rfl) ?_ | refine we_var 6 (by rfl) ?_ | refine we_var 7 (by rfl) ?_ | refine we_var 8 (by rfl) ?_ | refine we_var 9 (by rfl) ?_ | refine we_var 10 (by rfl) ?_ | refine we_var 11 (by rfl) ?_)
local macro_rules | `(tactic| fail) => `(tactic| first | refine ws_ret ?_ | refine ws_retN ?_ | refine ws_if ?_ | refine ws_expr ?_ | refine ws_set 0 (by assumption) ?_ | refine ws_set 1 (by assumption) ?_ | refine ws_set 2 (by assumption) ?_ | refine ws_set 3 (by assumption) ?_ | refine ws_set 4 (by assumption) ?_ | refine ws_set 5 (by assumption) ?_ | refine ws_set 6 (by assumption) ?_ | refine ws_set 7 (by assumption) ?_ | refine ws_set 8 (by assumption) ?_ | refine ws_set 9 (by assumption) ?_ | refine ws_set 10 (by assumption) ?_ | refine ws_set 11 (by assumption) ?_)
local macro_rules | `(tactic| fail) => `(tactic| first | refine wss_cons ?_ | refine wss_nil ?_)
section
variable {P : Program} {w : World} {K : PySem.W.Frag} {mg : Str → Option Value} {base : Heap}
theorem bndD1 {K : PySem.W.Frag} {x qual : Str} {params : Arguments} {body : List Stmt} {scope : Scope} {dvs : List V} {kws : List (Str × V)} {f : Addr} {fd : FuncData} {ps : List Str} (F : FunD K x qual params body scope dvs kws f fd) (hd : dvs.length = 1)
    (h : ∀ (T : Addr) (kV doc pm : Value) (an : Option Addr) (cdv ct : Value) (us its : List Value), us.length = ps.length → its.length = 1 → ∃ k, bindArgs (PySem.W.fnOf x qual params body scope (.ref T) kV doc pm an cdv ct) ⟨us, []⟩ = seqItems? (.ref T) >>= k ∧ k (some its.toArray) = pure (ps.zip us)) : Bnd K fd ps ps.length [] (· ++ ·) := by
  obtain ⟨ds, r, b⟩ := F.binds1 (ps := ps) ps.length 1 (fun e => by rw [e] at hd; cases hd) (by rw [hd]; omega) (fun T kV doc pm an cdv ct us its h1 h2 => by
    obtain ⟨k, e1, e2⟩ := h T kV doc pm an cdv ct us its h1 (h2.trans hd)
    refine ⟨k, e1, ?_⟩
    rw [List.drop_of_length_le (by omega), List.append_nil]
    exact e2)
  rw [List.drop_of_length_le (by omega)] at r
  cases r
  refine ⟨fun us ws => us ++ ws, fun vs ys => vs ++ ys, fun s us ws hK h1 h2 => ?_, fun _ _ _ _ r1 r2 => r1.append r2, fun _ _ _ _ _ r1 r2 => r1.append r2⟩
  obtain rfl := List.eq_nil_of_length_eq_zero h2
  have := b s us hK (by simpa using h1)
  rw [List.append_nil] at this
  simpa using this
theorem wi_enumSq {Y : Bd} {ss : List S} {M : Mm} {e : Expr} {d : D} {ds : List D} {R : List D → (Mm → Prop) → Mm → Prop} {p tpos pos : Pos} {elts : List Expr} {kk : Nat} (hd : d = .tup ds ∨ d = .lst ds) (hm : Y.X.mg "enumerate" = none) (h : WE Y e ss M fun x M => x = d ∧ R (enumD ds) L0 M) (hg : Gl Y.X "enumerate" := by rfl) (hs : starEach [e] Y.X.env = [(false, eval e Y.X.env)] := by rfl) (h1 : starEach (e :: []) Y.X.env = (false, eval e Y.X.env) :: starEach [] Y.X.env := by rfl) :
    WI Y (.Tuple elts kk tpos) (.Call (.Name "enumerate" p) [e] [] pos) ss M R := by
  rcases hd with rfl | rfl
  · exact wi_enumT hm (h.mono fun x M q => ⟨ds, q.1, q.2⟩) hg hs h1
  · exact wi_enum hm (h.mono fun x M q => ⟨ds, q.1, q.2⟩) hg hs h1
abbrev cZone (K : PySem.W.Frag) : Addr := He.ga K "Zone"
def zfs (K : PySem.W.Frag) (n : Nat) (wd : Int) (rs : List Rw) : List (Str × D) := [("points", .int n), ("width", .int wd), ("rows", .tup (rs.map (rD K))), ("gaps", gapO n (ZM.gapsOf wd rs))]
abbrev zD (K : PySem.W.Frag) (n : Nat) (wd : Int) (rs : List Rw) : D := .obj (cZone K) (zfs K n wd rs)
def SZone (K : PySem.W.Frag) : Sd := fun ds M P _ => ∃ (x : Addr) (n : Nat) (wd : Int) (d : D) (rs : List Rw), ds = [.rf x, .int n, .int wd, d] ∧ M x = some (.ins (cZone K) []) ∧ 1 ≤ n ∧ n ≤ 12 ∧ 0 ≤ wd ∧ wd ≤ 999999 ∧ (d = .tup (rs.map (rD K)) ∨ d = .lst (rs.map (rD K))) ∧ rs.length ≤ 1000 ∧ (∀ r ∈ rs, r.one < n ∧ r.other < n) ∧ P .non (mup M x (.ins (cZone K) (zfs K n wd (onceR rs))))
theorem len_SZone : ∀ ds M P EE, SZone K ds M P EE → ds.length = 4 := fun ds M P EE ⟨_, _, _, _, _, e, _⟩ => by rw [e]; rfl
abbrev N_zi : List Str := ["self", "points", "width", "rows", "index", "row"]
theorem sc_Zone_init : FnScope N_zi ["self", "points", "width", "rows"] (defScope s_Zone_init) := ⟨rfl, rfl, rfl, by decide +kernel, rfl, by decide +kernel, by decide +kernel⟩
theorem fg_Zone (T : Tx K mg) : ∃ fd, FunD K "__init__" "Zone.__init__" (defArgs s_Zone_init) (defBody s_Zone_init) (defScope s_Zone_init) (d_Zone_init.dvs K) [] (He.ma K (He.ga K "Zone") "__init__") fd ∧ FnG P w K mg base 4 (He.ma K (He.ga K "Zone") "__init__") fd ["self", "points", "width", "rows"] (spD K (SZone K)) := by
  obtain ⟨fd, F⟩ := F_Zone_init T
  refine ⟨fd, F, ?_⟩
  refine fnDD F sc_Zone_init len_SZone fun cdv A outer s H E hg hr ds M Pd EE ⟨x, n, wd, d, rs, e, em, hn0, hn, hw0, hw1, hd, hz, hrs, q⟩ => ?_
  subst e
  have nd := sc_Zone_init.nd
  obtain ⟨t1, gp⟩ := int_MOST_POINTS T
  obtain ⟨t2, gw⟩ := int_MOST_WIDTH T
  have cl := cls_Zone T
  fail; fail
  refine wt_not (wt_val ?_)
  refine we_fn (kf_is_between T) hg (hr.mono (by decide)) ?_ rfl (hlen := len_SBtw)
  repeat fail
  refine we_gint gp ?_
  fail
  refine ⟨.int n, _, _, rfl, rfl, _, rfl, iteB (fun h => ?_) fun _ => ?_⟩
  · rw [btw_ok ⟨by omega, by omega⟩] at h; cases h
  fail; fail; fail
  refine wt_not (wt_val ?_)
  refine we_fn (kf_is_between T) hg (hr.mono (by decide)) ?_ rfl (hlen := len_SBtw)
  repeat fail
  refine we_gint gw ?_
  fail
  refine ⟨.int wd, _, _, rfl, rfl, _, rfl, iteB (fun h => ?_) fun _ => ?_⟩
  · rw [btw_ok ⟨hw0, hw1⟩] at h; cases h
  fail; fail; fail
  refine wt_not (wt_val ?_)
  refine we_fn (kf_is_series T) hg (hr.mono (by decide)) ?_ rfl (hlen := len_SSer)
  fail; fail; fail
  refine ⟨d, rfl, by rcases hd with rfl | rfl <;> rfl, by rcases hd with rfl | rfl <;> first | exact .inr rfl | exact .inl rfl, _, rfl, iteB (fun h => Bool.noConfusion h) fun _ => ?_⟩
  fail; fail
  refine ws_for (T := [4] ++ ([5] ++ [])) (passes_of rfl) rfl ?_
  refine wi_enumSq hd (free_enumerate T) ?_
  fail
  refine ⟨rfl, fun k ss' M' => ∃ s4 s5 : S, ss' = [some (.rf x), some (.int n), some (.int wd), some d, s4, s5] ∧ M' = M, ⟨none, none, rfl, rfl⟩, fun _ _ _ _ => trivial, fun k d' ss' M' hd' iv => ?_, fun ss' M' iv => ?_⟩
  · obtain ⟨s4, s5, rfl, rfl⟩ := iv
    obtain ⟨d2, hd2, rfl⟩ := enumD_get hd'
    obtain ⟨r, hr', rfl⟩ := map_at hd2
    obtain ⟨h1, h2⟩ := hrs r (List.mem_of_getElem? hr')
    refine wg_tup rfl (wgs_cons (wg_name 4 nd (wgs_cons (wg_name 5 nd (wgs_nil ?_)))))
    fail; fail
    refine wt_not (wt_val ?_)
    refine we_fn (kf_is_row_below T) hg (hr.mono (by decide)) ?_ rfl (hlen := len_SBelow)
    fail; fail; fail; fail; fail
    refine ⟨r, n, rfl, h1, h2, _, rfl, iteB (fun h => Bool.noConfusion h) fun _ => ?_⟩
    fail; fail
    exact ⟨_, _, rfl, rfl⟩
  obtain ⟨s4, s5, rfl, rfl⟩ := iv
  fail
  refine ws_fld ?_
  fail; fail
  refine ⟨x, _, [], rfl, em, cl, no_Zone_points T, by decide, ?_⟩
  fail
  refine ws_fld ?_
  fail; fail
  refine ⟨x, _, _, rfl, mup_same, cl, no_Zone_width T, of_decide_eq_true rfl, ?_⟩
  fail
  refine ws_fld ?_
  refine we_fn (kf_without_repeats T) hg (hr.mono (by decide)) ?_ rfl (hlen := len_SOnce)
  fail; fail; fail
  refine ⟨d, rs, rfl, hd, hz, ?_⟩
  fail
  refine ⟨x, _, _, rfl, mup_same, cl, no_Zone_rows T, of_decide_eq_true rfl, ?_⟩
  fail
  refine ws_fld ?_
  refine we_fn (kf_gaps_of T) hg (hr.mono (by decide)) ?_ rfl (hlen := len_SGaps)
  fail; fail; fail; fail; fail
  refine we_fld ?_
  fail
  refine ⟨_, _, _, OAt.rf mup_same, cl, no_Zone_rows T, rfl, ?_⟩
  fail
  refine ⟨n, wd, onceR rs, rfl, hn, fun r hr' => hrs r (once_mem.mp hr'), ?_⟩
  fail
  refine ⟨x, _, _, rfl, mup_same, cl, no_Zone_gaps T, of_decide_eq_true rfl, ?_⟩
  fail
  rw [mup_mup, mup_mup, mup_mup]
  exact q
theorem kc_Zone (T : Tx K mg) : KC P w K mg base 4 "Zone" (cZone K) 3 [] (SZone K) := by
  obtain ⟨fd, F, G⟩ := fg_Zone T
  exact ⟨_, fd, ["self", "points", "width", "rows"], G, bndD1 F rfl (fun T kV doc pm an cdv ct us its h1 h2 => match us, its, h1, h2 with | [_, _, _, _], [_], _, _ => ⟨_, rfl, rfl⟩), mk_Zone T, g_Zone T⟩
end
end K05

set_option Elab.async false
set_option linter.all false
set_option maxRecDepth 100000
set_option maxHeartbeats 1000000
namespace K05
open PySem PySem.Spec PyProof.Rows L2 JQ
local macro_rules | `(tactic| fail) => `(tactic| first | refine o_add ?_ | refine o_sub ?_ | refine o_lt ?_ | refine o_le ?_ | refine o_gt ?_ | refine o_ge ?_ | refine o_eqI ?_ | refine o_neI ?_)
local macro_rules | `(tactic| fail) => `(tactic| first | refine wa_cons ?_ | refine wa_nil ?_ | refine wk_cons ?_ | refine wk_nil ?_)
local macro_rules | `(tactic| fail) => `(tactic| first | refine wt_cmp ?_ | refine wt_chain ?_ | refine wt_not ?_ | refine wt_and2 ?_ | refine wt_or2 ?_)
local macro_rules | `(tactic| fail) => `(tactic| first | refine we_int ?_ | refine we_str ?_ | refine we_bl ?_ | refine we_non ?_ | refine we_tup ?_ | refine we_bin ?_ | refine we_cmp ?_ | refine we_chain ?_ | refine we_not ?_ | refine we_un ?_ | refine we_and ?_ | refine we_or ?_ | refine we_one ?_ | refine we_ifx ?_)
local macro_rules | `(tactic| fail) => `(tactic| first | refine we_var 0 (by rfl) ?_ | refine we_var 1 (by rfl) ?_ | refine we_var 2 (by rfl) ?_ | refine we_var 3 (by rfl) ?_ | refine we_var 4 (by rfl) ?_ | refine we_var 5 (by rfl) ?_ | refine we_var 6 (by rfl) ?_ | refine we_var 7 (by rfl) ?_ | refine we_var 8 (by rfl) ?_ | refine we_var 9 (by rfl) ?_ | refine we_var 10 (by rfl) ?_ | refine we_var 11 (by rfl) ?_)
local macro_rules | `(tactic| fail) => `(tactic| first | refine ws_ret ?_ | refine ws_retN ?_ | refine ws_if ?_ | refine ws_expr ?_ | refine ws_set 0 (by assumption) ?_ | refine ws_set 1 (by assumption) ?_ | refine ws_set 2 (by assumption) ?_ | refine ws_set 3 (by assumption) ?_ | refine ws_set 4 (by assumption) ?_ | refine ws_set 5 (by assumption) ?_ | refine ws_set 6 (by assumption) ?_ | refine ws_set 7 (by assumption) ?_ | refine ws_set 8 (by assumption) ?_ | refine ws_set 9 (by assumption) ?_ | refine ws_set 10 (by assumption) ?_ | refine ws_set 11 (by assumption) ?_)
local macro_rules | `(tactic| fail) => `(tactic| first | refine wss_cons ?_ | refine wss_nil ?_)
section
variable {P : Program} {w : World} {K : PySem.W.Frag} {mg : Str → Option Value} {base : Heap}
/-! ### rings and chains as objects, what a zone tells -/
abbrev cRing (K : PySem.W.Frag) : Addr := He.ga K "Ring"
abbrev cChain (K : PySem.W.Frag) : Addr := He.ga K "Chain"
abbrev ringD (K : PySem.W.Frag) (rs : List Rw) : D := .obj (cRing K) [("rows", .tup (rs.map (rD K)))]
abbrev chainD (K : PySem.W.Frag) (rs : List Rw) : D := .obj (cChain K) [("rows", .tup (rs.map (rD K)))]
def SHold (C : Addr) : Sd := fun ds M P _ => ∃ (x : Addr) (d : D), ds = [.rf x, d] ∧ M x = some (.ins C []) ∧ P .non (mup M x (.ins C [("rows", d)]))
theorem len_SHold {C : Addr} : ∀ ds M P EE, SHold C ds M P EE → ds.length = 2 := fun ds M P EE ⟨_, _, e, _⟩ => by rw [e]; rfl
theorem sc_Ring_init : FnScope ["self", "rows"] ["self", "rows"] (defScope s_Ring_init) := ⟨rfl, rfl, rfl, by decide +kernel, rfl, by decide +kernel, by decide +kernel⟩
theorem sc_Chain_init : FnScope ["self", "rows"] ["self", "rows"] (defScope s_Chain_init) := ⟨rfl, rfl, rfl, by decide +kernel, rfl, by decide +kernel, by decide +kernel⟩
theorem kc_Ring (T : Tx K mg) : KC P w K mg base 1 "Ring" (cRing K) 1 [] (SHold (cRing K)) := by
  obtain ⟨fd, F⟩ := F_Ring_init T
  refine ⟨_, fd, ["self", "rows"], ?_, bndD F 2 [] (fun _ _ _ _ _ _ us ws h1 h2 => match us, ws, h1, h2 with | [_, _], [], _, _ => rfl), mk_Ring T, g_Ring T⟩
  refine fnDD F sc_Ring_init len_SHold fun cdv A outer s H E hg hr ds M Pd EE ⟨x, d, e, em, q⟩ => ?_
  subst e
  fail
  refine ws_fld ?_
  fail; fail
  refine ⟨x, _, [], rfl, em, cls_Ring T, no_Ring_rows T, by decide, ?_⟩
  fail
  exact q
theorem kc_Chain (T : Tx K mg) : KC P w K mg base 1 "Chain" (cChain K) 1 [] (SHold (cChain K)) := by
  obtain ⟨fd, F⟩ := F_Chain_init T
  refine ⟨_, fd, ["self", "rows"], ?_, bndD F 2 [] (fun _ _ _ _ _ _ us ws h1 h2 => match us, ws, h1, h2 with | [_, _], [], _, _ => rfl), mk_Chain T, g_Chain T⟩
  refine fnDD F sc_Chain_init len_SHold fun cdv A outer s H E hg hr ds M Pd EE ⟨x, d, e, em, q⟩ => ?_
  subst e
  fail
  refine ws_fld ?_
  fail; fail
  refine ⟨x, _, [], rfl, em, cls_Chain T, no_Chain_rows T, by decide, ?_⟩
  fail
  exact q
def SGap (K : PySem.W.Frag) : Sd := fun ds M P _ => ∃ (n : Nat) (wd : Int) (rs : List Rw) (i j : Nat) (g : Gp), ds = [zD K n wd rs, .int i, .int j] ∧ n ≤ 12 ∧ i < n ∧ j < n ∧ ZM.gapsOf wd rs = some g ∧ P (.int (g i j)) M
theorem len_SGap : ∀ ds M P EE, SGap K ds M P EE → ds.length = 3 := fun ds M P EE ⟨_, _, _, _, _, _, e, _⟩ => by rw [e]; rfl
theorem sc_Zone_gap : FnScope ["self", "one", "other"] ["self", "one", "other"] (defScope s_Zone_gap) := ⟨rfl, rfl, rfl, by decide +kernel, rfl, by decide +kernel, by decide +kernel⟩
theorem km_gap (T : Tx K mg) : KM P w K mg base 3 (cZone K) "gap" 2 [] (SGap K) := by
  obtain ⟨fd, F⟩ := F_Zone_gap T
  refine ⟨_, fd, ["self", "one", "other"], ?_, bndD F 3 [] (fun _ _ _ _ _ _ us ws h1 h2 => match us, ws, h1, h2 with | [_, _, _], [], _, _ => rfl), cls_Zone T, me_Zone_gap T⟩
  refine fnDD F sc_Zone_gap len_SGap fun cdv A outer s H E hg hr ds M Pd EE ⟨n, wd, rs, i, j, g, e, hn, hi, hj, eg, q⟩ => ?_
  subst e
  have cl := cls_Zone T
  fail; fail
  refine wt_not (wt_val ?_)
  refine we_fn (kf_is_between T) hg (hr.mono (by decide)) ?_ rfl (hlen := len_SBtw)
  fail; fail; fail; fail; fail; fail
  refine we_fld ?_
  fail
  refine ⟨_, _, _, OAt.obj, cl, no_Zone_points T, rfl, ?_⟩
  fail; fail; fail
  refine ⟨.int i, _, _, rfl, rfl, _, rfl, iteB (fun h => ?_) fun _ => ?_⟩
  · rw [btw_ok ⟨by omega, by omega⟩] at h; cases h
  fail; fail; fail
  refine wt_not (wt_val ?_)
  refine we_fn (kf_is_between T) hg (hr.mono (by decide)) ?_ rfl (hlen := len_SBtw)
  fail; fail; fail; fail; fail; fail
  refine we_fld ?_
  fail
  refine ⟨_, _, _, OAt.obj, cl, no_Zone_points T, rfl, ?_⟩
  fail; fail; fail
  refine ⟨.int j, _, _, rfl, rfl, _, rfl, iteB (fun h => ?_) fun _ => ?_⟩
  · rw [btw_ok ⟨by omega, by omega⟩] at h; cases h
  fail; fail; fail; fail
  refine we_fld ?_
  fail
  refine ⟨_, _, _, OAt.obj, cl, no_Zone_gaps T, rfl, ?_⟩
  rw [eg]
  fail
  refine o_isN' rfl ?_
  refine ⟨_, rfl, iteB (fun h => Bool.noConfusion h) fun _ => ?_⟩
  fail; fail; fail
  refine we_ix ?_
  refine we_ix ?_
  refine we_fld ?_
  fail
  refine ⟨_, _, _, OAt.obj, cl, no_Zone_gaps T, rfl, ?_⟩
  rw [eg]
  fail
  refine ⟨i, gapRow n g i, rfl, atI_of (ix_range hi), ?_⟩
  fail
  refine ⟨j, .int (g i j), rfl, atI_of (ix_range hj), ?_⟩
  exact q
def SLoM (K : PySem.W.Frag) : Sd := fun ds M P _ => ∃ (n : Nat) (wd : Int) (rs : List Rw) (g : Gp), ds = [zD K n wd rs] ∧ 1 ≤ n ∧ n ≤ 12 ∧ ZM.gapsOf wd rs = some g ∧ P (.tup ((List.range n).map fun j => .int (-(g 0 j)))) M
def SHiM (K : PySem.W.Frag) : Sd := fun ds M P _ => ∃ (n : Nat) (wd : Int) (rs : List Rw) (g : Gp), ds = [zD K n wd rs] ∧ 1 ≤ n ∧ n ≤ 12 ∧ ZM.gapsOf wd rs = some g ∧ P (.tup ((List.range n).map fun i => .int (g i 0))) M
theorem len_SLoM : ∀ ds M P EE, SLoM K ds M P EE → ds.length = 1 := fun ds M P EE ⟨_, _, _, _, e, _⟩ => by rw [e]; rfl
theorem len_SHiM : ∀ ds M P EE, SHiM K ds M P EE → ds.length = 1 := fun ds M P EE ⟨_, _, _, _, e, _⟩ => by rw [e]; rfl
theorem sc_Zone_lowest : FnScope ["self"] ["self"] (defScope s_Zone_lowest) := ⟨rfl, rfl, rfl, by decide +kernel, rfl, by decide +kernel, by decide +kernel⟩
theorem sc_Zone_highest : FnScope ["self"] ["self"] (defScope s_Zone_highest) := ⟨rfl, rfl, rfl, by decide +kernel, rfl, by decide +kernel, by decide +kernel⟩
theorem km_lowest (T : Tx K mg) : KM P w K mg base 2 (cZone K) "lowest" 0 [] (SLoM K) := by
  obtain ⟨fd, F⟩ := F_Zone_lowest T
  refine ⟨_, fd, ["self"], ?_, bndD F 1 [] (fun _ _ _ _ _ _ us ws h1 h2 => match us, ws, h1, h2 with | [_], [], _, _ => rfl), cls_Zone T, me_Zone_lowest T⟩
  refine fnDD F sc_Zone_lowest len_SLoM fun cdv A outer s H E hg hr ds M Pd EE ⟨n, wd, rs, g, e, h0, hn, eg, q⟩ => ?_
  subst e
  have cl := cls_Zone T
  fail; fail; fail
  refine we_fld ?_
  fail
  refine ⟨_, _, _, OAt.obj, cl, no_Zone_gaps T, rfl, ?_⟩
  rw [eg]
  fail
  refine o_isN' rfl ?_
  refine ⟨_, rfl, iteB (fun h => Bool.noConfusion h) fun _ => ?_⟩
  fail; fail; fail
  refine we_fn (kf_lowest_of T) hg (hr.mono (by decide)) ?_ rfl (hlen := len_SLow)
  fail
  refine we_fld ?_
  fail
  refine ⟨_, _, _, OAt.obj, cl, no_Zone_gaps T, rfl, ?_⟩
  rw [eg]
  fail
  exact ⟨n, g, rfl, h0, hn, q⟩
theorem km_highest (T : Tx K mg) : KM P w K mg base 2 (cZone K) "highest" 0 [] (SHiM K) := by
  obtain ⟨fd, F⟩ := F_Zone_highest T
  refine ⟨_, fd, ["self"], ?_, bndD F 1 [] (fun _ _ _ _ _ _ us ws h1 h2 => match us, ws, h1, h2 with | [_], [], _, _ => rfl), cls_Zone T, me_Zone_highest T⟩
  refine fnDD F sc_Zone_highest len_SHiM fun cdv A outer s H E hg hr ds M Pd EE ⟨n, wd, rs, g, e, h0, hn, eg, q⟩ => ?_
  subst e
  have cl := cls_Zone T
  fail; fail; fail
  refine we_fld ?_
  fail
  refine ⟨_, _, _, OAt.obj, cl, no_Zone_gaps T, rfl, ?_⟩
  rw [eg]
  fail
  refine o_isN' rfl ?_
  refine ⟨_, rfl, iteB (fun h => Bool.noConfusion h) fun _ => ?_⟩
  fail; fail; fail
  refine we_fn (kf_highest_of T) hg (hr.mono (by decide)) ?_ rfl (hlen := len_SHigh)
  fail
  refine we_fld ?_
  fail
  refine ⟨_, _, _, OAt.obj, cl, no_Zone_gaps T, rfl, ?_⟩
  rw [eg]
  fail
  exact ⟨n, g, rfl, h0, hn, q⟩
def SBool (K : PySem.W.Frag) : Sd := fun ds M P _ => ∃ (n : Nat) (wd : Int) (rs : List Rw), ds = [zD K n wd rs] ∧ P (.bl (ZM.gapsOf wd rs).isSome) M
theorem len_SBool : ∀ ds M P EE, SBool K ds M P EE → ds.length = 1 := fun ds M P EE ⟨_, _, _, e, _⟩ => by rw [e]; rfl
theorem sc_Zone_bool : FnScope ["self"] ["self"] (defScope s_Zone_bool) := ⟨rfl, rfl, rfl, by decide +kernel, rfl, by decide +kernel, by decide +kernel⟩
theorem ko_Zone_bool (T : Tx K mg) : KO P w K mg base 1 (cZone K) "__bool__" 1 (SBool K) := by
  obtain ⟨fd, F⟩ := F_Zone_bool T
  refine ⟨_, fd, ["self"], ?_, fun s us hl => F.bindsA (ps := ["self"]) (fun _ _ _ _ _ _ us hl => match us, hl with | [_], _ => rfl) s us hl, cls_Zone T, me_Zone_bool T⟩
  refine fnDD F sc_Zone_bool len_SBool fun cdv A outer s H E hg hr ds M Pd EE ⟨n, wd, rs, e, q⟩ => ?_
  subst e
  have cl := cls_Zone T
  fail; fail; fail
  refine we_fld ?_
  fail
  refine ⟨_, _, _, OAt.obj, cl, no_Zone_gaps T, rfl, ?_⟩
  fail
  match eg : ZM.gapsOf wd rs with
  | none =>
    rw [eg] at q
    refine o_ntN ?_
    exact q
  | some g =>
    rw [eg] at q
    refine o_ntN' rfl ?_
    exact q
def SHas (K : PySem.W.Frag) : Sd := fun ds M P _ => ∃ (n : Nat) (wd : Int) (rs : List Rw) (r : Rw), ds = [zD K n wd rs, rD K r] ∧ r.one < n ∧ r.other < n ∧ P (.bl (match ZM.gapsOf wd rs with | none => true | some g => decide (g r.one r.other ≤ r.most))) M
theorem len_SHas : ∀ ds M P EE, SHas K ds M P EE → ds.length = 2 := fun ds M P EE ⟨_, _, _, _, e, _⟩ => by rw [e]; rfl
theorem sc_Zone_contains : FnScope ["self", "x"] ["self", "x"] (defScope s_Zone_contains) := ⟨rfl, rfl, rfl, by decide +kernel, rfl, by decide +kernel, by decide +kernel⟩
theorem ko_Zone_contains (T : Tx K mg) : KO P w K mg base 2 (cZone K) "__contains__" 2 (SHas K) := by
  obtain ⟨fd, F⟩ := F_Zone_contains T
  refine ⟨_, fd, ["self", "x"], ?_, fun s us hl => F.bindsA (ps := ["self", "x"]) (fun _ _ _ _ _ _ us hl => match us, hl with | [_, _], _ => rfl) s us hl, cls_Zone T, me_Zone_contains T⟩
  refine fnDD F sc_Zone_contains len_SHas fun cdv A outer s H E hg hr ds M Pd EE ⟨n, wd, rs, r, e, h1, h2, q⟩ => ?_
  subst e
  have cl := cls_Zone T
  have cr := cls_Row T
  fail; fail
  refine wt_not (wt_val ?_)
  refine we_fn (kf_is_row_below T) hg (hr.mono (by decide)) ?_ rfl (hlen := len_SBelow)
  fail; fail; fail
  refine we_fld ?_
  fail
  refine ⟨_, _, _, OAt.obj, cl, no_Zone_points T, rfl, ?_⟩
  fail
  refine ⟨r, n, rfl, h1, h2, _, rfl, iteB (fun h => Bool.noConfusion h) fun _ => ?_⟩
  fail; fail; fail; fail; fail
  refine we_fld ?_
  fail
  refine ⟨_, _, _, OAt.obj, cl, no_Zone_gaps T, rfl, ?_⟩
  fail
  match eg : ZM.gapsOf wd rs with
  | none =>
    rw [eg] at q
    refine o_isN ?_
    refine ⟨_, rfl, iteB (fun _ => ?_) fun h => Bool.noConfusion h⟩
    exact q
  | some g =>
    rw [eg] at q
    refine o_isN' rfl ?_
    refine ⟨_, rfl, iteB (fun h => Bool.noConfusion h) fun _ => ?_⟩
    fail; fail
    refine we_ix ?_
    refine we_ix ?_
    refine we_fld ?_
    fail
    refine ⟨_, _, _, OAt.obj, cl, no_Zone_gaps T, rfl, ?_⟩
    rw [eg]
    refine we_fld ?_
    fail
    refine ⟨_, _, _, OAt.obj, cr, no_Row_one T, rfl, ?_⟩
    refine ⟨r.one, gapRow n g r.one, rfl, atI_of (ix_range h1), ?_⟩
    refine we_fld ?_
    fail
    refine ⟨_, _, _, OAt.obj, cr, no_Row_other T, rfl, ?_⟩
    refine ⟨r.other, .int (g r.one r.other), rfl, atI_of (ix_range h2), ?_⟩
    refine we_fld ?_
    fail
    refine ⟨_, _, _, OAt.obj, cr, no_Row_most T, rfl, ?_⟩
    fail
    exact q
def SAnd (K : PySem.W.Frag) : Sd := fun ds M P _ => ∃ (n : Nat) (wd : Int) (rs : List Rw) (r : Rw), ds = [zD K n wd rs, rD K r] ∧ 1 ≤ n ∧ n ≤ 12 ∧ 0 ≤ wd ∧ wd ≤ 999999 ∧ rs.length ≤ 900 ∧ (∀ r ∈ rs, r.one < n ∧ r.other < n) ∧ r.one < n ∧ r.other < n ∧ P (zD K n wd (onceR (rs ++ [r]))) M
theorem len_SAnd : ∀ ds M P EE, SAnd K ds M P EE → ds.length = 2 := fun ds M P EE ⟨_, _, _, _, e, _⟩ => by rw [e]; rfl
theorem sc_Zone_and : FnScope ["self", "other"] ["self", "other"] (defScope s_Zone_and) := ⟨rfl, rfl, rfl, by decide +kernel, rfl, by decide +kernel, by decide +kernel⟩
theorem ko_Zone_and0 (T : Tx K mg) : KO P w K mg base 6 (cZone K) "__and__" 2 (SAnd K) := by
  obtain ⟨fd, F⟩ := F_Zone_and T
  refine ⟨_, fd, ["self", "other"], ?_, fun s us hl => F.bindsA (ps := ["self", "other"]) (fun _ _ _ _ _ _ us hl => match us, hl with | [_, _], _ => rfl) s us hl, cls_Zone T, me_Zone_and T⟩
  refine fnDD F sc_Zone_and len_SAnd fun cdv A outer s H E hg hr ds M Pd EE ⟨n, wd, rs, r, e, hn0, hn, hw0, hw1, hz, hrs, h1, h2, q⟩ => ?_
  subst e
  have cl := cls_Zone T
  fail; fail
  refine wt_val ?_
  refine we_fn (kf_is_row_below T) hg (hr.mono (by decide)) ?_ rfl (hlen := len_SBelow)
  fail; fail; fail
  refine we_fld ?_
  fail
  refine ⟨_, _, _, OAt.obj, cl, no_Zone_points T, rfl, ?_⟩
  fail
  refine ⟨r, n, rfl, h1, h2, _, rfl, iteB (fun _ => ?_) fun h => Bool.noConfusion h⟩
  fail; fail
  refine we_frzO ?_
  refine we_mk (kc_Zone T) hg (hr.mono (by decide)) ?_
  fail
  refine we_fld ?_
  fail
  refine ⟨_, _, _, OAt.obj, cl, no_Zone_points T, rfl, ?_⟩
  fail
  refine we_fld ?_
  fail
  refine ⟨_, _, _, OAt.obj, cl, no_Zone_width T, rfl, ?_⟩
  fail; fail
  refine we_fld ?_
  fail
  refine ⟨_, _, _, OAt.obj, cl, no_Zone_rows T, rfl, ?_⟩
  fail; fail; fail; fail
  refine ⟨(by decide : 1 ≤ sizeLine), ?_⟩
  refine o_catT ?_ ?_
  · rw [List.length_map]
    exact Nat.le_trans (by simp; omega : _ ≤ 901) (by decide)
  fail
  refine ⟨rfl, fun a ha => ?_⟩
  refine ⟨a, n, wd, _, rs ++ [r], rfl, mup_same, hn0, hn, hw0, hw1, .inl (by rw [List.map_append]; rfl), by rw [List.length_append]; simp; omega, fun r' hr' => ?_, ?_⟩
  · rcases List.mem_append.mp hr' with h | h
    · exact hrs r' h
    · rw [List.mem_singleton.mp h]
      exact ⟨h1, h2⟩
  rw [mup_mup]
  exact ⟨rfl, a, rfl, _, _, mup_same, by rw [mdel_mup ha]; exact q⟩
end
end K05

set_option Elab.async false
set_option linter.all false
set_option maxRecDepth 100000
set_option maxHeartbeats 1000000
namespace K05
open PySem PySem.Spec PyProof.Rows L2 JQ
section
variable {P : Program} {w : World} {K : PySem.W.Frag} {mg : Str → Option Value} {base : Heap}
/-! ### what is refused, and what else a zone is asked -/
theorem sc_BadValue_init : FnScope ["self", "what"] ["self", "what"] (defScope s_BadValue_init) := ⟨rfl, rfl, rfl, by decide +kernel, rfl, by decide +kernel, by decide +kernel⟩
abbrev cBad (K : PySem.W.Frag) : Addr := He.ga K "BadValue"
theorem err_Bad (T : Tx K mg) (X : Cx) (e1 : X.prog = P) (e2 : X.w = w) (e3 : X.K = K) (e4 : X.mg = mg) (e5 : X.base = base) (hr : Room 2 X.A) : ErrT X (cBad K) "BadValue" ["what"] := by
  subst e1 e2 e3 e4 e5
  obtain ⟨fd, F⟩ := F_BadValue_init T
  exact ⟨oex_BadValue T, g_BadValue T, _, fd, ["self", "what"], 1, ini_BadValue T, tyi_BadValue T, err1D F sc_BadValue_init rfl (oex_BadValue T) (nof_BadValue_what T) (fun cdv A outer s H E => pss_one (ps_ost (pv 0) (pv 1))), hr, F.bindsN (fun _ _ _ _ _ _ us hl => match us, hl with | [_, _], _ => rfl)⟩
def SRowN (K : PySem.W.Frag) : Sd := fun ds M P _ => ∃ a b m, ds = [.int a, .int b, .int m] ∧ 0 ≤ a ∧ a ≤ 11 ∧ 0 ≤ b ∧ b ≤ 11 ∧ a ≠ b ∧ -1000000 ≤ m ∧ m ≤ 999999 ∧ P (rowD K a b m) M
theorem kn_Row (T : Tx K mg) : KN P w K mg base 3 "Row" (cRow K) 3 (SRowN K) := ⟨_, kc_Row T, fun x ds M P' EE hx ⟨a, b, m, e, h1, h2, h3, h4, h5, h6, h7, q⟩ => by
  subst e
  refine ⟨x, a, b, m, rfl, mup_same, h1, h2, h3, h4, h5, h6, h7, ?_⟩
  rw [mup_mup]
  refine ⟨rfl, x, rfl, _, _, mup_same, ?_⟩
  rw [mdel_mup hx]
  exact q⟩
def SRingN (K : PySem.W.Frag) : Sd := fun ds M P _ => ∃ d, ds = [d] ∧ P (.obj (cRing K) [("rows", d)]) M
theorem kn_Ring (T : Tx K mg) : KN P w K mg base 1 "Ring" (cRing K) 1 (SRingN K) := ⟨_, kc_Ring T, fun x ds M P' EE hx ⟨d, e, q⟩ => by
  subst e
  refine ⟨x, d, rfl, mup_same, ?_⟩
  rw [mup_mup]
  refine ⟨rfl, x, rfl, _, _, mup_same, ?_⟩
  rw [mdel_mup hx]
  exact q⟩
def SChainN (K : PySem.W.Frag) : Sd := fun ds M P _ => ∃ d, ds = [d] ∧ P (.obj (cChain K) [("rows", d)]) M
theorem kn_Chain (T : Tx K mg) : KN P w K mg base 1 "Chain" (cChain K) 1 (SChainN K) := ⟨_, kc_Chain T, fun x ds M P' EE hx ⟨d, e, q⟩ => by
  subst e
  refine ⟨x, d, rfl, mup_same, ?_⟩
  rw [mup_mup]
  refine ⟨rfl, x, rfl, _, _, mup_same, ?_⟩
  rw [mdel_mup hx]
  exact q⟩
/-- what is asked of a zone's arguments -/
def ZArgs (K : PySem.W.Frag) (n : Nat) (wd : Int) (d : D) (rs : List Rw) : Prop := 1 ≤ n ∧ n ≤ 12 ∧ 0 ≤ wd ∧ wd ≤ 999999 ∧ (d = .tup (rs.map (rD K)) ∨ d = .lst (rs.map (rD K))) ∧ rs.length ≤ 1000 ∧ ∀ r ∈ rs, r.one < n ∧ r.other < n
theorem zone_made {x : Addr} {M : Mm} {n : Nat} {wd : Int} {d : D} {rs : List Rw} {P' : D → Mm → Prop} {EE : EEx} (hx : M x = none) (h : ZArgs K n wd d rs) (q : P' (zD K n wd (onceR rs)) M) :
    SZone K [.rf x, .int n, .int wd, d] (mup M x (.ins (cZone K) [])) (fun v M' => v = .non ∧ ∃ a', D.rf x = .rf a' ∧ ∃ C' fs, M' a' = some (.ins C' fs) ∧ P' (.obj C' fs) (mdel M' a')) EE := by
  obtain ⟨h1, h2, h3, h4, h5, h6, h7⟩ := h
  refine ⟨x, n, wd, d, rs, rfl, mup_same, h1, h2, h3, h4, h5, h6, h7, ?_⟩
  rw [mup_mup]
  refine ⟨rfl, x, rfl, _, _, mup_same, ?_⟩
  rw [mdel_mup hx]
  exact q
def SZoneN (K : PySem.W.Frag) : Sd := fun ds M P _ => ∃ n wd d rs, ds = [.int (n : Nat), .int wd, d] ∧ ZArgs K n wd d rs ∧ P (zD K n wd (onceR rs)) M
theorem kn_Zone (T : Tx K mg) : KN P w K mg base 4 "Zone" (cZone K) 3 (SZoneN K) := ⟨_, kc_Zone T, fun x ds M P' EE hx ⟨n, wd, d, rs, e, h, q⟩ => by
  subst e
  exact zone_made hx h q⟩
theorem vals_rev : ∀ {zs : List V} {ws : List Value}, Vals zs ws → Vals zs.reverse ws.reverse
  | [], [], .nil => .nil
  | x :: xs, y :: ys, .cons a b => by
    rw [List.reverse_cons, List.reverse_cons]
    exact (vals_rev b).append (.cons a .nil)
/-- Zone(points, width), Zone(width = .., points = ..) -/
def SZone2 (K : PySem.W.Frag) : List D → List D → Mm → (D → Mm → Prop) → EEx → Prop := fun ds zs M P _ => ∃ (n : Nat) (wd : Int), ds = [.int n, .int wd] ∧ zs = [] ∧ 1 ≤ n ∧ n ≤ 12 ∧ 0 ≤ wd ∧ wd ≤ 999999 ∧ P (zD K n wd []) M
theorem kg_Zone2 (T : Tx K mg) : KNg P w K mg base 4 "Zone" (cZone K) 2 [] (SZone2 K) := by
  obtain ⟨fd, F, G⟩ := fg_Zone (P := P) (w := w) (base := base) T
  refine ⟨_, _, fd, ["self", "points", "width", "rows"], _, G, bndK F (List.cons_ne_nil _ _) 3 [] [.tup []] (iss_em (dfl_Zone_init_0 T)) (fun us its ws => us ++ its) (fun r1 r2 _ => r1.append r2) (fun r1 _ => r1.append (iss_em (dfl_Zone_init_0 T) _)) (fun T kV doc pm an cdv ct us its ws h1 h2 h3 => match us, its, ws, h1, h2, h3 with | [_, _, _], [_], [], _, _, _ => ⟨_, rfl, rfl⟩), mk_Zone T, g_Zone T, fun x ds zs M P' EE hx ⟨n, wd, e, e2, h1, h2, h3, h4, q⟩ => ?_⟩
  subst e e2
  exact zone_made (rs := []) hx ⟨h1, h2, h3, h4, .inl rfl, by decide, fun r h => absurd h List.not_mem_nil⟩ q
end
end K05

set_option Elab.async false
set_option linter.all false
set_option maxRecDepth 100000
set_option maxHeartbeats 1000000
namespace K05
open PySem PySem.Spec PyProof.Rows L2 JQ
section
variable {P : Program} {w : World} {K : PySem.W.Frag} {mg : Str → Option Value} {base : Heap}
inductive NotRow (K : PySem.W.Frag) : D → Prop
  | kn {d : D} (h : known d = true) : NotRow K d
  | zone {n : Nat} {wd : Int} {rs : List Rw} : NotRow K (zD K n wd rs)
  | ring {d : D} : NotRow K (.obj (cRing K) [("rows", d)])
def SBelow2 (K : PySem.W.Frag) : Sd := fun ds M P _ => ∃ (y : D) (n : Nat), ds = [y, .int n] ∧ ((∃ r : Rw, y = rD K r ∧ P (.bl (decide (r.one < n ∧ r.other < n))) M) ∨ (NotRow K y ∧ P (.bl false) M))
theorem len_SBelow2 : ∀ ds M P EE, SBelow2 K ds M P EE → ds.length = 2 := fun ds M P EE ⟨_, _, e, _⟩ => by rw [e]; rfl
theorem kf_below2 (T : Tx K mg) : KF P w K mg base 1 "is_row_below" 2 [] (SBelow2 K) := by
  obtain ⟨fd, F⟩ := F_is_row_below T
  refine ⟨_, fd, ["value", "points"], ?_, bndD F 2 [] (fun _ _ _ _ _ _ us ws h1 h2 => match us, ws, h1, h2 with | [_, _], [], _, _ => rfl), g_is_row_below T, F.kp⟩
  refine fnDD F sc_is_row_below len_SBelow2 fun cdv A outer s H E hg hr ds M Pd EE ⟨y, n, e, hy⟩ => ?_
  subst e
  rcases hy with ⟨r, rfl, q⟩ | ⟨ny, q⟩
  · refine wss_cons ?_
    refine ws_ret ?_
    refine we_and ?_
    refine we_callB (id := "isinstance") ?_ (free_isinstance T)
    refine wa_cons ?_
    refine we_var 0 (by rfl) ?_
    refine wa_cons ?_
    refine we_gref (g_Row T) ?_
    refine wa_nil ?_
    refine c_isi (.own _) ⟨rfl, (clsi_Row T).1⟩ (clsi_Row T).2 ?_
    refine ⟨_, rfl, ?_⟩
    refine iteT (rfl) ?_
    refine we_one ?_
    refine we_cmp ?_
    refine we_callB (id := "max") ?_ (free_max T)
    refine wa_cons ?_
    refine we_fld ?_
    refine we_var 0 (by rfl) ?_
    refine ⟨_, _, _, OAt.obj, cls_Row T, no_Row_one T, rfl, ?_⟩
    refine wa_cons ?_
    refine we_fld ?_
    refine we_var 0 (by rfl) ?_
    refine ⟨_, _, _, OAt.obj, cls_Row T, no_Row_other T, rfl, ?_⟩
    refine wa_nil ?_
    refine c_max2 rfl ?_
    refine we_var 1 (by rfl) ?_
    refine o_lt ?_
    have e : decide ((if ((r.other : Nat) : Int) > ((r.one : Nat) : Int) then ((r.other : Nat) : Int) else ((r.one : Nat) : Int)) < (n : Int)) = decide (r.one < n ∧ r.other < n) := by
      refine decide_eq_decide.mpr ?_
      split <;> omega
    rw [e]
    exact q
  · cases ny with
    | kn hk =>
      refine wss_cons ?_
      refine ws_ret ?_
      refine we_and ?_
      refine we_callB (id := "isinstance") ?_ (free_isinstance T)
      refine wa_cons ?_
      refine we_var 0 (by rfl) ?_
      refine wa_cons ?_
      refine we_gref (g_Row T) ?_
      refine wa_nil ?_
      refine c_isi (.own _) (known_ty (by assumption)) (kitB_Row T (by assumption)) ?_
      refine ⟨_, rfl, ?_⟩
      refine iteF (rfl) ?_
      exact q
    | zone =>
      refine wss_cons ?_
      refine ws_ret ?_
      refine we_and ?_
      refine we_callB (id := "isinstance") ?_ (free_isinstance T)
      refine wa_cons ?_
      refine we_var 0 (by rfl) ?_
      refine wa_cons ?_
      refine we_gref (g_Row T) ?_
      refine wa_nil ?_
      refine c_isi (.own _) ⟨rfl, (clsi_Zone T).1⟩ (kit_Zone_Row T) ?_
      refine ⟨_, rfl, ?_⟩
      refine iteF (rfl) ?_
      exact q
    | ring =>
      refine wss_cons ?_
      refine ws_ret ?_
      refine we_and ?_
      refine we_callB (id := "isinstance") ?_ (free_isinstance T)
      refine wa_cons ?_
      refine we_var 0 (by rfl) ?_
      refine wa_cons ?_
      refine we_gref (g_Row T) ?_
      refine wa_nil ?_
      refine c_isi (.own _) ⟨rfl, (clsi_Ring T).1⟩ (kit_Ring_Row T) ?_
      refine ⟨_, rfl, ?_⟩
      refine iteF (rfl) ?_
      exact q
end
end K05

set_option Elab.async false
set_option linter.all false
set_option maxRecDepth 100000
set_option maxHeartbeats 1000000
namespace K05
open PySem PySem.Spec PyProof.Rows L2 JQ
section
variable {P : Program} {w : World} {K : PySem.W.Frag} {mg : Str → Option Value} {base : Heap}
/-! ### zones put together -/
inductive Odd (K : PySem.W.Frag) (n : Nat) (wd : Int) : D → Prop
  | kn {d : D} (h : known d = true) : Odd K n wd d
  | ring {d : D} : Odd K n wd (.obj (cRing K) [("rows", d)])
  | row {r : Rw} (h : ¬ (r.one < n ∧ r.other < n)) : Odd K n wd (rD K r)
  | zone {n' : Nat} {wd' : Int} {rs' : List Rw} (h : n' ≠ n ∨ wd' ≠ wd) : Odd K n wd (zD K n' wd' rs')
def SAndG (K : PySem.W.Frag) : Sd := fun ds M P EE => ∃ (n : Nat) (wd : Int) (rs : List Rw) (y : D), ds = [zD K n wd rs, y] ∧ 1 ≤ n ∧ n ≤ 12 ∧ 0 ≤ wd ∧ wd ≤ 999999 ∧ rs.length ≤ 700 ∧ (∀ r ∈ rs, r.one < n ∧ r.other < n) ∧
  ((∃ r : Rw, y = rD K r ∧ r.one < n ∧ r.other < n ∧ P (zD K n wd (onceR (rs ++ [r]))) M) ∨ (∃ rs', y = zD K n wd rs' ∧ rs'.length ≤ 300 ∧ (∀ r ∈ rs', r.one < n ∧ r.other < n) ∧ P (zD K n wd (onceR (rs ++ rs'))) M) ∨ (Odd K n wd y ∧ EE (cBad K) [("what", .str "other")] M))
theorem len_SAndG : ∀ ds M P EE, SAndG K ds M P EE → ds.length = 2 := fun ds M P EE ⟨_, _, _, _, e, _⟩ => by rw [e]; rfl
theorem ko_Zone_and (T : Tx K mg) : KO P w K mg base 6 (cZone K) "__and__" 2 (SAndG K) := by
  obtain ⟨fd, F⟩ := F_Zone_and T
  refine ⟨_, fd, ["self", "other"], ?_, fun s us hl => F.bindsA (ps := ["self", "other"]) (fun _ _ _ _ _ _ us hl => match us, hl with | [_, _], _ => rfl) s us hl, cls_Zone T, me_Zone_and T⟩
  refine fnDD F sc_Zone_and len_SAndG fun cdv A outer s H E hg hr ds M Pd EE ⟨n, wd, rs, y, e, hn0, hn, hw0, hw1, hz, hrs, hy⟩ => ?_
  subst e
  refine wss_cons ?_
  refine ws_if ?_
  refine wt_val ?_
  refine we_fn (kf_below2 (K := K) T) hg (hr.mono (by decide)) ?_ rfl (hlen := len_SBelow2)
  rcases hy with ⟨r, rfl, h1, h2, q⟩ | ⟨rs', rfl, hz2, hrs2, q⟩ | ⟨ho, q⟩
  · refine wa_cons ?_
    refine we_var 1 (by rfl) ?_
    refine wa_cons ?_
    refine we_fld ?_
    refine we_var 0 (by rfl) ?_
    refine ⟨_, _, _, OAt.obj, cls_Zone T, no_Zone_points T, rfl, ?_⟩
    refine wa_nil ?_
    refine ⟨_, n, rfl, .inl ⟨r, rfl, ?_⟩⟩
    rw [decide_eq_true ⟨h1, h2⟩]
    refine ⟨_, rfl, ?_⟩
    refine iteT (rfl) ?_
    refine wss_cons ?_
    refine ws_ret ?_
    refine we_new (kn_Zone (K := K) T) hg (hr.mono (by decide)) ?_
    refine wa_cons ?_
    refine we_fld ?_
    refine we_var 0 (by rfl) ?_
    refine ⟨_, _, _, OAt.obj, cls_Zone T, no_Zone_points T, rfl, ?_⟩
    refine wa_cons ?_
    refine we_fld ?_
    refine we_var 0 (by rfl) ?_
    refine ⟨_, _, _, OAt.obj, cls_Zone T, no_Zone_width T, rfl, ?_⟩
    refine wa_cons ?_
    refine we_bin ?_
    refine we_fld ?_
    refine we_var 0 (by rfl) ?_
    refine ⟨_, _, _, OAt.obj, cls_Zone T, no_Zone_rows T, rfl, ?_⟩
    refine we_tup ?_
    refine wa_cons ?_
    refine we_var 1 (by rfl) ?_
    refine wa_nil ?_
    refine ⟨(by decide : 1 ≤ sizeLine), ?_⟩
    refine o_catT ?_ ?_
    · rw [List.length_map]
      exact Nat.le_trans (by simp; omega : _ ≤ 901) (by decide)
    refine wa_nil ?_
    refine ⟨rfl, ?_⟩
    refine ⟨n, wd, _, rs ++ [r], rfl, ⟨hn0, hn, hw0, hw1, .inl (by rw [List.map_append]; rfl), by rw [List.length_append]; simp; omega, fun r' hr' => ?_⟩, q⟩
    rcases List.mem_append.mp hr' with h | h
    · exact hrs r' h
    · rw [List.mem_singleton.mp h]
      exact ⟨h1, h2⟩
  · refine wa_cons ?_
    refine we_var 1 (by rfl) ?_
    refine wa_cons ?_
    refine we_fld ?_
    refine we_var 0 (by rfl) ?_
    refine ⟨_, _, _, OAt.obj, cls_Zone T, no_Zone_points T, rfl, ?_⟩
    refine wa_nil ?_
    refine ⟨_, n, rfl, .inr ⟨.zone, ?_⟩⟩
    refine ⟨_, rfl, ?_⟩
    refine iteF (rfl) ?_
    refine wss_nil ?_
    refine wss_cons ?_
    refine ws_if ?_
    refine wt_ww (ww_or ?_)
    refine wt_not ?_
    refine wt_val ?_
    refine we_callB (id := "isinstance") ?_ (free_isinstance T)
    refine wa_cons ?_
    refine we_var 1 (by rfl) ?_
    refine wa_cons ?_
    refine we_gref (g_Zone T) ?_
    refine wa_nil ?_
    refine c_isi (.own _) ⟨rfl, (clsi_Zone T).1⟩ (clsi_Zone T).2 ?_
    refine ⟨_, rfl, ?_⟩
    refine iteF (notF (rfl)) ?_
    refine ww_or ?_
    refine wt_cmp ?_
    refine we_fld ?_
    refine we_var 1 (by rfl) ?_
    refine ⟨_, _, _, OAt.obj, cls_Zone T, no_Zone_points T, rfl, ?_⟩
    refine we_fld ?_
    refine we_var 0 (by rfl) ?_
    refine ⟨_, _, _, OAt.obj, cls_Zone T, no_Zone_points T, rfl, ?_⟩
    refine o_neI ?_
    refine ⟨_, rfl, ?_⟩
    refine iteF (notF (decide_eq_true rfl)) ?_
    refine ww_or1 ?_
    refine wt_cmp ?_
    refine we_fld ?_
    refine we_var 1 (by rfl) ?_
    refine ⟨_, _, _, OAt.obj, cls_Zone T, no_Zone_width T, rfl, ?_⟩
    refine we_fld ?_
    refine we_var 0 (by rfl) ?_
    refine ⟨_, _, _, OAt.obj, cls_Zone T, no_Zone_width T, rfl, ?_⟩
    refine o_neI ?_
    refine ⟨_, rfl, ?_⟩
    refine iteF (notF (decide_eq_true rfl)) ?_
    refine wss_nil ?_
    refine wss_cons ?_
    refine ws_ret ?_
    refine we_new (kn_Zone (K := K) T) hg (hr.mono (by decide)) ?_
    refine wa_cons ?_
    refine we_fld ?_
    refine we_var 0 (by rfl) ?_
    refine ⟨_, _, _, OAt.obj, cls_Zone T, no_Zone_points T, rfl, ?_⟩
    refine wa_cons ?_
    refine we_fld ?_
    refine we_var 0 (by rfl) ?_
    refine ⟨_, _, _, OAt.obj, cls_Zone T, no_Zone_width T, rfl, ?_⟩
    refine wa_cons ?_
    refine we_bin ?_
    refine we_fld ?_
    refine we_var 0 (by rfl) ?_
    refine ⟨_, _, _, OAt.obj, cls_Zone T, no_Zone_rows T, rfl, ?_⟩
    refine we_fld ?_
    refine we_var 1 (by rfl) ?_
    refine ⟨_, _, _, OAt.obj, cls_Zone T, no_Zone_rows T, rfl, ?_⟩
    refine o_catT ?_ ?_
    · rw [List.length_map, List.length_map]
      exact Nat.le_trans (by omega : _ ≤ 1000) (by decide)
    refine wa_nil ?_
    refine ⟨rfl, ?_⟩
    refine ⟨n, wd, _, rs ++ rs', rfl, ⟨hn0, hn, hw0, hw1, .inl (by rw [List.map_append]), by rw [List.length_append]; omega, fun r' hr' => ?_⟩, q⟩
    rcases List.mem_append.mp hr' with h | h
    · exact hrs r' h
    · exact hrs2 r' h
  · have fin : ∀ (st : Bool), WSs (bdOf P w K mg base ["self", "other"] "Zone.__and__" (defScope s_Zone_and) (He.ma K (He.ga K "Zone") "__and__") cdv A outer s H E EE) ((defBody s_Zone_and).drop 1) (startS ["self", "other"] [zD K n wd rs, y]) M { nx := fun _ => Pd .non, rt := Pd } := fun _ => by
      cases ho with
      | kn hk =>
        refine wss_cons ?_
        refine ws_if ?_
        refine wt_ww (ww_or ?_)
        refine wt_not ?_
        refine wt_val ?_
        refine we_callB (id := "isinstance") ?_ (free_isinstance T)
        refine wa_cons ?_
        refine we_var 1 (by rfl) ?_
        refine wa_cons ?_
        refine we_gref (g_Zone T) ?_
        refine wa_nil ?_
        refine c_isi (.own _) (known_ty (by assumption)) (kitB_Zone T (by assumption)) ?_
        refine ⟨_, rfl, ?_⟩
        refine iteT (notT (rfl)) ?_
        refine iteT (rfl) ?_
        refine wss_cons ?_
        refine ws_raise (err_Bad T _ rfl rfl rfl rfl rfl (hr.mono (by decide))) rfl ?_
        refine wa_cons ?_
        refine we_str ?_
        refine wa_nil ?_
        refine ⟨rfl, ?_⟩
        exact ⟨by decide, M, Msub.refl, q⟩
      | ring =>
        refine wss_cons ?_
        refine ws_if ?_
        refine wt_ww (ww_or ?_)
        refine wt_not ?_
        refine wt_val ?_
        refine we_callB (id := "isinstance") ?_ (free_isinstance T)
        refine wa_cons ?_
        refine we_var 1 (by rfl) ?_
        refine wa_cons ?_
        refine we_gref (g_Zone T) ?_
        refine wa_nil ?_
        refine c_isi (.own _) ⟨rfl, (clsi_Ring T).1⟩ (kit_Ring_Zone T) ?_
        refine ⟨_, rfl, ?_⟩
        refine iteT (notT (rfl)) ?_
        refine iteT (rfl) ?_
        refine wss_cons ?_
        refine ws_raise (err_Bad T _ rfl rfl rfl rfl rfl (hr.mono (by decide))) rfl ?_
        refine wa_cons ?_
        refine we_str ?_
        refine wa_nil ?_
        refine ⟨rfl, ?_⟩
        exact ⟨by decide, M, Msub.refl, q⟩
      | row h =>
        refine wss_cons ?_
        refine ws_if ?_
        refine wt_ww (ww_or ?_)
        refine wt_not ?_
        refine wt_val ?_
        refine we_callB (id := "isinstance") ?_ (free_isinstance T)
        refine wa_cons ?_
        refine we_var 1 (by rfl) ?_
        refine wa_cons ?_
        refine we_gref (g_Zone T) ?_
        refine wa_nil ?_
        refine c_isi (.own _) ⟨rfl, (clsi_Row T).1⟩ (kit_Row_Zone T) ?_
        refine ⟨_, rfl, ?_⟩
        refine iteT (notT (rfl)) ?_
        refine iteT (rfl) ?_
        refine wss_cons ?_
        refine ws_raise (err_Bad T _ rfl rfl rfl rfl rfl (hr.mono (by decide))) rfl ?_
        refine wa_cons ?_
        refine we_str ?_
        refine wa_nil ?_
        refine ⟨rfl, ?_⟩
        exact ⟨by decide, M, Msub.refl, q⟩
      | @zone n' wd' rs' h =>
        refine wss_cons ?_
        refine ws_if ?_
        refine wt_ww (ww_or ?_)
        refine wt_not ?_
        refine wt_val ?_
        refine we_callB (id := "isinstance") ?_ (free_isinstance T)
        refine wa_cons ?_
        refine we_var 1 (by rfl) ?_
        refine wa_cons ?_
        refine we_gref (g_Zone T) ?_
        refine wa_nil ?_
        refine c_isi (.own _) ⟨rfl, (clsi_Zone T).1⟩ (clsi_Zone T).2 ?_
        refine ⟨_, rfl, ?_⟩
        refine iteF (notF (rfl)) ?_
        refine ww_or ?_
        refine wt_cmp ?_
        refine we_fld ?_
        refine we_var 1 (by rfl) ?_
        refine ⟨_, _, _, OAt.obj, cls_Zone T, no_Zone_points T, rfl, ?_⟩
        refine we_fld ?_
        refine we_var 0 (by rfl) ?_
        refine ⟨_, _, _, OAt.obj, cls_Zone T, no_Zone_points T, rfl, ?_⟩
        refine o_neI ?_
        refine ⟨_, rfl, ?_⟩
        by_cases hn' : n' = n
        · have hw' : wd' ≠ wd := h.elim (fun z => absurd hn' z) id
          subst hn'
          refine iteF (notF (decide_eq_true rfl)) ?_
          refine ww_or1 ?_
          refine wt_cmp ?_
          refine we_fld ?_
          refine we_var 1 (by rfl) ?_
          refine ⟨_, _, _, OAt.obj, cls_Zone T, no_Zone_width T, rfl, ?_⟩
          refine we_fld ?_
          refine we_var 0 (by rfl) ?_
          refine ⟨_, _, _, OAt.obj, cls_Zone T, no_Zone_width T, rfl, ?_⟩
          refine o_neI ?_
          refine ⟨_, rfl, ?_⟩
          refine iteT (notT (decide_eq_false (by omega))) ?_
          refine wss_cons ?_
          refine ws_raise (err_Bad T _ rfl rfl rfl rfl rfl (hr.mono (by decide))) rfl ?_
          refine wa_cons ?_
          refine we_str ?_
          refine wa_nil ?_
          refine ⟨rfl, ?_⟩
          exact ⟨by decide, M, Msub.refl, q⟩
        · refine iteT (notT (decide_eq_false (by omega))) ?_
          refine iteT (rfl) ?_
          refine wss_cons ?_
          refine ws_raise (err_Bad T _ rfl rfl rfl rfl rfl (hr.mono (by decide))) rfl ?_
          refine wa_cons ?_
          refine we_str ?_
          refine wa_nil ?_
          refine ⟨rfl, ?_⟩
          exact ⟨by decide, M, Msub.refl, q⟩
    cases ho with
    | kn hk =>
      refine wa_cons ?_
      refine we_var 1 (by rfl) ?_
      refine wa_cons ?_
      refine we_fld ?_
      refine we_var 0 (by rfl) ?_
      refine ⟨_, _, _, OAt.obj, cls_Zone T, no_Zone_points T, rfl, ?_⟩
      refine wa_nil ?_
      refine ⟨_, n, rfl, .inr ⟨.kn hk, ?_⟩⟩
      refine ⟨_, rfl, ?_⟩
      refine iteF (rfl) ?_
      refine wss_nil ?_
      exact fin true
    | ring =>
      refine wa_cons ?_
      refine we_var 1 (by rfl) ?_
      refine wa_cons ?_
      refine we_fld ?_
      refine we_var 0 (by rfl) ?_
      refine ⟨_, _, _, OAt.obj, cls_Zone T, no_Zone_points T, rfl, ?_⟩
      refine wa_nil ?_
      refine ⟨_, n, rfl, .inr ⟨.ring, ?_⟩⟩
      refine ⟨_, rfl, ?_⟩
      refine iteF (rfl) ?_
      refine wss_nil ?_
      exact fin true
    | row h =>
      refine wa_cons ?_
      refine we_var 1 (by rfl) ?_
      refine wa_cons ?_
      refine we_fld ?_
      refine we_var 0 (by rfl) ?_
      refine ⟨_, _, _, OAt.obj, cls_Zone T, no_Zone_points T, rfl, ?_⟩
      refine wa_nil ?_
      refine ⟨_, n, rfl, .inl ⟨_, rfl, ?_⟩⟩
      rw [decide_eq_false h]
      refine ⟨_, rfl, ?_⟩
      refine iteF (rfl) ?_
      refine wss_nil ?_
      exact fin true
    | zone h =>
      refine wa_cons ?_
      refine we_var 1 (by rfl) ?_
      refine wa_cons ?_
      refine we_fld ?_
      refine we_var 0 (by rfl) ?_
      refine ⟨_, _, _, OAt.obj, cls_Zone T, no_Zone_points T, rfl, ?_⟩
      refine wa_nil ?_
      refine ⟨_, n, rfl, .inr ⟨.zone, ?_⟩⟩
      refine ⟨_, rfl, ?_⟩
      refine iteF (rfl) ?_
      refine wss_nil ?_
      exact fin true
end
end K05

set_option Elab.async false
set_option linter.all false
set_option maxRecDepth 100000
set_option maxHeartbeats 1000000
namespace K05
open PySem PySem.Spec PyProof.Rows L2 JQ
local macro_rules | `(tactic| fail) => `(tactic| first | refine o_add ?_ | refine o_sub ?_ | refine o_lt ?_ | refine o_le ?_ | refine o_gt ?_ | refine o_ge ?_ | refine o_eqI ?_ | refine o_neI ?_)
local macro_rules | `(tactic| fail) => `(tactic| first | refine wa_cons ?_ | refine wa_nil ?_ | refine wk_cons ?_ | refine wk_nil ?_)
local macro_rules | `(tactic| fail) => `(tactic| first | refine wt_cmp ?_ | refine wt_chain ?_ | refine wt_not ?_ | refine wt_and2 ?_ | refine wt_or2 ?_)
local macro_rules | `(tactic| fail) => `(tactic| first | refine we_int ?_ | refine we_str ?_ | refine we_bl ?_ | refine we_non ?_ | refine we_tup ?_ | refine we_bin ?_ | refine we_cmp ?_ | refine we_chain ?_ | refine we_not ?_ | refine we_un ?_ | refine we_and ?_ | refine we_or ?_ | refine we_one ?_ | refine we_ifx ?_)
local macro_rules | `(tactic| fail) => `(tactic| first | refine we_var 0 (by rfl) ?_ | refine we_var 1 (by rfl) ?_ | refine we_var 2 (by rfl) ?_ | refine we_var 3 (by rfl) ?_ | refine we_var 4 (by rfl) ?_ | refine we_var 5 (by rfl) ?_ | refine we_var 6 (by rfl) ?_ | refine we_var 7 (by rfl) ?_ | refine we_var 8 (by rfl) ?_ | refine we_var 9 (by rfl) ?_ | refine we_var 10 (by rfl) ?_ | refine we_var 11 (by rfl) ?_)
local macro_rules | `(tactic| fail) => `(tactic| first | refine ws_ret ?_ | refine ws_retN ?_ | refine ws_if ?_ | refine ws_expr ?_ | refine ws_set 0 (by assumption) ?_ | refine ws_set 1 (by assumption) ?_ | refine ws_set 2 (by assumption) ?_ | refine ws_set 3 (by assumption) ?_ | refine ws_set 4 (by assumption) ?_ | refine ws_set 5 (by assumption) ?_ | refine ws_set 6 (by assumption) ?_ | refine ws_set 7 (by assumption) ?_ | refine ws_set 8 (by assumption) ?_ | refine ws_set 9 (by assumption) ?_ | refine ws_set 10 (by assumption) ?_ | refine ws_set 11 (by assumption) ?_)
local macro_rules | `(tactic| fail) => `(tactic| first | refine wss_cons ?_ | refine wss_nil ?_)
/-! ### what is true of chains and rings of a zone -/
def Plc (n : Nat) (wd : Int) (rs : List Rw) : (Nat → Int) → Prop := fun p => p 0 = 0 ∧ ZM.In n wd p ∧ ∀ r ∈ rs, ZM.Holds p r
theorem zone_tells {n : Nat} {wd : Int} {rs : List Rw} {g : Gp} (h0 : 0 < n) (hw : 0 ≤ wd) (hn : ∀ r ∈ rs, r.one < n ∧ r.other < n) (e : ZM.gapsOf wd rs = some g) : ZM.Closed n g ∧ ZM.Tells n g (Plc n wd rs) := by
  obtain ⟨c, t⟩ := ZM.zone_some h0 hw hn e
  exact ⟨c, fun p p0 => ⟨fun a => (t p p0).mp a.2, fun b => ⟨p0, (t p p0).mpr b⟩⟩⟩
theorem gap_bounds {n : Nat} {wd : Int} {rs : List Rw} {g : Gp} {i j : Nat} (h0 : 0 < n) (hw : 0 ≤ wd) (hn : ∀ r ∈ rs, r.one < n ∧ r.other < n) (hi : i < n) (hj : j < n) (e : ZM.gapsOf wd rs = some g) : -wd ≤ g i j ∧ g i j ≤ wd := by
  obtain ⟨cg, tg⟩ := zone_tells h0 hw hn e
  obtain ⟨p0, pp⟩ := ZM.reached cg tg j hj
  have a1 := pp.2.1 i hi
  have a2 := pp.2.1 j hj
  have a3 := cg.self j hj
  simp only at a1 a2
  omega
end K05

set_option Elab.async false
set_option linter.all false
set_option maxRecDepth 100000
set_option maxHeartbeats 1000000
namespace K05
open PySem PySem.Spec PyProof.Rows L2 JQ
section
variable {P : Program} {w : World} {K : PySem.W.Frag} {mg : Str → Option Value} {base : Heap}
theorem kf_l_pen (T : Tx K mg) : KF P w K mg base 1 "_law_pen" 1 [] SPen := kf_pen T
theorem len_l_pen : ∀ ds M P EE, SPen ds M P EE → ds.length = 1 := len_SPen
theorem kf_l_draw (T : Tx K mg) : KF P w K mg base 2 "_law_draw" 2 [] SDraw := kf_draw T
theorem len_l_draw : ∀ ds M P EE, SDraw ds M P EE → ds.length = 2 := len_SDraw
theorem kf_l_pick (T : Tx K mg) : KF P w K mg base 3 "_law_pick" 2 [] SPick := kf_pick T
theorem len_l_pick : ∀ ds M P EE, SPick ds M P EE → ds.length = 2 := len_SPick
theorem km_Zone_gap (T : Tx K mg) : KM P w K mg base 3 (cZone K) "gap" 2 [] (SGap K) := km_gap T
theorem km_Zone_lowest (T : Tx K mg) : KM P w K mg base 2 (cZone K) "lowest" 0 [] (SLoM K) := km_lowest T
theorem km_Zone_highest (T : Tx K mg) : KM P w K mg base 2 (cZone K) "highest" 0 [] (SHiM K) := km_highest T
/-! ### drawn rows and zones -/
structure PenOk (L : Int) (cells : List Int) (at_ sp : Int) : Prop where
  len : cells.length ≤ 63
  a0 : 0 ≤ at_
  a1 : at_ < L
  s0 : 0 ≤ sp
  s1 : sp < 1000003
  lim : L ≤ 990000
structure RowOk (n : Nat) (r : Rw) : Prop where
  h1 : r.one < n
  h2 : r.other < n
  ne : r.one ≠ r.other
  m0 : -1000000 ≤ r.most
  m1 : r.most ≤ 999999
structure ZC (n : Nat) (wd : Int) (rs : List Rw) : Prop where
  n0 : 1 ≤ n
  n12 : n ≤ 12
  w0 : 0 ≤ wd
  w1 : wd ≤ 999999
  len : rs.length ≤ 100
  ok : ∀ r ∈ rs, RowOk n r
theorem ZC.pts {n : Nat} {wd : Int} {rs : List Rw} (z : ZC n wd rs) : ∀ r ∈ rs, r.one < n ∧ r.other < n := fun r h => ⟨(z.ok r h).h1, (z.ok r h).h2⟩
theorem ZC.ne {n : Nat} {wd : Int} {rs : List Rw} (z : ZC n wd rs) : ∀ r ∈ rs, r.one ≠ r.other := fun r h => (z.ok r h).ne
theorem zc_list {n : Nat} {wd : Int} {rs : List Rw} (h0 : 1 ≤ n) (hn : n ≤ 12) (hw : 0 ≤ wd) (hw1 : wd ≤ 999999) (hl : rs.length ≤ 100) (h : ∀ r ∈ rs, RowOk n r) : ZC n wd (onceR rs) := ⟨h0, hn, hw, hw1, Nat.le_trans once_len hl, fun r hr => h r (once_mem.mp hr)⟩
end
end K05

set_option Elab.async false
set_option linter.all false
set_option maxRecDepth 100000
set_option maxHeartbeats 1000000
namespace K05
open PySem PySem.Spec PyProof.Rows L2 JQ
section
variable {P : Program} {w : World} {K : PySem.W.Frag} {mg : Str → Option Value} {base : Heap}
/-! ### looks at placings -/
theorem kf_is_integer' (T : Tx K mg) : KF P w K mg base 1 "is_integer" 1 [] SInt := kf_is_integer T
theorem len_is_integer : ∀ ds M P EE, SInt ds M P EE → ds.length = 1 := len_SInt
theorem len_is_series : ∀ ds M P EE, SSer ds M P EE → ds.length = 1 := len_SSer
def SAre : Sd := fun ds M P _ => ∃ xs : List D, ds = [.tup xs] ∧ xs.length ≤ 1000 ∧ (∀ d ∈ xs, known d = true) ∧ P (.bl (xs.all JQ.isInt)) M
theorem len_are_integers : ∀ ds M P EE, SAre ds M P EE → ds.length = 1 := fun ds M P EE ⟨_, e, _⟩ => by rw [e]; rfl
theorem sc_are_integers : FnScope ["values", "value"] ["values"] (defScope s_are_integers) := ⟨rfl, rfl, rfl, by decide +kernel, rfl, by decide +kernel, by decide +kernel⟩
theorem kf_are_integers (T : Tx K mg) : KF P w K mg base 2 "are_integers" 1 [] SAre := by
  obtain ⟨fd, F⟩ := F_are_integers T
  refine ⟨_, fd, ["values"], ?_, bndD F 1 [] (fun _ _ _ _ _ _ us ws h1 h2 => match us, ws, h1, h2 with | [_], [], _, _ => rfl), g_are_integers T, F.kp⟩
  refine fnDD F sc_are_integers len_are_integers fun cdv A outer s H E hg hr ds M Pd EE ⟨xs, e, hl, hk, q⟩ => ?_
  subst e
  have nd := sc_are_integers.nd
  refine wss_cons ?_
  refine ws_ret ?_
  refine we_dropR ?_
  refine we_callB (id := "all") ?_ (free_all T)
  refine wa_cons ?_
  refine we_lc [("value", 1)] rfl nd (blkOk_by (N := ["values", "value"]) (sc := defScope s_are_integers) (by decide +kernel)) ?_
  refine wi_tup ?_
  refine we_var 0 (by rfl) ?_
  refine ⟨_, rfl, ?_⟩
  rw [show xs = xs.map id by rw [List.map_id]]
  refine WLc.mapL xs id (fun d => .bl (JQ.isInt d)) (fun _ _ => trivial) (by omega) [1] (by simp) (fun i r M' hr' sub s H C cl' fp => ?_) fun M' sub => .inl ?_
  · refine wg_name 1 nd ?_
    intro s H C cl' fp
    have hkr : known r = true := hk r (List.mem_of_getElem? hr')
    refine we_fn (kf_is_integer (K := K) T) hg (hr.mono (by decide)) ?_ rfl (hlen := len_is_integer)
    refine wa_cons ?_
    refine we_var 1 (by rfl) ?_
    refine wa_nil ?_
    refine ⟨_, rfl, hkr, ?_⟩
    exact ⟨rfl, sub⟩
  refine wa_nil ?_
  refine c_all (ns := xs.map JQ.isInt) rfl (by rw [List.map_map]; exact LAt.lst) ?_
  have ea : (xs.map JQ.isInt).all id = xs.all JQ.isInt := by rw [List.all_map]; rfl
  rw [ea]
  exact ⟨M, sub, q⟩
def SHolds (K : PySem.W.Frag) : Sd := fun ds M P _ => ∃ (r : Rw) (xs : List Int) (a b : Int), ds = [rD K r, .tup (xs.map D.int)] ∧ xs.length ≤ 1000 ∧ xs[r.one]? = some a ∧ xs[r.other]? = some b ∧ P (.bl (decide (a - b ≤ r.most))) M
theorem len_SHolds : ∀ ds M P EE, SHolds K ds M P EE → ds.length = 2 := fun ds M P EE ⟨_, _, _, _, e, _⟩ => by rw [e]; rfl
theorem sc_Row_holds : FnScope ["self", "places"] ["self", "places"] (defScope s_Row_holds) := ⟨rfl, rfl, rfl, by decide +kernel, rfl, by decide +kernel, by decide +kernel⟩
theorem plain_ks (xs : List Int) : ∀ d ∈ xs.map D.int, known d = true := fun d hd => by
  obtain ⟨i, _, rfl⟩ := List.mem_map.mp hd
  rfl
theorem ints_all (xs : List Int) : (xs.map D.int).all JQ.isInt = true := by
  rw [List.all_map, List.all_eq_true]
  exact fun _ _ => rfl
theorem km_Row_holds (T : Tx K mg) : KM P w K mg base 3 (cRow K) "holds" 1 [] (SHolds K) := by
  obtain ⟨fd, F⟩ := F_Row_holds T
  refine ⟨_, fd, ["self", "places"], ?_, bndD F 2 [] (fun _ _ _ _ _ _ us ws h1 h2 => match us, ws, h1, h2 with | [_, _], [], _, _ => rfl), cls_Row T, me_Row_holds T⟩
  refine fnDD F sc_Row_holds len_SHolds fun cdv A outer s H E hg hr ds M Pd EE ⟨r, xs, a, b, e, hl, h1, h2, q⟩ => ?_
  subst e
  have nd := sc_Row_holds.nd
  have l1 := (List.getElem?_eq_some_iff.mp h1).1
  have l2 := (List.getElem?_eq_some_iff.mp h2).1
  have e1 := atI_of (show (xs.map D.int)[r.one]? = some (.int a) by rw [List.getElem?_map, h1]; rfl)
  have e2 := atI_of (show (xs.map D.int)[r.other]? = some (.int b) by rw [List.getElem?_map, h2]; rfl)
  refine wss_cons ?_
  refine ws_if ?_
  refine wt_or2 ?_
  refine wt_not ?_
  refine wt_val ?_
  refine we_fn (kf_is_series (K := K) T) hg (hr.mono (by decide)) ?_ rfl (hlen := len_is_series)
  refine wa_cons ?_
  refine we_var 1 (by rfl) ?_
  refine wa_nil ?_
  refine ⟨_, rfl, rfl, .inr rfl, ?_⟩
  refine ⟨_, rfl, ?_⟩
  refine iteF (notF (rfl)) ?_
  refine wt_not ?_
  refine wt_val ?_
  refine we_fn (kf_are_integers (K := K) T) hg (hr.mono (by decide)) ?_ rfl (hlen := len_are_integers)
  refine wa_cons ?_
  refine we_var 1 (by rfl) ?_
  refine wa_nil ?_
  refine ⟨_, rfl, by rw [List.length_map]; exact hl, plain_ks xs, ?_⟩
  rw [ints_all]
  refine ⟨_, rfl, ?_⟩
  refine iteF (notF (rfl)) ?_
  refine wss_nil ?_
  refine wss_cons ?_
  refine ws_if ?_
  refine wt_cmp ?_
  refine we_callB (id := "len") ?_ (free_len T)
  refine wa_cons ?_
  refine we_var 1 (by rfl) ?_
  refine wa_nil ?_
  refine c_len SqAt.tup ?_
  refine we_callB (id := "max") ?_ (free_max T)
  refine wa_cons ?_
  refine we_fld ?_
  refine we_var 0 (by rfl) ?_
  refine ⟨_, _, _, OAt.obj, cls_Row T, no_Row_one T, rfl, ?_⟩
  refine wa_cons ?_
  refine we_fld ?_
  refine we_var 0 (by rfl) ?_
  refine ⟨_, _, _, OAt.obj, cls_Row T, no_Row_other T, rfl, ?_⟩
  refine wa_nil ?_
  refine c_max2 rfl ?_
  refine o_le ?_
  refine ⟨_, rfl, ?_⟩
  rw [List.length_map]
  refine iteF (decide_eq_false ?_) ?_
  · split <;> omega
  refine wss_nil ?_
  refine wss_cons ?_
  refine ws_ret ?_
  refine we_cmp ?_
  refine we_bin ?_
  refine we_ix ?_
  refine we_var 1 (by rfl) ?_
  refine we_fld ?_
  refine we_var 0 (by rfl) ?_
  refine ⟨_, _, _, OAt.obj, cls_Row T, no_Row_one T, rfl, ?_⟩
  refine ⟨(r.one : Int), _, rfl, e1, ?_⟩
  refine we_ix ?_
  refine we_var 1 (by rfl) ?_
  refine we_fld ?_
  refine we_var 0 (by rfl) ?_
  refine ⟨_, _, _, OAt.obj, cls_Row T, no_Row_other T, rfl, ?_⟩
  refine ⟨(r.other : Int), _, rfl, e2, ?_⟩
  refine o_sub ?_
  refine we_fld ?_
  refine we_var 0 (by rfl) ?_
  refine ⟨_, _, _, OAt.obj, cls_Row T, no_Row_most T, rfl, ?_⟩
  refine o_le ?_
  exact q
def holdB (xs : List Int) (r : Rw) : Bool := decide (xs.getD r.one 0 - xs.getD r.other 0 ≤ r.most)
def placeQ (n : Nat) (wd : Int) (R : List Rw) (xs : List Int) : Bool := decide (xs.length = n) && (decide (xs.getD 0 0 = 0) && (xs.all (fun x => decide (0 ≤ x ∧ x ≤ wd)) && R.all (holdB xs)))
end
end K05

set_option Elab.async false
set_option linter.all false
set_option maxRecDepth 100000
set_option maxHeartbeats 1000000
namespace K05
open PySem PySem.Spec PyProof.Rows L2 JQ
section
variable {P : Program} {w : World} {K : PySem.W.Frag} {mg : Str → Option Value} {base : Heap}
def SLookP (K : PySem.W.Frag) : Sd := fun ds M P EE => (∃ n wd R xs, ds = [.tup (xs.map D.int), zD K n wd R] ∧ ZC n wd R ∧ xs.length ≤ 1000 ∧ P (.bl (placeQ n wd R xs)) M) ∨ (∃ n wd R ys, ds = [.tup ys, zD K n wd R] ∧ ys.length ≤ 1000 ∧ (∀ d ∈ ys, known d = true) ∧ ys.all JQ.isInt = false ∧ P (.bl false) M) ∨ (∃ n wd R d, ds = [d, zD K n wd R] ∧ known d = true ∧ isTup d = false ∧ P (.bl false) M) ∨ (∃ n wd R n2 wd2 R2, ds = [zD K n2 wd2 R2, zD K n wd R] ∧ P (.bl false) M) ∨ (∃ n wd R a, ds = [.rf a, zD K n wd R] ∧ M a = some (.dT []) ∧ P (.bl false) M) ∨ ∃ x z, ds = [x, z] ∧ known z = true ∧ EE (cBad K) [("what", .str "zone")] M
theorem len_look_placing : ∀ ds M P EE, SLookP K ds M P EE → ds.length = 2 := fun ds M P EE h => by
  rcases h with ⟨_, _, _, _, e, _⟩ | ⟨_, _, _, _, e, _⟩ | ⟨_, _, _, _, e, _⟩ | ⟨_, _, _, _, _, _, e, _⟩ | ⟨_, _, _, _, e, _⟩ | ⟨_, _, e, _⟩ <;> · rw [e]; rfl
abbrev N_lp : List Str := ["places", "zone", "place", "row"]
theorem sc_look_placing : FnScope N_lp ["places", "zone"] (defScope s_look_placing) := ⟨rfl, rfl, rfl, by decide +kernel, rfl, by decide +kernel, by decide +kernel⟩
theorem kf_look_placing (T : Tx K mg) : KF P w K mg base 4 "look_placing" 2 [] (SLookP K) := by
  obtain ⟨fd, F⟩ := F_look_placing T
  refine ⟨_, fd, ["places", "zone"], ?_, bndD F 2 [] (fun _ _ _ _ _ _ us ws h1 h2 => match us, ws, h1, h2 with | [_, _], [], _, _ => rfl), g_look_placing T, F.kp⟩
  refine fnDD F sc_look_placing len_look_placing fun cdv A outer s H E hg hr ds M Pd EE hS => ?_
  have nd := sc_look_placing.nd
  rcases hS with ⟨n, wd, R, xs, e, z, hl, q⟩ | ⟨n, wd, R, ys, e, hl, hk, hi, q⟩ | ⟨n, wd, R, d, e, hk, ht, q⟩ | ⟨n, wd, R, n2, wd2, R2, e, q⟩ | ⟨n, wd, R, x, e, em, q⟩ | ⟨x, z, e, hk, q⟩
  · subst e
    have hn0 := z.n0
    have hRl := z.len
    refine wss_cons ?_
    refine ws_if ?_
    refine wt_not ?_
    refine wt_val ?_
    refine we_callB (id := "isinstance") ?_ (free_isinstance T)
    refine wa_cons ?_
    refine we_var 1 (by rfl) ?_
    refine wa_cons ?_
    refine we_gref (g_Zone T) ?_
    refine wa_nil ?_
    refine c_isi (.own _) ⟨rfl, (clsi_Zone T).1⟩ (clsi_Zone T).2 ?_
    refine ⟨_, rfl, ?_⟩
    refine iteF (notF (rfl)) ?_
    refine wss_nil ?_
    refine wss_cons ?_
    refine ws_if ?_
    refine wt_ww (ww_or ?_)
    refine wt_not ?_
    refine wt_val ?_
    refine we_callB (id := "isinstance") ?_ (free_isinstance T)
    refine wa_cons ?_
    refine we_var 0 (by rfl) ?_
    refine wa_cons ?_
    refine we_bty (n := "tuple") (free_tuple T) (by decide +kernel) ?_
    refine wa_nil ?_
    refine c_isi (.ty "tuple") (known_ty rfl) (kit_tuple rfl) ?_
    refine ⟨_, rfl, ?_⟩
    refine iteF (notF (rfl)) ?_
    refine ww_or ?_
    refine wt_cmp ?_
    refine we_callB (id := "len") ?_ (free_len T)
    refine wa_cons ?_
    refine we_var 0 (by rfl) ?_
    refine wa_nil ?_
    refine c_len SqAt.tup ?_
    refine we_fld ?_
    refine we_var 1 (by rfl) ?_
    refine ⟨_, _, _, OAt.obj, cls_Zone T, no_Zone_points T, rfl, ?_⟩
    refine o_neI ?_
    refine ⟨_, rfl, ?_⟩
    rw [List.length_map]
    refine iteB (fun h => ?_) fun h => ?_
    · have h := of_decide_eq_false (Bool.not_eq_true' _ ▸ h : decide (((xs.length : Nat) : Int) = ((n : Nat) : Int)) = false)
      have hq : placeQ n wd R xs = false := by
        unfold placeQ
        rw [decide_eq_false (by omega : ¬ xs.length = n), Bool.false_and]
      rw [hq] at q
      refine iteT (rfl) ?_
      refine wss_cons ?_
      refine ws_ret ?_
      refine we_bl ?_
      exact q
    have h := of_decide_eq_true (Bool.not_eq_false' _ ▸ h : decide (((xs.length : Nat) : Int) = ((n : Nat) : Int)) = true)
    have hln : xs.length = n := by omega
    have hq : placeQ n wd R xs = (decide (xs.getD 0 0 = 0) && (xs.all (fun x => decide (0 ≤ x ∧ x ≤ wd)) && R.all (holdB xs))) := by
      unfold placeQ
      rw [decide_eq_true hln, Bool.true_and]
    rw [hq] at q
    have h00 : xs[0]? = some (xs.getD 0 0) := by
      rw [List.getD_eq_getElem?_getD, List.getElem?_eq_getElem (by omega)]
      rfl
    have e0 : L2.atI (xs.map D.int) 0 = some (.int (xs.getD 0 0)) := atI_of (i := 0) (by rw [List.getElem?_map, h00]; rfl)
    refine ww_or1 ?_
    refine wt_not ?_
    refine wt_val ?_
    refine we_fn (kf_are_integers (K := K) T) hg (hr.mono (by decide)) ?_ rfl (hlen := len_are_integers)
    refine wa_cons ?_
    refine we_var 0 (by rfl) ?_
    refine wa_nil ?_
    refine ⟨_, rfl, by rw [List.length_map]; exact hl, plain_ks xs, ?_⟩
    rw [ints_all]
    refine ⟨_, rfl, ?_⟩
    refine iteF (notF (rfl)) ?_
    refine wss_nil ?_
    refine wss_cons ?_
    refine ws_if ?_
    refine wt_or2 ?_
    refine wt_cmp ?_
    refine we_ix ?_
    refine we_var 0 (by rfl) ?_
    refine we_int ?_
    refine ⟨0, _, rfl, e0, ?_⟩
    refine we_int ?_
    refine o_neI ?_
    refine ⟨_, rfl, ?_⟩
    refine iteB (fun h => ?_) fun h => ?_
    · have h : decide (xs.getD 0 0 = 0) = false := Bool.not_eq_true' _ ▸ h
      rw [h, Bool.false_and] at q
      refine iteT (rfl) ?_
      refine wss_cons ?_
      refine ws_ret ?_
      refine we_bl ?_
      exact q
    have h : decide (xs.getD 0 0 = 0) = true := Bool.not_eq_false' _ ▸ h
    rw [h, Bool.true_and] at q
    refine wt_not ?_
    refine wt_val ?_
    refine we_callB (id := "all") ?_ (free_all T)
    refine wa_cons ?_
    refine we_lc [("place", 2)] rfl nd (blkOk_by (N := N_lp) (sc := defScope s_look_placing) (by decide +kernel)) ?_
    refine wi_tup ?_
    refine we_var 0 (by rfl) ?_
    refine ⟨_, rfl, ?_⟩
    refine WLc.mapL xs D.int (fun x => .bl (decide (0 ≤ x ∧ x ≤ wd))) (fun _ _ => trivial) (by omega) [2] (by simp) (fun i r M' hr' sub s H C cl' fp => ?_) fun M' sub => .inl ?_
    · refine wg_name 2 nd ?_
      intro s H C cl' fp
      refine we_chain ?_
      refine we_int ?_
      refine we_var 2 (by rfl) ?_
      refine o_le ?_
      refine ⟨_, rfl, ?_⟩
      refine iteB (fun h1 => ?_) fun h1 => ?_
      · have h1 := of_decide_eq_true h1
        refine we_fld ?_
        refine we_var 1 (by rfl) ?_
        refine ⟨_, _, _, OAt.obj, cls_Zone T, no_Zone_width T, rfl, ?_⟩
        refine o_le ?_
        refine ⟨?_, sub⟩
        congr 1
        exact decide_eq_decide.mpr ⟨fun h => ⟨h1, h⟩, fun h => h.2⟩
      · have h1 := of_decide_eq_false h1
        refine ⟨?_, sub⟩
        rw [decide_eq_false (fun h => h1 h.1)]
    refine wa_nil ?_
    refine c_all (ns := xs.map fun x => decide (0 ≤ x ∧ x ≤ wd)) rfl (by rw [List.map_map]; exact LAt.lst) ?_
    have ea : (xs.map fun x => decide (0 ≤ x ∧ x ≤ wd)).all id = xs.all fun x => decide (0 ≤ x ∧ x ≤ wd) := by rw [List.all_map]; rfl
    rw [ea]
    cases ew : xs.all fun x => decide (0 ≤ x ∧ x ≤ wd) with
    | false =>
      rw [ew, Bool.false_and] at q
      refine ⟨_, rfl, ?_⟩
      refine iteT rfl ?_
      refine wss_drop sub ?_
      refine wss_cons ?_
      refine ws_ret ?_
      refine we_bl ?_
      exact q
    | true =>
      rw [ew, Bool.true_and] at q
      refine ⟨_, rfl, ?_⟩
      refine iteF rfl ?_
      refine wss_nil ?_
      refine wss_drop sub ?_
      refine wss_cons ?_
      refine ws_ret ?_
      refine we_dropR ?_
      refine we_callB (id := "all") ?_ (free_all T)
      refine wa_cons ?_
      refine we_lc [("row", 3)] rfl nd (blkOk_by (N := N_lp) (sc := defScope s_look_placing) (by decide +kernel)) ?_
      refine wi_tup ?_
      refine we_fld ?_
      refine we_var 1 (by rfl) ?_
      refine ⟨_, _, _, OAt.obj, cls_Zone T, no_Zone_rows T, rfl, ?_⟩
      refine ⟨_, rfl, ?_⟩
      refine WLc.mapL R (rD K) (fun r => .bl (holdB xs r)) (fun _ _ => trivial) (by omega) [3] (by simp) (fun i r M' hr' sub s H C cl' fp => ?_) fun M' sub => .inl ?_
      · have ok := z.ok r (List.mem_of_getElem? hr')
        have o1 := ok.h1
        have o2 := ok.h2
        refine wg_name 3 nd ?_
        intro s H C cl' fp
        refine we_me (km_Row_holds (K := K) T) hg (hr.mono (by decide)) ?_
        refine we_var 3 (by rfl) ?_
        refine ⟨_, OAt.obj, rfl, ?_⟩
        refine wa_cons ?_
        refine we_var 0 (by rfl) ?_
        refine wa_nil ?_
        refine ⟨rfl, ?_⟩
        refine ⟨r, xs, xs.getD r.one 0, xs.getD r.other 0, rfl, hl, ?_, ?_, ?_⟩
        · rw [List.getD_eq_getElem?_getD, List.getElem?_eq_getElem (by omega)]
          rfl
        · rw [List.getD_eq_getElem?_getD, List.getElem?_eq_getElem (by omega)]
          rfl
        exact ⟨rfl, sub⟩
      refine wa_nil ?_
      refine c_all (ns := R.map (holdB xs)) rfl (by rw [List.map_map]; exact LAt.lst) ?_
      have eb : (R.map (holdB xs)).all id = R.all (holdB xs) := by rw [List.all_map]; rfl
      rw [eb]
      exact ⟨M, sub, q⟩
  · subst e
    refine wss_cons ?_
    refine ws_if ?_
    refine wt_not ?_
    refine wt_val ?_
    refine we_callB (id := "isinstance") ?_ (free_isinstance T)
    refine wa_cons ?_
    refine we_var 1 (by rfl) ?_
    refine wa_cons ?_
    refine we_gref (g_Zone T) ?_
    refine wa_nil ?_
    refine c_isi (.own _) ⟨rfl, (clsi_Zone T).1⟩ (clsi_Zone T).2 ?_
    refine ⟨_, rfl, ?_⟩
    refine iteF (notF (rfl)) ?_
    refine wss_nil ?_
    refine wss_cons ?_
    refine ws_if ?_
    refine wt_ww (ww_or ?_)
    refine wt_not ?_
    refine wt_val ?_
    refine we_callB (id := "isinstance") ?_ (free_isinstance T)
    refine wa_cons ?_
    refine we_var 0 (by rfl) ?_
    refine wa_cons ?_
    refine we_bty (n := "tuple") (free_tuple T) (by decide +kernel) ?_
    refine wa_nil ?_
    refine c_isi (.ty "tuple") (known_ty rfl) (kit_tuple rfl) ?_
    refine ⟨_, rfl, ?_⟩
    refine iteF (notF (rfl)) ?_
    refine ww_or ?_
    refine wt_cmp ?_
    refine we_callB (id := "len") ?_ (free_len T)
    refine wa_cons ?_
    refine we_var 0 (by rfl) ?_
    refine wa_nil ?_
    refine c_len SqAt.tup ?_
    refine we_fld ?_
    refine we_var 1 (by rfl) ?_
    refine ⟨_, _, _, OAt.obj, cls_Zone T, no_Zone_points T, rfl, ?_⟩
    refine o_neI ?_
    refine ⟨_, rfl, ?_⟩
    refine iteB (fun h => ?_) fun h => ?_
    · refine iteT (rfl) ?_
      refine wss_cons ?_
      refine ws_ret ?_
      refine we_bl ?_
      exact q
    · refine ww_or1 ?_
      refine wt_not ?_
      refine wt_val ?_
      refine we_fn (kf_are_integers (K := K) T) hg (hr.mono (by decide)) ?_ rfl (hlen := len_are_integers)
      refine wa_cons ?_
      refine we_var 0 (by rfl) ?_
      refine wa_nil ?_
      refine ⟨ys, rfl, hl, hk, ?_⟩
      rw [hi]
      refine ⟨_, rfl, ?_⟩
      refine iteT (notT (rfl)) ?_
      refine wss_cons ?_
      refine ws_ret ?_
      refine we_bl ?_
      exact q
  · subst e
    refine wss_cons ?_
    refine ws_if ?_
    refine wt_not ?_
    refine wt_val ?_
    refine we_callB (id := "isinstance") ?_ (free_isinstance T)
    refine wa_cons ?_
    refine we_var 1 (by rfl) ?_
    refine wa_cons ?_
    refine we_gref (g_Zone T) ?_
    refine wa_nil ?_
    refine c_isi (.own _) ⟨rfl, (clsi_Zone T).1⟩ (clsi_Zone T).2 ?_
    refine ⟨_, rfl, ?_⟩
    refine iteF (notF (rfl)) ?_
    refine wss_nil ?_
    refine wss_cons ?_
    refine ws_if ?_
    refine wt_ww (ww_or ?_)
    refine wt_not ?_
    refine wt_val ?_
    refine we_callB (id := "isinstance") ?_ (free_isinstance T)
    refine wa_cons ?_
    refine we_var 0 (by rfl) ?_
    refine wa_cons ?_
    refine we_bty (n := "tuple") (free_tuple T) (by decide +kernel) ?_
    refine wa_nil ?_
    refine c_isi (.ty "tuple") (known_ty (by assumption)) (kit_tuple (by assumption)) ?_
    refine ⟨_, rfl, ?_⟩
    refine iteT (notT (by assumption)) ?_
    refine iteT (rfl) ?_
    refine wss_cons ?_
    refine ws_ret ?_
    refine we_bl ?_
    exact q
  · subst e
    refine wss_cons ?_
    refine ws_if ?_
    refine wt_not ?_
    refine wt_val ?_
    refine we_callB (id := "isinstance") ?_ (free_isinstance T)
    refine wa_cons ?_
    refine we_var 1 (by rfl) ?_
    refine wa_cons ?_
    refine we_gref (g_Zone T) ?_
    refine wa_nil ?_
    refine c_isi (.own _) ⟨rfl, (clsi_Zone T).1⟩ (clsi_Zone T).2 ?_
    refine ⟨_, rfl, ?_⟩
    refine iteF (notF (rfl)) ?_
    refine wss_nil ?_
    refine wss_cons ?_
    refine ws_if ?_
    refine wt_ww (ww_or ?_)
    refine wt_not ?_
    refine wt_val ?_
    refine we_callB (id := "isinstance") ?_ (free_isinstance T)
    refine wa_cons ?_
    refine we_var 0 (by rfl) ?_
    refine wa_cons ?_
    refine we_bty (n := "tuple") (free_tuple T) (by decide +kernel) ?_
    refine wa_nil ?_
    refine c_isi (.ty "tuple") ⟨rfl, (clsi_Zone T).1⟩ (kit_Zone_tuple T) ?_
    refine ⟨_, rfl, ?_⟩
    refine iteT (notT (rfl)) ?_
    refine iteT (rfl) ?_
    refine wss_cons ?_
    refine ws_ret ?_
    refine we_bl ?_
    exact q
  · subst e
    refine wss_cons ?_
    refine ws_if ?_
    refine wt_not ?_
    refine wt_val ?_
    refine we_callB (id := "isinstance") ?_ (free_isinstance T)
    refine wa_cons ?_
    refine we_var 1 (by rfl) ?_
    refine wa_cons ?_
    refine we_gref (g_Zone T) ?_
    refine wa_nil ?_
    refine c_isi (.own _) ⟨rfl, (clsi_Zone T).1⟩ (clsi_Zone T).2 ?_
    refine ⟨_, rfl, ?_⟩
    refine iteF (notF (rfl)) ?_
    refine wss_nil ?_
    refine wss_cons ?_
    refine ws_if ?_
    refine wt_ww (ww_or ?_)
    refine wt_not ?_
    refine wt_val ?_
    refine we_callB (id := "isinstance") ?_ (free_isinstance T)
    refine wa_cons ?_
    refine we_var 0 (by rfl) ?_
    refine wa_cons ?_
    refine we_bty (n := "tuple") (free_tuple T) (by decide +kernel) ?_
    refine wa_nil ?_
    refine c_isiD (.ty "tuple") em (kit_ty (a := "dict") (b := "tuple") (r := false) (by decide +kernel)) ?_
    refine ⟨_, rfl, ?_⟩
    refine iteT (notT (rfl)) ?_
    refine iteT (rfl) ?_
    refine wss_cons ?_
    refine ws_ret ?_
    refine we_bl ?_
    exact q
  · subst e
    refine wss_cons ?_
    refine ws_if ?_
    refine wt_not ?_
    refine wt_val ?_
    refine we_callB (id := "isinstance") ?_ (free_isinstance T)
    refine wa_cons ?_
    refine we_var 1 (by rfl) ?_
    refine wa_cons ?_
    refine we_gref (g_Zone T) ?_
    refine wa_nil ?_
    refine c_isi (.own _) (known_ty (by assumption)) (kitB_Zone T (by assumption)) ?_
    refine ⟨_, rfl, ?_⟩
    refine iteT (notT (rfl)) ?_
    refine wss_cons ?_
    refine ws_raise (err_Bad T _ rfl rfl rfl rfl rfl (hr.mono (by decide))) rfl ?_
    refine wa_cons ?_
    refine we_str ?_
    refine wa_nil ?_
    refine ⟨rfl, ?_⟩
    exact ⟨by decide, M, Msub.refl, q⟩
end
end K05

set_option Elab.async false
set_option linter.all false
set_option maxRecDepth 100000
set_option maxHeartbeats 1000000
namespace K05
open PySem PySem.Spec PyProof.Rows L2 JQ
section
variable {P : Program} {w : World} {K : PySem.W.Frag} {mg : Str → Option Value} {base : Heap}
open ZM (plc LeastAt Full RoomAt Nxt EndX First Wlk Plx LtX)
def SLf : Sd := fun ds M P _ => ∃ (n : Nat) (g : Gp) (hd : List Int), ds = [gapD n g, .tup (hd.map D.int)] ∧ 1 ≤ hd.length ∧ hd.length ≤ n ∧ n ≤ 12 ∧ ∀ ys : List Int, ys.length = n → ys.take hd.length = hd → (∀ i, hd.length ≤ i → i < n → LeastAt g ys i) → P (.tup (ys.map D.int)) M
theorem len_SLf : ∀ ds M P EE, SLf ds M P EE → ds.length = 2 := fun ds M P EE ⟨_, _, _, e, _⟩ => by rw [e]; rfl
theorem ints_at {xs : List Int} {i : Nat} (h : i < xs.length) : L2.atI (xs.map D.int) (i : Int) = some (.int (plc xs i)) := atI_of (by rw [List.getElem?_map, List.getElem?_eq_getElem h]; simp [plc, List.getD_eq_getElem?_getD, List.getElem?_eq_getElem h])
theorem snoc_at {xs : List Int} {v : Int} : plc (xs ++ [v]) xs.length = v := by rw [ZM.plc_app, if_neg (Nat.lt_irrefl _), if_pos rfl]
theorem snoc_lt {xs : List Int} {v : Int} {i : Nat} (h : i < xs.length) : plc (xs ++ [v]) i = plc xs i := by rw [ZM.plc_app, if_pos h]
abbrev N_lf : List Str := ["gaps", "head", "places", "point", "least", "ahead"]
theorem sc_least_from : FnScope N_lf ["gaps", "head"] (defScope s_least_from) := ⟨rfl, rfl, rfl, by decide +kernel, rfl, by decide +kernel, by decide +kernel⟩
theorem len_least_from : ∀ ds M P EE, SLf ds M P EE → ds.length = 2 := len_SLf
theorem kf_least_from (T : Tx K mg) : KF P w K mg base 1 "least_from" 2 [] SLf := by
  obtain ⟨fd, F⟩ := F_least_from T
  refine ⟨_, fd, ["gaps", "head"], ?_, bndD F 2 [] (fun _ _ _ _ _ _ us ws h1 h2 => match us, ws, h1, h2 with | [_, _], [], _, _ => rfl), g_least_from T, F.kp⟩
  refine fnDD F sc_least_from len_SLf fun cdv A outer s H E hg hr ds M Pd EE ⟨n, g, hd, e, h1, hl, hn, q⟩ => ?_
  subst e
  have nd := sc_least_from.nd
  refine wss_cons ?_
  refine ws_set 2 nd ?_
  refine we_callTy (T := "list") ?_ (free_list T)
  refine wa_cons ?_
  refine we_var 1 (by rfl) ?_
  refine wa_nil ?_
  refine c_lst SqAt.tup ?_
  have hz : n < 1000 := by omega
  refine .inr fun p hp => ?_
  refine wss_cons ?_
  refine ws_for (T := [3]) (passes_of rfl) rfl ?_
  refine wi_rng2 (free_range T) ?_
  refine wa_cons ?_
  refine we_callB (id := "len") ?_ (free_len T)
  refine wa_cons ?_
  refine we_var 1 (by rfl) ?_
  refine wa_nil ?_
  refine c_len SqAt.tup ?_
  refine wa_cons ?_
  refine we_callB (id := "len") ?_ (free_len T)
  refine wa_cons ?_
  refine we_var 0 (by rfl) ?_
  refine wa_nil ?_
  refine c_len SqAt.tup ?_
  refine wa_nil ?_
  rw [List.length_map, List.length_map, List.length_range]
  refine ⟨_, _, rfl, ⟨by omega, by omega, by omega, by omega⟩, ?_⟩
  refine ⟨fun k ss' M' => ∃ (xs : List Int) (s3 s4 : S), ss' = [some (gapD n g), some (.tup (hd.map D.int)), some (.rf p), s3, s4, none] ∧ M' p = some (.lst (xs.map D.int)) ∧ Msub M M' ∧ xs.length = hd.length + k ∧ xs.take hd.length = hd ∧ ∀ i, hd.length ≤ i → i < hd.length + k → LeastAt g xs i, ⟨hd, none, none, rfl, mup_same, msub_up hp, rfl, List.take_length, fun i a b => by omega⟩, fun _ _ _ _ => trivial, fun k d ss' M1 hd' iv => ?_, fun ss' M1 iv => ?_⟩
  · obtain ⟨xs, s3, s4, rfl, em, sm, hx, ht, hle⟩ := iv
    obtain ⟨hk, rfl⟩ := rngD_get hd'
    rw [show ((hd.length : Nat) : Int) + (k : Int) = ((hd.length + k : Nat) : Int) by omega]
    refine wg_name 3 nd ?_
    refine wss_cons ?_
    refine ws_set 4 nd ?_
    refine we_callB (id := "max") ?_ (free_max T)
    refine wa_cons ?_
    refine we_lc [("ahead", 5)] rfl nd (blkOk_by (N := N_lf) (sc := defScope s_least_from) (by decide +kernel)) ?_
    refine wi_rng1 (free_range T) ?_
    refine we_var 3 (by rfl) ?_
    refine ⟨((hd.length + k : Nat) : Int), rfl, by omega, by omega, ?_⟩
    have hj : hd.length + k < n := by omega
    rw [show (((hd.length + k : Nat) : Int)).toNat = hd.length + k by omega]
    refine WLc.mapL (List.range (hd.length + k)) _ (fun a => .int (plc xs a - g a (hd.length + k))) (fun _ _ => trivial) (by rw [List.length_range]; omega) [5] (by simp) (fun i r M' hr' sub s H C cl' fp => ?_) fun M' sub => .inl ?_
    · obtain ⟨hr1, hr2⟩ : i < hd.length + k ∧ r = i := by
        have h := List.getElem?_eq_some_iff.mp hr'
        obtain ⟨h1, h2⟩ := h
        rw [List.length_range] at h1
        rw [List.getElem_range] at h2
        exact ⟨h1, h2.symm⟩
      subst hr2
      rw [show (0 : Int) + (r : Int) = (r : Int) by omega]
      refine wg_name 5 nd ?_
      intro s H C cl' fp
      refine we_bin ?_
      refine we_ix ?_
      refine we_var 2 (by rfl) ?_
      refine we_var 5 (by rfl) ?_
      refine ⟨r, _, rfl, ⟨_, sub p _ em, ints_at (by omega)⟩, ?_⟩
      refine we_ix ?_
      refine we_ix ?_
      refine we_var 0 (by rfl) ?_
      refine we_var 5 (by rfl) ?_
      refine ⟨_, _, rfl, atI_of (ix_rng (by omega)), ?_⟩
      refine we_var 3 (by rfl) ?_
      refine ⟨_, _, rfl, atI_of (ix_rng (by omega)), ?_⟩
      refine o_sub ?_
      exact ⟨rfl, sub⟩
    · refine wa_nil ?_
      refine c_maxL (ns := (List.range (hd.length + k)).map fun a => plc xs a - g a (hd.length + k)) rfl ?_ (by rw [List.length_map, List.length_range]; omega) fun m hm hall => ?_
      · rw [List.map_map]; exact LAt.lst
      obtain ⟨b, hb, rfl⟩ := List.mem_map.mp hm
      have hb := List.mem_range.mp hb
      refine wss_cons ?_
      refine ws_expr ?_
      refine we_append ?_
      refine we_var 2 (by rfl) ?_
      refine ⟨p, rfl, ⟨_, sub p _ em⟩, ?_⟩
      refine we_var 4 (by rfl) ?_
      refine ⟨_, sub p _ em, Nat.lt_of_le_of_lt (by rw [List.length_map]; omega : _ ≤ 100) (by decide), ?_⟩
      refine wss_nil ?_
      refine ⟨xs ++ [plc xs b - g b (hd.length + k)], _, _, rfl, by rw [mup_same, List.map_append]; rfl, msub_put (fun a o h => sub a o (sm a o h)) hp, by rw [List.length_append, hx]; rfl, by rw [List.take_append_of_le_length (by omega)]; exact ht, fun i h3 h4 => ?_⟩
      have ht2 : (xs ++ [plc xs b - g b (hd.length + k)]).take xs.length = xs := List.take_left' rfl
      rcases Nat.lt_or_ge i xs.length with c | c
      · rw [ZM.least_take ht2 c]
        exact hle i h3 (by omega)
      · obtain rfl : i = xs.length := by omega
        refine ⟨⟨b, by omega, ?_⟩, fun a ha => ?_⟩
        · rw [snoc_at, snoc_lt (by omega), hx]
        · rw [snoc_at, snoc_lt ha, hx]
          exact hall _ (List.mem_map.mpr ⟨a, List.mem_range.mpr (by omega), rfl⟩)
  · obtain ⟨xs, s3, s4, rfl, em, sm, hx, ht, hle⟩ := iv
    rw [rngD_len] at hx hle
    refine wss_cons ?_
    refine ws_ret ?_
    refine we_dropR ?_
    refine we_callTy (T := "tuple") ?_ (free_tuple T)
    refine wa_cons ?_
    refine we_var 2 (by rfl) ?_
    refine wa_nil ?_
    refine c_tup (SqAt.rf (by first | exact mup_same | assumption | exact mup_at (by first | assumption | exact fun z => absurd z.symm ‹_›) (by first | exact mup_same | assumption | exact mup_at (by first | assumption | exact fun z => absurd z.symm ‹_›) (by first | exact mup_same | assumption) | exact mdel_at (by first | assumption | exact fun z => absurd z.symm ‹_›) (by first | exact mup_same | assumption)) | exact mdel_at (by first | assumption | exact fun z => absurd z.symm ‹_›) (by first | exact mup_same | assumption | exact mup_at (by first | assumption | exact fun z => absurd z.symm ‹_›) (by first | exact mup_same | assumption) | exact mdel_at (by first | assumption | exact fun z => absurd z.symm ‹_›) (by first | exact mup_same | assumption)))) ?_
    exact ⟨M, sm, q xs (by omega) ht fun i a b => hle i a (by omega)⟩
end
end K05

set_option Elab.async false
set_option linter.all false
set_option maxRecDepth 100000
set_option maxHeartbeats 1000000
namespace K05
open PySem PySem.Spec PyProof.Rows L2 JQ
section
variable {P : Program} {w : World} {K : PySem.W.Frag} {mg : Str → Option Value} {base : Heap}
open ZM (plc LeastAt Full RoomAt Nxt EndX First Wlk Plx LtX)
def SPb : Sd := fun ds M P _ => ∃ (n : Nat) (g : Gp) (xs : List Int), ds = [gapD n g, .tup (xs.map D.int)] ∧ xs.length = n ∧ 1 ≤ n ∧ n ≤ 12 ∧ (EndX n g xs → P .non M) ∧ ∀ ys : List Int, Nxt n g xs ys → P (.tup (ys.map D.int)) M
theorem len_SPb : ∀ ds M P EE, SPb ds M P EE → ds.length = 2 := fun ds M P EE ⟨_, _, _, e, _⟩ => by rw [e]; rfl
theorem rngC_get {lo c : Int} {n i : Nat} {d : D} (h : (rngC lo c n)[i]? = some d) : i < n ∧ d = .int (lo + (i : Int) * c) := get_range h
theorem rngC_len {lo c : Int} {n : Nat} : (rngC lo c n).length = n := by unfold rngC; rw [List.length_map, List.length_range]
abbrev N_pb : List Str := ["gaps", "places", "point", "most", "ahead"]
theorem sc_placing_behind : FnScope N_pb ["gaps", "places"] (defScope s_placing_behind) := ⟨rfl, rfl, rfl, by decide +kernel, rfl, by decide +kernel, by decide +kernel⟩
theorem len_placing_behind : ∀ ds M P EE, SPb ds M P EE → ds.length = 2 := len_SPb
theorem kf_placing_behind (T : Tx K mg) : KF P w K mg base 2 "placing_behind" 2 [] SPb := by
  obtain ⟨fd, F⟩ := F_placing_behind T
  refine ⟨_, fd, ["gaps", "places"], ?_, bndD F 2 [] (fun _ _ _ _ _ _ us ws h1 h2 => match us, ws, h1, h2 with | [_, _], [], _, _ => rfl), g_placing_behind T, F.kp⟩
  refine fnDD F sc_placing_behind len_SPb fun cdv A outer s H E hg hr ds M Pd EE ⟨n, g, xs, e, hl, h1, hn, q0, q⟩ => ?_
  subst e
  have nd := sc_placing_behind.nd
  refine wss_cons ?_
  refine ws_for (T := [2]) (passes_of rfl) rfl ?_
  refine wi_rngD (free_range T) ?_
  refine wa_cons ?_
  refine we_bin ?_
  refine we_callB (id := "len") ?_ (free_len T)
  refine wa_cons ?_
  refine we_var 1 (by rfl) ?_
  refine wa_nil ?_
  refine c_len SqAt.tup ?_
  refine we_int ?_
  refine o_sub ?_
  refine wa_cons ?_
  refine we_int ?_
  refine wa_cons ?_
  refine we_un ?_
  refine we_int ?_
  refine o_neg ?_
  refine wa_nil ?_
  rw [List.length_map, hl]
  refine ⟨((n : Nat) : Int) - 1, 0, rfl, ⟨by omega, by omega, by omega, by omega⟩, ?_⟩
  refine ⟨fun k ss' M' => ∃ (s2 s3 : S), ss' = [some (gapD n g), some (.tup (xs.map D.int)), s2, s3, none] ∧ Msub M M' ∧ k ≤ n - 1 ∧ ∀ i, n - 1 - k < i → i < n → Full g xs i, ⟨none, none, rfl, fun _ _ h => h, by omega, fun i a b => by omega⟩, fun _ _ _ _ => trivial, fun k d ss' M1 hd' iv => ?_, fun ss' M1 iv => ?_⟩
  · obtain ⟨s2, s3, rfl, sm, hk1, hf⟩ := iv
    obtain ⟨hk, rfl⟩ := rngC_get hd'
    obtain ⟨j, hj⟩ : ∃ j : Nat, j = n - 1 - k := ⟨_, rfl⟩
    have hj1 : 1 ≤ j := by omega
    have hjn : j < n := by omega
    rw [show ((n : Nat) : Int) - 1 + (k : Int) * -1 = (j : Int) by omega]
    refine wg_name 2 nd ?_
    refine wss_cons ?_
    refine ws_set 3 nd ?_
    refine we_callB (id := "min") ?_ (free_min T)
    refine wa_cons ?_
    refine we_lc [("ahead", 4)] rfl nd (blkOk_by (N := N_pb) (sc := defScope s_placing_behind) (by decide +kernel)) ?_
    refine wi_rng1 (free_range T) ?_
    refine we_var 2 (by rfl) ?_
    refine ⟨(j : Int), rfl, by omega, by omega, ?_⟩
    rw [show ((j : Nat) : Int).toNat = j by omega]
    refine WLc.mapL (List.range j) _ (fun a => .int (plc xs a + g j a)) (fun _ _ => trivial) (by rw [List.length_range]; omega) [4] (by simp) (fun i r M' hr' sub s H C cl' fp => ?_) fun M' sub => .inl ?_
    · obtain ⟨hr1, hr2⟩ : i < j ∧ r = i := by
        have h := List.getElem?_eq_some_iff.mp hr'
        obtain ⟨h1, h2⟩ := h
        rw [List.length_range] at h1
        rw [List.getElem_range] at h2
        exact ⟨h1, h2.symm⟩
      subst hr2
      rw [show (0 : Int) + (r : Int) = (r : Int) by omega]
      refine wg_name 4 nd ?_
      intro s H C cl' fp
      refine we_bin ?_
      refine we_ix ?_
      refine we_var 1 (by rfl) ?_
      refine we_var 4 (by rfl) ?_
      refine ⟨r, _, rfl, ints_at (by omega), ?_⟩
      refine we_ix ?_
      refine we_ix ?_
      refine we_var 0 (by rfl) ?_
      refine we_var 2 (by rfl) ?_
      refine ⟨_, _, rfl, atI_of (ix_rng (by omega)), ?_⟩
      refine we_var 4 (by rfl) ?_
      refine ⟨_, _, rfl, atI_of (ix_rng (by omega)), ?_⟩
      refine o_add ?_
      exact ⟨rfl, sub⟩
    · refine wa_nil ?_
      refine c_minL (ns := (List.range j).map fun a => plc xs a + g j a) rfl ?_ (by rw [List.length_map, List.length_range]; omega) fun m hm hall => ?_
      · rw [List.map_map]; exact LAt.lst
      obtain ⟨b, hb, rfl⟩ := List.mem_map.mp hm
      have hb := List.mem_range.mp hb
      have ej : L2.atI (xs.map D.int) (j : Int) = some (.int (plc xs j)) := ints_at (by omega)
      refine wss_cons ?_
      refine ws_if ?_
      refine wt_cmp ?_
      refine we_ix ?_
      refine we_var 1 (by rfl) ?_
      refine we_var 2 (by rfl) ?_
      refine ⟨j, _, rfl, ej, ?_⟩
      refine we_var 3 (by rfl) ?_
      refine o_lt ?_
      refine ⟨_, rfl, ?_⟩
      refine iteB (fun hlt => ?_) fun hlt => ?_
      · have hlt := of_decide_eq_true hlt
        refine wss_cons ?_
        refine ws_ret ?_
        refine we_dropR ?_
        refine we_fn (kf_least_from (K := K) T) hg (hr.mono (by decide)) ?_ rfl (hlen := len_least_from)
        refine wa_cons ?_
        refine we_var 0 (by rfl) ?_
        refine wa_cons ?_
        refine we_bin ?_
        refine we_slT ?_
        refine we_var 1 (by rfl) ?_
        refine wo_no ?_
        refine wo_some ?_
        refine we_var 2 (by rfl) ?_
        refine ⟨_, rfl, ?_⟩
        refine ⟨_, rfl, ?_⟩
        refine we_tup ?_
        refine wa_cons ?_
        refine we_bin ?_
        refine we_ix ?_
        refine we_var 1 (by rfl) ?_
        refine we_var 2 (by rfl) ?_
        refine ⟨_, _, rfl, ej, ?_⟩
        refine we_int ?_
        refine o_add ?_
        refine wa_nil ?_
        refine ⟨(by decide : 1 ≤ sizeLine), ?_⟩
        rw [cut_upto]
        refine o_catT ?_ ?_
        · rw [List.length_take, List.length_map]
          exact Nat.le_trans (by simp; omega : _ ≤ 100) (by decide)
        refine wa_nil ?_
        refine ⟨n, g, xs.take j ++ [plc xs j + 1], by rw [List.map_append, List.map_take]; rfl, by rw [List.length_append]; exact Nat.le_add_left _ _, ?_, hn, fun ys h3 h4 h5 => ?_⟩
        · rw [List.length_append, List.length_take]
          show min j xs.length + 1 ≤ n
          omega
        have hz : (xs.take j ++ [plc xs j + 1]).length = j + 1 := by
          rw [List.length_append, List.length_take]
          show min j xs.length + 1 = j + 1
          omega
        have hz2 : (xs.take j).length = j := by
          rw [List.length_take]
          omega
        rw [hz] at h4 h5
        refine ⟨M, fun a o h => sub a o (sm a o h), q ys ⟨j, hj1, hjn, fun a ha => ?_, fun i h6 h7 => hf i (by omega) h7, h3, fun a ha => ?_, ?_, fun i h6 h7 => h5 i h6 h7⟩⟩
        · have h8 := hall _ (List.mem_map.mpr ⟨a, List.mem_range.mpr ha, rfl⟩)
          omega
        · rw [ZM.plc_take h4 (by omega), snoc_lt (by omega)]
          exact (ZM.plc_take rfl ha).symm
        · rw [ZM.plc_take h4 (by omega)]
          have h9 := snoc_at (xs := xs.take j) (v := plc xs j + 1)
          rw [hz2] at h9
          exact h9
      · have hlt := of_decide_eq_false hlt
        refine wss_nil ?_
        refine wss_nil ?_
        refine ⟨_, _, rfl, fun a o h => sub a o (sm a o h), by omega, fun i h3 h4 => ?_⟩
        rcases Nat.lt_or_ge j i with c | c
        · exact hf i (by omega) h4
        · obtain rfl : i = j := by omega
          exact ⟨b, hb, by omega⟩
  · obtain ⟨s2, s3, rfl, sm, hk1, hf⟩ := iv
    rw [rngC_len] at hf
    refine wss_cons ?_
    refine ws_ret ?_
    refine we_dropR ?_
    refine we_non ?_
    exact ⟨M, sm, q0 fun i a b => hf i (by omega) b⟩
end
end K05

set_option Elab.async false
set_option linter.all false
set_option maxRecDepth 100000
set_option maxHeartbeats 1000000
namespace K05
open PySem PySem.Spec PyProof.Rows L2 JQ
section
variable {P : Program} {w : World} {K : PySem.W.Frag} {mg : Str → Option Value} {base : Heap}
open ZM (plc LeastAt Full RoomAt Nxt EndX First Wlk Plx LtX)
abbrev plD (xs : List Int) : D := .tup (xs.map D.int)
def SGPl (K : PySem.W.Frag) : List D → List D → Prop := fun ds is => ∃ (n : Nat) (wd : Int) (R : List Rw), ds = [zD K n wd R] ∧ 1 ≤ n ∧ n ≤ 12 ∧ ((ZM.gapsOf wd R = none ∧ is = []) ∨ ∃ g xs rest, ZM.gapsOf wd R = some g ∧ First n g xs ∧ Wlk n g xs rest ∧ is = (xs :: rest).map plD)
theorem len_SGPl : ∀ ds is, SGPl K ds is → ds.length = 1 := fun ds is ⟨_, _, _, e, _⟩ => by rw [e]; rfl
abbrev N_zp : List Str := ["self", "places"]
theorem sg_Zone_placings : GScope N_zp ["self"] (defScope s_Zone_placings) := ⟨rfl, rfl, rfl, by decide +kernel, rfl, by decide +kernel, by decide +kernel⟩
theorem sp_Zone_placings : GScp N_zp (defScope s_Zone_placings) := ⟨rfl, by decide +kernel⟩
theorem kgm_placings (T : Tx K mg) : KGM P w K mg base 3 (cZone K) "placings" 0 (SGPl K) := by
  obtain ⟨fd, F⟩ := F_Zone_placings T
  refine ⟨_, fd, ["self"], ?_, bndD F 1 [] (fun _ _ _ _ _ _ us ws h1 h2 => match us, ws, h1, h2 with | [_], [], _, _ => rfl), cls_Zone T, me_Zone_placings T⟩
  refine gnD F sg_Zone_placings sp_Zone_placings len_SGPl fun cdv outer L ag ds items ⟨n, wd, R, e, h1, hn, h⟩ => ?_
  subst e
  have cl := cls_Zone T
  have nd := sg_Zone_placings.nd
  rcases h with ⟨eg, rfl⟩ | ⟨g, xs0, rest0, eg, hF, hW, rfl⟩
  · refine gs_cons (gs_plain fun t hg hr => ?_)
    refine ws_set 1 nd ?_
    refine we_ifx ?_
    refine wt_cmp ?_
    refine we_fld ?_
    refine we_var 0 (by rfl) ?_
    refine ⟨_, _, _, OAt.obj, cls_Zone T, no_Zone_gaps T, rfl, ?_⟩
    refine we_non ?_
    rw [eg]
    refine o_isN ?_
    refine ⟨_, rfl, ?_⟩
    refine iteT (rfl) ?_
    refine we_non ?_
    refine gs_cons (gs_while (fun m ds ss => m = 0 ∧ ds = [] ∧ ss = [some (zD K n wd R), some .non]) 0 ⟨rfl, rfl, rfl⟩ fun m ds ss ⟨_, e1, e2⟩ t hg hr => ?_)
    subst e1 e2
    refine wt_cmp ?_
    refine we_var 1 (by rfl) ?_
    refine we_non ?_
    refine o_ntN ?_
    refine ⟨_, rfl, ?_⟩
    refine iteF (rfl) ?_
    exact gs_nil rfl
  · have hx0 : xs0.length = n := hF.1
    refine gs_cons (gs_plain fun t hg hr => ?_)
    have hr : Room 2 _ := hr
    refine ws_set 1 nd ?_
    refine we_ifx ?_
    refine wt_cmp ?_
    refine we_fld ?_
    refine we_var 0 (by rfl) ?_
    refine ⟨_, _, _, OAt.obj, cls_Zone T, no_Zone_gaps T, rfl, ?_⟩
    refine we_non ?_
    rw [eg]
    refine o_isN' rfl ?_
    refine ⟨_, rfl, ?_⟩
    refine iteF (rfl) ?_
    refine we_fn (kf_least_from (K := K) T) hg (hr.mono (by decide)) ?_ rfl (hlen := len_least_from)
    refine wa_cons ?_
    refine we_fld ?_
    refine we_var 0 (by rfl) ?_
    refine ⟨_, _, _, OAt.obj, cls_Zone T, no_Zone_gaps T, rfl, ?_⟩
    refine wa_cons ?_
    refine we_tup ?_
    refine wa_cons ?_
    refine we_int ?_
    refine wa_nil ?_
    refine ⟨(by decide : 1 ≤ sizeLine), ?_⟩
    refine wa_nil ?_
    refine ⟨n, g, [0], by rw [eg]; rfl, (by decide : 1 ≤ 1), by show 1 ≤ n; omega, hn, fun ys h3 h4 h5 => ?_⟩
    obtain rfl : ys = xs0 := (ZM.first_of h3 h4 h5).uniq hF
    refine gs_cons (gs_while (fun m ds ss => (∃ (xs : List Int) (rest : List (List Int)), m = rest.length + 1 ∧ Wlk n g xs rest ∧ xs.length = n ∧ ds = (xs :: rest).map plD ∧ ss = [some (zD K n wd R), some (plD xs)]) ∨ (m = 0 ∧ ds = [] ∧ ss = [some (zD K n wd R), some .non])) _ (.inl ⟨ys, rest0, rfl, hW, hx0, rfl, rfl⟩) fun m ds ss iv t hg hr => ?_)
    have hr : Room 2 _ := hr
    rcases iv with ⟨xs, rest, rfl, hW, hx, rfl, rfl⟩ | ⟨rfl, rfl, rfl⟩
    · refine wt_cmp ?_
      refine we_var 1 (by rfl) ?_
      refine we_non ?_
      refine o_ntN' rfl ?_
      refine ⟨_, rfl, ?_⟩
      refine iteT (rfl) ?_
      refine gs_cons (gs_yield sp_Zone_placings fun t hg hr => ?_)
      have hr : Room 2 _ := hr
      refine we_var 1 (by rfl) ?_
      refine ⟨_, rfl, gs_cons (gs_plain fun t hg hr => ?_)⟩
      have hr : Room 2 _ := hr
      refine ws_set 1 nd ?_
      refine we_fn (kf_placing_behind (K := K) T) hg (hr.mono (by decide)) ?_ rfl (hlen := len_placing_behind)
      refine wa_cons ?_
      refine we_fld ?_
      refine we_var 0 (by rfl) ?_
      refine ⟨_, _, _, OAt.obj, cls_Zone T, no_Zone_gaps T, rfl, ?_⟩
      refine wa_cons ?_
      refine we_var 1 (by rfl) ?_
      refine wa_nil ?_
      refine ⟨n, g, xs, by rw [eg]; rfl, hx, h1, hn, fun he => ?_, fun ys hy => ?_⟩
      · cases hW with
        | last _ =>
          exact gs_nil ⟨0, by omega, .inr ⟨rfl, rfl, rfl⟩⟩
        | next nx _ => exact (nx.noEnd he).elim
      · cases hW with
        | last he => exact (hy.noEnd he).elim
        | next nx w =>
          obtain rfl := hy.uniq nx
          exact gs_nil ⟨_, Nat.lt_succ_self _, .inl ⟨_, _, rfl, w, by obtain ⟨_, _, _, _, _, h, _⟩ := nx; exact h, rfl, rfl⟩⟩
    · refine wt_cmp ?_
      refine we_var 1 (by rfl) ?_
      refine we_non ?_
      refine o_ntN ?_
      refine ⟨_, rfl, ?_⟩
      refine iteF (rfl) ?_
      exact gs_nil rfl
end
end K05

set_option Elab.async false
set_option linter.all false
set_option maxRecDepth 100000
set_option maxHeartbeats 1000000
namespace K05
open PySem PySem.Spec PyProof.Rows L2 JQ
section
variable {P : Program} {w : World} {K : PySem.W.Frag} {mg : Str → Option Value} {base : Heap}
open ZM (plc LeastAt Full RoomAt Nxt EndX First Wlk Plx LtX)
/-! ### a drawn zone that has a placing -/
def SZn (K : PySem.W.Frag) : Sd := fun ds M P _ => ∃ (p : Addr) (cells : List Int) (at_ great sp : Int), ds = [.rf p] ∧ M p = some (pen cells at_ great sp) ∧ PenOk 900000 cells at_ sp ∧ ∀ (n : Nat) (wd : Int) (R : List Rw) (gp : Gp) (M' : Mm) (a g : Int), 2 ≤ n → n ≤ 5 → ZC n wd R → R.length ≤ 10 → ZM.gapsOf wd R = some gp → at_ ≤ a → a ≤ at_ + 80 → M' p = some (pen cells a g sp) → P (zD K n wd R) M'
theorem len_l_zone : ∀ ds M P EE, SZn K ds M P EE → ds.length = 1 := fun ds M P EE ⟨_, _, _, _, _, e, _⟩ => by rw [e]; rfl
theorem at_last {ds : List D} {d : D} : L2.atI (ds ++ [d]) (-1) = some d := by
  have e : L2.ixN (ds ++ [d]).length (-1) = some ds.length := by
    unfold L2.ixN
    rw [List.length_append]
    simp
    omega
  unfold L2.atI
  rw [e]
  simp
abbrev N_zn : List Str := ["_law_pen_here", "_law_size", "_law_room", "_law_spots", "_law_rows", "_law_point", "_law_turn", "_law_left", "_law_right", "_law_slack"]
theorem sc_l_zone : FnScope N_zn ["_law_pen_here"] (defScope s_l_zone) := ⟨rfl, rfl, rfl, by decide +kernel, rfl, by decide +kernel, by decide +kernel⟩
theorem kf_l_zone (T : Tx K mg) : KF P w K mg base 6 "_law_zone" 1 [] (SZn K) := by
  obtain ⟨fd, F⟩ := F_l_zone T
  refine ⟨_, fd, ["_law_pen_here"], ?_, bndD F 1 [] (fun _ _ _ _ _ _ us ws h1 h2 => match us, ws, h1, h2 with | [_], [], _, _ => rfl), g_l_zone T, F.kp⟩
  refine fnDD F sc_l_zone len_l_zone fun cdv A outer s H E hg hr ds M Pd EE ⟨p, cells, at_, great, sp, e, em, po, q⟩ => ?_
  subst e
  have nd := sc_l_zone.nd
  obtain ⟨hc, ha0, ha1, hs0, hs1, _⟩ := po
  refine wss_cons ?_
  refine ws_par 1 2 rfl nd ?_
  refine wa_cons ?_
  refine we_bin ?_
  refine we_int ?_
  refine we_fn (kf_l_draw (K := K) T) hg (hr.mono (by decide)) ?_ rfl (hlen := len_l_draw)
  refine wa_cons ?_
  refine we_var 0 (by rfl) ?_
  refine wa_cons ?_
  refine we_int ?_
  refine wa_nil ?_
  refine ⟨p, cells, at_, great, sp, 4, rfl, em, hc, by omega, by omega, hs0, hs1, by decide, by decide, fun n a1 g1 hn0 hn1 h1 h2 => ?_⟩
  obtain ⟨n, rfl⟩ : ∃ j : Nat, n = (j : Int) := ⟨n.toNat, by omega⟩
  refine o_add ?_
  refine wa_cons ?_
  refine we_fn (kf_l_pick (K := K) T) hg (hr.mono (by decide)) ?_ rfl (hlen := len_l_pick)
  refine wa_cons ?_
  refine we_var 0 (by rfl) ?_
  refine wa_cons ?_
  refine we_lst ?_
  refine wa_cons ?_
  refine we_bin ?_
  refine we_bin ?_
  refine we_int ?_
  refine we_int ?_
  refine o_powE 1000000 (by decide) ⟨by decide, by decide, by decide⟩ ?_
  refine we_int ?_
  refine o_sub ?_
  refine wa_cons ?_
  refine we_int ?_
  refine wa_cons ?_
  refine we_int ?_
  refine wa_cons ?_
  refine we_int ?_
  refine wa_cons ?_
  refine we_fn (kf_l_draw (K := K) T) hg (hr.mono (by decide)) ?_ rfl (hlen := len_l_draw)
  refine wa_cons ?_
  refine we_var 0 (by rfl) ?_
  refine wa_cons ?_
  refine we_bin ?_
  refine we_int ?_
  refine we_int ?_
  refine o_powE 1000000 (by decide) ⟨by decide, by decide, by decide⟩ ?_
  refine wa_nil ?_
  refine ⟨p, cells, a1, g1, sp, 1000000, rfl, mup_same, hc, by omega, by omega, hs0, hs1, by decide, by decide, fun c2 a2 g2 hd0 hd1 h3 h4 => ?_⟩
  rw [mup_mup]
  refine wa_nil ?_
  refine ⟨(by decide : 5 ≤ sizeLine), ?_⟩
  refine Or.inl ?_
  refine wa_nil ?_
  refine ⟨p, cells, a2, g2, sp, _, rfl, mup_same, hc, by omega, by omega, hs0, hs1, (by decide : 0 < 5), (by decide : 5 < 1000000), fun i d a3 g3 hi h5 h6 => ?_⟩
  obtain ⟨wd, rfl, w0, w1⟩ : ∃ v : Int, d = .int v ∧ 0 ≤ v ∧ v ≤ 999999 := by
    have hm := List.mem_of_getElem? hi
    simp only [List.mem_cons, List.not_mem_nil, or_false] at hm
    rcases hm with rfl | rfl | rfl | rfl | rfl
    · exact ⟨_, rfl, by decide, by decide⟩
    · exact ⟨_, rfl, by decide, by decide⟩
    · exact ⟨_, rfl, by decide, by decide⟩
    · exact ⟨_, rfl, by decide, by decide⟩
    · exact ⟨_, rfl, by omega, by omega⟩
  rw [mup_mup, show (2 : Int) + (n : Int) = ((n + 2 : Nat) : Int) by omega]
  obtain ⟨n', en⟩ : ∃ n' : Nat, n' = n + 2 := ⟨_, rfl⟩
  rw [← en]
  refine wa_nil ?_
  refine ⟨_, _, rfl, ?_⟩
  refine wss_cons ?_
  refine ws_par 3 4 rfl nd ?_
  refine wa_cons ?_
  refine we_lst ?_
  refine wa_cons ?_
  refine we_int ?_
  refine wa_nil ?_
  refine ⟨(by decide : 1 ≤ sizeLine), ?_⟩
  refine .inr fun x hx => ?_
  have hxp : x ≠ p := fun z => by rw [z, mup_same] at hx; cases hx
  refine wa_cons ?_
  refine we_lst ?_
  refine wa_nil ?_
  refine ⟨(by decide : 0 ≤ sizeLine), ?_⟩
  refine .inr fun y hy => ?_
  have hyx : y ≠ x := fun z => by rw [z, mup_same] at hy; cases hy
  have hyp : y ≠ p := fun z => by rw [z, mup_ne hxp.symm, mup_same] at hy; cases hy
  refine wa_nil ?_
  refine ⟨_, _, rfl, ?_⟩
  refine wss_cons ?_
  refine ws_for (T := [5]) (passes_of rfl) rfl ?_
  refine wi_rng2 (free_range T) ?_
  refine wa_cons ?_
  refine we_int ?_
  refine wa_cons ?_
  refine we_var 1 (by rfl) ?_
  refine wa_nil ?_
  refine ⟨1, n', rfl, ⟨by omega, by omega, by omega, by omega⟩, ?_⟩
  refine ⟨fun k ss' M' => ∃ (zs : List Int) (l a g : Int) (s5 : S), ss' = [some (.rf p), some (.int n'), some (.int wd), some (.rf x), some (.rf y), s5, none, none, none, none] ∧ M' p = some (pen cells a g sp) ∧ M' x = some (.lst ((zs ++ [l]).map D.int)) ∧ M' y = some (.lst []) ∧ zs.length = k ∧ (zs ++ [l]).getD 0 0 = 0 ∧ (∀ v ∈ zs ++ [l], 0 ≤ v ∧ v ≤ wd) ∧ a3 ≤ a ∧ a ≤ a3 + 2 * k, ⟨[], 0, a3, g3, none, rfl, by rw [mup_ne hyp.symm, mup_ne hxp.symm, mup_same], by rw [mup_ne hyx.symm, mup_same]; rfl, mup_same, rfl, rfl, fun v hv => by rw [List.mem_singleton.mp hv]; exact ⟨Int.le_refl _, w0⟩, by omega, by omega⟩, fun _ _ _ _ => trivial, fun k d ss' M1 hd iv => ?_, fun ss' M1 iv => ?_⟩
  · obtain ⟨zs, l, a, g, s5, rfl, emp, emx, emy, hl, hz, hin, h7, h8⟩ := iv
    obtain ⟨hk, rfl⟩ := rngD_get hd
    have hk : k < 4 := by omega
    have el : L2.atI ((zs ++ [l]).map D.int) (-1) = some (.int l) := by rw [List.map_append]; exact at_last
    obtain ⟨l0, l1⟩ := hin l (List.mem_append_right _ List.mem_cons_self)
    refine wg_name 5 nd ?_
    refine wss_cons ?_
    refine ws_expr ?_
    refine we_append ?_
    refine we_var 3 (by rfl) ?_
    refine ⟨x, rfl, ⟨_, emx⟩, ?_⟩
    refine we_fn (kf_l_pick (K := K) T) hg (hr.mono (by decide)) ?_ rfl (hlen := len_l_pick)
    refine wa_cons ?_
    refine we_var 0 (by rfl) ?_
    refine wa_cons ?_
    refine we_lst ?_
    refine wa_cons ?_
    refine we_int ?_
    refine wa_cons ?_
    refine we_var 2 (by rfl) ?_
    refine wa_cons ?_
    refine we_ix ?_
    refine we_var 3 (by rfl) ?_
    refine we_un ?_
    refine we_int ?_
    refine o_neg ?_
    refine ⟨-1, .int l, rfl, ⟨_, emx, el⟩, ?_⟩
    refine wa_cons ?_
    refine we_fn (kf_l_draw (K := K) T) hg (hr.mono (by decide)) ?_ rfl (hlen := len_l_draw)
    refine wa_cons ?_
    refine we_var 0 (by rfl) ?_
    refine wa_cons ?_
    refine we_bin ?_
    refine we_var 2 (by rfl) ?_
    refine we_int ?_
    refine o_add ?_
    refine wa_nil ?_
    refine ⟨p, cells, a, g, sp, wd + 1, rfl, emp, hc, by omega, by omega, hs0, hs1, by omega, by omega, fun c a1' g1' hc0 hc1 h9 h10 => ?_⟩
    refine wa_nil ?_
    refine ⟨(by decide : 4 ≤ sizeLine), ?_⟩
    refine Or.inl ?_
    refine wa_nil ?_
    refine ⟨p, cells, a1', g1', sp, _, rfl, mup_same, hc, by omega, by omega, hs0, hs1, (by decide : 0 < 4), (by decide : 4 < 1000000), fun i d a2' g2' hi h11 h12 => ?_⟩
    obtain ⟨v, rfl, v0, v1⟩ : ∃ v : Int, d = .int v ∧ 0 ≤ v ∧ v ≤ wd := by
      have hm := List.mem_of_getElem? hi
      simp only [List.mem_cons, List.not_mem_nil, or_false] at hm
      rcases hm with rfl | rfl | rfl | rfl
      · exact ⟨_, rfl, by omega, by omega⟩
      · exact ⟨_, rfl, by omega, by omega⟩
      · exact ⟨_, rfl, by omega, by omega⟩
      · exact ⟨_, rfl, by omega, by omega⟩
    rw [mup_mup]
    refine ⟨_, by rw [mup_ne hxp]; exact emx, ?_, ?_⟩
    · rw [List.length_map, List.length_append, hl]
      exact Nat.lt_of_le_of_lt (by show k + 1 ≤ 100; omega : _ ≤ 100) (by decide)
    refine wss_nil ?_
    refine ⟨zs ++ [l], v, a2', g2', _, rfl, by rw [mup_ne hxp.symm, mup_same], by rw [mup_same, List.map_append (l₂ := [v])]; rfl, by rw [mup_ne hyx, mup_ne hyp]; exact emy, by rw [List.length_append, hl]; rfl, ?_, fun u hu => ?_, by omega, by omega⟩
    · rw [List.getD_eq_getElem?_getD, List.getElem?_append_left (by rw [List.length_append]; exact Nat.succ_pos _), ← List.getD_eq_getElem?_getD]
      exact hz
    · rcases List.mem_append.mp hu with h | h
      · exact hin u h
      · rw [List.mem_singleton.mp h]; exact ⟨v0, v1⟩
  · obtain ⟨zs, l, a, g, s5, rfl, emp, emx, emy, hl, hz, hin, h7, h8⟩ := iv
    rw [rngD_len] at hl h8
    have hzl : (zs ++ [l]).length = n' := by rw [List.length_append, hl]; show _ + 1 = n'; omega
    generalize zs ++ [l] = qs at emx hz hin hzl
    refine wss_cons ?_
    refine ws_for (T := [6]) (passes_of rfl) rfl ?_
    refine wi_rng1 (free_range T) ?_
    refine we_bin ?_
    refine we_int ?_
    refine we_fn (kf_l_draw (K := K) T) hg (hr.mono (by decide)) ?_ rfl (hlen := len_l_draw)
    refine wa_cons ?_
    refine we_var 0 (by rfl) ?_
    refine wa_cons ?_
    refine we_int ?_
    refine wa_nil ?_
    refine ⟨p, cells, a, g, sp, 9, rfl, emp, hc, by omega, by omega, hs0, hs1, by decide, by decide, fun tn a5 g5 ht0 ht1 h9 h10 => ?_⟩
    refine o_add ?_
    refine ⟨2 + tn, rfl, by omega, by omega, ?_⟩
    refine ⟨fun k ss' M' => ∃ (rs : List Rw) (a g : Int) (s5 s6 s7 s8 s9 : S), ss' = [some (.rf p), some (.int n'), some (.int wd), some (.rf x), some (.rf y), s5, s6, s7, s8, s9] ∧ M' p = some (pen cells a g sp) ∧ M' x = some (.lst (qs.map D.int)) ∧ M' y = some (.lst (rs.map (rD K))) ∧ rs.length = k ∧ (∀ r ∈ rs, RowOk n' r ∧ ZM.Holds (fun i => plc qs i) r) ∧ a5 ≤ a ∧ a ≤ a5 + 4 * k, ⟨[], a5, g5, _, _, _, _, _, rfl, mup_same, by rw [mup_ne hxp]; exact emx, by rw [mup_ne hyp]; exact emy, rfl, fun r h => absurd h List.not_mem_nil, by omega, by omega⟩, fun _ _ _ _ => trivial, fun k d ss' M' hd iv => ?_, fun ss' M' iv => ?_⟩
    · obtain ⟨rs, a, g, s5, s6, s7, s8, s9, rfl, emp, emx, emy, hl, hrs, h11, h12⟩ := iv
      obtain ⟨hk, rfl⟩ := rngD_get hd
      have hk : k < 11 := by omega
      refine wg_name 6 nd ?_
      refine wss_cons ?_
      refine ws_par 7 8 rfl nd ?_
      refine wa_cons ?_
      refine we_fn (kf_l_draw (K := K) T) hg (hr.mono (by decide)) ?_ rfl (hlen := len_l_draw)
      refine wa_cons ?_
      refine we_var 0 (by rfl) ?_
      refine wa_cons ?_
      refine we_var 1 (by rfl) ?_
      refine wa_nil ?_
      refine ⟨p, cells, a, g, sp, n', rfl, emp, hc, by omega, by omega, hs0, hs1, by omega, by omega, fun l a1' g1' hl0 hl1 h13 h14 => ?_⟩
      obtain ⟨l, rfl⟩ : ∃ cn : Nat, l = (cn : Int) := ⟨l.toNat, by omega⟩
      refine wa_cons ?_
      refine we_fn (kf_l_draw (K := K) T) hg (hr.mono (by decide)) ?_ rfl (hlen := len_l_draw)
      refine wa_cons ?_
      refine we_var 0 (by rfl) ?_
      refine wa_cons ?_
      refine we_bin ?_
      refine we_var 1 (by rfl) ?_
      refine we_int ?_
      refine o_sub ?_
      refine wa_nil ?_
      refine ⟨p, cells, a1', g1', sp, (n' : Int) - 1, rfl, mup_same, hc, by omega, by omega, hs0, hs1, by omega, by omega, fun rr a2' g2' hr0 hr1 h15 h16 => ?_⟩
      obtain ⟨rr, rfl⟩ : ∃ cn : Nat, rr = (cn : Int) := ⟨rr.toNat, by omega⟩
      rw [mup_mup]
      refine wa_nil ?_
      refine ⟨_, _, rfl, ?_⟩
      refine wss_cons ?_
      refine ws_set 8 nd ?_
      refine we_bin ?_
      refine we_var 8 (by rfl) ?_
      refine we_callTy (T := "int") ?_ (free_int T)
      refine wa_cons ?_
      refine we_cmp ?_
      refine we_var 8 (by rfl) ?_
      refine we_var 7 (by rfl) ?_
      refine o_ge ?_
      refine wa_nil ?_
      refine c_intB ?_
      refine o_add ?_
      refine wss_cons ?_
      refine ws_set 9 nd ?_
      refine we_fn (kf_l_pick (K := K) T) hg (hr.mono (by decide)) ?_ rfl (hlen := len_l_pick)
      refine wa_cons ?_
      refine we_var 0 (by rfl) ?_
      refine wa_cons ?_
      refine we_lst ?_
      refine wa_cons ?_
      refine we_int ?_
      refine wa_cons ?_
      refine we_int ?_
      refine wa_cons ?_
      refine we_int ?_
      refine wa_cons ?_
      refine we_int ?_
      refine wa_cons ?_
      refine we_fn (kf_l_draw (K := K) T) hg (hr.mono (by decide)) ?_ rfl (hlen := len_l_draw)
      refine wa_cons ?_
      refine we_var 0 (by rfl) ?_
      refine wa_cons ?_
      refine we_int ?_
      refine wa_nil ?_
      obtain ⟨o, eo, ho, hno⟩ : ∃ o : Nat, (rr : Int) + (if decide ((l : Int) ≤ (rr : Int)) = true then 1 else 0) = (o : Int) ∧ o < n' ∧ l ≠ o := by
        by_cases z : l ≤ rr
        · exact ⟨rr + 1, by rw [if_pos (by simpa using z)]; omega, by omega, by omega⟩
        · exact ⟨rr, by rw [if_neg (by simpa using z)]; omega, by omega, by omega⟩
      rw [eo]
      have hln : l < n' := by omega
      have ql := hin (plc qs l) (by rw [plc, List.getD_eq_getElem?_getD, List.getElem?_eq_getElem (by omega)]; exact List.getElem_mem _)
      have qo := hin (plc qs o) (by rw [plc, List.getD_eq_getElem?_getD, List.getElem?_eq_getElem (by omega)]; exact List.getElem_mem _)
      refine ⟨p, cells, a2', g2', sp, 9, rfl, mup_same, hc, by omega, by omega, hs0, hs1, by decide, by decide, fun c3 a3' g3' hu0 hu1 h17 h18 => ?_⟩
      rw [mup_mup]
      refine wa_nil ?_
      refine ⟨(by decide : 5 ≤ sizeLine), ?_⟩
      refine Or.inl ?_
      refine wa_nil ?_
      refine ⟨p, cells, a3', g3', sp, _, rfl, mup_same, hc, by omega, by omega, hs0, hs1, (by decide : 0 < 5), (by decide : 5 < 1000000), fun i d a6 g6 hi h21 h22 => ?_⟩
      obtain ⟨sl, rfl, sl0, sl1⟩ : ∃ v : Int, d = .int v ∧ 0 ≤ v ∧ v < 9 := by
        have hm := List.mem_of_getElem? hi
        simp only [List.mem_cons, List.not_mem_nil, or_false] at hm
        rcases hm with rfl | rfl | rfl | rfl | rfl
        · exact ⟨_, rfl, by decide, by decide⟩
        · exact ⟨_, rfl, by decide, by decide⟩
        · exact ⟨_, rfl, by decide, by decide⟩
        · exact ⟨_, rfl, by decide, by decide⟩
        · exact ⟨_, rfl, by omega, by omega⟩
      rw [mup_mup]
      have emx2 : mup M' p (pen cells a6 g6 sp) x = some (.lst (qs.map D.int)) := by rw [mup_ne hxp]; exact emx
      have emy2 : mup M' p (pen cells a6 g6 sp) y = some (.lst (rs.map (rD K))) := by rw [mup_ne hyp]; exact emy
      refine wss_cons ?_
      refine ws_expr ?_
      refine we_append ?_
      refine we_var 4 (by rfl) ?_
      refine ⟨y, rfl, ⟨_, emy2⟩, ?_⟩
      refine we_new (kn_Row (K := K) T) hg (hr.mono (by decide)) ?_
      refine wa_cons ?_
      refine we_var 7 (by rfl) ?_
      refine wa_cons ?_
      refine we_var 8 (by rfl) ?_
      refine wa_cons ?_
      refine we_callB (id := "min") ?_ (free_min T)
      refine wa_cons ?_
      refine we_bin ?_
      refine we_bin ?_
      refine we_ix ?_
      refine we_var 3 (by rfl) ?_
      refine we_var 7 (by rfl) ?_
      refine ⟨(l : Int), _, rfl, ⟨_, emx2, ints_at (by omega)⟩, ?_⟩
      refine we_ix ?_
      refine we_var 3 (by rfl) ?_
      refine we_var 8 (by rfl) ?_
      refine ⟨(o : Int), _, rfl, ⟨_, emx2, ints_at (by omega)⟩, ?_⟩
      refine o_sub ?_
      refine we_var 9 (by rfl) ?_
      refine o_add ?_
      refine wa_cons ?_
      refine we_bin ?_
      refine we_bin ?_
      refine we_int ?_
      refine we_int ?_
      refine o_powE 1000000 (by decide) ⟨by decide, by decide, by decide⟩ ?_
      refine we_int ?_
      refine o_sub ?_
      refine wa_nil ?_
      refine c_min2 rfl ?_
      refine wa_nil ?_
      refine ⟨rfl, ?_⟩
      obtain ⟨m, em2, m0, m1, m2⟩ : ∃ m : Int, (if (1000000 : Int) - 1 < plc qs l - plc qs o + sl then (1000000 : Int) - 1 else plc qs l - plc qs o + sl) = m ∧ -1000000 ≤ m ∧ m ≤ 999999 ∧ plc qs l - plc qs o ≤ m := by
        refine ⟨_, rfl, ?_, ?_, ?_⟩
        · split <;> omega
        · split <;> omega
        · split <;> omega
      rw [em2]
      refine ⟨_, _, _, rfl, by omega, by omega, by omega, by omega, by omega, m0, m1, ?_⟩
      refine ⟨_, emy2, ?_, ?_⟩
      · rw [List.length_map, hl]
        exact Nat.lt_of_le_of_lt (by omega : _ ≤ 100) (by decide)
      refine wss_nil ?_
      refine ⟨rs ++ [⟨l, o, m⟩], a6, g6, _, _, _, _, _, rfl, by rw [mup_ne hyp.symm, mup_same], by rw [mup_ne hyx.symm]; exact emx2, by rw [mup_same, List.map_append]; rfl, by rw [List.length_append, hl]; rfl, fun r hr => ?_, by omega, by omega⟩
      rcases List.mem_append.mp hr with h | h
      · exact hrs r h
      · rw [List.mem_singleton.mp h]
        exact ⟨⟨hln, ho, hno, m0, m1⟩, m2⟩
    · obtain ⟨rs, a, g, s5, s6, s7, s8, s9, rfl, emp, emx, emy, hl, hrs, h11, h12⟩ := iv
      rw [rngD_len] at hl h12
      refine wss_frz 4 rfl emy ?_
      refine wss_cons ?_
      refine ws_ret ?_
      refine we_new (kn_Zone (K := K) T) hg (hr.mono (by decide)) ?_
      refine wa_cons ?_
      refine we_var 1 (by rfl) ?_
      refine wa_cons ?_
      refine we_var 2 (by rfl) ?_
      refine wa_cons ?_
      refine we_var 4 (by rfl) ?_
      refine wa_nil ?_
      refine ⟨rfl, ?_⟩
      have z := zc_list (wd := wd) (by omega : 1 ≤ n') (by omega) w0 w1 (by omega) fun r hr => (hrs r hr).1
      refine ⟨n', wd, _, rs, rfl, ⟨by omega, by omega, w0, w1, .inr rfl, by omega, fun r hr => ⟨((hrs r hr).1).h1, ((hrs r hr).1).h2⟩⟩, ?_⟩
      obtain ⟨gp, eg⟩ := ZM.zone_has z.n0 w0 z.pts (p := fun i => plc qs i) hz (fun i hi => hin (plc qs i) (by rw [plc, List.getD_eq_getElem?_getD, List.getElem?_eq_getElem (by omega)]; exact List.getElem_mem _)) fun r hr => (hrs r (once_mem.mp hr)).2
      exact q n' wd _ gp _ a g (by omega) (by omega) z (Nat.le_trans once_len (by omega)) eg (by omega) (by omega) (by rw [mdel_ne hyp.symm]; exact emp)
end
end K05

set_option Elab.async false
set_option linter.all false
set_option maxRecDepth 100000
set_option maxHeartbeats 1000000
namespace K05
open PySem PySem.Spec PyProof.Rows L2 JQ
section
variable {P : Program} {w : World} {K : PySem.W.Frag} {mg : Str → Option Value} {base : Heap}
open ZM (plc LeastAt Full RoomAt Nxt EndX First Wlk Plx LtX)
/-! ### zones with rows more -/
theorem zc_plus {n : Nat} {wd : Int} {R : List Rw} {r : Rw} (z : ZC n wd R) (h : RowOk n r) (hl : R.length ≤ 99) : ZC n wd (onceR (R ++ [r])) := zc_list z.n0 z.n12 z.w0 z.w1 (by rw [List.length_append]; show R.length + 1 ≤ 100; omega) fun r' hr' => by
  rcases List.mem_append.mp hr' with h' | h'
  · exact z.ok r' h'
  · rw [List.mem_singleton.mp h']; exact h
theorem once_plus {R : List Rw} {r : Rw} {k : Nat} (hl : R.length ≤ k) : (onceR (R ++ [r])).length ≤ k + 1 := Nat.le_trans once_len (by rw [List.length_append]; show R.length + 1 ≤ _; omega)
theorem plc_plus {n : Nat} {wd : Int} {R : List Rw} {r : Rw} {p : Nat → Int} : Plc n wd (onceR (R ++ [r])) p ↔ Plc n wd R p ∧ ZM.Holds p r := by
  constructor
  · rintro ⟨h1, h2, h3⟩
    exact ⟨⟨h1, h2, fun r' h => h3 r' (once_mem.mpr (List.mem_append_left _ h))⟩, h3 r (once_mem.mpr (List.mem_append_right _ List.mem_cons_self))⟩
  · rintro ⟨⟨h1, h2, h3⟩, h4⟩
    refine ⟨h1, h2, fun r' h => ?_⟩
    rcases List.mem_append.mp (once_mem.mp h) with h' | h'
    · exact h3 r' h'
    · rw [List.mem_singleton.mp h']; exact h4
def SAbv (K : PySem.W.Frag) : Sd := fun ds M P _ => ∃ (n : Nat) (wd : Int) (R : List Rw) (i : Nat) (v : Int), ds = [zD K n wd R, .int i, .int v] ∧ ZC n wd R ∧ R.length ≤ 90 ∧ 1 ≤ i ∧ i < n ∧ 0 ≤ v ∧ v ≤ 999999 ∧ ∀ R', ZC n wd R' → R'.length ≤ R.length + 1 → (∀ p, Plc n wd R' p ↔ Plc n wd R p ∧ v + 1 ≤ p i) → P (zD K n wd R') M
theorem len_l_above : ∀ ds M P EE, SAbv K ds M P EE → ds.length = 3 := fun ds M P EE ⟨_, _, _, _, _, e, _⟩ => by rw [e]; rfl
abbrev N_ab : List Str := ["_law_zone_here", "_law_point", "_law_spot"]
theorem sc_l_above : FnScope N_ab ["_law_zone_here", "_law_point", "_law_spot"] (defScope s_l_above) := ⟨rfl, rfl, rfl, by decide +kernel, rfl, by decide +kernel, by decide +kernel⟩
theorem kf_l_above (T : Tx K mg) : KF P w K mg base 7 "_law_above" 3 [] (SAbv K) := by
  obtain ⟨fd, F⟩ := F_l_above T
  refine ⟨_, fd, ["_law_zone_here", "_law_point", "_law_spot"], ?_, bndD F 3 [] (fun _ _ _ _ _ _ us ws h1 h2 => match us, ws, h1, h2 with | [_, _, _], [], _, _ => rfl), g_l_above T, F.kp⟩
  refine fnDD F sc_l_above len_l_above fun cdv A outer s H E hg hr ds M Pd EE ⟨n, wd, R, i, v, e, z, hl, hi, hin, v0, v1, q⟩ => ?_
  subst e
  have nd := sc_l_above.nd
  have hn12 := z.n12
  have ok : RowOk n ⟨0, i, -v - 1⟩ := ⟨by show 0 < n; omega, hin, fun z => by have z : 0 = i := z; omega, by show -1000000 ≤ -v - 1; omega, by show -v - 1 ≤ 999999; omega⟩
  refine wss_cons ?_
  refine ws_ret ?_
  refine we_binE ?_
  refine we_var 0 (by rfl) ?_
  refine we_new (kn_Row (K := K) T) hg (hr.mono (by decide)) ?_
  refine wa_cons ?_
  refine we_int ?_
  refine wa_cons ?_
  refine we_var 1 (by rfl) ?_
  refine wa_cons ?_
  refine we_bin ?_
  refine we_un ?_
  refine we_var 2 (by rfl) ?_
  refine o_neg ?_
  refine we_int ?_
  refine o_sub ?_
  refine wa_nil ?_
  refine ⟨rfl, ?_⟩
  refine ⟨0, (i : Int), -v - 1, rfl, by omega, by omega, by omega, by omega, by omega, by omega, by omega, ?_⟩
  show OpE _ _ _ _ (rD K ⟨0, i, -v - 1⟩) _ _
  refine o_andX (ko_Zone_and (K := K) T) hg (hr.mono (by decide)) (andT_Zone T) OAt.obj (.other (clsi_Row T).1 (and_Zone_Row T)) ?_
  refine ⟨n, wd, R, _, rfl, z.n0, z.n12, z.w0, z.w1, by omega, z.pts, .inl ⟨⟨0, i, -v - 1⟩, rfl, ok.h1, ok.h2, ?_⟩⟩
  refine q _ (zc_plus z ok (by omega)) (once_plus (Nat.le_refl _)) fun p => ?_
  rw [plc_plus]
  constructor
  · rintro ⟨h1, h2⟩
    have h2 : p 0 - p i ≤ -v - 1 := h2
    have := h1.1
    exact ⟨h1, by omega⟩
  · rintro ⟨h1, h2⟩
    have := h1.1
    exact ⟨h1, by show p 0 - p i ≤ -v - 1; omega⟩
def SBlw (K : PySem.W.Frag) : Sd := fun ds M P _ => ∃ (n : Nat) (wd : Int) (R : List Rw) (i : Nat) (v : Int), ds = [zD K n wd R, .int i, .int v] ∧ ZC n wd R ∧ R.length ≤ 90 ∧ 1 ≤ i ∧ i < n ∧ 0 ≤ v ∧ v ≤ 999999 ∧ (v = 0 → P .non M) ∧ (v ≠ 0 → ∀ R', ZC n wd R' → R'.length ≤ R.length + 1 → (∀ p, Plc n wd R' p ↔ Plc n wd R p ∧ p i < v) → P (zD K n wd R') M)
theorem len_l_below : ∀ ds M P EE, SBlw K ds M P EE → ds.length = 3 := fun ds M P EE ⟨_, _, _, _, _, e, _⟩ => by rw [e]; rfl
theorem sc_l_below : FnScope N_ab ["_law_zone_here", "_law_point", "_law_spot"] (defScope s_l_below) := ⟨rfl, rfl, rfl, by decide +kernel, rfl, by decide +kernel, by decide +kernel⟩
theorem kf_l_below (T : Tx K mg) : KF P w K mg base 7 "_law_below" 3 [] (SBlw K) := by
  obtain ⟨fd, F⟩ := F_l_below T
  refine ⟨_, fd, ["_law_zone_here", "_law_point", "_law_spot"], ?_, bndD F 3 [] (fun _ _ _ _ _ _ us ws h1 h2 => match us, ws, h1, h2 with | [_, _, _], [], _, _ => rfl), g_l_below T, F.kp⟩
  refine fnDD F sc_l_below len_l_below fun cdv A outer s H E hg hr ds M Pd EE ⟨n, wd, R, i, v, e, z, hl, hi, hin, v0, v1, q0, q⟩ => ?_
  subst e
  have nd := sc_l_below.nd
  have hn12 := z.n12
  refine wss_cons ?_
  refine ws_ret ?_
  refine we_ifx ?_
  refine wt_cmp ?_
  refine we_var 2 (by rfl) ?_
  refine we_int ?_
  refine o_eqI ?_
  refine ⟨_, rfl, ?_⟩
  refine iteB (fun h => ?_) fun h => ?_
  · have h := of_decide_eq_true h
    refine we_non ?_
    exact q0 h
  · have h := of_decide_eq_false h
    have ok : RowOk n ⟨i, 0, v - 1⟩ := ⟨hin, by show 0 < n; omega, fun z => by have z : i = 0 := z; omega, by show -1000000 ≤ v - 1; omega, by show v - 1 ≤ 999999; omega⟩
    refine we_binE ?_
    refine we_var 0 (by rfl) ?_
    refine we_new (kn_Row (K := K) T) hg (hr.mono (by decide)) ?_
    refine wa_cons ?_
    refine we_var 1 (by rfl) ?_
    refine wa_cons ?_
    refine we_int ?_
    refine wa_cons ?_
    refine we_bin ?_
    refine we_var 2 (by rfl) ?_
    refine we_int ?_
    refine o_sub ?_
    refine wa_nil ?_
    refine ⟨rfl, ?_⟩
    refine ⟨(i : Int), 0, v - 1, rfl, by omega, by omega, by omega, by omega, by omega, by omega, by omega, ?_⟩
    show OpE _ _ _ _ (rD K ⟨i, 0, v - 1⟩) _ _
    refine o_andX (ko_Zone_and (K := K) T) hg (hr.mono (by decide)) (andT_Zone T) OAt.obj (.other (clsi_Row T).1 (and_Zone_Row T)) ?_
    refine ⟨n, wd, R, _, rfl, z.n0, z.n12, z.w0, z.w1, by omega, z.pts, .inl ⟨⟨i, 0, v - 1⟩, rfl, ok.h1, ok.h2, ?_⟩⟩
    refine q h _ (zc_plus z ok (by omega)) (once_plus (Nat.le_refl _)) fun p => ?_
    rw [plc_plus]
    constructor
    · rintro ⟨h1, h2⟩
      have h2 : p i - p 0 ≤ v - 1 := h2
      have := h1.1
      exact ⟨h1, by omega⟩
    · rintro ⟨h1, h2⟩
      have := h1.1
      exact ⟨h1, by show p i - p 0 ≤ v - 1; omega⟩
end
end K05

set_option Elab.async false
set_option linter.all false
set_option maxRecDepth 100000
set_option maxHeartbeats 1000000
namespace K05
open PySem PySem.Spec PyProof.Rows L2 JQ
section
variable {P : Program} {w : World} {K : PySem.W.Frag} {mg : Str → Option Value} {base : Heap}
open ZM (plc LeastAt Full RoomAt Nxt EndX First Wlk Plx LtX)
/-! ### a zone with its first points at some places -/
def SFix (K : PySem.W.Frag) : Sd := fun ds M P _ => ∃ (n : Nat) (wd : Int) (R : List Rw) (ps : List Int), ds = [zD K n wd R, plD ps] ∧ ZC n wd R ∧ R.length ≤ 10 ∧ ps.length ≤ n ∧ (∀ v ∈ ps, 0 ≤ v ∧ v ≤ 999999) ∧ ∀ R', ZC n wd R' → R'.length ≤ 40 → (∀ p, Plc n wd R' p ↔ Plc n wd R p ∧ ∀ i, 1 ≤ i → i < ps.length → p i = plc ps i) → P (zD K n wd R') M
theorem len_l_fixed : ∀ ds M P EE, SFix K ds M P EE → ds.length = 2 := fun ds M P EE ⟨_, _, _, _, e, _⟩ => by rw [e]; rfl
abbrev N_fx : List Str := ["_law_zone_here", "_law_spots", "_law_more", "_law_point"]
theorem sc_l_fixed : FnScope N_fx ["_law_zone_here", "_law_spots"] (defScope s_l_fixed) := ⟨rfl, rfl, rfl, by decide +kernel, rfl, by decide +kernel, by decide +kernel⟩
theorem plc_mem {ps : List Int} {i : Nat} (h : i < ps.length) : plc ps i ∈ ps := by
  have e : plc ps i = ps[i] := by simp [plc, List.getD_eq_getElem?_getD, List.getElem?_eq_getElem h]
  rw [e]
  exact List.getElem_mem _
theorem kf_l_fixed (T : Tx K mg) : KF P w K mg base 6 "_law_fixed" 2 [] (SFix K) := by
  obtain ⟨fd, F⟩ := F_l_fixed T
  refine ⟨_, fd, ["_law_zone_here", "_law_spots"], ?_, bndD F 2 [] (fun _ _ _ _ _ _ us ws h1 h2 => match us, ws, h1, h2 with | [_, _], [], _, _ => rfl), g_l_fixed T, F.kp⟩
  refine fnDD F sc_l_fixed len_l_fixed fun cdv A outer s H E hg hr ds M Pd EE ⟨n, wd, R, ps, e, z, hl, hps, hin, q⟩ => ?_
  subst e
  have nd := sc_l_fixed.nd
  have hn12 := z.n12
  refine wss_cons ?_
  refine ws_set 2 nd ?_
  refine we_callTy (T := "list") ?_ (free_list T)
  refine wa_cons ?_
  refine we_fld ?_
  refine we_var 0 (by rfl) ?_
  refine ⟨_, _, _, OAt.obj, cls_Zone T, no_Zone_rows T, rfl, ?_⟩
  refine wa_nil ?_
  refine c_lst SqAt.tup ?_
  refine .inl ?_
  refine wss_cons ?_
  refine ws_for (T := [3]) (passes_of rfl) rfl ?_
  refine wi_rng2 (free_range T) ?_
  refine wa_cons ?_
  refine we_int ?_
  refine wa_cons ?_
  refine we_callB (id := "len") ?_ (free_len T)
  refine wa_cons ?_
  refine we_var 1 (by rfl) ?_
  refine wa_nil ?_
  refine c_len SqAt.tup ?_
  refine wa_nil ?_
  rw [List.length_map]
  refine ⟨1, _, rfl, ⟨by omega, by omega, by omega, by omega⟩, ?_⟩
  refine ⟨fun k ss' M' => ∃ (Q : List Rw) (s3 : S), ss' = [some (zD K n wd R), some (plD ps), some (.lst (Q.map (rD K))), s3] ∧ M' = M ∧ Q.length = R.length + 2 * k ∧ (∀ r ∈ Q, RowOk n r) ∧ ∀ p : Nat → Int, p 0 = 0 → ((∀ r ∈ Q, ZM.Holds p r) ↔ (∀ r ∈ R, ZM.Holds p r) ∧ ∀ i, 1 ≤ i → i < k + 1 → p i = plc ps i), ⟨R, none, rfl, rfl, rfl, z.ok, fun p p0 => ⟨fun h => ⟨h, fun i a b => by omega⟩, fun h => h.1⟩⟩, fun _ _ _ _ => trivial, fun k d ss' M1 hd iv => ?_, fun ss' M1 iv => ?_⟩
  · obtain ⟨Q, s3, rfl, rfl, hq, hok, hh⟩ := iv
    obtain ⟨hk, rfl⟩ := rngD_get hd
    have hk1 : k + 1 < ps.length := by omega
    have hv := hin _ (plc_mem hk1)
    rw [show (1 : Int) + (k : Int) = ((k + 1 : Nat) : Int) by omega]
    have ep : L2.atI (ps.map D.int) ((k + 1 : Nat) : Int) = some (.int (plc ps (k + 1))) := ints_at hk1
    refine wg_name 3 nd ?_
    refine wss_cons ?_
    refine ws_set 2 nd ?_
    refine we_bin ?_
    refine we_var 2 (by rfl) ?_
    refine we_lst ?_
    refine wa_cons ?_
    refine we_new (kn_Row (K := K) T) hg (hr.mono (by decide)) ?_
    refine wa_cons ?_
    refine we_var 3 (by rfl) ?_
    refine wa_cons ?_
    refine we_int ?_
    refine wa_cons ?_
    refine we_ix ?_
    refine we_var 1 (by rfl) ?_
    refine we_var 3 (by rfl) ?_
    refine ⟨_, _, rfl, ep, ?_⟩
    refine wa_nil ?_
    refine ⟨rfl, ?_⟩
    refine ⟨((k + 1 : Nat) : Int), 0, plc ps (k + 1), rfl, by omega, by omega, by omega, by omega, by omega, by omega, by omega, ?_⟩
    refine wa_cons ?_
    refine we_new (kn_Row (K := K) T) hg (hr.mono (by decide)) ?_
    refine wa_cons ?_
    refine we_int ?_
    refine wa_cons ?_
    refine we_var 3 (by rfl) ?_
    refine wa_cons ?_
    refine we_un ?_
    refine we_ix ?_
    refine we_var 1 (by rfl) ?_
    refine we_var 3 (by rfl) ?_
    refine ⟨_, _, rfl, ep, ?_⟩
    refine o_neg ?_
    refine wa_nil ?_
    refine ⟨rfl, ?_⟩
    refine ⟨0, ((k + 1 : Nat) : Int), -plc ps (k + 1), rfl, by omega, by omega, by omega, by omega, by omega, by omega, by omega, ?_⟩
    refine wa_nil ?_
    refine ⟨(by decide : 2 ≤ sizeLine), ?_⟩
    refine Or.inl ?_
    refine o_catL (ys := [rD K ⟨k + 1, 0, plc ps (k + 1)⟩, rD K ⟨0, k + 1, -plc ps (k + 1)⟩]) .lst .lst ?_ (.inl ?_)
    · rw [List.length_map]
      exact Nat.le_trans (by show Q.length + 2 ≤ 100; omega : _ ≤ 100) (by decide)
    have ok1 : RowOk n ⟨k + 1, 0, plc ps (k + 1)⟩ := ⟨by show k + 1 < n; omega, by show 0 < n; omega, Nat.succ_ne_zero k, by show -1000000 ≤ plc ps (k + 1); omega, by show plc ps (k + 1) ≤ 999999; omega⟩
    have ok2 : RowOk n ⟨0, k + 1, -plc ps (k + 1)⟩ := ⟨by show 0 < n; omega, by show k + 1 < n; omega, fun z => Nat.succ_ne_zero k z.symm, by show -1000000 ≤ -plc ps (k + 1); omega, by show -plc ps (k + 1) ≤ 999999; omega⟩
    refine wss_nil ?_
    refine ⟨Q ++ [⟨k + 1, 0, plc ps (k + 1)⟩, ⟨0, k + 1, -plc ps (k + 1)⟩], _, by rw [List.map_append]; rfl, rfl, by rw [List.length_append, hq]; show _ + 2 = _; omega, fun r hr => ?_, fun p p0 => ?_⟩
    · rcases List.mem_append.mp hr with h | h
      · exact hok r h
      · simp only [List.mem_cons, List.not_mem_nil, or_false] at h
        rcases h with rfl | rfl
        · exact ok1
        · exact ok2
    · constructor
      · intro h
        have h1 := (hh p p0).mp fun r hr => h r (List.mem_append_left _ hr)
        have h2 : p (k + 1) - p 0 ≤ plc ps (k + 1) := h ⟨k + 1, 0, plc ps (k + 1)⟩ (List.mem_append_right _ List.mem_cons_self)
        have h3 : p 0 - p (k + 1) ≤ -plc ps (k + 1) := h ⟨0, k + 1, -plc ps (k + 1)⟩ (List.mem_append_right _ (List.mem_cons_of_mem _ List.mem_cons_self))
        refine ⟨h1.1, fun i a b => ?_⟩
        rcases Nat.lt_or_ge i (k + 1) with c | c
        · exact h1.2 i a c
        · obtain rfl : i = k + 1 := by omega
          omega
      · rintro ⟨h1, h2⟩ r hr
        rcases List.mem_append.mp hr with h | h
        · exact (hh p p0).mpr ⟨h1, fun i a b => h2 i a (by omega)⟩ r h
        · have h3 := h2 (k + 1) (by omega) (by omega)
          simp only [List.mem_cons, List.not_mem_nil, or_false] at h
          rcases h with rfl | rfl
          · show p (k + 1) - p 0 ≤ plc ps (k + 1)
            omega
          · show p 0 - p (k + 1) ≤ -plc ps (k + 1)
            omega
  · obtain ⟨Q, s3, rfl, rfl, hq, hok, hh⟩ := iv
    rw [rngD_len] at hq hh
    refine wss_cons ?_
    refine ws_ret ?_
    refine we_new (kn_Zone (K := K) T) hg (hr.mono (by decide)) ?_
    refine wa_cons ?_
    refine we_fld ?_
    refine we_var 0 (by rfl) ?_
    refine ⟨_, _, _, OAt.obj, cls_Zone T, no_Zone_points T, rfl, ?_⟩
    refine wa_cons ?_
    refine we_fld ?_
    refine we_var 0 (by rfl) ?_
    refine ⟨_, _, _, OAt.obj, cls_Zone T, no_Zone_width T, rfl, ?_⟩
    refine wa_cons ?_
    refine we_var 2 (by rfl) ?_
    refine wa_nil ?_
    refine ⟨rfl, ?_⟩
    refine ⟨n, wd, _, Q, rfl, ⟨z.n0, z.n12, z.w0, z.w1, .inr rfl, by omega, fun r hr => ⟨(hok r hr).h1, (hok r hr).h2⟩⟩, ?_⟩
    refine q _ (zc_list z.n0 z.n12 z.w0 z.w1 (by omega) hok) (Nat.le_trans once_len (by omega)) fun p => ?_
    constructor
    · rintro ⟨h1, h2, h3⟩
      have h4 := (hh p h1).mp fun r hr => h3 r (once_mem.mpr hr)
      exact ⟨⟨h1, h2, h4.1⟩, fun i a b => h4.2 i a (by omega)⟩
    · rintro ⟨⟨h1, h2, h3⟩, h4⟩
      exact ⟨h1, h2, fun r hr => (hh p h1).mpr ⟨h3, fun i a b => h4 i a (by omega)⟩ r (once_mem.mp hr)⟩
end
end K05

set_option Elab.async false
set_option linter.all false
set_option maxRecDepth 100000
set_option maxHeartbeats 1000000
namespace K05
open PySem PySem.Spec PyProof.Rows L2 JQ
section
variable {P : Program} {w : World} {K : PySem.W.Frag} {mg : Str → Option Value} {base : Heap}
open ZM (plc LeastAt Full RoomAt Nxt EndX First Wlk Plx LtX)
/-! ### none behind, none ahead -/
def SNb (K : PySem.W.Frag) : Sd := fun ds M P _ => ∃ (n : Nat) (wd : Int) (R : List Rw) (g : Gp) (xs : List Int) (lo : Nat), ds = [zD K n wd R, plD xs, .int lo] ∧ ZC n wd R ∧ R.length ≤ 10 ∧ ZM.gapsOf wd R = some g ∧ xs.length = n ∧ plc xs 0 = 0 ∧ (∀ v ∈ xs, 0 ≤ v ∧ v ≤ wd) ∧ 1 ≤ lo ∧ lo ≤ n ∧ (∀ i, lo ≤ i → i < n → Full g xs i) ∧ P (.bl true) M
theorem len_l_none_behind : ∀ ds M P EE, SNb K ds M P EE → ds.length = 3 := fun ds M P EE ⟨_, _, _, _, _, _, e, _⟩ => by rw [e]; rfl
theorem none_of {n : Nat} {wd : Int} {R : List Rw} (z : ZC n wd R) (h : ∀ p, ¬ Plc n wd R p) : ZM.gapsOf wd R = none := by
  cases e : ZM.gapsOf wd R with
  | none => rfl
  | some g =>
    obtain ⟨c, t⟩ := zone_tells z.n0 z.w0 z.pts e
    exact absurd (ZM.reached c t 0 z.n0).2 (h _)
abbrev N_nb : List Str := ["_law_zone_here", "_law_spots", "_law_least", "_law_point"]
theorem sc_l_none_behind : FnScope N_nb ["_law_zone_here", "_law_spots", "_law_least"] (defScope s_l_none_behind) := ⟨rfl, rfl, rfl, by decide +kernel, rfl, by decide +kernel, by decide +kernel⟩
theorem kf_l_none_behind (T : Tx K mg) : KF P w K mg base 8 "_law_none_behind" 3 [] (SNb K) := by
  obtain ⟨fd, F⟩ := F_l_none_behind T
  refine ⟨_, fd, ["_law_zone_here", "_law_spots", "_law_least"], ?_, bndD F 3 [] (fun _ _ _ _ _ _ us ws h1 h2 => match us, ws, h1, h2 with | [_, _, _], [], _, _ => rfl), g_l_none_behind T, F.kp⟩
  refine fnDD F sc_l_none_behind len_l_none_behind fun cdv A outer s H E hg hr ds M Pd EE ⟨n, wd, R, g, xs, lo, e, z, hl, eg, hx, hz0, hin, lo1, lon, hf, q⟩ => ?_
  subst e
  have nd := sc_l_none_behind.nd
  have hn12 := z.n12
  have hw1 := z.w1
  refine wss_cons ?_
  refine ws_for (T := [3]) (passes_of rfl) rfl ?_
  refine wi_rng2 (free_range T) ?_
  refine wa_cons ?_
  refine we_var 2 (by rfl) ?_
  refine wa_cons ?_
  refine we_callB (id := "len") ?_ (free_len T)
  refine wa_cons ?_
  refine we_var 1 (by rfl) ?_
  refine wa_nil ?_
  refine c_len SqAt.tup ?_
  refine wa_nil ?_
  rw [List.length_map, hx]
  refine ⟨_, _, rfl, ⟨by omega, by omega, by omega, by omega⟩, ?_⟩
  refine ⟨fun k ss' M' => ∃ (s3 : S), ss' = [some (zD K n wd R), some (plD xs), some (.int lo), s3] ∧ M' = M, ⟨none, rfl, rfl⟩, fun _ _ _ _ => trivial, fun k d ss' M1 hd iv => ?_, fun ss' M1 iv => ?_⟩
  · obtain ⟨s3, rfl, rfl⟩ := iv
    obtain ⟨hk, rfl⟩ := rngD_get hd
    obtain ⟨i, ei⟩ : ∃ i : Nat, i = lo + k := ⟨_, rfl⟩
    rw [show ((lo : Nat) : Int) + (k : Int) = (i : Int) by omega]
    have hi : i < n := by omega
    have ep : L2.atI (xs.map D.int) ((i : Nat) : Int) = some (.int (plc xs i)) := ints_at (by omega)
    have hv := hin _ (plc_mem (by omega : i < xs.length))
    refine wg_name 3 nd ?_
    refine wss_cons ?_
    refine ws_if ?_
    refine wt_val ?_
    refine we_callTy (T := "bool") ?_ (free_bool T)
    refine wa_cons ?_
    refine we_fn (kf_l_above (K := K) T) hg (hr.mono (by decide)) ?_ rfl (hlen := len_l_above)
    refine wa_cons ?_
    refine we_fn (kf_l_fixed (K := K) T) hg (hr.mono (by decide)) ?_ rfl (hlen := len_l_fixed)
    refine wa_cons ?_
    refine we_var 0 (by rfl) ?_
    refine wa_cons ?_
    refine we_slT ?_
    refine we_var 1 (by rfl) ?_
    refine wo_no ?_
    refine wo_some ?_
    refine we_var 3 (by rfl) ?_
    refine ⟨_, rfl, ?_⟩
    refine ⟨_, rfl, ?_⟩
    refine wa_nil ?_
    rw [cut_upto, ← List.map_take]
    refine ⟨n, wd, R, xs.take i, rfl, z, hl, by rw [List.length_take]; omega, fun v hv => by have := hin v (List.mem_of_mem_take hv); omega, fun R1 z1 hl1 hp1 => ?_⟩
    refine wa_cons ?_
    refine we_var 3 (by rfl) ?_
    refine wa_cons ?_
    refine we_ix ?_
    refine we_var 1 (by rfl) ?_
    refine we_var 3 (by rfl) ?_
    refine ⟨_, _, rfl, ep, ?_⟩
    refine wa_nil ?_
    refine ⟨n, wd, R1, i, plc xs i, rfl, z1, by omega, by omega, hi, by omega, by omega, fun R2 z2 hl2 hp2 => ?_⟩
    refine wa_nil ?_
    refine c_boolK (ko_Zone_bool (K := K) T) hg (hr.mono (by decide)) OAt.obj ?_
    refine ⟨n, wd, R2, rfl, _, rfl, ?_⟩
    have en : ZM.gapsOf wd R2 = none := none_of z2 fun p hp => by
      obtain ⟨h1, h2⟩ := (hp2 p).mp hp
      obtain ⟨h3, h4⟩ := (hp1 p).mp h1
      obtain ⟨c, t⟩ := zone_tells z.n0 z.w0 z.pts eg
      obtain ⟨a, ha, h5⟩ := hf i (by omega) hi
      have h6 := (t p h3.1).mp h3 i a hi (by omega)
      have h7 : p a = plc xs a := by
        by_cases a0 : a = 0
        · rw [a0, h3.1, hz0]
        · rw [h4 a (by omega) (by rw [List.length_take]; omega)]
          exact (ZM.plc_take rfl ha).symm
      omega
    rw [en]
    refine ⟨_, rfl, ?_⟩
    refine iteF (rfl) ?_
    refine wss_nil ?_
    refine wss_nil ?_
    exact ⟨_, rfl, rfl⟩
  · obtain ⟨s3, rfl, rfl⟩ := iv
    refine wss_cons ?_
    refine ws_ret ?_
    refine we_bl ?_
    exact q
def SNa (K : PySem.W.Frag) : Sd := fun ds M P _ => ∃ (n : Nat) (wd : Int) (R : List Rw) (g : Gp) (xs : List Int) (lo : Nat), ds = [zD K n wd R, plD xs, .int lo] ∧ ZC n wd R ∧ R.length ≤ 10 ∧ ZM.gapsOf wd R = some g ∧ xs.length = n ∧ plc xs 0 = 0 ∧ (∀ v ∈ xs, 0 ≤ v ∧ v ≤ wd) ∧ 1 ≤ lo ∧ lo ≤ n ∧ (∀ i, lo ≤ i → i < n → LeastAt g xs i) ∧ P (.bl true) M
theorem len_l_none_ahead : ∀ ds M P EE, SNa K ds M P EE → ds.length = 3 := fun ds M P EE ⟨_, _, _, _, _, _, e, _⟩ => by rw [e]; rfl
abbrev N_na : List Str := ["_law_zone_here", "_law_spots", "_law_least", "_law_point", "_law_ahead"]
theorem sc_l_none_ahead : FnScope N_na ["_law_zone_here", "_law_spots", "_law_least"] (defScope s_l_none_ahead) := ⟨rfl, rfl, rfl, by decide +kernel, rfl, by decide +kernel, by decide +kernel⟩
theorem kf_l_none_ahead (T : Tx K mg) : KF P w K mg base 8 "_law_none_ahead" 3 [] (SNa K) := by
  obtain ⟨fd, F⟩ := F_l_none_ahead T
  refine ⟨_, fd, ["_law_zone_here", "_law_spots", "_law_least"], ?_, bndD F 3 [] (fun _ _ _ _ _ _ us ws h1 h2 => match us, ws, h1, h2 with | [_, _, _], [], _, _ => rfl), g_l_none_ahead T, F.kp⟩
  refine fnDD F sc_l_none_ahead len_l_none_ahead fun cdv A outer s H E hg hr ds M Pd EE ⟨n, wd, R, g, xs, lo, e, z, hl, eg, hx, hz0, hin, lo1, lon, hf, q⟩ => ?_
  subst e
  have nd := sc_l_none_ahead.nd
  have hn12 := z.n12
  have hw1 := z.w1
  refine wss_cons ?_
  refine ws_for (T := [3]) (passes_of rfl) rfl ?_
  refine wi_rng2 (free_range T) ?_
  refine wa_cons ?_
  refine we_var 2 (by rfl) ?_
  refine wa_cons ?_
  refine we_callB (id := "len") ?_ (free_len T)
  refine wa_cons ?_
  refine we_var 1 (by rfl) ?_
  refine wa_nil ?_
  refine c_len SqAt.tup ?_
  refine wa_nil ?_
  rw [List.length_map, hx]
  refine ⟨_, _, rfl, ⟨by omega, by omega, by omega, by omega⟩, ?_⟩
  refine ⟨fun k ss' M' => ∃ (s3 s4 : S), ss' = [some (zD K n wd R), some (plD xs), some (.int lo), s3, s4] ∧ M' = M, ⟨none, none, rfl, rfl⟩, fun _ _ _ _ => trivial, fun k d ss' M1 hd iv => ?_, fun ss' M1 iv => ?_⟩
  · obtain ⟨s3, s4, rfl, rfl⟩ := iv
    obtain ⟨hk, rfl⟩ := rngD_get hd
    obtain ⟨i, ei⟩ : ∃ i : Nat, i = lo + k := ⟨_, rfl⟩
    rw [show ((lo : Nat) : Int) + (k : Int) = (i : Int) by omega]
    have hi : i < n := by omega
    have ep : L2.atI (xs.map D.int) ((i : Nat) : Int) = some (.int (plc xs i)) := ints_at (by omega)
    have hv := hin _ (plc_mem (by omega : i < xs.length))
    refine wg_name 3 nd ?_
    refine wss_cons ?_
    refine ws_set 4 nd ?_
    refine we_fn (kf_l_below (K := K) T) hg (hr.mono (by decide)) ?_ rfl (hlen := len_l_below)
    refine wa_cons ?_
    refine we_fn (kf_l_fixed (K := K) T) hg (hr.mono (by decide)) ?_ rfl (hlen := len_l_fixed)
    refine wa_cons ?_
    refine we_var 0 (by rfl) ?_
    refine wa_cons ?_
    refine we_slT ?_
    refine we_var 1 (by rfl) ?_
    refine wo_no ?_
    refine wo_some ?_
    refine we_var 3 (by rfl) ?_
    refine ⟨_, rfl, ?_⟩
    refine ⟨_, rfl, ?_⟩
    refine wa_nil ?_
    rw [cut_upto, ← List.map_take]
    refine ⟨n, wd, R, xs.take i, rfl, z, hl, by rw [List.length_take]; omega, fun v hv => by have := hin v (List.mem_of_mem_take hv); omega, fun R1 z1 hl1 hp1 => ?_⟩
    refine wa_cons ?_
    refine we_var 3 (by rfl) ?_
    refine wa_cons ?_
    refine we_ix ?_
    refine we_var 1 (by rfl) ?_
    refine we_var 3 (by rfl) ?_
    refine ⟨_, _, rfl, ep, ?_⟩
    refine wa_nil ?_
    refine ⟨n, wd, R1, i, plc xs i, rfl, z1, by omega, by omega, hi, by omega, by omega, fun h0 => ?_, fun h0 R2 z2 hl2 hp2 => ?_⟩
    · refine wss_cons ?_
      refine ws_if ?_
      refine wt_and2 ?_
      refine wt_cmp ?_
      refine we_var 4 (by rfl) ?_
      refine we_non ?_
      refine o_ntN ?_
      refine ⟨_, rfl, ?_⟩
      refine iteF (rfl) ?_
      refine iteF (rfl) ?_
      refine wss_nil ?_
      refine wss_nil ?_
      exact ⟨_, _, rfl, rfl⟩
    have en : ZM.gapsOf wd R2 = none := none_of z2 fun p hp => by
      obtain ⟨h1, h2⟩ := (hp2 p).mp hp
      obtain ⟨h3, h4⟩ := (hp1 p).mp h1
      obtain ⟨c, t⟩ := zone_tells z.n0 z.w0 z.pts eg
      obtain ⟨⟨a, ha, h5⟩, _⟩ := hf i (by omega) hi
      have h6 := (t p h3.1).mp h3 a i (by omega) hi
      have h7 : p a = plc xs a := by
        by_cases a0 : a = 0
        · rw [a0, h3.1, hz0]
        · rw [h4 a (by omega) (by rw [List.length_take]; omega)]
          exact (ZM.plc_take rfl ha).symm
      omega
    refine wss_cons ?_
    refine ws_if ?_
    refine wt_and2 ?_
    refine wt_cmp ?_
    refine we_var 4 (by rfl) ?_
    refine we_non ?_
    refine o_ntN' rfl ?_
    refine ⟨_, rfl, ?_⟩
    refine iteT (rfl) ?_
    refine wt_val ?_
    refine we_callTy (T := "bool") ?_ (free_bool T)
    refine wa_cons ?_
    refine we_var 4 (by rfl) ?_
    refine wa_nil ?_
    refine c_boolK (ko_Zone_bool (K := K) T) hg (hr.mono (by decide)) OAt.obj ?_
    refine ⟨n, wd, R2, rfl, _, rfl, ?_⟩
    rw [en]
    refine ⟨_, rfl, ?_⟩
    refine iteF (rfl) ?_
    refine wss_nil ?_
    refine wss_nil ?_
    exact ⟨_, _, rfl, rfl⟩
  · obtain ⟨s3, s4, rfl, rfl⟩ := iv
    refine wss_cons ?_
    refine ws_ret ?_
    refine we_bl ?_
    exact q
end
end K05

set_option Elab.async false
set_option linter.all false
set_option maxRecDepth 100000
set_option maxHeartbeats 1000000
namespace K05
open PySem PySem.Spec PyProof.Rows L2 JQ
section
variable {P : Program} {w : World} {K : PySem.W.Frag} {mg : Str → Option Value} {base : Heap}
open ZM (plc LeastAt Full RoomAt Nxt EndX First Wlk Plx LtX)
/-! ### there is none between two -/
theorem filter_first {p : Nat → Bool} {n j : Nat} (hj : j < n) (hp : p j = true) (h : ∀ i, i < j → p i = false) : ∃ tl, (List.range n).filter p = j :: tl := by
  obtain ⟨c, rfl⟩ : ∃ c, n = j + (c + 1) := ⟨n - j - 1, by omega⟩
  rw [List.range_add, List.filter_append, List.range_succ_eq_map, List.map_cons, Nat.add_zero, List.filter_cons, if_pos hp, (List.filter_eq_nil_iff.mpr fun i hi => by rw [h i (List.mem_range.mp hi)]; exact Bool.false_ne_true)]
  exact ⟨_, rfl⟩
def SNr (K : PySem.W.Frag) : Sd := fun ds M P _ => ∃ (n : Nat) (wd : Int) (R : List Rw) (g : Gp) (xs ys : List Int), ds = [zD K n wd R, plD xs, plD ys] ∧ ZC n wd R ∧ R.length ≤ 10 ∧ ZM.gapsOf wd R = some g ∧ xs.length = n ∧ plc xs 0 = 0 ∧ (∀ v ∈ xs, 0 ≤ v ∧ v ≤ wd) ∧ ys.length = n ∧ plc ys 0 = 0 ∧ (∀ v ∈ ys, 0 ≤ v ∧ v ≤ wd) ∧ Nxt n g xs ys ∧ P (.bl true) M
theorem len_l_next_right : ∀ ds M P EE, SNr K ds M P EE → ds.length = 3 := fun ds M P EE ⟨_, _, _, _, _, _, e, _⟩ => by rw [e]; rfl
abbrev N_nr : List Str := ["_law_zone_here", "_law_one", "_law_two", "_law_parted", "_law_point", "_law_between"]
theorem sc_l_next_right : FnScope N_nr ["_law_zone_here", "_law_one", "_law_two"] (defScope s_l_next_right) := ⟨rfl, rfl, rfl, by decide +kernel, rfl, by decide +kernel, by decide +kernel⟩
theorem kf_l_next_right (T : Tx K mg) : KF P w K mg base 9 "_law_next_right" 3 [] (SNr K) := by
  obtain ⟨fd, F⟩ := F_l_next_right T
  refine ⟨_, fd, ["_law_zone_here", "_law_one", "_law_two"], ?_, bndD F 3 [] (fun _ _ _ _ _ _ us ws h1 h2 => match us, ws, h1, h2 with | [_, _, _], [], _, _ => rfl), g_l_next_right T, F.kp⟩
  refine fnDD F sc_l_next_right len_l_next_right fun cdv A outer s H E hg hr ds M Pd EE ⟨n, wd, R, g, xs, ys, e, z, hl, eg, hx, hx0, hxin, hy, hy0, hyin, nx, q⟩ => ?_
  subst e
  have nd := sc_l_next_right.nd
  have hn12 := z.n12
  have hw1 := z.w1
  have nx0 := nx
  obtain ⟨j, hj1, hjn, rm, fl, _, pre, ej, le⟩ := nx
  obtain ⟨tl, etl⟩ := filter_first (p := fun i => decide (plc xs i ≠ plc ys i)) hjn (decide_eq_true (by rw [ej]; omega)) fun i hi => decide_eq_false (fun z => z (pre i hi).symm)
  have hvx := hxin _ (plc_mem (by omega : j < xs.length))
  have hvy := hyin _ (plc_mem (by omega : j < ys.length))
  refine wss_cons ?_
  refine ws_lc 3 [("_law_point", 4)] rfl nd (blkOk_by (N := N_nr) (sc := defScope s_l_next_right) (by decide +kernel)) rfl ?_
  refine wi_rng1 (free_range T) ?_
  refine we_callB (id := "len") ?_ (free_len T)
  refine wa_cons ?_
  refine we_var 1 (by rfl) ?_
  refine wa_nil ?_
  refine c_len SqAt.tup ?_
  rw [List.length_map, hx]
  refine ⟨_, rfl, by omega, by omega, ?_⟩
  rw [show ((n : Nat) : Int).toNat = n by omega]
  refine WLc.filterL (List.range n) _ (fun i => .int (i : Nat)) (fun i => decide (plc xs i ≠ plc ys i)) (fun _ _ => trivial) (by rw [List.length_range]; omega) [4] (by simp) (fun i r M' hr' sub s H C cl' fp => ?_) fun M' sub => .inl ?_
  · obtain ⟨hr1, hr2⟩ : i < n ∧ r = i := by
      have h := List.getElem?_eq_some_iff.mp hr'
      obtain ⟨h1, h2⟩ := h
      rw [List.length_range] at h1
      rw [List.getElem_range] at h2
      exact ⟨h1, h2.symm⟩
    subst hr2
    rw [show (0 : Int) + (r : Int) = (r : Int) by omega]
    refine wg_name 4 nd ?_
    intro s H C cl' fp
    refine wt_cmp ?_
    refine we_ix ?_
    refine we_var 1 (by rfl) ?_
    refine we_var 4 (by rfl) ?_
    refine ⟨_, _, rfl, ints_at (by omega), ?_⟩
    refine we_ix ?_
    refine we_var 2 (by rfl) ?_
    refine we_var 4 (by rfl) ?_
    refine ⟨_, _, rfl, ints_at (by omega), ?_⟩
    refine o_neI ?_
    refine ⟨_, rfl, ?_⟩
    rw [show (!decide (plc xs r = plc ys r)) = decide (plc xs r ≠ plc ys r) by simp]
    refine ⟨rfl, sub, fun _ s H C cl fp => ?_⟩
    refine we_var 4 (by rfl) ?_
    exact ⟨rfl, sub⟩
  rw [etl]
  refine wss_drop sub ?_
  refine wss_cons ?_
  refine ws_if ?_
  refine wt_or2 ?_
  refine wt_cmp ?_
  refine we_var 3 (by rfl) ?_
  refine we_lst ?_
  refine wa_nil ?_
  refine ⟨(by decide : 0 ≤ sizeLine), ?_⟩
  refine .inl ?_
  refine o_eqL0 (Nat.lt_of_le_of_lt (Nat.le_add_right _ 64) (room64 hr)) (by exact List.cons_ne_nil _ _) .lst ?_
  have e0 : ∀ M : Mm, IxD M (.lst ((j :: tl).map fun i => D.int (i : Nat))) 0 (.int (j : Nat)) := fun M => (atI_of (i := 0) rfl : L2.atI _ _ = _)
  have ex : L2.atI (xs.map D.int) ((j : Nat) : Int) = some (.int (plc xs j)) := ints_at (by omega)
  have ey : L2.atI (ys.map D.int) ((j : Nat) : Int) = some (.int (plc ys j)) := ints_at (by omega)
  refine ⟨_, rfl, ?_⟩
  refine iteF (rfl) ?_
  refine wt_cmp ?_
  refine we_ix ?_
  refine we_var 1 (by rfl) ?_
  refine we_ix ?_
  refine we_var 3 (by rfl) ?_
  refine we_int ?_
  refine ⟨0, _, rfl, e0 _, _, _, rfl, ex, ?_⟩
  refine we_ix ?_
  refine we_var 2 (by rfl) ?_
  refine we_ix ?_
  refine we_var 3 (by rfl) ?_
  refine we_int ?_
  refine ⟨0, _, rfl, e0 _, _, _, rfl, ey, ?_⟩
  refine o_gt ?_
  refine ⟨_, rfl, ?_⟩
  refine iteF (decide_eq_false (by omega)) ?_
  refine wss_nil ?_
  refine wss_cons ?_
  refine ws_set 4 nd ?_
  refine we_ix ?_
  refine we_var 3 (by rfl) ?_
  refine we_int ?_
  refine ⟨0, _, rfl, e0 _, ?_⟩
  refine wss_cons ?_
  refine ws_set 5 nd ?_
  refine we_fn (kf_l_below (K := K) T) hg (hr.mono (by decide)) ?_ rfl (hlen := len_l_below)
  refine wa_cons ?_
  refine we_fn (kf_l_above (K := K) T) hg (hr.mono (by decide)) ?_ rfl (hlen := len_l_above)
  refine wa_cons ?_
  refine we_fn (kf_l_fixed (K := K) T) hg (hr.mono (by decide)) ?_ rfl (hlen := len_l_fixed)
  refine wa_cons ?_
  refine we_var 0 (by rfl) ?_
  refine wa_cons ?_
  refine we_slT ?_
  refine we_var 1 (by rfl) ?_
  refine wo_no ?_
  refine wo_some ?_
  refine we_var 4 (by rfl) ?_
  refine ⟨_, rfl, ?_⟩
  refine ⟨_, rfl, ?_⟩
  refine wa_nil ?_
  rw [cut_upto, ← List.map_take]
  refine ⟨n, wd, R, xs.take j, rfl, z, hl, by rw [List.length_take]; omega, fun v hv => by have := hxin v (List.mem_of_mem_take hv); omega, fun R1 z1 hl1 hp1 => ?_⟩
  refine wa_cons ?_
  refine we_var 4 (by rfl) ?_
  refine wa_cons ?_
  refine we_ix ?_
  refine we_var 1 (by rfl) ?_
  refine we_var 4 (by rfl) ?_
  refine ⟨_, _, rfl, ex, ?_⟩
  refine wa_nil ?_
  refine ⟨n, wd, R1, j, plc xs j, rfl, z1, by omega, by omega, hjn, by omega, by omega, fun R2 z2 hl2 hp2 => ?_⟩
  refine wa_cons ?_
  refine we_var 4 (by rfl) ?_
  refine wa_cons ?_
  refine we_ix ?_
  refine we_var 2 (by rfl) ?_
  refine we_var 4 (by rfl) ?_
  refine ⟨_, _, rfl, ey, ?_⟩
  refine wa_nil ?_
  refine ⟨n, wd, R2, j, plc ys j, rfl, z2, by omega, by omega, hjn, by omega, by omega, fun h0 => by omega, fun h0 R3 z3 hl3 hp3 => ?_⟩
  have en : ZM.gapsOf wd R3 = none := none_of z3 fun p hp => by
    obtain ⟨h1, h2⟩ := (hp3 p).mp hp
    obtain ⟨h3, h4⟩ := (hp2 p).mp h1
    omega
  refine wss_cons ?_
  refine ws_if ?_
  refine wt_or2 ?_
  refine wt_cmp ?_
  refine we_var 5 (by rfl) ?_
  refine we_non ?_
  refine o_isN' rfl ?_
  refine ⟨_, rfl, ?_⟩
  refine iteF (rfl) ?_
  refine wt_val ?_
  refine we_callTy (T := "bool") ?_ (free_bool T)
  refine wa_cons ?_
  refine we_var 5 (by rfl) ?_
  refine wa_nil ?_
  refine c_boolK (ko_Zone_bool (K := K) T) hg (hr.mono (by decide)) OAt.obj ?_
  refine ⟨n, wd, R3, rfl, _, rfl, ?_⟩
  rw [en]
  refine ⟨_, rfl, ?_⟩
  refine iteF (rfl) ?_
  refine wss_nil ?_
  refine wss_cons ?_
  refine ws_ret ?_
  refine we_and ?_
  refine we_fn (kf_l_none_behind (K := K) T) hg (hr.mono (by decide)) ?_ rfl (hlen := len_l_none_behind)
  refine wa_cons ?_
  refine we_var 0 (by rfl) ?_
  refine wa_cons ?_
  refine we_var 1 (by rfl) ?_
  refine wa_cons ?_
  refine we_bin ?_
  refine we_var 4 (by rfl) ?_
  refine we_int ?_
  refine o_add ?_
  refine wa_nil ?_
  refine ⟨n, wd, R, g, xs, j + 1, rfl, z, hl, eg, hx, hx0, hxin, by omega, by omega, fun i a b => fl i (by omega) b, ?_⟩
  refine ⟨_, rfl, ?_⟩
  refine iteT (rfl) ?_
  refine we_one ?_
  refine we_fn (kf_l_none_ahead (K := K) T) hg (hr.mono (by decide)) ?_ rfl (hlen := len_l_none_ahead)
  refine wa_cons ?_
  refine we_var 0 (by rfl) ?_
  refine wa_cons ?_
  refine we_var 2 (by rfl) ?_
  refine wa_cons ?_
  refine we_bin ?_
  refine we_var 4 (by rfl) ?_
  refine we_int ?_
  refine o_add ?_
  refine wa_nil ?_
  exact ⟨n, wd, R, g, ys, j + 1, rfl, z, hl, eg, hy, hy0, hyin, by omega, by omega, fun i a b => le i (by omega) b, q⟩
end
end K05

set_option Elab.async false
set_option linter.all false
set_option maxRecDepth 100000
set_option maxHeartbeats 1000000
namespace K05
open PySem PySem.Spec PyProof.Rows L2 JQ
section
variable {P : Program} {w : World} {K : PySem.W.Frag} {mg : Str → Option Value} {base : Heap}
open ZM (plc LeastAt Full RoomAt Nxt EndX First Wlk Plx LtX)
/-! ### the first placings -/
theorem placings_ex {n : Nat} {wd : Int} {R : List Rw} {g : Gp} (z : ZC n wd R) (eg : ZM.gapsOf wd R = some g) : ∃ xs rest, First n g xs ∧ Wlk n g xs rest := by
  obtain ⟨xs, hF⟩ := ZM.first_ex g z.n0
  obtain ⟨c, t⟩ := zone_tells z.n0 z.w0 z.pts eg
  have hw0 := z.w0
  have hn0 := z.n0
  obtain ⟨rest, hW⟩ := ZM.walk_ex c (wd := wd.toNat) (fun q hq i hi => by
    have h := ((t (fun i => plc q i) hq.zero).mpr hq.all).2.1 i hi
    simp only at h
    omega) xs (hF.plx c z.n0)
  exact ⟨xs, rest, hF, hW⟩
def SFi (K : PySem.W.Frag) : Sd := fun ds M P _ => ∃ (n : Nat) (wd : Int) (R : List Rw) (g : Gp) (most : Nat), ds = [zD K n wd R, .int most] ∧ ZC n wd R ∧ ZM.gapsOf wd R = some g ∧ 1 ≤ most ∧ most ≤ 10 ∧ ∀ xs rest, First n g xs → Wlk n g xs rest → P (.lst (((xs :: rest).take most).map plD)) M
theorem len_l_first : ∀ ds M P EE, SFi K ds M P EE → ds.length = 2 := fun ds M P EE ⟨_, _, _, _, _, e, _⟩ => by rw [e]; rfl
abbrev N_fi : List Str := ["_law_zone_here", "_law_most", "_law_found", "_law_spots"]
theorem sc_l_first : FnScope N_fi ["_law_zone_here", "_law_most"] (defScope s_l_first) := ⟨rfl, rfl, rfl, by decide +kernel, rfl, by decide +kernel, by decide +kernel⟩
theorem kf_l_first (T : Tx K mg) : KF P w K mg base 5 "_law_first" 2 [] (SFi K) := by
  obtain ⟨fd, F⟩ := F_l_first T
  refine ⟨_, fd, ["_law_zone_here", "_law_most"], ?_, bndD F 2 [] (fun _ _ _ _ _ _ us ws h1 h2 => match us, ws, h1, h2 with | [_, _], [], _, _ => rfl), g_l_first T, F.kp⟩
  refine fnDD F sc_l_first len_l_first fun cdv A outer s H E hg hr ds M Pd EE ⟨n, wd, R, g, most, e, z, eg, hm1, hm10, q⟩ => ?_
  subst e
  have nd := sc_l_first.nd
  obtain ⟨xs, rest, hF, hW⟩ := placings_ex z eg
  have q := q xs rest hF hW
  refine wss_cons ?_
  refine ws_set 2 nd ?_
  refine we_lst ?_
  refine wa_nil ?_
  refine ⟨(by decide : 0 ≤ sizeLine), ?_⟩
  refine .inr fun x hx => ?_
  refine wss_cons ?_
  refine ws_forG (T := [3]) (passes_of rfl) xeU_def ?_
  refine weg_me0 (kgm_placings T) hg (hr.mono (by decide)) ?_
  refine we_var 0 (by rfl) ?_
  refine ⟨_, OAt.obj, rfl, ?_⟩
  generalize hL : xs :: rest = L at q
  refine ⟨L.map plD, ⟨n, wd, R, rfl, z.n0, z.n12, .inr ⟨g, xs, rest, eg, hF, hW, by rw [hL]⟩⟩, ?_⟩
  refine ⟨fun k ss' M' => ∃ s3 : S, ss' = [some (zD K n wd R), some (.int most), some (.rf x), s3] ∧ M' x = some (.lst ((L.take k).map plD)) ∧ Msub M M' ∧ k < most, ⟨none, rfl, mup_same, msub_up hx, hm1⟩, fun k d ss' M1 hd iv => ?_, fun ss' M1 iv => ?_⟩
  · obtain ⟨s3, rfl, em, sm, hk⟩ := iv
    rw [List.getElem?_map] at hd
    obtain ⟨zs, hz, rfl⟩ := Option.map_eq_some_iff.mp hd
    have hkl : k < L.length := (List.getElem?_eq_some_iff.mp hz).1
    have et : (L.take (k + 1)).map plD = (L.take k).map plD ++ [plD zs] := by rw [List.take_add_one, hz, List.map_append]; rfl
    have hlen : ((L.take k).map plD).length = k := by rw [List.length_map, List.length_take]; omega
    refine wg_name 3 nd ?_
    refine wss_cons ?_
    refine ws_expr ?_
    refine we_append ?_
    refine we_var 2 (by rfl) ?_
    refine ⟨x, rfl, ⟨_, em⟩, ?_⟩
    refine we_var 3 (by rfl) ?_
    refine ⟨_, em, Nat.lt_of_le_of_lt (by omega : _ ≤ 100) (by decide), ?_⟩
    rw [← et]
    have hlen2 : ((L.take (k + 1)).map plD).length = k + 1 := by rw [List.length_map, List.length_take]; omega
    refine wss_cons ?_
    refine ws_if ?_
    refine wt_cmp ?_
    refine we_callB (id := "len") ?_ (free_len T)
    refine wa_cons ?_
    refine we_var 2 (by rfl) ?_
    refine wa_nil ?_
    refine c_len (SqAt.rf (by first | exact mup_same | assumption | exact mup_at (by first | assumption | exact fun z => absurd z.symm ‹_›) (by first | exact mup_same | assumption | exact mup_at (by first | assumption | exact fun z => absurd z.symm ‹_›) (by first | exact mup_same | assumption) | exact mdel_at (by first | assumption | exact fun z => absurd z.symm ‹_›) (by first | exact mup_same | assumption)) | exact mdel_at (by first | assumption | exact fun z => absurd z.symm ‹_›) (by first | exact mup_same | assumption | exact mup_at (by first | assumption | exact fun z => absurd z.symm ‹_›) (by first | exact mup_same | assumption) | exact mdel_at (by first | assumption | exact fun z => absurd z.symm ‹_›) (by first | exact mup_same | assumption)))) ?_
    refine we_var 1 (by rfl) ?_
    refine o_eqI ?_
    refine ⟨_, rfl, ?_⟩
    rw [hlen2]
    refine iteB (fun h => ?_) fun h => ?_
    · have h := of_decide_eq_true h
      obtain rfl : k + 1 = most := by omega
      refine wss_frz 2 rfl mup_same ?_
      refine wss_drop (M' := M) (fun a o h => ?_) ?_
      · have ha : a ≠ x := fun e => by rw [e, hx] at h; cases h
        rw [mdel_ne ha, mup_ne ha]
        exact sm a o h
      refine wss_cons ?_
      refine ws_ret ?_
      refine we_var 2 (by rfl) ?_
      exact q
    · have h := of_decide_eq_false h
      refine wss_nil ?_
      refine wss_nil ?_
      exact ⟨_, rfl, mup_same, msub_put sm hx, by omega⟩
  · obtain ⟨s3, rfl, em, sm, hk⟩ := iv
    rw [List.length_map] at em hk
    rw [List.take_of_length_le (Nat.le_refl _)] at em
    rw [List.take_of_length_le (by omega)] at q
    refine wss_frz 2 rfl em ?_
    refine wss_drop (M' := M) (fun a o h => ?_) ?_
    · have ha : a ≠ x := fun e => by rw [e, hx] at h; cases h
      rw [mdel_ne ha]
      exact sm a o h
    refine wss_cons ?_
    refine ws_ret ?_
    refine we_var 2 (by rfl) ?_
    exact q
end
end K05

set_option Elab.async false
set_option linter.all false
set_option maxRecDepth 100000
set_option maxHeartbeats 1000000
namespace K05
open PySem PySem.Spec PyProof.Rows L2 JQ
section
variable {P : Program} {w : World} {K : PySem.W.Frag} {mg : Str → Option Value} {base : Heap}
open ZM (plc LeastAt Full RoomAt Nxt EndX First Wlk Plx LtX)
/-! ### rows hold in a zone exactly if they hold at all placings -/
def SRr (K : PySem.W.Frag) : Sd := fun ds M P _ => ∃ (p : Addr) (cells : List Int) (at_ great sp : Int) (n : Nat) (wd : Int) (R : List Rw) (g : Gp) (L : List (List Int)), ds = [.rf p, zD K n wd R, .lst (L.map plD)] ∧ M p = some (pen cells at_ great sp) ∧ PenOk 980000 cells at_ sp ∧ 2 ≤ n ∧ ZC n wd R ∧ ZM.gapsOf wd R = some g ∧ L ≠ [] ∧ L.length ≤ 10 ∧ (∀ q, Plx n g q ↔ q ∈ L) ∧ ∀ a g', at_ ≤ a → a ≤ at_ + 12 → P (.bl true) (mup M p (pen cells a g' sp))
theorem len_l_rows_right : ∀ ds M P EE, SRr K ds M P EE → ds.length = 3 := fun ds M P EE ⟨_, _, _, _, _, _, _, _, _, _, e, _⟩ => by rw [e]; rfl
theorem has_of {n : Nat} {wd : Int} {R : List Rw} {g : Gp} (r : Rw) {M : Mm} {Pd : D → Mm → Prop} {EE : EEx} (eg : ZM.gapsOf wd R = some g) (h1 : r.one < n) (h2 : r.other < n) (q : Pd (.bl (decide (g r.one r.other ≤ r.most))) M) : SHas K [zD K n wd R, rD K r] M Pd EE := ⟨n, wd, R, r, rfl, h1, h2, by rw [eg]; exact q⟩
theorem o_eqNil {Y : Bd} {M : Mm} {P : D → Mm → Prop} (hu : Y.X.A.units + 64 < cLine) (q : P (.bl true) M) : Op2 Y (compareOp .Eq) (.lst []) (.lst []) M P :=
  o_eqD hu (PlAt.self rfl) (PlAt.self rfl) (shaped_ints []) (shaped_ints []) (by
    have e : PyData.eqv (pyD (.lst [])) (pyD (.lst [])) = true := by simp [pyD, pyDs, PyData.eqv, PyData.eqvAll]
    rw [e]
    exact q)
abbrev N_rr : List Str := ["_law_pen_here", "_law_zone_here", "_law_found", "_law_turn", "_law_left", "_law_right", "_law_spots", "_law_row", "_law_one"]
theorem sc_l_rows_right : FnScope N_rr ["_law_pen_here", "_law_zone_here", "_law_found"] (defScope s_l_rows_right) := ⟨rfl, rfl, rfl, by decide +kernel, rfl, by decide +kernel, by decide +kernel⟩
theorem kf_l_rows_right (T : Tx K mg) : KF P w K mg base 5 "_law_rows_right" 3 [] (SRr K) := by
  obtain ⟨fd, F⟩ := F_l_rows_right T
  refine ⟨_, fd, ["_law_pen_here", "_law_zone_here", "_law_found"], ?_, bndD F 3 [] (fun _ _ _ _ _ _ us ws h1 h2 => match us, ws, h1, h2 with | [_, _, _], [], _, _ => rfl), g_l_rows_right T, F.kp⟩
  refine fnDD F sc_l_rows_right len_l_rows_right fun cdv A outer s H E hg hr ds M Pd EE ⟨p, cells, at_, great, sp, n, wd, R, g, L, e, em, po, hn2, z, eg, hL0, hL, hall, q⟩ => ?_
  subst e
  have nd := sc_l_rows_right.nd
  obtain ⟨hc, ha0, ha1, hs0, hs1, _⟩ := po
  have hn12 := z.n12
  have hw1 := z.w1
  have hLl : 0 < L.length := List.length_pos_iff.mpr hL0
  obtain ⟨cg, tg⟩ := zone_tells z.n0 z.w0 z.pts eg
  have hrange : ∀ qs ∈ L, qs.length = n ∧ ∀ i, i < n → 0 ≤ plc qs i ∧ plc qs i ≤ wd := fun qs hq => by
    have pq := (hall qs).mpr hq
    refine ⟨pq.len, fun i hi => ?_⟩
    have h := ((tg (fun i => plc qs i) pq.zero).mpr pq.all).2.1 i hi
    exact h
  refine wss_cons ?_
  refine ws_for (T := [3]) (passes_of rfl) rfl ?_
  refine wi_rng1 (free_range T) ?_
  refine we_int ?_
  refine ⟨3, rfl, by decide, by decide, ?_⟩
  refine ⟨fun k ss' M' => ∃ (a g' : Int) (s3 s4 s5 s6 s7 : S), ss' = [some (.rf p), some (zD K n wd R), some (.lst (L.map plD)), s3, s4, s5, s6, s7, none] ∧ M' = mup M p (pen cells a g' sp) ∧ at_ ≤ a ∧ a ≤ at_ + 4 * k, ⟨at_, great, none, none, none, none, none, rfl, (mup_id em).symm, by omega, by omega⟩, fun _ _ _ _ => trivial, fun k d ss' M1 hd iv => ?_, fun ss' M1 iv => ?_⟩
  · obtain ⟨a, g', s3, s4, s5, s6, s7, rfl, rfl, h1, h2⟩ := iv
    obtain ⟨hk, rfl⟩ := rngD_get hd
    have hk : k < 3 := hk
    refine wg_name 3 nd ?_
    refine wss_cons ?_
    refine ws_asg (T := ([4] ++ ([5] ++ ([] : List Nat)))) ?_
    refine we_tup ?_
    refine wa_cons ?_
    refine we_fn (kf_l_draw (K := K) T) hg (hr.mono (by decide)) ?_ rfl (hlen := len_l_draw)
    refine wa_cons ?_
    refine we_var 0 (by rfl) ?_
    refine wa_cons ?_
    refine we_fld ?_
    refine we_var 1 (by rfl) ?_
    refine ⟨_, _, _, OAt.obj, cls_Zone T, no_Zone_points T, rfl, ?_⟩
    refine wa_nil ?_
    refine ⟨p, cells, a, g', sp, n, rfl, mup_same, hc, by omega, by omega, hs0, hs1, by omega, by omega, fun l a1 g1 hl0 hl1 h13 h14 => ?_⟩
    obtain ⟨l, rfl⟩ : ∃ cn : Nat, l = (cn : Int) := ⟨l.toNat, by omega⟩
    rw [mup_mup]
    refine wa_cons ?_
    refine we_fn (kf_l_draw (K := K) T) hg (hr.mono (by decide)) ?_ rfl (hlen := len_l_draw)
    refine wa_cons ?_
    refine we_var 0 (by rfl) ?_
    refine wa_cons ?_
    refine we_bin ?_
    refine we_fld ?_
    refine we_var 1 (by rfl) ?_
    refine ⟨_, _, _, OAt.obj, cls_Zone T, no_Zone_points T, rfl, ?_⟩
    refine we_int ?_
    refine o_sub ?_
    refine wa_nil ?_
    refine ⟨p, cells, a1, g1, sp, (n : Int) - 1, rfl, mup_same, hc, by omega, by omega, hs0, hs1, by omega, by omega, fun rr a2 g2 hr0 hr1 h15 h16 => ?_⟩
    obtain ⟨rr, rfl⟩ : ∃ cn : Nat, rr = (cn : Int) := ⟨rr.toNat, by omega⟩
    rw [mup_mup]
    refine wa_nil ?_
    refine ⟨(by decide : 2 ≤ sizeLine), ?_⟩
    refine wg_tup rfl ?_
    refine wgs_cons ?_
    refine wg_name 4 nd ?_
    refine wgs_cons ?_
    refine wg_name 5 nd ?_
    refine wgs_nil ?_
    refine wss_cons ?_
    refine ws_set 5 nd ?_
    refine we_bin ?_
    refine we_var 5 (by rfl) ?_
    refine we_callTy (T := "int") ?_ (free_int T)
    refine wa_cons ?_
    refine we_cmp ?_
    refine we_var 5 (by rfl) ?_
    refine we_var 4 (by rfl) ?_
    refine o_ge ?_
    refine wa_nil ?_
    refine c_intB ?_
    refine o_add ?_
    refine wss_cons ?_
    refine ws_set 6 nd ?_
    refine we_fn (kf_l_pick (K := K) T) hg (hr.mono (by decide)) ?_ rfl (hlen := len_l_pick)
    refine wa_cons ?_
    refine we_var 0 (by rfl) ?_
    refine wa_cons ?_
    refine we_var 2 (by rfl) ?_
    refine wa_nil ?_
    obtain ⟨o, eo, ho, hno⟩ : ∃ o : Nat, (rr : Int) + (if decide ((l : Int) ≤ (rr : Int)) = true then 1 else 0) = (o : Int) ∧ o < n ∧ l ≠ o := by
      by_cases z : l ≤ rr
      · exact ⟨rr + 1, by rw [if_pos (by simpa using z)]; omega, by omega, by omega⟩
      · exact ⟨rr, by rw [if_neg (by simpa using z)]; omega, by omega, by omega⟩
    rw [eo]
    have hln : l < n := by omega
    refine ⟨p, cells, a2, g2, sp, _, rfl, mup_same, hc, by omega, by omega, hs0, hs1, by rw [List.length_map]; exact hLl, by rw [List.length_map]; omega, fun i d a3 g3 hi h17 h18 => ?_⟩
    rw [List.getElem?_map] at hi
    obtain ⟨qs, hz, rfl⟩ := Option.map_eq_some_iff.mp hi
    obtain ⟨hql, hqr⟩ := hrange qs (List.mem_of_getElem? hz)
    have ql := hqr l hln
    have qo := hqr o ho
    rw [mup_mup]
    refine wss_cons ?_
    refine ws_set 7 nd ?_
    refine we_new (kn_Row (K := K) T) hg (hr.mono (by decide)) ?_
    refine wa_cons ?_
    refine we_var 4 (by rfl) ?_
    refine wa_cons ?_
    refine we_var 5 (by rfl) ?_
    refine wa_cons ?_
    refine we_callB (id := "min") ?_ (free_min T)
    refine wa_cons ?_
    refine we_bin ?_
    refine we_bin ?_
    refine we_bin ?_
    refine we_ix ?_
    refine we_var 6 (by rfl) ?_
    refine we_var 4 (by rfl) ?_
    refine ⟨_, _, rfl, ints_at (by omega), ?_⟩
    refine we_ix ?_
    refine we_var 6 (by rfl) ?_
    refine we_var 5 (by rfl) ?_
    refine ⟨_, _, rfl, ints_at (by omega), ?_⟩
    refine o_sub ?_
    refine we_fn (kf_l_draw (K := K) T) hg (hr.mono (by decide)) ?_ rfl (hlen := len_l_draw)
    refine wa_cons ?_
    refine we_var 0 (by rfl) ?_
    refine wa_cons ?_
    refine we_int ?_
    refine wa_nil ?_
    refine ⟨p, cells, a3, g3, sp, 3, rfl, mup_same, hc, by omega, by omega, hs0, hs1, by decide, by decide, fun c a4 g4 hc0 hc1 h19 h20 => ?_⟩
    rw [mup_mup]
    refine o_add ?_
    refine we_int ?_
    refine o_sub ?_
    refine wa_cons ?_
    refine we_bin ?_
    refine we_bin ?_
    refine we_int ?_
    refine we_int ?_
    refine o_powE 1000000 (by decide) ⟨by decide, by decide, by decide⟩ ?_
    refine we_int ?_
    refine o_sub ?_
    refine wa_nil ?_
    refine c_min2 rfl ?_
    refine wa_nil ?_
    refine ⟨rfl, ?_⟩
    obtain ⟨m, em2, m0, m1⟩ : ∃ m : Int, (if (1000000 : Int) - 1 < plc qs l - plc qs o + c - 1 then (1000000 : Int) - 1 else plc qs l - plc qs o + c - 1) = m ∧ -1000000 ≤ m ∧ m ≤ 999999 := by
      refine ⟨_, rfl, ?_, ?_⟩
      · split <;> omega
      · split <;> omega
    rw [em2]
    refine ⟨_, _, _, rfl, by omega, by omega, by omega, by omega, by omega, m0, m1, ?_⟩
    refine wss_cons ?_
    refine ws_if ?_
    refine wt_cmp ?_
    refine we_cmp ?_
    refine we_var 7 (by rfl) ?_
    refine we_var 1 (by rfl) ?_
    refine o_inK (ko_Zone_contains (K := K) T) hg (hr.mono (by decide)) OAt.obj ?_
    refine has_of ⟨l, o, m⟩ eg hln ho ?_
    refine ⟨_, rfl, ?_⟩
    refine we_cmp ?_
    refine we_lc [("_law_one", 8)] rfl nd (blkOk_by (N := N_rr) (sc := defScope s_l_rows_right) (by decide +kernel)) ?_
    refine wi_list ?_
    refine we_var 2 (by rfl) ?_
    refine ⟨_, rfl, ?_⟩
    refine WLc.filterL L plD plD (fun zs => decide (m < plc zs l - plc zs o)) (fun _ _ => trivial) (by omega) [8] (by simp) (fun i r M' hr' sub s H C cl' fp => ?_) fun M' sub => .inl ?_
    · have hzr := (hrange r (List.mem_of_getElem? hr')).1
      refine wg_name 8 nd ?_
      intro s H C cl' fp
      refine wt_cmp ?_
      refine we_bin ?_
      refine we_ix ?_
      refine we_var 8 (by rfl) ?_
      refine we_var 4 (by rfl) ?_
      refine ⟨_, _, rfl, ints_at (by omega), ?_⟩
      refine we_ix ?_
      refine we_var 8 (by rfl) ?_
      refine we_var 5 (by rfl) ?_
      refine ⟨_, _, rfl, ints_at (by omega), ?_⟩
      refine o_sub ?_
      refine we_fld ?_
      refine we_var 7 (by rfl) ?_
      refine ⟨_, _, _, OAt.obj, cls_Row T, no_Row_most T, rfl, ?_⟩
      refine o_gt ?_
      refine ⟨_, rfl, ?_⟩
      refine ⟨rfl, sub, fun _ s H C cl' fp => ?_⟩
      refine we_var 8 (by rfl) ?_
      exact ⟨rfl, sub⟩
    have key : decide (g (ZM.Rw.one ⟨l, o, m⟩) (ZM.Rw.other ⟨l, o, m⟩) ≤ ZM.Rw.most ⟨l, o, m⟩) = decide (L.filter (fun zs => decide (m < plc zs l - plc zs o)) = []) := by
      show decide (g l o ≤ m) = _
      refine decide_eq_decide.mpr ?_
      rw [List.filter_eq_nil_iff]
      constructor
      · intro h zs hzs hd
        have hd := of_decide_eq_true hd
        have := ((hall zs).mpr hzs).all l o hln ho
        omega
      · intro h
        obtain ⟨p0, pp⟩ := ZM.reached cg tg o ho
        have hpn : ∀ i, i < n → plc ((List.range n).map fun i => g i o - g 0 o) i = g i o - g 0 o := fun i hi => by
          rw [plc, List.getD_eq_getElem?_getD, List.getElem?_map, List.getElem?_range hi]
          rfl
        have pm : (List.range n).map (fun i => g i o - g 0 o) ∈ L := (hall _).mp ⟨by simp, by rw [hpn 0 z.n0]; exact p0, fun i j hi hj => by
          rw [hpn i hi, hpn j hj]
          exact (tg _ p0).mp pp i j hi hj⟩
        have h1 := h _ pm
        rw [hpn l hln, hpn o ho] at h1
        have h2 := cg.self o ho
        have h1 : ¬ (m < g l o - g 0 o - (g o o - g 0 o)) := fun z => h1 (decide_eq_true z)
        omega
    rw [key]
    cases ef : L.filter fun zs => decide (m < plc zs l - plc zs o) with
    | nil =>
      refine we_lst ?_
      refine wa_nil ?_
      refine ⟨(by decide : 0 ≤ sizeLine), ?_⟩
      refine .inl ?_
      refine o_eqNil (room64 hr) ?_
      refine o_neB ⟨_, rfl, ?_⟩
      refine iteF (by simp) ?_
      refine wss_drop sub ?_
      refine wss_nil ?_
      refine wss_nil ?_
      exact ⟨a4, g4, _, _, _, _, _, rfl, rfl, by omega, by omega⟩
    | cons r0 rs =>
      refine we_lst ?_
      refine wa_nil ?_
      refine ⟨(by decide : 0 ≤ sizeLine), ?_⟩
      refine .inl ?_
      refine o_eqL0 (Nat.lt_of_le_of_lt (Nat.le_add_right _ 64) (room64 hr)) (by exact List.cons_ne_nil _ _) .lst ?_
      refine o_neB ⟨_, rfl, ?_⟩
      refine iteF (by simp) ?_
      refine wss_drop sub ?_
      refine wss_nil ?_
      refine wss_nil ?_
      exact ⟨a4, g4, _, _, _, _, _, rfl, rfl, by omega, by omega⟩
  · obtain ⟨a, g', s3, s4, s5, s6, s7, rfl, rfl, h1, h2⟩ := iv
    rw [rngD_len] at h2
    refine wss_cons ?_
    refine ws_ret ?_
    refine we_bl ?_
    exact q a g' h1 (by omega)
end
end K05

set_option Elab.async false
set_option linter.all false
set_option maxRecDepth 100000
set_option maxHeartbeats 1000000
namespace K05
open PySem PySem.Spec PyProof.Rows L2 JQ
section
variable {P : Program} {w : World} {K : PySem.W.Frag} {mg : Str → Option Value} {base : Heap}
open ZM (plc LeastAt Full RoomAt Nxt EndX First Wlk Plx LtX)
/-! ### what the law needs -/
theorem o_neNil {Y : Bd} {M : Mm} {P : D → Mm → Prop} (hu : Y.X.A.units + 64 < cLine) (q : P (.bl false) M) : Op2 Y (compareOp .NotEq) (.lst []) (.lst []) M P :=
  o_neD hu (PlAt.self rfl) (PlAt.self rfl) (shaped_ints []) (shaped_ints []) (by
    have e : PyData.eqv (pyD (.lst [])) (pyD (.lst [])) = true := by simp [pyD, pyDs, PyData.eqv, PyData.eqvAll]
    rw [e]
    exact q)
theorem walk_nxt {n : Nat} {g : Gp} {xs : List Int} {rest : List (List Int)} (w : Wlk n g xs rest) : ∀ (i : Nat) (a b : List Int), (xs :: rest)[i]? = some a → (xs :: rest)[i + 1]? = some b → Nxt n g a b := by
  induction w with
  | last e => exact fun i a b _ h => by simp at h
  | next nx w ih =>
    intro i a b h1 h2
    cases i with
    | zero =>
      simp only [List.getElem?_cons_zero, List.getElem?_cons_succ, Option.some.injEq] at h1 h2
      subst h1 h2
      exact nx
    | succ i =>
      rw [List.getElem?_cons_succ] at h1 h2
      exact ih i a b h1 h2
theorem walk_last {n : Nat} {g : Gp} {xs : List Int} {rest : List (List Int)} (w : Wlk n g xs rest) : ∃ init l, xs :: rest = init ++ [l] ∧ EndX n g l := by
  induction w with
  | @last xs e => exact ⟨[], xs, rfl, e⟩
  | @next xs ys rest nx w ih =>
    obtain ⟨init, l, e, h⟩ := ih
    exact ⟨xs :: init, l, by rw [e]; rfl, h⟩
theorem plc_range {n : Nat} {f : Nat → Int} {i : Nat} (hi : i < n) : plc ((List.range n).map f) i = f i := by
  rw [plc, List.getD_eq_getElem?_getD, List.getElem?_map, List.getElem?_range hi]
  rfl
theorem plx_range {n : Nat} {g : Gp} {f : Nat → Int} (h0 : 0 < n) (f0 : f 0 = 0) (h : ∀ i j, i < n → j < n → f i - f j ≤ g i j) : Plx n g ((List.range n).map f) := ⟨by simp, by rw [plc_range h0]; exact f0, fun i j hi hj => by rw [plc_range hi, plc_range hj]; exact h i j hi hj⟩
theorem first_low {n : Nat} {wd : Int} {R : List Rw} {g : Gp} {xs : List Int} (z : ZC n wd R) (eg : ZM.gapsOf wd R = some g) (hF : First n g xs) : xs = (List.range n).map fun j => -(g 0 j) := by
  obtain ⟨c, t⟩ := zone_tells z.n0 z.w0 z.pts eg
  have hl := ZM.lowest c t z.n0
  have pl := plx_range (g := g) (f := fun j => -(g 0 j)) z.n0 hl.1 ((t (fun j => -(g 0 j)) hl.1).mp hl)
  have px := hF.plx c z.n0
  refine ZM.list_eq px.len pl.len fun i hi => ?_
  have h1 := hF.least pl i hi
  have h2 := px.all 0 i z.n0 hi
  have h3 := px.zero
  rw [plc_range hi] at h1 ⊢
  omega
theorem end_high {n : Nat} {wd : Int} {R : List Rw} {g : Gp} {xs : List Int} (z : ZC n wd R) (eg : ZM.gapsOf wd R = some g) (px : Plx n g xs) (hE : EndX n g xs) : xs = (List.range n).map fun i => g i 0 := by
  obtain ⟨c, t⟩ := zone_tells z.n0 z.w0 z.pts eg
  have hl := ZM.highest c t z.n0
  have pl := plx_range (g := g) (f := fun i => g i 0) z.n0 hl.1 ((t (fun i => g i 0) hl.1).mp hl)
  rcases ZM.parts (xs := xs) (qs := (List.range n).map fun i => g i 0) (n := n) (fun i hi => by
    rw [plc_range hi]
    have h2 := px.all i 0 hi z.n0
    have h3 := px.zero
    omega) px.len pl.len with e | e
  · exact e.symm
  · exact absurd e (hE.max px pl)
theorem plx_place {n : Nat} {wd : Int} {R : List Rw} {g : Gp} {xs : List Int} (z : ZC n wd R) (eg : ZM.gapsOf wd R = some g) (px : Plx n g xs) : placeQ n wd R xs = true ∧ ∀ v ∈ xs, 0 ≤ v ∧ v ≤ wd := by
  obtain ⟨c, t⟩ := zone_tells z.n0 z.w0 z.pts eg
  have h : Plc n wd R fun i => plc xs i := (t (fun i => plc xs i) px.zero).mpr px.all
  have hv : ∀ v ∈ xs, 0 ≤ v ∧ v ≤ wd := fun v hv => by
    obtain ⟨i, hi, e⟩ := List.getElem_of_mem hv
    have h1 := h.2.1 i (by rw [← px.len]; exact hi)
    have h2 : plc xs i = v := by rw [plc, List.getD_eq_getElem?_getD, List.getElem?_eq_getElem hi]; exact e
    simp only [h2] at h1
    exact h1
  refine ⟨?_, hv⟩
  unfold placeQ
  rw [decide_eq_true px.len, decide_eq_true (show xs.getD 0 0 = 0 from px.zero), Bool.true_and, Bool.true_and, Bool.and_eq_true]
  exact ⟨List.all_eq_true.mpr fun x hx => decide_eq_true (hv x hx), List.all_eq_true.mpr fun r hr => decide_eq_true (h.2.2 r hr)⟩
/-! ### the law -/
abbrev lawLevel : Nat := 11
theorem len_SLaw : ∀ ds M P EE, SLaw ds M P EE → ds.length = 1 := fun ds M P EE ⟨_, e, _⟩ => by rw [e]; rfl
abbrev N_law : List Str := ["_law_script", "_law_pen_here", "_law_zone_here", "_law_most", "_law_found", "_law_at", "_law_spots"]
theorem sc_law : FnScope N_law ["_law_script"] (defScope s_law) := ⟨rfl, rfl, rfl, by decide +kernel, rfl, by decide +kernel, by decide +kernel⟩
theorem law_ok (T : Tx K mg) {fd : FuncData} (F : FunD K "law" "law" (defArgs s_law) (defBody s_law) (defScope s_law) [] [] (He.ga K "law") fd) : FnG P w K mg base lawLevel (He.ga K "law") fd ["_law_script"] (spD K SLaw) := by
  refine fnDD F sc_law len_SLaw fun cdv A outer s H E hg hr ds M Pd EE ⟨cells, e', hc, eM, q⟩ => ?_
  subst e' eM
  have nd := sc_law.nd
  refine wss_cons ?_
  refine ws_set 1 nd ?_
  refine we_fn (kf_l_pen (K := K) T) hg (hr.mono (by decide)) ?_ rfl (hlen := len_l_pen)
  refine wa_cons ?_
  refine we_var 0 (by rfl) ?_
  refine wa_nil ?_
  refine ⟨cells, rfl, hc, fun p sp hp hs0 hs1 => ?_⟩
  refine wss_cons ?_
  refine ws_set 2 nd ?_
  refine we_fn (kf_l_zone (K := K) T) hg (hr.mono (by decide)) ?_ rfl (hlen := len_l_zone)
  refine wa_cons ?_
  refine we_var 1 (by rfl) ?_
  refine wa_nil ?_
  refine ⟨p, cells, 0, 0, sp, rfl, mup_same, ⟨hc, by omega, by omega, hs0, hs1, by decide⟩, fun n wd R g M1 a1 g1 hn2 hn5 z hR eg h1 h2 em1 => ?_⟩
  refine wss_cons ?_
  refine ws_set 3 nd ?_
  refine we_bin ?_
  refine we_int ?_
  refine we_fn (kf_l_draw (K := K) T) hg (hr.mono (by decide)) ?_ rfl (hlen := len_l_draw)
  refine wa_cons ?_
  refine we_var 1 (by rfl) ?_
  refine wa_cons ?_
  refine we_int ?_
  refine wa_nil ?_
  refine ⟨p, cells, a1, g1, sp, 4, rfl, em1, hc, by omega, by omega, hs0, hs1, by decide, by decide, fun c a2 g2 hc0 hc1 h3 h4 => ?_⟩
  obtain ⟨c, rfl⟩ : ∃ j : Nat, c = (j : Int) := ⟨c.toNat, by omega⟩
  refine o_add ?_
  refine wss_cons ?_
  refine ws_set 4 nd ?_
  refine we_fn (kf_l_first (K := K) T) hg (hr.mono (by decide)) ?_ rfl (hlen := len_l_first)
  refine wa_cons ?_
  refine we_var 2 (by rfl) ?_
  refine wa_cons ?_
  refine we_var 3 (by rfl) ?_
  refine wa_nil ?_
  rw [show (2 : Int) + (c : Int) = ((c + 2 : Nat) : Int) by omega]
  refine ⟨n, wd, R, g, c + 2, rfl, z, eg, by omega, by omega, fun xs rest hF hW => ?_⟩
  obtain ⟨cg, tg⟩ := zone_tells z.n0 z.w0 z.pts eg
  have px := hF.plx cg z.n0
  have hpl : ∀ q ∈ xs :: rest, Plx n g q := fun q hq => by
    rcases List.mem_cons.mp hq with rfl | hq
    · exact px
    · exact hW.plx cg px q hq
  have hnx := walk_nxt hW
  have hall := fun q => ZM.walk_all cg z.n0 hF hW (qs := q)
  obtain ⟨L, eL⟩ : ∃ L, L = (xs :: rest).take (c + 2) := ⟨_, rfl⟩
  have hLl : L.length ≤ 10 := by rw [eL, List.length_take]; omega
  have hLp : ∀ q ∈ L, Plx n g q := fun q hq => hpl q (by rw [eL] at hq; exact List.mem_of_mem_take hq)
  have eL1 : L = xs :: rest.take (c + 1) := eL
  rw [← eL]
  refine wss_cons ?_
  refine ws_if ?_
  refine wt_ww (ww_or ?_)
  refine wt_cmp ?_
  refine we_var 4 (by rfl) ?_
  refine we_lst ?_
  refine wa_nil ?_
  refine ⟨(by decide : 0 ≤ sizeLine), ?_⟩
  refine .inl ?_
  have hL0 : L.map plD ≠ [] := by rw [eL1]; exact List.cons_ne_nil _ _
  have hun := Nat.lt_of_le_of_lt (Nat.le_add_right _ 64) (room64 hr)
  have hat : ∀ (i : Nat) (q : List Int), L[i]? = some q → ∀ M : Mm, IxD M (.lst (L.map plD)) (i : Int) (plD q) := fun i q h M => (atI_of (by rw [List.getElem?_map, h]; rfl) : L2.atI _ _ = _)
  have h0 : L[0]? = some xs := by rw [eL1]; rfl
  refine o_eqL0 hun hL0 .lst ?_
  refine ⟨_, rfl, ?_⟩
  refine iteF (rfl) ?_
  refine ww_or ?_
  refine wt_cmp ?_
  refine we_ix ?_
  refine we_var 4 (by rfl) ?_
  refine we_int ?_
  refine ⟨0, _, rfl, hat 0 xs h0 _, ?_⟩
  have elow : D.tup ((List.range n).map fun j => .int (-(g 0 j))) = plD xs := by
    have e := first_low z eg hF
    rw [e, plD, List.map_map]
    rfl
  refine we_me0 (km_Zone_lowest (K := K) T) hg (hr.mono (by decide)) ?_
  refine we_var 2 (by rfl) ?_
  refine ⟨_, OAt.obj, rfl, ?_⟩
  refine ⟨n, wd, R, g, rfl, z.n0, z.n12, eg, ?_⟩
  rw [elow]
  refine o_neIT (room64 hr) ?_
  rw [decide_eq_true rfl]
  refine ⟨_, rfl, ?_⟩
  refine iteF (notF (rfl)) ?_
  refine ww_or1 ?_
  refine wt_cmp ?_
  refine we_lc [("_law_spots", 6)] rfl nd (blkOk_by (N := N_law) (sc := defScope s_law) (by decide +kernel)) ?_
  refine wi_list ?_
  refine we_var 4 (by rfl) ?_
  refine ⟨_, rfl, ?_⟩
  refine WLc.filterL L plD plD (fun _ => false) (fun _ _ => trivial) (by omega) [6] (by simp) (fun i r M' hr' sub s H C cl' fp => ?_) fun M' sub => .inl ?_
  · have pr := hLp r (List.mem_of_getElem? hr')
    obtain ⟨pq, _⟩ := plx_place z eg pr
    have hrl := pr.len
    refine wg_name 6 nd ?_
    intro s H C cl' fp
    refine wt_cmp ?_
    refine we_fn (kf_look_placing (K := K) T) hg (hr.mono (by decide)) ?_ rfl (hlen := len_look_placing)
    refine wa_cons ?_
    refine we_var 6 (by rfl) ?_
    refine wa_cons ?_
    refine we_var 2 (by rfl) ?_
    refine wa_nil ?_
    refine .inl ⟨n, wd, R, r, rfl, z, by omega, ?_⟩
    rw [pq]
    refine we_bl ?_
    refine o_ntB ?_
    refine ⟨_, rfl, ?_⟩
    refine ⟨rfl, sub, fun h => Bool.noConfusion h⟩
  rw [List.filter_eq_nil_iff.mpr fun _ _ => Bool.false_ne_true]
  refine we_lst ?_
  refine wa_nil ?_
  refine ⟨(by decide : 0 ≤ sizeLine), ?_⟩
  refine .inl ?_
  refine o_neNil (room64 hr) ?_
  refine ⟨_, rfl, ?_⟩
  refine iteF rfl ?_
  refine wss_drop sub ?_
  refine wss_nil ?_
  refine wss_cons ?_
  refine ws_if ?_
  refine wt_or2 ?_
  refine wt_cmp ?_
  refine we_lc [("_law_spots", 6)] rfl nd (blkOk_by (N := N_law) (sc := defScope s_law) (by decide +kernel)) ?_
  refine wi_list ?_
  refine we_var 4 (by rfl) ?_
  refine ⟨_, rfl, ?_⟩
  refine WLc.filterL L plD plD (fun _ => false) (fun _ _ => trivial) (by omega) [6] (by simp) (fun i r M' hr' sub s H C cl' fp => ?_) fun M' sub => .inl ?_
  · refine wg_name 6 nd ?_
    intro s H C cl' fp
    refine wt_not ?_
    refine wt_val ?_
    refine we_callB (id := "isinstance") ?_ (free_isinstance T)
    refine wa_cons ?_
    refine we_var 6 (by rfl) ?_
    refine wa_cons ?_
    refine we_bty (n := "tuple") (free_tuple T) (by decide +kernel) ?_
    refine wa_nil ?_
    refine c_isi (.ty "tuple") (known_ty rfl) (kit_tuple rfl) ?_
    refine ⟨_, rfl, ?_⟩
    refine ⟨rfl, sub, fun h => Bool.noConfusion h⟩
  rw [List.filter_eq_nil_iff.mpr fun _ _ => Bool.false_ne_true]
  refine we_lst ?_
  refine wa_nil ?_
  refine ⟨(by decide : 0 ≤ sizeLine), ?_⟩
  refine .inl ?_
  refine o_neNil (room64 hr) ?_
  have hxr := (plx_place z eg px).2
  refine ⟨_, rfl, ?_⟩
  refine iteF (rfl) ?_
  refine wt_not ?_
  refine wt_val ?_
  refine we_fn (kf_l_none_ahead (K := K) T) hg (hr.mono (by decide)) ?_ rfl (hlen := len_l_none_ahead)
  refine wa_cons ?_
  refine we_var 2 (by rfl) ?_
  refine wa_cons ?_
  refine we_ix ?_
  refine we_var 4 (by rfl) ?_
  refine we_int ?_
  refine ⟨0, _, rfl, hat 0 xs h0 _, ?_⟩
  refine wa_cons ?_
  refine we_int ?_
  refine wa_nil ?_
  refine ⟨n, wd, R, g, xs, 1, rfl, z, hR, eg, px.len, px.zero, hxr, by omega, by omega, fun i a b => hF.2.2 i a b, ?_⟩
  refine ⟨_, rfl, ?_⟩
  refine iteF rfl ?_
  refine wss_drop sub ?_
  refine wss_nil ?_
  refine wss_cons ?_
  refine ws_for (T := [5]) (passes_of rfl) rfl ?_
  refine wi_rng2 (free_range T) ?_
  refine wa_cons ?_
  refine we_int ?_
  refine wa_cons ?_
  refine we_callB (id := "len") ?_ (free_len T)
  refine wa_cons ?_
  refine we_var 4 (by rfl) ?_
  refine wa_nil ?_
  refine c_len SqAt.lst ?_
  refine wa_nil ?_
  rw [List.length_map]
  refine ⟨1, _, rfl, ⟨by omega, by omega, by omega, by omega⟩, ?_⟩
  refine ⟨fun k ss' M' => ∃ s5 : S, ss' = [some (.scr (cells.map D.int)), some (.rf p), some (zD K n wd R), some (.int ((c + 2 : Nat) : Int)), some (.lst (L.map plD)), s5, none] ∧ M' = mup M1 p (pen cells a2 g2 sp), ⟨none, rfl, rfl⟩, fun _ _ _ _ => trivial, fun k d ss' M2 hd iv => ?_, fun ss' M2 iv => ?_⟩
  · obtain ⟨s5, rfl, rfl⟩ := iv
    obtain ⟨hk, rfl⟩ := rngD_get hd
    have hk1 : k + 1 < L.length := by omega
    rw [show (1 : Int) + (k : Int) = ((k + 1 : Nat) : Int) by omega]
    have ea : L[k]? = some L[k] := List.getElem?_eq_getElem (by omega)
    have eb : L[k + 1]? = some L[k + 1] := List.getElem?_eq_getElem hk1
    have pa := hLp L[k] (List.getElem_mem _)
    have pb := hLp L[k + 1] (List.getElem_mem _)
    generalize L[k] = qa at ea pa
    generalize L[k + 1] = qb at eb pb
    have hnab : Nxt n g qa qb := by
      rw [eL] at ea eb hk1
      rw [List.length_take] at hk1
      rw [List.getElem?_take_of_lt (by omega)] at ea eb
      exact hnx k qa qb ea eb
    refine wg_name 5 nd ?_
    refine wss_cons ?_
    refine ws_if ?_
    refine wt_not ?_
    refine wt_val ?_
    refine we_fn (kf_l_next_right (K := K) T) hg (hr.mono (by decide)) ?_ rfl (hlen := len_l_next_right)
    refine wa_cons ?_
    refine we_var 2 (by rfl) ?_
    refine wa_cons ?_
    refine we_ix ?_
    refine we_var 4 (by rfl) ?_
    refine we_bin ?_
    refine we_var 5 (by rfl) ?_
    refine we_int ?_
    refine o_sub ?_
    refine ⟨(k : Int), plD qa, by congr 1; omega, hat k qa ea _, ?_⟩
    refine wa_cons ?_
    refine we_ix ?_
    refine we_var 4 (by rfl) ?_
    refine we_var 5 (by rfl) ?_
    refine ⟨_, _, rfl, hat (k + 1) qb eb _, ?_⟩
    refine wa_nil ?_
    refine ⟨n, wd, R, g, qa, qb, rfl, z, hR, eg, pa.len, pa.zero, (plx_place z eg pa).2, pb.len, pb.zero, (plx_place z eg pb).2, hnab, ?_⟩
    refine ⟨_, rfl, ?_⟩
    refine iteF (notF (rfl)) ?_
    refine wss_nil ?_
    refine wss_nil ?_
    exact ⟨_, rfl, rfl⟩
  · obtain ⟨s5, rfl, rfl⟩ := iv
    refine wss_cons ?_
    refine ws_if ?_
    refine wt_cmp ?_
    refine we_callB (id := "len") ?_ (free_len T)
    refine wa_cons ?_
    refine we_var 4 (by rfl) ?_
    refine wa_nil ?_
    refine c_len SqAt.lst ?_
    refine we_var 3 (by rfl) ?_
    refine o_eqI ?_
    refine ⟨_, rfl, ?_⟩
    rw [List.length_map]
    refine iteB (fun h => ?_) fun h => ?_
    · refine wss_cons ?_
      refine ws_ret ?_
      refine we_cmp ?_
      refine we_fn (kf_l_first (K := K) T) hg (hr.mono (by decide)) ?_ rfl (hlen := len_l_first)
      refine wa_cons ?_
      refine we_var 2 (by rfl) ?_
      refine wa_cons ?_
      refine we_int ?_
      refine wa_nil ?_
      refine ⟨n, wd, R, g, 1, rfl, z, eg, by decide, by decide, fun xs' rest' hF' hW' => ?_⟩
      obtain rfl := hF'.uniq hF
      refine we_slL ?_
      refine we_var 4 (by rfl) ?_
      refine wo_no ?_
      refine wo_some ?_
      refine we_int ?_
      refine ⟨_, rfl, ?_⟩
      refine ⟨_, .lst, .inl ?_⟩
      rw [show (some (1 : Int)) = some (((1 : Nat)) : Int) from rfl, cut_upto]
      have hxl := px.len
      refine o_eqSame (room64 hr) (by rw [eL1]; rfl) ?_ ?_ ?_ ?_
      · show (plainDs (_ : List D) && true) = true
        rw [plain_ints]
        rfl
      · show (layDs (_ : List D) && true) = true
        rw [lay_all fun d hd => by obtain ⟨v, _, rfl⟩ := List.mem_map.mp hd; rfl]
        rfl
      · refine Nat.le_trans (depth_lst (k := 29) fun d hd => ?_) (by decide)
        obtain ⟨v, _, rfl⟩ := List.mem_map.mp hd
        refine Nat.le_trans (depth_tup (k := 28) fun d hd => ?_) (by decide)
        obtain ⟨v, _, rfl⟩ := List.mem_map.mp hd
        simp [pyD, PyData.depth]
      exact q _
    · have h := of_decide_eq_false h
      have eLL : L = xs :: rest := by
        rw [eL] at h ⊢
        rw [List.length_take] at h
        exact List.take_of_length_le (by omega)
      obtain ⟨init, l, el, hE⟩ := walk_last hW
      have hl : l ∈ L := by rw [eLL, el]; exact List.mem_append_right _ List.mem_cons_self
      have pl := hLp l hl
      have hlast : ∀ M : Mm, IxD M (.lst (L.map plD)) (-1) (plD l) := fun M => (by rw [eLL, el, List.map_append]; exact at_last : L2.atI _ _ = _)
      have ehigh : D.tup ((List.range n).map fun i => .int (g i 0)) = plD l := by
        have e := end_high z eg pl hE
        rw [e, plD, List.map_map]
        rfl
      refine wss_nil ?_
      refine wss_cons ?_
      refine ws_ret ?_
      refine we_and ?_
      refine we_fn (kf_l_none_behind (K := K) T) hg (hr.mono (by decide)) ?_ rfl (hlen := len_l_none_behind)
      refine wa_cons ?_
      refine we_var 2 (by rfl) ?_
      refine wa_cons ?_
      refine we_ix ?_
      refine we_var 4 (by rfl) ?_
      refine we_un ?_
      refine we_int ?_
      refine o_neg ?_
      refine ⟨-1, plD l, rfl, hlast _, ?_⟩
      refine wa_cons ?_
      refine we_int ?_
      refine wa_nil ?_
      refine ⟨n, wd, R, g, l, 1, rfl, z, hR, eg, pl.len, pl.zero, (plx_place z eg pl).2, by omega, by omega, fun i a b => hE i a b, ?_⟩
      refine ⟨_, rfl, ?_⟩
      refine iteT (rfl) ?_
      refine we_and ?_
      refine we_cmp ?_
      refine we_ix ?_
      refine we_var 4 (by rfl) ?_
      refine we_un ?_
      refine we_int ?_
      refine o_neg ?_
      refine ⟨-1, plD l, rfl, hlast _, ?_⟩
      refine we_me0 (km_Zone_highest (K := K) T) hg (hr.mono (by decide)) ?_
      refine we_var 2 (by rfl) ?_
      refine ⟨_, OAt.obj, rfl, ?_⟩
      refine ⟨n, wd, R, g, rfl, z.n0, z.n12, eg, ?_⟩
      rw [ehigh]
      refine o_eqIT (room64 hr) ?_
      rw [decide_eq_true rfl]
      refine ⟨_, rfl, ?_⟩
      refine iteT (rfl) ?_
      refine we_one ?_
      refine we_fn (kf_l_rows_right (K := K) T) hg (hr.mono (by decide)) ?_ rfl (hlen := len_l_rows_right)
      refine wa_cons ?_
      refine we_var 1 (by rfl) ?_
      refine wa_cons ?_
      refine we_var 2 (by rfl) ?_
      refine wa_cons ?_
      refine we_var 4 (by rfl) ?_
      refine wa_nil ?_
      refine ⟨p, cells, a2, g2, sp, n, wd, R, g, L, rfl, mup_same, ⟨hc, by omega, by omega, hs0, hs1, by decide⟩, hn2, z, eg, fun e => hL0 (by rw [e]; rfl), hLl, fun q => ⟨fun hq => by rw [eLL]; exact hall q hq, hLp q⟩, fun a3 g3 h5 h6 => ?_⟩
      exact q _
end
end K05

set_option Elab.async false
set_option linter.all false
set_option maxRecDepth 100000
set_option maxHeartbeats 0
open PySem PySem.W PySem.Calls PyProof.Rows
theorem PySem.Challenge.cw_jumblepost_k05_whole_placings_come_one_b_holds : PySem.Challenge.rw_jumblepost_k05_whole_placings_come_one_b.Holds := by
  w_on; o_law
  refine HandSHeadRun.head_any (r := OpenLaw.row PySem.Challenge.rw_jumblepost_k05_whole_placings_come_one_b) (q := view (OpenLaw.row PySem.Challenge.rw_jumblepost_k05_whole_placings_come_one_b).prog [53]) (H := K05.hk) (ob := K05.ob) (M := 6000) (loose := K05.loose) (d := HandSHeadRun.topDef (OpenLaw.row PySem.Challenge.rw_jumblepost_k05_whole_placings_come_one_b).prog 53) (kwd := []) K05.ob_eq
    (by kernel_rfl) (fun s => by kernel_rfl) K05.run (by kernel_rfl) (by kernel_rfl) (by kernel_rfl) (by rfl) (by first | assumption | decide +kernel) (by decide +kernel) ⟨rfl, rfl, rfl, rfl, rfl, by decide +kernel⟩ ?hw ?hc
  case hw => w_witness2
  case hc =>
    refine JQ.walk_ofG (l := PySem.Challenge.rw_jumblepost_k05_whole_placings_come_one_b) (k := K05.lawLevel) (x := "_law_script") rfl (by kernel_rfl) ⟨rfl, by decide, by decide⟩ ?F
    intro w mg fa h Y G hmg0
    obtain ⟨K, KX, c⟩ := Y
    have T : K05.Tx K mg := ⟨c.t.d, ⟨h, KX, G⟩, c.more⟩
    have hmg : mg ("law" : PySem.Str) = some (.ref fa) := by
      have e : (HandSHeadRun.topDef (OpenLaw.row PySem.Challenge.rw_jumblepost_k05_whole_placings_come_one_b).prog 53).name = ("law" : PySem.Str) := by kernel_rfl
      rw [← e]
      exact hmg0
    have e := hmg.symm.trans (K05.g_law T)
    cases e
    obtain ⟨fd, F⟩ := K05.F_law T
    have b := L2.FunD.bindsA (ps := ["_law_script"]) F fun _ _ _ _ _ _ us hl => match us, hl with | [_], _ => rfl
    exact ⟨K, fd, KX, fun s v => b s [v] rfl, fun base _ _ => K05.law_ok T F⟩

