import PyProof.Rows.All
import Wide.All
import OpenK.AllK
import Wide.FinOn
import HandS.ForMost
import HandS.Wide
import HandS.Flow
import HandS.Lambda
import HandS.EndTab
import HandS.IsInst
import HandS.WideBits
import HandS.TupAny
import HandS.SortInts
import HandS.Conv
import HandS.RevRange
import HandS.Style
import KE.GoesEnum
import KE.DatumOrd
import KE.KTupSum
import HandS.SortKw
import HandS.SetKeys
import HandS.ListItems
import KE.DataEq
import KE.DataFind
import KE.KItemsList
import HandS.SetFor
import HandS.ForExc
import KE.KSortTup
import HandS.Star
import KE.SortKeyHeap
import KE.KSortKey
import HandS.EndOwn
import KE.DataMinMax
import KE.DataMinKey
import HandS.Strs
import PyProof.FactsAll.tuple_0
import PyProof.FactsAll.tuple_2
import PySem.Challenge.RW_refpack_k31_order_of_plans
set_option Elab.async false
set_option linter.all false
set_option autoImplicit false
set_option maxRecDepth 100000
namespace DL
open PySem L2

/-- the tables of code objects that are known, with the name of what they hold -/
class TQ where
  tq : List (Addr × Str)
instance (priority := low) tq0 : TQ := ⟨[]⟩
variable [TQ]
/-- neither a table nor a code object -/
def NT (u : HO) : Prop := (∀ ps, u ≠ .tbl ps) ∧ ∀ φ, u ≠ .ext φ
theorem nt_lst {xs : List V} : NT (.lst xs) := ⟨fun _ z => (nomatch z), fun _ z => (nomatch z)⟩
theorem nt_tup {xs : List V} : NT (.tup xs) := ⟨fun _ z => (nomatch z), fun _ z => (nomatch z)⟩
theorem nt_dK {xs} : NT (.dK xs) := ⟨fun _ z => (nomatch z), fun _ z => (nomatch z)⟩
theorem nt_frz {o : Obj} {u : HO} : NT (.frz o u) := ⟨fun _ z => (nomatch z), fun _ z => (nomatch z)⟩
/-- what becomes of an object that is not written: it stays, or a table has grown -/
def StayO (o u : HO) : Prop := u = o ∨ ∃ ps ps', o = .tbl ps ∧ u = .tbl ps'
theorem StayO.refl (o : HO) : StayO o o := .inl rfl
theorem StayO.trans {a b c : HO} (x : StayO a b) (y : StayO b c) : StayO a c := by
  rcases x with rfl | ⟨p1, p2, e1, e2⟩
  · exact y
  · rcases y with rfl | ⟨q1, q2, e3, e4⟩
    · exact .inr ⟨p1, p2, e1, e2⟩
    · exact .inr ⟨p1, q2, e1, e4⟩
theorem StayO.nt {o u : HO} (x : StayO o u) (n : NT o) : u = o := by
  rcases x with h | ⟨p1, _, e1, _⟩
  · exact h
  · exact absurd e1 (n.1 p1)
abbrev Tbs (H : Hp) : Prop := LamX.Tabs TQ.tq H
theorem tabS_but {H H' : Hp} {p : Addr} {u : HO} {P : Addr} {q : Str} (hp : H p = some u) (n : NT u) (hf : ∀ b o, H b = some o → b ≠ p → H' b = some o) (t : LamX.TabS H P q) : LamX.TabS H' P q := by
  obtain ⟨ps, h1, h2, h3⟩ := t
  have nP : ∀ b o, H b = some o → o ≠ u → b ≠ p := fun b o e d z => by subst z; rw [hp] at e; exact d (Option.some.inj e).symm
  refine ⟨ps, hf _ _ h1 (nP _ _ h1 fun z => n.1 ps z.symm), h2, fun pos cv hc => ?_⟩
  obtain ⟨c, e1, e2⟩ := h3 pos cv hc
  exact ⟨c, e1, hf _ _ e2 (nP _ _ e2 fun z => by unfold LamX.CodeO at z; exact n.2 _ z.symm)⟩
theorem tbs_but {H H' : Hp} {p : Addr} {u : HO} (hp : H p = some u) (n : NT u) (hf : ∀ b o, H b = some o → b ≠ p → H' b = some o) (t : Tbs H) : Tbs H' := fun r hr => tabS_but hp n hf (t r hr)
def FrameOk (H H' : Hp) (ioa : Option Addr) : Prop := (∀ b o, H b = some o → ioa ≠ some b → ∃ u, H' b = some u ∧ StayO o u) ∧ Tbs H'
theorem FrameOk.of {H H' : Hp} {ioa : Option Addr} (t : Tbs H) (hf : ∀ b o, H b = some o → H' b = some o) : FrameOk H H' ioa := ⟨fun b o e _ => ⟨o, hf b o e, .refl o⟩, LamX.Tabs.ext t hf⟩
theorem FrameOk.but {H H' : Hp} {p : Addr} {u : HO} (t : Tbs H) (hp : H p = some u) (n : NT u) (hf : ∀ b o, H b = some o → b ≠ p → H' b = some o) : FrameOk H H' (some p) := ⟨fun b o e d => ⟨o, hf b o e fun z => d (by rw [z]), .refl o⟩, tbs_but hp n hf t⟩

/-! ### data, and what represents it -/
inductive D where
  | non | bl (b : Bool) | int (i : Int) | str (x : Str) | tup (ds : List D) | lst (ds : List D) | dic (ks : List Key) (ds : List D) | scr (ds : List D)
deriving Inhabited

abbrev noHp : Hp := fun _ => none
def TAt (K : PySem.W.Frag) (O : Addr → Prop) (H : Hp) (a : Addr) (xs : List V) : Prop := (¬ O a ∧ Rd H a (.tup xs)) ∨ SqT K noHp a xs
def LAt (K : PySem.W.Frag) (O : Addr → Prop) (H : Hp) (a : Addr) (xs : List V) : Prop := (¬ O a ∧ Rd H a (.lst xs)) ∨ SqL K noHp a xs

mutual
def Rep (K : PySem.W.Frag) (O : Addr → Prop) (H : Hp) : D → V → Prop
  | .non, v => v = .non
  | .bl b, v => v = .bl b
  | .int i, v => v = .int i
  | .str x, v => v = .str x
  | .tup ds, v => ∃ a xs, v = .ref a ∧ TAt K O H a xs ∧ RepL K O H ds xs
  | .lst ds, v => ∃ a xs, v = .ref a ∧ ¬ O a ∧ H a = some (.lst xs) ∧ RepL K O H ds xs
  | .scr ds, v => ∃ a xs, v = .ref a ∧ LAt K O H a xs ∧ RepL K O H ds xs
  | .dic ks ds, v => ∃ a ws, v = .ref a ∧ ¬ O a ∧ H a = some (.dK ws) ∧ ws.map Prod.fst = ks ∧ RepL K O H ds (ws.map Prod.snd)
def RepL (K : PySem.W.Frag) (O : Addr → Prop) (H : Hp) : List D → List V → Prop
  | [], xs => xs = []
  | d :: ds, xs => ∃ x r, xs = x :: r ∧ Rep K O H d x ∧ RepL K O H ds r
end

/-- what does not lean on O is as it was, and does not lean on O' -/
def Keep (O : Addr → Prop) (H : Hp) (O' : Addr → Prop) (H' : Hp) : Prop := ∀ a u, ¬ O a → H a = some u → NT u → ¬ O' a ∧ H' a = some u
theorem Keep.refl (O : Addr → Prop) (H : Hp) : Keep O H O H := fun _ _ h e _ => ⟨h, e⟩
theorem Keep.trans {O1 O2 O3 : Addr → Prop} {H1 H2 H3 : Hp} (x : Keep O1 H1 O2 H2) (y : Keep O2 H2 O3 H3) : Keep O1 H1 O3 H3 := fun a u h e n =>
  let ⟨h2, e2⟩ := x a u h e n
  y a u h2 e2 n
theorem Keep.less {O O' : Addr → Prop} {H : Hp} (h : ∀ a, O' a → O a) : Keep O H O' H := fun a _ n e _ => ⟨fun q => n (h a q), e⟩
theorem sq_no {K : PySem.W.Frag} {H : Hp} {a : Addr} {xs : List V} (h : SqT K noHp a xs) : SqT K H a xs := by
  rcases h with (h | ⟨o, h⟩) | h
  · cases h
  · cases h
  · exact .inr h
theorem sl_no {K : PySem.W.Frag} {H : Hp} {a : Addr} {xs : List V} (h : SqL K noHp a xs) : SqL K H a xs := by
  rcases h with (h | ⟨o, h⟩) | h
  · cases h
  · cases h
  · exact .inr h
theorem TAt.sq {K : PySem.W.Frag} {O : Addr → Prop} {H : Hp} {a : Addr} {xs : List V} (h : TAt K O H a xs) : SqT K H a xs := by
  rcases h with ⟨_, h⟩ | h
  · exact .inl h
  · exact sq_no h
theorem LAt.sq {K : PySem.W.Frag} {O : Addr → Prop} {H : Hp} {a : Addr} {xs : List V} (h : LAt K O H a xs) : SqL K H a xs := by
  rcases h with ⟨_, h⟩ | h
  · exact .inl h
  · exact sl_no h
theorem TAt.mono {K : PySem.W.Frag} {O O' : Addr → Prop} {H H' : Hp} {a : Addr} {xs : List V} (k : Keep O H O' H') (h : TAt K O H a xs) : TAt K O' H' a xs := by
  rcases h with ⟨n, h⟩ | h
  · rcases h with h | ⟨o, h⟩
    · exact .inl ⟨(k _ _ n h nt_tup).1, .inl (k _ _ n h nt_tup).2⟩
    · exact .inl ⟨(k _ _ n h nt_frz).1, .inr ⟨o, (k _ _ n h nt_frz).2⟩⟩
  · exact .inr h
theorem LAt.mono {K : PySem.W.Frag} {O O' : Addr → Prop} {H H' : Hp} {a : Addr} {xs : List V} (k : Keep O H O' H') (h : LAt K O H a xs) : LAt K O' H' a xs := by
  rcases h with ⟨n, h⟩ | h
  · rcases h with h | ⟨o, h⟩
    · exact .inl ⟨(k _ _ n h nt_lst).1, .inl (k _ _ n h nt_lst).2⟩
    · exact .inl ⟨(k _ _ n h nt_frz).1, .inr ⟨o, (k _ _ n h nt_frz).2⟩⟩
  · exact .inr h
mutual
theorem Rep.mono {K : PySem.W.Frag} {O O' : Addr → Prop} {H H' : Hp} (k : Keep O H O' H') : ∀ {d : D} {v : V}, Rep K O H d v → Rep K O' H' d v
  | .non, _, h => by simpa only [Rep] using h
  | .bl _, _, h => by simpa only [Rep] using h
  | .int _, _, h => by simpa only [Rep] using h
  | .str _, _, h => by simpa only [Rep] using h
  | .tup ds, v, h => by
    simp only [Rep] at h ⊢
    obtain ⟨a, xs, e, t, r⟩ := h
    exact ⟨a, xs, e, t.mono k, RepL.mono k r⟩
  | .lst ds, v, h => by
    simp only [Rep] at h ⊢
    obtain ⟨a, xs, e, n, t, r⟩ := h
    exact ⟨a, xs, e, (k _ _ n t nt_lst).1, (k _ _ n t nt_lst).2, RepL.mono k r⟩
  | .scr ds, v, h => by
    simp only [Rep] at h ⊢
    obtain ⟨a, xs, e, t, r⟩ := h
    exact ⟨a, xs, e, t.mono k, RepL.mono k r⟩
  | .dic ks ds, v, h => by
    simp only [Rep] at h ⊢
    obtain ⟨a, ws, e, n, t, q, r⟩ := h
    exact ⟨a, ws, e, (k _ _ n t nt_dK).1, (k _ _ n t nt_dK).2, q, RepL.mono k r⟩
theorem RepL.mono {K : PySem.W.Frag} {O O' : Addr → Prop} {H H' : Hp} (k : Keep O H O' H') : ∀ {ds : List D} {xs : List V}, RepL K O H ds xs → RepL K O' H' ds xs
  | [], _, h => by simpa only [RepL] using h
  | d :: ds, xs, h => by
    simp only [RepL] at h ⊢
    obtain ⟨x, r, e, h1, h2⟩ := h
    exact ⟨x, r, e, Rep.mono k h1, RepL.mono k h2⟩
end
section
variable {K : PySem.W.Frag} {O : Addr → Prop} {H : Hp}
theorem RepL.length : ∀ {ds : List D} {xs : List V}, RepL K O H ds xs → ds.length = xs.length
  | [], xs, h => by simp only [RepL] at h; subst h; rfl
  | d :: ds, xs, h => by
    simp only [RepL] at h
    obtain ⟨x, r, e, h1, h2⟩ := h
    subst e
    simp [RepL.length h2]
theorem RepL.nil : RepL K O H [] [] := by simp only [RepL]
theorem RepL.cons {d : D} {x : V} {ds : List D} {xs : List V} (h : Rep K O H d x) (r : RepL K O H ds xs) : RepL K O H (d :: ds) (x :: xs) := by
  simp only [RepL]
  exact ⟨x, xs, rfl, h, r⟩
theorem RepL.append : ∀ {ds es : List D} {xs ys : List V}, RepL K O H ds xs → RepL K O H es ys → RepL K O H (ds ++ es) (xs ++ ys)
  | [], es, xs, ys, h, r => by simp only [RepL] at h; subst h; exact r
  | d :: ds, es, xs, ys, h, r => by
    simp only [RepL] at h
    obtain ⟨x, t, e, h1, h2⟩ := h
    subst e
    exact RepL.cons h1 (RepL.append h2 r)
theorem RepL.get : ∀ {ds : List D} {xs : List V} {i : Nat} {d : D}, RepL K O H ds xs → ds[i]? = some d → ∃ x, xs[i]? = some x ∧ Rep K O H d x
  | [], _, _, _, _, e => by simp at e
  | d0 :: ds, xs, 0, d, h, e => by
    simp only [RepL] at h
    obtain ⟨x, r, e1, h1, h2⟩ := h
    subst e1
    simp at e
    subst e
    exact ⟨x, rfl, h1⟩
  | d0 :: ds, xs, i + 1, d, h, e => by
    simp only [RepL] at h
    obtain ⟨x, r, e1, h1, h2⟩ := h
    subst e1
    obtain ⟨y, ey, hy⟩ := RepL.get (i := i) h2 (by simpa using e)
    exact ⟨y, by simpa using ey, hy⟩
theorem RepL.get' : ∀ {ds : List D} {xs : List V} {i : Nat} {x : V}, RepL K O H ds xs → xs[i]? = some x → ∃ d, ds[i]? = some d ∧ Rep K O H d x := by
  intro ds xs i x h e
  have hl := h.length
  have hi : i < xs.length := (List.getElem?_eq_some_iff.mp e).1
  obtain ⟨y, ey, hy⟩ := h.get (List.getElem?_eq_getElem (show i < ds.length by omega))
  rw [e] at ey
  cases ey
  exact ⟨_, List.getElem?_eq_getElem (by omega), hy⟩
theorem RepL.set : ∀ {ds : List D} {xs : List V} {d : D} {x : V} (i : Nat), RepL K O H ds xs → Rep K O H d x → RepL K O H (ds.set i d) (xs.set i x)
  | [], xs, d, x, i, h, r => by simp only [RepL] at h; subst h; exact RepL.nil
  | d0 :: ds, xs, d, x, 0, h, r => by
    simp only [RepL] at h
    obtain ⟨y, t, e1, h1, h2⟩ := h
    subst e1
    exact RepL.cons r h2
  | d0 :: ds, xs, d, x, i + 1, h, r => by
    simp only [RepL] at h
    obtain ⟨y, t, e1, h1, h2⟩ := h
    subst e1
    exact RepL.cons h1 (RepL.set i h2 r)
theorem RepL.take : ∀ {ds : List D} {xs : List V} (n : Nat), RepL K O H ds xs → RepL K O H (ds.take n) (xs.take n)
  | [], xs, n, h => by simp only [RepL] at h; subst h; simpa using RepL.nil
  | d :: ds, xs, 0, h => by simpa using RepL.nil
  | d :: ds, xs, n + 1, h => by
    simp only [RepL] at h
    obtain ⟨y, t, e1, h1, h2⟩ := h
    subst e1
    exact RepL.cons h1 (RepL.take n h2)
theorem RepL.drop : ∀ {ds : List D} {xs : List V} (n : Nat), RepL K O H ds xs → RepL K O H (ds.drop n) (xs.drop n)
  | [], xs, n, h => by simp only [RepL] at h; subst h; simpa using RepL.nil
  | d :: ds, xs, 0, h => h
  | d :: ds, xs, n + 1, h => by
    simp only [RepL] at h
    obtain ⟨y, t, e1, h1, h2⟩ := h
    subst e1
    exact RepL.drop n h2
theorem RepL.eraseIdx : ∀ {ds : List D} {xs : List V} (n : Nat), RepL K O H ds xs → RepL K O H (ds.eraseIdx n) (xs.eraseIdx n)
  | [], xs, n, h => by simp only [RepL] at h; subst h; simpa using RepL.nil
  | d :: ds, xs, 0, h => by
    simp only [RepL] at h
    obtain ⟨y, t, e1, h1, h2⟩ := h
    subst e1
    exact h2
  | d :: ds, xs, n + 1, h => by
    simp only [RepL] at h
    obtain ⟨y, t, e1, h1, h2⟩ := h
    subst e1
    exact RepL.cons h1 (RepL.eraseIdx n h2)
theorem RepL.reverse {ds : List D} {xs : List V} (h : RepL K O H ds xs) : RepL K O H ds.reverse xs.reverse := by
  induction ds generalizing xs with
  | nil => simp only [RepL] at h; subst h; exact RepL.nil
  | cons d ds ih =>
    simp only [RepL] at h
    obtain ⟨y, t, e1, h1, h2⟩ := h
    subst e1
    rw [List.reverse_cons, List.reverse_cons]
    exact (ih h2).append (RepL.cons h1 RepL.nil)
theorem RepL.ints : ∀ {ns : List Int} {xs : List V}, RepL K O H (ns.map D.int) xs → xs = ns.map V.int
  | [], xs, h => by simpa only [RepL, List.map_nil] using h
  | n :: ns, xs, h => by
    simp only [List.map_cons, RepL, Rep] at h
    obtain ⟨x, r, e, h1, h2⟩ := h
    subst e h1
    rw [RepL.ints h2]
    rfl
theorem RepL.ofInts : ∀ {ns : List Int}, RepL K O H (ns.map D.int) (ns.map V.int)
  | [] => RepL.nil
  | n :: ns => RepL.cons (by simp only [Rep]) RepL.ofInts
end

/-! ### states -/
inductive Sl where
  | no | pl (d : D) | ow (d : D) | vw (d : D)
deriving Inhabited
abbrev DS := List Sl
abbrev PEnt := V × Bool × D
structure Ctx where
  K : PySem.W.Frag
  H0 : Hp
  O0 : Addr → Prop
  io : Option Addr
  fr : Bool
def OwAt (σ : St) (s : DS) (i : Nat) (p : Addr) : Prop := σ[i]? = some (some (V.ref p)) ∧ ∃ d, s[i]? = some (Sl.ow d)
def ownP : List PEnt → List Addr
  | [] => []
  | (.ref p, true, _) :: r => p :: ownP r
  | _ :: r => ownP r
def Own (σ : St) (s : DS) (pend : List PEnt) (a : Addr) : Prop := a ∈ ownP pend ∨ ∃ i, OwAt σ s i a
def Oof (c : Ctx) (σ : St) (s : DS) (pend : List PEnt) (a : Addr) : Prop := c.O0 a ∨ Own σ s pend a
def OwnRep (K : PySem.W.Frag) (O : Addr → Prop) (H : Hp) (p : Addr) : D → Prop
  | .lst ds => ∃ xs, H p = some (.lst xs) ∧ RepL K O H ds xs
  | .dic ks ds => ∃ ws, H p = some (.dK ws) ∧ ws.map Prod.fst = ks ∧ RepL K O H ds (ws.map Prod.snd)
  | _ => False
def PendOk (K : PySem.W.Frag) (O : Addr → Prop) (H : Hp) (e : PEnt) : Prop :=
  match e with
  | (v, false, d) => Rep K O H d v
  | (v, true, d) => ∃ p, v = .ref p ∧ OwnRep K O H p d
/-- what is seen, and stays: a value, or an object that was there at the entry and belongs to another -/
def VwS (c : Ctx) (O : Addr → Prop) (H : Hp) (d : D) (v : V) : Prop := Rep c.K O H d v ∨ ∃ p, v = .ref p ∧ c.H0 p ≠ none ∧ c.io ≠ some p ∧ OwnRep c.K O H p d
structure Rel (c : Ctx) (σ : St) (H : Hp) (s : DS) (pend : List PEnt) : Prop where
  len : σ.length = s.length
  pl : ∀ (i : Nat) d, s[i]? = some (Sl.pl d) → ∃ v, σ[i]? = some (some v) ∧ Rep c.K (Oof c σ s pend) H d v
  ow : ∀ (i : Nat) d, s[i]? = some (Sl.ow d) → ∃ p, σ[i]? = some (some (V.ref p)) ∧ OwnRep c.K (Oof c σ s pend) H p d
  pd : ∀ e ∈ pend, PendOk c.K (Oof c σ s pend) H e
  inj : ∀ i j p, OwAt σ s i p → OwAt σ s j p → i = j
  ndp : (ownP pend).Nodup
  sep : ∀ i p, OwAt σ s i p → p ∉ ownP pend
  new : ∀ a, Own σ s pend a → c.H0 a = none ∨ c.io = some a
  frame : ∀ b o, c.H0 b = some o → c.io ≠ some b → ∃ u, H b = some u ∧ StayO o u
  o0 : ∀ a, c.O0 a → c.H0 a ≠ none
  iok : ∀ p, c.io = some p → OwAt σ s 0 p
  io0 : ∀ p, c.io = some p → c.H0 p ≠ none
  vw : ∀ (i : Nat) d, s[i]? = some (Sl.vw d) → ∃ v, σ[i]? = some (some v) ∧ VwS c (Oof c σ s pend) H d v
  tabs : Tbs H

theorem OwnRep.mono {K : PySem.W.Frag} {O O' : Addr → Prop} {H H' : Hp} {p : Addr} {d : D} (k : Keep O H O' H') (e : H' p = H p) (h : OwnRep K O H p d) : OwnRep K O' H' p d := by
  cases d with
  | lst ds =>
    obtain ⟨xs, e1, r⟩ := h
    exact ⟨xs, e.trans e1, r.mono k⟩
  | dic ks ds =>
    obtain ⟨xs, e1, q, r⟩ := h
    exact ⟨xs, e.trans e1, q, r.mono k⟩
  | _ => exact h.elim
theorem VwS.mono {c : Ctx} {O O' : Addr → Prop} {H H' : Hp} {d : D} {v : V} (k : Keep O H O' H') (e : ∀ p, c.H0 p ≠ none → c.io ≠ some p → (∃ u, H p = some u ∧ NT u) → H' p = H p) (h : VwS c O H d v) (t : ∀ p, OwnRep c.K O H p d → ∃ u, H p = some u ∧ NT u) : VwS c O' H' d v := by
  rcases h with h | ⟨p, e1, h0, hio, r⟩
  · exact .inl (h.mono k)
  · exact .inr ⟨p, e1, h0, hio, r.mono k (e p h0 hio (t p r))⟩
theorem OwnRep.there {K : PySem.W.Frag} {O : Addr → Prop} {H : Hp} {p : Addr} {d : D} (h : OwnRep K O H p d) : H p ≠ none := by
  cases d with
  | lst ds =>
    obtain ⟨xs, e1, r⟩ := h
    rw [e1]
    exact fun z => nomatch z
  | dic ks ds =>
    obtain ⟨xs, e1, r⟩ := h
    rw [e1]
    exact fun z => nomatch z
  | _ => exact h.elim
theorem OwnRep.nt {K : PySem.W.Frag} {O : Addr → Prop} {H : Hp} {p : Addr} {d : D} (h : OwnRep K O H p d) : ∃ u, H p = some u ∧ NT u := by
  cases d with
  | lst ds =>
    obtain ⟨xs, e1, r⟩ := h
    exact ⟨_, e1, nt_lst⟩
  | dic ks ds =>
    obtain ⟨xs, e1, r⟩ := h
    exact ⟨_, e1, nt_dK⟩
  | _ => exact h.elim
theorem mem_ownP {p : Addr} : ∀ {pend : List PEnt}, p ∈ ownP pend → ∃ d, (V.ref p, true, d) ∈ pend
  | [], h => by simp [ownP] at h
  | (v, b, d) :: r, h => by
    cases v with
    | ref q =>
      cases b with
      | true =>
        simp only [ownP, List.mem_cons] at h
        rcases h with h | h
        · subst h; exact ⟨d, List.mem_cons_self⟩
        · obtain ⟨d', h'⟩ := mem_ownP h
          exact ⟨d', List.mem_cons_of_mem _ h'⟩
      | false =>
        obtain ⟨d', h'⟩ := mem_ownP (pend := r) h
        exact ⟨d', List.mem_cons_of_mem _ h'⟩
    | _ =>
      obtain ⟨d', h'⟩ := mem_ownP (pend := r) (by cases b <;> exact h)
      exact ⟨d', List.mem_cons_of_mem _ h'⟩
theorem ownP_false {v : V} {d : D} {r : List PEnt} : ownP ((v, false, d) :: r) = ownP r := by cases v <;> rfl
theorem ownP_ref {p : Addr} {d : D} {r : List PEnt} : ownP ((.ref p, true, d) :: r) = p :: ownP r := rfl

section
variable {c : Ctx} {σ : St} {H H' : Hp} {s s' : DS} {pend : List PEnt} {v : V} {d : D} {p : Addr} {i : Nat} {b : Bool}
theorem Rel.tracked (R : Rel c σ H s pend) {a : Addr} (h : Own σ s pend a) : H a ≠ none := by
  rcases h with h | ⟨i, h1, d, h2⟩
  · obtain ⟨d, hm⟩ := mem_ownP h
    obtain ⟨p, e, r⟩ := R.pd _ hm
    cases e
    exact r.there
  · obtain ⟨p, e, r⟩ := R.ow i d h2
    rw [h1] at e
    cases e
    exact r.there
theorem Rel.trackedN (R : Rel c σ H s pend) {a : Addr} (h : Own σ s pend a) : ∃ u, H a = some u ∧ NT u := by
  rcases h with h | ⟨i, h1, d, h2⟩
  · obtain ⟨d, hm⟩ := mem_ownP h
    obtain ⟨p, e, r⟩ := R.pd _ hm
    cases e
    exact r.nt
  · obtain ⟨p, e, r⟩ := R.ow i d h2
    rw [h1] at e
    cases e
    exact r.nt
theorem Rel.trackedO (R : Rel c σ H s pend) {a : Addr} (h : Oof c σ s pend a) : H a ≠ none := by
  rcases h with h | h
  · have q := R.o0 a h
    by_cases hio : c.io = some a
    · exact R.tracked (.inr ⟨0, R.iok a hio⟩)
    · cases e : c.H0 a with
      | none => exact absurd e q
      | some o => obtain ⟨u, e2, _⟩ := R.frame a o e hio; rw [e2]; exact fun z => nomatch z
  · exact R.tracked h
theorem Rel.freshNot (R : Rel c σ H s pend) (h : H p = none) : ¬ Oof c σ s pend p := fun q => R.trackedO q h
theorem Rel.fresh0 (R : Rel c σ H s pend) (h : H p = none) : c.H0 p = none := by
  cases e : c.H0 p with
  | none => rfl
  | some o =>
    by_cases hio : c.io = some p
    · exact absurd h (R.tracked (.inr ⟨0, R.iok p hio⟩))
    · obtain ⟨u, e2, _⟩ := R.frame p o e hio; rw [e2] at h; cases h
theorem Own.false {a : Addr} : Own σ s ((v, false, d) :: pend) a = Own σ s pend a := by unfold Own; rw [ownP_false]
theorem Oof.false : Oof c σ s ((v, false, d) :: pend) = Oof c σ s pend := by
  funext a; unfold Oof; rw [Own.false]
/-- a value that is represented stands aside -/
theorem Rel.push (R : Rel c σ H s pend) (h : Rep c.K (Oof c σ s pend) H d v) : Rel c σ H s ((v, false, d) :: pend) := by
  refine ⟨R.len, ?_, ?_, ?_, R.inj, ?_, ?_, ?_, R.frame, R.o0, R.iok, R.io0, ?_, R.tabs⟩
  · rw [Oof.false]; exact R.pl
  · rw [Oof.false]; exact R.ow
  · rw [Oof.false]
    intro e he
    rcases List.mem_cons.mp he with e1 | he
    · subst e1; exact h
    · exact R.pd e he
  · rw [ownP_false]; exact R.ndp
  · rw [ownP_false]; exact R.sep
  · intro a h; rw [Own.false] at h; exact R.new a h
  · rw [Oof.false]; exact R.vw
theorem Rel.head (R : Rel c σ H s ((v, false, d) :: pend)) : Rep c.K (Oof c σ s pend) H d v := by
  have h := R.pd _ List.mem_cons_self
  rw [Oof.false] at h
  exact h
theorem own_sub {e : PEnt} {a : Addr} (h : Own σ s pend a) : Own σ s (e :: pend) a := by
  rcases h with h | h
  · left
    obtain ⟨w, b, d⟩ := e
    cases w <;> cases b <;> first | exact h | exact List.mem_cons_of_mem _ h
  · exact .inr h
theorem oof_sub {e : PEnt} {a : Addr} (h : Oof c σ s pend a) : Oof c σ s (e :: pend) a := by
  rcases h with h | h
  · exact .inl h
  · exact .inr (own_sub h)
theorem ownP_tail {e : PEnt} (h : (ownP (e :: pend)).Nodup) : (ownP pend).Nodup := by
  obtain ⟨w, b, d⟩ := e
  cases w <;> cases b <;> first | exact h | exact (List.nodup_cons.mp h).2
theorem PendOk.mono {K : PySem.W.Frag} {O O' : Addr → Prop} {e : PEnt} (k : Keep O H O' H') (h : PendOk K O H e) (hp : ∀ p d, e = (.ref p, true, d) → H' p = H p) : PendOk K O' H' e := by
  obtain ⟨w, b, d⟩ := e
  cases b with
  | false => exact Rep.mono k h
  | true =>
    obtain ⟨p, e1, r⟩ := h
    exact ⟨p, e1, r.mono k (hp p d (by rw [e1]))⟩
/-- what stands aside is forgotten -/
theorem Rel.drop {e : PEnt} (R : Rel c σ H s (e :: pend)) : Rel c σ H s pend := by
  have k : Keep (Oof c σ s (e :: pend)) H (Oof c σ s pend) H := Keep.less fun a h => oof_sub h
  refine ⟨R.len, fun i d h => ?_, fun i d h => ?_, fun e' h => ?_, R.inj, ownP_tail R.ndp, fun i p h q => ?_, fun a h => R.new a (own_sub h), R.frame, R.o0, R.iok, R.io0, fun i d h => let ⟨v, e1, r⟩ := R.vw i d h; ⟨v, e1, r.mono k (fun _ _ _ _ => rfl) fun _ r => r.nt⟩, R.tabs⟩
  · obtain ⟨v, e1, r⟩ := R.pl i d h
    exact ⟨v, e1, r.mono k⟩
  · obtain ⟨v, e1, r⟩ := R.ow i d h
    exact ⟨v, e1, r.mono k rfl⟩
  · exact (R.pd e' (List.mem_cons_of_mem _ h)).mono k fun _ _ _ => rfl
  · refine R.sep i p h ?_
    obtain ⟨w, b, d⟩ := e
    cases w <;> cases b <;> first | exact q | exact List.mem_cons_of_mem _ q
/-- under the head -/
theorem Rel.under {v : V} {d : D} {e : PEnt} (R : Rel c σ H s ((v, false, d) :: e :: pend)) : Rel c σ H s ((v, false, d) :: pend) := by
  have h := R.head
  have R2 := R.drop
  exact R2.drop.push (h.mono (Keep.less fun a q => oof_sub q))

/-- the heap changes at nothing that is known -/
theorem Rel.grow {o : HO} (R : Rel c σ H s pend) (hp : H p = none) : Rel c σ (upd H p o) s pend := by
  have k : Keep (Oof c σ s pend) H (Oof c σ s pend) (upd H p o) := fun a u n e _ => ⟨n, by rw [upd_ne (ne_of_none e hp)]; exact e⟩
  have ne : ∀ q, Own σ s pend q → q ≠ p := fun q h e => R.tracked h (e ▸ hp)
  refine ⟨R.len, fun i d h => ?_, fun i d h => ?_, fun e' h => ?_, R.inj, R.ndp, R.sep, R.new, fun b u h n => ?_, R.o0, R.iok, R.io0, fun i d h => let ⟨v, e1, r⟩ := R.vw i d h; ⟨v, e1, r.mono k (fun q _ _ ⟨u, h3, _⟩ => upd_ne (ne_of_none h3 hp)) fun _ r => r.nt⟩, LamX.Tabs.ext R.tabs fun b o e => by rw [upd_ne (ne_of_none e hp)]; exact e⟩
  · obtain ⟨v, e1, r⟩ := R.pl i d h
    exact ⟨v, e1, r.mono k⟩
  · obtain ⟨q, e1, r⟩ := R.ow i d h
    exact ⟨q, e1, r.mono k (upd_ne (ne q (.inr ⟨i, e1, d, h⟩)))⟩
  · refine (R.pd e' h).mono k fun q d e => upd_ne (ne q (.inl ?_))
    subst e
    clear k ne R
    induction pend with
    | nil => cases h
    | cons e2 r ih =>
      rcases List.mem_cons.mp h with z | z
      · subst z; exact List.mem_cons_self
      · have := ih z
        obtain ⟨w, b, d⟩ := e2
        cases w <;> cases b <;> first | exact this | exact List.mem_cons_of_mem _ this
  · obtain ⟨u2, e2, s2⟩ := R.frame b u h n
    exact ⟨u2, by rw [upd_ne (ne_of_none e2 hp)]; exact e2, s2⟩
theorem Rel.repUp {o : HO} {v : V} {d : D} (R : Rel c σ H s pend) (hp : H p = none) (h : Rep c.K (Oof c σ s pend) H d v) : Rep c.K (Oof c σ s pend) (upd H p o) d v :=
  h.mono fun a u n e _ => ⟨n, by rw [upd_ne (ne_of_none e hp)]; exact e⟩
/-- a new tuple -/
theorem Rel.tup {xs : List V} {ds : List D} (R : Rel c σ H s pend) (hp : H p = none) (h : RepL c.K (Oof c σ s pend) H ds xs) : Rel c σ (upd H p (.tup xs)) s ((.ref p, false, .tup ds) :: pend) := by
  refine (R.grow hp).push ?_
  simp only [Rep]
  refine ⟨p, xs, rfl, .inl ⟨R.freshNot hp, .inl upd_same⟩, h.mono fun a u n e _ => ⟨n, by rw [upd_ne (ne_of_none e hp)]; exact e⟩⟩
/-- a new object that is owned -/
theorem Rel.make {o : HO} (R : Rel c σ H s pend) (hp : H p = none) (h : ∀ O : Addr → Prop, Keep (Oof c σ s pend) H O (upd H p o) → OwnRep c.K O (upd H p o) p d) : Rel c σ (upd H p o) s ((.ref p, true, d) :: pend) := by
  have k : Keep (Oof c σ s pend) H (Oof c σ s ((.ref p, true, d) :: pend)) (upd H p o) := fun a u n e _ => by
    have ne := ne_of_none e hp
    refine ⟨fun q => n ?_, by rw [upd_ne ne]; exact e⟩
    rcases q with q | q | q
    · exact .inl q
    · rcases List.mem_cons.mp q with z | z
      · exact absurd z ne
      · exact .inr (.inl z)
    · exact .inr (.inr q)
  have ne : ∀ q, Own σ s pend q → q ≠ p := fun q h e => R.tracked h (e ▸ hp)
  have R1 := R.grow (o := o) hp
  refine ⟨R.len, fun i d h => ?_, fun i d h => ?_, fun e' h' => ?_, R.inj, ?_, fun i q h z => ?_, fun a h => ?_, R1.frame, R.o0, R.iok, R.io0, fun i d h => let ⟨v, e1, r⟩ := R.vw i d h; ⟨v, e1, r.mono k (fun q _ _ ⟨u, h3, _⟩ => upd_ne (ne_of_none h3 hp)) fun _ r => r.nt⟩, LamX.Tabs.ext R.tabs fun b o e => by rw [upd_ne (ne_of_none e hp)]; exact e⟩
  · obtain ⟨v, e1, r⟩ := R.pl i d h
    exact ⟨v, e1, r.mono k⟩
  · obtain ⟨q, e1, r⟩ := R.ow i d h
    exact ⟨q, e1, r.mono k (upd_ne (ne q (.inr ⟨i, e1, d, h⟩)))⟩
  · rcases List.mem_cons.mp h' with z | z
    · subst z
      exact ⟨p, rfl, h _ k⟩
    · refine (R.pd e' z).mono k fun q d e => ?_
      have hq := R.pd e' z
      rw [e] at hq
      obtain ⟨q', e1, r⟩ := hq
      cases e1
      exact upd_ne fun w => r.there (w ▸ hp)
  · exact List.nodup_cons.mpr ⟨fun z => ne p (.inl z) rfl, R.ndp⟩
  · rcases List.mem_cons.mp z with z | z
    · exact ne q (.inr ⟨i, h⟩) z
    · exact R.sep i q h z
  · rcases h with h | h
    · rcases List.mem_cons.mp h with z | z
      · subst z; exact .inl (R.fresh0 hp)
      · exact R.new a (.inl z)
    · exact R.new a (.inr h)
theorem Rel.lst {xs : List V} {ds : List D} (R : Rel c σ H s pend) (hp : H p = none) (h : RepL c.K (Oof c σ s pend) H ds xs) : Rel c σ (upd H p (.lst xs)) s ((.ref p, true, .lst ds) :: pend) :=
  R.make hp fun O k => ⟨xs, upd_same, h.mono k⟩
end
end DL

set_option Elab.async false
set_option linter.all false
set_option autoImplicit false
set_option maxRecDepth 100000
namespace DL
variable [TQ]
open PySem L2
section
variable {c : Ctx} {σ σ' : St} {H H' : Hp} {s s' : DS} {pend : List PEnt} {v : V} {d d' : D} {p : Addr} {i j : Nat} {b : Bool}

theorem OwnRep.rep {K : PySem.W.Frag} {O O' : Addr → Prop} (k : Keep O H O' H) (n : ¬ O' p) (h : OwnRep K O H p d) : Rep K O' H d (.ref p) := by
  cases d with
  | lst ds =>
    obtain ⟨xs, e, r⟩ := h
    simp only [Rep]
    exact ⟨p, xs, rfl, n, e, r.mono k⟩
  | dic ks ds =>
    obtain ⟨xs, e, q, r⟩ := h
    simp only [Rep]
    exact ⟨p, xs, rfl, n, e, q, r.mono k⟩
  | _ => exact h.elim
/-- what stands aside and is owned is given away -/
theorem Rel.relP (R : Rel c σ H s ((v, true, d) :: pend)) : Rel c σ H s ((v, false, d) :: pend) := by
  obtain ⟨p, e, r⟩ := R.pd _ List.mem_cons_self
  subst e
  have k : Keep (Oof c σ s ((.ref p, true, d) :: pend)) H (Oof c σ s pend) H := Keep.less fun a h => oof_sub h
  refine R.drop.push (r.rep k fun q => ?_)
  have h1 : p ∉ ownP pend := (List.nodup_cons.mp R.ndp).1
  have h2 : ∀ i, ¬ OwAt σ s i p := fun i q => R.sep i p q List.mem_cons_self
  rcases q with q | q | ⟨i, q⟩
  · rcases R.new p (.inl List.mem_cons_self) with z | z
    · exact R.o0 p q z
    · exact h2 0 (R.iok p z)
  · exact h1 q
  · exact h2 i q
theorem owat_set {x : Sl} {v : Option V} (h : OwAt (σ.set i v) (s.set i x) j p) : (j ≠ i ∧ OwAt σ s j p) ∨ (j = i ∧ v = some (.ref p) ∧ ∃ d, x = .ow d) := by
  obtain ⟨h1, d, h2⟩ := h
  by_cases e : j = i
  · subst e
    rw [List.getElem?_set] at h1 h2
    simp at h1 h2
    exact .inr ⟨rfl, h1.2, d, h2.2⟩
  · rw [List.getElem?_set_ne (Ne.symm e)] at h1 h2
    exact .inl ⟨e, h1, d, h2⟩
theorem owat_set' {x : Sl} (h : OwAt σ (s.set i x) j p) : (j ≠ i ∧ OwAt σ s j p) ∨ (j = i ∧ σ[i]? = some (some (V.ref p)) ∧ ∃ d, x = .ow d) := by
  obtain ⟨h1, d, h2⟩ := h
  by_cases e : j = i
  · subst e
    rw [List.getElem?_set] at h2
    simp at h2
    exact .inr ⟨rfl, h1, d, h2.2⟩
  · rw [List.getElem?_set_ne (Ne.symm e)] at h2
    exact .inl ⟨e, h1, d, h2⟩
theorem set_cases {α : Type} {l : List α} {x y : α} (h : (l.set i x)[j]? = some y) : (j = i ∧ x = y ∧ i < l.length) ∨ (j ≠ i ∧ l[j]? = some y) := by
  by_cases e : j = i
  · subst e
    rw [List.getElem?_set] at h
    simp at h
    exact .inl ⟨rfl, h.2, h.1⟩
  · rw [List.getElem?_set_ne (Ne.symm e)] at h
    exact .inr ⟨e, h⟩
theorem mem_ownP_of {pend : List PEnt} (h : (V.ref p, true, d) ∈ pend) : p ∈ ownP pend := by
  induction pend with
  | nil => cases h
  | cons e2 r ih =>
    rcases List.mem_cons.mp h with z | z
    · subst z; exact List.mem_cons_self
    · have := ih z
      obtain ⟨w, b, d⟩ := e2
      cases w <;> cases b <;> first | exact this | exact List.mem_cons_of_mem _ this
/-- a slot that is forgotten, in part -/
theorem Rel.forget (R : Rel c σ H s pend) (hl : σ'.length = σ.length) (hl2 : s'.length = s.length) (hs : ∀ (j : Nat), s'[j]? = some Sl.no ∨ (s'[j]? = s[j]? ∧ σ'[j]? = σ[j]?)) (hio : ∀ p, c.io = some p → s'[0]? ≠ some Sl.no) : Rel c σ' H s' pend := by
  have back : ∀ j p, OwAt σ' s' j p → OwAt σ s j p := fun j p h => by
    obtain ⟨h1, d, h2⟩ := h
    rcases hs j with z | ⟨z1, z2⟩
    · rw [z] at h2; cases h2
    · exact ⟨z2 ▸ h1, d, z1 ▸ h2⟩
  have oo : ∀ a, Oof c σ' s' pend a → Oof c σ s pend a := fun a h => by
    rcases h with h | h | ⟨i, h⟩
    · exact .inl h
    · exact .inr (.inl h)
    · exact .inr (.inr ⟨i, back i a h⟩)
  have k : Keep (Oof c σ s pend) H (Oof c σ' s' pend) H := Keep.less oo
  refine ⟨by rw [hl, hl2, R.len], fun j d h => ?_, fun j d h => ?_, fun e h => (R.pd e h).mono k fun _ _ _ => rfl, fun i j p h1 h2 => R.inj i j p (back _ _ h1) (back _ _ h2), R.ndp, fun i p h => R.sep i p (back _ _ h), fun a h => ?_, R.frame, R.o0, fun p h => ?_, R.io0, fun j d h => ?_, R.tabs⟩
  · rcases hs j with z | ⟨z1, z2⟩
    · rw [z] at h; cases h
    · obtain ⟨v, e, r⟩ := R.pl j d (z1 ▸ h)
      exact ⟨v, z2 ▸ e, r.mono k⟩
  · rcases hs j with z | ⟨z1, z2⟩
    · rw [z] at h; cases h
    · obtain ⟨v, e, r⟩ := R.ow j d (z1 ▸ h)
      exact ⟨v, z2 ▸ e, r.mono k rfl⟩
  · rcases h with h | ⟨i, h⟩
    · exact R.new a (.inl h)
    · exact R.new a (.inr ⟨i, back _ _ h⟩)
  · obtain ⟨h1, d, h2⟩ := R.iok p h
    rcases hs 0 with z | ⟨z1, z2⟩
    · exact absurd z (hio p h)
    · exact ⟨z2 ▸ h1, d, z1 ▸ h2⟩
  · rcases hs j with z | ⟨z1, z2⟩
    · rw [z] at h; cases h
    · obtain ⟨v, e, r⟩ := R.vw j d (z1 ▸ h)
      exact ⟨v, z2 ▸ e, r.mono k (fun _ _ _ _ => rfl) fun _ r => r.nt⟩
/-- the slot i holds the plain value that stood aside -/
theorem Rel.set (R : Rel c σ H s ((v, false, d) :: pend)) (hi : i ≠ 0 ∨ c.io = none) : Rel c (σ.set i (some v)) H (s.set i (.pl d)) pend := by
  have hv := R.head
  replace R := R.drop
  have back : ∀ j p, OwAt (σ.set i (some v)) (s.set i (.pl d)) j p → OwAt σ s j p := fun j p h => by
    rcases owat_set h with ⟨_, h⟩ | ⟨_, _, d', e⟩
    · exact h
    · cases e
  have oo : ∀ a, Oof c (σ.set i (some v)) (s.set i (.pl d)) pend a → Oof c σ s pend a := fun a h => by
    rcases h with h | h | ⟨i, h⟩
    · exact .inl h
    · exact .inr (.inl h)
    · exact .inr (.inr ⟨i, back i a h⟩)
  have k : Keep (Oof c σ s pend) H (Oof c (σ.set i (some v)) (s.set i (.pl d)) pend) H := Keep.less oo
  refine ⟨by simp [R.len], fun j d1 h => ?_, fun j d1 h => ?_, fun e h => (R.pd e h).mono k fun _ _ _ => rfl, fun i j p h1 h2 => R.inj i j p (back _ _ h1) (back _ _ h2), R.ndp, fun i p h => R.sep i p (back _ _ h), fun a h => ?_, R.frame, R.o0, fun p h => ?_, R.io0, fun j d1 h => ?_, R.tabs⟩
  · rcases set_cases h with ⟨e1, e2, e3⟩ | ⟨e1, e2⟩
    · cases e2
      subst e1
      refine ⟨v, ?_, hv.mono k⟩
      rw [List.getElem?_set_self (by rw [R.len]; exact e3)]
    · obtain ⟨w, e, r⟩ := R.pl j d1 e2
      refine ⟨w, ?_, r.mono k⟩
      rw [List.getElem?_set_ne (Ne.symm e1)]; exact e
  · rcases set_cases h with ⟨e1, e2, e3⟩ | ⟨e1, e2⟩
    · cases e2
    · obtain ⟨w, e, r⟩ := R.ow j d1 e2
      refine ⟨w, ?_, r.mono k rfl⟩
      rw [List.getElem?_set_ne (Ne.symm e1)]; exact e
  · rcases h with h | ⟨i, h⟩
    · exact R.new a (.inl h)
    · exact R.new a (.inr ⟨i, back _ _ h⟩)
  · rcases hi with hi | hi
    · obtain ⟨h1, d', h2⟩ := R.iok p h
      exact ⟨by rw [List.getElem?_set_ne hi]; exact h1, d', by rw [List.getElem?_set_ne hi]; exact h2⟩
    · rw [hi] at h; cases h
  · rcases set_cases h with ⟨e1, e2, e3⟩ | ⟨e1, e2⟩
    · cases e2
    · obtain ⟨w, e, r⟩ := R.vw j d1 e2
      refine ⟨w, ?_, r.mono k (fun _ _ _ _ => rfl) fun _ r => r.nt⟩
      rw [List.getElem?_set_ne (Ne.symm e1)]; exact e
/-- the slot i owns what stood aside and is owned -/
theorem Rel.setO (R : Rel c σ H s ((v, true, d) :: pend)) (hi : i ≠ 0 ∨ c.io = none) : Rel c (σ.set i (some v)) H (s.set i (.ow d)) pend := by
  obtain ⟨p, e, r⟩ := R.pd _ List.mem_cons_self
  subst e
  have h1 : p ∉ ownP pend := (List.nodup_cons.mp R.ndp).1
  have h2 : ∀ i, ¬ OwAt σ s i p := fun i q => R.sep i p q List.mem_cons_self
  have back : ∀ j q, OwAt (σ.set i (some (.ref p))) (s.set i (.ow d)) j q → (j ≠ i ∧ OwAt σ s j q) ∨ (j = i ∧ q = p) := fun j q h => by
    rcases owat_set h with h1 | ⟨h1, e, _⟩
    · exact .inl h1
    · cases e; exact .inr ⟨h1, rfl⟩
  have oo : ∀ a, Oof c (σ.set i (some (.ref p))) (s.set i (.ow d)) pend a → Oof c σ s ((.ref p, true, d) :: pend) a := fun a h => by
    rcases h with h | h | ⟨i, h⟩
    · exact .inl h
    · exact .inr (.inl (List.mem_cons_of_mem _ h))
    · rcases back i a h with ⟨_, h⟩ | ⟨_, h⟩
      · exact .inr (.inr ⟨i, h⟩)
      · subst h; exact .inr (.inl List.mem_cons_self)
  have k : Keep (Oof c σ s ((.ref p, true, d) :: pend)) H (Oof c (σ.set i (some (.ref p))) (s.set i (.ow d)) pend) H := Keep.less oo
  refine ⟨by simp [R.len], fun j d1 h => ?_, fun j d1 h => ?_, fun e h => (R.pd e (List.mem_cons_of_mem _ h)).mono k fun _ _ _ => rfl, fun i' j q h3 h4 => ?_, (List.nodup_cons.mp R.ndp).2, fun i' q h => ?_, fun a h => ?_, R.frame, R.o0, fun q h => ?_, R.io0, fun j d1 h => ?_, R.tabs⟩
  · rcases set_cases h with ⟨e1, e2, e3⟩ | ⟨e1, e2⟩
    · cases e2
    · obtain ⟨w, e, r⟩ := R.pl j d1 e2
      refine ⟨w, ?_, r.mono k⟩
      rw [List.getElem?_set_ne (Ne.symm e1)]; exact e
  · rcases set_cases h with ⟨e1, e2, e3⟩ | ⟨e1, e2⟩
    · cases e2
      subst e1
      refine ⟨p, ?_, r.mono k rfl⟩
      rw [List.getElem?_set_self (by rw [R.len]; exact e3)]
    · obtain ⟨w, e, r⟩ := R.ow j d1 e2
      refine ⟨w, ?_, r.mono k rfl⟩
      rw [List.getElem?_set_ne (Ne.symm e1)]; exact e
  · rcases back _ _ h3 with ⟨_, q1⟩ | ⟨q1, q2⟩
    · rcases back _ _ h4 with ⟨_, q3⟩ | ⟨q3, q4⟩
      · exact R.inj _ _ _ q1 q3
      · subst q4; exact absurd q1 (h2 _)
    · rcases back _ _ h4 with ⟨_, q3⟩ | ⟨q3, q4⟩
      · subst q2; exact absurd q3 (h2 _)
      · rw [q1, q3]
  · rcases back _ _ h with ⟨_, h⟩ | ⟨_, h⟩
    · exact fun z => R.sep i' q h (List.mem_cons_of_mem _ z)
    · subst h; exact h1
  · rcases h with h | ⟨i', h⟩
    · exact R.new a (.inl (List.mem_cons_of_mem _ h))
    · rcases back _ _ h with ⟨_, h⟩ | ⟨_, h⟩
      · exact R.new a (.inr ⟨i', h⟩)
      · subst h; exact R.new a (.inl List.mem_cons_self)
  · rcases hi with hi | hi
    · obtain ⟨h1, d', h2⟩ := R.iok q h
      exact ⟨by rw [List.getElem?_set_ne hi]; exact h1, d', by rw [List.getElem?_set_ne hi]; exact h2⟩
    · rw [hi] at h; cases h
  · rcases set_cases h with ⟨e1, e2, e3⟩ | ⟨e1, e2⟩
    · cases e2
    · obtain ⟨w, e, r⟩ := R.vw j d1 e2
      refine ⟨w, ?_, r.mono k (fun _ _ _ _ => rfl) fun _ r => r.nt⟩
      rw [List.getElem?_set_ne (Ne.symm e1)]; exact e
/-- the slot i gives away what it owns -/
theorem Rel.relS (R : Rel c σ H s pend) (hs : s[i]? = some (Sl.ow d)) (hi : i ≠ 0 ∨ c.io = none) : Rel c σ H (s.set i (.pl d)) pend ∧ ∃ p, σ[i]? = some (some (V.ref p)) ∧ Rep c.K (Oof c σ (s.set i (.pl d)) pend) H d (.ref p) := by
  obtain ⟨p, e, r⟩ := R.ow i d hs
  have hp : OwAt σ s i p := ⟨e, d, hs⟩
  have back : ∀ j p, OwAt σ (s.set i (.pl d)) j p → j ≠ i ∧ OwAt σ s j p := fun j p h => by
    rcases owat_set' h with h | ⟨_, _, d', e⟩
    · exact h
    · cases e
  have oo : ∀ a, Oof c σ (s.set i (.pl d)) pend a → Oof c σ s pend a := fun a h => by
    rcases h with h | h | ⟨i, h⟩
    · exact .inl h
    · exact .inr (.inl h)
    · exact .inr (.inr ⟨i, (back i a h).2⟩)
  have k : Keep (Oof c σ s pend) H (Oof c σ (s.set i (.pl d)) pend) H := Keep.less oo
  have hr : Rep c.K (Oof c σ (s.set i (.pl d)) pend) H d (.ref p) := by
    refine r.rep k fun q => ?_
    rcases q with q | q | ⟨j, q⟩
    · rcases R.new p (.inr ⟨i, hp⟩) with z | z
      · exact R.o0 p q z
      · rcases hi with hi | hi
        · exact hi (R.inj i 0 p hp (R.iok p z))
        · rw [hi] at z; cases z
    · exact R.sep i p hp q
    · obtain ⟨q1, q2⟩ := back j p q
      exact q1 (R.inj j i p q2 hp)
  refine ⟨⟨by simp [R.len], fun j d1 h => ?_, fun j d1 h => ?_, fun e h => (R.pd e h).mono k fun _ _ _ => rfl, fun i j p h1 h2 => R.inj i j p (back _ _ h1).2 (back _ _ h2).2, R.ndp, fun i p h => R.sep i p (back _ _ h).2, fun a h => ?_, R.frame, R.o0, fun p h => ?_, R.io0, fun j d1 h => ?_, R.tabs⟩, p, e, hr⟩
  · rcases set_cases h with ⟨e1, e2, e3⟩ | ⟨e1, e2⟩
    · cases e2
      subst e1
      exact ⟨_, e, hr⟩
    · obtain ⟨w, e, r⟩ := R.pl j d1 e2
      exact ⟨w, e, r.mono k⟩
  · rcases set_cases h with ⟨e1, e2, e3⟩ | ⟨e1, e2⟩
    · cases e2
    · obtain ⟨w, e, r⟩ := R.ow j d1 e2
      exact ⟨w, e, r.mono k rfl⟩
  · rcases h with h | ⟨i, h⟩
    · exact R.new a (.inl h)
    · exact R.new a (.inr ⟨i, (back _ _ h).2⟩)
  · rcases hi with hi | hi
    · obtain ⟨h1, d', h2⟩ := R.iok p h
      exact ⟨h1, d', by rw [List.getElem?_set_ne hi]; exact h2⟩
    · rw [hi] at h; cases h
  · rcases set_cases h with ⟨e1, e2, e3⟩ | ⟨e1, e2⟩
    · cases e2
    · obtain ⟨w, e, r⟩ := R.vw j d1 e2
      exact ⟨w, e, r.mono k (fun _ _ _ _ => rfl) fun _ r => r.nt⟩
/-- the object that slot i owns is changed -/
theorem Rel.writeS {o : HO} (R : Rel c σ H s pend) (hs : s[i]? = some (Sl.ow d)) (hp : σ[i]? = some (some (V.ref p))) (h : ∀ H' : Hp, Keep (Oof c σ s pend) H (Oof c σ s pend) H' → H' p = some o → OwnRep c.K (Oof c σ s pend) H' p d') :
    Rel c σ (upd H p o) (s.set i (.ow d')) pend := by
  have hO : OwAt σ s i p := ⟨hp, d, hs⟩
  have hPo : Oof c σ s pend p := .inr (.inr ⟨i, hO⟩)
  have sl : i < s.length := (List.getElem?_eq_some_iff.mp hs).1
  have ow : ∀ j q, OwAt σ (s.set i (.ow d')) j q ↔ OwAt σ s j q := fun j q => by
    constructor
    · intro h
      rcases owat_set' h with ⟨_, h⟩ | ⟨e, h, _⟩
      · exact h
      · subst e; exact ⟨h, d, hs⟩
    · intro ⟨h1, d1, h2⟩
      by_cases e : j = i
      · subst e; exact ⟨h1, d', by rw [List.getElem?_set_self sl]⟩
      · exact ⟨h1, d1, by rw [List.getElem?_set_ne (Ne.symm e)]; exact h2⟩
  have oo : Oof c σ (s.set i (.ow d')) pend = Oof c σ s pend := by
    funext a
    unfold Oof Own
    simp only [ow]
  have k : Keep (Oof c σ s pend) H (Oof c σ s pend) (upd H p o) := fun a u n e _ => ⟨n, by
    rw [upd_ne (fun z => n (by rw [z]; exact hPo))]; exact e⟩
  refine ⟨by simp [R.len], fun j d1 h1 => ?_, fun j d1 h1 => ?_, fun e he => ?_, fun i j q h1 h2 => R.inj i j q ((ow _ _).mp h1) ((ow _ _).mp h2), R.ndp, fun i q h => R.sep i q ((ow _ _).mp h), fun a h => ?_, fun b u hb n => ?_, R.o0, fun q h => (ow _ _).mpr (R.iok q h), R.io0, fun j d1 h1 => ?_, (let ⟨u, hu, nu⟩ := R.trackedN (.inr ⟨i, hO⟩); tbs_but hu nu (fun b w e z => by rw [upd_ne z]; exact e) R.tabs)⟩
  · rw [oo]
    rcases set_cases h1 with ⟨e1, e2, e3⟩ | ⟨e1, e2⟩
    · cases e2
    · obtain ⟨w, e, r⟩ := R.pl j d1 e2
      exact ⟨w, e, r.mono k⟩
  · rw [oo]
    rcases set_cases h1 with ⟨e1, e2, e3⟩ | ⟨e1, e2⟩
    · cases e2
      subst e1
      exact ⟨p, hp, h _ k upd_same⟩
    · obtain ⟨q, e, r⟩ := R.ow j d1 e2
      exact ⟨q, e, r.mono k (upd_ne fun z => e1 (R.inj j i p (z ▸ ⟨e, d1, e2⟩) hO))⟩
  · rw [oo]
    exact (R.pd e he).mono k fun q d e2 => upd_ne fun z => R.sep i p hO (z ▸ mem_ownP_of (e2 ▸ he))
  · rcases h with h | ⟨i, h⟩
    · exact R.new a (.inl h)
    · exact R.new a (.inr ⟨i, (ow _ _).mp h⟩)
  · have z : b ≠ p := fun z => by
      subst z
      rcases R.new b (.inr ⟨i, hO⟩) with w | w
      · rw [w] at hb; cases hb
      · exact n w
    rw [upd_ne z]
    exact R.frame b u hb n
  · rw [oo]
    rcases set_cases h1 with ⟨e1, e2, e3⟩ | ⟨e1, e2⟩
    · cases e2
    · obtain ⟨w, e, r⟩ := R.vw j d1 e2
      refine ⟨w, e, r.mono k (fun q h0 hio _ => upd_ne fun z => ?_) fun _ r => r.nt⟩
      subst z
      rcases R.new q (.inr ⟨i, hO⟩) with w | w
      · exact h0 w
      · exact hio w
/-- the owned object aside is changed -/
theorem Rel.writeP {o : HO} (R : Rel c σ H s ((.ref p, true, d) :: pend)) (h : ∀ H' : Hp, Keep (Oof c σ s ((.ref p, true, d) :: pend)) H (Oof c σ s ((.ref p, true, d) :: pend)) H' → H' p = some o → OwnRep c.K (Oof c σ s ((.ref p, true, d) :: pend)) H' p d') :
    Rel c σ (upd H p o) s ((.ref p, true, d') :: pend) := by
  have hPo : Oof c σ s ((.ref p, true, d) :: pend) p := .inr (.inl List.mem_cons_self)
  have oo : Oof c σ s ((.ref p, true, d') :: pend) = Oof c σ s ((.ref p, true, d) :: pend) := rfl
  have k : Keep (Oof c σ s ((.ref p, true, d) :: pend)) H (Oof c σ s ((.ref p, true, d) :: pend)) (upd H p o) := fun a u n e _ => ⟨n, by
    rw [upd_ne (fun z => n (by rw [z]; exact hPo))]; exact e⟩
  have h1 : p ∉ ownP pend := (List.nodup_cons.mp R.ndp).1
  refine ⟨R.len, fun j d1 h2 => ?_, fun j d1 h2 => ?_, fun e he => ?_, R.inj, R.ndp, R.sep, R.new, fun b u hb n => ?_, R.o0, R.iok, R.io0, fun j d1 h1 => ?_, (let ⟨u, hu, nu⟩ := R.trackedN (.inl List.mem_cons_self); tbs_but hu nu (fun b w e z => by rw [upd_ne z]; exact e) R.tabs)⟩
  · rw [oo]
    obtain ⟨w, e, r⟩ := R.pl j d1 h2
    exact ⟨w, e, r.mono k⟩
  · rw [oo]
    obtain ⟨q, e, r⟩ := R.ow j d1 h2
    exact ⟨q, e, r.mono k (upd_ne fun z => R.sep j q ⟨e, d1, h2⟩ (z ▸ List.mem_cons_self))⟩
  · rw [oo]
    rcases List.mem_cons.mp he with z | z
    · subst z
      exact ⟨p, rfl, h _ k upd_same⟩
    · exact (R.pd e (List.mem_cons_of_mem _ z)).mono k fun q d e2 => upd_ne fun w => h1 (w ▸ mem_ownP_of (e2 ▸ z))
  · have z : b ≠ p := fun z => by
      subst z
      rcases R.new b (.inl List.mem_cons_self) with w | w
      · rw [w] at hb; cases hb
      · exact R.sep 0 b (R.iok b w) List.mem_cons_self
    rw [upd_ne z]
    exact R.frame b u hb n
  · rw [oo]
    obtain ⟨w, e, r⟩ := R.vw j d1 h1
    refine ⟨w, e, r.mono k (fun q h0 hio _ => upd_ne fun z => ?_) fun _ r => r.nt⟩
    subst z
    rcases R.new q (.inl List.mem_cons_self) with w | w
    · exact h0 w
    · exact hio w
/-- a new object below the head -/
theorem Rel.plainSlot (R : Rel c σ H s pend) (hs : s[i]? = some (Sl.pl d)) : ∃ v, σ[i]? = some (some v) ∧ Rel c σ H s ((v, false, d) :: pend) := by
  obtain ⟨v, e, r⟩ := R.pl i d hs
  exact ⟨v, e, R.push r⟩
/-- another value leaning on what the head leans on -/
theorem Rel.headTo {w : V} (R : Rel c σ H s ((v, false, d) :: pend)) (h : ∀ O : Addr → Prop, Rep c.K O H d v → Rep c.K O H d' w) : Rel c σ H s ((w, false, d') :: pend) :=
  R.drop.push (h _ R.head)
end
end DL

set_option Elab.async false
set_option linter.all false
set_option autoImplicit false
set_option maxRecDepth 100000
namespace DL
variable [TQ]
open PySem PySem.Spec PyProof.Rows L2

/-! ### computations over data -/
structure Ex where
  name : Str
  args : List D
inductive Ores (α : Type) where
  | bad | ok (a : α) (s : DS) | ex (e : Ex) (s : DS)
abbrev M (α : Type) := DS → Ores α
def Ores.bind {α β : Type} (o : Ores α) (f : α → DS → Ores β) : Ores β :=
  match o with
  | .bad => .bad
  | .ok a s => f a s
  | .ex e s => .ex e s
@[simp] theorem Ores.bind_ok {α β : Type} (a : α) (s : DS) (f : α → DS → Ores β) : (Ores.ok a s).bind f = f a s := rfl
@[simp] theorem Ores.bind_bad {α β : Type} (f : α → DS → Ores β) : (Ores.bad : Ores α).bind f = .bad := rfl
@[simp] theorem Ores.bind_ex {α β : Type} (e : Ex) (s : DS) (f : α → DS → Ores β) : (Ores.ex e s : Ores α).bind f = .ex e s := rfl
def lift {α : Type} (o : Option α) (s : DS) : Ores α :=
  match o with
  | some a => .ok a s
  | none => .bad
@[simp] theorem lift_some {α : Type} (a : α) (s : DS) : lift (some a) s = .ok a s := rfl
@[simp] theorem lift_none {α : Type} (s : DS) : lift (none : Option α) s = .bad := rfl
/-- a test that nobody works out: the kernel is never led into its numbers -/
noncomputable def cI (p : Prop) : Decidable p := Classical.propDecidable p
noncomputable def dB (p : Prop) : Bool := @decide p (cI p)
theorem dB_eq (p : Prop) [Decidable p] : dB p = decide p := by
  unfold dB
  by_cases h : p
  · rw [decide_eq_true h, @decide_eq_true p (cI p) h]
  · rw [decide_eq_false h, @decide_eq_false p (cI p) h]
theorem dB_true {p : Prop} : dB p = true ↔ p := @decide_eq_true_iff p (cI p)
theorem dB_t {p : Prop} (h : p) : dB p = true := dB_true.mpr h
theorem dB_f {p : Prop} (h : ¬ p) : dB p = false := @decide_eq_false p (cI p) h
abbrev XW := Ex → DS → Prop
def OG {α : Type} (W : XW) (P : α → DS → Prop) : Ores α → Prop
  | .bad => False
  | .ok a s => P a s
  | .ex e s => W e s
theorem OG.bind {α β : Type} {W : XW} {P : β → DS → Prop} {o : Ores α} {f : α → DS → Ores β} (h : OG W P (o.bind f)) : OG W (fun a s => OG W P (f a s)) o := by
  cases o <;> exact h
theorem OG.mono {α : Type} {W : XW} {P P' : α → DS → Prop} {o : Ores α} (h : OG W P o) (m : ∀ a s, P a s → P' a s) : OG W P' o := by
  cases o with
  | bad => exact h
  | ok a s => exact m a s h
  | ex e s => exact h
theorem OG.lift {α : Type} {W : XW} {P : α → DS → Prop} {o : Option α} {s : DS} (h : OG W P (lift o s)) : ∃ a, o = some a ∧ P a s := by
  cases o with
  | none => exact h.elim
  | some a => exact ⟨a, rfl, h⟩
abbrev Ctx.at (c : Ctx) (K : PySem.W.Frag) : Ctx := { c with K := K }

/-- the readings of computations -/
def T (c : Ctx) (W : XW) (m : M D) : TE := fun σ H Q => ∃ s pend, Rel c σ H s pend ∧ OG W (fun d s' => ∀ v H', Rel c σ H' s' ((v, false, d) :: pend) → Q v H') (m s)
def TF (c : Ctx) (W : XW) (m : M D) : TE := fun σ H Q => ∃ s pend, Rel c σ H s pend ∧ OG W (fun d s' => ∀ v H', Rel c σ H' s' ((v, true, d) :: pend) → Q v H') (m s)
def TB (c : Ctx) (W : XW) (m : M Bool) : TT := fun σ H Q => ∃ s pend, Rel c σ H s pend ∧ OG W (fun b s' => ∀ H', Rel c σ H' s' pend → Q b H') (m s)
def PX (c : Ctx) (W : XW) (X : Cx) (e : Expr) (m : M D) : Prop := PE X e (T (c.at X.K) W m)
def PXF (c : Ctx) (W : XW) (X : Cx) (e : Expr) (m : M D) : Prop := PE X e (TF (c.at X.K) W m)
def PXT (c : Ctx) (W : XW) (X : Cx) (e : Expr) (m : M Bool) : Prop := PT X e (TB (c.at X.K) W m)

theorem PEimp {X : Cx} {e : Expr} {t t' : TE} (h : PE X e t) (i : ∀ σ H Q, t' σ H Q → t σ H Q) : PE X e t' := ⟨fun pins s σ H Q I q => h.run pins s σ H Q I (i σ H Q q)⟩
theorem PTimp {X : Cx} {e : Expr} {t t' : TT} (h : PT X e t) (i : ∀ σ H Q, t' σ H Q → t σ H Q) : PT X e t' := ⟨fun pins s σ H Q I q => h.run pins s σ H Q I (i σ H Q q)⟩
theorem PWimp {X : Cx} {e : Expr} {t t' : TT} (h : PW X e t) (i : ∀ σ H Q, t' σ H Q → t σ H Q) : PW X e t' := ⟨fun wh pins s σ H Q I q => h.run wh pins s σ H Q I (i σ H Q q)⟩
theorem PAimp {X : Cx} {e : List Expr} {t t' : TA} (h : PA X e t) (i : ∀ σ H Q, t' σ H Q → t σ H Q) : PA X e t' := ⟨fun pos pins s σ H Q I q => h.run pos pins s σ H Q I (i σ H Q q)⟩
theorem PSimp {X : Cx} {e : Stmt} {t t' : TS} (h : PS X e t) (i : ∀ D σ H, t' D σ H → t D σ H) : PS X e t' := ⟨fun pins s σ H D I q => h.run pins s σ H D I (i D σ H q)⟩
theorem PSsimp {X : Cx} {e : List Stmt} {t t' : TS} (h : PSs X e t) (i : ∀ D σ H, t' D σ H → t D σ H) : PSs X e t' := ⟨fun pins s σ H D I q => h.run pins s σ H D I (i D σ H q)⟩

section
variable {c : Ctx} {W : XW} {X : Cx} {e a b : Expr} {m ma mb : M D} {pos : Pos} {x : Str} {i : Nat}
theorem PXF.px (h : PXF c W X e m) : PX c W X e m := PEimp h fun σ H Q ⟨s, pend, R, q⟩ => ⟨s, pend, R, q.mono fun d s' q v H' R' => q v H' R'.relP⟩

/-! ### names and constants -/
def mVar (i : Nat) : M D := fun s =>
  match s[i]? with
  | some (.pl d) => .ok d s
  | some (.ow d) => .ok d (s.set i (.pl d))
  | _ => .bad
theorem px_var (h : PE X e (tVar i)) (hi : i ≠ 0 ∨ c.io = none) : PX c W X e (mVar i) := PEimp h fun σ H Q ⟨s, pend, R, q⟩ => by
  unfold mVar at q
  split at q
  · rename_i d hs
    obtain ⟨v, ev, R'⟩ := R.plainSlot hs
    exact ⟨v, ev, q v H R'⟩
  · rename_i d hs
    obtain ⟨R', p, ev, r⟩ := R.relS hs hi
    exact ⟨_, ev, q _ H (R'.push r)⟩
  · exact q.elim
/-- a name of a plain value alone -/
def mVarP (i : Nat) : M D := fun s =>
  match s[i]? with
  | some (.pl d) => .ok d s
  | _ => .bad
theorem px_varP (h : PE X e (tVar i)) : PX c W X e (mVarP i) := PEimp h fun σ H Q ⟨s, pend, R, q⟩ => by
  unfold mVarP at q
  split at q
  · rename_i d hs
    obtain ⟨v, ev, R'⟩ := R.plainSlot hs
    exact ⟨v, ev, q v H R'⟩
  · exact q.elim
def mC (d : D) : M D := fun s => .ok d s
theorem px_c {d : D} {v : V} (h : PE X e (tC v)) (hv : ∀ K O H, Rep K O H d v) : PX c W X e (mC d) := PEimp h fun σ H Q ⟨s, pend, R, q⟩ => q v H (R.push (hv _ _ _))
theorem px_int {k : Int} {j} : PX c W X (.Constant (.int k) j pos) (mC (.int k)) := px_c pe_int fun _ _ _ => by simp only [Rep]
theorem px_bl {k : Bool} {j} : PX c W X (.Constant (.bool k) j pos) (mC (.bl k)) := px_c pe_bl fun _ _ _ => by simp only [Rep]
theorem px_non {j} : PX c W X (.Constant .none j pos) (mC .non) := px_c pe_non fun _ _ _ => by simp only [Rep]
theorem px_str {k : Str} {j} : PX c W X (.Constant (.str k) j pos) (mC (.str k)) := px_c pe_str fun _ _ _ => by simp only [Rep]

/-! ### operands: a computed value, or the name of a slot that is looked at -/
inductive Arg where
  | v (m : M D) | r (i : Nat)
inductive AV where
  | d (d : D) | s (i : Nat)
def slotD : Option Sl → Option D
  | some (.pl d) => some d
  | some (.ow d) => some d
  | some (.vw d) => some d
  | _ => none
@[simp] theorem slotD_vw (d : D) : slotD (some (.vw d)) = some d := rfl
@[simp] theorem slotD_pl (d : D) : slotD (some (.pl d)) = some d := rfl
@[simp] theorem slotD_ow (d : D) : slotD (some (.ow d)) = some d := rfl
@[simp] theorem slotD_no : slotD (some .no) = none := rfl
@[simp] theorem slotD_none : slotD none = none := rfl
def aEv : Arg → M AV
  | .v m => fun s => (m s).bind fun d s => .ok (.d d) s
  | .r i => fun s => if (slotD s[i]?).isSome then .ok (.s i) s else .bad
def aGet : AV → DS → Option D
  | .d d, _ => some d
  | .s i, s => slotD s[i]?
def aPend : AV → V → List PEnt → List PEnt
  | .d d, x, p => (x, false, d) :: p
  | .s _, _, p => p
def aSl : AV → V → L2.St → Prop
  | .d _, _, _ => True
  | .s i, x, σ => σ[i]? = some (some x)
def TAg (c : Ctx) (W : XW) (a : Arg) : TE := fun σ H Q => ∃ s pend, Rel c σ H s pend ∧ OG W (fun av s' => ∀ x H', aSl av x σ → Rel c σ H' s' (aPend av x pend) → Q x H') (aEv a s)
def PAg (c : Ctx) (W : XW) (X : Cx) (e : Expr) (a : Arg) : Prop := PE X e (TAg (c.at X.K) W a)
theorem pg_v (h : PX c W X e m) : PAg c W X e (.v m) := PEimp h fun σ H Q ⟨s, pend, R, q⟩ => ⟨s, pend, R, q.bind.mono fun d s' q v H' R' => q v H' trivial R'⟩
theorem pg_r (h : PE X e (tVar i)) : PAg c W X e (.r i) := PEimp h fun σ H Q ⟨s, pend, R, q⟩ => by
  have e0 : aEv (.r i) s = if (slotD s[i]?).isSome then Ores.ok (.s i) s else .bad := rfl
  rw [e0] at q
  by_cases hs : (slotD s[i]?).isSome = true
  · rw [if_pos hs] at q
    obtain ⟨v, ev⟩ : ∃ v, σ[i]? = some (some v) := by
      cases e : s[i]? with
      | none => rw [e] at hs; cases hs
      | some sl =>
        cases sl with
        | no => rw [e] at hs; cases hs
        | pl d => obtain ⟨v, ev, _⟩ := R.pl i d e; exact ⟨v, ev⟩
        | ow d => obtain ⟨v, ev, _⟩ := R.ow i d e; exact ⟨_, ev⟩
        | vw d => obtain ⟨v, ev, _⟩ := R.vw i d e; exact ⟨_, ev⟩
    exact ⟨v, ev, q v H ev R⟩
  · rw [if_neg hs] at q
    exact q.elim
/-- what is seen at a value -/
def Vw (K : PySem.W.Frag) (O : Addr → Prop) (H : Hp) (d : D) (v : V) : Prop := Rep K O H d v ∨ ∃ p, v = .ref p ∧ OwnRep K O H p d
theorem Rel.viewP {σ : L2.St} {H : Hp} {s : DS} {pend : List PEnt} {v : V} {d : D} (R : Rel c σ H s pend) (h : (v, false, d) ∈ pend) : Vw c.K (Oof c σ s pend) H d v := .inl (R.pd _ h)
theorem Rel.viewS {σ : L2.St} {H : Hp} {s : DS} {pend : List PEnt} {v : V} {d : D} (R : Rel c σ H s pend) (h : slotD s[i]? = some d) (e : σ[i]? = some (some v)) : Vw c.K (Oof c σ s pend) H d v := by
  cases es : s[i]? with
  | none => rw [es] at h; cases h
  | some sl =>
    rw [es] at h
    cases sl with
    | no => cases h
    | pl d' =>
      cases h
      obtain ⟨w, e', r⟩ := R.pl i _ es
      rw [e] at e'; cases e'
      exact .inl r
    | ow d' =>
      cases h
      obtain ⟨p, e', r⟩ := R.ow i _ es
      rw [e] at e'; cases e'
      exact .inr ⟨p, rfl, r⟩
    | vw d' =>
      cases h
      obtain ⟨p, e', r⟩ := R.vw i _ es
      rw [e] at e'; cases e'
      rcases r with r | ⟨q, e2, _, _, r⟩
      · exact .inl r
      · exact .inr ⟨q, e2, r⟩
theorem Rel.viewA {σ : L2.St} {H : Hp} {s : DS} {pend : List PEnt} {x : V} {d : D} {av : AV} (R : Rel c σ H s pend) (h : aGet av s = some d) (e : aSl av x σ) (hm : ∀ e, e ∈ aPend av x [] → e ∈ pend) : Vw c.K (Oof c σ s pend) H d x := by
  cases av with
  | d d' =>
    cases h
    exact R.viewP (hm _ List.mem_cons_self)
  | s i => exact R.viewS h e
theorem Rel.dropA {σ : L2.St} {H : Hp} {s : DS} {pend : List PEnt} {x : V} {av : AV} {v : V} {d : D} (R : Rel c σ H s ((v, false, d) :: aPend av x pend)) : Rel c σ H s ((v, false, d) :: pend) := by
  cases av with
  | d d' => exact R.under
  | s i => exact R
theorem mem_aPend1 {av : AV} {x : V} {pend : List PEnt} : ∀ e, e ∈ aPend av x [] → e ∈ aPend av x pend := by
  intro e h
  cases av with
  | d d' =>
    rcases List.mem_cons.mp h with z | z
    · subst z; exact List.mem_cons_self
    · cases z
  | s i => cases h
theorem mem_aPend2 {av : AV} {x : V} {pend : List PEnt} {e : PEnt} (h : e ∈ pend) : e ∈ aPend av x pend := by
  cases av with
  | d d' => exact List.mem_cons_of_mem _ h
  | s i => exact h

/-! ### two operands -/
def mOp2 (f : D → D → Option D) (a1 a2 : Arg) : M D := fun s => (aEv a1 s).bind fun r1 s => (aEv a2 s).bind fun r2 s => lift ((aGet r1 s).bind fun d1 => (aGet r2 s).bind fun d2 => f d1 d2) s
def OpD2 (K : PySem.W.Frag) (f : D → D → Option D) (r : R2) : Prop := ∀ (c : Ctx) (σ : L2.St) (H : Hp) (s : DS) (pend : List PEnt) (x y : V) (d1 d2 d : D) (Q : VK), c.K = K → Rel c σ H s pend → Vw K (Oof c σ s pend) H d1 x → Vw K (Oof c σ s pend) H d2 y → f d1 d2 = some d →
  (∀ v H', Rel c σ H' s ((v, false, d) :: pend) → Q v H') → r x y H Q
theorem T_op2 {r : R2} {f : D → D → Option D} {a1 a2 : Arg} {σ : L2.St} {H : Hp} {Q : VK} (hd : OpD2 c.K f r) (h : T c W (mOp2 f a1 a2) σ H Q) : tOp r (TAg c W a1) (TAg c W a2) σ H Q := by
  obtain ⟨s, pend, R, q⟩ := h
  refine ⟨s, pend, R, q.bind.mono fun r1 s1 q1 x H1 e1 R1 => ⟨s1, _, R1, q1.bind.mono fun r2 s2 q2 y H2 e2 R2 => ?_⟩⟩
  obtain ⟨d, hd', q3⟩ := q2.lift
  cases g1 : aGet r1 s2 with
  | none => rw [g1] at hd'; cases hd'
  | some d1 =>
    cases g2 : aGet r2 s2 with
    | none => rw [g1, g2] at hd'; cases hd'
    | some d2 =>
      rw [g1, g2] at hd'
      exact hd c σ H2 s2 _ x y d1 d2 d Q rfl R2 (R2.viewA g1 e1 fun e h => mem_aPend2 (mem_aPend1 e h)) (R2.viewA g2 e2 fun e h => mem_aPend1 e h) hd' fun v H' R' => q3 v H' R'.dropA.dropA
theorem px_bin {op : Operator} {r : R2} {f : D → D → Option D} {a1 a2 : Arg} (ho : OpR X (binaryOp op) r) (hd : OpD2 X.K f r) (ha : PAg c W X a a1) (hb : PAg c W X b a2) : PX c W X (.BinOp a op b pos) (mOp2 f a1 a2) :=
  PEimp (pe_op ho ha hb) fun σ H Q h => T_op2 (c := c.at X.K) hd h
theorem px_ix {r : R2} {f : D → D → Option D} {a1 a2 : Arg} (ho : IxR X r) (hd : OpD2 X.K f r) (ha : PAg c W X a a1) (hb : PAg c W X b a2) (hp : PlainIx b := by exact fun _ _ => rfl) : PX c W X (.Subscript a b pos) (mOp2 f a1 a2) :=
  PEimp (pe_ix ho ha hb hp) fun σ H Q h => T_op2 (c := c.at X.K) hd h
theorem px_cmp {op : CmpOp} {r : R2} {f : D → D → Option D} {a1 a2 : Arg} (ho : OpR X (compareOp op) r) (hd : OpD2 X.K f r) (ha : PAg c W X a a1) (hb : PAg c W X b a2) (hm : behindInMarks op b = false := by first | exact nomark _ | rfl) : PX c W X (.Compare a [op] [b] pos) (mOp2 f a1 a2) :=
  PEimp (pe_cmpR ho ha hb hm) fun σ H Q h => T_op2 (c := c.at X.K) hd h
/-- a comparison as a test -/
def mTest2 (f : D → D → Option Bool) (a1 a2 : Arg) : M Bool := fun s => (aEv a1 s).bind fun r1 s => (aEv a2 s).bind fun r2 s => lift ((aGet r1 s).bind fun d1 => (aGet r2 s).bind fun d2 => f d1 d2) s
def OpB2 (K : PySem.W.Frag) (f : D → D → Option Bool) (r : R2) : Prop := ∀ (O : Addr → Prop) (H : Hp) (x y : V) (d1 d2 : D) (b : Bool) (Q : VK), Vw K O H d1 x → Vw K O H d2 y → f d1 d2 = some b → Q (.bl b) H → r x y H Q
def oB (f : D → D → Option Bool) : D → D → Option D := fun x y => (f x y).map D.bl
theorem OpB2.d {K : PySem.W.Frag} {f : D → D → Option Bool} {r : R2} (h : OpB2 K f r) : OpD2 K (oB f) r := fun c σ H s pend x y d1 d2 d Q eK R v1 v2 e q => by
  subst eK
  unfold oB at e
  cases g : f d1 d2 with
  | none => rw [g] at e; cases e
  | some b =>
    rw [g] at e; cases e
    exact h _ H x y d1 d2 b Q v1 v2 g (q _ H (R.push (by simp only [Rep])))
theorem Rel.dropA0 {σ : L2.St} {H : Hp} {s : DS} {pend : List PEnt} {x : V} {av : AV} (R : Rel c σ H s (aPend av x pend)) : Rel c σ H s pend := by
  cases av with
  | d d' => exact R.drop
  | s i => exact R
theorem TB_test2 {r : R2} {f : D → D → Option Bool} {a1 a2 : Arg} {σ : L2.St} {H : Hp} {Q : Bool → Hp → Prop} (hd : OpB2 c.K f r) (h : TB c W (mTest2 f a1 a2) σ H Q) : tTest (tOp r (TAg c W a1) (TAg c W a2)) σ H Q := by
  obtain ⟨s, pend, R, q⟩ := h
  refine ⟨s, pend, R, q.bind.mono fun r1 s1 q1 x H1 e1 R1 => ⟨s1, _, R1, q1.bind.mono fun r2 s2 q2 y H2 e2 R2 => ?_⟩⟩
  obtain ⟨b, hd', q3⟩ := q2.lift
  cases g1 : aGet r1 s2 with
  | none => rw [g1] at hd'; cases hd'
  | some d1 =>
    cases g2 : aGet r2 s2 with
    | none => rw [g1, g2] at hd'; cases hd'
    | some d2 =>
      rw [g1, g2] at hd'
      exact hd _ H2 x y d1 d2 b _ (R2.viewA g1 e1 fun e h => mem_aPend2 (mem_aPend1 e h)) (R2.viewA g2 e2 fun e h => mem_aPend1 e h) hd' ⟨b, rfl, q3 H2 R2.dropA0.dropA0⟩
theorem pt_cmp2 {op : CmpOp} {r : R2} {f : D → D → Option Bool} {a1 a2 : Arg} (ho : OpR X (compareOp op) r) (hd : OpB2 X.K f r) (ha : PAg c W X a a1) (hb : PAg c W X b a2) (hm : behindInMarks op b = false := by first | exact nomark _ | rfl) : PXT c W X (.Compare a [op] [b] pos) (mTest2 f a1 a2) :=
  PTimp (pt_cmpR ho ha hb hm) fun σ H Q h => TB_test2 (c := c.at X.K) hd h

/-! ### one operand -/
def mOp1 (f : D → Option D) (a1 : Arg) : M D := fun s => (aEv a1 s).bind fun r1 s => lift ((aGet r1 s).bind f) s
def OpD1 (K : PySem.W.Frag) (f : D → Option D) (r : V → Hp → VK → Prop) : Prop := ∀ (c : Ctx) (σ : L2.St) (H : Hp) (s : DS) (pend : List PEnt) (x : V) (d1 d : D) (Q : VK), c.K = K → Rel c σ H s pend → Vw K (Oof c σ s pend) H d1 x → f d1 = some d →
  (∀ v H', Rel c σ H' s ((v, false, d) :: pend) → Q v H') → r x H Q
theorem T_op1 {r : V → Hp → VK → Prop} {f : D → Option D} {a1 : Arg} {σ : L2.St} {H : Hp} {Q : VK} (hd : OpD1 c.K f r) (h : T c W (mOp1 f a1) σ H Q) : TAg c W a1 σ H fun x H' => r x H' Q := by
  obtain ⟨s, pend, R, q⟩ := h
  refine ⟨s, pend, R, q.bind.mono fun r1 s1 q1 x H1 e1 R1 => ?_⟩
  obtain ⟨d, hd', q3⟩ := q1.lift
  cases g1 : aGet r1 s1 with
  | none => rw [g1] at hd'; cases hd'
  | some d1 =>
    rw [g1] at hd'
    exact hd c σ H1 s1 _ x d1 d Q rfl R1 (R1.viewA g1 e1 fun e h => mem_aPend1 e h) hd' fun v H' R' => q3 v H' R'.dropA
theorem px_un {op : UnaryOp} {r : V → Hp → VK → Prop} {f : D → Option D} {a1 : Arg} (ho : UnR X (unaryOp op) r) (hd : OpD1 X.K f r) (ha : PAg c W X a a1) : PX c W X (.UnaryOp op a pos) (mOp1 f a1) :=
  PEimp (pe_un ho ha) fun σ H Q h => T_op1 (c := c.at X.K) hd h
/-- f(e), f a built-in function, a built-in class -/
theorem px_b1 {id : String} {r : List V → Hp → VK → Prop} {f : D → Option D} {a1 : Arg} {p : Pos} (hc : CallR X (.builtin id) r) (hd : OpD1 X.K f fun x H Q => r [x] H Q) (hm : X.mg x = none) (hv : bootBuiltins x = some (.builtin id)) (ha : PAg c W X a a1)
    (hg : Gl X x := by rfl) (hn : x ≠ "__name__" := by decide) (hdb : (x == ("__debug__" : Str)) = false := by decide)
    (hs : starEach [a] X.env = (false, eval a X.env) :: starEach [] X.env := by rfl) (he : starEach [a] X.env = (false, eval a X.env) :: starEach [] X.env := by rfl) (hpl : (backTo pos (starEach [] X.env)).any (·.1) = false := by rfl) :
    PX c W X (.Call (.Name x p) [a] [] pos) (mOp1 f a1) :=
  PEimp (pe_callB hc hg hm hv (pa_cons ha pa_nil hs) hn hdb he hpl) fun σ H Q h => T_op1 (c := c.at X.K) (r := fun x H Q => r [x] H Q) hd h
theorem px_t1 {T : String} {r : List V → Hp → VK → Prop} {f : D → Option D} {a1 : Arg} {p : Pos} (hc : CallR X (.type T) r) (hd : OpD1 X.K f fun x H Q => r [x] H Q) (hm : X.mg x = none) (hv : bootBuiltins x = some (.type T)) (ha : PAg c W X a a1)
    (hg : Gl X x := by rfl) (hn : x ≠ "__name__" := by decide) (hdb : (x == ("__debug__" : Str)) = false := by decide)
    (hs : starEach [a] X.env = (false, eval a X.env) :: starEach [] X.env := by rfl) (he : starEach [a] X.env = (false, eval a X.env) :: starEach [] X.env := by rfl) (hpl : (backTo pos (starEach [] X.env)).any (·.1) = false := by rfl) :
    PX c W X (.Call (.Name x p) [a] [] pos) (mOp1 f a1) :=
  PEimp (pe_callTy hc hg hm hv (pa_cons ha pa_nil hs) hn hdb he hpl) fun σ H Q h => T_op1 (c := c.at X.K) (r := fun x H Q => r [x] H Q) hd h
theorem px_b2 {id : String} {r : List V → Hp → VK → Prop} {f : D → D → Option D} {a1 a2 : Arg} {p : Pos} (hc : CallR X (.builtin id) r) (hd : OpD2 X.K f fun x y H Q => r [x, y] H Q) (hm : X.mg x = none) (hv : bootBuiltins x = some (.builtin id)) (ha : PAg c W X a a1) (hb : PAg c W X b a2)
    (hg : Gl X x := by rfl) (hn : x ≠ "__name__" := by decide) (hdb : (x == ("__debug__" : Str)) = false := by decide)
    (hs2 : starEach [b] X.env = (false, eval b X.env) :: starEach [] X.env := by rfl) (hs : starEach [a, b] X.env = (false, eval a X.env) :: starEach [b] X.env := by rfl) (he : starEach [a, b] X.env = (false, eval a X.env) :: starEach [b] X.env := by rfl) (hpl : (backTo pos (starEach [b] X.env)).any (·.1) = false := by rfl) :
    PX c W X (.Call (.Name x p) [a, b] [] pos) (mOp2 f a1 a2) :=
  PEimp (pe_callB hc hg hm hv (pa_cons ha (pa_cons hb pa_nil hs2) hs) hn hdb he hpl) fun σ H Q h => T_op2 (c := c.at X.K) (r := fun x y H Q => r [x, y] H Q) hd h
/-- one operand, a new owned object -/
def OpF1 (K : PySem.W.Frag) (f : D → Option D) (r : V → Hp → VK → Prop) : Prop := ∀ (c : Ctx) (σ : L2.St) (H : Hp) (s : DS) (pend : List PEnt) (x : V) (d1 d : D) (Q : VK), c.K = K → Rel c σ H s pend → Vw K (Oof c σ s pend) H d1 x → f d1 = some d →
  (∀ v H', Rel c σ H' s ((v, true, d) :: pend) → Q v H') → r x H Q
theorem Rel.underT {σ : L2.St} {H : Hp} {s : DS} {pend : List PEnt} {v w : V} {d d' : D} (R : Rel c σ H s ((v, true, d) :: (w, false, d') :: pend)) : Rel c σ H s ((v, true, d) :: pend) := by
  have eo : ∀ a, Own σ s ((v, true, d) :: (w, false, d') :: pend) a ↔ Own σ s ((v, true, d) :: pend) a := fun a => by
    unfold Own
    cases v <;> simp only [ownP, ownP_false]
  have ep : ownP ((v, true, d) :: (w, false, d') :: pend) = ownP ((v, true, d) :: pend) := by
    cases v <;> simp only [ownP, ownP_false]
  have ee : Oof c σ s ((v, true, d) :: (w, false, d') :: pend) = Oof c σ s ((v, true, d) :: pend) := by
    funext a; unfold Oof; rw [propext (eo a)]
  refine ⟨R.len, by rw [← ee]; exact R.pl, by rw [← ee]; exact R.ow, fun e h => ?_, R.inj, by rw [← ep]; exact R.ndp, by rw [← ep]; exact R.sep, fun a h => R.new a ((eo a).mpr h), R.frame, R.o0, R.iok, R.io0, by rw [← ee]; exact R.vw, R.tabs⟩
  rw [← ee]
  refine R.pd e ?_
  rcases List.mem_cons.mp h with z | z
  · subst z; exact List.mem_cons_self
  · exact List.mem_cons_of_mem _ (List.mem_cons_of_mem _ z)
theorem Rel.dropAT {σ : L2.St} {H : Hp} {s : DS} {pend : List PEnt} {x : V} {av : AV} {v : V} {d : D} (R : Rel c σ H s ((v, true, d) :: aPend av x pend)) : Rel c σ H s ((v, true, d) :: pend) := by
  cases av with
  | d d' => exact R.underT
  | s i => exact R
theorem TF_op1 {r : V → Hp → VK → Prop} {f : D → Option D} {a1 : Arg} {σ : L2.St} {H : Hp} {Q : VK} (hd : OpF1 c.K f r) (h : TF c W (mOp1 f a1) σ H Q) : TAg c W a1 σ H fun x H' => r x H' Q := by
  obtain ⟨s, pend, R, q⟩ := h
  refine ⟨s, pend, R, q.bind.mono fun r1 s1 q1 x H1 e1 R1 => ?_⟩
  obtain ⟨d, hd', q3⟩ := q1.lift
  cases g1 : aGet r1 s1 with
  | none => rw [g1] at hd'; cases hd'
  | some d1 =>
    rw [g1] at hd'
    exact hd c σ H1 s1 _ x d1 d Q rfl R1 (R1.viewA g1 e1 fun e h => mem_aPend1 e h) hd' fun v H' R' => q3 v H' R'.dropAT
theorem pxf_b1 {id : String} {r : List V → Hp → VK → Prop} {f : D → Option D} {a1 : Arg} {p : Pos} (hc : CallR X (.builtin id) r) (hd : OpF1 X.K f fun x H Q => r [x] H Q) (hm : X.mg x = none) (hv : bootBuiltins x = some (.builtin id)) (ha : PAg c W X a a1)
    (hg : Gl X x := by rfl) (hn : x ≠ "__name__" := by decide) (hdb : (x == ("__debug__" : Str)) = false := by decide)
    (hs : starEach [a] X.env = (false, eval a X.env) :: starEach [] X.env := by rfl) (he : starEach [a] X.env = (false, eval a X.env) :: starEach [] X.env := by rfl) (hpl : (backTo pos (starEach [] X.env)).any (·.1) = false := by rfl) :
    PXF c W X (.Call (.Name x p) [a] [] pos) (mOp1 f a1) :=
  PEimp (pe_callB hc hg hm hv (pa_cons ha pa_nil hs) hn hdb he hpl) fun σ H Q h => TF_op1 (c := c.at X.K) (r := fun x H Q => r [x] H Q) hd h
theorem pxf_t1 {T : String} {r : List V → Hp → VK → Prop} {f : D → Option D} {a1 : Arg} {p : Pos} (hc : CallR X (.type T) r) (hd : OpF1 X.K f fun x H Q => r [x] H Q) (hm : X.mg x = none) (hv : bootBuiltins x = some (.type T)) (ha : PAg c W X a a1)
    (hg : Gl X x := by rfl) (hn : x ≠ "__name__" := by decide) (hdb : (x == ("__debug__" : Str)) = false := by decide)
    (hs : starEach [a] X.env = (false, eval a X.env) :: starEach [] X.env := by rfl) (he : starEach [a] X.env = (false, eval a X.env) :: starEach [] X.env := by rfl) (hpl : (backTo pos (starEach [] X.env)).any (·.1) = false := by rfl) :
    PXF c W X (.Call (.Name x p) [a] [] pos) (mOp1 f a1) :=
  PEimp (pe_callTy hc hg hm hv (pa_cons ha pa_nil hs) hn hdb he hpl) fun σ H Q h => TF_op1 (c := c.at X.K) (r := fun x H Q => r [x] H Q) hd h
end
end DL

set_option Elab.async false
set_option linter.all false
set_option autoImplicit false
set_option maxRecDepth 100000
namespace DL
variable [TQ]
open PySem PySem.Spec PyProof.Rows L2

/-! ### lists of operands -/
def mArgs : List Arg → M (List AV)
  | [] => fun s => .ok [] s
  | a :: as => fun s => (aEv a s).bind fun av s => (mArgs as s).bind fun avs s => .ok (av :: avs) s
def aPends : List AV → List V → List PEnt → List PEnt
  | av :: avs, x :: xs, p => aPends avs xs (aPend av x p)
  | _, _, p => p
def aSls : List AV → List V → L2.St → Prop
  | [], [], _ => True
  | av :: avs, x :: xs, σ => aSl av x σ ∧ aSls avs xs σ
  | _, _, _ => False
def TAs (c : Ctx) (W : XW) (as : List Arg) : TA := fun σ H Q => ∃ s pend, Rel c σ H s pend ∧ OG W (fun avs s' => ∀ xs H', aSls avs xs σ → Rel c σ H' s' (aPends avs xs pend) → Q xs H') (mArgs as s)
def PAs (c : Ctx) (W : XW) (X : Cx) (es : List Expr) (as : List Arg) : Prop := PA X es (TAs (c.at X.K) W as)
def getL : List AV → DS → Option (List D)
  | [], _ => some []
  | a :: as, s => (aGet a s).bind fun d => (getL as s).bind fun ds => some (d :: ds)
def allD : List AV → Option (List D)
  | [] => some []
  | .d d :: as => (allD as).map (d :: ·)
  | .s _ :: _ => none
section
variable {c : Ctx} {W : XW} {X : Cx} {e a b : Expr} {es : List Expr} {m ma mb : M D} {pos : Pos} {x : Str} {i : Nat} {as : List Arg} {a1 : Arg}
theorem pas_nil : PAs c W X [] [] := PAimp pa_nil fun σ H Q ⟨s, pend, R, q⟩ => q [] H trivial R
theorem pas_cons (ha : PAg c W X e a1) (hr : PAs c W X es as) (hs : starEach (e :: es) X.env = (false, eval e X.env) :: starEach es X.env := by rfl) : PAs c W X (e :: es) (a1 :: as) :=
  PAimp (pa_cons ha hr hs) fun σ H Q ⟨s, pend, R, q⟩ => ⟨s, pend, R, q.bind.mono fun av s1 q1 x H1 e1 R1 => ⟨s1, _, R1, q1.bind.mono fun avs s2 q2 xs H2 e2 R2 => q2 (x :: xs) H2 ⟨e1, e2⟩ R2⟩⟩
section
variable {σ : L2.St} {H : Hp} {s : DS} {pend : List PEnt} {v : V} {d : D} {bb : Bool}
theorem Rel.dropAs : ∀ {avs : List AV} {xs : List V} {pend : List PEnt}, Rel c σ H s ((v, false, d) :: aPends avs xs pend) → Rel c σ H s ((v, false, d) :: pend)
  | [], _, _, R => R
  | av :: avs, [], _, R => R
  | av :: avs, x :: xs, _, R => (Rel.dropAs (avs := avs) (xs := xs) R).dropA
theorem Rel.dropAsT : ∀ {avs : List AV} {xs : List V} {pend : List PEnt}, Rel c σ H s ((v, true, d) :: aPends avs xs pend) → Rel c σ H s ((v, true, d) :: pend)
  | [], _, _, R => R
  | av :: avs, [], _, R => R
  | av :: avs, x :: xs, _, R => (Rel.dropAsT (avs := avs) (xs := xs) R).dropAT
theorem Rel.dropAs0 : ∀ {avs : List AV} {xs : List V} {pend : List PEnt}, Rel c σ H s (aPends avs xs pend) → Rel c σ H s pend
  | [], _, _, R => R
  | av :: avs, [], _, R => R
  | av :: avs, x :: xs, _, R => (Rel.dropAs0 (avs := avs) (xs := xs) R).dropA0
theorem mem_aPends : ∀ {avs : List AV} {xs : List V} {pend : List PEnt} {e : PEnt}, e ∈ pend → e ∈ aPends avs xs pend
  | [], _, _, _, h => h
  | av :: avs, [], _, _, h => h
  | av :: avs, x :: xs, _, _, h => mem_aPends (avs := avs) (xs := xs) (mem_aPend2 h)
theorem rep_all {K : PySem.W.Frag} {O : Addr → Prop} : ∀ {avs : List AV} {xs : List V} {ds : List D} {pend : List PEnt}, allD avs = some ds → aSls avs xs σ → (∀ e ∈ aPends avs xs pend, PendOk K O H e) → RepL K O H ds xs
  | [], [], ds, _, e, _, _ => by cases e; exact RepL.nil
  | [], _ :: _, _, _, _, h, _ => h.elim
  | .d d :: avs, [], _, _, _, h, _ => h.elim
  | .d d :: avs, x :: xs, ds, pend, e, h, p => by
    simp only [allD] at e
    cases g : allD avs with
    | none => rw [g] at e; cases e
    | some r =>
      rw [g] at e; cases e
      exact RepL.cons (p _ (mem_aPends (avs := avs) (xs := xs) List.mem_cons_self)) (rep_all g h.2 p)
  | .s _ :: _, _, _, _, e, _, _ => by cases e
end
theorem mArgs_len : ∀ {as : List Arg} {s s' : DS} {avs : List AV}, mArgs as s = .ok avs s' → avs.length = as.length
  | [], s, s', avs, h => by cases h; rfl
  | a :: as, s, s', avs, h => by
    simp only [mArgs] at h
    cases e1 : aEv a s with
    | bad => rw [e1] at h; cases h
    | ex e s1 => rw [e1] at h; cases h
    | ok av s1 =>
      rw [e1] at h
      simp only [Ores.bind_ok] at h
      cases e2 : mArgs as s1 with
      | bad => rw [e2] at h; cases h
      | ex e s1 => rw [e2] at h; cases h
      | ok avs s2 =>
        rw [e2] at h; cases h
        simp [mArgs_len e2]
theorem OG.monoE {α : Type} {P P' : α → DS → Prop} {o : Ores α} (h : OG W P o) (m : ∀ a s, o = .ok a s → P a s → P' a s) : OG W P' o := by
  cases o with
  | bad => exact h
  | ok a s => exact m a s rfl h
  | ex e s => exact h
theorem allD_len : ∀ {avs : List AV} {ds : List D}, allD avs = some ds → ds.length = avs.length
  | [], _, e => by cases e; rfl
  | .d d :: avs, ds, e => by
    simp only [allD] at e
    cases g : allD avs with
    | none => rw [g] at e; cases e
    | some r => rw [g] at e; cases e; simp [allD_len g]
  | .s _ :: _, _, e => by cases e
/-- (a, b, ..), [a, b, ..] -/
def mTup (as : List Arg) : M D := fun s => (mArgs as s).bind fun avs s => lift ((allD avs).map D.tup) s
def mLst (as : List Arg) : M D := fun s => (mArgs as s).bind fun avs s => lift ((allD avs).map D.lst) s
theorem px_tup {k} (h : PAs c W X es as) (hl : as.length ≤ 1000 := by decide) : PX c W X (.Tuple es k pos) (mTup as) := PEimp (pe_tup h) fun σ H Q ⟨s, pend, R, q⟩ => by
  refine ⟨s, pend, R, q.bind.monoE fun avs s1 em q1 xs H1 e1 R1 => ?_⟩
  obtain ⟨d, hd, q2⟩ := q1.lift
  cases g : allD avs with
  | none => rw [g] at hd; cases hd
  | some ds =>
    rw [g] at hd; cases hd
    have r := rep_all g e1 R1.pd
    refine ⟨?_, fun p hp => q2 _ _ (R1.tup hp r).dropAs⟩
    rw [← r.length, allD_len g, mArgs_len em]
    exact Nat.le_of_lt (small1000 hl)
theorem pxf_lst (h : PAs c W X es as) (hl : as.length ≤ 1000 := by decide) : PXF c W X (.List es pos) (mLst as) := PEimp (pe_lst h) fun σ H Q ⟨s, pend, R, q⟩ => by
  refine ⟨s, pend, R, q.bind.monoE fun avs s1 em q1 xs H1 e1 R1 => ?_⟩
  obtain ⟨d, hd, q2⟩ := q1.lift
  cases g : allD avs with
  | none => rw [g] at hd; cases hd
  | some ds =>
    rw [g] at hd; cases hd
    have r := rep_all g e1 R1.pd
    refine ⟨?_, fun p hp => q2 _ _ (R1.lst hp r).dropAsT⟩
    rw [← r.length, allD_len g, mArgs_len em]
    exact Nat.le_of_lt (small1000 hl)

/-! ### tests, conditionals -/
def mIfE (t : M Bool) (m1 m2 : M D) : M D := fun s => (t s).bind fun b s => if b then m1 s else m2 s
theorem px_if {t : M Bool} (ht : PXT c W X e t) (ha : PX c W X a ma) (hb : PX c W X b mb) : PX c W X (.IfExp e a b pos) (mIfE t ma mb) := PEimp (pe_ifExp ht ha hb) fun σ H Q ⟨s, pend, R, q⟩ => by
  refine ⟨s, pend, R, q.bind.mono fun b s1 q1 H1 R1 => ?_⟩
  cases b with
  | true => exact ⟨s1, pend, R1, q1⟩
  | false => exact ⟨s1, pend, R1, q1⟩
/-- a value True or False, as a test -/
def mBl (m : M D) : M Bool := fun s => (m s).bind fun d s => lift (match d with | .bl b => some b | _ => none) s
theorem TB_bl {σ : L2.St} {H : Hp} {Q : Bool → Hp → Prop} (h : TB c W (mBl m) σ H Q) : tB (T c W m) σ H Q := by
  obtain ⟨s, pend, R, q⟩ := h
  refine ⟨s, pend, R, q.bind.mono fun d s1 q1 v H1 R1 => ?_⟩
  obtain ⟨b, hb, q2⟩ := q1.lift
  cases d with
  | bl k =>
    cases hb
    have r := R1.head
    simp only [Rep] at r
    exact ⟨_, r, q2 H1 R1.drop⟩
  | _ => cases hb
theorem pt_bl (h : PX c W X e m) (he : ∀ whole, isTrue e X.env whole = (do let v ← whole; standAt e.pos; holding [v] (truthy v)) := by intro _; rfl) : PXT c W X e (mBl m) := PTimp (pt_val h he) fun σ H Q q => TB_bl (c := c.at X.K) q
def mNotB (t : M Bool) : M Bool := fun s => (t s).bind fun b s => .ok (!b) s
theorem pt_notB {t : M Bool} (h : PXT c W X e t) : PXT c W X (.UnaryOp .Not e pos) (mNotB t) := PTimp (pt_not h) fun σ H Q ⟨s, pend, R, q⟩ => ⟨s, pend, R, q.bind.mono fun b s1 q1 H1 R1 => q1 H1 R1⟩
def mAndB (t u : M Bool) : M Bool := fun s => (t s).bind fun b s => if b then u s else .ok false s
def mOrB (t u : M Bool) : M Bool := fun s => (t s).bind fun b s => if b then .ok true s else u s
/-- a chain of and, or, as a test whatever its whole is -/
def PXW (c : Ctx) (W : XW) (X : Cx) (e : Expr) (m : M Bool) : Prop := PW X e (TB (c.at X.K) W m)
theorem PXW.pt {m : M Bool} (h : PXW c W X e m) : PXT c W X e m := PW.pt h
theorem xw_and1 {t : M Bool} (h : PXT c W X a t) : PXW c W X (.BoolOp .And [a] pos) t := pw_and1 h
theorem xw_or1 {t : M Bool} (h : PXT c W X a t) : PXW c W X (.BoolOp .Or [a] pos) t := pw_or1 h
theorem xw_and {t u : M Bool} {rest : List Expr} (h : PXT c W X a t) (hr : PXW c W X (.BoolOp .And (b :: rest) pos) u) : PXW c W X (.BoolOp .And (a :: b :: rest) pos) (mAndB t u) := PWimp (pw_and h hr) fun σ H Q ⟨s, pend, R, q⟩ => by
  refine ⟨s, pend, R, q.bind.mono fun b s1 q1 H1 R1 => ?_⟩
  cases b with
  | true => exact ⟨s1, pend, R1, q1⟩
  | false => exact q1 H1 R1
theorem xw_or {t u : M Bool} {rest : List Expr} (h : PXT c W X a t) (hr : PXW c W X (.BoolOp .Or (b :: rest) pos) u) : PXW c W X (.BoolOp .Or (a :: b :: rest) pos) (mOrB t u) := PWimp (pw_or h hr) fun σ H Q ⟨s, pend, R, q⟩ => by
  refine ⟨s, pend, R, q.bind.mono fun b s1 q1 H1 R1 => ?_⟩
  cases b with
  | true => exact q1 H1 R1
  | false => exact ⟨s1, pend, R1, q1⟩
/-- and, or, not as values, of bools -/
def mAndV (m1 m2 : M D) : M D := fun s => (mBl m1 s).bind fun b s => if b then m2 s else .ok (.bl false) s
def mOrV (m1 m2 : M D) : M D := fun s => (mBl m1 s).bind fun b s => if b then .ok (.bl true) s else m2 s
def mNotV (m1 : M D) : M D := fun s => (mBl m1 s).bind fun b s => .ok (.bl (!b)) s
theorem px_one {op} (h : PX c W X a ma) : PX c W X (.BoolOp op [a] pos) ma := pe_one h
theorem bl_ev {σ : L2.St} {H : Hp} {Q : VK} {P : Bool → DS → Prop} {s : DS} {pend : List PEnt} (R : Rel c σ H s pend) (q : OG W P (mBl m s)) (k : ∀ b s1 H1, P b s1 → Rel c σ H1 s1 pend → ∃ c, V.bl b = .bl c ∧ Q (.bl c) H1) :
    T c W m σ H fun x H1 => ∃ c, x = .bl c ∧ Q (.bl c) H1 := by
  refine ⟨s, pend, R, q.bind.mono fun d s1 q1 v H1 R1 => ?_⟩
  obtain ⟨b, hb, q2⟩ := q1.lift
  cases d with
  | bl k' =>
    cases hb
    have r := R1.head
    simp only [Rep] at r
    subst r
    exact k _ s1 H1 q2 R1.drop
  | _ => cases hb
theorem px_and {rest : List Expr} (ha : PX c W X a ma) (hb : PX c W X (.BoolOp .And (b :: rest) pos) mb) : PX c W X (.BoolOp .And (a :: b :: rest) pos) (mAndV ma mb) := PEimp (pe_and ha hb) fun σ H Q ⟨s, pend, R, q⟩ => by
  refine ⟨s, pend, R, (OG.bind q).bind.mono fun d s1 q1 v H1 R1 => ?_⟩
  obtain ⟨b, hb, q2⟩ := q1.lift
  cases d with
  | bl k' =>
    cases hb
    have r := R1.head
    simp only [Rep] at r
    refine ⟨b, r, ?_⟩
    cases b with
    | true => exact ⟨s1, pend, R1.drop, q2⟩
    | false => exact q2 _ H1 (R1.drop.push (by simp only [Rep]))
  | _ => cases hb
theorem px_or {rest : List Expr} (ha : PX c W X a ma) (hb : PX c W X (.BoolOp .Or (b :: rest) pos) mb) : PX c W X (.BoolOp .Or (a :: b :: rest) pos) (mOrV ma mb) := PEimp (pe_or ha hb) fun σ H Q ⟨s, pend, R, q⟩ => by
  refine ⟨s, pend, R, (OG.bind q).bind.mono fun d s1 q1 v H1 R1 => ?_⟩
  obtain ⟨b, hb, q2⟩ := q1.lift
  cases d with
  | bl k' =>
    cases hb
    have r := R1.head
    simp only [Rep] at r
    refine ⟨b, r, ?_⟩
    cases b with
    | false => exact ⟨s1, pend, R1.drop, q2⟩
    | true => exact q2 _ H1 (R1.drop.push (by simp only [Rep]))
  | _ => cases hb
theorem px_not (ha : PX c W X a ma) : PX c W X (.UnaryOp .Not a pos) (mNotV ma) := PEimp (pe_not ha) fun σ H Q ⟨s, pend, R, q⟩ => by
  refine ⟨s, pend, R, (OG.bind q).bind.mono fun d s1 q1 v H1 R1 => ?_⟩
  obtain ⟨b, hb, q2⟩ := q1.lift
  cases d with
  | bl k' =>
    cases hb
    have r := R1.head
    simp only [Rep] at r
    exact ⟨b, r, q2 _ H1 (R1.drop.push (by simp only [Rep]))⟩
  | _ => cases hb
end

/-! ### what a def promises -/
inductive FRes where
  | bad | ok (d : D) (t : Option D) | ex (e : Ex) (t : Option D)
def VwA (K : PySem.W.Frag) (O : Addr → Prop) (H : Hp) (ioa : Option Addr) (d : D) (v : V) : Prop := Rep K O H d v ∨ ∃ p, v = .ref p ∧ ioa ≠ some p ∧ OwnRep K O H p d
def ArgL (K : PySem.W.Frag) (O : Addr → Prop) (H : Hp) (ioa : Option Addr) : List Bool → List D → List V → Prop
  | [], [], [] => True
  | k :: ks, d :: ds, v :: vs => (if k then VwA K O H ioa d v else Rep K O H d v) ∧ ArgL K O H ioa ks ds vs
  | _, _, _ => False
def ArgsOk (K : PySem.W.Frag) (O : Addr → Prop) (H : Hp) (ks : List Bool) : Option Addr → List D → List V → Prop
  | none, ds, vs => ArgL K O H none ks ds vs
  | some p, d :: ds, v :: vs => v = .ref p ∧ O p ∧ OwnRep K O H p d ∧ ArgL K O H (some p) ks ds vs
  | some _, _, _ => False
def ResOk (K : PySem.W.Frag) (O : Addr → Prop) (H H' : Hp) (d : D) (v : V) : Bool → Prop
  | false => Rep K O H' d v
  | true => ∃ p, v = .ref p ∧ H p = none ∧ OwnRep K (fun a => O a ∨ a = p) H' p d
def IoOk (K : PySem.W.Frag) (O : Addr → Prop) (H' : Hp) : Option Addr → Option D → Prop
  | none, _ => True
  | some p, some t => OwnRep K O H' p t
  | some _, none => False
def OOk (O : Addr → Prop) (H : Hp) : Prop := (∀ a, O a → H a ≠ none) ∧ Tbs H
theorem Rel.ook {c : Ctx} {σ : L2.St} {H : Hp} {s : DS} {pend : List PEnt} (R : Rel c σ H s pend) : OOk (Oof c σ s pend) H := ⟨fun a h => R.trackedO h, R.tabs⟩
abbrev XR := Ex → Value → Option Addr → Hp → Prop
def spD (K : PySem.W.Frag) (io fr : Bool) (ks : List Bool) (F : List D → FRes) : Sp := fun vs H Q E => ∃ (ds : List D) (O : Addr → Prop) (ioa : Option Addr), ioa.isSome = io ∧ OOk O H ∧ ArgsOk K O H ks ioa ds vs ∧
  match F ds with
  | .ok d t => ∀ v H', FrameOk H H' ioa → ResOk K O H H' d v fr → IoOk K O H' ioa t → Q v H'
  | _ => False
theorem ArgL.len {K : PySem.W.Frag} {O : Addr → Prop} {H : Hp} {ioa : Option Addr} : ∀ {ks : List Bool} {ds : List D} {vs : List V}, ArgL K O H ioa ks ds vs → vs.length = ks.length ∧ ds.length = ks.length
  | [], [], [], _ => ⟨rfl, rfl⟩
  | k :: ks, d :: ds, v :: vs, h => ⟨congrArg Nat.succ (ArgL.len h.2).1, congrArg Nat.succ (ArgL.len h.2).2⟩
theorem ArgsOk.len {K : PySem.W.Frag} {O : Addr → Prop} {H : Hp} {ks : List Bool} : ∀ {ioa : Option Addr} {ds : List D} {vs : List V}, ArgsOk K O H ks ioa ds vs → vs.length = ks.length + (if ioa.isSome then 1 else 0)
  | none, ds, vs, h => (ArgL.len h).1
  | some p, d :: ds, v :: vs, h => congrArg Nat.succ (ArgL.len h.2.2.2).1
theorem spD_len {K : PySem.W.Frag} {io fr : Bool} {ks : List Bool} {F : List D → FRes} {vs : List V} {H : Hp} {Q : VK} {E : XK} (h : spD K io fr ks F vs H Q E) : vs.length = ks.length + (if io then 1 else 0) := by
  obtain ⟨ds, O, ioa, e, _, h, _⟩ := h
  rw [← e]
  exact h.len

/-! ### calls -/
def mCall (F : List D → FRes) (as : List Arg) : M D := fun s => (mArgs as s).bind fun avs s => (lift (getL avs s) s).bind fun ds s =>
  match F ds with
  | .ok d _ => .ok d s
  | _ => .bad
def isOw : Option Sl → Bool
  | some (.ow _) => true
  | _ => false
@[simp] theorem isOw_ow (d : D) : isOw (some (.ow d)) = true := rfl
def mCallT (F : List D → FRes) (i : Nat) (as : List Arg) : M D := fun s => if isOw s[i]? = false then .bad else (mArgs as s).bind fun avs s => (lift (getL avs s) s).bind fun ds s =>
  match s[i]? with
  | some (.ow t0) =>
    match F (t0 :: ds) with
    | .ok d (some t) => .ok d (s.set i (.ow t))
    | _ => .bad
  | _ => .bad
/-- which operands are looked at where a value is asked -/
def kindOk : List Bool → List Arg → Bool
  | [], [] => true
  | k :: ks, .v _ :: as => kindOk ks as
  | k :: ks, .r _ :: as => k && kindOk ks as
  | _, _ => false
def kindV : List Bool → List AV → Bool
  | [], [] => true
  | k :: ks, .d _ :: as => kindV ks as
  | k :: ks, .s _ :: as => k && kindV ks as
  | _, _ => false
def slotsOf : List Arg → List Nat
  | [] => []
  | .v _ :: as => slotsOf as
  | .r i :: as => i :: slotsOf as
def slotsV : List AV → List Nat
  | [] => []
  | .d _ :: as => slotsV as
  | .s i :: as => i :: slotsV as
theorem mArgs_kind : ∀ {ks : List Bool} {as : List Arg} {s s' : DS} {avs : List AV}, mArgs as s = .ok avs s' → kindOk ks as = true → kindV ks avs = true
  | ks, [], s, s', avs, h, k => by cases h; cases ks <;> first | rfl | cases k
  | [], _ :: _, s, s', avs, h, k => by rename_i a _; cases a <;> cases k
  | k0 :: ks, a :: as, s, s', avs, h, k => by
    simp only [mArgs] at h
    cases e1 : aEv a s with
    | bad => rw [e1] at h; cases h
    | ex e s1 => rw [e1] at h; cases h
    | ok av s1 =>
      rw [e1] at h
      simp only [Ores.bind_ok] at h
      cases e2 : mArgs as s1 with
      | bad => rw [e2] at h; cases h
      | ex e s1 => rw [e2] at h; cases h
      | ok avs s2 =>
        rw [e2] at h; cases h
        cases a with
        | v m =>
          simp only [aEv] at e1
          cases e3 : m s with
          | bad => rw [e3] at e1; cases e1
          | ex e s1 => rw [e3] at e1; cases e1
          | ok d s3 =>
            rw [e3] at e1
            cases e1
            show kindV ks avs = true
            exact mArgs_kind e2 k
        | r i =>
          have e0 : aEv (.r i) s = if (slotD s[i]?).isSome then Ores.ok (.s i) s else .bad := rfl
          rw [e0] at e1
          by_cases hs : (slotD s[i]?).isSome = true
          · rw [if_pos hs] at e1
            cases e1
            simp only [kindOk, Bool.and_eq_true] at k
            simp only [kindV, Bool.and_eq_true]
            exact ⟨k.1, mArgs_kind e2 k.2⟩
          · rw [if_neg hs] at e1; cases e1
theorem mArgs_slots : ∀ {as : List Arg} {s s' : DS} {avs : List AV}, mArgs as s = .ok avs s' → slotsV avs = slotsOf as
  | [], s, s', avs, h => by cases h; rfl
  | a :: as, s, s', avs, h => by
    simp only [mArgs] at h
    cases e1 : aEv a s with
    | bad => rw [e1] at h; cases h
    | ex e s1 => rw [e1] at h; cases h
    | ok av s1 =>
      rw [e1] at h
      simp only [Ores.bind_ok] at h
      cases e2 : mArgs as s1 with
      | bad => rw [e2] at h; cases h
      | ex e s1 => rw [e2] at h; cases h
      | ok avs s2 =>
        rw [e2] at h; cases h
        cases a with
        | v m =>
          simp only [aEv] at e1
          cases e3 : m s with
          | bad => rw [e3] at e1; cases e1
          | ex e s1 => rw [e3] at e1; cases e1
          | ok d s3 =>
            rw [e3] at e1
            cases e1
            show slotsV avs = slotsOf as
            exact mArgs_slots e2
        | r i =>
          have e0 : aEv (.r i) s = if (slotD s[i]?).isSome then Ores.ok (.s i) s else .bad := rfl
          rw [e0] at e1
          by_cases hs : (slotD s[i]?).isSome = true
          · rw [if_pos hs] at e1
            cases e1
            simp only [slotsV, slotsOf, mArgs_slots e2]
          · rw [if_neg hs] at e1; cases e1
theorem arg_all {c : Ctx} {σ : L2.St} {H : Hp} {s : DS} {P : List PEnt} {ioa : Option Addr} (R : Rel c σ H s P) :
    ∀ {ks : List Bool} {avs : List AV} {xs : List V} {ds : List D} {pend : List PEnt}, getL avs s = some ds → kindV ks avs = true → aSls avs xs σ → (∀ e ∈ aPends avs xs pend, e ∈ P) →
      (∀ j d v, j ∈ slotsV avs → slotD s[j]? = some d → σ[j]? = some (some v) → VwA c.K (Oof c σ s P) H ioa d v) → ArgL c.K (Oof c σ s P) H ioa ks ds xs
  | [], [], [], ds, _, e, _, _, _, _ => by cases e; trivial
  | [], [], _ :: _, _, _, _, _, h, _, _ => h.elim
  | [], .d _ :: _, _, _, _, _, k, _, _, _ => by cases k
  | [], .s _ :: _, _, _, _, _, k, _, _, _ => by cases k
  | _ :: _, [], _, _, _, _, k, _, _, _ => by cases k
  | k0 :: ks, .d d :: avs, [], _, _, _, _, h, _, _ => h.elim
  | k0 :: ks, .s d :: avs, [], _, _, _, _, h, _, _ => h.elim
  | k0 :: ks, .d d :: avs, x :: xs, ds, pend, e, k, h, p, n => by
    simp only [getL, aGet, Option.bind_some] at e
    cases g : getL avs s with
    | none => rw [g] at e; cases e
    | some r =>
      rw [g] at e; cases e
      have hr : Rep c.K (Oof c σ s P) H d x := R.pd _ (p _ (mem_aPends (avs := avs) (xs := xs) List.mem_cons_self))
      refine ⟨?_, arg_all R g k h.2 p n⟩
      cases k0 with
      | true => exact .inl hr
      | false => exact hr
  | k0 :: ks, .s i :: avs, x :: xs, ds, pend, e, k, h, p, n => by
    simp only [kindV, Bool.and_eq_true] at k
    simp only [getL, aGet] at e
    cases g0 : slotD s[i]? with
    | none => rw [g0] at e; cases e
    | some d =>
      rw [g0] at e
      simp only [Option.bind_some] at e
      cases g : getL avs s with
      | none => rw [g] at e; cases e
      | some r =>
        rw [g] at e; cases e
        refine ⟨?_, arg_all R g k.2 h.2 p fun j d v e1 => n j d v (List.mem_cons_of_mem _ e1)⟩
        rw [k.1]
        exact n i d x List.mem_cons_self g0 h.1
end DL

set_option Elab.async false
set_option linter.all false
set_option autoImplicit false
set_option maxRecDepth 100000
namespace DL
variable [TQ]
open PySem PySem.Spec PyProof.Rows L2

section
variable {c : Ctx} {σ σ' : L2.St} {H H' : Hp} {s s' : DS} {pend : List PEnt} {v : V} {d d' : D} {p : Addr} {i j : Nat} {b : Bool}
theorem Rel.same (R : Rel c σ H s pend) (hf : FrameOk H H' none) : Rel c σ H' s pend := by
  have hg : ∀ a u, H a = some u → NT u → H' a = some u := fun a u e n => by obtain ⟨w, e2, s2⟩ := hf.1 a u e (fun z => nomatch z); rw [e2, s2.nt n]
  have k : Keep (Oof c σ s pend) H (Oof c σ s pend) H' := fun a u n e nt => ⟨n, hg a u e nt⟩
  have ke : ∀ q, (∃ u, H q = some u ∧ NT u) → H' q = H q := fun q ⟨u, e, n⟩ => by rw [e]; exact hg q u e n
  refine ⟨R.len, fun i d h => ?_, fun i d h => ?_, fun e h => ?_, R.inj, R.ndp, R.sep, R.new, fun b o h n => (let ⟨u, e1, s1⟩ := R.frame b o h n; let ⟨w, e2, s2⟩ := hf.1 b u e1 (fun z => nomatch z); ⟨w, e2, s1.trans s2⟩), R.o0, R.iok, R.io0, fun i d h => ?_, hf.2⟩
  · obtain ⟨v, e1, r⟩ := R.pl i d h
    exact ⟨v, e1, r.mono k⟩
  · obtain ⟨q, e1, r⟩ := R.ow i d h
    exact ⟨q, e1, r.mono k (ke q r.nt)⟩
  · exact (R.pd e h).mono k fun q d e2 => ke q (by
      have hq := R.pd e h
      rw [e2] at hq
      obtain ⟨q', e1, r⟩ := hq
      cases e1
      exact r.nt)
  · obtain ⟨v, e1, r⟩ := R.vw i d h
    exact ⟨v, e1, r.mono k (fun q _ _ h3 => ke q h3) fun _ r => r.nt⟩
theorem owat_same (hs : s[i]? = some (Sl.ow d)) {q : Addr} : OwAt σ (s.set i (.ow d')) j q ↔ OwAt σ s j q := by
  have sl : i < s.length := (List.getElem?_eq_some_iff.mp hs).1
  constructor
  · intro h
    rcases owat_set' h with ⟨_, h⟩ | ⟨e, h, _⟩
    · exact h
    · subst e; exact ⟨h, d, hs⟩
  · intro ⟨h1, d1, h2⟩
    by_cases e : j = i
    · subst e; exact ⟨h1, d', by rw [List.getElem?_set_self sl]⟩
    · exact ⟨h1, d1, by rw [List.getElem?_set_ne (Ne.symm e)]; exact h2⟩
theorem oof_same (hs : s[i]? = some (Sl.ow d)) : Oof c σ (s.set i (.ow d')) pend = Oof c σ s pend := by
  funext a
  unfold Oof Own
  simp only [owat_same hs]
/-- a callee has changed what slot i owns -/
theorem Rel.sameBut (R : Rel c σ H s pend) (hs : s[i]? = some (Sl.ow d)) (hp : σ[i]? = some (some (V.ref p))) (hf : FrameOk H H' (some p)) (h : OwnRep c.K (Oof c σ s pend) H' p d') :
    Rel c σ H' (s.set i (.ow d')) pend := by
  have hg : ∀ a u, H a = some u → a ≠ p → NT u → H' a = some u := fun a u e z n => by obtain ⟨w, e2, s2⟩ := hf.1 a u e (fun y => z (Option.some.inj y).symm); rw [e2, s2.nt n]
  have hO : OwAt σ s i p := ⟨hp, d, hs⟩
  have hPo : Oof c σ s pend p := .inr (.inr ⟨i, hO⟩)
  have ow : ∀ j q, OwAt σ (s.set i (.ow d')) j q ↔ OwAt σ s j q := fun j q => owat_same hs
  have oo : Oof c σ (s.set i (.ow d')) pend = Oof c σ s pend := oof_same hs
  have k : Keep (Oof c σ s pend) H (Oof c σ s pend) H' := fun a u n e nt => ⟨n, hg a u e (fun z => n (by rw [z]; exact hPo)) nt⟩
  have ke : ∀ q, q ≠ p → (∃ u, H q = some u ∧ NT u) → H' q = H q := fun q n ⟨u, e, nt⟩ => by rw [e]; exact hg q u e n nt
  refine ⟨by simp [R.len], fun j d1 h1 => ?_, fun j d1 h1 => ?_, fun e he => ?_, fun i j q h1 h2 => R.inj i j q ((ow _ _).mp h1) ((ow _ _).mp h2), R.ndp, fun i q h => R.sep i q ((ow _ _).mp h), fun a h => ?_, fun b u hb n => ?_, R.o0, fun q h => (ow _ _).mpr (R.iok q h), R.io0, fun j d1 h1 => ?_, hf.2⟩
  · rw [oo]
    rcases set_cases h1 with ⟨e1, e2, e3⟩ | ⟨e1, e2⟩
    · cases e2
    · obtain ⟨w, e, r⟩ := R.pl j d1 e2
      exact ⟨w, e, r.mono k⟩
  · rw [oo]
    rcases set_cases h1 with ⟨e1, e2, e3⟩ | ⟨e1, e2⟩
    · cases e2
      subst e1
      exact ⟨p, hp, h⟩
    · obtain ⟨q, e, r⟩ := R.ow j d1 e2
      exact ⟨q, e, r.mono k (ke q (fun z => e1 (R.inj j i p (z ▸ ⟨e, d1, e2⟩) hO)) r.nt)⟩
  · rw [oo]
    refine (R.pd e he).mono k fun q d e2 => ke q (fun z => R.sep i p hO (z ▸ mem_ownP_of (e2 ▸ he))) ?_
    have hq := R.pd e he
    rw [e2] at hq
    obtain ⟨q', e1, r⟩ := hq
    cases e1
    exact r.nt
  · rcases h with h | ⟨i, h⟩
    · exact R.new a (.inl h)
    · exact R.new a (.inr ⟨i, (ow _ _).mp h⟩)
  · obtain ⟨u1, e1, s1⟩ := R.frame b u hb n
    suffices z : b ≠ p by
      obtain ⟨w, e2, s2⟩ := hf.1 b u1 e1 (fun y => z (Option.some.inj y).symm)
      exact ⟨w, e2, s1.trans s2⟩
    intro z
    subst z
    rcases R.new b (.inr ⟨i, hO⟩) with w | w
    · rw [w] at hb; cases hb
    · exact n w
  · rw [oo]
    rcases set_cases h1 with ⟨e1, e2, e3⟩ | ⟨e1, e2⟩
    · cases e2
    · obtain ⟨w, e, r⟩ := R.vw j d1 e2
      refine ⟨w, e, r.mono k (fun q h0 hio h3 => ke q (fun z => ?_) h3) fun _ r => r.nt⟩
      subst z
      rcases R.new q (.inr ⟨i, hO⟩) with w | w
      · exact h0 w
      · exact hio w
/-- a callee has made a new object -/
theorem Rel.calledF (R : Rel c σ H s pend) (hf : FrameOk H H' none) (hp : H p = none) (h : OwnRep c.K (fun a => Oof c σ s pend a ∨ a = p) H' p d) : Rel c σ H' s ((.ref p, true, d) :: pend) := by
  have hg : ∀ a u, H a = some u → NT u → H' a = some u := fun a u e n => by obtain ⟨w, e2, s2⟩ := hf.1 a u e (fun z => nomatch z); rw [e2, s2.nt n]
  have oo : ∀ a, Oof c σ s ((.ref p, true, d) :: pend) a ↔ (Oof c σ s pend a ∨ a = p) := fun a => by
    unfold Oof Own
    rw [ownP_ref, List.mem_cons]
    constructor
    · rintro (q | (q | q) | q)
      · exact .inl (.inl q)
      · exact .inr q
      · exact .inl (.inr (.inl q))
      · exact .inl (.inr (.inr q))
    · rintro ((q | q | q) | q)
      · exact .inl q
      · exact .inr (.inl (.inr q))
      · exact .inr (.inr q)
      · exact .inr (.inl (.inl q))
  have oe : Oof c σ s ((.ref p, true, d) :: pend) = fun a => Oof c σ s pend a ∨ a = p := by
    funext a; exact propext (oo a)
  have k : Keep (Oof c σ s pend) H (Oof c σ s ((.ref p, true, d) :: pend)) H' := fun a u n e nt => ⟨fun q => ((oo a).mp q).elim n (ne_of_none e hp), hg a u e nt⟩
  have ne : ∀ q, Own σ s pend q → q ≠ p := fun q h e => R.tracked h (e ▸ hp)
  have ke : ∀ q, (∃ u, H q = some u ∧ NT u) → H' q = H q := fun q ⟨u, e, n⟩ => by rw [e]; exact hg q u e n
  refine ⟨R.len, fun i d h => ?_, fun i d h => ?_, fun e' h' => ?_, R.inj, ?_, fun i q h z => ?_, fun a h => ?_, fun b o h n => (let ⟨u, e1, s1⟩ := R.frame b o h n; let ⟨w, e2, s2⟩ := hf.1 b u e1 (fun z => nomatch z); ⟨w, e2, s1.trans s2⟩), R.o0, R.iok, R.io0, fun i d h => (let ⟨v, e1, r⟩ := R.vw i d h; ⟨v, e1, r.mono k (fun q _ _ h3 => ke q h3) fun _ r => r.nt⟩), hf.2⟩
  · obtain ⟨v, e1, r⟩ := R.pl i d h
    exact ⟨v, e1, r.mono k⟩
  · obtain ⟨q, e1, r⟩ := R.ow i d h
    exact ⟨q, e1, r.mono k (ke q r.nt)⟩
  · rcases List.mem_cons.mp h' with z | z
    · subst z
      refine ⟨p, rfl, ?_⟩
      rw [oe]; exact h
    · refine (R.pd e' z).mono k fun q d e => ke q ?_
      have hq := R.pd e' z
      rw [e] at hq
      obtain ⟨q', e1, r⟩ := hq
      cases e1
      exact r.nt
  · exact List.nodup_cons.mpr ⟨fun z => ne p (.inl z) rfl, R.ndp⟩
  · rcases List.mem_cons.mp z with z | z
    · exact ne q (.inr ⟨i, h⟩) z
    · exact R.sep i q h z
  · rcases h with h | h
    · rcases List.mem_cons.mp h with z | z
      · subst z; exact .inl (R.fresh0 hp)
      · exact R.new a (.inl z)
    · exact R.new a (.inr h)
end

/-! ### calls of defs -/
section
variable {c : Ctx} {W : XW} {X : Cx} {e a b : Expr} {es : List Expr} {m : M D} {pos p : Pos} {x : Str} {i : Nat} {as : List Arg} {G : List D → FRes} {ks : List Bool}
theorem T_call {σ : L2.St} {H : Hp} {Q : VK} {E : XK} (hk : kindOk ks as = true) (h : T c W (mCall G as) σ H Q) : tCall (spD c.K false false ks G) [] E (TAs c W as) σ H Q := by
  obtain ⟨s, pend, R, q⟩ := h
  refine ⟨s, pend, R, q.bind.monoE fun avs s1 em q1 xs H1 e1 R1 => ?_⟩
  obtain ⟨ds, hd, q2⟩ := q1.bind.lift
  rw [List.append_nil]
  refine ⟨ds, Oof c σ s1 (aPends avs xs pend), none, rfl, R1.ook, arg_all R1 hd (mArgs_kind em hk) e1 (fun e h => h) (fun j d v _ h1 h2 => (R1.viewS h1 h2).imp (fun h => h) fun ⟨p, e, r⟩ => ⟨p, e, (fun z => nomatch z), r⟩), ?_⟩
  cases hG : G ds with
  | bad => rw [hG] at q2; exact q2.elim
  | ex e t => rw [hG] at q2; exact q2.elim
  | ok d t =>
    rw [hG] at q2
    intro v H' hf hr _
    exact q2 v H' ((R1.same hf).push (hr : Rep _ _ _ _ _)).dropAs
theorem TF_call {σ : L2.St} {H : Hp} {Q : VK} {E : XK} (hk : kindOk ks as = true) (h : TF c W (mCall G as) σ H Q) : tCall (spD c.K false true ks G) [] E (TAs c W as) σ H Q := by
  obtain ⟨s, pend, R, q⟩ := h
  refine ⟨s, pend, R, q.bind.monoE fun avs s1 em q1 xs H1 e1 R1 => ?_⟩
  obtain ⟨ds, hd, q2⟩ := q1.bind.lift
  rw [List.append_nil]
  refine ⟨ds, Oof c σ s1 (aPends avs xs pend), none, rfl, R1.ook, arg_all R1 hd (mArgs_kind em hk) e1 (fun e h => h) (fun j d v _ h1 h2 => (R1.viewS h1 h2).imp (fun h => h) fun ⟨p, e, r⟩ => ⟨p, e, (fun z => nomatch z), r⟩), ?_⟩
  cases hG : G ds with
  | bad => rw [hG] at q2; exact q2.elim
  | ex e t => rw [hG] at q2; exact q2.elim
  | ok d t =>
    rw [hG] at q2
    intro v H' hf hr _
    obtain ⟨p, e2, hp, r⟩ := hr
    subst e2
    exact q2 _ H' (R1.calledF hf hp r).dropAsT
/-- f(a, ..) of a def that only looks -/
theorem px_call {k : Nat} {f : Addr} {fd : FuncData} {ps : List Str} (F : FnOk X.prog X.w X.K X.mg X.base CX0 k f fd ps (spD X.K false false ks G)) (hr : Room k X.A) (hm : X.mg x = some (.ref f)) (hk : PySem.W.keepIn X.K (.ref f) = true) (hb : Binds X.K fd ps [])
    (ha : PAs c W X (e :: es) as) (ho : kindOk ks as = true := by rfl) (hg : Gl X x := by rfl) (hdb : (x == ("__debug__" : Str)) = false := by decide) (he : starEach (e :: es) X.env = (false, eval e X.env) :: starEach es X.env := by rfl) (hpl : (backTo pos (starEach es X.env)).any (·.1) = false := by rfl) :
    PX c W X (.Call (.Name x p) (e :: es) [] pos) (mCall G as) := PEimp (pe_call F hr hg hm hk hb .nil pass0 ha hdb he hpl) fun σ H Q h => T_call (c := c.at X.K) ho h
theorem pxf_call {k : Nat} {f : Addr} {fd : FuncData} {ps : List Str} (F : FnOk X.prog X.w X.K X.mg X.base CX0 k f fd ps (spD X.K false true ks G)) (hr : Room k X.A) (hm : X.mg x = some (.ref f)) (hk : PySem.W.keepIn X.K (.ref f) = true) (hb : Binds X.K fd ps [])
    (ha : PAs c W X (e :: es) as) (ho : kindOk ks as = true := by rfl) (hg : Gl X x := by rfl) (hdb : (x == ("__debug__" : Str)) = false := by decide) (he : starEach (e :: es) X.env = (false, eval e X.env) :: starEach es X.env := by rfl) (hpl : (backTo pos (starEach es X.env)).any (·.1) = false := by rfl) :
    PXF c W X (.Call (.Name x p) (e :: es) [] pos) (mCall G as) := PEimp (pe_call F hr hg hm hk hb .nil pass0 ha hdb he hpl) fun σ H Q h => TF_call (c := c.at X.K) ho h
/-- f(t, a, ..) of a def that changes what the slot i owns -/
theorem T_callT {σ : L2.St} {H : Hp} {Q : VK} {E : XK} (hk : kindOk ks as = true) (hi : (slotsOf as).contains i = false) (h : T c W (mCallT G i as) σ H Q) : tCall (spD c.K true false ks G) [] E (tCons (tVar i) (TAs c W as)) σ H Q := by
  obtain ⟨s, pend, R, q⟩ := h
  unfold mCallT at q
  have hi0 : ∃ d, s[i]? = some (Sl.ow d) := by
    cases e : s[i]? with
    | none => rw [e] at q; exact q.elim
    | some sl => cases sl <;> first | exact ⟨_, rfl⟩ | (rw [e] at q; exact q.elim)
  have q : OG W (fun d s' => ∀ v H', Rel c σ H' s' ((v, false, d) :: pend) → Q v H') ((mArgs as s).bind fun avs s => (lift (getL avs s) s).bind fun ds s =>
      match s[i]? with
      | some (.ow t0) =>
        match G (t0 :: ds) with
        | .ok d (some t) => .ok d (s.set i (.ow t))
        | _ => .bad
      | _ => .bad) := by
    obtain ⟨d, e⟩ := hi0
    rw [e] at q
    exact q
  -- the slot's address stands from the beginning
  have go : ∀ pp, σ[i]? = some (some (V.ref pp)) → tCall (spD c.K true false ks G) [] E (tCons (tVar i) (TAs c W as)) σ H Q := by
    intro pp hp
    refine ⟨.ref pp, hp, s, pend, R, q.bind.monoE fun avs s1 em q1 xs H1 e1 R1 => ?_⟩
    obtain ⟨ds, hd, q2⟩ := q1.bind.lift
    rw [List.append_nil]
    cases es : s1[i]? with
    | none => rw [es] at q2; exact q2.elim
    | some sl =>
      rw [es] at q2
      cases sl with
      | no => exact q2.elim
      | pl d => exact q2.elim
      | vw d => exact q2.elim
      | ow t0 =>
        obtain ⟨pp', ep, ow⟩ := R1.ow i t0 es
        rw [hp] at ep; cases ep
        have hin : OwAt σ s1 i pp := ⟨hp, t0, es⟩
        refine ⟨t0 :: ds, Oof c σ s1 (aPends avs xs pend), some pp, rfl, R1.ook, ⟨rfl, .inr (.inr ⟨i, hin⟩), ow, arg_all R1 hd (mArgs_kind em hk) e1 (fun e h => h) fun j dj v hj h1 h2 => ?_⟩, ?_⟩
        · have hj' : j ∈ slotsOf as := by rw [← mArgs_slots em]; exact hj
          have hne : j ≠ i := fun z => by
            subst z
            rw [List.contains_iff_mem.mpr hj'] at hi
            cases hi
          cases ej : s1[j]? with
          | none => rw [ej] at h1; cases h1
          | some sj =>
            rw [ej] at h1
            cases sj with
            | no => cases h1
            | pl d' =>
              cases h1
              obtain ⟨w, e', r⟩ := R1.pl j _ ej
              rw [h2] at e'; cases e'
              exact .inl r
            | ow d' =>
              cases h1
              obtain ⟨w, e', r⟩ := R1.ow j _ ej
              rw [h2] at e'; cases e'
              exact .inr ⟨w, rfl, fun z => hne (R1.inj j i pp (by cases z; exact ⟨h2, _, ej⟩) hin), r⟩
            | vw d' =>
              cases h1
              obtain ⟨w, e', r⟩ := R1.vw j _ ej
              rw [h2] at e'; cases e'
              rcases r with r | ⟨w, e2, h0, hio, r⟩
              · exact .inl r
              · refine .inr ⟨w, e2, fun z => ?_, r⟩
                cases z
                rcases R1.new pp (.inr ⟨i, hin⟩) with z | z
                · exact h0 z
                · exact hio z
        · cases hG : G (t0 :: ds) with
          | bad => simp only [hG] at q2; exact q2.elim
          | ex e t => simp only [hG] at q2; exact q2.elim
          | ok d t =>
            simp only [hG] at q2
            cases t with
            | none => exact q2.elim
            | some t =>
              intro v H' hf hr hio
              have R2 := R1.sameBut es hp hf hio
              refine q2 v H' (R2.push ?_).dropAs
              rw [oof_same es]
              exact hr
  obtain ⟨d, e⟩ := hi0
  obtain ⟨pp, ep, _⟩ := R.ow i d e
  exact go pp ep
theorem px_callT {k : Nat} {f : Addr} {fd : FuncData} {ps : List Str} {t : Str} {pt : Pos} (F : FnOk X.prog X.w X.K X.mg X.base CX0 k f fd ps (spD X.K true false ks G)) (hr : Room k X.A) (hm : X.mg x = some (.ref f)) (hk : PySem.W.keepIn X.K (.ref f) = true) (hb : Binds X.K fd ps [])
    (ht : PE X (.Name t pt) (tVar i)) (ha : PAs c W X es as) (ho : kindOk ks as = true := by rfl) (hi : (slotsOf as).contains i = false := by rfl) (hg : Gl X x := by rfl) (hdb : (x == ("__debug__" : Str)) = false := by decide) (hs : starEach (.Name t pt :: es) X.env = (false, eval (.Name t pt) X.env) :: starEach es X.env := by rfl)
    (he : starEach (.Name t pt :: es) X.env = (false, eval (.Name t pt) X.env) :: starEach es X.env := by rfl) (hpl : (backTo pos (starEach es X.env)).any (·.1) = false := by rfl) :
    PX c W X (.Call (.Name x p) (.Name t pt :: es) [] pos) (mCallT G i as) := PEimp (pe_call F hr hg hm hk hb .nil pass0 (pa_cons ht ha hs) hdb he hpl) fun σ H Q h => T_callT (c := c.at X.K) ho hi h
end
end DL

set_option Elab.async false
set_option linter.all false
set_option autoImplicit false
set_option maxRecDepth 100000
namespace DL
variable [TQ]
open PySem PySem.Spec PyProof.Rows L2

/-! ### statements -/
inductive SRes where
  | bad | nx (s : DS) | brk (s : DS) | cnt (s : DS) | ret (d : D) (s : DS) | ex (e : Ex) (s : DS)
abbrev SM := DS → SRes
def SRes.nxt (r : SRes) (f : SM) : SRes :=
  match r with
  | .nx s => f s
  | r => r
@[simp] theorem SRes.nxt_nx (s : DS) (f : SM) : (SRes.nx s).nxt f = f s := rfl
@[simp] theorem SRes.nxt_bad (f : SM) : SRes.bad.nxt f = .bad := rfl
@[simp] theorem SRes.nxt_brk (s : DS) (f : SM) : (SRes.brk s).nxt f = .brk s := rfl
@[simp] theorem SRes.nxt_cnt (s : DS) (f : SM) : (SRes.cnt s).nxt f = .cnt s := rfl
@[simp] theorem SRes.nxt_ret (d : D) (s : DS) (f : SM) : (SRes.ret d s).nxt f = .ret d s := rfl
@[simp] theorem SRes.nxt_ex (d : Ex) (s : DS) (f : SM) : (SRes.ex d s).nxt f = .ex d s := rfl
def toS {α : Type} (o : Ores α) (f : α → DS → SRes) : SRes :=
  match o with
  | .bad => .bad
  | .ok a s => f a s
  | .ex e s => .ex e s
@[simp] theorem toS_ok {α : Type} (a : α) (s : DS) (f : α → DS → SRes) : toS (.ok a s) f = f a s := rfl
@[simp] theorem toS_bad {α : Type} (f : α → DS → SRes) : toS (.bad : Ores α) f = .bad := rfl
@[simp] theorem toS_ex {α : Type} (e : Ex) (s : DS) (f : α → DS → SRes) : toS (.ex e s : Ores α) f = .ex e s := rfl
def SG (c : Ctx) (W : XW) (D : Ends) (pend : List PEnt) : SRes → Prop
  | .bad => False
  | .nx s => ∀ σ' H', Rel c σ' H' s pend → D.nx σ' H'
  | .brk s => ∀ σ' H', Rel c σ' H' s pend → D.bk σ' H'
  | .cnt s => ∀ σ' H', Rel c σ' H' s pend → D.ct σ' H'
  | .ret d s => ∀ v σ' H', Rel c σ' H' s ((v, c.fr, d) :: pend) → D.rt v H'
  | .ex e s => W e s
def TSt (c : Ctx) (W : XW) (m : SM) : TS := fun D σ H => ∃ s pend, Rel c σ H s pend ∧ SG c W D pend (m s)
def PSX (c : Ctx) (W : XW) (X : Cx) (st : Stmt) (m : SM) : Prop := PS X st (TSt (c.at X.K) W m)
def PSsX (c : Ctx) (W : XW) (X : Cx) (st : List Stmt) (m : SM) : Prop := PSs X st (TSt (c.at X.K) W m)
theorem SG.og {α : Type} {c : Ctx} {W : XW} {D : Ends} {pend : List PEnt} {o : Ores α} {f : α → DS → SRes} (h : SG c W D pend (toS o f)) : OG W (fun a s => SG c W D pend (f a s)) o := by
  cases o <;> exact h
section
variable {c : Ctx} {W : XW} {X : Cx} {e a b : Expr} {es : List Expr} {m ma mb : M D} {pos pos' p : Pos} {x : Str} {i j : Nat} {as : List Arg} {st : Stmt} {rest : List Stmt} {u u1 u2 : SM}
def sNil : SM := fun s => .nx s
def sSeq (u1 u2 : SM) : SM := fun s => (u1 s).nxt u2
theorem pss_nilX : PSsX c W X [] sNil := PSsimp pss_nil fun D σ H ⟨s, pend, R, q⟩ => q σ H R
theorem pss_consX (h1 : PSX c W X st u1) (h2 : PSsX c W X rest u2) : PSsX c W X (st :: rest) (sSeq u1 u2) := PSsimp (pss_cons h1 h2) fun D σ H ⟨s, pend, R, q⟩ => by
  refine ⟨s, pend, R, ?_⟩
  unfold sSeq at q
  cases e : u1 s with
  | bad => rw [e] at q; exact q
  | nx s1 => rw [e] at q; exact fun σ' H' R' => ⟨s1, pend, R', q⟩
  | brk s1 => rw [e] at q; exact q
  | cnt s1 => rw [e] at q; exact q
  | ret d s1 => rw [e] at q; exact q
  | ex d s1 => rw [e] at q; exact q
theorem pss_oneX (h1 : PSX c W X st u1) : PSsX c W X [st] u1 := pss_one h1
/-- x = e -/
def sAsg (i : Nat) (m : M D) : SM := fun s => toS (m s) fun d s => .nx (s.set i (.pl d))
def sAsgF (i : Nat) (m : M D) : SM := fun s => toS (m s) fun d s => .nx (s.set i (.ow d))
theorem TSt_asg {D : Ends} {σ : L2.St} {H : Hp} (hi : i ≠ 0 ∨ c.io = none) (h : TSt c W (sAsg i m) D σ H) : tAsg (T c W m) (gName i) D σ H := by
  obtain ⟨s, pend, R, q⟩ := h
  exact ⟨s, pend, R, q.og.mono fun d s1 q1 v H1 R1 => q1 _ H1 (R1.set hi)⟩
theorem TSt_asgF {D : Ends} {σ : L2.St} {H : Hp} (hi : i ≠ 0 ∨ c.io = none) (h : TSt c W (sAsgF i m) D σ H) : tAsg (TF c W m) (gName i) D σ H := by
  obtain ⟨s, pend, R, q⟩ := h
  exact ⟨s, pend, R, q.og.mono fun d s1 q1 v H1 R1 => q1 _ H1 (R1.setO hi)⟩
theorem ps_asgX (hN : X.N.Nodup) (h : PX c W X e m) (hi : X.N[i]? = some x := by rfl) (hx : Loc X.env.scope x := by first | exact .inl rfl | exact .inr rfl) (hi0 : i ≠ 0 ∨ c.io = none := by first | exact .inl (by decide) | exact .inr rfl | assumption) (hs : swapsWith e (some (.Name x pos')) pos.line X.env = pure false := by rfl) (hf : X.fn x = true ∨ X.env.scope.names.lookup x = some .local := by first | exact .inl rfl | exact .inr rfl) :
    PSX c W X (.Assign [.Name x pos'] e pos) (sAsg i m) := PSimp (ps_set hN hi hx h hs hf) fun D σ H q => TSt_asg (c := c.at X.K) hi0 q
theorem ps_asgFX (hN : X.N.Nodup) (h : PXF c W X e m) (hi : X.N[i]? = some x := by rfl) (hx : Loc X.env.scope x := by first | exact .inl rfl | exact .inr rfl) (hi0 : i ≠ 0 ∨ c.io = none := by first | exact .inl (by decide) | exact .inr rfl | assumption) (hs : swapsWith e (some (.Name x pos')) pos.line X.env = pure false := by rfl) (hf : X.fn x = true ∨ X.env.scope.names.lookup x = some .local := by first | exact .inl rfl | exact .inr rfl) :
    PSX c W X (.Assign [.Name x pos'] e pos) (sAsgF i m) := PSimp (ps_set hN hi hx h hs hf) fun D σ H q => TSt_asgF (c := c.at X.K) hi0 q
/-- x op= e, x a plain value -/
def sAug (i : Nat) (f : D → D → Option D) (m : M D) : SM := fun s =>
  match s[i]? with
  | some (.pl d1) => toS (m s) fun d2 s => toS (lift (f d1 d2) s) fun d s => .nx (s.set i (.pl d))
  | _ => .bad
theorem ps_augX {op : Operator} {r : R2} {f : D → D → Option D} (ho : OpR X (inplaceOp op) r) (hd : OpD2 X.K f r) (hN : X.N.Nodup) (h : PX c W X e m) (hi : X.N[i]? = some x := by rfl) (hx : Loc X.env.scope x := by first | exact .inl rfl | exact .inr rfl) (hi0 : i ≠ 0 ∨ c.io = none := by first | exact .inl (by decide) | exact .inr rfl | assumption) (hf : X.fn x = true ∨ X.env.scope.names.lookup x = some .local := by first | exact .inl rfl | exact .inr rfl) :
    PSX c W X (.AugAssign (.Name x pos') op e pos) (sAug i f m) := PSimp (ps_aug (ti := r) hN hi hx h ho hf) fun D σ H ⟨s, pend, R, q⟩ => by
  unfold sAug at q
  cases es : s[i]? with
  | none => rw [es] at q; exact q.elim
  | some sl =>
    rw [es] at q
    cases sl with
    | no => exact q.elim
    | ow d => exact q.elim
    | vw d => exact q.elim
    | pl d1 =>
      obtain ⟨v, ev, R0⟩ := R.plainSlot es
      refine ⟨v, ev, s, _, R0, q.og.mono fun d2 s1 q1 y H1 R1 => ?_⟩
      obtain ⟨d, hd', q2⟩ := (SG.og q1).lift
      refine hd (c.at X.K) σ H1 s1 _ v y d1 d2 d _ rfl R1 (.inl ?_) (.inl ?_) hd' fun w H2 R2 => q2 _ H2 ((R2.under.under).set hi0)
      · exact R1.pd _ (List.mem_cons_of_mem _ List.mem_cons_self)
      · exact R1.pd _ List.mem_cons_self
/-- xs[k] = e, xs owned -/
def sSetL (k : Nat) (mi m : M D) : SM := fun s => toS (m s) fun d s => if isOw s[k]? = false then .bad else toS (mi s) fun di s =>
  match s[k]?, di with
  | some (.ow (.lst ds)), .int j =>
    match ixN ds.length j with
    | some n => .nx (s.set k (.ow (.lst (ds.set n d))))
    | none => .bad
  | _, _ => .bad
theorem slot_there {σ : L2.St} {H : Hp} {s : DS} {pend : List PEnt} {d : D} (R : Rel c σ H s pend) (h : slotD s[i]? = some d) : ∃ v, σ[i]? = some (some v) := by
  cases e : s[i]? with
  | none => rw [e] at h; cases h
  | some sl =>
    cases sl with
    | no => rw [e] at h; cases h
    | pl d => obtain ⟨v, ev, _⟩ := R.pl i d e; exact ⟨v, ev⟩
    | ow d => obtain ⟨v, ev, _⟩ := R.ow i d e; exact ⟨_, ev⟩
    | vw d => obtain ⟨v, ev, _⟩ := R.vw i d e; exact ⟨_, ev⟩
theorem ps_setLX {o oi : Expr} {mi : M D} (ho : PE X o (tVar i)) (hi : PX c W X oi mi) (h : PX c W X e m)
    (ha : ∀ v, assign (.Subscript o oi pos') X.env v = (do
      let ov ← holding [v] (eval o X.env)
      let iv ← holding [v, ov] (eval oi X.env)
      standAt pos'
      holding [v, ov, iv] (setItem ov iv v)
      release [v, ov, iv] []) := by intro _; rfl)
    (hs : swapsWithSole [.Subscript o oi pos'] e pos.line X.env = pure false := by rfl) (hw : swappedStores [.Subscript o oi pos'] e X.env = pure none := by rfl)
    (h1 : (assignEach [.Subscript o oi pos'] X.env).map (·.2) = [assign (.Subscript o oi pos') X.env] := by rfl) :
    PSX c W X (.Assign [.Subscript o oi pos'] e pos) (sSetL i mi m) := PSimp (ps_asg h (pg_sub ho hi set_list ha) hs hw h1) fun D σ H ⟨s, pend, R, q⟩ => by
  refine ⟨s, pend, R, q.og.mono fun d s1 q1 v H1 R1 => ?_⟩
  obtain ⟨d0, e0⟩ : ∃ d, s1[i]? = some (Sl.ow d) := by
    cases e : s1[i]? with
    | none => rw [e] at q1; exact q1.elim
    | some sl => cases sl <;> first | exact ⟨_, rfl⟩ | (rw [e] at q1; exact q1.elim)
  rw [e0, isOw_ow, if_neg (by decide)] at q1
  have q2 := SG.og q1
  -- the slot is owned behind the index
  have key : ∀ v0, σ[i]? = some (some v0) → gSub (tVar i) (T (c.at X.K) W mi) rSetL v σ H1 D.nx := fun v0 e0 => by
    refine ⟨v0, e0, s1, _, R1, q2.mono fun di s2 q3 w H2 R2 => ?_⟩
    cases es : s2[i]? with
    | none => rw [es] at q3; exact q3.elim
    | some sl =>
      cases sl with
      | no => rw [es] at q3; exact q3.elim
      | pl d => rw [es] at q3; exact q3.elim
      | vw d => rw [es] at q3; exact q3.elim
      | ow dd =>
        cases dd with
        | lst ds =>
          cases di with
          | int k =>
            simp only [es] at q3
            cases en : ixN ds.length k with
            | none => rw [en] at q3; exact q3.elim
            | some n =>
              rw [en] at q3
              obtain ⟨pp, ep, xs, ex, r⟩ := R2.ow i _ es
              rw [e0] at ep; cases ep
              have hw := R2.head
              simp only [Rep] at hw
              subst hw
              have hv : Rep _ _ H2 d v := R2.pd _ (List.mem_cons_of_mem _ List.mem_cons_self)
              refine ⟨pp, xs, k, n, rfl, rfl, ex, by rw [← r.length]; exact en, q3 _ _ ?_⟩
              exact (R2.writeS (d' := .lst (ds.set n d)) es e0 fun H' k' e' => ⟨_, e', (r.set n hv).mono k'⟩).drop.drop
          | _ => rw [es] at q3; exact q3.elim
        | _ => rw [es] at q3; exact q3.elim
  obtain ⟨p0, ep0, _⟩ := R1.ow i d0 e0
  exact key _ ep0
/-- e as a statement -/
def sExpr (m : M D) : SM := fun s => toS (m s) fun _ s => .nx s
theorem ps_exprX (h : PX c W X e m) (hs : swapsWith e none pos.line X.env = pure false := by rfl) : PSX c W X (.Expr e pos) (sExpr m) := PSimp (ps_expr h hs) fun D σ H ⟨s, pend, R, q⟩ =>
  ⟨s, pend, R, q.og.mono fun d s1 q1 v H1 R1 => q1 _ H1 R1.drop⟩
def sRet (m : M D) : SM := fun s => toS (m s) fun d s => .ret d s
theorem ps_retX (hfr : c.fr = false) (h : PX c W X e m) : PSX c W X (.Return (some e) pos) (sRet m) := PSimp (ps_ret h) fun D σ H ⟨s, pend, R, q⟩ =>
  ⟨s, pend, R, q.og.mono fun d s1 q1 v H1 R1 => q1 v σ H1 (by show Rel _ σ H1 s1 ((v, c.fr, d) :: pend); rw [hfr]; exact R1)⟩
theorem ps_retFX (hfr : c.fr = true) (h : PXF c W X e m) : PSX c W X (.Return (some e) pos) (sRet m) := PSimp (ps_ret h) fun D σ H ⟨s, pend, R, q⟩ =>
  ⟨s, pend, R, q.og.mono fun d s1 q1 v H1 R1 => q1 v σ H1 (by show Rel _ σ H1 s1 ((v, c.fr, d) :: pend); rw [hfr]; exact R1)⟩
def sRetN : SM := fun s => .ret .non s
theorem ps_retNX (hfr : c.fr = false) : PSX c W X (.Return none pos) sRetN := PSimp ps_retN fun D σ H ⟨s, pend, R, q⟩ =>
  q .non σ H (by show Rel _ σ H s ((.non, c.fr, .non) :: pend); rw [hfr]; exact R.push (by simp only [Rep]))
def sBrk : SM := fun s => .brk s
def sCnt : SM := fun s => .cnt s
theorem ps_brkX : PSX c W X (.Break pos) sBrk := PSimp ps_break fun D σ H ⟨s, pend, R, q⟩ => q σ H R
theorem ps_cntX : PSX c W X (.Continue pos) sCnt := PSimp ps_continue fun D σ H ⟨s, pend, R, q⟩ => q σ H R
theorem ps_docX {y : Str} {j' : Option Str} {j'' : Nat} {p1 p2 : Pos} (h : PS X st tNext) : PSX c W X st sNil := PSimp h fun D σ H ⟨s, pend, R, q⟩ => q σ H R
def sIf (t : M Bool) (u1 u2 : SM) : SM := fun s => toS (t s) fun b s => if b then u1 s else u2 s
theorem ps_ifX {t : M Bool} {sa sb : List Stmt} (ht : PXT c W X e t) (h1 : PSsX c W X sa u1) (h2 : PSsX c W X sb u2) : PSX c W X (.If e sa sb pos) (sIf t u1 u2) := PSimp (ps_if ht h1 h2) fun D σ H ⟨s, pend, R, q⟩ => by
  refine ⟨s, pend, R, q.og.mono fun b s1 q1 H1 R1 => ?_⟩
  cases b with
  | true => exact ⟨s1, pend, R1, q1⟩
  | false => exact ⟨s1, pend, R1, q1⟩

/-! ### targets -/
abbrev TgF := D → DS → Option DS
def TGd (c : Ctx) (g : TgF) (js : List Nat) : TG := fun v σ H Q => ∃ s pend d s', Rel c σ H s ((v, false, d) :: pend) ∧ g d s = some s' ∧ ∀ σ' H', σ'.length = σ.length → (∀ (j : Nat), j ∉ js → σ'[j]? = σ[j]?) → Rel c σ' H' s' pend → Q σ' H'
def PGX (c : Ctx) (X : Cx) (e : Expr) (g : TgF) (js : List Nat) : Prop := PG X e (TGd (c.at X.K) g js)
theorem PGimp {t t' : TG} (h : PG X e t) (i : ∀ v σ H Q, t' v σ H Q → t v σ H Q) : PG X e t' := ⟨fun pins s σ H v u Q I r q => h.run pins s σ H v u Q I r (i v σ H Q q)⟩
def gN (i : Nat) : TgF := fun d s => some (s.set i (.pl d))
theorem pgx_name (hN : X.N.Nodup) (hi : X.N[i]? = some x := by rfl) (hx : Loc X.env.scope x := by first | exact .inl rfl | exact .inr rfl) (hi0 : i ≠ 0 ∨ c.io = none := by first | exact .inl (by decide) | exact .inr rfl | assumption) (hf : X.fn x = true ∨ X.env.scope.names.lookup x = some .local := by first | exact .inl rfl | exact .inr rfl) :
    PGX c X (.Name x pos) (gN i) [i] := PGimp (pg_name hN hi hx hf) fun v σ H Q ⟨s, pend, d, s', R, e, q⟩ => by
  cases e
  exact q _ H (by simp) (fun j hj => List.getElem?_set_ne (fun z => hj (by rw [z]; exact List.mem_cons_self))) (R.set hi0)
/-- (a, b, ..) of names -/
def gNs : List Nat → List D → DS → Option DS
  | [], [], s => some s
  | i :: is, d :: ds, s => gNs is ds (s.set i (.pl d))
  | _, _, _ => none
theorem gNs_len : ∀ {is : List Nat} {ds : List D} {s s' : DS}, gNs is ds s = some s' → ds.length = is.length
  | [], [], _, _, _ => rfl
  | i :: is, d :: ds, _, _, h => congrArg Nat.succ (gNs_len (is := is) h)
  | [], _ :: _, _, _, h => by cases h
  | _ :: _, [], _, _, h => by cases h
def gT (is : List Nat) : TgF := fun d s => match d with
  | .tup ds => gNs is ds s
  | _ => none
/-- the names of a tuple target, one behind another -/
def TGs' (c : Ctx) (is : List Nat) : TGs := fun vs σ H Q => ∃ s pend ds s', Rel c σ H s pend ∧ RepL c.K (Oof c σ s pend) H ds vs ∧ gNs is ds s = some s' ∧ ∀ σ' H', σ'.length = σ.length → (∀ (j : Nat), j ∉ is → σ'[j]? = σ[j]?) → Rel c σ' H' s' pend → Q σ' H'
def PGsX (c : Ctx) (X : Cx) (es : List Expr) (is : List Nat) : Prop := PGs X es (TGs' (c.at X.K) is)
theorem PGsimp {t t' : TGs} (h : PGs X es t) (i : ∀ v σ H Q, t' v σ H Q → t v σ H Q) : PGs X es t' := ⟨fun pins s σ H v u Q I r q => h.run pins s σ H v u Q I r (i v σ H Q q)⟩
theorem pgsx_nil : PGsX c X [] [] := PGsimp pgs_nil fun vs σ H Q ⟨s, pend, ds, s', R, r, e, q⟩ => by
  cases ds with
  | nil =>
    cases e
    simp only [RepL] at r
    subst r
    exact ⟨rfl, q σ H rfl (fun _ _ => rfl) R⟩
  | cons d ds => cases e
theorem Rel.setKeeps {σ : L2.St} {H : Hp} {s : DS} {pend : List PEnt} {v : V} {d : D} (R : Rel c σ H s pend) : ∀ a, Oof c (σ.set i (some v)) (s.set i (.pl d)) pend a → Oof c σ s pend a := fun a h => by
  rcases h with h | h | ⟨j, h⟩
  · exact .inl h
  · exact .inr (.inl h)
  · rcases owat_set h with ⟨_, h⟩ | ⟨_, _, d', e⟩
    · exact .inr (.inr ⟨j, h⟩)
    · cases e
theorem pgsx_cons {is : List Nat} (hN : X.N.Nodup) (hr : PGsX c X es is) (hi : X.N[i]? = some x := by rfl) (hx : Loc X.env.scope x := by first | exact .inl rfl | exact .inr rfl) (hi0 : i ≠ 0 ∨ c.io = none := by first | exact .inl (by decide) | exact .inr rfl | assumption) (hf : X.fn x = true ∨ X.env.scope.names.lookup x = some .local := by first | exact .inl rfl | exact .inr rfl)
    (hs : (assignEach (.Name x pos :: es) X.env).map (·.2) = assign (.Name x pos) X.env :: (assignEach es X.env).map (·.2) := by rfl) : PGsX c X (.Name x pos :: es) (i :: is) := PGsimp (pgs_cons (pg_name hN hi hx hf) hr hs) fun vs σ H Q ⟨s, pend, ds, s', R, r, e, q⟩ => by
  cases ds with
  | nil => cases e
  | cons d ds =>
    simp only [RepL] at r
    obtain ⟨v, rr, ev, r1, r2⟩ := r
    subst ev
    have R1 := (R.push r1).set (i := i) hi0
    refine ⟨v, rr, rfl, s.set i (.pl d), pend, ds, s', R1, r2.mono (Keep.less (R.setKeeps (i := i))), e, fun σ' H' hl hj R' => ?_⟩
    refine q σ' H' (by rw [hl]; simp) (fun j hj' => ?_) R'
    have h1 : j ∉ is := fun z => hj' (List.mem_cons_of_mem _ z)
    have h2 : i ≠ j := fun z => hj' (by rw [z]; exact List.mem_cons_self)
    rw [hj j h1, List.getElem?_set_ne h2]
theorem pgx_tup {is : List Nat} {n k : Nat} (hc : X.calm = true) (h : PGsX c X es is) (hl : is.length = n := by rfl) (hn : (assignEach es X.env).length = n := by rfl) (hst : (assignEach es X.env).findIdx? (·.1) = none := by rfl) : PGX c X (.Tuple es k pos) (gT is) is :=
  PGimp (pg_tup hc h hn hst) fun v σ H Q ⟨s, pend, d, s', R, e, q⟩ => by
    cases d with
    | tup ds =>
      have r := R.head
      simp only [Rep] at r
      obtain ⟨a, xs, ev, t, r⟩ := r
      refine ⟨a, xs, ev, t.sq, ?_, s, pend, ds, s', R.drop, r, e, q⟩
      rw [← r.length]
      exact (gNs_len (show gNs is ds s = some s' from e)).trans hl
    | _ => cases e

/-! ### what is walked -/
def WalkD (c : Ctx) (J : It) (ds : List D) (ext : List PEnt) : Prop := ∀ (σ : L2.St) (H : Hp) (s : DS) (P : List PEnt), Rel c σ H s P → (∀ e ∈ ext, e ∈ P) →
  (∀ i, i < ds.length → J.go i H) ∧ J.stop ds.length H ∧ ∀ i x H' d, ds[i]? = some d → J.yld i H x H' → Rel c σ H' s ((x, false, d) :: P)
def TId (c : Ctx) (W : XW) (m : M (List D)) : TI := fun σ H R => ∃ s pend, Rel c σ H s pend ∧ OG W (fun ds s' => ∀ J H' ext, (∀ e ∈ ext, ∃ v d, e = (v, false, d)) → WalkD c J ds ext → Rel c σ H' s' (ext ++ pend) → R J H') (m s)
def PIX (c : Ctx) (W : XW) (X : Cx) (tg e : Expr) (m : M (List D)) : Prop := PI X tg e (TId (c.at X.K) W m)
theorem PIimp {tg : Expr} {t t' : TI} (h : PI X tg e t) (i : ∀ σ H R, t' σ H R → t σ H R) : PI X tg e t' := ⟨fun pins s σ H R I q => h.run pins s σ H R I (i σ H R q)⟩
theorem Rel.dropL {σ : L2.St} {H : Hp} {s : DS} : ∀ {ext pend : List PEnt}, Rel c σ H s (ext ++ pend) → Rel c σ H s pend
  | [], _, R => R
  | _ :: ext, _, R => Rel.dropL (ext := ext) R.drop
theorem Rel.underL {σ : L2.St} {H : Hp} {s : DS} {v : V} {bb : Bool} {d : D} : ∀ {ext pend : List PEnt}, (∀ e ∈ ext, ∃ v d, e = (v, false, d)) → Rel c σ H s ((v, bb, d) :: (ext ++ pend)) → Rel c σ H s ((v, bb, d) :: pend)
  | [], _, _, R => R
  | e :: ext, pend, h, R => by
    obtain ⟨w, d', e1⟩ := h e List.mem_cons_self
    subst e1
    refine Rel.underL (ext := ext) (fun e he => h e (List.mem_cons_of_mem _ he)) ?_
    cases bb with
    | false => exact R.under
    | true => exact R.underT
/-- the items of a list, of a tuple that is a value -/
def mItems (m : M D) : M (List D) := fun s => (m s).bind fun d s => match d with
  | .lst ds => .ok ds s
  | .scr ds => .ok ds s
  | _ => .bad
def mItemsT (m : M D) : M (List D) := fun s => (m s).bind fun d s => match d with
  | .tup ds => .ok ds s
  | _ => .bad
theorem walk_lst {K : PySem.W.Frag} {v : V} {d : D} {ds : List D} {a : Addr} (hv : v = .ref a) (hd : ∀ O H, Rep K O H d v → ∃ xs, SqL K H a xs ∧ RepL K O H ds xs) (hK : c.K = K) : WalkD c (Itl K a) ds [(v, false, d)] := by
  intro σ H s P R hP
  have rep : Rep c.K (Oof c σ s P) H d v := R.pd _ (hP _ List.mem_cons_self)
  rw [hK] at rep
  obtain ⟨xs, hq, r⟩ := hd _ _ rep
  refine ⟨fun i hi => ?_, ⟨xs, hq, by rw [r.length]; exact Nat.le_refl _⟩, fun i x H' d' e y => ?_⟩
  · have hi' : i < xs.length := by rw [← r.length]; exact hi
    exact ⟨xs, xs[i], hq, List.getElem?_eq_getElem hi'⟩
  · obtain ⟨e1, y⟩ := y
    subst e1
    obtain ⟨x', ex, rx⟩ := r.get e
    rw [y xs hq] at ex; cases ex
    refine R.push ?_
    rw [hK]
    exact rx
theorem walk_tupD {K : PySem.W.Frag} {v : V} {ds : List D} {a : Addr} (hv : v = .ref a) (hK : c.K = K) : WalkD c (Itt K a) ds [(v, false, .tup ds)] := by
  intro σ H s P R hP
  have rep : Rep c.K (Oof c σ s P) H (.tup ds) v := R.pd _ (hP _ List.mem_cons_self)
  rw [hK] at rep
  simp only [Rep] at rep
  obtain ⟨a', xs, ea, t, r⟩ := rep
  rw [hv] at ea; cases ea
  have hq := t.sq
  refine ⟨fun i hi => ?_, ⟨xs, hq, by rw [r.length]; exact Nat.le_refl _⟩, fun i x H' d' e y => ?_⟩
  · have hi' : i < xs.length := by rw [← r.length]; exact hi
    exact ⟨xs, xs[i], hq, List.getElem?_eq_getElem hi'⟩
  · obtain ⟨e1, y⟩ := y
    subst e1
    obtain ⟨x', ex, rx⟩ := r.get e
    rw [y xs hq] at ex; cases ex
    refine R.push ?_
    rw [hK]
    exact rx
theorem pix_list {tg : Expr} (h : PX c W X e m) : PIX c W X tg e (mItems m) := PIimp (pi_list h) fun σ H Rr ⟨s, pend, R, q⟩ => by
  refine ⟨s, pend, R, q.bind.mono fun d s1 q1 v H1 R1 => ?_⟩
  cases d with
  | lst ds =>
    have rep := R1.head
    simp only [Rep] at rep
    obtain ⟨a, xs, ea, n, t, r⟩ := rep
    refine ⟨a, ea, ⟨xs, SqL.of t⟩, q1 _ H1 [(v, false, .lst ds)] (fun e he => ⟨v, .lst ds, by simpa using he⟩) (walk_lst ea (fun O H h => ?_) rfl) R1⟩
    simp only [Rep] at h
    obtain ⟨a', xs', ea', n', t', r'⟩ := h
    rw [ea] at ea'; cases ea'
    exact ⟨xs', SqL.of t', r'⟩
  | scr ds =>
    have rep := R1.head
    simp only [Rep] at rep
    obtain ⟨a, xs, ea, t, r⟩ := rep
    refine ⟨a, ea, ⟨xs, t.sq⟩, q1 _ H1 [(v, false, .scr ds)] (fun e he => ⟨v, .scr ds, by simpa using he⟩) (walk_lst ea (fun O H h => ?_) rfl) R1⟩
    simp only [Rep] at h
    obtain ⟨a', xs', ea', t', r'⟩ := h
    rw [ea] at ea'; cases ea'
    exact ⟨xs', t'.sq, r'⟩
  | _ => exact q1.elim
theorem pix_tup {tg : Expr} (h : PX c W X e m) : PIX c W X tg e (mItemsT m) := PIimp (pi_tup h) fun σ H Rr ⟨s, pend, R, q⟩ => by
  refine ⟨s, pend, R, q.bind.mono fun d s1 q1 v H1 R1 => ?_⟩
  cases d with
  | tup ds =>
    have rep := R1.head
    simp only [Rep] at rep
    obtain ⟨a, xs, ea, t, r⟩ := rep
    exact ⟨a, ea, ⟨xs, t.sq⟩, q1 _ H1 [(v, false, .tup ds)] (fun e he => ⟨v, .tup ds, by simpa using he⟩) (walk_tupD ea rfl) R1⟩
  | _ => exact q1.elim
/-- range(n), range(a, b) -/
def rngD (lo : Int) (n : Nat) : List D := (List.range n).map fun (i : Nat) => D.int (lo + (i : Int))
noncomputable def mRng1 (as : List Arg) : M (List D) := fun s => (mArgs as s).bind fun avs s => match getL avs s with
  | some [.int n] => @ite _ (n < 2 ^ 62 ∧ -(2 ^ 62) ≤ n) (cI _) (.ok (rngD 0 n.toNat) s) .bad
  | _ => .bad
noncomputable def mRng2 (as : List Arg) : M (List D) := fun s => (mArgs as s).bind fun avs s => match getL avs s with
  | some [.int i, .int j] => @ite _ (-(2 ^ 62) ≤ i ∧ i < 2 ^ 62 ∧ -(2 ^ 62) ≤ j ∧ j < 2 ^ 62) (cI _) (.ok (rngD i (j - i).toNat) s) .bad
  | _ => .bad
theorem walk_rng {lo : Int} {n : Nat} : WalkD c (Itr lo n) (rngD lo n) [] := by
  intro σ H s P R hP
  refine ⟨fun i hi => by show i < n; simpa [rngD] using hi, by show n ≤ (rngD lo n).length; simp [rngD], fun i x H' d e y => ?_⟩
  obtain ⟨e1, y⟩ := y
  subst e1 y
  refine R.push ?_
  unfold rngD at e
  rw [List.getElem?_map] at e
  cases g : (List.range n)[i]? with
  | none => rw [g] at e; cases e
  | some k =>
    rw [g] at e; cases e
    obtain ⟨h1, h2⟩ := List.getElem?_eq_some_iff.mp g
    simp at h2
    subst h2
    simp only [Rep]
theorem vw_int {K : PySem.W.Frag} {O : Addr → Prop} {H : Hp} {k : Int} {x : V} (h : Vw K O H (.int k) x) : x = .int k := by
  rcases h with h | ⟨p, e, h⟩
  · simpa only [Rep] using h
  · exact h.elim
theorem args_view {σ : L2.St} {H : Hp} {s : DS} : ∀ {avs : List AV} {xs : List V} {ds : List D} {pend P : List PEnt}, Rel c σ H s P → getL avs s = some ds → aSls avs xs σ → (∀ e ∈ aPends avs xs pend, e ∈ P) → Paired (Vw c.K (Oof c σ s P) H) ds xs
  | [], [], ds, _, _, R, e, _, _ => by cases e; exact .nil
  | [], _ :: _, _, _, _, _, _, h, _ => h.elim
  | _ :: _, [], _, _, _, _, _, h, _ => h.elim
  | av :: avs, x :: xs, ds, pend, P, R, e, h, p => by
    simp only [getL] at e
    cases g0 : aGet av s with
    | none => rw [g0] at e; cases e
    | some d =>
      rw [g0] at e
      simp only [Option.bind_some] at e
      cases g : getL avs s with
      | none => rw [g] at e; cases e
      | some r =>
        rw [g] at e; cases e
        exact .cons (R.viewA g0 h.1 fun e he => p _ (mem_aPends (avs := avs) (xs := xs) (mem_aPend1 e he))) (args_view R g h.2 p)
theorem pix_rng1 {tg : Expr} (hm : X.mg "range" = none) (ha : PAs c W X [a] as) (hg : Gl X "range" := by rfl) (hs : starEach [a] X.env = [(false, eval a X.env)] := by rfl) : PIX c W X tg (.Call (.Name "range" p) [a] [] pos) (mRng1 as) := PIimp (pi_range1 hg hm ha hs) fun σ H Rr ⟨s, pend, R, q⟩ => by
  refine ⟨s, pend, R, q.bind.mono fun avs s1 q1 xs H1 e1 R1 => ?_⟩
  cases g : getL avs s1 with
  | none => rw [g] at q1; exact q1.elim
  | some ds =>
    have pv := args_view R1 g e1 fun e h => h
    rw [g] at q1
    match ds, q1, pv with
    | [.int n], q1, .cons h1 .nil =>
      have := vw_int h1
      subst this
      by_cases hn : n < 2 ^ 62 ∧ -(2 ^ 62) ≤ n
      · simp only [if_pos hn] at q1
        exact ⟨n, rfl, hn.2, hn.1, q1 _ H1 [] (fun _ h => nomatch h) walk_rng R1.dropAs0⟩
      · simp only [if_neg hn] at q1
        exact q1.elim
theorem pix_rng2 {tg : Expr} (hm : X.mg "range" = none) (ha : PAs c W X [a, b] as) (hg : Gl X "range" := by rfl) (hs : starEach [a, b] X.env = [(false, eval a X.env), (false, eval b X.env)] := by rfl) (hs2 : starEach [b] X.env = [(false, eval b X.env)] := by rfl) :
    PIX c W X tg (.Call (.Name "range" p) [a, b] [] pos) (mRng2 as) := PIimp (pi_range2 hg hm ha hs hs2) fun σ H Rr ⟨s, pend, R, q⟩ => by
  refine ⟨s, pend, R, q.bind.mono fun avs s1 q1 xs H1 e1 R1 => ?_⟩
  cases g : getL avs s1 with
  | none => rw [g] at q1; exact q1.elim
  | some ds =>
    have pv := args_view R1 g e1 fun e h => h
    rw [g] at q1
    match ds, q1, pv with
    | [.int i, .int j], q1, .cons h1 (.cons h2 .nil) =>
      have := vw_int h1
      have := vw_int h2
      subst_vars
      by_cases hn : -(2 ^ 62) ≤ i ∧ i < 2 ^ 62 ∧ -(2 ^ 62) ≤ j ∧ j < 2 ^ 62
      · simp only [if_pos hn] at q1
        exact ⟨i, j, rfl, hn, q1 _ H1 [] (fun _ h => nomatch h) walk_rng R1.dropAs0⟩
      · simp only [if_neg hn] at q1
        exact q1.elim

/-! ### for -/
def forLoop (g : TgF) (u : SM) : List D → SM
  | [], s => .nx s
  | d :: ds, s => match g d s with
    | none => .bad
    | some s => match u s with
      | .nx s => forLoop g u ds s
      | .cnt s => forLoop g u ds s
      | .brk s => .nx s
      | r => r
def sFor (mi : M (List D)) (g : TgF) (u : SM) : SM := fun s => toS (mi s) fun ds s => forLoop g u ds s
theorem TSt_for {g : TgF} {js : List Nat} {mi : M (List D)} {D0 : Ends} {σ : L2.St} {H : Hp} (h : TSt c W (sFor mi g u) D0 σ H) : tFor (TId c W mi) (TGd c g js) (TSt c W u) D0 σ H := by
  obtain ⟨s, pend, R, q⟩ := h
  refine ⟨s, pend, R, q.og.mono fun ds s1 q1 J H1 ext hext wk R1 => ?_⟩
  refine ⟨fun i m σ' H' => m = ds.length - i ∧ i ≤ ds.length ∧ ∃ s', Rel c σ' H' s' (ext ++ pend) ∧ SG c W D0 pend (forLoop g u (ds.drop i) s'), ⟨ds.length, by simp, Nat.zero_le _, s1, R1, q1⟩, ?_⟩
  rintro i m σ' H' ⟨rfl, hi, s', R', q'⟩
  obtain ⟨go, stop, yld⟩ := wk σ' H' s' _ R' fun e h => List.mem_append_left _ h
  by_cases hlt : i < ds.length
  · rw [List.drop_eq_getElem_cons hlt] at q'
    refine .inr ⟨go i hlt, fun σ2 H2 => ∃ s2, Rel c σ2 H2 s2 (ext ++ pend) ∧ SG c W D0 pend (forLoop g u (ds.drop (i + 1)) s2), fun σ2 H2 h2 => ⟨ds.length - (i + 1), by omega, rfl, hlt, h2⟩, fun x H2 y => ?_⟩
    have R2 := yld i x H2 ds[i] (List.getElem?_eq_getElem hlt) y
    simp only [forLoop] at q'
    cases eg : g ds[i] s' with
    | none => rw [eg] at q'; exact q'.elim
    | some s2 =>
      rw [eg] at q'
      refine ⟨s', ext ++ pend, ds[i], s2, R2, eg, fun σ3 H3 _ _ R3 => ⟨s2, ext ++ pend, R3, ?_⟩⟩
      simp only at q'
      cases eu : u s2 with
      | bad => rw [eu] at q'; exact q'.elim
      | nx s3 => rw [eu] at q'; exact fun σ4 H4 R4 => ⟨s3, R4, q'⟩
      | cnt s3 => rw [eu] at q'; exact fun σ4 H4 R4 => ⟨s3, R4, q'⟩
      | brk s3 => rw [eu] at q'; exact fun σ4 H4 R4 => q' σ4 H4 R4.dropL
      | ret d s3 => rw [eu] at q'; exact fun v σ4 H4 R4 => q' v σ4 H4 (R4.underL hext)
      | ex d s3 => rw [eu] at q'; exact q'
  · have e : i = ds.length := by omega
    subst e
    rw [List.drop_length] at q'
    exact .inl ⟨stop, q' σ' H' R'.dropL⟩
theorem ps_forX {tg : Expr} {g : TgF} {js : List Nat} {mi : M (List D)} {body : List Stmt} (hp : PassesOwn (model X.prog X.w) X.A X.env X.xe) (hi : PIX c W X tg e mi) (hg : PGX c X tg g js) (hb : PSsX c W X body u) (hc : X.calm = true := by rfl) (hs : ∀ x, foldedSetIterable e X.env x = pure x := by intro _; rfl) :
    PSX c W X (.For tg e body [] pos) (sFor mi g u) := PSimp (ps_for hp hc hi hg hb hs) fun D σ H q => TSt_for (c := c.at X.K) q
end
end DL

set_option Elab.async false
set_option linter.all false
set_option autoImplicit false
set_option maxRecDepth 100000
namespace DL
variable [TQ]
open PySem PySem.Spec PyProof.Rows L2

/-! ### comprehensions -/
def wipeS (s : DS) : List Nat → DS
  | [] => s
  | v :: vs => (wipeS s vs).set v .no
theorem wipeS_len {s : DS} : ∀ {vs : List Nat}, (wipeS s vs).length = s.length
  | [] => rfl
  | v :: vs => by unfold wipeS; rw [List.length_set, wipeS_len]
theorem wipeS_get {s : DS} {i : Nat} : ∀ {vs : List Nat}, (i ∈ vs ∧ (wipeS s vs)[i]? = some Sl.no) ∨ ((i ∉ vs ∨ s.length ≤ i) ∧ (wipeS s vs)[i]? = s[i]?)
  | [] => .inr ⟨.inl (by simp), rfl⟩
  | v :: vs => by
    unfold wipeS
    by_cases e : v = i
    · subst e
      by_cases h : v < (wipeS s vs).length
      · rw [List.getElem?_set_self h]; exact .inl ⟨List.mem_cons_self, rfl⟩
      · have h' : s.length ≤ v := by rw [wipeS_len] at h; omega
        rw [List.getElem?_eq_none (by rw [List.length_set]; omega), List.getElem?_eq_none h']
        exact .inr ⟨.inr h', rfl⟩
    · rw [List.getElem?_set_ne e]
      rcases wipeS_get (s := s) (i := i) (vs := vs) with ⟨z1, z⟩ | ⟨z1, z2⟩
      · exact .inl ⟨List.mem_cons_of_mem _ z1, z⟩
      · refine .inr ⟨?_, z2⟩
        rcases z1 with z1 | z1
        · exact .inl (by simp [z1, Ne.symm e])
        · exact .inr z1
theorem wipe_get {σ : L2.St} {i : Nat} : ∀ {vs : List Nat}, (i ∉ vs ∨ σ.length ≤ i) → (wipe σ vs)[i]? = σ[i]?
  | [], _ => rfl
  | v :: vs, h => by
    unfold wipe
    by_cases e : v = i
    · subst e
      rcases h with h | h
      · exact absurd List.mem_cons_self h
      · rw [List.getElem?_eq_none (by rw [List.length_set, wipe_length]; omega), List.getElem?_eq_none h]
    · rw [List.getElem?_set_ne e]
      exact wipe_get (h.imp (fun h z => h (List.mem_cons_of_mem _ z)) fun h => h)
theorem wipe_no {σ : L2.St} {i : Nat} : ∀ {vs : List Nat}, i ∈ vs → (wipe σ vs)[i]? = some none ∨ σ.length ≤ i
  | v :: vs, h => by
    unfold wipe
    by_cases e : v = i
    · subst e
      by_cases h : v < σ.length
      · rw [List.getElem?_set_self (by rw [wipe_length]; exact h)]; exact .inl rfl
      · exact .inr (by omega)
    · rw [List.getElem?_set_ne e]
      exact wipe_no ((List.mem_cons.mp h).resolve_left fun z => e z.symm)
theorem wipe_eq {σ σ' : L2.St} {vs : List Nat} (hl : σ'.length = σ.length) (h : ∀ (j : Nat), j ∉ vs → σ'[j]? = σ[j]?) : wipe σ' vs = wipe σ vs := by
  apply List.ext_getElem?
  intro i
  by_cases hi : i ∈ vs
  · by_cases hz : σ.length ≤ i
    · rw [List.getElem?_eq_none (by rw [wipe_length]; omega), List.getElem?_eq_none (by rw [wipe_length]; omega)]
    · rcases wipe_no (σ := σ) hi with z | z
      · rcases wipe_no (σ := σ') hi with w | w
        · rw [z, w]
        · omega
      · omega
  · rw [wipe_get (.inl hi), wipe_get (.inl hi), h i hi]
def lcLoop (g : TgF) (vs : List Nat) (t : M Bool) (me : M D) : List D → DS → List D → Ores D
  | [], s, acc => .ok (.lst acc) s
  | d :: ds, s, acc => match g d s with
    | none => .bad
    | some s => (t s).bind fun b s => if b then (me s).bind fun y s => lcLoop g vs t me ds (wipeS s vs) (acc ++ [y]) else lcLoop g vs t me ds (wipeS s vs) acc
def mLc (mi : M (List D)) (vs : List Nat) (g : TgF) (t : M Bool) (me : M D) : M D := fun s => (mi s).bind fun ds s => if 100000 < ds.length then .bad else lcLoop g vs t me ds (wipeS s vs) []
theorem Rel.grows {c : Ctx} {σ : L2.St} {H : Hp} {s : DS} {pend : List PEnt} {y : V} {d : D} {p : Addr} {ds : List D} (R : Rel c σ H s ((y, false, d) :: (.ref p, true, .lst ds) :: pend)) :
    ∃ xs, H p = some (.lst xs) ∧ xs.length = ds.length ∧ Rel c σ (upd H p (.lst (xs ++ [y]))) s ((.ref p, true, .lst (ds ++ [d])) :: pend) := by
  have h := R.head
  have R2 := R.drop
  obtain ⟨p', ep, xs, e, r⟩ := R2.pd _ List.mem_cons_self
  cases ep
  exact ⟨xs, e, r.length.symm, R2.writeP fun H' k e' => ⟨_, e', (r.append (RepL.cons h RepL.nil)).mono k⟩⟩
section
variable {c : Ctx} {W : XW} {X : Cx} {e a b : Expr} {es : List Expr} {m ma mb me : M D} {pos pos' p : Pos} {x : Str} {i j : Nat} {as : List Arg} {st : Stmt} {rest : List Stmt} {u u1 u2 : SM} {g : TgF} {js vs : List Nat} {mi : M (List D)} {t : M Bool}
theorem TF_lc {σ : L2.St} {H : Hp} {Q : VK} (hj : ∀ j ∈ js, j ∈ vs) (h0 : 0 ∉ vs ∨ c.io = none) (h : TF c W (mLc mi vs g t me) σ H Q) : tLc (TId c W mi) (TGd c g js) (TB c W t) (T c W me) vs σ H Q := by
  obtain ⟨s, pend, R, q⟩ := h
  refine ⟨s, pend, R, q.bind.mono fun ds s1 q1 J H1 ext hext wk R1 Dl hD => ?_⟩
  by_cases hbig : 100000 < ds.length
  · rw [if_pos hbig] at q1; exact q1.elim
  rw [if_neg hbig] at q1
  have io0 : ∀ {s : DS}, (∃ p, c.io = some p) → (wipeS s vs)[0]? = s[0]? := fun {s} ⟨p, hp⟩ => by
    rcases wipeS_get (s := s) (i := 0) (vs := vs) with ⟨z, _⟩ | ⟨_, z⟩
    · rcases h0 with h0 | h0
      · exact absurd z h0
      · rw [h0] at hp; cases hp
    · exact z
  have wiped : ∀ {σ' : L2.St} {H' : Hp} {s' : DS} {P : List PEnt}, σ'.length = σ.length → wipe σ' vs = wipe σ vs → Rel c σ' H' s' P → Rel c (wipe σ vs) H' (wipeS s' vs) P := fun {σ' H' s' P} hl hw R' => by
    refine R'.forget (by rw [wipe_length, hl]) wipeS_len (fun j => ?_) fun p hp => ?_
    · rcases wipeS_get (s := s') (i := j) (vs := vs) with ⟨_, z⟩ | ⟨z1, z2⟩
      · exact .inl z
      · refine .inr ⟨z2, ?_⟩
        rw [← hw]
        exact wipe_get (z1.imp (fun h => h) fun h => by rw [R'.len]; exact h)
    · rw [io0 ⟨p, hp⟩]
      obtain ⟨_, d, z⟩ := R'.iok p hp
      rw [z]
      exact fun z => by cases z
  have clear : ∀ {s' : DS}, ∀ j ∈ vs, (wipeS s' vs)[j]? = some Sl.no ∨ s'.length ≤ j := fun {s'} j hj => by
    rcases wipeS_get (s := s') (i := j) (vs := vs) with ⟨_, z⟩ | ⟨z1, z2⟩
    · exact .inl z
    · exact .inr (z1.resolve_left fun z => z hj)
  have R2 : Rel c σ (upd H1 Dl (.lst [])) s1 ((.ref Dl, true, .lst []) :: (ext ++ pend)) := R1.lst hD RepL.nil
  refine ⟨fun i m H' => m = ds.length - i ∧ i ≤ ds.length ∧ ∃ s' acc, Rel c (wipe σ vs) H' s' ((.ref Dl, true, .lst acc) :: (ext ++ pend)) ∧ (∀ j ∈ vs, s'[j]? = some Sl.no ∨ s'.length ≤ j) ∧ acc.length ≤ i ∧ OG W (fun d s' => ∀ v H', Rel c σ H' s' ((v, true, d) :: pend) → Q v H') (lcLoop g vs t me (ds.drop i) s' acc),
    ⟨ds.length, by simp, Nat.zero_le _, wipeS s1 vs, [], wiped rfl rfl R2, fun j hj => by rw [wipeS_len]; exact clear j hj, Nat.le_refl _, q1⟩, ?_⟩
  rintro i m H' ⟨rfl, hi, s', acc, R', hcl, hacc, q'⟩
  obtain ⟨go, stop, yld⟩ := wk _ H' s' _ R' fun e h => List.mem_cons_of_mem _ (List.mem_append_left _ h)
  by_cases hlt : i < ds.length
  · rw [List.drop_eq_getElem_cons hlt] at q'
    refine .inr ⟨go i hlt, fun H2 => ∃ s2 acc, Rel c (wipe σ vs) H2 s2 ((.ref Dl, true, .lst acc) :: (ext ++ pend)) ∧ (∀ j ∈ vs, s2[j]? = some Sl.no ∨ s2.length ≤ j) ∧ acc.length ≤ i + 1 ∧ OG W (fun d s' => ∀ v H', Rel c σ H' s' ((v, true, d) :: pend) → Q v H') (lcLoop g vs t me (ds.drop (i + 1)) s2 acc),
      fun H2 ⟨s2, acc, h1, h2, h3, h4⟩ => ⟨ds.length - (i + 1), by omega, rfl, hlt, s2, acc, h1, h2, h3, h4⟩, fun x H2 y => ?_⟩
    have R3 := yld i x H2 ds[i] (List.getElem?_eq_getElem hlt) y
    simp only [lcLoop] at q'
    cases eg : g ds[i] s' with
    | none => rw [eg] at q'; exact q'.elim
    | some s2 =>
      rw [eg] at q'
      refine ⟨s', _, ds[i], s2, R3, eg, fun σ3 H3 hl3 hs3 R3 => ⟨?_, s2, _, R3, q'.bind.mono fun bb s4 q4 H4 R4 => ?_⟩⟩
      · have e1 : wipe σ3 vs = wipe (wipe σ vs) vs := wipe_eq hl3 fun j hj' => hs3 j fun z => hj' (hj j z)
        rw [e1]
        exact wipe_eq (by rw [wipe_length]) fun j hj' => wipe_get (.inl hj')
      · have hlσ : σ3.length = σ.length := by rw [hl3, wipe_length]
        have hwσ : wipe σ3 vs = wipe σ vs := by
          have e1 : wipe σ3 vs = wipe (wipe σ vs) vs := wipe_eq hl3 fun j hj' => hs3 j fun z => hj' (hj j z)
          rw [e1]
          exact wipe_eq (by rw [wipe_length]) fun j hj' => wipe_get (.inl hj')
        cases bb with
        | true =>
          rw [if_pos rfl] at q4
          refine iteT ⟨s4, _, R4, q4.bind.mono fun dy s5 q5 y H5 R5 => ?_⟩
          obtain ⟨xs, e1, e2, R6⟩ := R5.grows
          refine ⟨xs, e1, ?_, wipeS s5 vs, acc ++ [dy], wiped hlσ hwσ R6, fun j hj => by rw [wipeS_len]; exact clear j hj, by simp; omega, q5⟩
          rw [e2]
          exact Nat.lt_of_lt_of_le (show acc.length < 100001 by omega) (by decide)
        | false =>
          rw [if_neg (by decide)] at q4
          exact iteF ⟨wipeS s4 vs, acc, wiped hlσ hwσ R4, fun j hj => by rw [wipeS_len]; exact clear j hj, by omega, q4⟩
  · have e : i = ds.length := by omega
    subst e
    rw [List.drop_length] at q'
    refine .inl ⟨stop, q' _ H' (R'.underL hext |>.forget (by rw [wipe_length]) rfl (fun j => ?_) fun p hp => ?_)⟩
    · by_cases hj' : j ∈ vs
      · rcases hcl j hj' with z | z
        · exact .inl z
        · have z' : σ.length ≤ j := by have := R'.len; rw [wipe_length] at this; omega
          exact .inr ⟨rfl, by rw [List.getElem?_eq_none z', List.getElem?_eq_none (by rw [wipe_length]; exact z')]⟩
      · exact .inr ⟨rfl, (wipe_get (.inl hj')).symm⟩
    · obtain ⟨_, d, z⟩ := R'.iok p hp
      rw [z]
      exact fun z => by cases z
def PTsX (c : Ctx) (W : XW) (X : Cx) (ifs : List Expr) (t : M Bool) : Prop := PTs X ifs (TB (c.at X.K) W t)
def mYes : M Bool := fun s => .ok true s
theorem PTsimp {ifs : List Expr} {t t' : TT} (h : PTs X ifs t) (i : ∀ σ H Q, t' σ H Q → t σ H Q) : PTs X ifs t' := ⟨fun pins s σ H Q I q => h.run pins s σ H Q I (i σ H Q q)⟩
theorem ptsx_nil : PTsX c W X [] mYes := PTsimp pts_nil fun σ H Q ⟨s, pend, R, q⟩ => q H R
theorem ptsx_one (h : PXT c W X e t) : PTsX c W X [e] t := pts_one h
theorem pxf_lc {elt tg iter : Expr} {ifs : List Expr} {scope : Scope} {own : List (Str × Nat)} (hN : X.N.Nodup) (hi : PIX c W X tg iter mi) (ok : BlkOk X.N X.env.scope scope own)
    (hg : ∀ (s : Shared) (H : Hp) (C : Addr) (cl : List (Str × Addr)) (fp : List Addr), PGX c (X.blk s H scope (compEnvC scope cl C X.env) fp) tg g js) (ht : ∀ (s : Shared) (H : Hp) (C : Addr) (cl : List (Str × Addr)) (fp : List Addr), PTsX c W (X.blk s H scope (compEnvC scope cl C X.env) fp) ifs t)
    (he : ∀ (s : Shared) (H : Hp) (C : Addr) (cl : List (Str × Addr)) (fp : List Addr), PX c W (X.blk s H scope (compEnvC scope cl C X.env) fp) elt me) (hj : js.all (fun j => (own.map (·.2)).contains j) = true := by rfl) (h0 : 0 ∉ own.map (·.2) ∨ c.io = none := by first | exact .inl (by decide) | exact .inr rfl | assumption) (hc : X.calm = true := by rfl) (hs : ∀ x, foldedSetIterable iter X.env x = pure x := by intro _; rfl) :
    PXF c W X (.ListComp elt [⟨tg, iter, ifs, 0⟩] scope pos) (mLc mi (own.map (·.2)) g t me) :=
  PEimp (pe_lc (g := TGd (c.at X.K) g js) (tt := TB (c.at X.K) W t) (te := T (c.at X.K) W me) hc hN hi ok hg ht he hs) fun σ H Q q => TF_lc (c := c.at X.K) (fun j h => List.contains_iff_mem.mp (List.all_eq_true.mp hj j h)) h0 q
/-- name = [..] on one line -/
theorem ps_asgLcX {y : Str} {py : Pos} {elt tg iter : Expr} {ifs : List Expr} {scope : Scope} {own : List (Str × Nat)} {spos : Pos} (hN : X.N.Nodup) (hi : PIX c W X tg iter mi) (ok : BlkOk X.N X.env.scope scope own)
    (hg : ∀ (s : Shared) (H : Hp) (C : Addr) (cl : List (Str × Addr)) (fp : List Addr), PGX c (X.blk s H scope (compEnvC scope cl C X.env) fp) tg g js) (ht : ∀ (s : Shared) (H : Hp) (C : Addr) (cl : List (Str × Addr)) (fp : List Addr), PTsX c W (X.blk s H scope (compEnvC scope cl C X.env) fp) ifs t)
    (he : ∀ (s : Shared) (H : Hp) (C : Addr) (cl : List (Str × Addr)) (fp : List Addr), PX c W (X.blk s H scope (compEnvC scope cl C X.env) fp) elt me) (hsw : swapsWith (.ListComp elt [⟨tg, iter, ifs, 0⟩] scope pos) (some (.Name y py)) spos.line X.env = pure true) (hy : X.N[i]? = some y := by rfl) (hyl : X.env.scope.names.lookup y = some .local := by rfl)
    (hi0 : i ≠ 0 ∨ c.io = none := by first | exact .inl (by decide) | exact .inr rfl | assumption) (hj : js.all (fun j => (own.map (·.2)).contains j) = true := by rfl) (h0 : 0 ∉ own.map (·.2) ∨ c.io = none := by first | exact .inl (by decide) | exact .inr rfl | assumption) (hc : X.calm = true := by rfl) (hs : ∀ x, foldedSetIterable iter X.env x = pure x := by intro _; rfl) :
    PSX c W X (.Assign [.Name y py] (.ListComp elt [⟨tg, iter, ifs, 0⟩] scope pos) spos) (sAsgF i (mLc mi (own.map (·.2)) g t me)) :=
  PSimp (ps_setLc (g := TGd (c.at X.K) g js) (tt := TB (c.at X.K) W t) (te := T (c.at X.K) W me) hc hN hy hyl hsw hi ok hg ht he hs) fun D σ H q => by
    have q2 : tAsg (TF (c.at X.K) W (mLc mi (own.map (·.2)) g t me)) (gName i) D σ H := TSt_asgF (c := c.at X.K) hi0 q
    exact TF_lc (c := c.at X.K) (fun j h => List.contains_iff_mem.mp (List.all_eq_true.mp hj j h)) h0 q2

/-! ### while -/
def whileN (t : M Bool) (u : SM) : Nat → SM
  | 0, _ => .bad
  | n + 1, s => toS (t s) fun b s => if b then (match u s with
    | .nx s => whileN t u n s
    | .cnt s => whileN t u n s
    | .brk s => .nx s
    | r => r) else .nx s
theorem ps_whileX {body : List Stmt} (n : Nat) (hp : PassesOwn (model X.prog X.w) X.A X.env X.xe) (ht : PXT c W X e t) (hb : PSsX c W X body u) : PSX c W X (.While e body [] pos) (whileN t u n) := PSimp (ps_while hp ht hb) fun D σ H ⟨s, pend, R, q⟩ => by
  refine ⟨fun m σ H => ∃ s, Rel (c.at X.K) σ H s pend ∧ SG (c.at X.K) W D pend (whileN t u m s), ⟨n, s, R, q⟩, ?_⟩
  rintro m σ1 H1 ⟨s1, R1, q1⟩
  cases m with
  | zero => exact q1.elim
  | succ m =>
    refine ⟨s1, pend, R1, q1.og.mono fun b s2 q2 H2 R2 => ?_⟩
    cases b with
    | false => exact q2 σ1 H2 R2
    | true =>
      refine ⟨fun σ H => ∃ s, Rel (c.at X.K) σ H s pend ∧ SG (c.at X.K) W D pend (whileN t u m s), fun σ' H' h => ⟨m, Nat.lt_succ_self _, h⟩, s2, pend, R2, ?_⟩
      simp only [if_true] at q2
      cases eu : u s2 with
      | bad => rw [eu] at q2; exact q2.elim
      | nx s3 => rw [eu] at q2; exact fun σ4 H4 R4 => ⟨s3, R4, q2⟩
      | cnt s3 => rw [eu] at q2; exact fun σ4 H4 R4 => ⟨s3, R4, q2⟩
      | brk s3 => rw [eu] at q2; exact q2
      | ret d s3 => rw [eu] at q2; exact q2
      | ex d s3 => rw [eu] at q2; exact q2
end

/-! ### a def by its body -/
def initL : List Bool → List D → DS
  | k :: ks, d :: ds => (if k then .vw d else .pl d) :: initL ks ds
  | _, _ => []
def initA (io : Bool) (ks : List Bool) (ds : List D) : DS :=
  match io, ds with
  | true, d :: ds => .ow d :: initL ks ds
  | _, ds => initL ks ds
def initS (io : Bool) (ks : List Bool) (n : Nat) (ds : List D) : DS := initA io ks ds ++ List.replicate (n - (initA io ks ds).length) .no
def ioCont (io : Bool) (s : DS) : Option (Option D) :=
  if io then (match (s[0]? : Option Sl) with
    | some (Sl.ow t) => some (some t)
    | _ => none) else some none
def fnRes (io fr : Bool) : SRes → FRes
  | .ret d s => match ioCont io s with
    | some t => .ok d t
    | none => .bad
  | .nx s => if fr then .bad else match ioCont io s with
    | some t => .ok .non t
    | none => .bad
  | _ => .bad
def Fits (K : PySem.W.Frag) (O : Addr → Prop) (H : Hp) (ioa : Option Addr) : Sl → V → Prop
  | .pl d, v => Rep K O H d v
  | .vw d, v => VwA K O H ioa d v
  | .ow d, v => ∃ p, v = .ref p ∧ ioa = some p ∧ OwnRep K O H p d
  | .no, _ => True
theorem fits_L {K : PySem.W.Frag} {O : Addr → Prop} {H : Hp} {ioa : Option Addr} : ∀ {ks : List Bool} {ds : List D} {vs : List V}, ArgL K O H ioa ks ds vs → Paired (Fits K O H ioa) (initL ks ds) vs
  | [], [], [], _ => .nil
  | k :: ks, d :: ds, v :: vs, h => by
    refine .cons ?_ (fits_L h.2)
    cases k with
    | true => exact h.1
    | false => exact h.1
theorem paired_get {α β : Type} {F : α → β → Prop} : ∀ {xs : List α} {ys : List β} {i : Nat} {x : α}, Paired F xs ys → xs[i]? = some x → ∃ y, ys[i]? = some y ∧ F x y
  | _, _, _, _, .nil, h => by simp at h
  | _, _, 0, _, .cons r t, h => by simp at h; subst h; exact ⟨_, rfl, r⟩
  | _, _, i + 1, _, .cons r t, h => by
    obtain ⟨y, h1, h2⟩ := paired_get (i := i) t (by simpa using h)
    exact ⟨y, by simpa using h1, h2⟩
theorem paired_len {α β : Type} {F : α → β → Prop} : ∀ {xs : List α} {ys : List β}, Paired F xs ys → xs.length = ys.length
  | _, _, .nil => rfl
  | _, _, .cons r t => by simp [paired_len t]
theorem initL_noow : ∀ {ks : List Bool} {ds : List D} {i : Nat} {d : D}, (initL ks ds)[i]? ≠ some (.ow d)
  | [], _, _, _ => by simp [initL]
  | _ :: _, [], _, _ => by simp [initL]
  | k :: ks, d :: ds, 0, _ => by cases k <;> simp [initL]
  | k :: ks, d :: ds, i + 1, _ => by simp only [initL, List.getElem?_cons_succ]; exact initL_noow
theorem fits_A {K : PySem.W.Frag} {O : Addr → Prop} {H : Hp} {ks : List Bool} : ∀ {ioa : Option Addr} {ds : List D} {vs : List V}, ArgsOk K O H ks ioa ds vs →
    Paired (Fits K O H ioa) (initA ioa.isSome ks ds) vs ∧ (∀ i d, (initA ioa.isSome ks ds)[i]? = some (.ow d) → i = 0 ∧ ioa.isSome = true) ∧ (∀ p, ioa = some p → O p ∧ vs[0]? = some (.ref p) ∧ (∃ d, (initA ioa.isSome ks ds)[0]? = some (.ow d)))
  | none, ds, vs, h => by
    refine ⟨by cases ds <;> exact fits_L h, fun i d e => ?_, fun p z => by cases z⟩
    cases ds <;> exact absurd e initL_noow
  | some p, d :: ds, v :: vs, h => by
    obtain ⟨h1, h2, h3, h4⟩ := h
    subst h1
    refine ⟨.cons ⟨p, rfl, rfl, h3⟩ (fits_L h4), fun i d' e => ?_, fun q z => ?_⟩
    · cases i with
      | zero => exact ⟨rfl, rfl⟩
      | succ i => exact absurd e (by show (initL ks ds)[i]? ≠ _; exact initL_noow)
    · cases z
      exact ⟨h2, rfl, d, rfl⟩
theorem start_get {N : List Str} {vs : List V} {i : Nat} {v : V} (h : vs[i]? = some v) : (start N vs)[i]? = some (some v) := by
  unfold L2.start
  have hi := (List.getElem?_eq_some_iff.mp h).1
  rw [List.getElem?_append_left (by simpa using hi), List.getElem?_map, h]
  rfl
theorem start_back {N : List Str} {vs : List V} {i : Nat} {v : V} (h : (start N vs)[i]? = some (some v)) : vs[i]? = some v := by
  unfold L2.start at h
  by_cases hi : i < vs.length
  · rw [List.getElem?_append_left (by simpa using hi), List.getElem?_map] at h
    cases e : vs[i]? with
    | none => rw [e] at h; cases h
    | some a => rw [e] at h; cases h; rfl
  · rw [List.getElem?_append_right (by simpa using hi), List.getElem?_replicate] at h
    split at h <;> cases h
theorem init_back {io : Bool} {ks : List Bool} {n : Nat} {ds : List D} {i : Nat} {x : Sl} (h : (initS io ks n ds)[i]? = some x) (hx : x ≠ .no) : (initA io ks ds)[i]? = some x := by
  unfold initS at h
  by_cases hi : i < (initA io ks ds).length
  · rw [List.getElem?_append_left hi] at h; exact h
  · rw [List.getElem?_append_right (by omega), List.getElem?_replicate] at h
    split at h
    · cases h; exact absurd rfl hx
    · cases h
theorem rel_start {K : PySem.W.Frag} {O : Addr → Prop} {H : Hp} {ks : List Bool} {ioa : Option Addr} {ds : List D} {vs : List V} {N : List Str} {fr : Bool} (hO : OOk O H) (h : ArgsOk K O H ks ioa ds vs) (hN : vs.length ≤ N.length) :
    Rel { K := K, H0 := H, O0 := O, io := ioa, fr := fr } (start N vs) H (initS ioa.isSome ks N.length ds) [] := by
  obtain ⟨f, f2, f3⟩ := fits_A h
  have lf := paired_len f
  have ow : ∀ i p, OwAt (start N vs) (initS ioa.isSome ks N.length ds) i p → i = 0 ∧ ioa = some p := fun i p h => by
    obtain ⟨h1, d, h2⟩ := h
    have h3 := init_back h2 (fun z => by cases z)
    have h4 := f2 i d h3
    obtain ⟨y, e1, e2⟩ := paired_get f h3
    rw [start_back h1] at e1; cases e1
    obtain ⟨p', e3, e4, _⟩ := e2
    cases e3
    exact ⟨h4.1, e4⟩
  have oo : Oof { K := K, H0 := H, O0 := O, io := ioa, fr := fr } (start N vs) (initS ioa.isSome ks N.length ds) [] = O := by
    funext a
    refine propext ⟨fun h => ?_, fun h => .inl h⟩
    rcases h with h | h | ⟨i, h⟩
    · exact h
    · cases h
    · exact (f3 a (ow i a h).2).1
  refine ⟨?_, fun i d h => ?_, fun i d h => ?_, fun e h => (by cases h), fun i j p h1 h2 => ?_, List.nodup_nil, fun i p h => (by simp [ownP]), fun a h => ?_, fun b o h _ => ⟨o, h, .refl o⟩, hO.1, fun p h => ?_, fun p h => ?_, fun i d h => ?_, hO.2⟩
  · unfold L2.start initS
    simp only [List.length_append, List.length_map, List.length_replicate]
    omega
  · have h3 := init_back h (fun z => by cases z)
    obtain ⟨y, e1, e2⟩ := paired_get f h3
    rw [oo]
    exact ⟨y, start_get e1, e2⟩
  · have h3 := init_back h (fun z => by cases z)
    obtain ⟨y, e1, p, e2, e3, e4⟩ := paired_get f h3
    rw [oo]
    subst e2
    exact ⟨p, start_get e1, e4⟩
  · rw [(ow i p h1).1, (ow j p h2).1]
  · rcases h with h | ⟨i, h⟩
    · cases h
    · exact .inr (ow i a h).2
  · obtain ⟨h1, h2, d, h3⟩ := f3 p h
    refine ⟨start_get h2, d, ?_⟩
    unfold initS
    rw [List.getElem?_append_left (List.getElem?_eq_some_iff.mp h3).1]
    exact h3
  · exact hO.1 p (f3 p h).1
  · have h3 := init_back h (fun z => by cases z)
    obtain ⟨y, e1, e2⟩ := paired_get f h3
    rw [oo]
    refine ⟨y, start_get e1, ?_⟩
    rcases e2 with e2 | ⟨p, e2, e3, e4⟩
    · exact .inl e2
    · exact .inr ⟨p, e2, e4.there, e3, e4⟩
theorem res_ok {c : Ctx} {σ : L2.St} {H' : Hp} {s : DS} {v : V} {d : D} (R : Rel c σ H' s [(v, c.fr, d)]) : ResOk c.K c.O0 c.H0 H' d v c.fr := by
  cases e : c.fr with
  | false =>
    rw [e] at R
    have h := R.head
    exact h.mono (Keep.less fun a q => .inl q)
  | true =>
    rw [e] at R
    obtain ⟨p, e1, r⟩ := R.pd _ List.mem_cons_self
    subst e1
    refine ⟨p, rfl, ?_, r.mono (Keep.less fun a q => ?_) rfl⟩
    · rcases R.new p (.inl List.mem_cons_self) with z | z
      · exact z
      · exact absurd List.mem_cons_self (R.sep 0 p (R.iok p z))
    · rcases q with q | q
      · exact .inl q
      · subst q; exact .inr (.inl List.mem_cons_self)
theorem io_ok {c : Ctx} {σ : L2.St} {H' : Hp} {s : DS} {pend : List PEnt} {t : Option D} (R : Rel c σ H' s pend) (h : ioCont c.io.isSome s = some t) : IoOk c.K c.O0 H' c.io t := by
  cases e : c.io with
  | none => exact trivial
  | some p =>
    obtain ⟨h1, d, h2⟩ := R.iok p e
    rw [e] at h
    unfold ioCont at h
    rw [show (Option.isSome (some p)) = true from rfl, if_pos rfl, h2] at h
    cases h
    obtain ⟨q, e2, r⟩ := R.ow 0 d h2
    rw [h1] at e2; cases e2
    exact r.mono (Keep.less fun a q => .inl q) rfl
/-- a def by its body, its code told -/
theorem okL {P : Program} {w : World} {K : PySem.W.Frag} {mg : Str → Option Value} {base : Heap} {x qual : Str} {st : Stmt} {f : Addr} {fd : FuncData} {N ps : List Str} {k : Nat} {sp : Sp} (F : Fun K x qual st f fd) (S : FnScope N ps (defScope st))
    (len : ∀ vs H Q E, sp vs H Q E → vs.length = ps.length)
    (hb : ∀ (cdv : Value), fd.code = cdv → ∀ (A : Around) (outer : List Env) (s : Shared) (H : Hp) (vs : List V) (Q : VK) (E : XK), Room k (A.deeper (envOfC qual (defScope st) s.heap.objs.size f cdv)) → sp vs H Q E →
      ∃ t, PSs (cxOf CX0 P w K mg base N qual (defScope st) f cdv A outer s H E).nox (defBody st) t ∧ t { nx := fun _ H' => Q .non H', rt := Q } (start N vs) H) : FnOk P w K mg base CX0 (k + 1) f fd ps sp := by
  obtain ⟨oc, od, kV, doc, pm, an, cdv, ct, osl, e, lk, hcd⟩ := F.ex
  subst e
  exact fn_of lk hcd S len fun A outer s H vs Q E hr hsp => let ⟨t, h, q⟩ := hb cdv rfl A outer s H vs Q E hr hsp; ⟨t, h.nox, q⟩
/-- THE RULE for a def -/
theorem dfn {P : Program} {w : World} {K : PySem.W.Frag} {mg : Str → Option Value} {base : Heap} {x qual : Str} {st : Stmt} {f : Addr} {fd : FuncData} {N ps : List Str} {k : Nat} {ks : List Bool} {io fr : Bool} {G : List D → FRes}
    (F : Fun K x qual st f fd) (S : FnScope N ps (defScope st)) (u : SM) (hps : ps.length = ks.length + (if io then 1 else 0))
    (hb : ∀ (c : Ctx) (W : XW) (cdv : Value) (A : Around) (outer : List Env) (s : Shared) (H : Hp) (E : XK), (io = true ∨ c.io = none) → c.fr = fr → Room k (A.deeper (envOfC qual (defScope st) s.heap.objs.size f cdv)) → c.H0 = H ∧ fd.code = cdv →
      PSsX c W (cxOf CX0 P w K mg base N qual (defScope st) f cdv A outer s H E).nox (defBody st) u)
    (hG : ∀ ds, (∀ e t, G ds ≠ .ex e t) ∧ (G ds = .bad ∨ G ds = fnRes io fr (u (initS io ks N.length ds)))) : FnOk P w K mg base CX0 (k + 1) f fd ps (spD K io fr ks G) := by
  refine okL F S (fun vs H Q E h => ?_) (fun cdv hcv A outer s H vs Q E hr h => ?_)
  · rw [hps]; exact spD_len h
  · obtain ⟨ds, O, ioa, hio, hO, ha, hq⟩ := h
    have hl := ha.len
    have hN : vs.length ≤ N.length := by
      have := congrArg List.length S.pre
      rw [List.length_take] at this
      rw [hl, hio, ← hps]
      omega
    refine ⟨_, hb { K := K, H0 := H, O0 := O, io := ioa, fr := fr } (fun _ _ => False) cdv A outer s H E (by
      cases ioa with
      | none => exact .inr rfl
      | some p => exact .inl hio.symm) rfl hr ⟨rfl, hcv⟩, initS io ks N.length ds, [], ?_, ?_⟩
    · rw [← hio]
      exact rel_start hO ha hN
    · obtain ⟨h1, h2⟩ := hG ds
      rcases h2 with h2 | h2
      · rw [h2] at hq; exact hq.elim
      · rw [h2] at hq
        cases eu : u (initS io ks N.length ds) with
        | bad => rw [eu] at hq; exact hq.elim
        | brk s1 => rw [eu] at hq; exact hq.elim
        | cnt s1 => rw [eu] at hq; exact hq.elim
        | ex d s1 => rw [eu] at hq; exact hq.elim
        | ret d s1 =>
          rw [eu] at hq
          simp only [fnRes] at hq
          cases ei : ioCont io s1 with
          | none => rw [ei] at hq; exact hq.elim
          | some t =>
            rw [ei] at hq
            intro v σ' H' R
            exact hq v H' ⟨R.frame, R.tabs⟩ (res_ok R) (io_ok R (by show ioCont ioa.isSome s1 = some t; rw [hio]; exact ei))
        | nx s1 =>
          rw [eu] at hq
          simp only [fnRes] at hq
          cases fr with
          | true => exact hq.elim
          | false =>
            cases ei : ioCont io s1 with
            | none => rw [ei] at hq; exact hq.elim
            | some t =>
              rw [ei] at hq
              intro σ' H' R
              exact hq .non H' ⟨R.frame, R.tabs⟩ (by show Rep _ _ _ _ _; simp only [Rep]) (io_ok R (by show ioCont ioa.isSome s1 = some t; rw [hio]; exact ei))
/-- the law's own promise -/
theorem law_sp {K : PySem.W.Frag} {H : Hp} {a : Addr} {ns : List Int} {E : XK} {G : List D → FRes} (hO : Tbs H) (hS : SqL K H a (ns.map V.int)) (hG : G [.scr (ns.map .int)] = .ok (.bl true) none) :
    spD K false false [false] G [.ref a] H (fun v _ => v = .bl true) E := by
  refine ⟨[.scr (ns.map .int)], fun _ => False, none, rfl, ⟨fun a h => h.elim, hO⟩, ⟨?_, trivial⟩, ?_⟩
  · show Rep K _ H (.scr (ns.map .int)) (.ref a)
    simp only [Rep]
    refine ⟨a, ns.map V.int, rfl, ?_, RepL.ofInts⟩
    rcases hS with h | h
    · exact .inl ⟨fun z => z, h⟩
    · exact .inr (.inr h)
  · rw [hG]
    intro v H' _ hr _
    have hr : Rep K (fun _ => False) H' (.bl true) v := hr
    simpa only [Rep] using hr
end DL

set_option Elab.async false
set_option linter.all false
set_option autoImplicit false
set_option maxRecDepth 100000
namespace DL
variable [TQ]
open PySem PySem.Spec PyProof.Rows L2

/-! ### what is seen, by the data's form -/
section
variable {K : PySem.W.Frag} {O : Addr → Prop} {H : Hp} {v x y : V}
theorem vw_bl {k : Bool} (h : Vw K O H (.bl k) x) : x = .bl k := by
  rcases h with h | ⟨p, e, h⟩
  · simpa only [Rep] using h
  · exact h.elim
theorem vw_str {k : Str} (h : Vw K O H (.str k) x) : x = .str k := by
  rcases h with h | ⟨p, e, h⟩
  · simpa only [Rep] using h
  · exact h.elim
theorem vw_non (h : Vw K O H .non x) : x = .non := by
  rcases h with h | ⟨p, e, h⟩
  · simpa only [Rep] using h
  · exact h.elim
theorem vw_lst {ds : List D} (h : Vw K O H (.lst ds) x) : ∃ a xs, x = .ref a ∧ H a = some (.lst xs) ∧ RepL K O H ds xs := by
  rcases h with h | ⟨p, e, xs, h1, h2⟩
  · simp only [Rep] at h
    obtain ⟨a, xs, e, n, t, r⟩ := h
    exact ⟨a, xs, e, t, r⟩
  · exact ⟨p, xs, e, h1, h2⟩
theorem vw_scr {ds : List D} (h : Vw K O H (.scr ds) x) : ∃ a xs, x = .ref a ∧ SqL K H a xs ∧ RepL K O H ds xs := by
  rcases h with h | ⟨p, e, h⟩
  · simp only [Rep] at h
    obtain ⟨a, xs, e, t, r⟩ := h
    exact ⟨a, xs, e, t.sq, r⟩
  · exact h.elim
theorem vw_tup {ds : List D} (h : Vw K O H (.tup ds) x) : ∃ a xs, x = .ref a ∧ TAt K O H a xs ∧ RepL K O H ds xs := by
  rcases h with h | ⟨p, e, h⟩
  · simp only [Rep] at h
    obtain ⟨a, xs, e, t, r⟩ := h
    exact ⟨a, xs, e, t, r⟩
  · exact h.elim
/-- the items of a list (the script too) -/
def lstOf : D → Option (List D)
  | .lst ds => some ds
  | .scr ds => some ds
  | _ => none
theorem vw_sql {d : D} {ds : List D} (h : Vw K O H d x) (e : lstOf d = some ds) : ∃ a xs, x = .ref a ∧ SqL K H a xs ∧ RepL K O H ds xs := by
  cases d with
  | lst _ => cases e; obtain ⟨a, xs, e1, e2, r⟩ := vw_lst h; exact ⟨a, xs, e1, SqL.of e2, r⟩
  | scr _ => cases e; exact vw_scr h
  | _ => cases e
end

/-! ### ints -/
def fII (C : Int → Int → Bool) (g : Int → Int → Int) : D → D → Option D
  | .int i, .int j => if C i j then some (.int (g i j)) else none
  | _, _ => none
theorem od_II {K : PySem.W.Frag} {C : Int → Int → Bool} {C' : Int → Int → Prop} {g g' : Int → Int → Int} (hc : ∀ i j, C i j = true → C' i j ∧ g' i j = g i j) : OpD2 K (fII C g) (rI C' fun i j => .int (g' i j)) := fun c σ H s pend x y d1 d2 d Q eK R v1 v2 e q => by
  cases d1 with
  | int i =>
    cases d2 with
    | int j =>
      simp only [fII] at e
      cases hC : C i j with
      | false => rw [hC] at e; cases e
      | true =>
        rw [hC] at e; cases e
        obtain ⟨h1, h2⟩ := hc i j hC
        refine ⟨i, j, vw_int v1, vw_int v2, h1, ?_⟩
        show Q (.int (g' i j)) H
        rw [h2]
        exact q _ H (R.push (by simp only [Rep]))
    | _ => cases e
  | _ => cases e
theorem od_I0 {K : PySem.W.Frag} {g : Int → Int → Int} : OpD2 K (fII (fun _ _ => true) g) (rI0 fun i j => .int (g i j)) := fun c σ H s pend x y d1 d2 d Q eK R v1 v2 e q => by
  cases d1 with
  | int i =>
    cases d2 with
    | int j =>
      simp only [fII] at e
      cases e
      exact ⟨i, j, vw_int v1, vw_int v2, q _ H (R.push (by simp only [Rep]))⟩
    | _ => cases e
  | _ => cases e
abbrev oAdd := fII (fun _ _ => true) fun i j => i + j
abbrev oSub := fII (fun _ _ => true) fun i j => i - j
noncomputable def cMul (i j : Int) : Bool := dB (-(2 ^ 64) < i ∧ i < 2 ^ 64) || dB (-(2 ^ 64) < j ∧ j < 2 ^ 64)
noncomputable abbrev oMul := fII cMul fun i j => i * j
noncomputable def cDiv (_ j : Int) : Bool := dB (0 < j ∧ j < 2 ^ 80)
noncomputable abbrev oDiv := fII cDiv fun i j => i / j
noncomputable def cMod (_ j : Int) : Bool := dB (0 < j)
noncomputable abbrev oMod := fII cMod fun i j => i % j
noncomputable def cPow (i j : Int) : Bool := dB (0 ≤ j ∧ j ≤ 1000) && dB (-(2 ^ 63) < i ∧ i < 2 ^ 63)
noncomputable abbrev oPow := fII cPow fun i j => i ^ j.toNat
noncomputable def cShl (i j : Int) : Bool := dB (CShl i j)
noncomputable abbrev oShl := fII cShl fun i j => i * 2 ^ j.toNat
noncomputable def cShr (_ j : Int) : Bool := dB (0 ≤ j)
noncomputable abbrev oShr := fII cShr fun i j => i / 2 ^ j.toNat
abbrev oAnd := fII (fun _ _ => true) fun i j => Builtin.bitAnd i j
abbrev oOr := fII (fun _ _ => true) fun i j => Builtin.bitOr i j
section
variable {K : PySem.W.Frag}
theorem od_mul : OpD2 K oMul (rI CMul fun i j => .int (i * j)) := od_II fun i j h => ⟨by
  unfold cMul at h
  rw [Bool.or_eq_true, dB_true, dB_true] at h
  exact h, rfl⟩
theorem od_div : OpD2 K oDiv (rI CDivW fun i j => .int (i / j)) := od_II fun i j h => ⟨by
  unfold cDiv at h
  rw [dB_true] at h
  refine wide_div (i := i) (b := 80) h.1 ?_ (by decide) (by decide)
  have : ((j.natAbs : Nat) : Int) = j := Int.natAbs_of_nonneg (by omega)
  have h2 : ((j.natAbs : Nat) : Int) < ((2 ^ 80 : Nat) : Int) := by rw [this]; exact h.2
  exact Int.ofNat_lt.mp h2, rfl⟩
theorem od_mod : OpD2 K oMod (rI (fun _ j => 0 < j) fun i j => .int (i % j)) := od_II fun i j h => ⟨by
  unfold cMod at h
  rw [dB_true] at h
  exact h, rfl⟩
theorem cPow_ok {i j : Int} (h : cPow i j = true) : CPow i j := by
  unfold cPow at h
  rw [Bool.and_eq_true, dB_true, dB_true] at h
  refine ⟨h.1.1, by omega, by omega⟩
theorem od_pow : OpD2 K oPow (rI CPow fun i j => .int (i ^ j.toNat)) := od_II fun i j h => ⟨cPow_ok h, rfl⟩
theorem od_shl : OpD2 K oShl (rI CShl fun i j => .int (i * 2 ^ j.toNat)) := od_II fun i j h => ⟨dB_true.mp h, rfl⟩
theorem od_shr : OpD2 K oShr (rI (fun _ j => 0 ≤ j) fun i j => .int (i / 2 ^ j.toNat)) := od_II fun i j h => ⟨by
  unfold cShr at h
  rw [dB_true] at h
  exact h, rfl⟩
def fI (g : Int → Int) : D → Option D
  | .int i => some (.int (g i))
  | _ => none
theorem od_neg : OpD1 K (fI fun i => -i) (rU fun i => .int (-i)) := fun c σ H s pend x d1 d Q eK R v1 e q => by
  cases d1 with
  | int i => cases e; exact ⟨i, vw_int v1, q _ H (R.push (by simp only [Rep]))⟩
  | _ => cases e
theorem od_inv : OpD1 K (fI fun i => Builtin.bitNot i) (rU fun i => .int (Builtin.bitNot i)) := fun c σ H s pend x d1 d Q eK R v1 e q => by
  cases d1 with
  | int i => cases e; exact ⟨i, vw_int v1, q _ H (R.push (by simp only [Rep]))⟩
  | _ => cases e
/-! ### comparisons of ints, of plain values -/
def fIB (p : Int → Int → Bool) : D → D → Option Bool
  | .int i, .int j => some (p i j)
  | _, _ => none
theorem ob_I {p : Int → Int → Bool} : OpB2 K (fIB p) (rI0 fun i j => .bl (p i j)) := fun O H x y d1 d2 b Q v1 v2 e q => by
  cases d1 with
  | int i =>
    cases d2 with
    | int j =>
      cases e
      exact ⟨i, j, vw_int v1, vw_int v2, q⟩
    | _ => cases e
  | _ => cases e
noncomputable abbrev bLt := fIB fun i j => dB (i < j)
theorem ob_bLt : OpB2 K bLt (rI0 fun i j => .bl (decide (i < j))) := by
  have e : bLt = fIB fun i j => decide (i < j) := by
    show fIB (fun i j => dB (i < j)) = _
    simp only [dB_eq]
  rw [e]
  exact ob_I
noncomputable abbrev bLe := fIB fun i j => dB (i ≤ j)
theorem ob_bLe : OpB2 K bLe (rI0 fun i j => .bl (decide (i ≤ j))) := by
  have e : bLe = fIB fun i j => decide (i ≤ j) := by
    show fIB (fun i j => dB (i ≤ j)) = _
    simp only [dB_eq]
  rw [e]
  exact ob_I
noncomputable abbrev bGt := fIB fun i j => dB (j < i)
theorem ob_bGt : OpB2 K bGt (rI0 fun i j => .bl (decide (j < i))) := by
  have e : bGt = fIB fun i j => decide (j < i) := by
    show fIB (fun i j => dB (j < i)) = _
    simp only [dB_eq]
  rw [e]
  exact ob_I
noncomputable abbrev bGe := fIB fun i j => dB (j ≤ i)
theorem ob_bGe : OpB2 K bGe (rI0 fun i j => .bl (decide (j ≤ i))) := by
  have e : bGe = fIB fun i j => decide (j ≤ i) := by
    show fIB (fun i j => dB (j ≤ i)) = _
    simp only [dB_eq]
  rw [e]
  exact ob_I
/-- == of plain values -/
def bEq : D → D → Option Bool
  | .int i, .int j => some (decide (i = j))
  | .bl i, .bl j => some (decide (i = j))
  | .str i, .str j => some (decide (i = j))
  | .non, .non => some true
  | .non, .int _ => some false
  | .int _, .non => some false
  | .non, .bl _ => some false
  | .bl _, .non => some false
  | .non, .str _ => some false
  | .str _, .non => some false
  | .int _, .str _ => some false
  | .str _, .int _ => some false
  | .bl _, .str _ => some false
  | .str _, .bl _ => some false
  | _, _ => none
def bNe (x y : D) : Option Bool := (bEq x y).map (!·)
def toV0 : D → V
  | .int i => .int i
  | .bl i => .bl i
  | .str i => .str i
  | _ => .non
theorem bEq_ok {O : Addr → Prop} {H : Hp} {x y : V} {d1 d2 : D} {b : Bool} (v1 : Vw K O H d1 x) (v2 : Vw K O H d2 y) (e : bEq d1 d2 = some b) : scal x y = true ∧ decide (x = y) = b := by
  cases d1 <;> cases d2 <;> simp only [bEq, Option.some.injEq, reduceCtorEq] at e <;> subst e <;>
    first
    | (rw [vw_int v1, vw_int v2]; exact ⟨rfl, by simp⟩)
    | (rw [vw_bl v1, vw_bl v2]; exact ⟨rfl, by simp⟩)
    | (rw [vw_str v1, vw_str v2]; exact ⟨rfl, by simp⟩)
    | (rw [vw_non v1, vw_non v2]; exact ⟨rfl, by simp⟩)
    | (rw [vw_non v1, vw_int v2]; exact ⟨rfl, by simp⟩)
    | (rw [vw_int v1, vw_non v2]; exact ⟨rfl, by simp⟩)
    | (rw [vw_non v1, vw_bl v2]; exact ⟨rfl, by simp⟩)
    | (rw [vw_bl v1, vw_non v2]; exact ⟨rfl, by simp⟩)
    | (rw [vw_non v1, vw_str v2]; exact ⟨rfl, by simp⟩)
    | (rw [vw_str v1, vw_non v2]; exact ⟨rfl, by simp⟩)
    | (rw [vw_int v1, vw_str v2]; exact ⟨rfl, by simp⟩)
    | (rw [vw_str v1, vw_int v2]; exact ⟨rfl, by simp⟩)
    | (rw [vw_bl v1, vw_str v2]; exact ⟨rfl, by simp⟩)
    | (rw [vw_str v1, vw_bl v2]; exact ⟨rfl, by simp⟩)
theorem ob_eq : OpB2 K bEq rEq := fun O H x y d1 d2 b Q v1 v2 e q => by
  obtain ⟨h1, h2⟩ := bEq_ok v1 v2 e
  exact ⟨h1, by rw [h2]; exact q⟩
theorem ob_ne : OpB2 K bNe rNe := fun O H x y d1 d2 b Q v1 v2 e q => by
  unfold bNe at e
  cases g : bEq d1 d2 with
  | none => rw [g] at e; cases e
  | some k =>
    rw [g] at e; cases e
    obtain ⟨h1, h2⟩ := bEq_ok v1 v2 g
    exact ⟨h1, by rw [h2]; exact q⟩
def isNon : D → Bool
  | .non => true
  | _ => false
def bIsN : D → D → Option Bool
  | d, .non => some (isNon d)
  | _, _ => none
def bNotN : D → D → Option Bool
  | d, .non => some (!isNon d)
  | _, _ => none
theorem vw_isNon {O : Addr → Prop} {H : Hp} {x : V} {d : D} (v : Vw K O H d x) : decide (x = .non) = isNon d := by
  cases d with
  | non => rw [vw_non v]; rfl
  | bl b => rw [vw_bl v]; rfl
  | int b => rw [vw_int v]; rfl
  | str b => rw [vw_str v]; rfl
  | tup ds => obtain ⟨a, xs, e, _⟩ := vw_tup v; rw [e]; rfl
  | lst ds => obtain ⟨a, xs, e, _⟩ := vw_lst v; rw [e]; rfl
  | scr ds => obtain ⟨a, xs, e, _⟩ := vw_scr v; rw [e]; rfl
  | dic ks ds =>
    rcases v with v | ⟨p, e, _⟩
    · simp only [Rep] at v
      obtain ⟨a, ws, e, _⟩ := v
      rw [e]; rfl
    · rw [e]; rfl
theorem ob_isN : OpB2 K bIsN (fun x y H Q => y = .non ∧ Q (.bl (decide (x = .non))) H) := fun O H x y d1 d2 b Q v1 v2 e q => by
  cases d2 with
  | non => cases e; exact ⟨vw_non v2, by rw [vw_isNon v1]; exact q⟩
  | _ => cases e
theorem ob_notN : OpB2 K bNotN (fun x y H Q => y = .non ∧ Q (.bl (!decide (x = .non))) H) := fun O H x y d1 d2 b Q v1 v2 e q => by
  cases d2 with
  | non => cases e; exact ⟨vw_non v2, by rw [vw_isNon v1]; exact q⟩
  | _ => cases e
/-! ### items, lengths -/
def oIx : D → D → Option D
  | d, .int i => (lstOf d).bind fun ds => atI ds i
  | _, _ => none
def oIxT : D → D → Option D
  | .tup ds, .int i => atI ds i
  | _, _ => none
theorem rep_atI {O : Addr → Prop} {H : Hp} {ds : List D} {xs : List V} {i : Int} {d : D} (r : RepL K O H ds xs) (e : atI ds i = some d) : ∃ x, atI xs i = some x ∧ Rep K O H d x := by
  unfold atI at e ⊢
  rw [← r.length]
  cases g : ixN ds.length i with
  | none => rw [g] at e; cases e
  | some j =>
    rw [g] at e
    exact r.get e
theorem od_ixL : OpD2 K oIx (rIxL K) := fun c σ H s pend x y d1 d2 d Q eK R v1 v2 e q => by
  cases d2 with
  | int i =>
    simp only [oIx] at e
    cases g : lstOf d1 with
    | none => rw [g] at e; cases e
    | some ds =>
      rw [g] at e
      obtain ⟨a, xs, ea, hq, r⟩ := vw_sql v1 g
      obtain ⟨z, ez, rz⟩ := rep_atI r e
      subst eK
      exact ⟨a, xs, i, z, ea, vw_int v2, hq, ez, q z H (R.push rz)⟩
  | _ => cases e
theorem od_ixT : OpD2 K oIxT (rIxT K) := fun c σ H s pend x y d1 d2 d Q eK R v1 v2 e q => by
  cases d1 with
  | tup ds =>
    cases d2 with
    | int i =>
      obtain ⟨a, xs, ea, hq, r⟩ := vw_tup v1
      obtain ⟨z, ez, rz⟩ := rep_atI r e
      subst eK
      exact ⟨a, xs, i, z, ea, vw_int v2, hq.sq, ez, q z H (R.push rz)⟩
    | _ => cases e
  | _ => cases e
/-- an item of a list or a tuple -/
def seqOf : D → Option (List D)
  | .tup ds => some ds
  | .lst ds => some ds
  | .scr ds => some ds
  | _ => none
def oIxA : D → D → Option D
  | d, .int i => (seqOf d).bind fun ds => atI ds i
  | _, _ => none
theorem od_ixA : OpD2 K oIxA (rIx K) := fun c σ H s pend x y d1 d2 d Q eK R v1 v2 e q => by
  cases d2 with
  | int i =>
    cases d1 with
    | tup ds => exact .inr (.inl (od_ixT c σ H s pend x y (.tup ds) (.int i) d Q eK R v1 v2 e q))
    | lst ds => exact .inl (od_ixL c σ H s pend x y (.lst ds) (.int i) d Q eK R v1 v2 e q)
    | scr ds => exact .inl (od_ixL c σ H s pend x y (.scr ds) (.int i) d Q eK R v1 v2 e q)
    | _ => cases e
  | _ => cases e
def oLen : D → Option D
  | .tup ds => some (.int ds.length)
  | .lst ds => some (.int ds.length)
  | .scr ds => some (.int ds.length)
  | .str x => if x.length ≤ 100000 then some (.int x.length) else none
  | _ => none
theorem od_len : OpD1 K oLen (fun x H Q => ∃ x' n, [x] = [x'] ∧ LenV K x' H n ∧ Q (.int n) H) := fun c σ H s pend x d1 d Q eK R v1 e q => by
  cases d1 with
  | tup ds =>
    cases e
    obtain ⟨a, xs, ea, hq, r⟩ := vw_tup v1
    subst ea
    refine ⟨_, ds.length, rfl, .inr ⟨xs, hq.sq, r.length⟩, q _ H (R.push (by simp only [Rep]))⟩
  | lst ds =>
    cases e
    obtain ⟨a, xs, ea, hq, r⟩ := vw_lst v1
    subst ea
    refine ⟨_, ds.length, rfl, .inl ⟨xs, SqL.of hq, r.length⟩, q _ H (R.push (by simp only [Rep]))⟩
  | scr ds =>
    cases e
    obtain ⟨a, xs, ea, hq, r⟩ := vw_scr v1
    subst ea
    refine ⟨_, ds.length, rfl, .inl ⟨xs, hq, r.length⟩, q _ H (R.push (by simp only [Rep]))⟩
  | str z =>
    simp only [oLen] at e
    by_cases hz : z.length ≤ 100000
    · rw [if_pos hz] at e; cases e
      rw [vw_str v1]
      exact ⟨_, z.length, rfl, ⟨Nat.le_trans hz (by decide), rfl⟩, q _ H (R.push (by simp only [Rep]))⟩
    · rw [if_neg hz] at e; cases e
  | _ => cases e
/-! ### built-ins -/
def oInt : D → Option D
  | .int i => some (.int i)
  | .bl b => some (.int (if b = true then 1 else 0))
  | _ => none
theorem od_int : OpD1 K oInt (fun x H Q => (∃ i, [x] = [V.int i] ∧ Q (.int i) H) ∨ ∃ k, [x] = [V.bl k] ∧ Q (.int (if k = true then 1 else 0)) H) := fun c σ H s pend x d1 d Q eK R v1 e q => by
  cases d1 with
  | int i => cases e; rw [vw_int v1]; exact .inl ⟨i, rfl, q _ H (R.push (by simp only [Rep]))⟩
  | bl i => cases e; rw [vw_bl v1]; exact .inr ⟨i, rfl, q _ H (R.push (by simp only [Rep]))⟩
  | _ => cases e
theorem od_abs : OpD1 K (fI fun i => if i < 0 then -i else i) (fun x H Q => ∃ i, [x] = [V.int i] ∧ Q (.int (if i < 0 then -i else i)) H) := fun c σ H s pend x d1 d Q eK R v1 e q => by
  cases d1 with
  | int i => cases e; rw [vw_int v1]; exact ⟨i, rfl, q _ H (R.push (by simp only [Rep]))⟩
  | _ => cases e
noncomputable def max2 (i j : Int) : Int := @ite _ (j > i) (cI _) j i
noncomputable def min2 (i j : Int) : Int := @ite _ (j < i) (cI _) j i
theorem max2_eq (i j : Int) : max2 i j = if j > i then j else i := by
  unfold max2
  by_cases h : j > i
  · rw [if_pos h, if_pos h]
  · rw [if_neg h, if_neg h]
theorem min2_eq (i j : Int) : min2 i j = if j < i then j else i := by
  unfold min2
  by_cases h : j < i
  · rw [if_pos h, if_pos h]
  · rw [if_neg h, if_neg h]
noncomputable abbrev oMax2 := fII (fun _ _ => true) fun i j => max2 i j
noncomputable abbrev oMin2 := fII (fun _ _ => true) fun i j => min2 i j
theorem od_max2 : OpD2 K oMax2 (fun x y H Q => ∃ i j, [x, y] = [V.int i, V.int j] ∧ Q (.int (if j > i then j else i)) H) := fun c σ H s pend x y d1 d2 d Q eK R v1 v2 e q => by
  obtain ⟨i, j, e1, e2, q⟩ := od_I0 (g := fun i j => max2 i j) c σ H s pend x y d1 d2 d Q eK R v1 v2 e q
  exact ⟨i, j, by rw [e1, e2], by rw [← max2_eq]; exact q⟩
theorem od_min2 : OpD2 K oMin2 (fun x y H Q => ∃ i j, [x, y] = [V.int i, V.int j] ∧ Q (.int (if j < i then j else i)) H) := fun c σ H s pend x y d1 d2 d Q eK R v1 v2 e q => by
  obtain ⟨i, j, e1, e2, q⟩ := od_I0 (g := fun i j => min2 i j) c σ H s pend x y d1 d2 d Q eK R v1 v2 e q
  exact ⟨i, j, by rw [e1, e2], by rw [← min2_eq]; exact q⟩
/-- list(xs), a new list -/
def oList : D → Option D
  | .tup ds => some (.lst ds)
  | d => (lstOf d).map D.lst
theorem of_list : OpF1 K oList (fun x H Q => ∃ p ys, [x] = [V.ref p] ∧ (SqL K H p ys ∨ SqT K H p ys) ∧ ∀ l, H l = none → Q (.ref l) (upd H l (.lst ys))) := fun c σ H s pend x d1 d Q eK R v1 e q => by
  subst eK
  by_cases h : ∃ ds, d1 = .tup ds
  · obtain ⟨ds, rfl⟩ := h
    cases e
    obtain ⟨a, xs, ea, hq, r⟩ := vw_tup v1
    subst ea
    exact ⟨a, xs, rfl, .inr hq.sq, fun l hl => q _ _ (R.lst hl r)⟩
  · have e' : (lstOf d1).map D.lst = some d := by
      cases d1 with
      | tup ds => exact absurd ⟨ds, rfl⟩ h
      | _ => exact e
    cases g : lstOf d1 with
    | none => rw [g] at e'; cases e'
    | some ds =>
      rw [g] at e'; cases e'
      obtain ⟨a, xs, ea, hq, r⟩ := vw_sql v1 g
      subst ea
      exact ⟨a, xs, rfl, .inl hq, fun l hl => q _ _ (R.lst hl r)⟩
def oTuple : D → Option D
  | .tup ds => some (.tup ds)
  | d => (lstOf d).map D.tup
theorem od_tuple : OpD1 K oTuple (fun x H Q => ∃ p ys, [x] = [V.ref p] ∧ ((SqL K H p ys ∧ ∀ l, H l = none → Q (.ref l) (upd H l (.tup ys))) ∨ (SqT K H p ys ∧ Q (.ref p) H))) := fun c σ H s pend x d1 d Q eK R v1 e q => by
  subst eK
  by_cases h : ∃ ds, d1 = .tup ds
  · obtain ⟨ds, rfl⟩ := h
    cases e
    obtain ⟨a, xs, ea, hq, r⟩ := vw_tup v1
    subst ea
    refine ⟨a, xs, rfl, .inr ⟨hq.sq, q _ _ (R.push ?_)⟩⟩
    simp only [Rep]
    exact ⟨a, xs, rfl, hq, r⟩
  · have e' : (lstOf d1).map D.tup = some d := by
      cases d1 with
      | tup ds => exact absurd ⟨ds, rfl⟩ h
      | _ => exact e
    cases g : lstOf d1 with
    | none => rw [g] at e'; cases e'
    | some ds =>
      rw [g] at e'; cases e'
      obtain ⟨a, xs, ea, hq, r⟩ := vw_sql v1 g
      subst ea
      exact ⟨a, xs, rfl, .inl ⟨hq, fun l hl => q _ _ (R.tup hl r)⟩⟩
def oBits : D → Option D
  | .int i => some (.int (Builtin.Int.intBits i : Nat))
  | _ => none
theorem px_bits {c : Ctx} {W : XW} {X : Cx} {o : Expr} {a1 : Arg} {apos pos : Pos} (ho : PAg c W X o a1) (hbase : attributeBase o "bit_length" X.env (eval o X.env) = eval o X.env := by rfl) (hline : (apos.endLine == pos.line) = true := by rfl) : PX c W X (.Call (.Attribute o "bit_length" apos) [] [] pos) (mOp1 oBits a1) :=
  PEimp (pe_bits ho hbase hline) fun σ H Q h => T_op1 (c := c.at X.K) (r := fun x H Q => ∃ i, x = .int i ∧ Q (.int (Builtin.Int.intBits i : Nat)) H) (fun c σ H s pend x d1 d Q eK R v1 e q => by
    cases d1 with
    | int i => cases e; exact ⟨i, vw_int v1, q _ H (R.push (by simp only [Rep]))⟩
    | _ => cases e) h
/-! ### isinstance -/
def tyD : D → Option String
  | .non => some "NoneType"
  | .bl _ => some "bool"
  | .int _ => some "int"
  | .str _ => some "str"
  | .tup _ => some "tuple"
  | .lst _ => some "list"
  | .dic _ _ => some "dict"
  | .scr _ => none
theorem ty_ok {O : Addr → Prop} {H : Hp} {x : V} {d : D} {t : String} (v : Vw K O H d x) (e : tyD d = some t) : TyX K H x (.type t) := by
  cases d with
  | non => cases e; rw [vw_non v]; exact .base .non
  | bl b => cases e; rw [vw_bl v]; exact .base (.bl b)
  | int b => cases e; rw [vw_int v]; exact .base (.int b)
  | str b => cases e; rw [vw_str v]; exact .base (.str b)
  | scr ds => cases e
  | lst ds =>
    cases e
    obtain ⟨a, xs, ea, hq, _⟩ := vw_lst v
    rw [ea]; exact .base (.lst hq)
  | tup ds =>
    cases e
    obtain ⟨a, xs, ea, hq, _⟩ := vw_tup v
    rw [ea]
    rcases hq with ⟨_, h | ⟨o, h⟩⟩ | h
    · exact .base (.tup h)
    · exact .fTuple h
    · rcases h with (h | ⟨o, h⟩) | ⟨o, its, n, h1, h2, _⟩
      · cases h
      · cases h
      · exact .kTuple h1 h2
  | dic ks ds =>
    cases e
    rcases v with v | ⟨p, ea, ws, h, _⟩
    · simp only [Rep] at v
      obtain ⟨a, ws, ea, _, h, _⟩ := v
      rw [ea]; exact .base (.dK h)
    · rw [ea]; exact .base (.dK h)
def oIsi (T : String) (d : D) : Option D := (tyD d).bind fun t => (kitB t T).map D.bl
theorem px_isi {c : Ctx} {W : XW} {X : Cx} {e : Expr} {a1 : Arg} {T : String} {tn : Str} {p pos pt : Pos} (ha : PAg c W X e a1) (hm : X.mg "isinstance" = none) (hmT : X.mg tn = none) (hvT : bootBuiltins tn = some (.type T)) (hgT : Gl X tn := by rfl) (hg : Gl X "isinstance" := by rfl)
    (hv : bootBuiltins "isinstance" = some (.builtin "isinstance") := by decide +kernel) (hnT : tn ≠ "__name__" := by decide) (hdT : (tn == ("__debug__" : Str)) = false := by decide)
    (hs2 : starEach [Expr.Name tn pt] X.env = (false, eval (.Name tn pt) X.env) :: starEach [] X.env := by rfl) (hs : starEach [e, .Name tn pt] X.env = (false, eval e X.env) :: starEach [.Name tn pt] X.env := by rfl) (hpl : (backTo pos (starEach [Expr.Name tn pt] X.env)).any (·.1) = false := by rfl) :
    PX c W X (.Call (.Name "isinstance" p) [e, .Name tn pt] [] pos) (mOp1 (oIsi T) a1) :=
  PEimp (pe_callB call_isi hg hm hv (pa_cons ha (pa_cons (pe_bltn (v := .ty T) hgT hmT hvT rfl hnT hdT) pa_nil hs2) hs) (by decide) (by decide) hs hpl) fun σ H Q h =>
    T_op1 (c := c.at X.K) (r := fun x H Q => rIsi X.K [x, .ty T] H Q) (fun c σ H s pend x d1 d Q eK R v1 e q => by
      unfold oIsi at e
      cases g : tyD d1 with
      | none => rw [g] at e; cases e
      | some t =>
        rw [g] at e
        simp only [Option.bind_some] at e
        cases g2 : kitB t T with
        | none => rw [g2] at e; cases e
        | some b =>
          rw [g2] at e; cases e
          exact ⟨x, .ty T, .type t, .type T, b, rfl, .ty T, ty_ok v1 g, kit_ty g2, q _ H (R.push (by simp only [Rep]))⟩) h

/-! ### lists made of lists, slices -/
section
variable {c : Ctx} {W : XW} {X : Cx} {e a b : Expr} {es : List Expr} {m ma mb me : M D} {pos pos' p : Pos} {x : Str} {i j : Nat} {as : List Arg}
def OpF2 (K : PySem.W.Frag) (f : D → D → Option D) (r : R2) : Prop := ∀ (c : Ctx) (σ : L2.St) (H : Hp) (s : DS) (pend : List PEnt) (x y : V) (d1 d2 d : D) (Q : VK), c.K = K → Rel c σ H s pend → Vw K (Oof c σ s pend) H d1 x → Vw K (Oof c σ s pend) H d2 y → f d1 d2 = some d →
  (∀ v H', Rel c σ H' s ((v, true, d) :: pend) → Q v H') → r x y H Q
theorem TF_op2 {r : R2} {f : D → D → Option D} {a1 a2 : Arg} {σ : L2.St} {H : Hp} {Q : VK} (hd : OpF2 c.K f r) (h : TF c W (mOp2 f a1 a2) σ H Q) : tOp r (TAg c W a1) (TAg c W a2) σ H Q := by
  obtain ⟨s, pend, R, q⟩ := h
  refine ⟨s, pend, R, q.bind.mono fun r1 s1 q1 x H1 e1 R1 => ⟨s1, _, R1, q1.bind.mono fun r2 s2 q2 y H2 e2 R2 => ?_⟩⟩
  obtain ⟨d, hd', q3⟩ := q2.lift
  cases g1 : aGet r1 s2 with
  | none => rw [g1] at hd'; cases hd'
  | some d1 =>
    cases g2 : aGet r2 s2 with
    | none => rw [g1, g2] at hd'; cases hd'
    | some d2 =>
      rw [g1, g2] at hd'
      exact hd c σ H2 s2 _ x y d1 d2 d Q rfl R2 (R2.viewA g1 e1 fun e h => mem_aPend2 (mem_aPend1 e h)) (R2.viewA g2 e2 fun e h => mem_aPend1 e h) hd' fun v H' R' => q3 v H' R'.dropAT.dropAT
theorem pxf_bin {op : Operator} {r : R2} {f : D → D → Option D} {a1 a2 : Arg} (ho : OpR X (binaryOp op) r) (hd : OpF2 X.K f r) (ha : PAg c W X a a1) (hb : PAg c W X b a2) : PXF c W X (.BinOp a op b pos) (mOp2 f a1 a2) :=
  PEimp (pe_op ho ha hb) fun σ H Q h => TF_op2 (c := c.at X.K) hd h
def oCat : D → D → Option D
  | .lst ds, .lst es => if ds.length + es.length ≤ 100000 then some (.lst (ds ++ es)) else none
  | _, _ => none
theorem of_cat : OpF2 K oCat rCat := fun c σ H s pend x y d1 d2 d Q eK R v1 v2 e q => by
  subst eK
  cases d1 with
  | lst ds =>
    cases d2 with
    | lst es =>
      simp only [oCat] at e
      by_cases h : ds.length + es.length ≤ 100000
      · rw [if_pos h] at e; cases e
        obtain ⟨a1, xs, e1, h1, r1⟩ := vw_lst v1
        obtain ⟨a2, ys, e2, h2, r2⟩ := vw_lst v2
        refine ⟨a1, a2, xs, ys, e1, e2, h1, h2, ?_, fun p hp => q _ _ (R.lst hp (r1.append r2))⟩
        rw [← r1.length, ← r2.length]
        exact Nat.le_trans h (by decide)
      · rw [if_neg h] at e; cases e
    | _ => cases e
  | _ => cases e
/-- t + u of tuples -/
def oCatT : D → D → Option D
  | .tup ds, .tup es => if ds.length + es.length ≤ 100000 then some (.tup (ds ++ es)) else none
  | _, _ => none
theorem od_catT : OpD2 K oCatT (rCatA K) := fun c σ H s pend x y d1 d2 d Q eK R v1 v2 e q => by
  subst eK
  cases d1 with
  | tup ds =>
    cases d2 with
    | tup es =>
      simp only [oCatT] at e
      by_cases h : ds.length + es.length ≤ 100000
      · rw [if_pos h] at e; cases e
        obtain ⟨a1, xs, e1, h1, r1⟩ := vw_tup v1
        obtain ⟨a2, ys, e2, h2, r2⟩ := vw_tup v2
        refine ⟨a1, a2, xs, ys, e1, e2, h1.sq, h2.sq, ?_, fun hx => ?_, fun hx hy => ?_, fun hx hy p hp => q _ _ (R.tup hp (r1.append r2))⟩
        · rw [← r1.length, ← r2.length]
          exact Nat.le_trans h (by decide)
        · have : ds = [] := by
            have := r1.length
            rw [hx] at this
            exact List.length_eq_zero_iff.mp this
          subst this
          refine q _ H (R.push ?_)
          simp only [Rep]
          exact ⟨a2, ys, rfl, h2, r2⟩
        · have : es = [] := by
            have := r2.length
            rw [hy] at this
            exact List.length_eq_zero_iff.mp this
          subst this
          refine q _ H (R.push ?_)
          simp only [Rep, List.append_nil]
          exact ⟨a1, xs, rfl, h1, r1⟩
      · rw [if_neg h] at e; cases e
    | _ => cases e
  | _ => cases e
/-- xs[lo:hi]: the bounds are left out or computed behind xs -/
def pEv : Option (M D) → M (Option Int)
  | none => fun s => .ok none s
  | some m => fun s => (m s).bind fun d s => match d with
    | .int i => .ok (some i) s
    | _ => .bad
def cutD (ds : List D) (lo hi : Option Int) : List D := (ds.drop (HT.sIx ds.length 0 lo)).take (HT.sIx ds.length ds.length hi - HT.sIx ds.length 0 lo)
def mCut (a1 : Arg) (lo hi : Option (M D)) : M D := fun s => (aEv a1 s).bind fun r1 s => (pEv lo s).bind fun l s => (pEv hi s).bind fun h s => lift ((aGet r1 s).bind fun d => match d with
  | .lst ds => some (.lst (cutD ds l h))
  | _ => none) s
def TPt (c : Ctx) (W : XW) (m : Option (M D)) : TO := fun σ H Q => ∃ s pend, Rel c σ H s pend ∧ OG W (fun o s' => ∀ H', Rel c σ H' s' pend → Q o H') (pEv m s)
def POX (c : Ctx) (W : XW) (X : Cx) (e : Option Expr) (m : Option (M D)) : Prop := PO X e (TPt (c.at X.K) W m)
theorem POimp {o : Option Expr} {t t' : TO} (h : PO X o t) (i : ∀ σ H Q, t' σ H Q → t σ H Q) : PO X o t' := ⟨fun pins s σ H Q I q => h.run pins s σ H Q I (i σ H Q q)⟩
theorem pox_none : POX c W X none none := POimp po_none fun σ H Q ⟨s, pend, R, q⟩ => q H R
theorem pox_some (h : PX c W X e m) : POX c W X (some e) (some m) := POimp (po_some h) fun σ H Q ⟨s, pend, R, q⟩ => by
  refine ⟨s, pend, R, q.bind.mono fun d s1 q1 v H1 R1 => ?_⟩
  cases d with
  | int i =>
    have r := R1.head
    simp only [Rep] at r
    exact ⟨i, r, q1 H1 R1.drop⟩
  | _ => exact q1.elim
theorem cut_rep {O : Addr → Prop} {H : Hp} {ds : List D} {xs : List V} {lo hi : Option Int} (r : RepL K O H ds xs) : RepL K O H (cutD ds lo hi) (cutV xs lo hi) := by
  unfold cutD cutV
  rw [r.length]
  exact (r.drop _).take _
theorem pxf_cut {a1 : Arg} {lo hi : Option Expr} {ml mh : Option (M D)} {p2 : Pos} (ha : PAg c W X e a1) (hl : POX c W X lo ml) (hh : POX c W X hi mh) : PXF c W X (.Subscript e (.Slice lo hi none p2) pos) (mCut a1 ml mh) :=
  PEimp (pe_slice sl_list ha hl hh) fun σ H Q ⟨s, pend, R, q⟩ => by
    refine ⟨s, pend, R, q.bind.mono fun r1 s1 q1 x H1 e1 R1 => ⟨s1, _, R1, q1.bind.mono fun l s2 q2 H2 R2 => ⟨s2, _, R2, q2.bind.mono fun h s3 q3 H3 R3 => ?_⟩⟩⟩
    obtain ⟨d, hd, q4⟩ := q3.lift
    cases g : aGet r1 s3 with
    | none => rw [g] at hd; cases hd
    | some d1 =>
      rw [g] at hd
      cases d1 with
      | lst ds =>
        cases hd
        have v1 := R3.viewA g e1 fun e h => mem_aPend1 e h
        obtain ⟨a, xs, ea, hq, r⟩ := vw_lst v1
        exact ⟨a, xs, ea, SqL.of hq, fun p hp => q4 _ _ (R3.lst hp (cut_rep r)).dropAT⟩
      | _ => cases hd
def mCutT (a1 : Arg) (lo hi : Option (M D)) : M D := fun s => (aEv a1 s).bind fun r1 s => (pEv lo s).bind fun l s => (pEv hi s).bind fun h s => lift ((aGet r1 s).bind fun d => match d with
  | .tup ds => some (.tup (cutD ds l h))
  | _ => none) s
theorem px_cutT {a1 : Arg} {lo hi : Option Expr} {ml mh : Option (M D)} {p2 : Pos} (ha : PAg c W X e a1) (hl : POX c W X lo ml) (hh : POX c W X hi mh) : PX c W X (.Subscript e (.Slice lo hi none p2) pos) (mCutT a1 ml mh) :=
  PEimp (pe_slice sl_tupA ha hl hh) fun σ H Q ⟨s, pend, R, q⟩ => by
    refine ⟨s, pend, R, q.bind.mono fun r1 s1 q1 x H1 e1 R1 => ⟨s1, _, R1, q1.bind.mono fun l s2 q2 H2 R2 => ⟨s2, _, R2, q2.bind.mono fun h s3 q3 H3 R3 => ?_⟩⟩⟩
    obtain ⟨d, hd, q4⟩ := q3.lift
    cases g : aGet r1 s3 with
    | none => rw [g] at hd; cases hd
    | some d1 =>
      rw [g] at hd
      cases d1 with
      | tup ds =>
        cases hd
        have v1 := R3.viewA g e1 fun e h => mem_aPend1 e h
        obtain ⟨a, xs, ea, hq, r⟩ := vw_tup v1
        refine ⟨a, xs, ea, hq.sq, fun hw => ?_, fun hw p hp => q4 _ _ (R3.tup hp (cut_rep r)).dropA⟩
        have ew : cutD ds l h = ds := by
          unfold cutD
          rw [r.length, hw.1, hw.2, List.drop_zero, Nat.sub_zero, ← r.length, List.take_length]
        subst ea
        refine q4 _ H3 (R3.push ?_).dropA
        rw [ew]
        simp only [Rep]
        exact ⟨a, xs, rfl, hq, r⟩
      | _ => cases hd
/-! ### append, pop -/
def isOwL : Option Sl → Bool
  | some (.ow (.lst _)) => true
  | _ => false
@[simp] theorem isOwL_lst (ds : List D) : isOwL (some (.ow (.lst ds))) = true := rfl
def sApp (k : Nat) (m : M D) : SM := fun s => if isOwL s[k]? = false then .bad else toS (m s) fun d s => match s[k]? with
  | some (.ow (.lst ds)) => if ds.length < 100000 then .nx (s.set k (.ow (.lst (ds ++ [d])))) else .bad
  | _ => .bad
theorem ow_of_isOwL {s : DS} {k : Nat} (h : ¬ isOwL s[k]? = false) : ∃ ds, s[k]? = some (Sl.ow (.lst ds)) := by
  cases e : s[k]? with
  | none => rw [e] at h; exact absurd rfl h
  | some sl =>
    rw [e] at h
    cases sl with
    | ow d =>
      cases d with
      | lst ds => exact ⟨ds, rfl⟩
      | _ => exact absurd rfl h
    | _ => exact absurd rfl h
theorem ps_appX {o : Expr} {k : Nat} {apos : Pos} (ho : PE X o (tVar k)) (h : PX c W X e m) (hbase : attributeBase o "append" X.env (eval o X.env) = eval o X.env := by rfl)
    (hall : ((((backTo pos (starEach [e] X.env)).all fun x => !x.fst) && (backToKw pos (keywordEach [] X.env)).all fun x => x.fst.isSome) && decide (([e].length + ([] : List Keyword).length + if ([] : List Keyword).isEmpty = true then 0 else 1) < 30)) = true := by rfl)
    (hline : (apos.endLine == pos.line) = true := by rfl) (hs : starEach [e] X.env = (false, eval e X.env) :: starEach [] X.env := by rfl) (hpl : ((backTo pos (starEach [] X.env)).any fun x => x.fst) = false := by rfl)
    (hsw : swapsWith (.Call (.Attribute o "append" apos) [e] [] pos) none pos'.line X.env = pure false := by rfl) : PSX c W X (.Expr (.Call (.Attribute o "append" apos) [e] [] pos) pos') (sApp k m) :=
  PSimp (ps_expr (pe_bm PySem.F.plainAttrs_list PySem.F.slot_list_append PySem.F.type_list_append mt_append ho (pa_cons h pa_nil hs) hbase hall hline hs hpl) hsw) fun D σ H ⟨s, pend, R, q⟩ => by
    unfold sApp at q
    by_cases hO : isOwL s[k]? = false
    · rw [if_pos hO] at q; exact q.elim
    rw [if_neg hO] at q
    obtain ⟨d0, e0⟩ := ow_of_isOwL hO
    obtain ⟨pp, ep, ow⟩ := R.ow k _ e0
    -- behind e the slot owns a list
    refine ⟨.ref pp, ep, ?_, s, pend, R, q.og.mono fun d s1 q1 v H1 R1 => ?_⟩
    · obtain ⟨xs, ex, _⟩ := ow
      exact .inl ⟨rfl, xs, SqL.of ex⟩
    · cases es : s1[k]? with
      | none => rw [es] at q1; exact q1.elim
      | some sl =>
        rw [es] at q1
        cases sl with
        | ow dd =>
          cases dd with
          | lst ds =>
            simp only at q1
            by_cases hz : ds.length < 100000
            · rw [if_pos hz] at q1
              obtain ⟨pp', ep', xs, ex, r⟩ := R1.ow k _ es
              rw [ep] at ep'; cases ep'
              have hv := R1.head
              refine ⟨pp, xs, v, rfl, rfl, ex, ?_, q1 σ _ ?_⟩
              · rw [← r.length]; exact Nat.lt_trans hz (by decide)
              · refine (R1.writeS (d' := .lst (ds ++ [d])) es ep fun H' k' e' => ⟨_, e', ?_⟩).drop
                rw [Oof.false]
                rw [Oof.false] at r k'
                exact ((r.append (RepL.cons hv RepL.nil)).mono k')
            · rw [if_neg hz] at q1; exact q1.elim
          | _ => exact q1.elim
        | _ => exact q1.elim
end
end
end DL

set_option Elab.async false
set_option linter.all false
set_option autoImplicit false
set_option maxRecDepth 100000
namespace DL
variable [TQ]
open PySem PySem.Spec PyProof.Rows L2
section
variable {c : Ctx} {W : XW} {X : Cx} {e a b e3 : Expr} {es : List Expr} {m ma mb me : M D} {pos pos' p : Pos} {x : Str} {i j : Nat} {as : List Arg} {K : PySem.W.Frag}
/-! ### a + b: ints, texts, tuples, lists -/
def oAddA : D → D → Option D
  | .int i, .int j => some (.int (i + j))
  | .str i, .str j => if i.length + j.length ≤ 100000 then some (.str (i ++ j)) else none
  | .tup ds, .tup es => if ds.length + es.length ≤ 100000 then some (.tup (ds ++ es)) else none
  | .lst ds, .lst es => if ds.length + es.length ≤ 100000 then some (.lst (ds ++ es)) else none
  | _, _ => none
def rStrCat : R2 := fun x y H Q => ∃ i j, x = .str i ∧ y = .str j ∧ i.length + j.length ≤ sizeLine ∧ Q (.str (i ++ j)) H
theorem op_addA : OpR X (binaryOp .Add) (fun x y H Q => (rI0 fun i j => .int (i + j)) x y H Q ∨ rStrCat x y H Q ∨ rCatA X.K x y H Q ∨ rCat x y H Q) :=
  op_add.or (OpR.or (r := rStrCat) op_add_str (op_catA.or op_cat))
theorem od_addA : OpD2 K oAddA (fun x y H Q => (rI0 fun i j => .int (i + j)) x y H Q ∨ rStrCat x y H Q ∨ rCatA K x y H Q ∨ rCat x y H Q) := fun c σ H s pend x y d1 d2 d Q eK R v1 v2 e q => by
  cases d1 with
  | int i =>
    cases d2 with
    | int j => exact .inl (od_I0 (g := fun i j => i + j) c σ H s pend x y _ _ d Q eK R v1 v2 e q)
    | _ => cases e
  | str z =>
    cases d2 with
    | str w =>
      simp only [oAddA] at e
      by_cases h : z.length + w.length ≤ 100000
      · rw [if_pos h] at e; cases e
        exact .inr (.inl ⟨z, w, vw_str v1, vw_str v2, Nat.le_trans h (by decide), q _ H (R.push (by simp only [Rep]))⟩)
      · rw [if_neg h] at e; cases e
    | _ => cases e
  | tup ds =>
    cases d2 with
    | tup es => exact .inr (.inr (.inl (od_catT c σ H s pend x y _ _ d Q eK R v1 v2 e q)))
    | _ => cases e
  | lst ds =>
    cases d2 with
    | lst es => exact .inr (.inr (.inr (of_cat c σ H s pend x y _ _ d Q eK R v1 v2 e fun v H' R' => q v H' R'.relP)))
    | _ => cases e
  | _ => cases e
/-! ### xs[lo:hi] of a list or a tuple, as a value -/
def mCutA (a1 : Arg) (lo hi : Option (M D)) : M D := fun s => (aEv a1 s).bind fun r1 s => (pEv lo s).bind fun l s => (pEv hi s).bind fun h s => lift ((aGet r1 s).bind fun d => match d with
  | .tup ds => some (.tup (cutD ds l h))
  | .lst ds => some (.lst (cutD ds l h))
  | _ => none) s
theorem px_cutA {a1 : Arg} {lo hi : Option Expr} {ml mh : Option (M D)} {p2 : Pos} (ha : PAg c W X e a1) (hl : POX c W X lo ml) (hh : POX c W X hi mh) : PX c W X (.Subscript e (.Slice lo hi none p2) pos) (mCutA a1 ml mh) :=
  PEimp (pe_slice (sl_list.or sl_tupA) ha hl hh) fun σ H Q ⟨s, pend, R, q⟩ => by
    refine ⟨s, pend, R, q.bind.mono fun r1 s1 q1 x H1 e1 R1 => ⟨s1, _, R1, q1.bind.mono fun l s2 q2 H2 R2 => ⟨s2, _, R2, q2.bind.mono fun h s3 q3 H3 R3 => ?_⟩⟩⟩
    obtain ⟨d, hd, q4⟩ := q3.lift
    cases g : aGet r1 s3 with
    | none => rw [g] at hd; cases hd
    | some d1 =>
      rw [g] at hd
      have v1 := R3.viewA g e1 fun e h => mem_aPend1 e h
      cases d1 with
      | lst ds =>
        cases hd
        obtain ⟨a, xs, ea, hq, r⟩ := vw_lst v1
        exact .inl ⟨a, xs, ea, SqL.of hq, fun p hp => q4 _ _ (R3.lst hp (cut_rep r)).dropAT.relP⟩
      | tup ds =>
        cases hd
        obtain ⟨a, xs, ea, hq, r⟩ := vw_tup v1
        refine .inr ⟨a, xs, ea, hq.sq, fun hw => ?_, fun hw p hp => q4 _ _ (R3.tup hp (cut_rep r)).dropA⟩
        have ew : cutD ds l h = ds := by
          unfold cutD
          rw [r.length, hw.1, hw.2, List.drop_zero, Nat.sub_zero, ← r.length, List.take_length]
        subst ea
        refine q4 _ H3 (R3.push ?_).dropA
        rw [ew]
        simp only [Rep]
        exact ⟨a, xs, rfl, hq, r⟩
      | _ => cases hd
/-! ### truth -/
def truD : D → Option Bool
  | .non => some false
  | .bl b => some b
  | .int i => some (decide (i ≠ 0))
  | .tup ds => some (!ds.isEmpty)
  | .lst ds => some (!ds.isEmpty)
  | _ => none
def mTru (a1 : Arg) : M Bool := fun s => (aEv a1 s).bind fun r1 s => lift ((aGet r1 s).bind truD) s
theorem isEmpty_rep {O : Addr → Prop} {H : Hp} {ds : List D} {xs : List V} (r : RepL K O H ds xs) : ds.isEmpty = xs.isEmpty := by
  have := r.length
  cases ds <;> cases xs <;> first | rfl | simp at this
theorem tru_ok {O : Addr → Prop} {H : Hp} {d : D} {x : V} {b : Bool} (v : Vw K O H d x) (e : truD d = some b) : TruV K x H b := by
  cases d with
  | non => cases e; rw [vw_non v]; rfl
  | bl k => cases e; rw [vw_bl v]; rfl
  | int k => cases e; rw [vw_int v]; show decide (k ≠ 0) = (k != 0); by_cases h : k = 0 <;> simp [h]
  | tup ds =>
    cases e
    obtain ⟨a, xs, ea, hq, r⟩ := vw_tup v
    rw [ea, isEmpty_rep r]
    exact .inr (.inl ⟨xs, hq.sq, rfl⟩)
  | lst ds =>
    cases e
    obtain ⟨a, xs, ea, hq, r⟩ := vw_lst v
    rw [ea, isEmpty_rep r]
    exact .inl ⟨xs, SqL.of hq, rfl⟩
  | _ => cases e
theorem pt_tru {a1 : Arg} (h : PAg c W X e a1) (he : ∀ whole, isTrue e X.env whole = (do let v ← whole; standAt e.pos; holding [v] (truthy v)) := by intro _; rfl) : PXT c W X e (mTru a1) :=
  PTimp (pt_truth h he) fun σ H Q ⟨s, pend, R, q⟩ => by
    refine ⟨s, pend, R, q.bind.mono fun r1 s1 q1 x H1 e1 R1 => ?_⟩
    obtain ⟨b, hb, q2⟩ := q1.lift
    cases g : aGet r1 s1 with
    | none => rw [g] at hb; cases hb
    | some d =>
      rw [g] at hb
      exact ⟨b, tru_ok (R1.viewA g e1 fun e h => mem_aPend1 e h) hb, q2 H1 R1.dropA0⟩
/-! ### a < b < c -/
def mCh (f g : D → D → Option Bool) (m1 m2 m3 : M D) : M Bool := fun s => (m1 s).bind fun d1 s => (m2 s).bind fun d2 s => (lift (f d1 d2) s).bind fun k s => if k then (m3 s).bind fun d3 s => lift (g d2 d3) s else .ok false s
theorem ch_ok {r r' : R2} {f g : D → D → Option Bool} {m1 m2 m3 : M D} {σ : L2.St} {H : Hp} {Q : Bool → Hp → Prop} (hf : OpB2 c.K f r) (hg : OpB2 c.K g r') (h : TB c W (mCh f g m1 m2 m3) σ H Q) : tTest (tChain r r' (T c W m1) (T c W m2) (T c W m3)) σ H Q := by
  obtain ⟨s, pend, R, q⟩ := h
  refine ⟨s, pend, R, q.bind.mono fun d1 s1 q1 x H1 R1 => ⟨s1, _, R1, q1.bind.mono fun d2 s2 q2 y H2 R2 => ?_⟩⟩
  obtain ⟨k, hk, q3⟩ := q2.bind.lift
  refine hf _ H2 x y d1 d2 k _ (.inl (R2.pd _ (List.mem_cons_of_mem _ List.mem_cons_self))) (.inl (R2.pd _ List.mem_cons_self)) hk ⟨k, rfl, ?_⟩
  cases k with
  | false => exact ⟨false, rfl, q3 H2 R2.drop.drop⟩
  | true =>
    rw [if_pos rfl] at q3
    refine iteT ⟨s2, _, R2, q3.bind.mono fun d3 s3 q4 z H3 R3 => ?_⟩
    obtain ⟨k', hk', q5⟩ := q4.lift
    exact hg _ H3 y z d2 d3 k' _ (.inl (R3.pd _ (List.mem_cons_of_mem _ List.mem_cons_self))) (.inl (R3.pd _ List.mem_cons_self)) hk' ⟨k', rfl, q5 H3 R3.drop.drop.drop⟩
theorem pt_ch {op op' : CmpOp} {r r' : R2} {f g : D → D → Option Bool} {m1 m2 m3 : M D} (ho : OpR X (compareOp op) r) (ho' : OpR X (compareOp op') r') (hf : OpB2 X.K f r) (hg : OpB2 X.K g r') (ha : PX c W X a m1) (hb : PX c W X b m2) (hc : PX c W X e3 m3)
    (hm : lastMarks [op, op'] [b, e3] = false := by with_unfolding_all rfl) : PXT c W X (.Compare a [op, op'] [b, e3] pos) (mCh f g m1 m2 m3) :=
  PTimp (pt_chain ho ho' ha hb hc hm) fun σ H Q q => ch_ok (c := c.at X.K) hf hg q
/-! ### a, b = e -/
def sUnp (m : M D) (g : TgF) : SM := fun s => toS (m s) fun d s => match g d s with
  | some s => .nx s
  | none => .bad
theorem ps_unpX {tg : Expr} {g : TgF} {js : List Nat} (h : PX c W X e m) (hg : PGX c X tg g js) (hs : swapsWithSole [tg] e pos.line X.env = pure false := by rfl) (hw : swappedStores [tg] e X.env = pure none := by rfl)
    (h1 : (assignEach [tg] X.env).map (·.2) = [assign tg X.env] := by rfl) : PSX c W X (.Assign [tg] e pos) (sUnp m g) := PSimp (ps_asg h hg hs hw h1) fun D σ H ⟨s, pend, R, q⟩ =>
  ⟨s, pend, R, q.og.mono fun d s1 q1 v H1 R1 => by
    cases eg : g d s1 with
    | none => rw [eg] at q1; exact q1.elim
    | some s2 =>
      rw [eg] at q1
      exact ⟨s1, pend, d, s2, R1, eg, fun σ' H' _ _ R' => q1 σ' H' R'⟩⟩
end
end DL

set_option Elab.async false
set_option linter.all false
set_option autoImplicit false
set_option maxRecDepth 100000
namespace DL
variable [TQ]
open PySem PySem.Spec PyProof.Rows L2
section
variable {c : Ctx} {W : XW} {X : Cx} {e a b e3 tg : Expr} {es : List Expr} {m ma mb me : M D} {pos pos' p : Pos} {x : Str} {i j : Nat} {as : List Arg} {K : PySem.W.Frag}
def mItemsA (m : M D) : M (List D) := fun s => (m s).bind fun d s => lift (seqOf d) s
theorem pix_seq (h : PX c W X e m) : PIX c W X tg e (mItemsA m) := ⟨fun pins s0 σ H Rr I ⟨s, pend, R, q⟩ => by
  have hL : mItemsA m s = mItems m s → _ := fun z => (pix_list (tg := tg) h).run pins s0 σ H Rr I ⟨s, pend, R, z ▸ q⟩
  have hT : mItemsA m s = mItemsT m s → _ := fun z => (pix_tup (tg := tg) h).run pins s0 σ H Rr I ⟨s, pend, R, z ▸ q⟩
  cases hm : m s with
  | bad => exact hL (by simp only [mItemsA, mItems, hm]; rfl)
  | ex x s1 => exact hL (by simp only [mItemsA, mItems, hm]; rfl)
  | ok d s1 =>
    cases d with
    | tup ds => exact hT (by simp only [mItemsA, mItemsT, hm]; rfl)
    | _ => exact hL (by simp only [mItemsA, mItems, hm]; rfl)⟩
theorem fnRes_noex {io fr : Bool} {r : SRes} (e : Ex) (t : Option D) : fnRes io fr r ≠ .ex e t := by
  cases r with
  | ret d s =>
    simp only [fnRes]
    cases ioCont io s <;> exact fun z => by cases z
  | nx s =>
    simp only [fnRes]
    cases fr with
    | true => exact fun z => by cases z
    | false =>
      cases ioCont io s <;> exact fun z => by cases z
  | _ => exact fun z => by cases z
end
end DL

set_option Elab.async false
set_option linter.all false
set_option autoImplicit false
set_option maxRecDepth 100000
namespace DL
variable [TQ]
open PySem PySem.Spec PyProof.Rows L2
/-! ### running: the equations of the computations, from the outside in -/
section
variable {α β : Type}
variable (f : D → D → Option D) (f1 : D → Option D) (fb : D → D → Option Bool) (a1 a2 : Arg) (s : DS) (m m1 m2 m3 me mi : M D) (t u : M Bool) (i k : Nat) (as : List Arg) (a : Arg) (d d1 d2 : D) (ds : List D) (G : List D → FRes) (u1 u2 : SM) (r1 r2 : AV) (avs : List AV) (b : Bool)
/-! what comes after has a name: nothing in it is run before its time -/
def gVar : Option Sl → Nat → DS → Ores D
  | some (.pl d), _, s => .ok d s
  | some (.ow d), i, s => .ok d (s.set i (.pl d))
  | _, _, _ => .bad
@[simp] theorem gVar_pl : gVar (some (.pl d)) i s = .ok d s := rfl
@[simp] theorem gVar_ow : gVar (some (.ow d)) i s = .ok d (s.set i (.pl d)) := rfl
@[simp] theorem mVar_run : mVar i s = gVar s[i]? i s := by
  unfold mVar gVar; split <;> simp_all
def gVarP : Option Sl → DS → Ores D
  | some (.pl d), s => .ok d s
  | _, _ => .bad
@[simp] theorem gVarP_pl : gVarP (some (.pl d)) s = .ok d s := rfl
@[simp] theorem mVarP_run : mVarP i s = gVarP s[i]? s := by
  unfold mVarP gVarP; split <;> simp_all
@[simp] theorem mC_run : mC d s = .ok d s := rfl
def kV (d : D) (s : DS) : Ores AV := .ok (.d d) s
@[simp] theorem kV_run : kV d s = .ok (.d d) s := rfl
@[simp] theorem aEv_v : aEv (.v m) s = (m s).bind kV := rfl
def gR : Option D → Nat → DS → Ores AV
  | some _, i, s => .ok (.s i) s
  | none, _, _ => .bad
@[simp] theorem gR_some : gR (some d) i s = .ok (.s i) s := rfl
@[simp] theorem aEv_r : aEv (.r i) s = gR (slotD s[i]?) i s := by
  show (if (slotD s[i]?).isSome = true then _ else _) = _
  cases slotD s[i]? <;> rfl
@[simp] theorem aGet_d : aGet (.d d) s = some d := rfl
@[simp] theorem aGet_s : aGet (.s i) s = slotD s[i]? := rfl
def oo2 (f : D → D → Option α) : Option D → Option D → Option α
  | some d1, some d2 => f d1 d2
  | _, _ => none
@[simp] theorem oo2_some (f : D → D → Option α) : oo2 f (some d1) (some d2) = f d1 d2 := rfl
def oo1 (f : D → Option α) : Option D → Option α
  | some d1 => f d1
  | _ => none
@[simp] theorem oo1_some (f : D → Option α) : oo1 f (some d1) = f d1 := rfl
theorem oo2_eq (f : D → D → Option α) (x y : Option D) : oo2 f x y = x.bind fun d1 => y.bind fun d2 => f d1 d2 := by cases x <;> cases y <;> rfl
theorem oo1_eq (f : D → Option α) (x : Option D) : oo1 f x = x.bind f := by cases x <;> rfl
def kOp2b (f : D → D → Option α) (r1 r2 : AV) (s : DS) : Ores α := lift (oo2 f (aGet r1 s) (aGet r2 s)) s
def kOp2 (f : D → D → Option α) (a2 : Arg) (r1 : AV) (s : DS) : Ores α := (aEv a2 s).bind (kOp2b f r1)
@[simp] theorem kOp2b_run (f : D → D → Option α) : kOp2b f r1 r2 s = lift (oo2 f (aGet r1 s) (aGet r2 s)) s := rfl
@[simp] theorem kOp2_run (f : D → D → Option α) : kOp2 f a2 r1 s = (aEv a2 s).bind (kOp2b f r1) := rfl
@[simp] theorem mOp2_run : mOp2 f a1 a2 s = (aEv a1 s).bind (kOp2 f a2) := by
  unfold mOp2 kOp2 kOp2b; simp only [oo2_eq]
@[simp] theorem mTest2_run : mTest2 fb a1 a2 s = (aEv a1 s).bind (kOp2 fb a2) := by
  unfold mTest2 kOp2 kOp2b; simp only [oo2_eq]
def kOp1 (f : D → Option α) (r1 : AV) (s : DS) : Ores α := lift (oo1 f (aGet r1 s)) s
@[simp] theorem kOp1_run (f : D → Option α) : kOp1 f r1 s = lift (oo1 f (aGet r1 s)) s := rfl
@[simp] theorem mOp1_run : mOp1 f1 a1 s = (aEv a1 s).bind (kOp1 f1) := by
  unfold mOp1 kOp1; simp only [oo1_eq]
@[simp] theorem mArgs_nil : mArgs [] s = .ok [] s := rfl
def kArgsb (av : AV) (avs : List AV) (s : DS) : Ores (List AV) := .ok (av :: avs) s
def kArgs (as : List Arg) (av : AV) (s : DS) : Ores (List AV) := (mArgs as s).bind (kArgsb av)
@[simp] theorem kArgsb_run : kArgsb r1 avs s = .ok (r1 :: avs) s := rfl
@[simp] theorem kArgs_run : kArgs as r1 s = (mArgs as s).bind (kArgsb r1) := rfl
@[simp] theorem mArgs_cons : mArgs (a :: as) s = (aEv a s).bind (kArgs as) := rfl
def kTup (avs : List AV) (s : DS) : Ores D := lift ((allD avs).map D.tup) s
def kLst (avs : List AV) (s : DS) : Ores D := lift ((allD avs).map D.lst) s
@[simp] theorem kTup_run : kTup avs s = lift ((allD avs).map D.tup) s := rfl
@[simp] theorem kLst_run : kLst avs s = lift ((allD avs).map D.lst) s := rfl
@[simp] theorem mTup_run : mTup as s = (mArgs as s).bind kTup := rfl
@[simp] theorem mLst_run : mLst as s = (mArgs as s).bind kLst := rfl
@[simp] theorem allD_nil : allD [] = some [] := rfl
@[simp] theorem allD_cons : allD (.d d :: avs) = (allD avs).map (d :: ·) := rfl
@[simp] theorem getL_nil : getL [] s = some [] := rfl
def oCons : Option D → Option (List D) → Option (List D)
  | some d, some ds => some (d :: ds)
  | _, _ => none
@[simp] theorem oCons_some : oCons (some d) (some ds) = some (d :: ds) := rfl
@[simp] theorem getL_cons : getL (r1 :: avs) s = oCons (aGet r1 s) (getL avs s) := by
  show ((aGet r1 s).bind fun d => (getL avs s).bind fun ds => some (d :: ds)) = _
  cases aGet r1 s <;> cases getL avs s <;> rfl
def kIfE {α : Type} (m1 m2 : M α) (b : Bool) (s : DS) : Ores α := if b = true then m1 s else m2 s
@[simp] theorem kIfE_t (m1 m2 : M α) : kIfE m1 m2 true s = m1 s := rfl
@[simp] theorem kIfE_f (m1 m2 : M α) : kIfE m1 m2 false s = m2 s := rfl
@[simp] theorem mIfE_run : mIfE t m1 m2 s = (t s).bind (kIfE m1 m2) := rfl
def kBl (d : D) (s : DS) : Ores Bool := lift (match d with | .bl b => some b | _ => none) s
@[simp] theorem kBl_run : kBl (.bl b) s = .ok b s := rfl
@[simp] theorem mBl_run : mBl m s = (m s).bind kBl := rfl
def kNotB (b : Bool) (s : DS) : Ores Bool := .ok (!b) s
@[simp] theorem kNotB_run : kNotB b s = .ok (!b) s := rfl
@[simp] theorem mNotB_run : mNotB t s = (t s).bind kNotB := rfl
def kOk {α : Type} (x : α) : M α := fun s => .ok x s
@[simp] theorem kOk_run (x : α) : kOk x s = .ok x s := rfl
@[simp] theorem mAndB_run : mAndB t u s = (t s).bind (kIfE u (kOk false)) := rfl
@[simp] theorem mOrB_run : mOrB t u s = (t s).bind (kIfE (kOk true) u) := rfl
@[simp] theorem mAndV_run : mAndV m1 m2 s = (mBl m1 s).bind (kIfE m2 (kOk (.bl false))) := rfl
@[simp] theorem mOrV_run : mOrV m1 m2 s = (mBl m1 s).bind (kIfE (kOk (.bl true)) m2) := rfl
def kNotV (b : Bool) (s : DS) : Ores D := .ok (.bl (!b)) s
@[simp] theorem kNotV_run : kNotV b s = .ok (.bl (!b)) s := rfl
@[simp] theorem mNotV_run : mNotV m1 s = (mBl m1 s).bind kNotV := rfl
@[simp] theorem mTru_run : mTru a1 s = (aEv a1 s).bind (kOp1 truD) := by
  show (aEv a1 s).bind (fun r1 s => lift ((aGet r1 s).bind truD) s) = _
  unfold kOp1; simp only [oo1_eq]
def kFR : FRes → DS → Ores D
  | .ok d _, s => .ok d s
  | _, _ => .bad
@[simp] theorem kFR_ok (t : Option D) : kFR (.ok d t) s = .ok d s := rfl
def kCallb (G : List D → FRes) (ds : List D) (s : DS) : Ores D := kFR (G ds) s
def kCall (G : List D → FRes) (avs : List AV) (s : DS) : Ores D := (lift (getL avs s) s).bind (kCallb G)
@[simp] theorem kCallb_run : kCallb G ds s = kFR (G ds) s := rfl
@[simp] theorem kCall_run : kCall G avs s = (lift (getL avs s) s).bind (kCallb G) := rfl
@[simp] theorem mCall_run : mCall G as s = (mArgs as s).bind (kCall G) := by
  show (mArgs as s).bind (fun avs s => (lift (getL avs s) s).bind fun ds s => match G ds with
  | .ok d _ => .ok d s
  | _ => .bad) = _
  unfold kCall kCallb
  congr 1; funext avs s; congr 1; funext ds s
  cases G ds <;> rfl
def kFT : FRes → Nat → DS → Ores D
  | .ok d (some t), i, s => .ok d (s.set i (.ow t))
  | _, _, _ => .bad
@[simp] theorem kFT_ok (t : D) : kFT (.ok d (some t)) i s = .ok d (s.set i (.ow t)) := rfl
def kCallTc (G : List D → FRes) (i : Nat) : Option Sl → List D → DS → Ores D
  | some (.ow t0), ds, s => kFT (G (t0 :: ds)) i s
  | _, _, _ => .bad
@[simp] theorem kCallTc_ow : kCallTc G i (some (.ow d)) ds s = kFT (G (d :: ds)) i s := rfl
def kCallTb (G : List D → FRes) (i : Nat) (ds : List D) (s : DS) : Ores D := kCallTc G i s[i]? ds s
def kCallT (G : List D → FRes) (i : Nat) (avs : List AV) (s : DS) : Ores D := (lift (getL avs s) s).bind (kCallTb G i)
@[simp] theorem kCallTb_run : kCallTb G i ds s = kCallTc G i s[i]? ds s := rfl
@[simp] theorem kCallT_run : kCallT G i avs s = (lift (getL avs s) s).bind (kCallTb G i) := rfl
def kCallT0 (G : List D → FRes) (i : Nat) (as : List Arg) (b : Bool) (s : DS) : Ores D := if b = false then .bad else (mArgs as s).bind (kCallT G i)
@[simp] theorem kCallT0_run : kCallT0 G i as true s = (mArgs as s).bind (kCallT G i) := rfl
@[simp] theorem mCallT_run : mCallT G i as s = kCallT0 G i as (isOw s[i]?) s := by
  unfold mCallT kCallT0 kCallT kCallTb
  congr 1
  congr 1
  funext avs s
  congr 1
  funext ds s
  cases s[i]? with
  | none => rfl
  | some x =>
    cases x with
    | ow t0 =>
      show (match G (t0 :: ds) with
        | .ok d (some t) => .ok d (s.set i (.ow t))
        | _ => .bad) = kFT (G (t0 :: ds)) i s
      cases G (t0 :: ds) with
      | ok d t => cases t <;> rfl
      | _ => rfl
    | _ => rfl
@[simp] theorem sNil_run : sNil s = .nx s := rfl
@[simp] theorem sSeq_run : sSeq u1 u2 s = (u1 s).nxt u2 := rfl
def kAsg (i : Nat) (d : D) (s : DS) : SRes := .nx (s.set i (.pl d))
def kAsgF (i : Nat) (d : D) (s : DS) : SRes := .nx (s.set i (.ow d))
@[simp] theorem kAsg_run : kAsg i d s = .nx (s.set i (.pl d)) := rfl
@[simp] theorem kAsgF_run : kAsgF i d s = .nx (s.set i (.ow d)) := rfl
@[simp] theorem sAsg_run : sAsg i m s = toS (m s) (kAsg i) := rfl
@[simp] theorem sAsgF_run : sAsgF i m s = toS (m s) (kAsgF i) := rfl
def kAug (f : D → D → Option D) (i : Nat) (d1 d2 : D) (s : DS) : SRes := toS (lift (f d1 d2) s) (kAsg i)
@[simp] theorem kAug_run : kAug f i d1 d2 s = toS (lift (f d1 d2) s) (kAsg i) := rfl
def kAug0 (f : D → D → Option D) (i : Nat) (m : M D) : Option Sl → DS → SRes
  | some (.pl d1), s => toS (m s) (kAug f i d1)
  | _, _ => .bad
@[simp] theorem kAug0_pl : kAug0 f i m (some (.pl d)) s = toS (m s) (kAug f i d) := rfl
@[simp] theorem sAug_run : sAug i f m s = kAug0 f i m s[i]? s := by
  unfold sAug
  cases s[i]? with
  | none => rfl
  | some x => cases x <;> rfl
def setIx (k : Nat) (d : D) (ds : List D) : Option Nat → DS → SRes
  | some n, s => .nx (s.set k (.ow (.lst (ds.set n d))))
  | none, _ => .bad
@[simp] theorem setIx_some (n : Nat) : setIx k d ds (some n) s = .nx (s.set k (.ow (.lst (ds.set n d)))) := rfl
def kSetLc (k : Nat) (d : D) : Option Sl → D → DS → SRes
  | some (.ow (.lst ds)), .int j, s => setIx k d ds (ixN ds.length j) s
  | _, _, _ => .bad
@[simp] theorem kSetLc_run (j : Int) : kSetLc k d (some (.ow (.lst ds))) (.int j) s = setIx k d ds (ixN ds.length j) s := rfl
def kSetLb (k : Nat) (d : D) (di : D) (s : DS) : SRes := kSetLc k d s[k]? di s
@[simp] theorem kSetLb_run : kSetLb k d d1 s = kSetLc k d s[k]? d1 s := rfl
def kSetLa (k : Nat) (mi : M D) (d : D) (b : Bool) (s : DS) : SRes := if b = false then .bad else toS (mi s) (kSetLb k d)
@[simp] theorem kSetLa_run : kSetLa k mi d true s = toS (mi s) (kSetLb k d) := rfl
def kSetL (k : Nat) (mi : M D) (d : D) (s : DS) : SRes := kSetLa k mi d (isOw s[k]?) s
@[simp] theorem kSetL_run : kSetL k mi d s = kSetLa k mi d (isOw s[k]?) s := rfl
@[simp] theorem sSetL_run : sSetL k mi m s = toS (m s) (kSetL k mi) := by
  unfold sSetL kSetL kSetLa kSetLb
  congr 1
  funext d s
  congr 1
  congr 1
  funext di s
  cases s[k]? with
  | none => rfl
  | some x =>
    cases x with
    | ow t0 =>
      cases t0 with
      | lst ds =>
        cases di with
        | int j =>
          show (match ixN ds.length j with
            | some n => SRes.nx (s.set k (.ow (.lst (ds.set n d))))
            | none => SRes.bad) = setIx k d ds (ixN ds.length j) s
          cases ixN ds.length j <;> rfl
        | _ => rfl
      | _ => rfl
    | _ => rfl
def kEx (d : D) (s : DS) : SRes := .nx s
def kRet (d : D) (s : DS) : SRes := .ret d s
@[simp] theorem kEx_run : kEx d s = .nx s := rfl
@[simp] theorem kRet_run : kRet d s = .ret d s := rfl
@[simp] theorem sExpr_run : sExpr m s = toS (m s) kEx := rfl
@[simp] theorem sRet_run : sRet m s = toS (m s) kRet := rfl
@[simp] theorem sRetN_run : sRetN s = .ret .non s := rfl
@[simp] theorem sBrk_run : sBrk s = .brk s := rfl
@[simp] theorem sCnt_run : sCnt s = .cnt s := rfl
def kIf (u1 u2 : SM) (b : Bool) (s : DS) : SRes := if b = true then u1 s else u2 s
@[simp] theorem kIf_t : kIf u1 u2 true s = u1 s := rfl
@[simp] theorem kIf_f : kIf u1 u2 false s = u2 s := rfl
@[simp] theorem sIf_run : sIf t u1 u2 s = toS (t s) (kIf u1 u2) := rfl
def kAppb (k : Nat) (d : D) : Option Sl → DS → SRes
  | some (.ow (.lst ds)), s => if ds.length < 100000 then .nx (s.set k (.ow (.lst (ds ++ [d])))) else .bad
  | _, _ => .bad
@[simp] theorem kAppb_run : kAppb k d (some (.ow (.lst ds))) s = if ds.length < 100000 then .nx (s.set k (.ow (.lst (ds ++ [d])))) else .bad := rfl
def kApp (k : Nat) (d : D) (s : DS) : SRes := kAppb k d s[k]? s
@[simp] theorem kApp_run : kApp k d s = kAppb k d s[k]? s := rfl
def kApp0 (k : Nat) (m : M D) (b : Bool) (s : DS) : SRes := if b = false then .bad else toS (m s) (kApp k)
@[simp] theorem kApp0_run : kApp0 k m true s = toS (m s) (kApp k) := rfl
@[simp] theorem sApp_run : sApp k m s = kApp0 k m (isOwL s[k]?) s := by
  unfold sApp kApp0 kApp kAppb
  congr 2
  funext d s
  split
  · rename_i h; rw [h]
  · rename_i h
    split <;> first | rfl | (rename_i h2; exact absurd h2 (h _))
def oNx : Option DS → SRes
  | some s => .nx s
  | none => .bad
@[simp] theorem oNx_some : oNx (some s) = .nx s := rfl
def kUnp (g : TgF) (d : D) (s : DS) : SRes := oNx (g d s)
@[simp] theorem kUnp_run (g : TgF) : kUnp g d s = oNx (g d s) := rfl
@[simp] theorem sUnp_run (g : TgF) : sUnp m g s = toS (m s) (kUnp g) := by
  unfold sUnp kUnp oNx; rfl
def kFor (g : TgF) (u : SM) (ds : List D) (s : DS) : SRes := forLoop g u ds s
@[simp] theorem kFor_run (g : TgF) : kFor g u1 ds s = forLoop g u1 ds s := rfl
@[simp] theorem sFor_run (ml : M (List D)) (g : TgF) : sFor ml g u1 s = toS (ml s) (kFor g u1) := rfl
def kItems (d : D) (s : DS) : Ores (List D) := lift (seqOf d) s
@[simp] theorem kItems_run : kItems d s = lift (seqOf d) s := rfl
@[simp] theorem mItemsA_run : mItemsA m s = (m s).bind kItems := rfl
@[simp] theorem gN_run : gN i d s = some (s.set i (.pl d)) := rfl
@[simp] theorem gT_run (is : List Nat) : gT is (.tup ds) s = gNs is ds s := rfl
@[simp] theorem gNs_nil : gNs [] [] s = some s := rfl
@[simp] theorem gNs_cons (is : List Nat) : gNs (i :: is) (d :: ds) s = gNs is ds (s.set i (.pl d)) := rfl
def cutA (d : D) (l h : Option Int) : Option D := match d with
  | .tup ds => some (.tup (cutD ds l h))
  | .lst ds => some (.lst (cutD ds l h))
  | _ => none
@[simp] theorem cutA_tup (l h : Option Int) : cutA (.tup ds) l h = some (.tup (cutD ds l h)) := rfl
@[simp] theorem cutA_lst (l h : Option Int) : cutA (.lst ds) l h = some (.lst (cutD ds l h)) := rfl
def cutL (d : D) (l h : Option Int) : Option D := match d with
  | .lst ds => some (.lst (cutD ds l h))
  | _ => none
@[simp] theorem cutL_lst (l h : Option Int) : cutL (.lst ds) l h = some (.lst (cutD ds l h)) := rfl
def kCut2 (q : D → Option Int → Option Int → Option D) (r1 : AV) (l h : Option Int) (s : DS) : Ores D := lift (oo1 (fun d => q d l h) (aGet r1 s)) s
def kCut1 (q : D → Option Int → Option Int → Option D) (hi : Option (M D)) (r1 : AV) (l : Option Int) (s : DS) : Ores D := (pEv hi s).bind (kCut2 q r1 l)
def kCut0 (q : D → Option Int → Option Int → Option D) (lo hi : Option (M D)) (r1 : AV) (s : DS) : Ores D := (pEv lo s).bind (kCut1 q hi r1)
section
variable (q : D → Option Int → Option Int → Option D) (lo hi : Option (M D)) (l h : Option Int)
@[simp] theorem kCut2_run : kCut2 q r1 l h s = lift (oo1 (fun d => q d l h) (aGet r1 s)) s := rfl
@[simp] theorem kCut1_run : kCut1 q hi r1 l s = (pEv hi s).bind (kCut2 q r1 l) := rfl
@[simp] theorem kCut0_run : kCut0 q lo hi r1 s = (pEv lo s).bind (kCut1 q hi r1) := rfl
@[simp] theorem mCutA_run : mCutA a1 lo hi s = (aEv a1 s).bind (kCut0 cutA lo hi) := by
  unfold kCut0 kCut1 kCut2 cutA; simp only [oo1_eq]; rfl
@[simp] theorem mCut_run : mCut a1 lo hi s = (aEv a1 s).bind (kCut0 cutL lo hi) := by
  unfold kCut0 kCut1 kCut2 cutL; simp only [oo1_eq]; rfl
end
@[simp] theorem pEv_none : pEv none s = .ok none s := rfl
def kPi : D → DS → Ores (Option Int)
  | .int i, s => .ok (some i) s
  | _, _ => .bad
@[simp] theorem kPi_int (x : Int) : kPi (.int x) s = .ok (some x) s := rfl
@[simp] theorem pEv_some : pEv (some m) s = (m s).bind kPi := by
  show (m s).bind (fun d s => match d with
    | .int i => .ok (some i) s
    | _ => .bad) = _
  congr 1; funext d s; cases d <;> rfl
def kCh3 (g : D → D → Option Bool) (d2 d3 : D) (s : DS) : Ores Bool := lift (g d2 d3) s
def kCh2 (g : D → D → Option Bool) (m3 : M D) (d2 : D) : M Bool := fun s => (m3 s).bind (kCh3 g d2)
def kCh1 (fb g : D → D → Option Bool) (m3 : M D) (d1 d2 : D) (s : DS) : Ores Bool := (lift (fb d1 d2) s).bind (kIfE (kCh2 g m3 d2) (kOk false))
def kCh0 (fb g : D → D → Option Bool) (m2 m3 : M D) (d1 : D) (s : DS) : Ores Bool := (m2 s).bind (kCh1 fb g m3 d1)
section
variable (g : D → D → Option Bool)
@[simp] theorem kCh3_run : kCh3 g d1 d2 s = lift (g d1 d2) s := rfl
@[simp] theorem kCh2_run : kCh2 g m3 d1 s = (m3 s).bind (kCh3 g d1) := rfl
@[simp] theorem kCh1_run : kCh1 fb g m3 d1 d2 s = (lift (fb d1 d2) s).bind (kIfE (kCh2 g m3 d2) (kOk false)) := rfl
@[simp] theorem kCh0_run : kCh0 fb g m2 m3 d1 s = (m2 s).bind (kCh1 fb g m3 d1) := rfl
@[simp] theorem mCh_run : mCh fb g m1 m2 m3 s = (m1 s).bind (kCh0 fb g m2 m3) := rfl
end
noncomputable def rng1R : Option (List D) → DS → Ores (List D)
  | some [.int n], s => @ite _ (n < 2 ^ 62 ∧ -(2 ^ 62) ≤ n) (cI _) (.ok (rngD 0 n.toNat) s) .bad
  | _, _ => .bad
noncomputable def rng2R : Option (List D) → DS → Ores (List D)
  | some [.int i, .int j], s => @ite _ (-(2 ^ 62) ≤ i ∧ i < 2 ^ 62 ∧ -(2 ^ 62) ≤ j ∧ j < 2 ^ 62) (cI _) (.ok (rngD i (j - i).toNat) s) .bad
  | _, _ => .bad
theorem rng1R_run (x : Int) (h : x < 4611686018427387904 ∧ -4611686018427387904 ≤ x) : rng1R (some [.int x]) s = .ok (rngD 0 x.toNat) s := if_pos h
theorem rng2R_run (x y : Int) (h : -4611686018427387904 ≤ x ∧ x < 4611686018427387904 ∧ -4611686018427387904 ≤ y ∧ y < 4611686018427387904) : rng2R (some [.int x, .int y]) s = .ok (rngD x (y - x).toNat) s := if_pos h
/-- a range of a number that is small enough, said as a fact -/
theorem rng1_ok {x : Int} (h : x ≤ 1000000) (h2 : -1000000 ≤ x) (s : DS) : rng1R (some [.int x]) s = .ok (rngD 0 x.toNat) s := rng1R_run _ _ (by omega)
theorem rng1_nat {n : Nat} (h : n ≤ 1000000) (s : DS) : rng1R (some [.int n]) s = .ok (rngD 0 n) s := by
  rw [rng1_ok (by omega) (by omega)]; rfl
theorem rng2_ok {x y : Int} (h : x ≤ 1000000) (h2 : -1000000 ≤ x) (h3 : y ≤ 1000000) (h4 : -1000000 ≤ y) (s : DS) : rng2R (some [.int x, .int y]) s = .ok (rngD x (y - x).toNat) s := rng2R_run _ _ _ (by omega)
noncomputable def kRng1 (avs : List AV) (s : DS) : Ores (List D) := rng1R (getL avs s) s
noncomputable def kRng2 (avs : List AV) (s : DS) : Ores (List D) := rng2R (getL avs s) s
@[simp] theorem kRng1_run : kRng1 avs s = rng1R (getL avs s) s := rfl
@[simp] theorem kRng2_run : kRng2 avs s = rng2R (getL avs s) s := rfl
@[simp] theorem mRng1_run : mRng1 as s = (mArgs as s).bind kRng1 := by
  unfold mRng1 kRng1 rng1R
  congr 1
  funext avs s
  split
  · rename_i h; rw [h]
  · rename_i h
    split <;> first | rfl | (rename_i h2; exact absurd h2 (h _))
@[simp] theorem mRng2_run : mRng2 as s = (mArgs as s).bind kRng2 := by
  unfold mRng2 kRng2 rng2R
  congr 1
  funext avs s
  split
  · rename_i h; rw [h]
  · rename_i h
    split <;> first | rfl | (rename_i h2; exact absurd h2 (h _ _))
def kLc (vs : List Nat) (g : TgF) (t : M Bool) (me : M D) (ds : List D) (s : DS) : Ores D := if 100000 < ds.length then .bad else lcLoop g vs t me ds (wipeS s vs) []
@[simp] theorem kLc_run (vs : List Nat) (g : TgF) : kLc vs g t me ds s = if 100000 < ds.length then .bad else lcLoop g vs t me ds (wipeS s vs) [] := rfl
@[simp] theorem mLc_run (ml : M (List D)) (vs : List Nat) (g : TgF) : mLc ml vs g t me s = (ml s).bind (kLc vs g t me) := rfl
@[simp] theorem mYes_run : mYes s = .ok true s := rfl
@[simp] theorem wipeS_nil : wipeS s [] = s := rfl
@[simp] theorem wipeS_cons (vs : List Nat) : wipeS s (i :: vs) = (wipeS s vs).set i .no := rfl
@[simp] theorem forLoop_nil (g : TgF) : forLoop g u1 [] s = .nx s := rfl
/-- after one turn of a for loop -/
def kTurn (g : TgF) (u : SM) (ds : List D) : SRes → SRes
  | .nx s => forLoop g u ds s
  | .cnt s => forLoop g u ds s
  | .brk s => .nx s
  | r => r
section
variable (g : TgF)
@[simp] theorem kTurn_nx : kTurn g u1 ds (.nx s) = forLoop g u1 ds s := rfl
@[simp] theorem kTurn_cnt : kTurn g u1 ds (.cnt s) = forLoop g u1 ds s := rfl
@[simp] theorem kTurn_brk : kTurn g u1 ds (.brk s) = .nx s := rfl
@[simp] theorem kTurn_ret : kTurn g u1 ds (.ret d s) = .ret d s := rfl
def kIn (g : TgF) (u : SM) (ds : List D) : Option DS → SRes
  | none => .bad
  | some s => kTurn g u ds (u s)
@[simp] theorem kIn_some : kIn g u1 ds (some s) = kTurn g u1 ds (u1 s) := rfl
theorem forLoop_cons : forLoop g u1 (d :: ds) s = kIn g u1 ds (g d s) := by
  cases h : g d s with
  | none => simp only [forLoop, h]; rfl
  | some s1 =>
    simp only [forLoop, h, kIn, kTurn]
    all_goals (cases u1 s1 <;> rfl)
variable (vs : List Nat) (acc : List D)
@[simp] theorem lcLoop_nil : lcLoop g vs t me [] s acc = .ok (.lst acc) s := rfl
def kLcc (g : TgF) (vs : List Nat) (t : M Bool) (me : M D) (ds acc : List D) (y : D) (s : DS) : Ores D := lcLoop g vs t me ds (wipeS s vs) (acc ++ [y])
def kLcn (g : TgF) (vs : List Nat) (t : M Bool) (me : M D) (ds acc : List D) : M D := fun s => lcLoop g vs t me ds (wipeS s vs) acc
def kLcy (g : TgF) (vs : List Nat) (t : M Bool) (me : M D) (ds acc : List D) : M D := fun s => (me s).bind (kLcc g vs t me ds acc)
def kLcb (g : TgF) (vs : List Nat) (t : M Bool) (me : M D) (ds acc : List D) : Option DS → Ores D
  | none => .bad
  | some s => (t s).bind (kIfE (kLcy g vs t me ds acc) (kLcn g vs t me ds acc))
@[simp] theorem kLcc_run : kLcc g vs t me ds acc d s = lcLoop g vs t me ds (wipeS s vs) (acc ++ [d]) := rfl
@[simp] theorem kLcn_run : kLcn g vs t me ds acc s = lcLoop g vs t me ds (wipeS s vs) acc := rfl
@[simp] theorem kLcy_run : kLcy g vs t me ds acc s = (me s).bind (kLcc g vs t me ds acc) := rfl
@[simp] theorem kLcb_some : kLcb g vs t me ds acc (some s) = (t s).bind (kIfE (kLcy g vs t me ds acc) (kLcn g vs t me ds acc)) := rfl
theorem lcLoop_cons : lcLoop g vs t me (d :: ds) s acc = kLcb g vs t me ds acc (g d s) := by
  cases h : g d s with
  | none => simp only [lcLoop, h]; rfl
  | some s1 => simp only [lcLoop, h]; rfl
end
end
section
variable (f : D → D → Option D) (fb : D → D → Option Bool) (s : DS) (i k : Nat) (d : D) (ds : List D)
/-! operations on data -/
@[simp] theorem seqOf_tup : seqOf (.tup ds) = some ds := rfl
@[simp] theorem seqOf_lst : seqOf (.lst ds) = some ds := rfl
@[simp] theorem seqOf_scr : seqOf (.scr ds) = some ds := rfl
variable (x y : Int)
@[simp] theorem oAddA_int : oAddA (.int x) (.int y) = some (.int (x + y)) := rfl
@[simp] theorem oAdd_int : oAdd (.int x) (.int y) = some (.int (x + y)) := rfl
@[simp] theorem oSub_int : oSub (.int x) (.int y) = some (.int (x - y)) := rfl
@[simp] theorem oMulR (h : -(2 ^ 64) < y ∧ y < 2 ^ 64) : oMul (.int x) (.int y) = some (.int (x * y)) := by
  simp only [oMul, fII, cMul, dB_t h, Bool.or_true, if_true]
@[simp] theorem oMulL (h : -(2 ^ 64) < x ∧ x < 2 ^ 64) : oMul (.int x) (.int y) = some (.int (x * y)) := by
  simp only [oMul, fII, cMul, dB_t h, Bool.true_or, if_true]
@[simp] theorem oDiv_int (h : 0 < y) (h2 : y < 1208925819614629174706176) : oDiv (.int x) (.int y) = some (.int (x / y)) := by
  have h3 : 0 < y ∧ y < 2 ^ 80 := ⟨h, h2⟩
  simp only [oDiv, fII, cDiv, dB_t h3, if_true]
@[simp] theorem oMod_int (h : 0 < y) : oMod (.int x) (.int y) = some (.int (x % y)) := by
  simp only [oMod, fII, cMod, dB_t h, if_true]
theorem cPow_true (h : 0 ≤ y ∧ y ≤ 1000) (h2 : -(2 ^ 63) < x ∧ x < 2 ^ 63) : cPow x y = true := by
  unfold cPow; rw [dB_t h, dB_t h2]; rfl
@[simp] theorem oPow_int (h : 0 ≤ y ∧ y ≤ 1000) (h2 : -(2 ^ 63) < x ∧ x < 2 ^ 63) : oPow (.int x) (.int y) = some (.int (x ^ y.toNat)) := by
  simp only [oPow, fII, cPow_true _ _ h h2, if_true]
theorem bits_small {n : Nat} (h2 : -(2 ^ n) < x ∧ x < 2 ^ n) : Builtin.Int.intBits x ≤ n := by
  unfold Builtin.Int.intBits
  by_cases hx : x = 0
  · subst hx; simp
  · have hb : (x == 0) = false := by simpa using hx
    rw [hb]
    simp only [Bool.false_eq_true, if_false]
    have hn : x.natAbs ≠ 0 := by omega
    have h3 : x.natAbs < 2 ^ n := by
      have e : ((2 : Int) ^ n) = ((2 ^ n : Nat) : Int) := by rw [Int.natCast_pow]; rfl
      rw [e] at h2
      omega
    have := (Nat.log2_lt hn).mpr h3
    omega
theorem oShlW {n : Nat} (hn : n ≤ 1000000) (h : 0 ≤ y ∧ y ≤ 1000000) (h2 : -(2 ^ n) < x ∧ x < 2 ^ n) : oShl (.int x) (.int y) = some (.int (x * 2 ^ y.toNat)) := by
  have := bits_small x h2
  have hc : CShl x y := ⟨h.1, by
    have e : (2 : Int) ^ 27 = 134217728 := by decide
    rw [e]; omega⟩
  simp only [oShl, fII, cShl, dB_t hc, if_true]
@[simp] theorem oShl_int (h : 0 ≤ y ∧ y ≤ 1000) (h2 : -(2 ^ 63) < x ∧ x < 2 ^ 63) : oShl (.int x) (.int y) = some (.int (x * 2 ^ y.toNat)) := oShlW x y (n := 63) (by decide) ⟨h.1, by omega⟩ h2
@[simp] theorem oShr_int (h : 0 ≤ y) : oShr (.int x) (.int y) = some (.int (x / 2 ^ y.toNat)) := by
  simp only [oShr, fII, cShr, dB_t h, if_true]
@[simp] theorem oAnd_int : oAnd (.int x) (.int y) = some (.int (Builtin.bitAnd x y)) := rfl
@[simp] theorem oOr_int : oOr (.int x) (.int y) = some (.int (Builtin.bitOr x y)) := rfl
@[simp] theorem fI_int (g : Int → Int) : fI g (.int x) = some (.int (g x)) := rfl
@[simp] theorem oMax2_int : oMax2 (.int x) (.int y) = some (.int (max x y)) := by
  show some (D.int (max2 x y)) = _
  rw [max2_eq]
  congr 2
  omega
@[simp] theorem oMin2_int : oMin2 (.int x) (.int y) = some (.int (min x y)) := by
  show some (D.int (min2 x y)) = _
  rw [min2_eq]
  congr 2
  omega
@[simp] theorem bLt_int : bLt (.int x) (.int y) = some (decide (x < y)) := by
  show some (dB (x < y)) = _
  rw [dB_eq]
@[simp] theorem bLe_int : bLe (.int x) (.int y) = some (decide (x ≤ y)) := by
  show some (dB (x ≤ y)) = _
  rw [dB_eq]
@[simp] theorem bGt_int : bGt (.int x) (.int y) = some (decide (y < x)) := by
  show some (dB (y < x)) = _
  rw [dB_eq]
@[simp] theorem bGe_int : bGe (.int x) (.int y) = some (decide (y ≤ x)) := by
  show some (dB (y ≤ x)) = _
  rw [dB_eq]
@[simp] theorem bEq_int : bEq (.int x) (.int y) = some (decide (x = y)) := rfl
@[simp] theorem bEq_bl (b c : Bool) : bEq (.bl b) (.bl c) = some (decide (b = c)) := rfl
@[simp] theorem bEq_str (b c : Str) : bEq (.str b) (.str c) = some (decide (b = c)) := rfl
@[simp] theorem bNe_int : bNe (.int x) (.int y) = some (!decide (x = y)) := rfl
@[simp] theorem bIsN_run : bIsN d .non = some (isNon d) := rfl
@[simp] theorem bNotN_run : bNotN d .non = some (!isNon d) := rfl
@[simp] theorem isNon_non : isNon .non = true := rfl
@[simp] theorem isNon_int : isNon (.int x) = false := rfl
@[simp] theorem isNon_bl (b : Bool) : isNon (.bl b) = false := rfl
@[simp] theorem isNon_str (b : Str) : isNon (.str b) = false := rfl
@[simp] theorem isNon_tup : isNon (.tup ds) = false := rfl
@[simp] theorem isNon_lst : isNon (.lst ds) = false := rfl
@[simp] theorem oB_run (p : D → D → Option Bool) (d1 d2 : D) : oB p d1 d2 = (p d1 d2).map D.bl := rfl
@[simp] theorem oInt_int : oInt (.int x) = some (.int x) := rfl
@[simp] theorem oLen_tup : oLen (.tup ds) = some (.int ds.length) := rfl
@[simp] theorem oLen_lst : oLen (.lst ds) = some (.int ds.length) := rfl
@[simp] theorem oLen_scr : oLen (.scr ds) = some (.int ds.length) := rfl
@[simp] theorem oList_lst : oList (.lst ds) = some (.lst ds) := rfl
@[simp] theorem oList_scr : oList (.scr ds) = some (.lst ds) := rfl
@[simp] theorem oList_tup : oList (.tup ds) = some (.lst ds) := rfl
@[simp] theorem oTuple_lst : oTuple (.lst ds) = some (.tup ds) := rfl
@[simp] theorem oTuple_tup : oTuple (.tup ds) = some (.tup ds) := rfl
@[simp] theorem oIxA_run : oIxA d (.int x) = (seqOf d).bind fun ds => atI ds x := rfl
@[simp] theorem truD_bl (b : Bool) : truD (.bl b) = some b := rfl
@[simp] theorem truD_non : truD .non = some false := rfl
@[simp] theorem truD_int : truD (.int x) = some (decide (x ≠ 0)) := rfl
@[simp] theorem truD_tup : truD (.tup ds) = some (!ds.isEmpty) := rfl
@[simp] theorem truD_lst : truD (.lst ds) = some (!ds.isEmpty) := rfl
@[simp] theorem oBits_int : oBits (.int x) = some (.int (Builtin.Int.intBits x : Nat)) := rfl
theorem kitB_tab : kitB "int" "int" = some true ∧ kitB "bool" "int" = some true ∧ kitB "str" "int" = some false ∧ kitB "tuple" "int" = some false ∧ kitB "list" "int" = some false ∧ kitB "NoneType" "int" = some false ∧
    kitB "int" "bool" = some false ∧ kitB "bool" "bool" = some true ∧ kitB "str" "bool" = some false ∧ kitB "tuple" "bool" = some false ∧ kitB "list" "bool" = some false ∧ kitB "NoneType" "bool" = some false ∧
    kitB "int" "str" = some false ∧ kitB "bool" "str" = some false ∧ kitB "str" "str" = some true ∧ kitB "tuple" "str" = some false ∧ kitB "list" "str" = some false ∧ kitB "NoneType" "str" = some false ∧
    kitB "int" "tuple" = some false ∧ kitB "bool" "tuple" = some false ∧ kitB "str" "tuple" = some false ∧ kitB "tuple" "tuple" = some true ∧ kitB "list" "tuple" = some false ∧ kitB "NoneType" "tuple" = some false ∧
    kitB "int" "list" = some false ∧ kitB "bool" "list" = some false ∧ kitB "str" "list" = some false ∧ kitB "tuple" "list" = some false ∧ kitB "list" "list" = some true ∧ kitB "NoneType" "list" = some false := by decide +kernel
/-- isinstance by the data's form -/
def isiD (T : String) : D → Option Bool
  | .non => some false
  | .bl _ => some (T == "bool" || T == "int")
  | .int _ => some (T == "int")
  | .str _ => some (T == "str")
  | .tup _ => some (T == "tuple")
  | .lst _ => some (T == "list")
  | _ => none
@[simp] theorem isi_int (h : ∀ ks ds, d ≠ .dic ks ds) : oIsi "int" d = (isiD "int" d).map D.bl := by
  cases d <;> first | (simp only [oIsi, tyD, isiD, kitB_tab]; rfl) | exact absurd rfl (h _ _) | (simp [oIsi, tyD, isiD, kitB_tab]; done)
@[simp] theorem isi_bool (h : ∀ ks ds, d ≠ .dic ks ds) : oIsi "bool" d = (isiD "bool" d).map D.bl := by
  cases d <;> first | (simp only [oIsi, tyD, isiD, kitB_tab]; rfl) | exact absurd rfl (h _ _) | (simp [oIsi, tyD, isiD, kitB_tab]; done)
@[simp] theorem isi_str (h : ∀ ks ds, d ≠ .dic ks ds) : oIsi "str" d = (isiD "str" d).map D.bl := by
  cases d <;> first | (simp only [oIsi, tyD, isiD, kitB_tab]; rfl) | exact absurd rfl (h _ _) | (simp [oIsi, tyD, isiD, kitB_tab]; done)
@[simp] theorem isi_tup (h : ∀ ks ds, d ≠ .dic ks ds) : oIsi "tuple" d = (isiD "tuple" d).map D.bl := by
  cases d <;> first | (simp only [oIsi, tyD, isiD, kitB_tab]; rfl) | exact absurd rfl (h _ _) | (simp [oIsi, tyD, isiD, kitB_tab]; done)
@[simp] theorem isi_lst (h : ∀ ks ds, d ≠ .dic ks ds) : oIsi "list" d = (isiD "list" d).map D.bl := by
  cases d <;> first | (simp only [oIsi, tyD, isiD, kitB_tab]; rfl) | exact absurd rfl (h _ _) | (simp [oIsi, tyD, isiD, kitB_tab]; done)
@[simp] theorem isiD_non (T : String) : isiD T .non = some false := rfl
@[simp] theorem isiD_bl (T : String) (b : Bool) : isiD T (.bl b) = some (T == "bool" || T == "int") := rfl
@[simp] theorem isiD_int (T : String) : isiD T (.int x) = some (T == "int") := rfl
@[simp] theorem isiD_str (T : String) (b : Str) : isiD T (.str b) = some (T == "str") := rfl
@[simp] theorem isiD_tup (T : String) : isiD T (.tup ds) = some (T == "tuple") := rfl
@[simp] theorem isiD_lst (T : String) : isiD T (.lst ds) = some (T == "list") := rfl
theorem atI_int {α : Type} (xs : List α) (h : 0 ≤ x ∧ x < xs.length) : atI xs x = xs[x.toNat]? := by
  unfold atI ixN
  rw [if_pos h.1, if_pos h.2]; rfl
theorem ixN_int (n : Nat) (h : 0 ≤ x ∧ x < n) : ixN n x = some x.toNat := by
  unfold ixN
  rw [if_pos h.1, if_pos h.2]
@[simp] theorem fnRes_ret (io fr : Bool) : fnRes io fr (.ret d s) = match ioCont io s with
  | some t => .ok d t
  | none => .bad := rfl
@[simp] theorem fnRes_nx (io : Bool) : fnRes io false (.nx s) = match ioCont io s with
  | some t => .ok .non t
  | none => .bad := rfl
@[simp] theorem ioCont_f : ioCont false s = some none := rfl
@[simp] theorem ioCont_t : ioCont true s = match (s[0]? : Option Sl) with
    | some (Sl.ow t) => some (some t)
    | _ => none := rfl
@[simp] theorem initL_nil : initL [] ds = [] := by cases ds <;> rfl
@[simp] theorem initL_t (ks : List Bool) : initL (true :: ks) (d :: ds) = .vw d :: initL ks ds := rfl
@[simp] theorem initL_f (ks : List Bool) : initL (false :: ks) (d :: ds) = .pl d :: initL ks ds := rfl
@[simp] theorem initA_t (ks : List Bool) : initA true ks (d :: ds) = .ow d :: initL ks ds := rfl
@[simp] theorem initA_f (ks : List Bool) : initA false ks ds = initL ks ds := by cases ds <;> rfl
end
end DL

set_option Elab.async false
set_option linter.all false
set_option autoImplicit false
set_option maxRecDepth 100000
namespace DL
variable [TQ]
open PySem PySem.Spec PyProof.Rows L2
/-! loops by what stays true -/
section
variable {g : TgF} {u : SM} {vs : List Nat} {t : M Bool} {me : M D}
def stepO (u : SM) : Option DS → SRes
  | none => .bad
  | some s => u s
@[simp] theorem stepO_some (s : DS) : stepO u (some s) = u s := rfl
/-- one turn of a for loop -/
def stepF (g : TgF) (u : SM) (d : D) (s : DS) : SRes := stepO u (g d s)
theorem stepF_run (d : D) (s : DS) : stepF g u d s = stepO u (g d s) := rfl
theorem forLoop_step (d : D) (ds : List D) (s : DS) : forLoop g u (d :: ds) s = kTurn g u ds (stepF g u d s) := by
  rw [forLoop_cons, stepF]
  cases g d s <;> rfl
/-- all turns end, nothing is returned -/
theorem for_inv (I : Nat → DS → Prop) : ∀ (ds : List D) (b : Nat), (∀ k (hk : k < ds.length) s, I (b + k) s → ∃ s1, (stepF g u ds[k] s = .nx s1 ∨ stepF g u ds[k] s = .cnt s1) ∧ I (b + k + 1) s1) → ∀ s, I b s → ∃ s1, forLoop g u ds s = .nx s1 ∧ I (b + ds.length) s1
  | [], b, h, s, h0 => ⟨s, rfl, h0⟩
  | d :: ds, b, h, s, h0 => by
    obtain ⟨s1, e, i1⟩ := h 0 (by simp) s h0
    obtain ⟨s2, e2, i2⟩ := for_inv I ds (b + 1) (fun k hk s hi => by
      obtain ⟨s1, e, i1⟩ := h (k + 1) (by simpa using hk) s (by rw [show b + (k + 1) = b + 1 + k by omega]; exact hi)
      exact ⟨s1, by simpa using e, by rw [show b + 1 + k + 1 = b + (k + 1) + 1 by omega]; exact i1⟩) s1 i1
    refine ⟨s2, ?_, by rw [show b + (d :: ds).length = b + 1 + ds.length by simp; omega]; exact i2⟩
    rw [forLoop_step, ← e2]
    simp only [List.getElem_cons_zero] at e
    rcases e with e | e <;> rw [e] <;> rfl
/-- some turn returns, or all end -/
theorem for_inv_ret (I : Nat → DS → Prop) (Q : D → DS → Prop) : ∀ (ds : List D) (b : Nat), (∀ k (hk : k < ds.length) s, I (b + k) s → (∃ s1, (stepF g u ds[k] s = .nx s1 ∨ stepF g u ds[k] s = .cnt s1) ∧ I (b + k + 1) s1) ∨ ∃ d s1, stepF g u ds[k] s = .ret d s1 ∧ Q d s1) → ∀ s, I b s → (∃ s1, forLoop g u ds s = .nx s1 ∧ I (b + ds.length) s1) ∨ ∃ d s1, forLoop g u ds s = .ret d s1 ∧ Q d s1
  | [], b, h, s, h0 => .inl ⟨s, rfl, h0⟩
  | d :: ds, b, h, s, h0 => by
    have h1 := h 0 (by simp) s h0
    simp only [List.getElem_cons_zero] at h1
    rcases h1 with ⟨s1, e, i1⟩ | ⟨d1, s1, e, q⟩
    · have h2 := for_inv_ret I Q ds (b + 1) (fun k hk s hi => by
        have h3 := h (k + 1) (by simpa using hk) s (by rw [show b + (k + 1) = b + 1 + k by omega]; exact hi)
        rw [show b + (k + 1) + 1 = b + 1 + k + 1 by omega] at h3
        simpa using h3) s1 i1
      rw [show b + 1 + ds.length = b + (d :: ds).length by simp; omega] at h2
      have e3 : forLoop g u (d :: ds) s = forLoop g u ds s1 := by
        rw [forLoop_step]
        rcases e with e | e <;> rw [e] <;> rfl
      rw [e3]; exact h2
    · exact .inr ⟨d1, s1, by rw [forLoop_step, e]; rfl, q⟩
/-- one turn of a comprehension: the list that is made -/
def kLy (vs : List Nat) (acc : List D) (y : D) : M (List D) := fun s => .ok (acc ++ [y]) (wipeS s vs)
def kLn (vs : List Nat) (acc : List D) : M (List D) := fun s => .ok acc (wipeS s vs)
def kLm (vs : List Nat) (me : M D) (acc : List D) : M (List D) := fun s => (me s).bind (kLy vs acc)
def stepLO (vs : List Nat) (t : M Bool) (me : M D) (acc : List D) : Option DS → Ores (List D)
  | none => .bad
  | some s => (t s).bind (kIfE (kLm vs me acc) (kLn vs acc))
def stepL (g : TgF) (vs : List Nat) (t : M Bool) (me : M D) (d : D) (s : DS) (acc : List D) : Ores (List D) := stepLO vs t me acc (g d s)
section
variable (acc : List D) (y d : D) (s : DS)
@[simp] theorem kLy_run : kLy vs acc y s = .ok (acc ++ [y]) (wipeS s vs) := rfl
@[simp] theorem kLn_run : kLn vs acc s = .ok acc (wipeS s vs) := rfl
@[simp] theorem kLm_run : kLm vs me acc s = (me s).bind (kLy vs acc) := rfl
@[simp] theorem stepLO_some : stepLO vs t me acc (some s) = (t s).bind (kIfE (kLm vs me acc) (kLn vs acc)) := rfl
theorem stepL_run : stepL g vs t me d s acc = stepLO vs t me acc (g d s) := rfl
theorem lcLoop_step (ds : List D) {acc' : List D} {s' : DS} (h : stepL g vs t me d s acc = .ok acc' s') : lcLoop g vs t me (d :: ds) s acc = lcLoop g vs t me ds s' acc' := by
  rw [lcLoop_cons]
  unfold stepL at h
  cases e : g d s with
  | none => rw [e] at h; cases h
  | some s1 =>
    rw [e] at h
    simp only [stepLO_some] at h
    simp only [kLcb_some]
    cases e2 : t s1 with
    | bad => rw [e2] at h; cases h
    | ex x s => rw [e2] at h; cases h
    | ok b s2 =>
      rw [e2] at h
      cases b with
      | false =>
        simp only [Ores.bind_ok, kIfE_f, kLn_run] at h ⊢
        cases h; rfl
      | true =>
        simp only [Ores.bind_ok, kIfE_t, kLm_run] at h ⊢
        rw [kLcy_run]
        cases e3 : me s2 with
        | bad => rw [e3] at h; cases h
        | ex x s => rw [e3] at h; cases h
        | ok y s3 =>
          rw [e3] at h
          cases h; rfl
end
theorem lc_inv (I : Nat → DS → List D → Prop) : ∀ (ds : List D) (b : Nat), (∀ k (hk : k < ds.length) s acc, I (b + k) s acc → ∃ s1 acc1, stepL g vs t me ds[k] s acc = .ok acc1 s1 ∧ I (b + k + 1) s1 acc1) → ∀ s acc, I b s acc → ∃ s1 acc1, lcLoop g vs t me ds s acc = .ok (.lst acc1) s1 ∧ I (b + ds.length) s1 acc1
  | [], b, h, s, acc, h0 => ⟨s, acc, rfl, h0⟩
  | d :: ds, b, h, s, acc, h0 => by
    obtain ⟨s1, acc1, e, i1⟩ := h 0 (by simp) s acc h0
    obtain ⟨s2, acc2, e2, i2⟩ := lc_inv I ds (b + 1) (fun k hk s acc hi => by
      obtain ⟨s1, acc1, e, i1⟩ := h (k + 1) (by simpa using hk) s acc (by rw [show b + (k + 1) = b + 1 + k by omega]; exact hi)
      exact ⟨s1, acc1, by simpa using e, by rw [show b + 1 + k + 1 = b + (k + 1) + 1 by omega]; exact i1⟩) s1 acc1 i1
    exact ⟨s2, acc2, by rw [lcLoop_step _ _ _ _ (by simpa using e)]; exact e2, by rw [show b + (d :: ds).length = b + 1 + ds.length by simp; omega]; exact i2⟩
end
/-! ranges, cuts -/
theorem rngD_len (i : Int) (n : Nat) : (rngD i n).length = n := by simp [rngD]
theorem rngD_get (i : Int) (n k : Nat) (h : k < (rngD i n).length) : (rngD i n)[k] = .int (i + k) := by simp [rngD]
theorem atI_get {α : Type} (xs : List α) (k : Nat) (h : k < xs.length) : atI xs (k : Int) = some xs[k] := by
  rw [atI_int _ _ ⟨by omega, by omega⟩]
  simp
theorem cutD_int (ds : List D) (a b : Int) (h : 0 ≤ a ∧ a ≤ b ∧ b ≤ ds.length) : DL.cutD ds (some a) (some b) = (ds.drop a.toNat).take (b - a).toNat := by
  unfold DL.cutD HT.sIx
  obtain ⟨h1, h2, h3⟩ := h
  simp only [if_neg (show ¬ a < 0 by omega), if_neg (show ¬ b < 0 by omega)]
  congr 1
  · omega
  · congr 1; omega
theorem drop_two {α : Type} (xs : List α) (k : Nat) (h : k + 1 < xs.length) : (xs.drop k).take 2 = [xs[k], xs[k + 1]] := by
  rw [List.drop_eq_getElem_cons (by omega), List.drop_eq_getElem_cons (by omega)]
  rfl
theorem drop_four {α : Type} (xs : List α) (k : Nat) (h : k + 3 < xs.length) : (xs.drop k).take 4 = [xs[k], xs[k + 1], xs[k + 2], xs[k + 3]] := by
  rw [List.drop_eq_getElem_cons (by omega), List.drop_eq_getElem_cons (by omega), List.drop_eq_getElem_cons (by omega), List.drop_eq_getElem_cons (by omega)]
  rfl
theorem oAddA_tup {xs ys : List D} (h : xs.length + ys.length ≤ 100000) : oAddA (.tup xs) (.tup ys) = some (.tup (xs ++ ys)) := if_pos h
theorem oAddA_tup2 {xs ys zs : List D} (h : xs.length + ys.length ≤ 100000) (e : xs ++ ys = zs) : oAddA (.tup xs) (.tup ys) = some (.tup zs) := by rw [oAddA_tup h, e]
end DL

set_option Elab.async false
set_option linter.all false
set_option autoImplicit false
set_option maxRecDepth 100000
namespace DL
variable [TQ]
open PySem PySem.Spec PyProof.Rows L2
/-! ### in, not in: plain items -/
def flatD : D → Bool
  | .non => true
  | .bl _ => true
  | .int _ => true
  | .str _ => true
  | _ => false
section
variable {K : PySem.W.Frag} {O : Addr → Prop} {H : Hp}
theorem flat_rep {d : D} {v : V} (f : flatD d = true) (r : Rep K O H d v) : v = toV0 d ∧ flatV v = true := by
  cases d <;> simp only [Rep] at r <;> first | (subst r; exact ⟨rfl, rfl⟩) | cases f
theorem flat_vw {d : D} {v : V} (f : flatD d = true) (r : Vw K O H d v) : v = toV0 d ∧ flatV v = true := by
  rcases r with r | ⟨p, e, r⟩
  · exact flat_rep f r
  · cases d <;> first | exact r.elim | cases f
theorem flat_reps : ∀ {ds : List D} {vs : List V}, ds.all flatD = true → RepL K O H ds vs → vs = ds.map toV0 ∧ vs.all flatV = true
  | [], vs, _, r => by simp only [RepL] at r; subst r; exact ⟨rfl, rfl⟩
  | d :: ds, vs, f, r => by
    simp only [RepL] at r
    obtain ⟨x, r', e, r1, r2⟩ := r
    subst e
    rw [List.all_cons, Bool.and_eq_true] at f
    obtain ⟨e1, f1⟩ := flat_rep f.1 r1
    obtain ⟨e2, f2⟩ := flat_reps f.2 r2
    exact ⟨by rw [e1, e2]; rfl, by rw [List.all_cons, f1, f2]; rfl⟩
end
def eqF (x y : D) : Bool := eqV (toV0 x) (toV0 y)
def inF (d : D) (ds : List D) : Bool := ds.any fun y => eqF y d
def bIn (d1 d2 : D) : Option Bool := (seqOf d2).bind fun ds => if flatD d1 && ds.all flatD then some (inF d1 ds) else none
def bNotIn (d1 d2 : D) : Option Bool := (bIn d1 d2).map (!·)
section
variable {K : PySem.W.Frag}
theorem vw_seq {O : Addr → Prop} {H : Hp} {d : D} {ds : List D} {y : V} (v : Vw K O H d y) (e : seqOf d = some ds) : ∃ p xs, y = .ref p ∧ (SqL K H p xs ∨ SqT K H p xs) ∧ RepL K O H ds xs := by
  by_cases h : ∃ es, d = .tup es
  · obtain ⟨es, rfl⟩ := h
    cases e
    obtain ⟨a, xs, ea, hq, r⟩ := vw_tup v
    exact ⟨a, xs, ea, .inr hq.sq, r⟩
  · have e' : lstOf d = some ds := by
      cases d with
      | tup es => exact absurd ⟨es, rfl⟩ h
      | _ => exact e
    obtain ⟨a, xs, ea, hq, r⟩ := vw_sql v e'
    exact ⟨a, xs, ea, .inl hq, r⟩
theorem bIn_ok {O : Addr → Prop} {H : Hp} {x y : V} {d1 d2 : D} {b : Bool} (v1 : Vw K O H d1 x) (v2 : Vw K O H d2 y) (e : bIn d1 d2 = some b) : ∃ p xs, y = .ref p ∧ (SqL K H p xs ∨ SqT K H p xs) ∧ flatV x = true ∧ xs.all flatV = true ∧ inV x xs = b := by
  unfold bIn at e
  cases g : seqOf d2 with
  | none => rw [g] at e; cases e
  | some ds =>
    rw [g] at e
    simp only [Option.bind_some] at e
    by_cases hf : (flatD d1 && ds.all flatD) = true
    · rw [if_pos hf] at e
      cases e
      rw [Bool.and_eq_true] at hf
      obtain ⟨e1, f1⟩ := flat_vw hf.1 v1
      obtain ⟨p, xs, ep, hq, r⟩ := vw_seq v2 g
      obtain ⟨e2, f2⟩ := flat_reps hf.2 r
      refine ⟨p, xs, ep, hq, f1, f2, ?_⟩
      rw [e1, e2]
      unfold inV inF eqF
      rw [List.any_map]
      rfl
    · rw [if_neg hf] at e; cases e
theorem ob_in : OpB2 K bIn (rIn K false) := fun O H x y d1 d2 b Q v1 v2 e q => by
  obtain ⟨p, xs, ep, hq, f1, f2, e2⟩ := bIn_ok v1 v2 e
  exact ⟨p, xs, ep, hq, f1, f2, by rw [e2]; exact q⟩
theorem ob_notIn : OpB2 K bNotIn (rIn K true) := fun O H x y d1 d2 b Q v1 v2 e q => by
  unfold bNotIn at e
  cases g : bIn d1 d2 with
  | none => rw [g] at e; cases e
  | some k =>
    rw [g] at e; cases e
    obtain ⟨p, xs, ep, hq, f1, f2, e2⟩ := bIn_ok v1 v2 g
    exact ⟨p, xs, ep, hq, f1, f2, by rw [e2]; exact q⟩
end
/-! ### methods of a list with one operand -/
def isLs : Option D → Bool
  | some (.lst _) => true
  | some (.scr _) => true
  | _ => false
def mMt2 (f : D → D → Option D) (a1 a2 : Arg) : M D := fun s => (aEv a1 s).bind fun r1 s => if isLs (aGet r1 s) = false then .bad else (aEv a2 s).bind fun r2 s => lift ((aGet r1 s).bind fun d1 => (aGet r2 s).bind fun d2 => f d1 d2) s
section
variable {c : Ctx} {W : XW} {X : Cx} {e o : Expr} {a1 a2 : Arg} {m : M D} {pos pos' p apos cpos : Pos} {i : Nat}
theorem px_mt2 {name : Str} {id : String} {r : V → List V → Hp → VK → Prop} {f : D → D → Option D} (slot : Slot "list" name id) (hty : typeOf (.builtin id) = pure (.type "method_descriptor")) (hm : MtR X id r) (hd : OpD2 X.K f fun x y H Q => r x [y] H Q) (ho : PAg c W X o a1) (ha : PAg c W X e a2)
    (hbase : attributeBase o name X.env (eval o X.env) = eval o X.env := by rfl)
    (hfew : ((backTo cpos (starEach [e] X.env)).all (fun x => !x.1) && (backToKw cpos (keywordEach [] X.env)).all (fun x => x.1.isSome)
      && decide ([e].length + ([] : List Keyword).length + (if ([] : List Keyword).isEmpty then 0 else 1) < 30)) = true := by rfl)
    (hline : (apos.endLine == cpos.line) = true := by rfl) (hs : starEach [e] X.env = (false, eval e X.env) :: starEach [] X.env := by rfl) (hplain : (backTo cpos (starEach [] X.env)).any (·.1) = false := by rfl) :
    PX c W X (.Call (.Attribute o name apos) [e] [] cpos) (mMt2 f a1 a2) :=
  PEimp (pe_bm PySem.F.plainAttrs_list slot hty hm ho (pa_cons ha pa_nil hs) hbase hfew hline hs hplain) fun σ H Q ⟨s, pend, R, q⟩ => by
    refine ⟨s, pend, R, q.bind.mono fun r1 s1 q1 x H1 e1 R1 => ?_⟩
    by_cases hl : isLs (aGet r1 s1) = false
    · rw [if_pos hl] at q1; exact q1.elim
    rw [if_neg hl] at q1
    refine ⟨?_, s1, _, R1, q1.bind.mono fun r2 s2 q2 y H2 e2 R2 => ?_⟩
    · cases g : aGet r1 s1 with
      | none => rw [g] at hl; exact absurd rfl hl
      | some d =>
        rw [g] at hl
        obtain ⟨ds, eds⟩ : ∃ ds, lstOf d = some ds := by cases d <;> first | exact ⟨_, rfl⟩ | exact absurd rfl hl
        obtain ⟨a, xs, ea, hq, _⟩ := vw_sql (R1.viewA g e1 fun e h => mem_aPend1 e h) eds
        subst ea
        exact .inl ⟨rfl, xs, hq⟩
    · obtain ⟨d, hd', q3⟩ := q2.lift
      cases g1 : aGet r1 s2 with
      | none => rw [g1] at hd'; cases hd'
      | some d1 =>
        cases g2 : aGet r2 s2 with
        | none => rw [g1, g2] at hd'; cases hd'
        | some d2 =>
          rw [g1, g2] at hd'
          exact hd (c.at X.K) σ H2 s2 _ x y d1 d2 d Q rfl R2 (R2.viewA g1 e1 fun e h => mem_aPend2 (mem_aPend1 e h)) (R2.viewA g2 e2 fun e h => mem_aPend1 e h) hd' fun v H' R' => q3 v H' R'.dropA.dropA
/-- the first place of an equal item -/
def idxF (d : D) : List D → Option Nat
  | [] => none
  | x :: xs => if eqF x d then some 0 else (idxF d xs).map (· + 1)
theorem idxF_spec {d : D} : ∀ {ds : List D} {j : Nat}, idxF d ds = some j → (∃ z, ds[j]? = some z ∧ eqF z d = true) ∧ ∀ m z, m < j → ds[m]? = some z → eqF z d = false
  | [], _, h => by cases h
  | x :: xs, j, h => by
    unfold idxF at h
    by_cases hx : eqF x d = true
    · rw [if_pos hx] at h; cases h
      exact ⟨⟨x, rfl, hx⟩, fun m z hm => absurd hm (by omega)⟩
    · rw [if_neg hx] at h
      cases g : idxF d xs with
      | none => rw [g] at h; cases h
      | some k =>
        rw [g] at h; cases h
        obtain ⟨⟨z, e1, e2⟩, h2⟩ := idxF_spec g
        refine ⟨⟨z, by simpa using e1, e2⟩, fun m z hm hz => ?_⟩
        cases m with
        | zero => simp at hz; subst hz; simpa using hx
        | succ m => exact h2 m z (Nat.lt_of_succ_lt_succ hm) (by simpa using hz)
def oIndex (d1 d2 : D) : Option D := (lstOf d1).bind fun ds => if flatD d2 && ds.all flatD then (idxF d2 ds).map fun j => .int (j : Nat) else none
theorem od_index {K : PySem.W.Frag} : OpD2 K oIndex fun x y H Q => rIndex K x [y] H Q := fun c σ H s pend x y d1 d2 d Q eK R v1 v2 e q => by
  unfold oIndex at e
  cases g : lstOf d1 with
  | none => rw [g] at e; cases e
  | some ds =>
    rw [g] at e
    simp only [Option.bind_some] at e
    by_cases hf : (flatD d2 && ds.all flatD) = true
    · rw [if_pos hf] at e
      rw [Bool.and_eq_true] at hf
      cases gj : idxF d2 ds with
      | none => rw [gj] at e; cases e
      | some j =>
        rw [gj] at e; cases e
        obtain ⟨a, xs, ea, hq, r⟩ := vw_sql v1 g
        obtain ⟨e1, f1⟩ := flat_vw hf.1 v2
        obtain ⟨e2, f2⟩ := flat_reps hf.2 r
        obtain ⟨⟨z, hz, hze⟩, hno⟩ := idxF_spec gj
        refine ⟨a, xs, y, j, toV0 z, ea, rfl, hq, f1, f2, by rw [e2, List.getElem?_map, hz]; rfl, by rw [e1]; exact hze, fun m z' hm hz' => ?_, q _ H (R.push (by simp only [Rep]))⟩
        rw [e2, List.getElem?_map] at hz'
        cases gm : ds[m]? with
        | none => rw [gm] at hz'; cases hz'
        | some w =>
          rw [gm] at hz'; cases hz'
          rw [e1]
          exact hno m w hm gm
    · rw [if_neg hf] at e; cases e
/-! ### xs.pop(i), xs owned -/
def popAt (k : Nat) (ds : List D) (s : DS) : Option Nat → Ores D
  | some n => (match ds[n]? with
    | some d => .ok d (s.set k (.ow (.lst (ds.eraseIdx n))))
    | none => .bad)
  | none => .bad
def mPopAtc (k : Nat) : Option Sl → D → DS → Ores D
  | some (.ow (.lst ds)), .int j, s => if ds.length ≤ 1000000 then popAt k ds s (ixN ds.length j) else .bad
  | _, _, _ => .bad
def mPopAtb (k : Nat) (di : D) (s : DS) : Ores D := mPopAtc k s[k]? di s
def mPopAt (k : Nat) (m : M D) : M D := fun s => if isOwL s[k]? = false then .bad else (m s).bind (mPopAtb k)
theorem RepL.erase {K : PySem.W.Frag} {O : Addr → Prop} {H : Hp} : ∀ {ds : List D} {xs : List V} (i : Nat), RepL K O H ds xs → RepL K O H (ds.eraseIdx i) (xs.eraseIdx i)
  | [], xs, i, h => by simp only [RepL] at h; subst h; exact RepL.nil
  | d0 :: ds, xs, 0, h => by
    simp only [RepL] at h
    obtain ⟨y, t, e1, h1, h2⟩ := h
    subst e1
    exact h2
  | d0 :: ds, xs, i + 1, h => by
    simp only [RepL] at h
    obtain ⟨y, t, e1, h1, h2⟩ := h
    subst e1
    exact RepL.cons h1 (RepL.erase i h2)
theorem px_popAtX {k : Nat} {o : Expr} (ho : PE X o (tVar k)) (h : PX c W X e m) (hbase : attributeBase o "pop" X.env (eval o X.env) = eval o X.env := by rfl)
    (hfew : ((backTo cpos (starEach [e] X.env)).all (fun x => !x.1) && (backToKw cpos (keywordEach [] X.env)).all (fun x => x.1.isSome)
      && decide ([e].length + ([] : List Keyword).length + (if ([] : List Keyword).isEmpty then 0 else 1) < 30)) = true := by rfl)
    (hline : (apos.endLine == cpos.line) = true := by rfl) (hs : starEach [e] X.env = (false, eval e X.env) :: starEach [] X.env := by rfl) (hplain : (backTo cpos (starEach [] X.env)).any (·.1) = false := by rfl) :
    PX c W X (.Call (.Attribute o "pop" apos) [e] [] cpos) (mPopAt k m) :=
  PEimp (pe_bm PySem.F.plainAttrs_list PySem.F.slot_list_pop PySem.F.type_list_pop mt_popAt ho (pa_cons h pa_nil hs) hbase hfew hline hs hplain) fun σ H Q ⟨s, pend, R, q⟩ => by
    unfold mPopAt at q
    by_cases hO : isOwL s[k]? = false
    · rw [if_pos hO] at q; exact q.elim
    rw [if_neg hO] at q
    obtain ⟨d0, e0⟩ := ow_of_isOwL hO
    obtain ⟨pp, ep, ow⟩ := R.ow k _ e0
    refine ⟨.ref pp, ep, ?_, s, pend, R, q.bind.mono fun d s1 q1 v H1 R1 => ?_⟩
    · obtain ⟨xs, ex, _⟩ := ow
      exact .inl ⟨rfl, xs, SqL.of ex⟩
    · unfold mPopAtb at q1
      cases es : s1[k]? with
      | none => rw [es] at q1; exact q1.elim
      | some sl =>
        rw [es] at q1
        cases sl with
        | ow dd =>
          cases dd with
          | lst ds =>
            cases d with
            | int j =>
              simp only [mPopAtc] at q1
              by_cases hz : ds.length ≤ 1000000
              · rw [if_pos hz] at q1
                cases gn : ixN ds.length j with
                | none => rw [gn] at q1; exact q1.elim
                | some n =>
                  rw [gn] at q1
                  simp only [popAt] at q1
                  obtain ⟨i1, i2, i3, i4⟩ := L2.ixN_seq gn
                  have gd : ds[n]? = some ds[n] := List.getElem?_eq_getElem i2
                  rw [gd] at q1
                  obtain ⟨pp', ep', xs, ex, r⟩ := R1.ow k _ es
                  rw [ep] at ep'; cases ep'
                  obtain ⟨z, ez, rz⟩ := r.get gd
                  have hv := R1.head
                  simp only [Rep] at hv
                  subst hv
                  refine ⟨pp, xs, j, n, z, rfl, rfl, ex, by omega, by omega, by rw [← r.length]; exact i1, ez, q1 z _ ?_⟩
                  have R2 := (R1.drop.push (by rw [Oof.false] at rz; exact rz))
                  exact R2.writeS (d' := .lst (ds.eraseIdx n)) es ep fun H' k' e' => ⟨_, e', by
                    rw [Oof.false] at k' r ⊢
                    exact (r.erase n).mono k'⟩
              · rw [if_neg hz] at q1; exact q1.elim
            | _ => exact q1.elim
          | _ => exact q1.elim
        | _ => exact q1.elim
/-! ### xs[::-1] -/
def oRevL (d : D) : Option D := (lstOf d).map fun ds => .lst ds.reverse
theorem RepL.rev {K : PySem.W.Frag} {O : Addr → Prop} {H : Hp} : ∀ {ds : List D} {xs : List V}, RepL K O H ds xs → RepL K O H ds.reverse xs.reverse
  | [], xs, h => by simp only [RepL] at h; subst h; exact RepL.nil
  | d0 :: ds, xs, h => by
    simp only [RepL] at h
    obtain ⟨y, t, e1, h1, h2⟩ := h
    subst e1
    rw [List.reverse_cons, List.reverse_cons]
    exact (RepL.rev h2).append (RepL.cons h1 RepL.nil)
theorem of_revL {K : PySem.W.Frag} : OpF1 K oRevL (fun x H Q => ∃ a xs, x = .ref a ∧ SqL K H a xs ∧ ∀ p, H p = none → Q (.ref p) (upd H p (.lst xs.reverse))) := fun c σ H s pend x d1 d Q eK R v1 e q => by
  subst eK
  unfold oRevL at e
  cases g : lstOf d1 with
  | none => rw [g] at e; cases e
  | some ds =>
    rw [g] at e; cases e
    obtain ⟨a, xs, ea, hq, r⟩ := vw_sql v1 g
    exact ⟨a, xs, ea, hq, fun l hl => q _ _ (R.lst hl r.rev)⟩
theorem pxf_revL {k : Nat} {p1 p2 p3 pos : Pos} (ha : PAg c W X e a1) : PXF c W X (.Subscript e (.Slice none none (some (.UnaryOp .USub (.Constant (.int 1) k p1) p2)) p3) pos) (mOp1 oRevL a1) :=
  PEimp (pe_revL ha) fun σ H Q h => TF_op1 (c := c.at X.K) (r := fun x H Q => ∃ a xs, x = .ref a ∧ SqL X.K H a xs ∧ ∀ p, H p = none → Q (.ref p) (upd H p (.lst xs.reverse))) of_revL h
/-! ### reversed(range(n)) -/
noncomputable def kRev1 : D → DS → Ores (List D)
  | .int n, s => @ite _ (n < 2 ^ 62 ∧ -(2 ^ 62) ≤ n) (cI _) (.ok (rngD 0 n.toNat).reverse s) .bad
  | _, _ => .bad
noncomputable def mRev1 (m : M D) : M (List D) := fun s => (m s).bind kRev1
theorem walk_rev {n : Int} : WalkD c (Itc ((0 : Int) + (((n - 0).toNat : Nat) : Int) - 1) (-1) (n - 0).toNat) (rngD 0 n.toNat).reverse [] := by
  intro σ H s P R hP
  have hl : (rngD 0 n.toNat).reverse.length = n.toNat := by simp [rngD]
  rw [Int.sub_zero]
  refine ⟨fun i hi => by show i < n.toNat; omega, by show n.toNat ≤ _; omega, fun i x H' d e y => ?_⟩
  obtain ⟨e1, y⟩ := y
  subst e1 y
  refine R.push ?_
  obtain ⟨hi, e2⟩ := List.getElem?_eq_some_iff.mp e
  rw [List.getElem_reverse] at e2
  rw [rngD_get] at e2
  subst e2
  simp only [Rep]
  rw [rngD_len]
  rw [hl] at hi
  congr 1
  omega
theorem pix_rev1 {tg : Expr} {a : Expr} {p2 pos2 : Pos} (hm2 : X.mg "reversed" = none) (hm : X.mg "range" = none) (h : PX c W X a m) (hg2 : Gl X "reversed" := by rfl) (hg : Gl X "range" := by rfl) (na : starEach [a] X.env = (false, eval a X.env) :: starEach [] X.env := by rfl)
    (hs : starEach [.Call (.Name "range" p) [a] [] pos] X.env = (false, eval (.Call (.Name "range" p) [a] [] pos) X.env) :: starEach [] X.env := by rfl) : PIX c W X tg (.Call (.Name "reversed" p2) [.Call (.Name "range" p) [a] [] pos] [] pos2) (mRev1 m) :=
  PIimp (pi_revR hg2 hm2 (prg_1 hg hm h na) hs) fun σ H Rr ⟨s, pend, R, q⟩ => by
    refine ⟨s, pend, R, q.bind.mono fun d s1 q1 v H1 R1 => ?_⟩
    cases d with
    | int n =>
      have hv := R1.head
      simp only [Rep] at hv
      subst hv
      by_cases hn : n < 2 ^ 62 ∧ -(2 ^ 62) ≤ n
      · simp only [kRev1, if_pos hn] at q1
        exact ⟨n, rfl, by omega, by omega, hn.2, hn.1, q1 _ H1 [] (fun _ h => nomatch h) walk_rev R1.drop⟩
      · simp only [kRev1, if_neg hn] at q1
        exact q1.elim
    | _ => exact q1.elim
end
section
variable (s : DS) (m : M D) (x : Int) (k : Nat) (ds : List D) (d d1 d2 : D)
@[simp] theorem mRev1_run : mRev1 m s = (m s).bind kRev1 := rfl
theorem kRev1_ok {x : Int} (h : x ≤ 1000000) (h2 : -1000000 ≤ x) (s : DS) : kRev1 (.int x) s = .ok (rngD 0 x.toNat).reverse s := if_pos (by omega)
@[simp] theorem mPopAtb_run : mPopAtb k d s = mPopAtc k s[k]? d s := rfl
def mPopAt0 (k : Nat) (m : M D) (b : Bool) (s : DS) : Ores D := if b = false then .bad else (m s).bind (mPopAtb k)
@[simp] theorem mPopAt0_run : mPopAt0 k m true s = (m s).bind (mPopAtb k) := rfl
@[simp] theorem mPopAt_run : mPopAt k m s = mPopAt0 k m (isOwL s[k]?) s := rfl
theorem mPopAtc_ok {ds : List D} {j : Int} (n : Nat) (hj : j = n) (h : n < ds.length) (hl : ds.length ≤ 1000000) (s : DS) (k : Nat) : mPopAtc k (some (.ow (.lst ds))) (.int j) s = .ok ds[n] (s.set k (.ow (.lst (ds.eraseIdx n)))) := by
  subst hj
  simp only [mPopAtc, if_pos hl, ixN_int _ _ (show 0 ≤ (n : Int) ∧ (n : Int) < ds.length by omega), Int.toNat_natCast, popAt, List.getElem?_eq_getElem h]
def kMt2c (f : D → D → Option D) (a2 : Arg) (r1 : AV) (b : Bool) (s : DS) : Ores D := if b = false then .bad else (aEv a2 s).bind (kOp2b f r1)
def kMt2 (f : D → D → Option D) (a2 : Arg) (r1 : AV) (s : DS) : Ores D := kMt2c f a2 r1 (isLs (aGet r1 s)) s
@[simp] theorem kMt2c_run (f : D → D → Option D) (a2 : Arg) (r1 : AV) : kMt2c f a2 r1 true s = (aEv a2 s).bind (kOp2b f r1) := rfl
@[simp] theorem kMt2_run (f : D → D → Option D) (a2 : Arg) (r1 : AV) : kMt2 f a2 r1 s = kMt2c f a2 r1 (isLs (aGet r1 s)) s := rfl
@[simp] theorem mMt2_run (f : D → D → Option D) (a1 a2 : Arg) : mMt2 f a1 a2 s = (aEv a1 s).bind (kMt2 f a2) := by
  unfold mMt2 kMt2 kMt2c kOp2b; simp only [oo2_eq]
@[simp] theorem oRevL_lst : oRevL (.lst ds) = some (.lst ds.reverse) := rfl
@[simp] theorem isLs_lst : isLs (some (.lst ds)) = true := rfl
@[simp] theorem isLs_scr : isLs (some (.scr ds)) = true := rfl
@[simp] theorem bNotIn_run : bNotIn d1 d2 = (bIn d1 d2).map (!·) := rfl
end
end DL

set_option Elab.async false
set_option linter.all false
set_option autoImplicit false
set_option maxRecDepth 100000
namespace DL
variable [TQ]
open PySem PySem.Spec PyProof.Rows L2
section
variable (t : M Bool) (u : SM) (n : Nat) (s : DS) (d : D)
/-- after one turn of a while loop -/
def kWt (t : M Bool) (u : SM) (n : Nat) : SRes → SRes
  | .nx s => whileN t u n s
  | .cnt s => whileN t u n s
  | .brk s => .nx s
  | r => r
def kWh (t : M Bool) (u : SM) (n : Nat) (b : Bool) (s : DS) : SRes := if b then kWt t u n (u s) else .nx s
@[simp] theorem kWt_nx : kWt t u n (.nx s) = whileN t u n s := rfl
@[simp] theorem kWt_cnt : kWt t u n (.cnt s) = whileN t u n s := rfl
@[simp] theorem kWt_brk : kWt t u n (.brk s) = .nx s := rfl
@[simp] theorem kWt_ret : kWt t u n (.ret d s) = .ret d s := rfl
@[simp] theorem kWh_t : kWh t u n true s = kWt t u n (u s) := rfl
@[simp] theorem kWh_f : kWh t u n false s = .nx s := rfl
theorem whileN_succ : whileN t u (n + 1) s = toS (t s) (kWh t u n) := by
  have h : ∀ (b : Bool) (s : DS), (if b then (match u s with
      | .nx s => whileN t u n s
      | .cnt s => whileN t u n s
      | .brk s => .nx s
      | r => r) else SRes.nx s) = kWh t u n b s := fun b s => by
    cases b with
    | false => rfl
    | true =>
      rw [if_pos rfl, kWh_t]
      cases u s <;> rfl
  exact congrArg (toS (t s)) (funext fun b => funext fun s => h b s)
end
/-! ### plain items: what in and index tell of ints -/
theorem all_flat_ints : ∀ xs : List Int, (xs.map D.int).all flatD = true
  | [] => rfl
  | x :: xs => by rw [List.map_cons, List.all_cons, all_flat_ints xs]; rfl
theorem eqF_int (x y : Int) : eqF (.int x) (.int y) = decide (x = y) := by
  show (x == y) = decide (x = y)
  by_cases h : x = y <;> simp [h]
theorem inF_ints (x : Int) : ∀ xs : List Int, inF (.int x) (xs.map D.int) = decide (x ∈ xs)
  | [] => by simp [inF]
  | y :: xs => by
    have h := inF_ints x xs
    unfold inF at h ⊢
    rw [List.map_cons, List.any_cons, h, eqF_int]
    by_cases e : x = y
    · subst e; simp
    · have e' : ¬ y = x := fun z => e z.symm
      simp [e, e']
theorem bIn_ints (x : Int) (xs : List Int) : bIn (.int x) (.lst (xs.map D.int)) = some (decide (x ∈ xs)) := by
  unfold bIn
  show (if flatD (.int x) && (xs.map D.int).all flatD then some (inF (.int x) (xs.map D.int)) else none) = _
  rw [all_flat_ints, inF_ints]; rfl
theorem idxF_ints (x : Int) : ∀ xs : List Int, x ∈ xs → ∃ j, idxF (.int x) (xs.map D.int) = some j ∧ j < xs.length
  | [], h => absurd h (by simp)
  | y :: xs, h => by
    rw [List.map_cons]
    unfold idxF
    rw [eqF_int]
    by_cases e : y = x
    · exact ⟨0, by simp [e], by simp⟩
    · obtain ⟨j, e1, e2⟩ := idxF_ints x xs (by
        rcases List.mem_cons.mp h with h | h
        · exact absurd h.symm e
        · exact h)
      exact ⟨j + 1, by simp [e, e1], by simpa using e2⟩
theorem oIndex_ints {x : Int} {xs : List Int} (h : x ∈ xs) : ∃ j : Nat, oIndex (.lst (xs.map D.int)) (.int x) = some (.int j) ∧ j < xs.length := by
  obtain ⟨j, e, hj⟩ := idxF_ints x xs h
  refine ⟨j, ?_, hj⟩
  unfold oIndex
  show (if flatD (.int x) && (xs.map D.int).all flatD then (idxF (.int x) (xs.map D.int)).map fun j => D.int (j : Nat) else none) = _
  rw [all_flat_ints, e]; rfl
/-- one more taken: fewer are left -/
theorem filter_less {α : Type} {L : List α} {p q : α → Bool} (h : ∀ x ∈ L, p x = true → q x = true) {x : α} (hx : x ∈ L) (hq : q x = true) (hp : p x = false) : (L.filter p).length < (L.filter q).length := by
  have e : L.filter p = (L.filter q).filter p := by
    rw [List.filter_filter]
    apply List.filter_congr
    intro y hy
    cases hpy : p y with
    | false => rfl
    | true => rw [h y hy hpy]; rfl
  rw [e]
  refine List.length_filter_lt_length_iff_exists.mpr ⟨x, List.mem_filter.mpr ⟨hx, hq⟩, by rw [hp]; decide⟩
theorem cutD_to (ds : List D) (b : Nat) (h : b ≤ ds.length) : DL.cutD ds none (some (b : Int)) = ds.take b := by
  unfold DL.cutD HT.sIx
  simp only [if_neg (show ¬ (b : Int) < 0 by omega), Int.toNat_natCast, List.drop_zero, Nat.sub_zero, Nat.min_eq_left h]
theorem atI_last {α : Type} (xs : List α) (x : α) : atI (xs ++ [x]) (-1) = some x := by
  have hl : (xs ++ [x]).length = xs.length + 1 := by simp
  unfold atI ixN
  rw [if_neg (by decide), if_pos (by rw [hl]; omega), hl]
  show (xs ++ [x])[(-1 + ((xs.length + 1 : Nat) : Int)).toNat]? = some x
  rw [show (-1 + ((xs.length + 1 : Nat) : Int)).toNat = xs.length by omega]
  simp
end DL

set_option Elab.async false
set_option linter.all false
set_option autoImplicit false
set_option maxRecDepth 100000
namespace DL
variable [TQ]
open PySem PySem.Spec PyProof.Rows L2
/-! ### == and != of data of any depth -/
mutual
def toP : D → Option PyData
  | .non => some .none
  | .bl b => some (.bool b)
  | .int i => some (.int i)
  | .str x => some (.str x)
  | .tup ds => (toPL ds).map .tuple
  | .lst ds => (toPL ds).map .list
  | .scr ds => (toPL ds).map .list
  | .dic _ _ => none
def toPL : List D → Option (List PyData)
  | [] => some []
  | d :: ds => (toP d).bind fun p => (toPL ds).map (p :: ·)
end
section
variable {K : PySem.W.Frag} {O : Addr → Prop} {H : Hp}
mutual
theorem dp_of : ∀ (d : D) (v : V) (p : PyData), Rep K O H d v → toP d = some p → Dp K H v p
  | .non, v, p, r, e => by simp only [Rep] at r; subst r; simp only [toP] at e; cases e; exact .non
  | .bl b, v, p, r, e => by simp only [Rep] at r; subst r; simp only [toP] at e; cases e; exact .bl b
  | .int i, v, p, r, e => by simp only [Rep] at r; subst r; simp only [toP] at e; cases e; exact .int i
  | .str x, v, p, r, e => by simp only [Rep] at r; subst r; simp only [toP] at e; cases e; exact .str x
  | .tup ds, v, p, r, e => by
    simp only [Rep] at r
    obtain ⟨a, xs, ea, t, r⟩ := r
    simp only [toP] at e
    cases g : toPL ds with
    | none => rw [g] at e; cases e
    | some ps =>
      rw [g] at e; cases e
      subst ea
      exact .tup t.sq (dps_of ds xs ps r g)
  | .lst ds, v, p, r, e => by
    simp only [Rep] at r
    obtain ⟨a, xs, ea, n, t, r⟩ := r
    simp only [toP] at e
    cases g : toPL ds with
    | none => rw [g] at e; cases e
    | some ps =>
      rw [g] at e; cases e
      subst ea
      exact .lst (SqL.of t) (dps_of ds xs ps r g)
  | .scr ds, v, p, r, e => by
    simp only [Rep] at r
    obtain ⟨a, xs, ea, t, r⟩ := r
    simp only [toP] at e
    cases g : toPL ds with
    | none => rw [g] at e; cases e
    | some ps =>
      rw [g] at e; cases e
      subst ea
      exact .lst t.sq (dps_of ds xs ps r g)
  | .dic _ _, v, p, r, e => by simp only [toP] at e; cases e
theorem dps_of : ∀ (ds : List D) (vs : List V) (ps : List PyData), RepL K O H ds vs → toPL ds = some ps → DpAll K H vs ps
  | [], vs, ps, r, e => by simp only [RepL] at r; subst r; simp only [toPL] at e; cases e; exact .nil
  | d :: ds, vs, ps, r, e => by
    simp only [RepL] at r
    obtain ⟨x, t, ev, r1, r2⟩ := r
    subst ev
    simp only [toPL] at e
    cases g : toP d with
    | none => rw [g] at e; cases e
    | some p =>
      cases g2 : toPL ds with
      | none => rw [g, g2] at e; cases e
      | some qs =>
        rw [g, g2] at e; cases e
        exact .cons (dp_of d x p r1 g) (dps_of ds t qs r2 g2)
end
theorem dp_vw {d : D} {v : V} {p : PyData} (h : Vw K O H d v) (e : toP d = some p) : Dp K H v p := by
  rcases h with h | ⟨a, ea, h⟩
  · exact dp_of d v p h e
  · cases d with
    | lst ds =>
      obtain ⟨xs, ex, r⟩ := h
      simp only [toP] at e
      cases g : toPL ds with
      | none => rw [g] at e; cases e
      | some ps =>
        rw [g] at e; cases e
        subst ea
        exact .lst (SqL.of ex) (dps_of ds xs ps r g)
    | dic _ _ => simp only [toP] at e; cases e
    | _ => exact h.elim
end
def eqP : Option PyData → Option PyData → Option Bool
  | some p, some q => if SeqAt.shaped p && SeqAt.shaped q then some (PyData.eqv p q) else none
  | _, _ => none
def orB : Option Bool → Option Bool → Option Bool
  | some b, _ => some b
  | none, o => o
def bEqA (d1 d2 : D) : Option Bool := orB (bEq d1 d2) (eqP (toP d1) (toP d2))
def bNeA (d1 d2 : D) : Option Bool := (bEqA d1 d2).map (!·)
section
variable {X : Cx} {K : PySem.W.Frag}
def rEqA (K : PySem.W.Frag) : R2 := fun x y H Q => rEq x y H Q ∨ rEqD K x y H Q
def rNeA (K : PySem.W.Frag) : R2 := fun x y H Q => rNe x y H Q ∨ rNeD K x y H Q
theorem op_eqA (hu : X.A.units + 64 < cLine) : OpR X (compareOp .Eq) (rEqA X.K) := fun pins s σ H x y v u Q I rx ry h => by
  rcases h with h | h
  · exact op_eq pins s σ H x y v u Q I rx ry h
  · exact op_eqD hu pins s σ H x y v u Q I rx ry h
theorem op_neA (hu : X.A.units + 64 < cLine) : OpR X (compareOp .NotEq) (rNeA X.K) := fun pins s σ H x y v u Q I rx ry h => by
  rcases h with h | h
  · exact op_ne pins s σ H x y v u Q I rx ry h
  · exact op_neD hu pins s σ H x y v u Q I rx ry h
theorem eqP_ok {O : Addr → Prop} {H : Hp} {x y : V} {d1 d2 : D} {b : Bool} (v1 : Vw K O H d1 x) (v2 : Vw K O H d2 y) (e : eqP (toP d1) (toP d2) = some b) : ∃ p q, Dp K H x p ∧ Dp K H y q ∧ SeqAt.shaped p = true ∧ SeqAt.shaped q = true ∧ PyData.eqv p q = b := by
  cases g1 : toP d1 with
  | none => rw [g1] at e; cases e
  | some p =>
    cases g2 : toP d2 with
    | none => rw [g1, g2] at e; cases e
    | some q =>
      rw [g1, g2] at e
      simp only [eqP] at e
      by_cases hs : (SeqAt.shaped p && SeqAt.shaped q) = true
      · rw [if_pos hs] at e; cases e
        rw [Bool.and_eq_true] at hs
        exact ⟨p, q, dp_vw v1 g1, dp_vw v2 g2, hs.1, hs.2, rfl⟩
      · rw [if_neg hs] at e; cases e
theorem ob_eqA : OpB2 K bEqA (rEqA K) := fun O H x y d1 d2 b Q v1 v2 e q => by
  unfold bEqA at e
  cases g : bEq d1 d2 with
  | some k => rw [g] at e; cases e; exact .inl (ob_eq (K := K) O H x y d1 d2 b Q v1 v2 g q)
  | none =>
    rw [g] at e
    obtain ⟨p, r, h1, h2, h3, h4, h5⟩ := eqP_ok v1 v2 e
    exact .inr ⟨p, r, h1, h2, h3, h4, by rw [h5]; exact q⟩
theorem ob_neA : OpB2 K bNeA (rNeA K) := fun O H x y d1 d2 b Q v1 v2 e q => by
  unfold bNeA at e
  cases g0 : bEqA d1 d2 with
  | none => rw [g0] at e; cases e
  | some k0 =>
    rw [g0] at e; cases e
    unfold bEqA at g0
    cases g : bEq d1 d2 with
    | some k =>
      rw [g] at g0; cases g0
      exact .inl (ob_ne (K := K) O H x y d1 d2 _ Q v1 v2 (by unfold bNe; rw [g]; rfl) q)
    | none =>
      rw [g] at g0
      obtain ⟨p, r, h1, h2, h3, h4, h5⟩ := eqP_ok v1 v2 g0
      exact .inr ⟨p, r, h1, h2, h3, h4, by rw [h5]; exact q⟩
end
/-! what they tell -/
section
variable (x y : Int) (b c : Bool) (p q : Str) (d : D)
@[simp] theorem bEqA_int : bEqA (.int x) (.int y) = some (decide (x = y)) := rfl
@[simp] theorem bEqA_bl : bEqA (.bl b) (.bl c) = some (decide (b = c)) := rfl
@[simp] theorem bEqA_str : bEqA (.str p) (.str q) = some (decide (p = q)) := rfl
@[simp] theorem bEqA_nn : bEqA .non .non = some true := rfl
@[simp] theorem bEqA_ni : bEqA .non (.int x) = some false := rfl
@[simp] theorem bEqA_in : bEqA (.int x) .non = some false := rfl
@[simp] theorem bNeA_run (d1 d2 : D) : bNeA d1 d2 = (bEqA d1 d2).map (!·) := rfl
end
theorem toPL_ints : ∀ xs : List Int, toPL (xs.map D.int) = some (xs.map PyData.int)
  | [] => by simp only [List.map_nil, toPL]
  | x :: xs => by simp only [List.map_cons, toPL, toP, toPL_ints xs]; rfl
theorem shaped_ints (xs : List Int) : SeqAt.shaped (.tuple (xs.map PyData.int)) = true ∧ SeqAt.shaped (.list (xs.map PyData.int)) = true := by
  have h1 : ∀ xs : List Int, PyData.canLayAll0 (xs.map PyData.int) = true := fun xs => by
    induction xs with
    | nil => simp only [List.map_nil, PyData.canLayAll0]
    | cons x xs ih => simp only [List.map_cons, PyData.canLayAll0, PyData.canLay0, ih]; rfl
  have h2 : ∀ xs : List Int, PyData.depthAll (xs.map PyData.int) = 0 := fun xs => by
    induction xs with
    | nil => simp only [List.map_nil, PyData.depthAll]
    | cons x xs ih => simp only [List.map_cons, PyData.depthAll, PyData.depth, ih]; rfl
  constructor
  · unfold SeqAt.shaped
    simp only [PyData.canLay0, PyData.depth, h1, h2]
    decide
  · unfold SeqAt.shaped
    simp only [PyData.canLay0, PyData.depth, h1, h2]
    decide
theorem eqv_ints : ∀ xs ys : List Int, PyData.eqvAll (xs.map PyData.int) (ys.map PyData.int) = decide (xs = ys)
  | [], [] => by simp [PyData.eqvAll]
  | [], _ :: _ => by simp [PyData.eqvAll]
  | _ :: _, [] => by simp [PyData.eqvAll]
  | x :: xs, y :: ys => by
    simp only [List.map_cons, PyData.eqvAll, PyData.eqv, eqv_ints xs ys]
    by_cases h : x = y <;> by_cases h2 : xs = ys <;> simp [h, h2]
theorem bEqA_tups (xs ys : List Int) : bEqA (.tup (xs.map .int)) (.tup (ys.map .int)) = some (decide (xs = ys)) := by
  unfold bEqA
  show eqP (toP _) (toP _) = _
  simp only [toP, toPL_ints, Option.map_some, eqP, (shaped_ints xs).1, (shaped_ints ys).1, Bool.and_true, if_true, PyData.eqv, eqv_ints]
theorem bEqA_lsts (xs ys : List Int) : bEqA (.lst (xs.map .int)) (.lst (ys.map .int)) = some (decide (xs = ys)) := by
  unfold bEqA
  show eqP (toP _) (toP _) = _
  simp only [toP, toPL_ints, Option.map_some, eqP, (shaped_ints xs).2, (shaped_ints ys).2, Bool.and_true, if_true, PyData.eqv, eqv_ints]
end DL

set_option Elab.async false
set_option linter.all false
set_option autoImplicit false
set_option maxRecDepth 100000
namespace DL
variable [TQ]
open PySem PySem.Spec PyProof.Rows L2
/-! ### sum, max, min, sorted of a list of ints -/
def intsOf : List D → Option (List Int)
  | [] => some []
  | .int i :: ds => (intsOf ds).map (i :: ·)
  | _ :: _ => none
theorem intsOf_spec : ∀ {ds : List D} {ns : List Int}, intsOf ds = some ns → ds = ns.map .int
  | [], _, h => by cases h; rfl
  | d :: ds, ns, h => by
    cases d with
    | int i =>
      simp only [intsOf] at h
      cases g : intsOf ds with
      | none => rw [g] at h; cases h
      | some ms =>
        rw [g] at h; cases h
        rw [intsOf_spec g]; rfl
    | _ => cases h
theorem intsOf_map : ∀ ns : List Int, intsOf (ns.map .int) = some ns
  | [] => rfl
  | n :: ns => by rw [List.map_cons, intsOf, intsOf_map ns]; rfl
section
variable {K : PySem.W.Frag} {O : Addr → Prop} {H : Hp}
theorem rep_ints : ∀ {ns : List Int} {xs : List V}, RepL K O H (ns.map .int) xs → xs = ns.map .int
  | [], xs, r => by simp only [List.map_nil, RepL] at r; exact r
  | n :: ns, xs, r => by
    simp only [List.map_cons, RepL] at r
    obtain ⟨x, t, e, h1, h2⟩ := r
    simp only [Rep] at h1
    rw [e, h1, rep_ints h2]; rfl
theorem rep_of_ints : ∀ (ns : List Int), RepL K O H (ns.map .int) (ns.map .int)
  | [] => by simp only [List.map_nil, RepL]
  | n :: ns => by
    simp only [List.map_cons, RepL]
    exact ⟨_, _, rfl, by simp only [Rep], rep_of_ints ns⟩
theorem vw_ints {d : D} {x : V} {ns : List Int} (v : Vw K O H d x) (e : (lstOf d).bind intsOf = some ns) : ∃ a, x = .ref a ∧ SqL K H a (ns.map .int) := by
  cases g : lstOf d with
  | none => rw [g] at e; cases e
  | some ds =>
    rw [g] at e
    obtain ⟨a, xs, ea, hq, r⟩ := vw_sql v g
    rw [intsOf_spec e] at r
    rw [rep_ints r] at hq
    exact ⟨a, ea, hq⟩
end
def oInts (f : List Int → Option Int) (d : D) : Option D := ((lstOf d).bind intsOf).bind fun ns => (f ns).map .int
theorem oInts_ok {f : List Int → Option Int} {d d' : D} (h : oInts f d = some d') : ∃ ns m, (lstOf d).bind intsOf = some ns ∧ f ns = some m ∧ d' = .int m := by
  unfold oInts at h
  cases g : (lstOf d).bind intsOf with
  | none => rw [g] at h; cases h
  | some ns =>
    rw [g] at h
    cases g2 : f ns with
    | none => rw [Option.bind_some, g2] at h; cases h
    | some m => rw [Option.bind_some, g2] at h; cases h; exact ⟨ns, m, rfl, g2, rfl⟩
abbrev oSum := oInts fun ns => some ns.sum
abbrev oMaxL := oInts fun ns => ns.max?
abbrev oMinL := oInts fun ns => ns.min?
section
variable {K : PySem.W.Frag}
theorem od_sum : OpD1 K oSum fun x H Q => rSum K [x] H Q := fun c σ H s pend x d1 d Q eK R v1 e q => by
  obtain ⟨ns, m, h1, h2, rfl⟩ := oInts_ok e
  cases h2
  obtain ⟨a, ea, hq⟩ := vw_ints v1 h1
  subst ea
  exact ⟨a, ns, rfl, hq, q _ H (R.push (by simp only [Rep]))⟩
theorem od_maxL : OpD1 K oMaxL fun x H Q => rMax K [x] H Q := fun c σ H s pend x d1 d Q eK R v1 e q => by
  obtain ⟨ns, m, h1, h2, rfl⟩ := oInts_ok e
  obtain ⟨a, ea, hq⟩ := vw_ints v1 h1
  subst ea
  have h3 := List.max?_eq_some_iff.mp h2
  refine ⟨a, ns, rfl, hq, List.length_pos_of_mem h3.1, fun k hk hle => ?_⟩
  have : k = m := Int.le_antisymm (h3.2 k hk) (hle m h3.1)
  subst this
  exact q _ H (R.push (by simp only [Rep]))
theorem od_minL : OpD1 K oMinL fun x H Q => rMin K [x] H Q := fun c σ H s pend x d1 d Q eK R v1 e q => by
  obtain ⟨ns, m, h1, h2, rfl⟩ := oInts_ok e
  obtain ⟨a, ea, hq⟩ := vw_ints v1 h1
  subst ea
  have h3 := List.min?_eq_some_iff.mp h2
  refine ⟨a, ns, rfl, hq, List.length_pos_of_mem h3.1, fun k hk hle => ?_⟩
  have : k = m := Int.le_antisymm (hle m h3.1) (h3.2 k hk)
  subst this
  exact q _ H (R.push (by simp only [Rep]))
end
/-! the list in ascending order -/
def ins (x : Int) : List Int → List Int
  | [] => [x]
  | y :: ys => if x ≤ y then x :: y :: ys else y :: ins x ys
def sortI : List Int → List Int
  | [] => []
  | x :: xs => ins x (sortI xs)
theorem ins_perm (x : Int) : ∀ ys, (ins x ys).Perm (x :: ys)
  | [] => List.Perm.refl _
  | y :: ys => by
    unfold ins
    by_cases h : x ≤ y
    · rw [if_pos h]
    · rw [if_neg h]
      exact (List.Perm.cons y (ins_perm x ys)).trans (List.Perm.swap _ _ _)
theorem sortI_perm : ∀ xs, (sortI xs).Perm xs
  | [] => List.Perm.refl _
  | x :: xs => (ins_perm x _).trans (List.Perm.cons x (sortI_perm xs))
theorem ins_sorted (x : Int) : ∀ ys, ys.Pairwise (· ≤ ·) → (ins x ys).Pairwise (· ≤ ·)
  | [], _ => by simp [ins]
  | y :: ys, h => by
    have h' := List.pairwise_cons.mp h
    unfold ins
    by_cases hx : x ≤ y
    · rw [if_pos hx]
      refine List.pairwise_cons.mpr ⟨fun z hz => ?_, h⟩
      rcases List.mem_cons.mp hz with rfl | hz
      · exact hx
      · exact Int.le_trans hx (h'.1 z hz)
    · rw [if_neg hx]
      refine List.pairwise_cons.mpr ⟨fun z hz => ?_, ins_sorted x ys h'.2⟩
      rcases List.mem_cons.mp ((ins_perm x ys).mem_iff.mp hz) with rfl | hz
      · omega
      · exact h'.1 z hz
theorem sortI_sorted : ∀ xs, (sortI xs).Pairwise (· ≤ ·)
  | [] => List.Pairwise.nil
  | x :: xs => ins_sorted x _ (sortI_sorted xs)
theorem sorted_one : ∀ {xs ys : List Int}, xs.Perm ys → xs.Pairwise (· ≤ ·) → ys.Pairwise (· ≤ ·) → xs = ys
  | [], ys, h, _, _ => (List.nil_perm.mp h).symm
  | x :: xs, ys, h, hx, hy => by
    cases ys with
    | nil => exact absurd h.length_eq (by simp)
    | cons y ys =>
      have hx' := List.pairwise_cons.mp hx
      have hy' := List.pairwise_cons.mp hy
      have e : x = y := by
        have h1 : y ∈ x :: xs := h.mem_iff.mpr List.mem_cons_self
        have h2 : x ∈ y :: ys := h.mem_iff.mp List.mem_cons_self
        rcases List.mem_cons.mp h1 with h1 | h1
        · exact h1.symm
        · rcases List.mem_cons.mp h2 with h2 | h2
          · exact h2
          · exact Int.le_antisymm (hx'.1 y h1) (hy'.1 x h2)
      subst e
      rw [sorted_one (List.Perm.cons_inv h) hx'.2 hy'.2]
def oSorted (d : D) : Option D := ((lstOf d).bind intsOf).map fun ns => .lst ((sortI ns).map .int)
section
variable {K : PySem.W.Frag}
theorem of_sorted : OpF1 K oSorted fun x H Q => rSortedI K [x] H Q := fun c σ H s pend x d1 d Q eK R v1 e q => by
  subst eK
  unfold oSorted at e
  cases g : (lstOf d1).bind intsOf with
  | none => rw [g] at e; cases e
  | some ns =>
    rw [g] at e; cases e
    obtain ⟨a, ea, hq⟩ := vw_ints v1 g
    subst ea
    refine ⟨a, ns, rfl, hq, fun ns' p hp hs hn => ?_⟩
    have : ns' = sortI ns := sorted_one (hp.trans (sortI_perm ns).symm) hs (sortI_sorted ns)
    subst this
    exact q _ _ (R.lst hn (rep_of_ints _))
end
end DL

set_option Elab.async false
set_option linter.all false
set_option autoImplicit false
set_option maxRecDepth 100000
namespace DL
variable [TQ]
open PySem PySem.Spec PyProof.Rows L2
/-! ### enumerate, zip: over lists and tuples alike (t: is it a tuple) -/
def sqA (t : Bool) (K : PySem.W.Frag) (H : Hp) (a : Addr) (xs : List V) : Prop := match t with
  | true => SqT K H a xs
  | false => SqL K H a xs
def hSq (t : Bool) (h : Heap) (a : Addr) (its : Array Value) : Prop := match t with
  | true => h.IsTuple a its
  | false => h.IsList a its
def hIt (t : Bool) (h : Heap) (it a : Addr) (i : Nat) : Prop := match t with
  | true => h.IsTupleIter it a i
  | false => h.IsListIter it a i
def oIt (t : Bool) (a : Addr) : Obj := match t with
  | true => { cls := .type "tuple_iterator", data := .fields #[.ref a, .int 0 0] }
  | false => { cls := .type "list_iterator", data := .fields #[.ref a, .int 0 0] }
theorem draws_sq (t : Bool) {P : Program} {w : World} {A : Around} (hh : A.handled = none) (it l : Addr) (ne : l ≠ it) (its : Array Value) :
    Draws P w A it [it, l] its.size (fun i v => its[i]? = some v) (fun i h => hIt t h it l i ∧ hSq t h l its) := by
  cases t with
  | true => exact Draws.tuple hh it l ne its
  | false => exact Draws.list hh it l ne its
theorem begins_sq (t : Bool) (l : Addr) (its : Array Value) : Begins (.ref l) (oIt t l) fun h => hSq t h l its := by
  cases t with
  | true => exact begins_tuple l its
  | false => exact begins_list l its
theorem hIt_new {t : Bool} {h : Heap} {it a : Addr} (e : h.get? it = some (oIt t a)) : hIt t h it a 0 := by
  cases t with
  | true => exact ⟨_, e, rfl, rfl⟩
  | false => exact ⟨_, e, rfl, rfl⟩
theorem hIt_keep {t : Bool} {h h' : Heap} {it a : Addr} {i : Nat} (x : hIt t h it a i) (e : ∀ o, h.get? it = some o → h'.get? it = some o) : hIt t h' it a i := by
  cases t with
  | true => exact Heap.IsTupleIter.at x e
  | false => exact Heap.IsListIter.at x e
theorem hIt_obj {t : Bool} {h : Heap} {it a : Addr} {i : Nat} (x : hIt t h it a i) : ∃ o, h.get? it = some o ∧ ∀ v, o.data ≠ .cell v := by
  cases t with
  | true =>
    obtain ⟨o, e, _, d⟩ := x
    exact ⟨o, e, fun v q => by rw [d] at q; cases q⟩
  | false =>
    obtain ⟨o, e, _, d⟩ := x
    exact ⟨o, e, fun v q => by rw [d] at q; cases q⟩
section
variable {X : Cx} {pins : List (Addr × Obj)} {σ : L2.St} {H : Hp} {s : Shared} {a : Addr} {xs ys : List V} {t : Bool}
theorem sqA_seq (I : Inv X pins σ H s) (h : sqA t X.K H a xs) : ∃ its : List Value, Vals xs its ∧ hSq t s.heap a its.toArray ∧ a < s.heap.objs.size := by
  cases t with
  | true =>
    obtain ⟨its, v, p, _⟩ := I.tuple h
    exact ⟨its, v, p, by obtain ⟨o, e, _⟩ := p; exact Heap.lt_size e⟩
  | false =>
    obtain ⟨its, v, p, _⟩ := I.list h
    exact ⟨its, v, p.isList, p.lt⟩
theorem sqA_inj (I : Inv X pins σ H s) (h : sqA t X.K H a xs) (h' : sqA t X.K H a ys) : xs = ys := by
  cases t with
  | true => exact I.tuple_inj h h'
  | false => exact I.list_inj h h'
end
theorem obj_in {P : Program} {w : World} {H : Hp} {h : Heap} {T : Addr} {xs : List V} {us : List Value} (hl : xs.length ≤ 1000000) (v : Vals xs us) (q : h.IsTuple T us.toArray) : ObjOk P w (upd H T (.tup xs)) h T (.tup xs) :=
  ⟨Nat.le_trans hl (by decide), us, v, q⟩
/-! #### zip of 2 -/
def Iz2 (t1 t2 : Bool) (K : PySem.W.Frag) (a1 a2 : Addr) : It where
  go i H := ∃ (l1 l2 : List V) (x1 x2 : V), (sqA t1 K H a1 l1 ∧ l1[i]? = some x1) ∧ (sqA t2 K H a2 l2 ∧ l2[i]? = some x2)
  yld i H v H' := ∃ T x1 x2, v = .ref T ∧ H T = none ∧ H' = upd H T (.tup [x1, x2]) ∧ (∀ l, sqA t1 K H a1 l → l[i]? = some x1) ∧ (∀ l, sqA t2 K H a2 l → l[i]? = some x2)
  stop i H := ∃ l1 l2 : List V, sqA t1 K H a1 l1 ∧ sqA t2 K H a2 l2 ∧ i = min l1.length l2.length
theorem turn_z2 {P : Program} {w : World} {K : PySem.W.Frag} {es : List Expr} {kk : Nat} {tpos : Pos} {t1 t2 : Bool} {a1 a2 z TI TO i1 i2 : Addr} (D : ZipSep2 z TI TO i1 i2 [i1, a1] [i2, a2]) (n1 : a1 ≠ i1) (n2 : a2 ≠ i2) :
    Turn P w K (.Tuple es kk tpos) (Iz2 t1 t2 K a1 a2) [z, TI, TO, i1, i2] z (fun i h => IsZip h z TI TO .none ∧ IsTupOf2 h TI (.ref i1) (.ref i2) ∧ (∃ x1 x2, IsTupOf2 h TO x1 x2) ∧ hIt t1 h i1 a1 i ∧ hIt t2 h i2 a2 i) where
  mem := by simp
  obj := fun i h st c hc => by
    obtain ⟨q1, q2, ⟨x1, x2, q3⟩, q4, q5⟩ := st
    have e' : c = z ∨ c = TI ∨ c = TO ∨ c = i1 ∨ c = i2 := by simpa using hc
    rcases e' with q | q | q | q | q
    · rw [q]; exact ⟨_, q1, fun v q => nomatch q⟩
    · rw [q]; exact ⟨_, q2, fun v q => nomatch q⟩
    · rw [q]; exact ⟨_, q3, fun v q => nomatch q⟩
    · rw [q]; exact hIt_obj q4
    · rw [q]; exact hIt_obj q5
  keep := fun i h h' st k => by
    obtain ⟨q1, q2, ⟨x1, x2, q3⟩, q4, q5⟩ := st
    exact ⟨k z (by simp) _ q1, k TI (by simp) _ q2, ⟨x1, x2, k TO (by simp) _ q3⟩, hIt_keep q4 fun o q => k i1 (by simp) o q, hIt_keep q5 fun o q => k i2 (by simp) o q⟩
  item := fun X hP hw hK hc i pins s σ H E I hf st hg => by
    subst hP hw hK
    obtain ⟨q1, q2, q3, q4, q5⟩ := st
    obtain ⟨l1, l2, x1, x2, ⟨s1, g1⟩, ⟨s2, g2⟩⟩ := hg
    obtain ⟨u1, v1, p1, lt1⟩ := sqA_seq I s1
    obtain ⟨u2, v2, p2, lt2⟩ := sqA_seq I s2
    have W := WalksT.zipD2 D (draws_sq (P := X.prog) (w := X.w) (A := X.A.in1) t1 (I.ok.hd hc) i1 a1 n1 u1.toArray) (draws_sq (P := X.prog) (w := X.w) (A := X.A.in1) t2 (I.ok.hd hc) i2 a2 n2 u2.toArray)
    obtain ⟨y1, e1, r1⟩ := v1.get g1
    have h1 : i < u1.toArray.size := by obtain ⟨h, _⟩ := List.getElem?_eq_some_iff.mp e1; simpa using h
    obtain ⟨y2, e2, r2⟩ := v2.get g2
    have h2 : i < u2.toArray.size := by obtain ⟨h, _⟩ := List.getElem?_eq_some_iff.mp e2; simpa using h
    refine W.item i s _ _ (Nat.lt_min.mpr ⟨h1, h2⟩) ⟨q1, q2, q3, ⟨q4, p1⟩, ⟨q5, p2⟩⟩ fun T vals h' tk hv hT hTup hM hk => ?_
    obtain ⟨z1, z2, hz1, hz2, hvals⟩ := hv
    have : z1 = y1 := by simpa [e1] using hz1.symm
    subst this
    have : z2 = y2 := by simpa [e2] using hz2.symm
    subst this
    subst hvals
    refine ⟨_, rfl, W.go es kk tpos i T { s with heap := h', toks := tk } _ _ hM fun h'' hS hk2 => ?_⟩
    have hap := W.apart i T h' hM
    have hT2 : h''.IsTuple T #[z1, z2] := by obtain ⟨o, eo, r⟩ := hTup; exact ⟨o, hk2 T o hap eo, r⟩
    have sub : ∀ b ∈ [z, TO, i1, i2], b ∈ [z, TI, TO, i1, i2] := fun b hb => by simp at hb ⊢; rcases hb with h | h | h | h <;> simp [h]
    have I1 : Inv X pins σ (upd H T (.tup [x1, x2])) { s with heap := h'', toks := tk } := I.turnedNew (ch := [z, TI, TO, i1, i2]) (fun b o hb q => hk2 b o (fun m => hb (sub b m)) (hk b o (fun m => hb (sub b m)) q)) hf hT (obj_in (us := [z1, z2]) (by simp) (.cons r1 (.cons r2 (.nil))) hT2)
    refine ⟨.ref T, _, I1, rfl, ⟨T, x1, x2, rfl, I.hok.fresh hT, rfl, fun l hl => by rw [sqA_inj I hl s1]; exact g1, fun l hl => by rw [sqA_inj I hl s2]; exact g2⟩, ?_, fun b hb => ?_⟩
    · obtain ⟨w1, w2, w3, w4, w5⟩ := hS
      exact ⟨w1, w2, w3, w4.1, w5.1⟩
    · have hlt : b < s.heap.objs.size := by
        have e' : b = z ∨ b = TI ∨ b = TO ∨ b = i1 ∨ b = i2 := by simpa using hb
        rcases e' with q | q | q | q | q
        · rw [q]; exact Heap.lt_size q1
        · rw [q]; exact Heap.lt_size q2
        · obtain ⟨_, _, q3⟩ := q3; rw [q]; exact Heap.lt_size q3
        · obtain ⟨o, eo, _⟩ := hIt_obj q4; rw [q]; exact Heap.lt_size eo
        · obtain ⟨o, eo, _⟩ := hIt_obj q5; rw [q]; exact Heap.lt_size eo
      rw [upd_ne (Nat.ne_of_lt (Nat.lt_of_lt_of_le hlt hT))]
      exact (hf b hb).1
  done := fun X hP hw hK hc i pins s σ H E I hf st hg => by
    subst hP hw hK
    obtain ⟨q1, q2, q3, q4, q5⟩ := st
    obtain ⟨l1, l2, s1, s2, hi⟩ := hg
    obtain ⟨u1, v1, p1, lt1⟩ := sqA_seq I s1
    obtain ⟨u2, v2, p2, lt2⟩ := sqA_seq I s2
    have W := WalksT.zipD2 D (draws_sq (P := X.prog) (w := X.w) (A := X.A.in1) t1 (I.ok.hd hc) i1 a1 n1 u1.toArray) (draws_sq (P := X.prog) (w := X.w) (A := X.A.in1) t2 (I.ok.hd hc) i2 a2 n2 u2.toArray)
    have m1 : l1.length = u1.toArray.size := by rw [v1.length]; simp
    have m2 : l2.length = u2.toArray.size := by rw [v2.length]; simp
    rw [m1, m2] at hi
    subst hi
    have sub : ∀ b ∈ [z, TO, i1, i2], b ∈ [z, TI, TO, i1, i2] := fun b hb => by simp at hb ⊢; rcases hb with h | h | h | h <;> simp [h]
    refine W.done s _ _ ⟨q1, q2, q3, ⟨q4, p1⟩, ⟨q5, p2⟩⟩ fun h' tk hk => ⟨rfl, I.turnedL (ch := [z, TI, TO, i1, i2]) (fun b o hb q => hk b o (fun m => hb (sub b m)) q) hf⟩
  self := fun A i s Q E st h => wpAny_pyIter_zip st.1 h
def iZ2 (K : PySem.W.Frag) (ta : TA) : TI := fun σ H R => ta σ H fun vs H1 => ∃ (t1 t2 : Bool) (a1 a2 : Addr) (l1 l2 : List V), vs = [.ref a1, .ref a2] ∧ sqA t1 K H1 a1 l1 ∧ sqA t2 K H1 a2 l2 ∧ R (Iz2 t1 t2 K a1 a2) H1
theorem pi_z2 {X : Cx} {e1 e2 : Expr} {ta : TA} {p pos tpos : Pos} {es : List Expr} {kk : Nat} (hg : Gl X "zip") (hm : X.mg "zip" = none) (ha : PA X [e1, e2] ta) (hs : starEach [e1, e2] X.env = (false, eval e1 X.env) :: starEach [e2] X.env := by rfl) (hpl : (backTo pos (starEach [e2] X.env)).any (·.1) = false := by rfl) :
    PI X (.Tuple es kk tpos) (.Call (.Name "zip" p) [e1, e2] [] pos) (iZ2 X.K ta) := by
  refine ⟨fun pins s σ H R I hz0 => ?_⟩
  refine Call_ (ld_blt I hg hm PyProof.Rows.boot_zip (PyProof.Rows.callWith_type1 (thn (ha.run pos pins s σ H _ I hz0) fun us s1 ⟨vs, H1, I1, r1, q1⟩ => ?_) hs hpl))
  obtain ⟨t1, t2, a1, a2, l1, l2, ex, f1, f2, q⟩ := q1
  subst ex
  rcases r1 with _ | ⟨b1, r1⟩
  rcases r1 with _ | ⟨b2, r1⟩
  cases r1
  ·
    cases b1
    cases b2
    obtain ⟨u1, v1, p1, lt1⟩ := sqA_seq I1 f1
    obtain ⟨u2, v2, p2, lt2⟩ := sqA_seq I1 f2
    refine zip_begins2 (begins_sq t1 a1 u1.toArray) (begins_sq t2 a2 u2.toArray) p1 p2 fun h' hz hTI hTO g1 g2 hsz hk => wpAny_pyIter_zip hz ?_
    have I2 : Inv X pins σ H1 { s1 with heap := h' } := I1.kept (t' := s1.toks) hk
    refine ⟨_, [s1.heap.objs.size + 4, s1.heap.objs.size + 2, s1.heap.objs.size + 3, s1.heap.objs.size, s1.heap.objs.size + 1], _, _, H1, rfl, I2, turn_z2 (zip_sep2 (fun b hb => by simp at hb; subst hb; exact lt1) (fun b hb => by simp at hb; subst hb; exact lt2)) (Nat.ne_of_lt lt1) (Nat.ne_of_lt (Nat.lt_of_lt_of_le lt2 (Nat.le_add_right _ _))), ⟨hz, hTI, ⟨_, _, hTO⟩, hIt_new g1, hIt_new g2⟩, fun b hb => ?_, q⟩
    have hle : s1.heap.objs.size ≤ b := by
      have e' : b = s1.heap.objs.size + 4 ∨ b = s1.heap.objs.size + 2 ∨ b = s1.heap.objs.size + 3 ∨ b = s1.heap.objs.size ∨ b = s1.heap.objs.size + 1 := by simpa using hb
      rcases e' with q | q | q | q | q
      · rw [q]; exact Nat.le_add_right _ _
      · rw [q]; exact Nat.le_add_right _ _
      · rw [q]; exact Nat.le_add_right _ _
      · rw [q]; exact Nat.le_refl _
      · rw [q]; exact Nat.le_add_right _ _
    exact I1.fpOk hle (I1.hok.fresh hle)
/-! #### zip of 3 -/
def Iz3 (t1 t2 t3 : Bool) (K : PySem.W.Frag) (a1 a2 a3 : Addr) : It where
  go i H := ∃ (l1 l2 l3 : List V) (x1 x2 x3 : V), (sqA t1 K H a1 l1 ∧ l1[i]? = some x1) ∧ (sqA t2 K H a2 l2 ∧ l2[i]? = some x2) ∧ (sqA t3 K H a3 l3 ∧ l3[i]? = some x3)
  yld i H v H' := ∃ T x1 x2 x3, v = .ref T ∧ H T = none ∧ H' = upd H T (.tup [x1, x2, x3]) ∧ (∀ l, sqA t1 K H a1 l → l[i]? = some x1) ∧ (∀ l, sqA t2 K H a2 l → l[i]? = some x2) ∧ (∀ l, sqA t3 K H a3 l → l[i]? = some x3)
  stop i H := ∃ l1 l2 l3 : List V, sqA t1 K H a1 l1 ∧ sqA t2 K H a2 l2 ∧ sqA t3 K H a3 l3 ∧ i = min (min l1.length l2.length) l3.length
theorem turn_z3 {P : Program} {w : World} {K : PySem.W.Frag} {es : List Expr} {kk : Nat} {tpos : Pos} {t1 t2 t3 : Bool} {a1 a2 a3 z TI TO i1 i2 i3 : Addr} (D : ZipSep3 z TI TO i1 i2 i3 [i1, a1] [i2, a2] [i3, a3]) (n1 : a1 ≠ i1) (n2 : a2 ≠ i2) (n3 : a3 ≠ i3) :
    Turn P w K (.Tuple es kk tpos) (Iz3 t1 t2 t3 K a1 a2 a3) [z, TI, TO, i1, i2, i3] z (fun i h => IsZip h z TI TO .none ∧ IsTupOf3 h TI (.ref i1) (.ref i2) (.ref i3) ∧ (∃ x1 x2 x3, IsTupOf3 h TO x1 x2 x3) ∧ hIt t1 h i1 a1 i ∧ hIt t2 h i2 a2 i ∧ hIt t3 h i3 a3 i) where
  mem := by simp
  obj := fun i h st c hc => by
    obtain ⟨q1, q2, ⟨x1, x2, x3, q3⟩, q4, q5, q6⟩ := st
    have e' : c = z ∨ c = TI ∨ c = TO ∨ c = i1 ∨ c = i2 ∨ c = i3 := by simpa using hc
    rcases e' with q | q | q | q | q | q
    · rw [q]; exact ⟨_, q1, fun v q => nomatch q⟩
    · rw [q]; exact ⟨_, q2, fun v q => nomatch q⟩
    · rw [q]; exact ⟨_, q3, fun v q => nomatch q⟩
    · rw [q]; exact hIt_obj q4
    · rw [q]; exact hIt_obj q5
    · rw [q]; exact hIt_obj q6
  keep := fun i h h' st k => by
    obtain ⟨q1, q2, ⟨x1, x2, x3, q3⟩, q4, q5, q6⟩ := st
    exact ⟨k z (by simp) _ q1, k TI (by simp) _ q2, ⟨x1, x2, x3, k TO (by simp) _ q3⟩, hIt_keep q4 fun o q => k i1 (by simp) o q, hIt_keep q5 fun o q => k i2 (by simp) o q, hIt_keep q6 fun o q => k i3 (by simp) o q⟩
  item := fun X hP hw hK hc i pins s σ H E I hf st hg => by
    subst hP hw hK
    obtain ⟨q1, q2, q3, q4, q5, q6⟩ := st
    obtain ⟨l1, l2, l3, x1, x2, x3, ⟨s1, g1⟩, ⟨s2, g2⟩, ⟨s3, g3⟩⟩ := hg
    obtain ⟨u1, v1, p1, lt1⟩ := sqA_seq I s1
    obtain ⟨u2, v2, p2, lt2⟩ := sqA_seq I s2
    obtain ⟨u3, v3, p3, lt3⟩ := sqA_seq I s3
    have W := WalksT.zipD3 D (draws_sq (P := X.prog) (w := X.w) (A := X.A.in1) t1 (I.ok.hd hc) i1 a1 n1 u1.toArray) (draws_sq (P := X.prog) (w := X.w) (A := X.A.in1) t2 (I.ok.hd hc) i2 a2 n2 u2.toArray) (draws_sq (P := X.prog) (w := X.w) (A := X.A.in1) t3 (I.ok.hd hc) i3 a3 n3 u3.toArray)
    obtain ⟨y1, e1, r1⟩ := v1.get g1
    have h1 : i < u1.toArray.size := by obtain ⟨h, _⟩ := List.getElem?_eq_some_iff.mp e1; simpa using h
    obtain ⟨y2, e2, r2⟩ := v2.get g2
    have h2 : i < u2.toArray.size := by obtain ⟨h, _⟩ := List.getElem?_eq_some_iff.mp e2; simpa using h
    obtain ⟨y3, e3, r3⟩ := v3.get g3
    have h3 : i < u3.toArray.size := by obtain ⟨h, _⟩ := List.getElem?_eq_some_iff.mp e3; simpa using h
    refine W.item i s _ _ (Nat.lt_min.mpr ⟨Nat.lt_min.mpr ⟨h1, h2⟩, h3⟩) ⟨q1, q2, q3, ⟨q4, p1⟩, ⟨q5, p2⟩, ⟨q6, p3⟩⟩ fun T vals h' tk hv hT hTup hM hk => ?_
    obtain ⟨z1, z2, z3, hz1, hz2, hz3, hvals⟩ := hv
    have : z1 = y1 := by simpa [e1] using hz1.symm
    subst this
    have : z2 = y2 := by simpa [e2] using hz2.symm
    subst this
    have : z3 = y3 := by simpa [e3] using hz3.symm
    subst this
    subst hvals
    refine ⟨_, rfl, W.go es kk tpos i T { s with heap := h', toks := tk } _ _ hM fun h'' hS hk2 => ?_⟩
    have hap := W.apart i T h' hM
    have hT2 : h''.IsTuple T #[z1, z2, z3] := by obtain ⟨o, eo, r⟩ := hTup; exact ⟨o, hk2 T o hap eo, r⟩
    have sub : ∀ b ∈ [z, TO, i1, i2, i3], b ∈ [z, TI, TO, i1, i2, i3] := fun b hb => by simp at hb ⊢; rcases hb with h | h | h | h | h <;> simp [h]
    have I1 : Inv X pins σ (upd H T (.tup [x1, x2, x3])) { s with heap := h'', toks := tk } := I.turnedNew (ch := [z, TI, TO, i1, i2, i3]) (fun b o hb q => hk2 b o (fun m => hb (sub b m)) (hk b o (fun m => hb (sub b m)) q)) hf hT (obj_in (us := [z1, z2, z3]) (by simp) (.cons r1 (.cons r2 (.cons r3 (.nil)))) hT2)
    refine ⟨.ref T, _, I1, rfl, ⟨T, x1, x2, x3, rfl, I.hok.fresh hT, rfl, fun l hl => by rw [sqA_inj I hl s1]; exact g1, fun l hl => by rw [sqA_inj I hl s2]; exact g2, fun l hl => by rw [sqA_inj I hl s3]; exact g3⟩, ?_, fun b hb => ?_⟩
    · obtain ⟨w1, w2, w3, w4, w5, w6⟩ := hS
      exact ⟨w1, w2, w3, w4.1, w5.1, w6.1⟩
    · have hlt : b < s.heap.objs.size := by
        have e' : b = z ∨ b = TI ∨ b = TO ∨ b = i1 ∨ b = i2 ∨ b = i3 := by simpa using hb
        rcases e' with q | q | q | q | q | q
        · rw [q]; exact Heap.lt_size q1
        · rw [q]; exact Heap.lt_size q2
        · obtain ⟨_, _, _, q3⟩ := q3; rw [q]; exact Heap.lt_size q3
        · obtain ⟨o, eo, _⟩ := hIt_obj q4; rw [q]; exact Heap.lt_size eo
        · obtain ⟨o, eo, _⟩ := hIt_obj q5; rw [q]; exact Heap.lt_size eo
        · obtain ⟨o, eo, _⟩ := hIt_obj q6; rw [q]; exact Heap.lt_size eo
      rw [upd_ne (Nat.ne_of_lt (Nat.lt_of_lt_of_le hlt hT))]
      exact (hf b hb).1
  done := fun X hP hw hK hc i pins s σ H E I hf st hg => by
    subst hP hw hK
    obtain ⟨q1, q2, q3, q4, q5, q6⟩ := st
    obtain ⟨l1, l2, l3, s1, s2, s3, hi⟩ := hg
    obtain ⟨u1, v1, p1, lt1⟩ := sqA_seq I s1
    obtain ⟨u2, v2, p2, lt2⟩ := sqA_seq I s2
    obtain ⟨u3, v3, p3, lt3⟩ := sqA_seq I s3
    have W := WalksT.zipD3 D (draws_sq (P := X.prog) (w := X.w) (A := X.A.in1) t1 (I.ok.hd hc) i1 a1 n1 u1.toArray) (draws_sq (P := X.prog) (w := X.w) (A := X.A.in1) t2 (I.ok.hd hc) i2 a2 n2 u2.toArray) (draws_sq (P := X.prog) (w := X.w) (A := X.A.in1) t3 (I.ok.hd hc) i3 a3 n3 u3.toArray)
    have m1 : l1.length = u1.toArray.size := by rw [v1.length]; simp
    have m2 : l2.length = u2.toArray.size := by rw [v2.length]; simp
    have m3 : l3.length = u3.toArray.size := by rw [v3.length]; simp
    rw [m1, m2, m3] at hi
    subst hi
    have sub : ∀ b ∈ [z, TO, i1, i2, i3], b ∈ [z, TI, TO, i1, i2, i3] := fun b hb => by simp at hb ⊢; rcases hb with h | h | h | h | h <;> simp [h]
    refine W.done s _ _ ⟨q1, q2, q3, ⟨q4, p1⟩, ⟨q5, p2⟩, ⟨q6, p3⟩⟩ fun h' tk hk => ⟨rfl, I.turnedL (ch := [z, TI, TO, i1, i2, i3]) (fun b o hb q => hk b o (fun m => hb (sub b m)) q) hf⟩
  self := fun A i s Q E st h => wpAny_pyIter_zip st.1 h
def iZ3 (K : PySem.W.Frag) (ta : TA) : TI := fun σ H R => ta σ H fun vs H1 => ∃ (t1 t2 t3 : Bool) (a1 a2 a3 : Addr) (l1 l2 l3 : List V), vs = [.ref a1, .ref a2, .ref a3] ∧ sqA t1 K H1 a1 l1 ∧ sqA t2 K H1 a2 l2 ∧ sqA t3 K H1 a3 l3 ∧ R (Iz3 t1 t2 t3 K a1 a2 a3) H1
theorem pi_z3 {X : Cx} {e1 e2 e3 : Expr} {ta : TA} {p pos tpos : Pos} {es : List Expr} {kk : Nat} (hg : Gl X "zip") (hm : X.mg "zip" = none) (ha : PA X [e1, e2, e3] ta) (hs : starEach [e1, e2, e3] X.env = (false, eval e1 X.env) :: starEach [e2, e3] X.env := by rfl) (hpl : (backTo pos (starEach [e2, e3] X.env)).any (·.1) = false := by rfl) :
    PI X (.Tuple es kk tpos) (.Call (.Name "zip" p) [e1, e2, e3] [] pos) (iZ3 X.K ta) := by
  refine ⟨fun pins s σ H R I hz0 => ?_⟩
  refine Call_ (ld_blt I hg hm PyProof.Rows.boot_zip (PyProof.Rows.callWith_type1 (thn (ha.run pos pins s σ H _ I hz0) fun us s1 ⟨vs, H1, I1, r1, q1⟩ => ?_) hs hpl))
  obtain ⟨t1, t2, t3, a1, a2, a3, l1, l2, l3, ex, f1, f2, f3, q⟩ := q1
  subst ex
  rcases r1 with _ | ⟨b1, r1⟩
  rcases r1 with _ | ⟨b2, r1⟩
  rcases r1 with _ | ⟨b3, r1⟩
  cases r1
  ·
    cases b1
    cases b2
    cases b3
    obtain ⟨u1, v1, p1, lt1⟩ := sqA_seq I1 f1
    obtain ⟨u2, v2, p2, lt2⟩ := sqA_seq I1 f2
    obtain ⟨u3, v3, p3, lt3⟩ := sqA_seq I1 f3
    refine zip_begins3 (begins_sq t1 a1 u1.toArray) (begins_sq t2 a2 u2.toArray) (begins_sq t3 a3 u3.toArray) p1 p2 p3 fun h' hz hTI hTO g1 g2 g3 hsz hk => wpAny_pyIter_zip hz ?_
    have I2 : Inv X pins σ H1 { s1 with heap := h' } := I1.kept (t' := s1.toks) hk
    refine ⟨_, [s1.heap.objs.size + 5, s1.heap.objs.size + 3, s1.heap.objs.size + 4, s1.heap.objs.size, s1.heap.objs.size + 1, s1.heap.objs.size + 2], _, _, H1, rfl, I2, turn_z3 (zip_sep3 (fun b hb => by simp at hb; subst hb; exact lt1) (fun b hb => by simp at hb; subst hb; exact lt2) (fun b hb => by simp at hb; subst hb; exact lt3)) (Nat.ne_of_lt lt1) (Nat.ne_of_lt (Nat.lt_of_lt_of_le lt2 (Nat.le_add_right _ _))) (Nat.ne_of_lt (Nat.lt_of_lt_of_le lt3 (Nat.le_add_right _ _))), ⟨hz, hTI, ⟨_, _, _, hTO⟩, hIt_new g1, hIt_new g2, hIt_new g3⟩, fun b hb => ?_, q⟩
    have hle : s1.heap.objs.size ≤ b := by
      have e' : b = s1.heap.objs.size + 5 ∨ b = s1.heap.objs.size + 3 ∨ b = s1.heap.objs.size + 4 ∨ b = s1.heap.objs.size ∨ b = s1.heap.objs.size + 1 ∨ b = s1.heap.objs.size + 2 := by simpa using hb
      rcases e' with q | q | q | q | q | q
      · rw [q]; exact Nat.le_add_right _ _
      · rw [q]; exact Nat.le_add_right _ _
      · rw [q]; exact Nat.le_add_right _ _
      · rw [q]; exact Nat.le_refl _
      · rw [q]; exact Nat.le_add_right _ _
      · rw [q]; exact Nat.le_add_right _ _
    exact I1.fpOk hle (I1.hok.fresh hle)
/-! #### enumerate -/
def Ien (t : Bool) (K : PySem.W.Frag) (a : Addr) : It where
  go i H := ∃ (l : List V) (x : V), sqA t K H a l ∧ l[i]? = some x
  yld i H v H' := ∃ T x, v = .ref T ∧ H T = none ∧ H' = upd H T (.tup [.int (i : Nat), x]) ∧ ∀ l, sqA t K H a l → l[i]? = some x
  stop i H := ∃ l : List V, sqA t K H a l ∧ i = l.length
theorem turn_en {P : Program} {w : World} {K : PySem.W.Frag} {es : List Expr} {kk : Nat} {tpos : Pos} {t : Bool} {a e it : Addr} (n1 : a ≠ it) (n2 : e ≠ it) (n3 : e ≠ a) :
    Turn P w K (.Tuple es kk tpos) (Ien t K a) [e, it] e (fun i h => (∃ old, IsEnum h e it (0 + (i : Int)) old) ∧ hIt t h it a i) where
  mem := by simp
  obj := fun i h st c hc => by
    obtain ⟨⟨old, q1⟩, q2⟩ := st
    have e' : c = e ∨ c = it := by simpa using hc
    rcases e' with q | q
    · rw [q]; exact ⟨_, q1, fun v q => nomatch q⟩
    · rw [q]; exact hIt_obj q2
  keep := fun i h h' st k => by
    obtain ⟨⟨old, q1⟩, q2⟩ := st
    exact ⟨⟨old, k e (by simp) _ q1⟩, hIt_keep q2 fun o q => k it (by simp) o q⟩
  item := fun X hP hw hK hc i pins s σ H E I hf st hg => by
    subst hP hw hK
    obtain ⟨q1, q2⟩ := st
    obtain ⟨l, x, s1, g1⟩ := hg
    obtain ⟨u, v, p, lt⟩ := sqA_seq I s1
    have W := WalksT.enumFrom 0 (draws_sq (P := X.prog) (w := X.w) (A := X.A.in1) t (I.ok.hd hc) it a n1 u.toArray) e n2 (by simp [n2, n3]) (by simp)
    obtain ⟨y, e1, r1⟩ := v.get g1
    have h1 : i < u.toArray.size := by obtain ⟨h, _⟩ := List.getElem?_eq_some_iff.mp e1; simpa using h
    refine W.item i s _ _ h1 ⟨q1, ⟨q2, p⟩⟩ fun T vals h' tk hv hT hTup hM hk => ?_
    obtain ⟨tt, z, hz, hvals⟩ := hv
    have : z = y := by simpa [e1] using hz.symm
    subst this
    subst hvals
    refine ⟨_, rfl, W.go es kk tpos i T { s with heap := h', toks := tk } _ _ hM fun h'' hS hk2 => ?_⟩
    have hap := W.apart i T h' hM
    have hT2 : h''.IsTuple T #[.int (0 + (i : Int)) tt, z] := by obtain ⟨o, eo, r⟩ := hTup; exact ⟨o, hk2 T o hap eo, r⟩
    have e0 : (0 : Int) + (i : Int) = (i : Int) := by omega
    rw [e0] at hT2
    have I1 : Inv X pins σ (upd H T (.tup [.int (i : Nat), x])) { s with heap := h'', toks := tk } := I.turnedNew (ch := [e, it]) (fun b o hb q => hk2 b o hb (hk b o hb q)) hf hT (obj_in (us := [.int (i : Int) tt, z]) (by simp) (.cons ⟨_, rfl⟩ (.cons r1 .nil)) hT2)
    refine ⟨.ref T, _, I1, rfl, ⟨T, x, rfl, I.hok.fresh hT, rfl, fun l hl => by rw [sqA_inj I hl s1]; exact g1⟩, ⟨hS.1, hS.2.1⟩, fun b hb => ?_⟩
    have hlt : b < s.heap.objs.size := by
      have e' : b = e ∨ b = it := by simpa using hb
      rcases e' with q | q
      · obtain ⟨_, q1⟩ := q1; rw [q]; exact Heap.lt_size q1
      · obtain ⟨o, eo, _⟩ := hIt_obj q2; rw [q]; exact Heap.lt_size eo
    rw [upd_ne (Nat.ne_of_lt (Nat.lt_of_lt_of_le hlt hT))]
    exact (hf b hb).1
  done := fun X hP hw hK hc i pins s σ H E I hf st hg => by
    subst hP hw hK
    obtain ⟨q1, q2⟩ := st
    obtain ⟨l, s1, hi⟩ := hg
    obtain ⟨u, v, p, lt⟩ := sqA_seq I s1
    have W := WalksT.enumFrom 0 (draws_sq (P := X.prog) (w := X.w) (A := X.A.in1) t (I.ok.hd hc) it a n1 u.toArray) e n2 (by simp [n2, n3]) (by simp)
    have m1 : l.length = u.toArray.size := by rw [v.length]; simp
    rw [m1] at hi
    subst hi
    exact W.done s _ _ ⟨q1, ⟨q2, p⟩⟩ fun h' tk hk => ⟨rfl, I.turnedL (ch := [e, it]) (fun b o hb q => hk b o hb q) hf⟩
  self := fun A i s Q E st h => by
    obtain ⟨⟨old, q1⟩, _⟩ := st
    exact wpAny_pyIter_enum q1 h
theorem meets_en1 {v : Value} {o : Obj} {G : Heap → Prop} (B : Begins v o G) :
    Meets (Builtin.«enumerate.__new__» ⟨[.type "enumerate", v], []⟩) (fun _ R s => G s.heap ∧
      R (.ok (.ret (.ref (s.heap.push o).objs.size))) { s with heap := (s.heap.push o).push { cls := .type "enumerate", data := .fields #[.none, .bool false, .ref s.heap.objs.size, rawInt 0, .none, .none] } }) :=
  .of_wp fun prog w A R s h => by
    obtain ⟨hp, g, d, tk, os⟩ := s
    obtain ⟨hG, h⟩ := h
    have hsub := sub_enumerate
    have q0 : ∀ {A0 : Around} {E0 : Value → Shared → Prop} {Q0 : Value → Shared → Prop}, Q0 (.ref hp.objs.size) ⟨hp.push o, g, d, tk, os⟩ → wpAny (model prog w) A0 (pyIter v) Q0 E0 ⟨hp, g, d, tk, os⟩ :=
      fun q => B.iter prog w _ _ ⟨hp, g, d, tk, os⟩ _ hG q
    wp_walk
    refine wpAny_stack_any fun st => wpAny_pure ?_
    split
    · rename_i c _ _ _ _ _
      cases (c == Value.type "enumerate") <;>
      · wp_walk using q0
        exact ⟨_, rfl, h⟩
    · wp_walk using q0
      exact ⟨_, rfl, h⟩
theorem call_en1 {prog : Program} {w : World} {A : Around} {E : Value → Shared → Prop} {s : Shared} {v : Value} {o : Obj} {G : Heap → Prop} {Q : Value → Shared → Prop} (B : Begins v o G) (hG : G s.heap)
    (h : ∀ h', IsEnum h' (s.heap.objs.size + 1) s.heap.objs.size 0 .none → h'.get? s.heap.objs.size = some o → (∀ b o, s.heap.get? b = some o → h'.get? b = some o) → Q (.ref (s.heap.objs.size + 1)) { s with heap := h' }) :
    wpAny (model prog w) A (call (.type "enumerate") [v]) Q E s := by
  refine callType_new F.called_enumerate (by decide) (F.typeCall_enumerate_1 _) (F.newCall_enumerate_1 _) (fun obj => F.args_object_init_2 obj _) F.entry_enumerate_new (meets_en1 B) ⟨hG, ?_⟩
  have hz : (s.heap.push o).objs.size = s.heap.objs.size + 1 := Heap.size_push ..
  have he := Heap.get?_push_size (s.heap.push o) (o := { cls := .type "enumerate", data := .fields #[.none, .bool false, .ref s.heap.objs.size, rawInt 0, .none, .none] }) rfl
  rw [hz] at he
  show _ ∧ _
  rw [hz]
  exact ⟨⟨_, he, rfl⟩, h _ he (Heap.get?_push_of_some _ (Heap.get?_push_size _ B.free)) fun b o x => Heap.get?_push_of_some _ (Heap.get?_push_of_some _ x)⟩
def iEn (K : PySem.W.Frag) (ta : TA) : TI := fun σ H R => ta σ H fun vs H1 => ∃ (t : Bool) (a : Addr) (l : List V), vs = [.ref a] ∧ sqA t K H1 a l ∧ R (Ien t K a) H1
theorem pi_en {X : Cx} {e1 : Expr} {ta : TA} {p pos tpos : Pos} {es : List Expr} {kk : Nat} (hg : Gl X "enumerate") (hm : X.mg "enumerate" = none) (ha : PA X [e1] ta) (hs : starEach [e1] X.env = (false, eval e1 X.env) :: starEach [] X.env := by rfl) (hpl : (backTo pos (starEach [] X.env)).any (·.1) = false := by rfl) :
    PI X (.Tuple es kk tpos) (.Call (.Name "enumerate" p) [e1] [] pos) (iEn X.K ta) := by
  refine ⟨fun pins s σ H R I hz0 => ?_⟩
  refine Call_ (ld_blt I hg hm boot_enumerate (PyProof.Rows.callWith_type1 (thn (ha.run pos pins s σ H _ I hz0) fun us s1 ⟨vs, H1, I1, r1, q1⟩ => ?_) hs hpl))
  obtain ⟨t, a, l, ex, s2, q⟩ := q1
  subst ex
  rcases r1 with _ | ⟨b, r1⟩
  cases r1
  · cases b
    obtain ⟨u, v, p', lt⟩ := sqA_seq I1 s2
    refine call_en1 (begins_sq t a u.toArray) p' fun h' he hit hk => wpAny_pyIter_enum he ?_
    have I2 : Inv X pins σ H1 { s1 with heap := h' } := I1.kept (t' := s1.toks) hk
    refine ⟨_, [s1.heap.objs.size + 1, s1.heap.objs.size], _, _, H1, rfl, I2, turn_en (Nat.ne_of_lt lt) (Nat.succ_ne_self _) (Nat.ne_of_gt (Nat.lt_succ_of_lt lt)), ⟨⟨.none, he⟩, hIt_new hit⟩, fun b hb => ?_, q⟩
    have hle : s1.heap.objs.size ≤ b := by
      have e' : b = s1.heap.objs.size + 1 ∨ b = s1.heap.objs.size := by simpa using hb
      rcases e' with q | q
      · rw [q]; exact Nat.le_add_right _ _
      · rw [q]; exact Nat.le_refl _
    exact I1.fpOk hle (I1.hok.fresh hle)
/-! #### over data -/
def isTupD : D → Bool
  | .tup _ => true
  | _ => false
theorem rep_sq {K : PySem.W.Frag} {O : Addr → Prop} {H : Hp} {d : D} {v : V} {ds : List D} (r : Rep K O H d v) (e : seqOf d = some ds) : ∃ a, v = .ref a ∧ ∀ O' H', Rep K O' H' d v → ∃ xs, sqA (isTupD d) K H' a xs ∧ RepL K O' H' ds xs := by
  cases d with
  | tup es =>
    cases e
    simp only [Rep] at r
    obtain ⟨a, xs, ea, _, _⟩ := r
    refine ⟨a, ea, fun O' H' r' => ?_⟩
    simp only [Rep] at r'
    obtain ⟨a', ys, eb, q, r'⟩ := r'
    rw [ea] at eb; cases eb
    exact ⟨ys, q.sq, r'⟩
  | lst es =>
    cases e
    simp only [Rep] at r
    obtain ⟨a, xs, ea, _, _, _⟩ := r
    refine ⟨a, ea, fun O' H' r' => ?_⟩
    simp only [Rep] at r'
    obtain ⟨a', ys, eb, _, q, r'⟩ := r'
    rw [ea] at eb; cases eb
    exact ⟨ys, SqL.of q, r'⟩
  | scr es =>
    cases e
    simp only [Rep] at r
    obtain ⟨a, xs, ea, _, _⟩ := r
    refine ⟨a, ea, fun O' H' r' => ?_⟩
    simp only [Rep] at r'
    obtain ⟨a', ys, eb, q, r'⟩ := r'
    rw [ea] at eb; cases eb
    exact ⟨ys, q.sq, r'⟩
  | _ => cases e
theorem allD_eq : ∀ {avs : List AV} {ds : List D}, allD avs = some ds → avs = ds.map .d
  | [], ds, e => by cases e; rfl
  | .d d :: avs, ds, e => by
    simp only [allD] at e
    cases g : allD avs with
    | none => rw [g] at e; cases e
    | some r => rw [g] at e; cases e; rw [allD_eq g]; rfl
  | .s _ :: _, _, e => by cases e
def enumD : Nat → List D → List D
  | _, [] => []
  | k, d :: ds => .tup [.int k, d] :: enumD (k + 1) ds
theorem enumD_len : ∀ (ds : List D) (k : Nat), (enumD k ds).length = ds.length
  | [], _ => rfl
  | d :: ds, k => by simp [enumD, enumD_len ds]
theorem enumD_get : ∀ (ds : List D) (k i : Nat), (enumD k ds)[i]? = (ds[i]?).map fun d => .tup [.int (k + i : Nat), d]
  | [], _, _ => by simp [enumD]
  | d :: ds, k, 0 => by simp [enumD]
  | d :: ds, k, i + 1 => by
    simp only [enumD, List.getElem?_cons_succ]
    rw [enumD_get ds (k + 1) i, show k + 1 + i = k + (i + 1) by omega]
def zip2D (xs ys : List D) : List D := List.zipWith (fun x y => .tup [x, y]) xs ys
def zip3D : List D → List D → List D → List D
  | x :: xs, y :: ys, z :: zs => .tup [x, y, z] :: zip3D xs ys zs
  | _, _, _ => []
theorem zip3D_len : ∀ xs ys zs : List D, (zip3D xs ys zs).length = min (min xs.length ys.length) zs.length
  | [], _, _ => by simp [zip3D]
  | _ :: _, [], _ => by simp [zip3D]
  | _ :: _, _ :: _, [] => by simp [zip3D]
  | x :: xs, y :: ys, z :: zs => by simp [zip3D, zip3D_len xs ys zs]
theorem zip3D_get : ∀ (xs ys zs : List D) (i : Nat) (d : D), (zip3D xs ys zs)[i]? = some d → ∃ x y z, xs[i]? = some x ∧ ys[i]? = some y ∧ zs[i]? = some z ∧ d = .tup [x, y, z]
  | [], _, _, _, _, e => by simp [zip3D] at e
  | _ :: _, [], _, _, _, e => by simp [zip3D] at e
  | _ :: _, _ :: _, [], _, _, e => by simp [zip3D] at e
  | x :: xs, y :: ys, z :: zs, 0, d, e => by simp [zip3D] at e; exact ⟨x, y, z, rfl, rfl, rfl, e.symm⟩
  | x :: xs, y :: ys, z :: zs, i + 1, d, e => by
    simp only [zip3D, List.getElem?_cons_succ] at e
    simpa using zip3D_get xs ys zs i d e
theorem zip2D_get (xs ys : List D) (i : Nat) (d : D) (e : (zip2D xs ys)[i]? = some d) : ∃ x y, xs[i]? = some x ∧ ys[i]? = some y ∧ d = .tup [x, y] := by
  unfold zip2D at e
  rw [List.getElem?_zipWith] at e
  cases g1 : xs[i]? <;> cases g2 : ys[i]? <;> rw [g1, g2] at e <;> first | cases e | skip
  exact ⟨_, _, rfl, rfl, rfl⟩
def enumO : List D → Option (List D)
  | [d] => (seqOf d).map (enumD 0)
  | _ => none
def zipO : List D → Option (List D)
  | [d1, d2] => (seqOf d1).bind fun xs => (seqOf d2).map fun ys => zip2D xs ys
  | [d1, d2, d3] => (seqOf d1).bind fun xs => (seqOf d2).bind fun ys => (seqOf d3).map fun zs => zip3D xs ys zs
  | _ => none
def mEnum (as : List Arg) : M (List D) := fun s => (mArgs as s).bind fun avs s => lift ((allD avs).bind enumO) s
def mZip (as : List Arg) : M (List D) := fun s => (mArgs as s).bind fun avs s => lift ((allD avs).bind zipO) s
section
variable {c : Ctx} {W : XW} {X : Cx} {e1 e2 e3 : Expr} {p pos tpos : Pos} {es : List Expr} {kk : Nat} {as : List Arg}
theorem mArgs_og {P : List AV → DS → Prop} {s : DS} (h : OG W P (mArgs as s)) : OG W (fun avs s' => avs.length = as.length ∧ P avs s') (mArgs as s) := by
  cases e : mArgs as s with
  | ok avs s1 => rw [e] at h; exact ⟨mArgs_len e, h⟩
  | bad => rw [e] at h; exact h
  | ex x s1 => rw [e] at h; exact h
theorem walk_en {K : PySem.W.Frag} {v : V} {d : D} {ds : List D} {a : Addr} (hd : ∀ O' H', Rep K O' H' d v → ∃ xs, sqA (isTupD d) K H' a xs ∧ RepL K O' H' ds xs) (hK : c.K = K) : WalkD c (Ien (isTupD d) K a) (enumD 0 ds) [(v, false, d)] := by
  intro σ H s P R hP
  have rep : Rep c.K (Oof c σ s P) H d v := R.pd _ (hP _ List.mem_cons_self)
  rw [hK] at rep
  obtain ⟨xs, hq, r⟩ := hd _ _ rep
  refine ⟨fun i hi => ?_, ⟨xs, hq, by rw [enumD_len, r.length]⟩, fun i x H' d' e y => ?_⟩
  · rw [enumD_len, r.length] at hi
    exact ⟨xs, xs[i], hq, List.getElem?_eq_getElem hi⟩
  · obtain ⟨T, x1, ev, hn, eH, hx⟩ := y
    subst ev eH
    rw [enumD_get] at e
    cases g : ds[i]? with
    | none => rw [g] at e; cases e
    | some d0 =>
      rw [g] at e; cases e
      obtain ⟨x', ex, rx⟩ := r.get g
      rw [hx xs hq] at ex; cases ex
      rw [Nat.zero_add]
      rw [hK.symm] at rx
      exact R.tup hn (RepL.cons (by simp only [Rep]) (RepL.cons rx RepL.nil))
theorem pix_enum (hm : X.mg "enumerate" = none) (ha : PAs c W X [e1] as) (hg : Gl X "enumerate" := by rfl) (hs : starEach [e1] X.env = (false, eval e1 X.env) :: starEach [] X.env := by rfl) (hpl : (backTo pos (starEach [] X.env)).any (·.1) = false := by rfl) :
    PIX c W X (.Tuple es kk tpos) (.Call (.Name "enumerate" p) [e1] [] pos) (mEnum as) := PIimp (pi_en hg hm ha hs hpl) fun σ H Rr ⟨s, pend, R, q⟩ => by
  refine ⟨s, pend, R, q.bind.mono fun avs s1 q1 xs H1 h1 R1 => ?_⟩
  obtain ⟨ds, hd, q2⟩ := q1.lift
  cases g : allD avs with
  | none => rw [g] at hd; cases hd
  | some ls =>
    rw [g] at hd
    simp only [Option.bind_some] at hd
    have ea := allD_eq g
    subst ea
    match ls, hd with
    | [d], hd =>
      simp only [enumO] at hd
      cases g1 : seqOf d with
      | none => rw [g1] at hd; cases hd
      | some l =>
        rw [g1] at hd; cases hd
        match xs, h1 with
        | [x], _ =>
          have rep : Rep _ _ H1 d x := R1.pd (x, false, d) List.mem_cons_self
          obtain ⟨a, ex, hr⟩ := rep_sq rep g1
          obtain ⟨ys, hq, _⟩ := hr _ _ rep
          exact ⟨_, a, ys, by rw [ex], hq, q2 _ H1 [(x, false, d)] (fun e he => ⟨x, d, by simpa using he⟩) (walk_en hr rfl) R1⟩
theorem walk_z2 {K : PySem.W.Frag} {v1 v2 : V} {d1 d2 : D} {l1 l2 : List D} {a1 a2 : Addr} (h1 : ∀ O' H', Rep K O' H' d1 v1 → ∃ xs, sqA (isTupD d1) K H' a1 xs ∧ RepL K O' H' l1 xs) (h2 : ∀ O' H', Rep K O' H' d2 v2 → ∃ xs, sqA (isTupD d2) K H' a2 xs ∧ RepL K O' H' l2 xs) (hK : c.K = K) :
    WalkD c (Iz2 (isTupD d1) (isTupD d2) K a1 a2) (zip2D l1 l2) [(v2, false, d2), (v1, false, d1)] := by
  intro σ H s P R hP
  have p1 : Rep c.K (Oof c σ s P) H d1 v1 := R.pd (v1, false, d1) (hP _ (by simp))
  have p2 : Rep c.K (Oof c σ s P) H d2 v2 := R.pd (v2, false, d2) (hP _ (by simp))
  rw [hK] at p1 p2
  obtain ⟨xs, q1, r1⟩ := h1 _ _ p1
  obtain ⟨ys, q2, r2⟩ := h2 _ _ p2
  have hl : (zip2D l1 l2).length = min xs.length ys.length := by rw [zip2D, List.length_zipWith, r1.length, r2.length]
  refine ⟨fun i hi => ?_, ⟨xs, ys, q1, q2, hl⟩, fun i x H' d' e y => ?_⟩
  · rw [hl] at hi
    exact ⟨xs, ys, xs[i]'(by omega), ys[i]'(by omega), ⟨q1, List.getElem?_eq_getElem _⟩, q2, List.getElem?_eq_getElem _⟩
  · obtain ⟨T, x1, x2, ev, hn, eH, k1, k2⟩ := y
    subst ev eH
    obtain ⟨b1, b2, g1, g2, ed⟩ := zip2D_get _ _ _ _ e
    subst ed
    obtain ⟨y1, ey1, ry1⟩ := r1.get g1
    obtain ⟨y2, ey2, ry2⟩ := r2.get g2
    rw [k1 xs q1] at ey1; cases ey1
    rw [k2 ys q2] at ey2; cases ey2
    rw [hK.symm] at ry1 ry2
    exact R.tup hn (RepL.cons ry1 (RepL.cons ry2 RepL.nil))
theorem pix_zip2 (hm : X.mg "zip" = none) (ha : PAs c W X [e1, e2] as) (hg : Gl X "zip" := by rfl) (hs : starEach [e1, e2] X.env = (false, eval e1 X.env) :: starEach [e2] X.env := by rfl) (hpl : (backTo pos (starEach [e2] X.env)).any (·.1) = false := by rfl) (hlen : as.length = 2 := by rfl) :
    PIX c W X (.Tuple es kk tpos) (.Call (.Name "zip" p) [e1, e2] [] pos) (mZip as) := PIimp (pi_z2 hg hm ha hs hpl) fun σ H Rr ⟨s, pend, R, q⟩ => by
  refine ⟨s, pend, R, (mArgs_og q.bind).mono fun avs s1 q xs H1 h1 R1 => ?_⟩
  obtain ⟨hl2, q⟩ := q
  rw [hlen] at hl2
  · have h0 := h1
    obtain ⟨ds, hd, q2⟩ := q.lift
    cases g : allD avs with
    | none => rw [g] at hd; cases hd
    | some ls =>
      rw [g] at hd
      simp only [Option.bind_some] at hd
      have ea := allD_eq g
      subst ea
      match ls, hl2, hd with
      | [d1, d2], _, hd =>
        simp only [zipO] at hd
        cases g1 : seqOf d1 with
        | none => rw [g1] at hd; cases hd
        | some l1 =>
          cases g2 : seqOf d2 with
          | none => rw [g1, g2] at hd; cases hd
          | some l2 =>
            rw [g1, g2] at hd; cases hd
            match xs, h1 with
            | [x1, x2], _ =>
              have p1 : Rep _ _ H1 d1 x1 := R1.pd (x1, false, d1) (List.mem_cons_of_mem _ List.mem_cons_self)
              have p2 : Rep _ _ H1 d2 x2 := R1.pd (x2, false, d2) List.mem_cons_self
              obtain ⟨a1, ex1, r1⟩ := rep_sq p1 g1
              obtain ⟨a2, ex2, r2⟩ := rep_sq p2 g2
              obtain ⟨ys1, q1, _⟩ := r1 _ _ p1
              obtain ⟨ys2, q3, _⟩ := r2 _ _ p2
              exact ⟨_, _, a1, a2, ys1, ys2, by rw [ex1, ex2], q1, q3, q2 _ H1 [(x2, false, d2), (x1, false, d1)] (fun e he => by simp at he; rcases he with he | he <;> exact ⟨_, _, he⟩) (walk_z2 r1 r2 rfl) R1⟩
theorem walk_z3 {K : PySem.W.Frag} {v1 v2 v3 : V} {d1 d2 d3 : D} {l1 l2 l3 : List D} {a1 a2 a3 : Addr} (h1 : ∀ O' H', Rep K O' H' d1 v1 → ∃ xs, sqA (isTupD d1) K H' a1 xs ∧ RepL K O' H' l1 xs) (h2 : ∀ O' H', Rep K O' H' d2 v2 → ∃ xs, sqA (isTupD d2) K H' a2 xs ∧ RepL K O' H' l2 xs)
    (h3 : ∀ O' H', Rep K O' H' d3 v3 → ∃ xs, sqA (isTupD d3) K H' a3 xs ∧ RepL K O' H' l3 xs) (hK : c.K = K) :
    WalkD c (Iz3 (isTupD d1) (isTupD d2) (isTupD d3) K a1 a2 a3) (zip3D l1 l2 l3) [(v3, false, d3), (v2, false, d2), (v1, false, d1)] := by
  intro σ H s P R hP
  have p1 : Rep c.K (Oof c σ s P) H d1 v1 := R.pd (v1, false, d1) (hP _ (by simp))
  have p2 : Rep c.K (Oof c σ s P) H d2 v2 := R.pd (v2, false, d2) (hP _ (by simp))
  have p3 : Rep c.K (Oof c σ s P) H d3 v3 := R.pd (v3, false, d3) (hP _ (by simp))
  rw [hK] at p1 p2 p3
  obtain ⟨xs, q1, r1⟩ := h1 _ _ p1
  obtain ⟨ys, q2, r2⟩ := h2 _ _ p2
  obtain ⟨zs, q3, r3⟩ := h3 _ _ p3
  have hl : (zip3D l1 l2 l3).length = min (min xs.length ys.length) zs.length := by rw [zip3D_len, r1.length, r2.length, r3.length]
  refine ⟨fun i hi => ?_, ⟨xs, ys, zs, q1, q2, q3, hl⟩, fun i x H' d' e y => ?_⟩
  · rw [hl] at hi
    exact ⟨xs, ys, zs, xs[i]'(by omega), ys[i]'(by omega), zs[i]'(by omega), ⟨q1, List.getElem?_eq_getElem _⟩, ⟨q2, List.getElem?_eq_getElem _⟩, q3, List.getElem?_eq_getElem _⟩
  · obtain ⟨T, x1, x2, x3, ev, hn, eH, k1, k2, k3⟩ := y
    subst ev eH
    obtain ⟨b1, b2, b3, g1, g2, g3, ed⟩ := zip3D_get _ _ _ _ _ e
    subst ed
    obtain ⟨y1, ey1, ry1⟩ := r1.get g1
    obtain ⟨y2, ey2, ry2⟩ := r2.get g2
    obtain ⟨y3, ey3, ry3⟩ := r3.get g3
    rw [k1 xs q1] at ey1; cases ey1
    rw [k2 ys q2] at ey2; cases ey2
    rw [k3 zs q3] at ey3; cases ey3
    rw [hK.symm] at ry1 ry2 ry3
    exact R.tup hn (RepL.cons ry1 (RepL.cons ry2 (RepL.cons ry3 RepL.nil)))
theorem pix_zip3 (hm : X.mg "zip" = none) (ha : PAs c W X [e1, e2, e3] as) (hg : Gl X "zip" := by rfl) (hs : starEach [e1, e2, e3] X.env = (false, eval e1 X.env) :: starEach [e2, e3] X.env := by rfl) (hpl : (backTo pos (starEach [e2, e3] X.env)).any (·.1) = false := by rfl) (hlen : as.length = 3 := by rfl) :
    PIX c W X (.Tuple es kk tpos) (.Call (.Name "zip" p) [e1, e2, e3] [] pos) (mZip as) := PIimp (pi_z3 hg hm ha hs hpl) fun σ H Rr ⟨s, pend, R, q⟩ => by
  refine ⟨s, pend, R, (mArgs_og q.bind).mono fun avs s1 q xs H1 h1 R1 => ?_⟩
  obtain ⟨hl2, q⟩ := q
  rw [hlen] at hl2
  · have h0 := h1
    obtain ⟨ds, hd, q2⟩ := q.lift
    cases g : allD avs with
    | none => rw [g] at hd; cases hd
    | some ls =>
      rw [g] at hd
      simp only [Option.bind_some] at hd
      have ea := allD_eq g
      subst ea
      match ls, hl2, hd with
      | [d1, d2, d3], _, hd =>
        simp only [zipO] at hd
        cases g1 : seqOf d1 with
        | none => rw [g1] at hd; cases hd
        | some l1 =>
          cases g2 : seqOf d2 with
          | none => rw [g1, g2] at hd; cases hd
          | some l2 =>
            cases g3 : seqOf d3 with
            | none => rw [g1, g2, g3] at hd; cases hd
            | some l3 =>
              rw [g1, g2, g3] at hd; cases hd
              match xs, h1 with
              | [x1, x2, x3], _ =>
                have p1 : Rep _ _ H1 d1 x1 := R1.pd (x1, false, d1) (List.mem_cons_of_mem _ (List.mem_cons_of_mem _ List.mem_cons_self))
                have p2 : Rep _ _ H1 d2 x2 := R1.pd (x2, false, d2) (List.mem_cons_of_mem _ List.mem_cons_self)
                have p3 : Rep _ _ H1 d3 x3 := R1.pd (x3, false, d3) List.mem_cons_self
                obtain ⟨a1, ex1, r1⟩ := rep_sq p1 g1
                obtain ⟨a2, ex2, r2⟩ := rep_sq p2 g2
                obtain ⟨a3, ex3, r3⟩ := rep_sq p3 g3
                obtain ⟨ys1, q1, _⟩ := r1 _ _ p1
                obtain ⟨ys2, q3, _⟩ := r2 _ _ p2
                obtain ⟨ys3, q4, _⟩ := r3 _ _ p3
                exact ⟨_, _, _, a1, a2, a3, ys1, ys2, ys3, by rw [ex1, ex2, ex3], q1, q3, q4, q2 _ H1 [(x3, false, d3), (x2, false, d2), (x1, false, d1)] (fun e he => by simp at he; rcases he with he | he | he <;> exact ⟨_, _, he⟩) (walk_z3 r1 r2 r3 rfl) R1⟩
end
section
variable (s : DS) (as : List Arg) (avs : List AV)
def kEnum (avs : List AV) (s : DS) : Ores (List D) := lift ((allD avs).bind enumO) s
def kZip (avs : List AV) (s : DS) : Ores (List D) := lift ((allD avs).bind zipO) s
@[simp] theorem kEnum_run : kEnum avs s = lift ((allD avs).bind enumO) s := rfl
@[simp] theorem kZip_run : kZip avs s = lift ((allD avs).bind zipO) s := rfl
@[simp] theorem mEnum_run : mEnum as s = (mArgs as s).bind kEnum := rfl
@[simp] theorem mZip_run : mZip as s = (mArgs as s).bind kZip := rfl
@[simp] theorem enumO_one (d : D) : enumO [d] = (seqOf d).map (enumD 0) := rfl
@[simp] theorem zipO_two (d1 d2 : D) : zipO [d1, d2] = (seqOf d1).bind fun xs => (seqOf d2).map fun ys => zip2D xs ys := rfl
@[simp] theorem zipO_three (d1 d2 d3 : D) : zipO [d1, d2, d3] = (seqOf d1).bind fun xs => (seqOf d2).bind fun ys => (seqOf d3).map fun zs => zip3D xs ys zs := rfl
end
end DL

set_option Elab.async false
set_option linter.all false
set_option autoImplicit false
set_option maxRecDepth 100000
namespace DL
variable [TQ]
open PySem PySem.Spec PyProof.Rows L2
/-! ### sum, max, min, sorted of ints in a list or tuple; with default=, reverse= -/
def intsA (d : D) : Option (List Int) := (seqOf d).bind intsOf
section
variable {K : PySem.W.Frag} {O : Addr → Prop} {H : Hp}
theorem vw_sqA {d : D} {x : V} {ds : List D} (v : Vw K O H d x) (e : seqOf d = some ds) : ∃ a xs, x = .ref a ∧ sqA (isTupD d) K H a xs ∧ RepL K O H ds xs := by
  cases d with
  | tup es =>
    cases e
    obtain ⟨a, xs, ea, t, r⟩ := vw_tup v
    exact ⟨a, xs, ea, t.sq, r⟩
  | lst es =>
    cases e
    obtain ⟨a, xs, ea, t, r⟩ := vw_lst v
    exact ⟨a, xs, ea, SqL.of t, r⟩
  | scr es =>
    cases e
    obtain ⟨a, xs, ea, t, r⟩ := vw_scr v
    exact ⟨a, xs, ea, t, r⟩
  | _ => cases e
theorem vw_intsA {d : D} {x : V} {ns : List Int} (v : Vw K O H d x) (e : intsA d = some ns) : ∃ t a, x = .ref a ∧ sqA t K H a (ns.map .int) := by
  unfold intsA at e
  cases g : seqOf d with
  | none => rw [g] at e; cases e
  | some ds =>
    rw [g] at e
    obtain ⟨a, xs, ea, hq, r⟩ := vw_sqA v g
    rw [intsOf_spec e] at r
    rw [rep_ints r] at hq
    exact ⟨_, a, ea, hq⟩
end
theorem intsA_tup (ns : List Int) : intsA (.tup (ns.map .int)) = some ns := intsOf_map ns
theorem intsA_lst (ns : List Int) : intsA (.lst (ns.map .int)) = some ns := intsOf_map ns
/-! the greatest, the least -/
theorem maxOf_eq (x : Int) (xs : List Int) : (x :: xs).max? = some (PySem.W.maxOf x xs) := by
  rw [List.max?_cons', PySem.W.maxOf]
  congr 2
  funext a y
  show max a y = if decide (a < y) = true then y else a
  by_cases h : a < y
  · rw [if_pos (decide_eq_true h), Int.max_eq_right (by omega)]
  · rw [if_neg (by simpa using h), Int.max_eq_left (by omega)]
theorem minOf_eq (x : Int) (xs : List Int) : (x :: xs).min? = some (PySem.W.minOf x xs) := by
  rw [List.min?_cons', PySem.W.minOf]
  congr 2
  funext a y
  show min a y = if decide (y < a) = true then y else a
  by_cases h : y < a
  · rw [if_pos (decide_eq_true h), Int.min_eq_right (by omega)]
  · rw [if_neg (by simpa using h), Int.min_eq_left (by omega)]
theorem holds_inv {h : Heap} {v : Value} {n : Int} (e : PySem.W.Holds h v n) : ∃ t, v = .int n t := by
  obtain ⟨as, r⟩ := e
  obtain ⟨t, e, _⟩ := PyProof.Rows.reads_int_inv r
  exact ⟨t, e⟩
section
variable {prog : Program} {w : World} {A : Around} {E : Value → Shared → Prop} {s : Shared}
theorem best_sq {t : Bool} {l : Addr} {vs : Array Value} {x : Int} {xs : List Int} {Q : Value → Shared → Prop} (mx : Bool) (hh : A.handled = none) (hl : hSq t s.heap l vs) (hi : IntsAre vs.toList (x :: xs)) (hu : A.units + 64 < cLine)
    (h : ∀ h' tk t', (∀ b o, s.heap.get? b = some o → h'.get? b = some o) → Q (.int (if mx then PySem.W.maxOf x xs else PySem.W.minOf x xs) t') { s with heap := h', toks := tk }) :
    wpAny (model prog w) A (call (.builtin (if mx then "max" else "min")) [.ref l]) Q E s := by
  have H := PySem.W.HoldAll.of_ints (h := s.heap) hi
  have hu' : A.units + 1 + PySem.W.Datum.depth Int < cLine := by show A.units + 1 + 0 < cLine; omega
  cases mx with
  | true =>
    have k : ∀ (i : Nat) v h' tk, vs[i]? = some v → PySem.W.Holds h' v (PySem.W.maxOf x xs) → (∀ b o, s.heap.get? b = some o → h'.get? b = some o) → Q v { s with heap := h', toks := tk } := fun i v h' tk _ hv hk => by
      obtain ⟨t', e⟩ := holds_inv hv
      subst e
      exact h h' tk t' hk
    cases t with
    | true => exact PySem.W.max_tuple_datum hh hl H hu' k
    | false => exact PySem.W.max_list_datum hh hl H hu' k
  | false =>
    have k : ∀ (i : Nat) v h' tk, vs[i]? = some v → PySem.W.Holds h' v (PySem.W.minOf x xs) → (∀ b o, s.heap.get? b = some o → h'.get? b = some o) → Q v { s with heap := h', toks := tk } := fun i v h' tk _ hv hk => by
      obtain ⟨t', e⟩ := holds_inv hv
      subst e
      exact h h' tk t' hk
    cases t with
    | true => exact PySem.W.min_tuple_datum hh hl H hu' k
    | false => exact PySem.W.min_list_datum hh hl H hu' k
theorem best_sqD {t : Bool} {l : Addr} {vs : Array Value} {xs : List Int} {d : Value} {Q : Value → Shared → Prop} (mx : Bool) (hh : A.handled = none) (hl : hSq t s.heap l vs) (hi : IntsAre vs.toList xs) (hu : A.units + 64 < cLine)
    (h0 : xs = [] → ∀ h' tk, (∀ b o, s.heap.get? b = some o → h'.get? b = some o) → Q d { s with heap := h', toks := tk })
    (h : ∀ y ys h' tk t', xs = y :: ys → (∀ b o, s.heap.get? b = some o → h'.get? b = some o) → Q (.int (if mx then PySem.W.maxOf y ys else PySem.W.minOf y ys) t') { s with heap := h', toks := tk }) :
    wpAny (model prog w) A (call (.builtin (if mx then "max" else "min")) [.ref l] [(Str.ofString "default", d)]) Q E s := by
  have H := PySem.W.HoldAll.of_ints (h := s.heap) hi
  have hu' : A.units + 1 + PySem.W.Datum.depth Int < cLine := by show A.units + 1 + 0 < cLine; omega
  cases mx with
  | true =>
    have k : ∀ (y : Int) (ys : List Int) (i : Nat) v h' tk, xs = y :: ys → vs[i]? = some v → PySem.W.Holds h' v (PySem.W.maxOf y ys) → (∀ b o, s.heap.get? b = some o → h'.get? b = some o) → Q v { s with heap := h', toks := tk } := fun y ys i v h' tk e _ hv hk => by
      obtain ⟨t', e2⟩ := holds_inv hv
      subst e2
      exact h y ys h' tk t' e hk
    cases t with
    | true => exact PySem.W.max_tuple_datum_default hh hl H hu' h0 k
    | false => exact PySem.W.max_list_datum_default hh hl H hu' h0 k
  | false =>
    have k : ∀ (y : Int) (ys : List Int) (i : Nat) v h' tk, xs = y :: ys → vs[i]? = some v → PySem.W.Holds h' v (PySem.W.minOf y ys) → (∀ b o, s.heap.get? b = some o → h'.get? b = some o) → Q v { s with heap := h', toks := tk } := fun y ys i v h' tk e _ hv hk => by
      obtain ⟨t', e2⟩ := holds_inv hv
      subst e2
      exact h y ys h' tk t' e hk
    cases t with
    | true => exact PySem.W.min_tuple_datum_default hh hl H hu' h0 k
    | false => exact PySem.W.min_list_datum_default hh hl H hu' h0 k
theorem hSq_obj {t : Bool} {h : Heap} {a : Addr} {its : Array Value} (x : hSq t h a its) : ∃ o n, h.get? a = some o ∧ o.cls = .type (if t then "tuple" else "list") ∧ o.data = .seq its n := by
  cases t with
  | true => obtain ⟨o, ho, hc, n, hd⟩ := x; exact ⟨o, n, ho, hc, hd⟩
  | false => obtain ⟨o, ho, hc, n, hd⟩ := x; exact ⟨o, n, ho, hc, hd⟩
theorem gather_sq {t : Bool} {l : Addr} {vs : List Value} {P : List Value → Shared → Prop} (hl : hSq t s.heap l vs.toArray) (hz : vs.length ≤ sizeLine)
    (h : P vs { s with heap := (s.heap.push (seqObj "list" #[] 0)).update s.heap.objs.size (Obj.mapSeq (· ++ vs.toArray)) }) : wpAny (model prog w) A (collect (.ref l)) P E s := by
  cases t with
  | false => exact collect_list hl h hz
  | true =>
    obtain ⟨o, n, ho, hc, hd⟩ := hSq_obj hl
    unfold collect
    refine wpAny_bind (wpAny_runValue (codeAny_builtin entry_proto_collect' ?_))
    show wpAny _ _ (newList [] >>= fun q => again (.builtin "list.__iadd__" ⟨[q, .ref l], []⟩)) _ _ s
    refine wpAny_bind (wpAny_newList (wpAny_pure ⟨Code.quiet_builtin _ (by decide +kernel), codeAny_builtin entry_list_iadd' ?_⟩))
    show wpAny _ _ (Builtin.List.listExtendWith (.ref s.heap.objs.size) (.ref l) (.ref s.heap.objs.size)) _ _ _
    unfold Builtin.List.listExtendWith
    have ho1 : (s.heap.push (seqObj "list" #[] 0)).get? l = some o := Heap.get?_push_of_some _ ho
    refine wpAny_bind (wpAny_typeOf (T := "tuple") ⟨o, ho1, hc⟩ ?_)
    have e1 : (Value.type "tuple" == Value.type "tuple") = true := by rfl
    rw [if_pos (by rw [e1]; simp)]
    refine wpAny_bind (listItems_at ho1 hd ?_)
    refine wpAny_bind (listItems_at (xs := #[]) (n := 0) (Heap.get?_push_size _ rfl) rfl ?_)
    rw [if_neg (by simp)]
    refine wpAny_bind (listUpdate_at (xs := #[]) (n := 0) (Heap.get?_push_size _ rfl) rfl ?_ (Nat.zero_le _) (by show (#[] ++ vs.toArray).size ≤ sizeLine + 1; simp only [Array.size_append, List.size_toArray, List.length_nil]; omega))
    refine wpAny_pure ?_
    show wpAny _ A (load s.heap.objs.size >>= _) _ _ _
    refine wpAny_bind (wpAny_load (get?_update_seq (Heap.get?_push_size _ rfl) _) ?_)
    show wpAny _ _ (pure ((#[] : Array Value) ++ vs.toArray).toList) P E _
    rw [show ((#[] : Array Value) ++ vs.toArray).toList = vs by simp]
    exact wpAny_pure h
/-- sorted(x, reverse=b), x a list or a tuple -/
theorem sorted_sq {t : Bool} {l : Addr} {vs : List Value} {kw : List (Str × Value)} {b : Bool} {ltv : Value → Value → Bool} {Q : Value → Shared → Prop} (hkw : kw = [] ∧ b = false ∨ kw = [(Str.ofString "reverse", .bool b)]) (O : SrtO.Swo ltv) (hl : hSq t s.heap l vs.toArray) (hz : vs.length ≤ sizeLine)
    (hS : 2 ≤ vs.length → ∀ (h₁ : Heap) (a : Addr), h₁.get? a = some (seqObj "list" vs.toArray 0) → (∀ b o, s.heap.get? b = some o → b ≠ a ∧ h₁.get? b = some o) → SrtO.SortableO prog w A.in1.in1 { s with heap := h₁ } a vs ltv)
    (h : ∀ (out : List Value) (h' : Heap) (d : Addr), SrtO.Srtd ltv out → SrtO.Stb ltv out (if b = true then vs.reverse else vs) → (∀ b o, s.heap.get? b = some o → h'.get? b = some o) → s.heap.objs.size ≤ d → (∃ n, h'.get? d = some (seqObj "list" (if b = true then out.toArray.reverse else out.toArray) n)) → Q (.ref d) { s with heap := h' }) :
    wpAny (model prog w) A (call (.builtin "sorted") [.ref l] kw) Q E s := by
  have hargs : argsOk "sorted" ⟨[.ref l], kw⟩ := by
    rcases hkw with ⟨e, _⟩ | e
    · subst e; exact args_sorted1 _
    · subst e; exact PyProof.Rows.args_sorted_rev _ _
  refine call_function_entry_kw kind_sorted plain_sorted entry_sorted hargs ?_
  unfold Builtin.«sorted»
  refine wpAny_bind (m := checkCount "sorted" 1 1 _) (wpAny_pure ?_)
  refine wpAny_bind (gather_sq hl hz ?_)
  generalize hh : (s.heap.push (seqObj "list" #[] 0)).update s.heap.objs.size (Obj.mapSeq (· ++ vs.toArray)) = h'
  have hk : ∀ b o, s.heap.get? b = some o → h'.get? b = some o := fun b o q => by
    rw [← hh, Heap.get?_update_ne _ _ _ _ (Nat.ne_of_lt (Heap.lt_size q))]
    exact Heap.get?_push_of_some _ q
  have hle : s.heap.objs.size ≤ h'.objs.size := by
    rw [← hh, Heap.size_update, size_push']
    exact Nat.le_succ _
  refine wpAny_bind (wpAny_newList ?_ hz)
  have hoL : (h'.push (seqObj "list" vs.toArray 0)).get? h'.objs.size = some (seqObj "list" vs.toArray 0) := Heap.get?_push_size _ rfl
  have kp : ∀ b o, s.heap.get? b = some o → b ≠ h'.objs.size ∧ (h'.push (seqObj "list" vs.toArray 0)).get? b = some o := fun b o q => ⟨Nat.ne_of_lt (Heap.lt_size (hk b o q)), Heap.get?_push_of_some _ (hk b o q)⟩
  show wpAny _ _ _ _ _ { s with heap := h'.push (seqObj "list" vs.toArray 0) }
  rcases hkw with ⟨e, eb⟩ | e
  · subst e eb
    refine wpAny_bind (wpAny_holding (wpAny_call_entry slot_list_sort ⟨_, hoL, rfl⟩ entry_list_sort (SrtO.list_sort_ord O hoL hz (fun h2 => hS h2 _ _ hoL kp) fun out hs hb => ⟨_, rfl, wpAny_pure ⟨_, rfl, h out _ h'.objs.size hs hb (fun b o q => ?_) hle (sortedHeap_at hoL)⟩⟩) (args_list_sort _)))
    rw [sortedHeap_old (kp b o q).1 (Heap.lt_size (kp b o q).2)]
    exact (kp b o q).2
  · subst e
    refine wpAny_bind (wpAny_holding (wpAny_call_entry_kw slot_list_sort ⟨_, hoL, rfl⟩ entry_list_sort (SrtR.list_sort_ordR O hoL hz (fun h2 => hS h2 _ _ hoL kp) fun out hs hb => ⟨_, rfl, wpAny_pure ⟨_, rfl, h out _ h'.objs.size hs hb (fun b o q => ?_) hle (sortedHeap_at hoL)⟩⟩) (args_list_sort_rev _ _)))
    rw [sortedHeap_old (kp b o q).1 (Heap.lt_size (kp b o q).2)]
    exact (kp b o q).2
end
/-! as rules -/
def rBestA (K : PySem.W.Frag) (mx : Bool) : List V → Hp → VK → Prop := fun vs H Q => ∃ (t : Bool) (a : Addr) (ns : List Int), vs = [.ref a] ∧ sqA t K H a (ns.map .int) ∧ ∃ m, (if mx then ns.max? else ns.min?) = some m ∧ Q (.int m) H
def rSumA (K : PySem.W.Frag) : List V → Hp → VK → Prop := fun vs H Q => ∃ (t : Bool) (a : Addr) (ns : List Int), vs = [.ref a] ∧ sqA t K H a (ns.map .int) ∧ Q (.int ns.sum) H
def rSortA (K : PySem.W.Frag) : List V → Hp → VK → Prop := fun vs H Q => ∃ (t : Bool) (a : Addr) (ns : List Int), vs = [.ref a] ∧ sqA t K H a (ns.map .int) ∧ ∀ p, H p = none → Q (.ref p) (upd H p (.lst ((sortI ns).map .int)))
def rBestD (K : PySem.W.Frag) (mx : Bool) : List V → List V → Hp → VK → Prop := fun vs zs H Q => ∃ (t : Bool) (a : Addr) (ns : List Int) (z : V), vs = [.ref a] ∧ zs = [z] ∧ sqA t K H a (ns.map .int) ∧ Q (((if mx then ns.max? else ns.min?).map V.int).getD z) H
def rSortR (K : PySem.W.Frag) : List V → List V → Hp → VK → Prop := fun vs zs H Q => ∃ (t : Bool) (a : Addr) (ns : List Int), vs = [.ref a] ∧ zs = [.bl true] ∧ sqA t K H a (ns.map .int) ∧ ∀ p, H p = none → Q (.ref p) (upd H p (.lst ((sortI ns).reverse.map .int)))
section
variable {X : Cx}
theorem cr_bestA (mx : Bool) (hu : X.A.units + 64 < cLine) (hc : X.calm = true) : CallR X (.builtin (if mx then "max" else "min")) (rBestA X.K mx) := by
  intro pins s σ H vs us Q I r h
  obtain ⟨t, a, ns, rfl, hs, m, hm, q⟩ := h
  obtain ⟨its, rv, hl, _⟩ := sqA_seq I hs
  rw [Vals.ref1 r]
  cases ns with
  | nil => cases mx <;> cases hm
  | cons x xs =>
    refine best_sq mx (I.ok.hd hc) hl rv.ints hu fun h' tk t' hk => ⟨.int m, H, I.kept hk, ⟨t', ?_⟩, q⟩
    cases mx with
    | true => rw [if_pos rfl, maxOf_eq] at hm; cases hm; rfl
    | false => rw [if_neg (by decide), minOf_eq] at hm; cases hm; rfl
theorem cr_bestD (mx : Bool) (hu : X.A.units + 64 < cLine) (hc : X.calm = true) : CallRK X (.builtin (if mx then "max" else "min")) [Str.ofString "default"] (rBestD X.K mx) := by
  intro pins s σ H vs zs us ws Q I r rz h
  obtain ⟨t, a, ns, z, rfl, rfl, hs, q⟩ := h
  obtain ⟨its, rv, hl, _⟩ := sqA_seq I hs
  rw [Vals.ref1 r]
  obtain ⟨w1, rfl, e1⟩ := vals1 rz
  refine best_sqD mx (I.ok.hd hc) hl rv.ints hu (fun e h' tk hk => ⟨z, H, I.kept hk, e1, ?_⟩) fun y ys h' tk t' e hk => ?_
  · subst e
    cases mx <;> exact q
  · subst e
    cases mx with
    | true => rw [if_pos rfl, maxOf_eq] at q; exact ⟨.int _, H, I.kept hk, ⟨t', rfl⟩, q⟩
    | false => rw [if_neg (by decide), minOf_eq] at q; exact ⟨.int _, H, I.kept hk, ⟨t', rfl⟩, q⟩
theorem cr_sumA (hc : X.calm = true) : CallR X (.builtin "sum") (rSumA X.K) := by
  intro pins s σ H vs us Q I r h
  obtain ⟨t, a, ns, rfl, hs, q⟩ := h
  cases t with
  | false => exact cr_sum hc pins s σ H _ us Q I r ⟨a, ns, rfl, hs, q⟩
  | true =>
    obtain ⟨its, rv, hl, _⟩ := sqA_seq I hs
    rw [Vals.ref1 r]
    have hi := rv.ints
    obtain ⟨xs, hx⟩ := hi.allInts.items
    have hn : numsOf its = ns := hi.numsOf
    have e0 : its = (its.toArray).toList := by simp
    rw [e0, hx, nums_intItems] at hn
    have hl' : s.heap.IsTuple a (intItems xs) := by rw [← hx]; exact hl
    refine PySem.W.ktm_sumG (I.ok.hd hc) hl' fun h' tk t' hk => ⟨.int _, H, I.kept hk, ⟨_, rfl⟩, ?_⟩
    rw [preSum_eq, List.take_of_length_le (by simp), hn]
    exact q
theorem cr_sortA : CallR X (.builtin "sorted") (rSortA X.K) := by
  intro pins s σ H vs us Q I r h
  obtain ⟨t, a, ns, rfl, hs, q⟩ := h
  cases t with
  | false => exact cr_sortedI pins s σ H _ us Q I r ⟨a, ns, rfl, hs, fun ns' p hp ho hn => by
      have : ns' = sortI ns := sorted_one (hp.trans (sortI_perm ns).symm) ho (sortI_sorted ns)
      subst this
      exact q p hn⟩
  | true =>
    obtain ⟨its, rv, hl, _⟩ := sqA_seq I hs
    have hz : its.length ≤ sizeLine := by
      obtain ⟨_, rv', _, hz⟩ := I.tuple hs
      rw [← rv.length]; exact hz
    rw [Vals.ref1 r]
    have hi := rv.ints
    refine sorted_sq (t := true) (kw := []) (.inl ⟨rfl, rfl⟩) SrtO.swo_int hl hz (fun h2 h₁ a' _ _ => SrtO.ints_sortable hi h2) fun out h' d h1 h2 kp hd hob => ?_
    obtain ⟨k1, k2, k3⟩ := SrtO.ints_out hi h1 h2
    obtain ⟨n, hob⟩ := hob
    have hq : out.map SrtO.iv = sortI ns := sorted_one (k2.trans (sortI_perm ns).symm) k3 (sortI_sorted ns)
    rw [hq] at k1
    refine ⟨.ref d, upd H d (.lst ((sortI ns).map .int)), I.laid (t' := s.toks) kp hd ⟨?_, out, n, vals_of_ints k1, hob⟩, rfl, q d (I.hok.fresh hd)⟩
    rw [List.length_map, (sortI_perm ns).length_eq]
    have := rv.length
    rw [List.length_map] at this
    rw [this]; exact hz
theorem cr_sortR : CallRK X (.builtin "sorted") [Str.ofString "reverse"] (rSortR X.K) := by
  intro pins s σ H vs zs us ws Q I r rz h
  obtain ⟨t, a, ns, rfl, rfl, hs, q⟩ := h
  obtain ⟨its, rv, hl, _⟩ := sqA_seq I hs
  have hz : its.length ≤ sizeLine := by
    rw [← rv.length]
    cases t with
    | true => obtain ⟨_, _, _, hz⟩ := I.tuple hs; exact hz
    | false => obtain ⟨_, _, _, hz⟩ := I.list hs; exact hz
  rw [Vals.ref1 r]
  obtain ⟨w1, rfl, e1⟩ := vals1 rz
  obtain rfl : w1 = Value.bool true := e1
  have hi := rv.ints
  refine sorted_sq (t := t) (kw := [(Str.ofString "reverse", .bool true)]) (.inr rfl) SrtO.swo_int hl hz (fun h2 h₁ a' _ _ => SrtO.ints_sortable hi h2) fun out h' d h1 h2 kp hd hob => ?_
  obtain ⟨ns', k1, k2, k3⟩ := SrtR.ints_outR hi h1 h2
  obtain ⟨n, hob⟩ := hob
  have hq : ns'.reverse = sortI ns := sorted_one ((List.reverse_perm _).trans (k2.trans (sortI_perm ns).symm)) (by
    rw [List.pairwise_reverse]
    exact k3) (sortI_sorted ns)
  have hq' : ns' = (sortI ns).reverse := by rw [← hq, List.reverse_reverse]
  subst hq'
  refine ⟨.ref d, upd H d (.lst ((sortI ns).reverse.map .int)), I.laid (t' := s.toks) kp hd ⟨?_, _, n, vals_of_ints k1, by rw [Array.toArray_toList]; exact hob⟩, rfl, q d (I.hok.fresh hd)⟩
  rw [List.length_map, List.length_reverse, (sortI_perm ns).length_eq]
  have := rv.length
  rw [List.length_map] at this
  rw [this]; exact hz
end
/-! over data -/
def oIntsA (f : List Int → Option Int) (d : D) : Option D := (intsA d).bind fun ns => (f ns).map .int
abbrev oSumA := oIntsA fun ns => some ns.sum
abbrev oMaxA := oIntsA fun ns => ns.max?
abbrev oMinA := oIntsA fun ns => ns.min?
def oBestD (mx : Bool) (d z : D) : Option D := (intsA d).map fun ns => ((if mx then ns.max? else ns.min?).map D.int).getD z
def oSortA (d : D) : Option D := (intsA d).map fun ns => .lst ((sortI ns).map .int)
def oSortR (d z : D) : Option D := match z with
  | .bl true => (intsA d).map fun ns => .lst ((sortI ns).reverse.map .int)
  | _ => none
section
variable {K : PySem.W.Frag}
theorem oIntsA_ok {f : List Int → Option Int} {d d' : D} (h : oIntsA f d = some d') : ∃ ns m, intsA d = some ns ∧ f ns = some m ∧ d' = .int m := by
  unfold oIntsA at h
  cases g : intsA d with
  | none => rw [g] at h; cases h
  | some ns =>
    rw [g] at h
    cases g2 : f ns with
    | none => rw [Option.bind_some, g2] at h; cases h
    | some m => rw [Option.bind_some, g2] at h; cases h; exact ⟨ns, m, rfl, g2, rfl⟩
theorem od_sumA : OpD1 K oSumA fun x H Q => rSumA K [x] H Q := fun c σ H s pend x d1 d Q eK R v1 e q => by
  obtain ⟨ns, m, h1, h2, rfl⟩ := oIntsA_ok e
  cases h2
  obtain ⟨t, a, ea, hq⟩ := vw_intsA v1 h1
  subst ea
  exact ⟨t, a, ns, rfl, hq, q _ H (R.push (by simp only [Rep]))⟩
theorem od_maxA : OpD1 K oMaxA fun x H Q => rBestA K true [x] H Q := fun c σ H s pend x d1 d Q eK R v1 e q => by
  obtain ⟨ns, m, h1, h2, rfl⟩ := oIntsA_ok e
  obtain ⟨t, a, ea, hq⟩ := vw_intsA v1 h1
  subst ea
  exact ⟨t, a, ns, rfl, hq, m, h2, q _ H (R.push (by simp only [Rep]))⟩
theorem od_minA : OpD1 K oMinA fun x H Q => rBestA K false [x] H Q := fun c σ H s pend x d1 d Q eK R v1 e q => by
  obtain ⟨ns, m, h1, h2, rfl⟩ := oIntsA_ok e
  obtain ⟨t, a, ea, hq⟩ := vw_intsA v1 h1
  subst ea
  exact ⟨t, a, ns, rfl, hq, m, h2, q _ H (R.push (by simp only [Rep]))⟩
theorem of_sortA : OpF1 K oSortA fun x H Q => rSortA K [x] H Q := fun c σ H s pend x d1 d Q eK R v1 e q => by
  subst eK
  unfold oSortA at e
  cases g : intsA d1 with
  | none => rw [g] at e; cases e
  | some ns =>
    rw [g] at e; cases e
    obtain ⟨t, a, ea, hq⟩ := vw_intsA v1 g
    subst ea
    exact ⟨t, a, ns, rfl, hq, fun p hn => q _ _ (R.lst hn (rep_of_ints _))⟩
/-- the operand that stands as default= is a plain int, or None -/
def plainI : D → Bool
  | .int _ => true
  | .non => true
  | _ => false
def oBestI (mx : Bool) (d z : D) : Option D := if plainI z = true then oBestD mx d z else none
theorem od_bestI (mx : Bool) : OpD2 K (oBestI mx) fun x y H Q => rBestD K mx [x] [y] H Q := fun c σ H s pend x y d1 d2 d Q eK R v1 v2 e q => by
  subst eK
  unfold oBestI at e
  by_cases hp : plainI d2 = true
  · rw [if_pos hp] at e
    unfold oBestD at e
    cases g : intsA d1 with
    | none => rw [g] at e; cases e
    | some ns =>
      rw [g] at e; cases e
      obtain ⟨t, a, ea, hq⟩ := vw_intsA v1 g
      subst ea
      refine ⟨t, a, ns, y, rfl, rfl, hq, q _ H (R.push ?_)⟩
      show Rep _ _ _ (((if mx = true then ns.max? else ns.min?).map D.int).getD d2) (((if mx = true then ns.max? else ns.min?).map V.int).getD y)
      cases (if mx = true then ns.max? else ns.min?) with
      | some m => simp only [Option.map_some, Option.getD_some, Rep]
      | none =>
        simp only [Option.map_none, Option.getD_none]
        rcases v2 with v2 | ⟨p, ep, v2⟩
        · exact v2
        · cases d2 <;> first | exact v2.elim | cases hp
  · rw [if_neg hp] at e; cases e
theorem of_sortR : OpF2 K oSortR fun x y H Q => rSortR K [x] [y] H Q := fun c σ H s pend x y d1 d2 d Q eK R v1 v2 e q => by
  subst eK
  unfold oSortR at e
  split at e
  · cases g : intsA d1 with
    | none => rw [g] at e; cases e
    | some ns =>
      rw [g] at e; cases e
      obtain ⟨t, a, ea, hq⟩ := vw_intsA v1 g
      subst ea
      have := vw_bl v2
      subst this
      exact ⟨t, a, ns, rfl, rfl, hq, fun p hn => q _ _ (R.lst hn (rep_of_ints _))⟩
  · cases e
end
section
variable {c : Ctx} {W : XW} {X : Cx} {a b : Expr} {x nm : Str} {p pos kpos : Pos} {id : String} {r : List V → List V → Hp → VK → Prop} {f : D → D → Option D} {a1 a2 : Arg}
/-- a built-in with one operand and one keyword -/
theorem px_bk (hc : CallRK X (.builtin id) [nm] r) (hd : OpD2 X.K f fun x y H Q => r [x] [y] H Q) (hm : X.mg x = none) (hv : bootBuiltins x = some (.builtin id)) (ha : PAg c W X a a1) (hb : PAg c W X b a2)
    (hg : Gl X x := by rfl) (hn : x ≠ "__name__" := by decide) (hdb : (x == ("__debug__" : Str)) = false := by decide)
    (hs : starEach [a] X.env = (false, eval a X.env) :: starEach [] X.env := by rfl) (he : backTo pos (starEach [a] X.env) = (false, eval a X.env) :: backTo pos (starEach [] X.env) := by rfl) (hpl : (backTo pos (starEach [a] X.env)).any (·.1) = false := by rfl)
    (hall : (backToKw pos (keywordEach [⟨some nm, b, kpos⟩] X.env)).all (·.1.isSome) = true := by rfl) (hnone : (backToKw pos (keywordEach [⟨some nm, b, kpos⟩] X.env)).any (·.1.isNone) = false := by rfl) (hks : (backToKw pos (keywordEach [⟨some nm, b, kpos⟩] X.env)).filterMap (·.1) = [nm] := by rfl) :
    PX c W X (.Call (.Name x p) [a] [⟨some nm, b, kpos⟩] pos) (mOp2 f a1 a2) :=
  PEimp (pe_callBK hc hg hm hv (pa_cons ha pa_nil hs) (pk_cons hb pk_nil) hn hdb he hpl hall hnone hks) fun σ H Q h => T_op2 (c := c.at X.K) (r := fun x y H Q => r [x] [y] H Q) hd h
theorem pxf_bk (hc : CallRK X (.builtin id) [nm] r) (hd : OpF2 X.K f fun x y H Q => r [x] [y] H Q) (hm : X.mg x = none) (hv : bootBuiltins x = some (.builtin id)) (ha : PAg c W X a a1) (hb : PAg c W X b a2)
    (hg : Gl X x := by rfl) (hn : x ≠ "__name__" := by decide) (hdb : (x == ("__debug__" : Str)) = false := by decide)
    (hs : starEach [a] X.env = (false, eval a X.env) :: starEach [] X.env := by rfl) (he : backTo pos (starEach [a] X.env) = (false, eval a X.env) :: backTo pos (starEach [] X.env) := by rfl) (hpl : (backTo pos (starEach [a] X.env)).any (·.1) = false := by rfl)
    (hall : (backToKw pos (keywordEach [⟨some nm, b, kpos⟩] X.env)).all (·.1.isSome) = true := by rfl) (hnone : (backToKw pos (keywordEach [⟨some nm, b, kpos⟩] X.env)).any (·.1.isNone) = false := by rfl) (hks : (backToKw pos (keywordEach [⟨some nm, b, kpos⟩] X.env)).filterMap (·.1) = [nm] := by rfl) :
    PXF c W X (.Call (.Name x p) [a] [⟨some nm, b, kpos⟩] pos) (mOp2 f a1 a2) :=
  PEimp (pe_callBK hc hg hm hv (pa_cons ha pa_nil hs) (pk_cons hb pk_nil) hn hdb he hpl hall hnone hks) fun σ H Q h => TF_op2 (c := c.at X.K) (r := fun x y H Q => r [x] [y] H Q) hd h
end
section
variable (ns : List Int) (z : D) (mx : Bool) (f : List Int → Option Int)
@[simp] theorem oIntsA_tup : oIntsA f (.tup (ns.map .int)) = (f ns).map .int := by unfold oIntsA; rw [intsA_tup]; rfl
@[simp] theorem oIntsA_lst : oIntsA f (.lst (ns.map .int)) = (f ns).map .int := by unfold oIntsA; rw [intsA_lst]; rfl
@[simp] theorem oSortA_tup : oSortA (.tup (ns.map .int)) = some (.lst ((sortI ns).map .int)) := by unfold oSortA; rw [intsA_tup]; rfl
@[simp] theorem oSortA_lst : oSortA (.lst (ns.map .int)) = some (.lst ((sortI ns).map .int)) := by unfold oSortA; rw [intsA_lst]; rfl
@[simp] theorem oSortR_tup : oSortR (.tup (ns.map .int)) (.bl true) = some (.lst ((sortI ns).reverse.map .int)) := by unfold oSortR; rw [intsA_tup]; rfl
@[simp] theorem oSortR_lst : oSortR (.lst (ns.map .int)) (.bl true) = some (.lst ((sortI ns).reverse.map .int)) := by unfold oSortR; rw [intsA_lst]; rfl
@[simp] theorem oBestI_tup (i : Int) : oBestI mx (.tup (ns.map .int)) (.int i) = some (((if mx then ns.max? else ns.min?).map D.int).getD (.int i)) := by unfold oBestI oBestD; rw [intsA_tup]; rfl
@[simp] theorem oBestI_lst (i : Int) : oBestI mx (.lst (ns.map .int)) (.int i) = some (((if mx then ns.max? else ns.min?).map D.int).getD (.int i)) := by unfold oBestI oBestD; rw [intsA_lst]; rfl
@[simp] theorem oBestI_tupN : oBestI mx (.tup (ns.map .int)) .non = some (((if mx then ns.max? else ns.min?).map D.int).getD .non) := by unfold oBestI oBestD; rw [intsA_tup]; rfl
@[simp] theorem oBestI_lstN : oBestI mx (.lst (ns.map .int)) .non = some (((if mx then ns.max? else ns.min?).map D.int).getD .non) := by unfold oBestI oBestD; rw [intsA_lst]; rfl
end
end DL

set_option Elab.async false
set_option linter.all false
set_option autoImplicit false
set_option maxRecDepth 100000
namespace DL
variable [TQ]
open PySem PySem.Spec PyProof.Rows L2
/-! ### loops and comprehensions by functions -/
section
variable {α β : Type} {g : TgF} {u : SM} {vs : List Nat} {t : M Bool} {me : M D}
/-- a comprehension that keeps its state: a filter and a map -/
theorem lc_fun (e : α → D) (p : α → Bool) (f : α → D) (S : DS) : ∀ (xs : List α), (∀ x ∈ xs, ∀ acc, stepL g vs t me (e x) S acc = .ok (if p x then acc ++ [f x] else acc) S) → ∀ acc, lcLoop g vs t me (xs.map e) S acc = .ok (.lst (acc ++ (xs.filter p).map f)) S
  | [], _, acc => by simp
  | x :: xs, h, acc => by
    rw [List.map_cons, lcLoop_step _ _ _ _ (h x List.mem_cons_self acc), lc_fun e p f S xs (fun y hy => h y (List.mem_cons_of_mem _ hy))]
    by_cases hp : p x = true
    · rw [if_pos hp, List.filter_cons_of_pos hp, List.map_cons, List.append_assoc]; rfl
    · rw [if_neg hp, List.filter_cons_of_neg hp]
theorem lc_map (e : α → D) (f : α → D) (S : DS) (xs : List α) (h : ∀ x ∈ xs, ∀ acc, stepL g vs t me (e x) S acc = .ok (acc ++ [f x]) S) (acc : List D) : lcLoop g vs t me (xs.map e) S acc = .ok (.lst (acc ++ xs.map f)) S := by
  have := lc_fun (g := g) (vs := vs) (t := t) (me := me) e (fun _ => true) f S xs (fun x hx acc => by rw [h x hx acc]; rfl) acc
  rw [this, List.filter_eq_self.mpr (by simp)]
/-- a comprehension whose state changes -/
theorem lc_rel (e : α → D) (R : Nat → DS → List D → Prop) (xs : List α) (h : ∀ k (hk : k < xs.length) s acc, R k s acc → ∃ s1 acc1, stepL g vs t me (e xs[k]) s acc = .ok acc1 s1 ∧ R (k + 1) s1 acc1) (s : DS) (h0 : R 0 s []) : ∃ s1 acc1, lcLoop g vs t me (xs.map e) s [] = .ok (.lst acc1) s1 ∧ R xs.length s1 acc1 := by
  have := lc_inv (g := g) (vs := vs) (t := t) (me := me) R (xs.map e) 0 (fun k hk s acc hR => by
    have hk' : k < xs.length := by simpa using hk
    rw [Nat.zero_add] at hR ⊢
    have := h k hk' s acc hR
    simpa using this) s [] h0
  simpa using this
/-- a for loop that folds -/
theorem for_fold (e : α → D) (R : β → DS → Prop) (step : β → α → β) : ∀ (xs : List α), (∀ x ∈ xs, ∀ b s, R b s → ∃ s1, (stepF g u (e x) s = .nx s1 ∨ stepF g u (e x) s = .cnt s1) ∧ R (step b x) s1) → ∀ b s, R b s → ∃ s1, forLoop g u (xs.map e) s = .nx s1 ∧ R (xs.foldl step b) s1
  | [], _, b, s, hR => ⟨s, rfl, hR⟩
  | x :: xs, h, b, s, hR => by
    obtain ⟨s1, e1, r1⟩ := h x List.mem_cons_self b s hR
    obtain ⟨s2, e2, r2⟩ := for_fold e R step xs (fun y hy => h y (List.mem_cons_of_mem _ hy)) (step b x) s1 r1
    refine ⟨s2, ?_, r2⟩
    rw [List.map_cons, forLoop_step]
    rcases e1 with e1 | e1 <;> rw [e1] <;> exact e2
/-- a for loop by its index -/
theorem for_ix (e : α → D) (R : Nat → DS → Prop) (xs : List α) (h : ∀ k (hk : k < xs.length) s, R k s → ∃ s1, (stepF g u (e xs[k]) s = .nx s1 ∨ stepF g u (e xs[k]) s = .cnt s1) ∧ R (k + 1) s1) (s : DS) (h0 : R 0 s) : ∃ s1, forLoop g u (xs.map e) s = .nx s1 ∧ R xs.length s1 := by
  have := for_inv (g := g) (u := u) R (xs.map e) 0 (fun k hk s hR => by
    have hk' : k < xs.length := by simpa using hk
    rw [Nat.zero_add] at hR ⊢
    have := h k hk' s hR
    simpa using this) s h0
  simpa using this
end
theorem rngD0 (n : Nat) : rngD 0 n = (List.range n).map fun (i : Nat) => D.int (i : Int) := by
  unfold rngD
  apply List.map_congr_left
  intro a _
  rw [Int.zero_add]
theorem enumD_map {α : Type} (e : α → D) : ∀ (xs : List α) (k : Nat), enumD k (xs.map e) = (xs.zipIdx k).map fun q => .tup [.int (q.2 : Nat), e q.1]
  | [], _ => rfl
  | x :: xs, k => by rw [List.map_cons, enumD, enumD_map e xs, List.zipIdx_cons, List.map_cons]
theorem zip2D_map {α β : Type} (e : α → D) (f : β → D) : ∀ (xs : List α) (ys : List β), zip2D (xs.map e) (ys.map f) = (xs.zip ys).map fun q => .tup [e q.1, f q.2]
  | [], _ => by simp [zip2D]
  | _ :: _, [] => by simp [zip2D]
  | x :: xs, y :: ys => by
    have := zip2D_map e f xs ys
    unfold zip2D at this ⊢
    simp [this]
/-! a list of ints, somewhere: list or tuple -/
inductive Sq : D → List D → Prop where
  | l (ds : List D) : Sq (.lst ds) ds
  | t (ds : List D) : Sq (.tup ds) ds
theorem sqD_items {d : D} {ds : List D} (h : Sq d ds) : seqOf d = some ds := by cases h <;> rfl
@[simp] theorem atI_zero {α : Type} (a : α) (l : List α) : atI (a :: l) 0 = some a := by
  rw [atI_int _ _ ⟨by omega, by simp⟩]; rfl
/-! 1 << w -/
theorem shl_one {w : Int} (h0 : 0 ≤ w) (h1 : w ≤ 1000) : oShl (.int 1) (.int w) = some (.int (2 ^ w.toNat)) := by
  obtain ⟨n, rfl⟩ : ∃ n : Nat, w = (n : Int) := ⟨w.toNat, by omega⟩
  have hc : CShl 1 (n : Int) := shl_ok (n := 1) (by decide) (by omega)
  simp only [oShl, fII, cShl, dB_t hc, if_true]
  simp
end DL

set_option Elab.async false
set_option linter.all false
set_option autoImplicit false
set_option maxRecDepth 100000
namespace DL
variable [TQ]
open PySem PySem.Spec PyProof.Rows L2
/-! ### dicts by ints and texts -/
def keyOf : D → Option Key
  | .int i => some (.inl i)
  | .str x => some (.inr x)
  | _ => none
def dLook : List Key → List D → Key → Option D
  | k0 :: ks, d0 :: ds, k => if k0 = k then some d0 else dLook ks ds k
  | _, _, _ => none
def dPutK (ks : List Key) (k : Key) : List Key := if (ks.any fun k0 => decide (k0 = k)) = true then ks else ks ++ [k]
def dSet : List Key → List D → Key → D → List D
  | k0 :: ks, d0 :: ds, k, d => (if k0 = k then d else d0) :: dSet ks ds k d
  | _, _, _, _ => []
def dPutV (ks : List Key) (ds : List D) (k : Key) (d : D) : List D := if (ks.any fun k0 => decide (k0 = k)) = true then dSet ks ds k d else ds ++ [d]
section
variable {K : PySem.W.Frag} {O : Addr → Prop} {H : Hp}
theorem vw_key {d : D} {y : V} {k : Key} (v : Vw K O H d y) (e : keyOf d = some k) : y = L2.kV k := by
  cases d with
  | int i => cases e; exact vw_int v
  | str x => cases e; exact vw_str v
  | _ => cases e
theorem rep_key {d : D} {y : V} {k : Key} (v : Rep K O H d y) (e : keyOf d = some k) : y = L2.kV k := vw_key (.inl v) e
theorem vw_dic {ks : List Key} {ds : List D} {x : V} (v : Vw K O H (.dic ks ds) x) : ∃ a ws, x = .ref a ∧ H a = some (.dK ws) ∧ ws.map Prod.fst = ks ∧ RepL K O H ds (ws.map Prod.snd) := by
  rcases v with v | ⟨p, e, v⟩
  · simp only [Rep] at v
    obtain ⟨a, ws, e, _, h, q, r⟩ := v
    exact ⟨a, ws, e, h, q, r⟩
  · obtain ⟨ws, h, q, r⟩ := v
    exact ⟨p, ws, e, h, q, r⟩
theorem look_some : ∀ {ws : List (Key × V)} {ds : List D} {k : Key} {d : D}, RepL K O H ds (ws.map Prod.snd) → dLook (ws.map Prod.fst) ds k = some d → ∃ v, valV ws k = some v ∧ Rep K O H d v
  | [], ds, k, d, _, e => by cases ds <;> cases e
  | (k0, v0) :: ws, [], k, d, r, _ => by simp only [List.map_cons, RepL] at r; cases r
  | (k0, v0) :: ws, d0 :: ds, k, d, r, e => by
    simp only [List.map_cons, RepL] at r
    obtain ⟨x, t, ex, r1, r2⟩ := r
    cases ex
    simp only [List.map_cons, dLook] at e
    by_cases h : k0 = k
    · rw [if_pos h] at e; cases e
      exact ⟨v0, valV_pos h, r1⟩
    · rw [if_neg h] at e
      obtain ⟨v, e1, r3⟩ := look_some r2 e
      exact ⟨v, by rw [valV_neg h]; exact e1, r3⟩
theorem look_none : ∀ {ws : List (Key × V)} {ds : List D} {k : Key}, RepL K O H ds (ws.map Prod.snd) → dLook (ws.map Prod.fst) ds k = none → valV ws k = none
  | [], ds, k, _, e => rfl
  | (k0, v0) :: ws, [], k, r, _ => by simp only [List.map_cons, RepL] at r; cases r
  | (k0, v0) :: ws, d0 :: ds, k, r, e => by
    simp only [List.map_cons, RepL] at r
    obtain ⟨x, t, ex, r1, r2⟩ := r
    simp only [List.map_cons, dLook] at e
    by_cases h : k0 = k
    · rw [if_pos h] at e; cases e
    · rw [if_neg h] at e
      cases ex
      rw [valV_neg h]; exact look_none r2 e
theorem any_fst (ws : List (Key × V)) (k : Key) : (ws.any fun kv => decide (kv.1 = k)) = ((ws.map Prod.fst).any fun k0 => decide (k0 = k)) := by
  rw [List.any_map]; rfl
theorem set_rep {k : Key} {d : D} {v : V} (rd : Rep K O H d v) : ∀ {ws : List (Key × V)} {ds : List D}, RepL K O H ds (ws.map Prod.snd) → RepL K O H (dSet (ws.map Prod.fst) ds k d) ((ws.map fun kv => if kv.1 = k then (kv.1, v) else kv).map Prod.snd)
  | [], ds, r => by simp only [List.map_nil, dSet]; exact RepL.nil
  | (k0, v0) :: ws, [], r => by simp only [List.map_cons, RepL] at r; cases r
  | (k0, v0) :: ws, d0 :: ds, r => by
    simp only [List.map_cons, RepL] at r
    obtain ⟨x, t, ex, r1, r2⟩ := r
    cases ex
    simp only [List.map_cons, dSet]
    refine RepL.cons ?_ (set_rep rd r2)
    by_cases h : k0 = k
    · rw [if_pos h, if_pos h]; exact rd
    · rw [if_neg h, if_neg h]; exact r1
theorem put_rep {ws : List (Key × V)} {ds : List D} {k : Key} {d : D} {v : V} (r : RepL K O H ds (ws.map Prod.snd)) (rd : Rep K O H d v) : (putK ws k v).map Prod.fst = dPutK (ws.map Prod.fst) k ∧ RepL K O H (dPutV (ws.map Prod.fst) ds k d) ((putK ws k v).map Prod.snd) := by
  unfold putK dPutK dPutV
  rw [any_fst]
  by_cases h : ((ws.map Prod.fst).any fun k0 => decide (k0 = k)) = true
  · rw [if_pos h, if_pos h, if_pos h]
    refine ⟨?_, set_rep rd r⟩
    rw [List.map_map]
    apply List.map_congr_left
    intro p _
    show (if p.1 = k then (p.1, v) else p).1 = p.1
    split <;> rfl
  · rw [if_neg h, if_neg h, if_neg h, List.map_append, List.map_append]
    exact ⟨rfl, r.append (RepL.cons rd RepL.nil)⟩
end
section
variable {c : Ctx} {W : XW} {X : Cx} {e a b o f : Expr} {m m2 m3 : M D} {a1 : Arg} {pos pos' apos cpos : Pos} {i : Nat}
/-- {} -/
def mDict0 : M D := fun s => .ok (.dic [] []) s
theorem pxf_dict0 : PXF c W X (.Dict [] [] pos) mDict0 := PEimp pe_dnewK fun σ H Q ⟨s, pend, R, q⟩ => fun p hp => q (.ref p) _ (R.make hp fun O k => ⟨[], upd_same, rfl, RepL.nil⟩)
def isDc : Option D → Bool
  | some (.dic _ _) => true
  | _ => false
/-- d.get(k, x), d looked at -/
def dGetO (d1 d2 d3 : D) : Option D := match d1 with
  | .dic ks ds => (keyOf d2).map fun k => (dLook ks ds k).getD d3
  | _ => none
def mDGet2 (a1 : Arg) (m2 m3 : M D) : M D := fun s => (aEv a1 s).bind fun r1 s => if isDc (aGet r1 s) = false then .bad else (m2 s).bind fun d2 s => (m3 s).bind fun d3 s => lift ((aGet r1 s).bind fun d1 => dGetO d1 d2 d3) s
theorem isDc_at {o : Option D} (h : ¬ isDc o = false) : ∃ ks ds, o = some (.dic ks ds) := by
  cases o with
  | none => exact absurd rfl h
  | some d => cases d <;> first | exact ⟨_, _, rfl⟩ | exact absurd rfl h
theorem dget_ok {σ : L2.St} {H : Hp} {s : DS} {P : List PEnt} {x y z : V} {d1 d2 d3 d : D} {Q : VK} (R : Rel c σ H s P) (v1 : Vw c.K (Oof c σ s P) H d1 x) (r2 : Rep c.K (Oof c σ s P) H d2 y) (r3 : Rep c.K (Oof c σ s P) H d3 z) (e : dGetO d1 d2 d3 = some d)
    (q : ∀ v, Rel c σ H s ((v, false, d) :: P) → Q v H) : ∃ a o, x = .ref a ∧ DGet H a y o ∧ Q (o.getD z) H := by
  cases d1 with
  | dic ks ds =>
    simp only [dGetO] at e
    cases gk : keyOf d2 with
    | none => rw [gk] at e; cases e
    | some k =>
      rw [gk] at e
      obtain ⟨a, ws, ea, ha, hk, r⟩ := vw_dic v1
      have hy := rep_key r2 gk
      subst ea hy hk
      refine ⟨a, valV ws k, rfl, DGet.k ha, q _ ?_⟩
      cases gl : dLook (ws.map Prod.fst) ds k with
      | some d' =>
        simp only [Option.map, gl, Option.getD_some, Option.some.injEq] at e
        subst e
        obtain ⟨v, ev, rv⟩ := look_some r gl
        rw [ev]
        exact R.push rv
      | none =>
        simp only [Option.map, gl, Option.getD_none, Option.some.injEq] at e
        subst e
        rw [look_none r gl]
        exact R.push r3
  | _ => cases e
theorem px_dget2 (hu : X.A.units + 64 < cLine) (ho : PAg c W X o a1) (he : PX c W X e m2) (hf : PX c W X f m3)
    (hb : attributeBase o "get" X.env (eval o X.env) = eval o X.env := by rfl)
    (hfew : ((backTo cpos (starEach [e, f] X.env)).all (fun x => !x.1) && (backToKw cpos (keywordEach [] X.env)).all (fun x => x.1.isSome)
      && decide (([e, f] : List Expr).length + ([] : List Keyword).length + (if ([] : List Keyword).isEmpty then 0 else 1) < 30)) = true := by rfl)
    (hl : (apos.endLine == cpos.line) = true := by rfl) (ht : backTo cpos (starEach [e, f] X.env) = [(false, eval e X.env), (false, eval f X.env)] := by rfl) :
    PX c W X (.Call (.Attribute o "get" apos) [e, f] [] cpos) (mDGet2 a1 m2 m3) :=
  PEimp (pe_dget2 (Nat.lt_of_le_of_lt (by omega) hu) ho he hf ⟨hb, hfew, hl, ht⟩) fun σ H Q ⟨s, pend, R, q⟩ => by
    refine ⟨s, pend, R, q.bind.mono fun r1 s1 q1 x H1 e1 R1 => ?_⟩
    by_cases hD : isDc (aGet r1 s1) = false
    · rw [if_pos hD] at q1; exact q1.elim
    rw [if_neg hD] at q1
    obtain ⟨ks, ds, g⟩ := isDc_at hD
    obtain ⟨a, ws, ea, ha, _, _⟩ := vw_dic (R1.viewA g e1 fun e h => mem_aPend1 e h)
    refine ⟨a, ea, .inl ⟨ws, .inl ha⟩, s1, _, R1, q1.bind.mono fun d2 s2 q2 y H2 R2 => ⟨s2, _, R2, q2.bind.mono fun d3 s3 q3 z H3 R3 => ?_⟩⟩
    obtain ⟨d, hd, q4⟩ := q3.lift
    cases g1 : aGet r1 s3 with
    | none => rw [g1] at hd; cases hd
    | some d1 =>
      rw [g1] at hd
      have v1 := R3.viewA g1 e1 fun e h => List.mem_cons_of_mem _ (List.mem_cons_of_mem _ (mem_aPend1 e h))
      have r3 := R3.pd (z, false, d3) List.mem_cons_self
      have r2 := R3.pd (y, false, d2) (List.mem_cons_of_mem _ List.mem_cons_self)
      obtain ⟨a', o, ea', hg, hq⟩ := dget_ok (c := c.at X.K) (Q := Q) R3 v1 r2 r3 hd fun v R4 => q4 v H3 (R4.under.under.dropA)
      rw [ea] at ea'; cases ea'
      exact ⟨o, hg, hq⟩
/-- d.get(k), d looked at -/
def mDGet1 (a1 : Arg) (m2 : M D) : M D := fun s => (aEv a1 s).bind fun r1 s => if isDc (aGet r1 s) = false then .bad else (m2 s).bind fun d2 s => lift ((aGet r1 s).bind fun d1 => dGetO d1 d2 .non) s
theorem px_dget1 (hu : X.A.units + 64 < cLine) (ho : PAg c W X o a1) (he : PX c W X e m2)
    (hb : attributeBase o "get" X.env (eval o X.env) = eval o X.env := by rfl)
    (hfew : ((backTo cpos (starEach [e] X.env)).all (fun x => !x.1) && (backToKw cpos (keywordEach [] X.env)).all (fun x => x.1.isSome)
      && decide (([e] : List Expr).length + ([] : List Keyword).length + (if ([] : List Keyword).isEmpty then 0 else 1) < 30)) = true := by rfl)
    (hl : (apos.endLine == cpos.line) = true := by rfl) (ht : backTo cpos (starEach [e] X.env) = [(false, eval e X.env)] := by rfl) :
    PX c W X (.Call (.Attribute o "get" apos) [e] [] cpos) (mDGet1 a1 m2) :=
  PEimp (pe_dget1 (Nat.lt_of_le_of_lt (by omega) hu) ho he ⟨hb, hfew, hl, ht⟩) fun σ H Q ⟨s, pend, R, q⟩ => by
    refine ⟨s, pend, R, q.bind.mono fun r1 s1 q1 x H1 e1 R1 => ?_⟩
    by_cases hD : isDc (aGet r1 s1) = false
    · rw [if_pos hD] at q1; exact q1.elim
    rw [if_neg hD] at q1
    obtain ⟨ks, ds, g⟩ := isDc_at hD
    obtain ⟨a, ws, ea, ha, _, _⟩ := vw_dic (R1.viewA g e1 fun e h => mem_aPend1 e h)
    refine ⟨a, ea, .inl ⟨ws, .inl ha⟩, s1, _, R1, q1.bind.mono fun d2 s2 q2 y H2 R2 => ?_⟩
    obtain ⟨d, hd, q4⟩ := q2.lift
    cases g1 : aGet r1 s2 with
    | none => rw [g1] at hd; cases hd
    | some d1 =>
      rw [g1] at hd
      have v1 := R2.viewA g1 e1 fun e h => List.mem_cons_of_mem _ (mem_aPend1 e h)
      have r2 := R2.pd (y, false, d2) List.mem_cons_self
      obtain ⟨a', o, ea', hg, hq⟩ := dget_ok (c := c.at X.K) (Q := Q) R2 v1 r2 (d3 := .non) (z := .non) (by simp only [Rep]) hd fun v R4 => q4 v H2 (R4.under.dropA)
      rw [ea] at ea'; cases ea'
      exact ⟨o, hg, hq⟩
/-- d[k], d looked at -/
def dIxO (d1 d2 : D) : Option D := match d1 with
  | .dic ks ds => (keyOf d2).bind fun k => dLook ks ds k
  | _ => none
theorem od_dix {K : PySem.W.Frag} {σ : L2.St} {H : Hp} {s : DS} {P : List PEnt} {x y : V} {d1 d2 d : D} {Q : VK} (eK : c.K = K) (R : Rel c σ H s P) (v1 : Vw c.K (Oof c σ s P) H d1 x) (v2 : Vw c.K (Oof c σ s P) H d2 y) (e : dIxO d1 d2 = some d) (q : ∀ v, Rel c σ H s ((v, false, d) :: P) → Q v H) :
    ∃ a v, x = .ref a ∧ DGet H a y (some v) ∧ Q v H := by
  cases d1 with
  | dic ks ds =>
    simp only [dIxO] at e
    cases gk : keyOf d2 with
    | none => rw [gk] at e; cases e
    | some k =>
      rw [gk] at e
      obtain ⟨a, ws, ea, ha, hk, r⟩ := vw_dic v1
      have hy := vw_key v2 gk
      subst ea hy hk
      obtain ⟨v, ev, rv⟩ := look_some r (show dLook (ws.map Prod.fst) ds k = some d from e)
      exact ⟨a, v, rfl, by rw [← ev]; exact DGet.k ha, q v (R.push rv)⟩
  | _ => cases e
theorem px_dix {a2 : Arg} (hu : X.A.units + 64 < cLine) (ha : PAg c W X a a1) (hb : PAg c W X b a2) (hs : NoSl b := by exact fun _ _ => rfl) : PX c W X (.Subscript a b pos) (mOp2 dIxO a1 a2) :=
  PEimp (pe_dget (Nat.lt_of_le_of_lt (by omega) hu) ha hb hs) fun σ H Q h => by
    have h2 := T_op2 (c := c.at X.K) (r := fun x y H Q => ∃ a v, x = .ref a ∧ DGet H a y (some v) ∧ Q v H) (fun c' σ' H' s' P x y d1 d2 d Q' eK R v1 v2 e q => od_dix (c := c') eK R (by rw [eK]; exact v1) (by rw [eK]; exact v2) e fun v R' => q v H' R') h
    exact h2
/-- d[k] = x, d owned -/
def isOwD : Option Sl → Bool
  | some (.ow (.dic _ _)) => true
  | _ => false
def dPutS (k : Nat) (d : D) (s : DS) : Option Sl → Option Key → SRes
  | some (.ow (.dic ks ds)), some key => if ks.length < 100000 then .nx (s.set k (.ow (.dic (dPutK ks key) (dPutV ks ds key d)))) else .bad
  | _, _ => .bad
def sSetD (k : Nat) (mi m : M D) : SM := fun s => toS (m s) fun d s => if isOwD s[k]? = false then .bad else toS (mi s) fun di s => dPutS k d s s[k]? (keyOf di)
theorem isOwD_at {o : Option Sl} (h : ¬ isOwD o = false) : ∃ ks ds, o = some (Sl.ow (.dic ks ds)) := by
  cases o with
  | none => exact absurd rfl h
  | some x =>
    cases x with
    | ow d => cases d <;> first | exact ⟨_, _, rfl⟩ | exact absurd rfl h
    | _ => exact absurd rfl h
theorem ps_setDX {o oi : Expr} {mi : M D} (hu : X.A.units + 64 < cLine) (ho : PE X o (tVar i)) (hi : PX c W X oi mi) (h : PX c W X e m) (hs : swapsWith e (some (.Subscript o oi pos')) pos.line X.env = pure false := by rfl) :
    PSX c W X (.Assign [.Subscript o oi pos'] e pos) (sSetD i mi m) := PSimp (ps_dput (Nat.lt_of_le_of_lt (by omega) hu) ho hi h hs) fun D σ H ⟨s, pend, R, q⟩ => by
  refine ⟨s, pend, R, q.og.mono fun d s1 q1 v H1 R1 => ?_⟩
  by_cases hD : isOwD s1[i]? = false
  · rw [if_pos hD] at q1; exact q1.elim
  rw [if_neg hD] at q1
  obtain ⟨ks0, ds0, e0⟩ := isOwD_at hD
  obtain ⟨p0, ep0, ow0⟩ := R1.ow i _ e0
  refine ⟨.ref p0, ep0, s1, _, R1, (SG.og q1).mono fun di s2 q2 y H2 R2 => ?_⟩
  cases es : s2[i]? with
  | none => rw [es] at q2; exact q2.elim
  | some sl =>
    rw [es] at q2
    cases sl with
    | ow dd =>
      cases dd with
      | dic ks ds =>
        cases gk : keyOf di with
        | none => rw [gk] at q2; exact q2.elim
        | some key =>
          rw [gk] at q2
          simp only [dPutS] at q2
          by_cases hl : ks.length < 100000
          · rw [if_pos hl] at q2
            obtain ⟨pp, ep, ws, ex, hk, r⟩ := R2.ow i _ es
            rw [ep0] at ep; cases ep
            have hy := rep_key R2.head gk
            subst hy hk
            have hv : Rep _ _ H2 d v := R2.pd (v, false, d) (List.mem_cons_of_mem _ List.mem_cons_self)
            have hlen : ws.length < sizeLine := Nat.lt_of_lt_of_le (by rw [List.length_map] at hl; exact hl) (by decide)
            refine ⟨p0, _, rfl, DPut.k ex hlen, q2 _ _ ?_⟩
            exact (R2.writeS (d' := .dic (dPutK (ws.map Prod.fst) key) (dPutV (ws.map Prod.fst) ds key d)) es ep0 fun H' k' e' => ⟨_, e', (put_rep (r.mono k') (hv.mono k')).1, (put_rep (r.mono k') (hv.mono k')).2⟩).drop.drop
          · rw [if_neg hl] at q2; exact q2.elim
      | _ => exact q2.elim
    | _ => exact q2.elim
/-- d.setdefault(k, x), d owned -/
def dSetdS (k : Nat) (s : DS) (d3 : D) : Option Sl → Option Key → Ores D
  | some (.ow (.dic ks ds)), some key => if ks.length < 100000 then (match dLook ks ds key with
    | some d => .ok d s
    | none => .ok d3 (s.set k (.ow (.dic (dPutK ks key) (dPutV ks ds key d3))))) else .bad
  | _, _ => .bad
def mSetd (k : Nat) (m2 m3 : M D) : M D := fun s => if isOwD s[k]? = false then .bad else (m2 s).bind fun d2 s => (m3 s).bind fun d3 s => dSetdS k s d3 s[k]? (keyOf d2)
theorem px_setd (ho : PE X o (tVar i)) (he : PX c W X e m2) (hf : PX c W X f m3)
    (hb : attributeBase o "setdefault" X.env (eval o X.env) = eval o X.env := by rfl)
    (hfew : ((backTo cpos (starEach [e, f] X.env)).all (fun x => !x.1) && (backToKw cpos (keywordEach [] X.env)).all (fun x => x.1.isSome)
      && decide (([e, f] : List Expr).length + ([] : List Keyword).length + (if ([] : List Keyword).isEmpty then 0 else 1) < 30)) = true := by rfl)
    (hl : (apos.endLine == cpos.line) = true := by rfl) (ht : backTo cpos (starEach [e, f] X.env) = [(false, eval e X.env), (false, eval f X.env)] := by rfl) :
    PX c W X (.Call (.Attribute o "setdefault" apos) [e, f] [] cpos) (mSetd i m2 m3) :=
  PEimp (pe_dsetd ho he hf ⟨hb, hfew, hl, ht⟩) fun σ H Q ⟨s, pend, R, q⟩ => by
    unfold mSetd at q
    by_cases hD : isOwD s[i]? = false
    · rw [if_pos hD] at q; exact q.elim
    rw [if_neg hD] at q
    obtain ⟨ks0, ds0, e0⟩ := isOwD_at hD
    obtain ⟨p0, ep0, ws0, ex0, _⟩ := R.ow i _ e0
    refine ⟨.ref p0, ep0, p0, rfl, .inl ⟨ws0, .inl ex0⟩, s, pend, R, q.bind.mono fun d2 s2 q2 y H2 R2 => ⟨s2, _, R2, q2.bind.mono fun d3 s3 q3 z H3 R3 => ?_⟩⟩
    cases es : s3[i]? with
    | none => rw [es] at q3; exact q3.elim
    | some sl =>
      rw [es] at q3
      cases sl with
      | ow dd =>
        cases dd with
        | dic ks ds =>
          cases gk : keyOf d2 with
          | none => rw [gk] at q3; exact q3.elim
          | some key =>
            rw [gk] at q3
            simp only [dSetdS] at q3
            by_cases hlen : ks.length < 100000
            · rw [if_pos hlen] at q3
              obtain ⟨pp, ep, ws, ex, hk, r⟩ := R3.ow i _ es
              rw [ep0] at ep; cases ep
              have hy := rep_key (R3.pd (y, false, d2) (List.mem_cons_of_mem _ List.mem_cons_self)) gk
              subst hy hk
              have hz : Rep _ _ H3 d3 z := R3.pd (z, false, d3) List.mem_cons_self
              have hsz : ws.length < sizeLine := Nat.lt_of_lt_of_le (by rw [List.length_map] at hlen; exact hlen) (by decide)
              cases gl : dLook (ws.map Prod.fst) ds key with
              | some d =>
                rw [gl] at q3
                obtain ⟨v, ev, rv⟩ := look_some r gl
                refine ⟨ws, key, ex, rfl, hsz, fun v' hv' => ?_, fun hn => ?_⟩
                · rw [ev] at hv'; cases hv'
                  exact q3 v H3 ((R3.push rv).under.under)
                · rw [ev] at hn; cases hn
              | none =>
                rw [gl] at q3
                have en := look_none r gl
                refine ⟨ws, key, ex, rfl, hsz, fun v' hv' => ?_, fun _ => ?_⟩
                · rw [en] at hv'; cases hv'
                · have R4 := R3.writeS (d' := .dic (dPutK (ws.map Prod.fst) key) (dPutV (ws.map Prod.fst) ds key d3)) es ep0 fun H' k' e' => ⟨_, e', (put_rep (r.mono k') (hz.mono k')).1, (put_rep (r.mono k') (hz.mono k')).2⟩
                  exact q3 z _ R4.under
            · rw [if_neg hlen] at q3; exact q3.elim
        | _ => exact q3.elim
      | _ => exact q3.elim
end
/-! ### in, for data of any depth -/
def seqP : PyData → Option (List PyData)
  | .list ds => some ds
  | .tuple ds => some ds
  | _ => none
def inP (p : Option PyData) (q : Option PyData) : Option Bool := match p, q with
  | some p, some q => (seqP q).bind fun ds => if SeqAt.shaped p && SeqAt.shaped q then some (ds.any fun y => PyData.eqv y p) else none
  | _, _ => none
def bInA (d1 d2 : D) : Option Bool := orB (bIn d1 d2) (inP (toP d1) (toP d2))
def bNotInA (d1 d2 : D) : Option Bool := (bInA d1 d2).map (!·)
def rInD (K : PySem.W.Frag) (neg : Bool) : R2 := fun x y H Q => ∃ p q ds, Dp K H x p ∧ Dp K H y q ∧ seqP q = some ds ∧ SeqAt.shaped p = true ∧ SeqAt.shaped q = true ∧ Q (.bl (if neg = true then !(ds.any fun y => PyData.eqv y p) else ds.any fun y => PyData.eqv y p)) H
theorem depth_all (ds : List PyData) : PyData.depth (.list ds) = PyData.depthAll ds + 1 ∧ PyData.depth (.tuple ds) = PyData.depthAll ds + 1 := by constructor <;> simp only [PyData.depth]
theorem shaped_seq {q : PyData} {ds : List PyData} (e : seqP q = some ds) (h : SeqAt.shaped q = true) : PyData.plainAll ds = true ∧ PyData.depthAll ds ≤ 63 := by
  unfold SeqAt.shaped at h
  rw [Bool.and_eq_true] at h
  obtain ⟨h1, h2⟩ := h
  have h2 := of_decide_eq_true h2
  have hd := depth_all ds
  cases q with
  | list xs => cases e; rw [hd.1] at h2; exact ⟨PyData.plainAll_of_canLay0 _ (by simpa only [PyData.canLay0] using h1), by omega⟩
  | tuple xs => cases e; rw [hd.2] at h2; exact ⟨PyData.plainAll_of_canLay0 _ (by simpa only [PyData.canLay0] using h1), by omega⟩
  | _ => cases e
theorem shaped_plain {p : PyData} (h : SeqAt.shaped p = true) : PyData.plain p = true ∧ PyData.depth p ≤ 64 := by
  unfold SeqAt.shaped at h
  rw [Bool.and_eq_true] at h
  exact ⟨PyData.plain_of_canLay0 _ h.1, of_decide_eq_true h.2⟩
section
variable {X : Cx} {K : PySem.W.Frag}
theorem op_inD (hu : X.A.units + 64 < cLine) : OpR X (compareOp .In) (rInD X.K false) := fun pins s σ H x y v u Q I rx ry ⟨p, q, ds, h1, h2, e, s1, s2, hq⟩ => by
  obtain ⟨as, r1⟩ := Dp.reads I p x v h1 rx
  obtain ⟨bs, r2⟩ := Dp.reads I q y u h2 ry
  have ⟨p1, p2⟩ := shaped_plain s1
  have ⟨q1, q2⟩ := shaped_seq e s2
  have hk : X.A.units + 1 + min (PyData.depthAll ds) (PyData.depth p) < cLine := by
    have := Nat.min_le_left (PyData.depthAll ds) (PyData.depth p); omega
  cases q with
  | list xs => cases e; exact SeqAt.in_list_data r2 r1 q1 p1 hk ⟨.bl _, H, I, rfl, hq⟩
  | tuple xs => cases e; exact SeqAt.in_tuple_data r2 r1 q1 p1 hk ⟨.bl _, H, I, rfl, hq⟩
  | _ => cases e
theorem op_notInD (hu : X.A.units + 64 < cLine) : OpR X (compareOp .NotIn) (rInD X.K true) := fun pins s σ H x y v u Q I rx ry ⟨p, q, ds, h1, h2, e, s1, s2, hq⟩ => by
  obtain ⟨as, r1⟩ := Dp.reads I p x v h1 rx
  obtain ⟨bs, r2⟩ := Dp.reads I q y u h2 ry
  have ⟨p1, p2⟩ := shaped_plain s1
  have ⟨q1, q2⟩ := shaped_seq e s2
  have hk : X.A.units + 1 + min (PyData.depthAll ds) (PyData.depth p) < cLine := by
    have := Nat.min_le_left (PyData.depthAll ds) (PyData.depth p); omega
  cases q with
  | list xs => cases e; exact SeqAt.notIn_list_data r2 r1 q1 p1 hk ⟨.bl _, H, I, rfl, hq⟩
  | tuple xs => cases e; exact SeqAt.notIn_tuple_data r2 r1 q1 p1 hk ⟨.bl _, H, I, rfl, hq⟩
  | _ => cases e
def rInA (K : PySem.W.Frag) (neg : Bool) : R2 := fun x y H Q => rIn K neg x y H Q ∨ rInD K neg x y H Q
theorem op_inA (hu : X.A.units + 64 < cLine) : OpR X (compareOp .In) (rInA X.K false) := fun pins s σ H x y v u Q I rx ry h => by
  rcases h with h | h
  · exact op_in_seq pins s σ H x y v u Q I rx ry h
  · exact op_inD hu pins s σ H x y v u Q I rx ry h
theorem op_notInA (hu : X.A.units + 64 < cLine) : OpR X (compareOp .NotIn) (rInA X.K true) := fun pins s σ H x y v u Q I rx ry h => by
  rcases h with h | h
  · exact op_notIn_seq pins s σ H x y v u Q I rx ry h
  · exact op_notInD hu pins s σ H x y v u Q I rx ry h
theorem inP_ok {O : Addr → Prop} {H : Hp} {x y : V} {d1 d2 : D} {b : Bool} (v1 : Vw K O H d1 x) (v2 : Vw K O H d2 y) (e : inP (toP d1) (toP d2) = some b) : ∃ p q ds, Dp K H x p ∧ Dp K H y q ∧ seqP q = some ds ∧ SeqAt.shaped p = true ∧ SeqAt.shaped q = true ∧ (ds.any fun y => PyData.eqv y p) = b := by
  cases g1 : toP d1 with
  | none => rw [g1] at e; cases e
  | some p =>
    cases g2 : toP d2 with
    | none => rw [g1, g2] at e; cases e
    | some q =>
      rw [g1, g2] at e
      simp only [inP] at e
      cases g3 : seqP q with
      | none => rw [g3] at e; cases e
      | some ds =>
        rw [g3] at e
        simp only [Option.bind_some] at e
        by_cases hs : (SeqAt.shaped p && SeqAt.shaped q) = true
        · rw [if_pos hs] at e; cases e
          rw [Bool.and_eq_true] at hs
          exact ⟨p, q, ds, dp_vw v1 g1, dp_vw v2 g2, g3, hs.1, hs.2, rfl⟩
        · rw [if_neg hs] at e; cases e
theorem ob_inA : OpB2 K bInA (rInA K false) := fun O H x y d1 d2 b Q v1 v2 e q => by
  unfold bInA at e
  cases g : bIn d1 d2 with
  | some k => rw [g] at e; cases e; exact .inl (ob_in (K := K) O H x y d1 d2 b Q v1 v2 g q)
  | none =>
    rw [g] at e
    obtain ⟨p, r, ds, h1, h2, h3, h4, h5, h6⟩ := inP_ok v1 v2 e
    refine .inr ⟨p, r, ds, h1, h2, h3, h4, h5, ?_⟩
    simp only [Bool.false_eq_true, if_false]
    rw [h6]; exact q
theorem ob_notInA : OpB2 K bNotInA (rInA K true) := fun O H x y d1 d2 b Q v1 v2 e q => by
  unfold bNotInA at e
  cases g0 : bInA d1 d2 with
  | none => rw [g0] at e; cases e
  | some k0 =>
    rw [g0] at e; cases e
    unfold bInA at g0
    cases g : bIn d1 d2 with
    | some k =>
      rw [g] at g0; cases g0
      exact .inl (ob_notIn (K := K) O H x y d1 d2 _ Q v1 v2 (by unfold bNotIn; rw [g]; rfl) q)
    | none =>
      rw [g] at g0
      obtain ⟨p, r, ds, h1, h2, h3, h4, h5, h6⟩ := inP_ok v1 v2 g0
      refine .inr ⟨p, r, ds, h1, h2, h3, h4, h5, ?_⟩
      simp only [if_true]
      rw [h6]; exact q
end
@[simp] theorem orB_some (b : Bool) (o : Option Bool) : orB (some b) o = some b := rfl
@[simp] theorem bNotInA_run (d1 d2 : D) : bNotInA d1 d2 = (bInA d1 d2).map (!·) := rfl
theorem inA_of {d1 d2 : D} {b : Bool} (h : bIn d1 d2 = some b) : bInA d1 d2 = some b := by unfold bInA; rw [h]; rfl
theorem inA_int (v : Int) (xs : List Int) : bInA (.int v) (.lst (xs.map .int)) = some (decide (v ∈ xs)) := inA_of (bIn_ints v xs)
theorem inA_tup (v : Int) (xs : List Int) : bInA (.int v) (.tup (xs.map .int)) = some (decide (v ∈ xs)) := inA_of (by
  have h := bIn_ints v xs
  unfold bIn at h ⊢
  exact h)
theorem toPL_tups : ∀ yss : List (List Int), toPL (yss.map fun ys => D.tup (ys.map .int)) = some (yss.map fun ys => PyData.tuple (ys.map PyData.int))
  | [] => by simp only [List.map_nil, toPL]
  | ys :: yss => by simp only [List.map_cons, toPL, toP, toPL_ints ys, toPL_tups yss]; rfl
theorem dep_ints : ∀ xs : List Int, PyData.depthAll (xs.map PyData.int) = 0
  | [] => by simp only [List.map_nil, PyData.depthAll]
  | x :: xs => by simp only [List.map_cons, PyData.depthAll, PyData.depth, dep_ints xs]; rfl
theorem can_ints : ∀ xs : List Int, PyData.canLayAll0 (xs.map PyData.int) = true
  | [] => by simp only [List.map_nil, PyData.canLayAll0]
  | x :: xs => by simp only [List.map_cons, PyData.canLayAll0, PyData.canLay0, can_ints xs]; rfl
theorem dep_tups : ∀ yss : List (List Int), PyData.depthAll (yss.map fun ys => PyData.tuple (ys.map PyData.int)) ≤ 1
  | [] => by simp only [List.map_nil, PyData.depthAll]; omega
  | ys :: yss => by
    have := dep_tups yss
    simp only [List.map_cons, PyData.depthAll, PyData.depth, dep_ints ys]
    omega
theorem can_tups : ∀ yss : List (List Int), PyData.canLayAll0 (yss.map fun ys => PyData.tuple (ys.map PyData.int)) = true
  | [] => by simp only [List.map_nil, PyData.canLayAll0]
  | ys :: yss => by simp only [List.map_cons, PyData.canLayAll0, PyData.canLay0, can_ints ys, can_tups yss]; rfl
theorem shaped_tups (yss : List (List Int)) : SeqAt.shaped (.list (yss.map fun ys => PyData.tuple (ys.map PyData.int))) = true := by
  have h1 := can_tups yss
  have h2 := dep_tups yss
  have h3 := (depth_all (yss.map fun ys => PyData.tuple (ys.map PyData.int))).1
  unfold SeqAt.shaped
  rw [h3, Bool.and_eq_true]
  exact ⟨by simpa only [PyData.canLay0] using h1, decide_eq_true (by omega)⟩
/-- a tuple of ints in a list of such -/
theorem inA_tups (xs : List Int) (yss : List (List Int)) : bInA (.tup (xs.map .int)) (.lst (yss.map fun ys => D.tup (ys.map .int))) = some (decide (xs ∈ yss)) := by
  have h0 : bIn (.tup (xs.map .int)) (.lst (yss.map fun ys => D.tup (ys.map .int))) = none := rfl
  unfold bInA
  rw [h0]
  have h1 : toP (.tup (xs.map .int)) = some (.tuple (xs.map PyData.int)) := by simp only [toP, toPL_ints]; rfl
  have h2 : toP (.lst (yss.map fun ys => D.tup (ys.map .int))) = some (.list (yss.map fun ys => PyData.tuple (ys.map PyData.int))) := by simp only [toP, toPL_tups]; rfl
  rw [h1, h2]
  simp only [inP, seqP, Option.bind_some, shaped_tups, (shaped_ints xs).1, Bool.and_self, if_true]
  show some _ = some _
  congr 1
  rw [List.any_map]
  rw [Bool.eq_iff_iff, List.any_eq_true, decide_eq_true_iff]
  constructor
  · rintro ⟨ys, hy, e⟩
    have e' : PyData.eqv (.tuple (ys.map PyData.int)) (.tuple (xs.map PyData.int)) = true := e
    simp only [PyData.eqv, eqv_ints, decide_eq_true_iff] at e'
    exact e' ▸ hy
  · intro h
    exact ⟨xs, h, by show PyData.eqv (.tuple (xs.map PyData.int)) (.tuple (xs.map PyData.int)) = true; simp only [PyData.eqv, eqv_ints, decide_true]⟩
theorem toP_tups (yss : List (List Int)) : toP (.lst (yss.map fun ys => D.tup (ys.map .int))) = some (.list (yss.map fun ys => PyData.tuple (ys.map PyData.int))) := by simp only [toP, toPL_tups]; rfl
theorem eqA_tups (xss yss : List (List Int)) : bEqA (.lst (xss.map fun ys => D.tup (ys.map .int))) (.lst (yss.map fun ys => D.tup (ys.map .int))) = some (decide (xss = yss)) := by
  unfold bEqA
  show eqP (toP _) (toP _) = _
  rw [toP_tups, toP_tups]
  simp only [eqP, shaped_tups, Bool.and_self, if_true, PyData.eqv]
  congr 1
  induction xss generalizing yss with
  | nil => cases yss <;> simp [PyData.eqvAll]
  | cons x xs ih =>
    cases yss with
    | nil => simp [PyData.eqvAll]
    | cons y ys =>
      simp only [List.map_cons, PyData.eqvAll, PyData.eqv, eqv_ints, ih ys]
      by_cases h : x = y <;> by_cases h2 : xs = ys <;> simp [h, h2]
end DL

set_option Elab.async false
set_option linter.all false
set_option autoImplicit false
set_option maxRecDepth 100000
namespace DL
variable [TQ]
open PySem PySem.Spec PyProof.Rows L2
/-! ### sorted(d.items()), keys and values whole numbers -/
def viewOb (d : Addr) : Obj := { cls := .type "dict_items", data := .fields #[.ref d] }
def ltI (k : Value → Int × Int) : Value → Value → Bool := fun v u => SrtO.lexB (k v) (k u)
/-- the pair that the j-th of these addresses holds -/
def kOf (as : List Addr) (ps : List (Int × Int)) : Value → Int × Int
  | .ref a => ps.getD (as.idxOf a) (0, 0)
  | _ => (0, 0)
section
variable {prog : Program} {w : World} {A : Around} {E : Value → Shared → Prop} {s : Shared}
theorem call_items {d : Addr} {o : Obj} {Q : Value → Shared → Prop} (ho : s.heap.get? d = some o) (hx : o.ExactDict) (hs : (d == sysModules) = false) (h : Q (.ref s.heap.objs.size) { s with heap := s.heap.push (viewOb d) }) :
    wpAny (model prog w) A (call (.builtin "dict.items") [.ref d]) Q E s := by
  refine wpAny_call_entry PySem.F.slot_dict_items ⟨o, ho, hx.1⟩ PySem.F.entry_dict_items ?_ (PySem.F.args_dict_items_1 _)
  unfold Builtin.«dict.items» Builtin.Dict.noArgs
  refine wpAny_bind ?_
  refine wpAny_bind (wpAny_notOrdered_dict ⟨o, ho, hx.1⟩ ?_)
  refine wpAny_bind ?_
  show wpAny _ _ (pure ()) _ _ _
  refine wpAny_pure ?_
  refine wpAny_bind ?_
  show wpAny _ _ (pure (Value.ref d)) _ _ _
  refine wpAny_pure ?_
  show wpAny _ _ (pure d) _ _ _
  refine wpAny_pure ?_
  refine wpAny_bind ?_
  unfold Builtin.Dict.showsAll
  rw [if_neg (by rw [hs]; decide)]
  refine wpAny_pure ?_
  refine wpAny_bind ?_
  unfold newFields
  refine wpAny_newObj_type ?_ (by show (1 : Nat) ≤ sizeLine + 2; decide)
  exact wpAny_pure ⟨_, rfl, h⟩
theorem sorted_items {r d : Addr} {kvs : List (Key × Value)} {ep : Nat} {ps : List (Int × Int)} {Q : Value → Shared → Prop} (hh : A.handled = none) (hv : s.heap.IsItemsView r d) (hd : s.heap.DictAt (mixKind prog w) d kvs ep) (hz : kvs.length ≤ sizeLine)
    (hp : ∀ (j : Nat) (k : Key) (x : Value), kvs[j]? = some (k, x) → ∃ (p : Int × Int) (t : Tok), ps[j]? = some p ∧ k = Sum.inl p.1 ∧ x = Value.int p.2 t)
    (h : ∀ (h₁ h' : Heap) (tk : Nat) (as : List Addr) (out : List Value) (l : Addr), (∀ b o, s.heap.get? b = some o → h₁.get? b = some o) → as.length = kvs.length → PySem.W.KdxG (mixKind prog w) kvs s.heap.objs.size h₁ as → SrtO.Srtd (ltI (kOf as ps)) out → SrtO.Stb (ltI (kOf as ps)) out (as.map .ref) →
      (∀ b o, h₁.get? b = some o → h'.get? b = some o) → h₁.objs.size ≤ l → (∃ n, h'.get? l = some (seqObj "list" out.toArray n)) → Q (.ref l) { s with heap := h', toks := tk }) :
    wpAny (model prog w) A (call (.builtin "sorted") [.ref r]) Q E s := by
  refine call_function_entry_kw kind_sorted plain_sorted entry_sorted (args_sorted1 _) ?_
  unfold Builtin.«sorted»
  refine wpAny_bind (m := checkCount "sorted" 1 1 _) (wpAny_pure ?_)
  refine wpAny_bind (PySem.W.kdx_collect (A := A.in1) hh hv hd hz fun h₁ tk as hk hlen G => ?_)
  have hzs : (as.map Value.ref).length ≤ sizeLine := by rw [List.length_map, hlen]; exact hz
  refine wpAny_bind (wpAny_newList ?_ hzs)
  have hoL : (h₁.push (seqObj "list" (as.map Value.ref).toArray 0)).get? h₁.objs.size = some (seqObj "list" (as.map Value.ref).toArray 0) := Heap.get?_push_size _ rfl
  have kp : ∀ b o, h₁.get? b = some o → b ≠ h₁.objs.size ∧ (h₁.push (seqObj "list" (as.map Value.ref).toArray 0)).get? b = some o := fun b o q => ⟨Nat.ne_of_lt (Heap.lt_size q), Heap.get?_push_of_some _ q⟩
  have nd : as.Nodup := G.rise.imp fun {a b} (h : a < b) => Nat.ne_of_lt h
  have O : SrtO.Swo (ltI (kOf as ps)) := SrtO.swo_lex _
  show wpAny _ _ _ _ _ { s with heap := h₁.push (seqObj "list" (as.map Value.ref).toArray 0), toks := tk }
  refine wpAny_bind (wpAny_holding (wpAny_call_entry slot_list_sort ⟨_, hoL, rfl⟩ entry_list_sort (SrtO.list_sort_ord O hoL hzs (fun h2 => SrtO.pairs_sortableO (by omega) (fun v hv => ?_) fun o ho => ?_) fun out hs hb => ⟨_, rfl, wpAny_pure ⟨_, rfl, h h₁ _ tk as out h₁.objs.size hk hlen G hs hb (fun b o q => ?_) (Nat.le_refl _) (sortedHeap_at hoL)⟩⟩) (args_list_sort _)))
  · obtain ⟨a, ha, rfl⟩ := List.mem_map.mp hv
    obtain ⟨j, hj⟩ := List.getElem?_of_mem ha
    obtain ⟨key, k, x, e1, e2, e3⟩ := G.pairs j a hj
    obtain ⟨p, t, e4, rfl, rfl⟩ := hp j k x e1
    have e7 : ∃ t', key = .int p.1 t' := by
      rw [mixKind_is] at e2
      unfold keyIs at e2
      cases key with
      | int i t' => 
        refine ⟨t', ?_⟩
        have : i = p.1 := by simpa [Value.isInt] using e2
        rw [this]
      | _ => simp [Value.isInt] at e2
    obtain ⟨t', rfl⟩ := e7
    have e8 : kOf as ps (.ref a) = p := by
      unfold kOf
      have hjl := (List.getElem?_eq_some_iff.mp hj).1
      have e9 : as.idxOf a = j := by
        rw [← (List.getElem?_eq_some_iff.mp hj).2]
        exact nd.idxOf_getElem j hjl
      simp only [e9, List.getD_eq_getElem?_getD, e4, Option.getD_some]
    rw [e8]
    exact ⟨a, _, t', t, _, rfl, (kp a _ e3).2, rfl, rfl⟩
  · rw [show ({ s with heap := h₁.push (seqObj "list" (as.map Value.ref).toArray 0), toks := tk } : Shared).heap = h₁.push (seqObj "list" (as.map Value.ref).toArray 0) from rfl, hoL] at ho
    cases ho
    intro z
    injection z with z
    exact absurd z (by decide)
  · rw [sortedHeap_old (kp b o q).1 (Heap.lt_size (kp b o q).2)]
    exact (kp b o q).2
end
/-! sorting pairs -/
def insP (p : Int × Int) : List (Int × Int) → List (Int × Int)
  | [] => [p]
  | q :: qs => if SrtO.lexB q p = true then q :: insP p qs else p :: q :: qs
def sortP : List (Int × Int) → List (Int × Int)
  | [] => []
  | p :: ps => insP p (sortP ps)
def LeP (p q : Int × Int) : Prop := SrtO.lexB q p = false
theorem leP_iff {p q : Int × Int} : LeP p q ↔ p.1 < q.1 ∨ p.1 = q.1 ∧ p.2 ≤ q.2 := by
  unfold LeP
  rw [SrtO.lexB_no]
  omega
theorem insP_perm (p : Int × Int) : ∀ qs, (insP p qs).Perm (p :: qs)
  | [] => List.Perm.refl _
  | q :: qs => by
    unfold insP
    split
    · exact (List.Perm.cons q (insP_perm p qs)).trans (List.Perm.swap _ _ _)
    · exact List.Perm.refl _
theorem sortP_perm : ∀ ps, (sortP ps).Perm ps
  | [] => List.Perm.refl _
  | p :: ps => (insP_perm p _).trans (List.Perm.cons p (sortP_perm ps))
theorem insP_sorted (p : Int × Int) : ∀ qs, qs.Pairwise LeP → (insP p qs).Pairwise LeP
  | [], _ => by simp [insP]
  | q :: qs, h => by
    have h' := List.pairwise_cons.mp h
    unfold insP
    split
    · rename_i c
      refine List.pairwise_cons.mpr ⟨fun z hz => ?_, insP_sorted p qs h'.2⟩
      rcases List.mem_cons.mp ((insP_perm p qs).mem_iff.mp hz) with rfl | hz
      · rw [SrtO.lexB_iff] at c; rw [leP_iff]; omega
      · exact h'.1 z hz
    · rename_i c
      refine List.pairwise_cons.mpr ⟨fun z hz => ?_, h⟩
      have c' : LeP p q := by unfold LeP; simpa using c
      rcases List.mem_cons.mp hz with rfl | hz
      · exact c'
      · have := h'.1 z hz
        rw [leP_iff] at *; omega
theorem sortP_sorted : ∀ ps, (sortP ps).Pairwise LeP
  | [] => List.Pairwise.nil
  | p :: ps => insP_sorted p _ (sortP_sorted ps)
theorem sortedP_one : ∀ {xs ys : List (Int × Int)}, xs.Perm ys → xs.Pairwise LeP → ys.Pairwise LeP → xs = ys
  | [], ys, h, _, _ => (List.nil_perm.mp h).symm
  | x :: xs, ys, h, hx, hy => by
    cases ys with
    | nil => exact absurd h.length_eq (by simp)
    | cons y ys =>
      have hx' := List.pairwise_cons.mp hx
      have hy' := List.pairwise_cons.mp hy
      have e : x = y := by
        have h1 : y ∈ x :: xs := h.mem_iff.mpr List.mem_cons_self
        have h2 : x ∈ y :: ys := h.mem_iff.mp List.mem_cons_self
        rcases List.mem_cons.mp h1 with h1 | h1
        · exact h1.symm
        · rcases List.mem_cons.mp h2 with h2 | h2
          · exact h2
          · have h3 := hx'.1 y h1
            have h4 := hy'.1 x h2
            rw [leP_iff] at h3 h4
            apply Prod.ext <;> omega
      subst e
      rw [sortedP_one (List.Perm.cons_inv h) hx'.2 hy'.2]
section
variable {X : Cx} {pins : List (Addr × Obj)} {σ : L2.St} {H : Hp} {s : Shared} {h' : Heap} {tk : Nat}
theorem tups_laid (I : Inv X pins σ H s) (hk : ∀ b o, s.heap.get? b = some o → h'.get? b = some o) {as : List Addr} {kvs : List (Key × V)} (hlen : as.length = kvs.length) (nd : as.Nodup) (hge : ∀ a ∈ as, s.heap.objs.size ≤ a)
    (ht : ∀ (j : Nat) (a : Addr), as[j]? = some a → ∃ key kv x, kvs[j]? = some kv ∧ RelV (L2.kV kv.1) key ∧ RelV kv.2 x ∧ h'.get? a = some { cls := .type "tuple", data := .seq #[key, x] }) :
    Inv X pins σ (LiI.putT H as kvs) { s with heap := h', toks := tk } := by
  have old : ∀ b, (∃ o, s.heap.get? b = some o) → LiI.putT H as kvs b = H b := fun b ⟨o, hb⟩ => LiI.putT_off as kvs H fun z => Nat.lt_irrefl _ (Nat.lt_of_lt_of_le (Heap.lt_size hb) (hge b z))
  have oldH : ∀ b o, H b = some o → LiI.putT H as kvs b = some o := fun b o hb => by
    rw [LiI.putT_off as kvs H fun z => ?_]
    · exact hb
    · exact Nat.lt_irrefl _ (Nat.lt_of_lt_of_le (I.hok.lt hb) (hge b z))
  have at_ := LiI.putT_at as kvs H hlen nd
  refine I.call' rfl (ch := []) ⟨fun b o h _ _ _ => hk b o h, fun b o h _ _ _ => ⟨o.slots, hk b o h⟩, fun b o h n _ => by rw [old b ⟨o, h⟩]; exact n, fun b o h _ => ⟨o, hk b o h⟩, fun b xs h => oldH b _ h, fun b o u h => oldH b _ h, fun b ps h => ⟨#[], by rw [oldH b _ h]; simp⟩⟩ (fun a o ha => ?_) I.bare (fun b hb => nomatch hb)
  by_cases hm : a ∈ as
  · obtain ⟨j, q, e1, e2, e3⟩ := LiI.paired_ix at_ hm
    obtain ⟨key, kv, x, e4, r1, r2, e5⟩ := ht j a e1
    rw [e2] at e4
    cases e4
    rw [ha] at e3
    cases e3
    rw [ObjOk.eq_2]
    exact ⟨by show 2 ≤ sizeLine; decide, [key, x], .cons r1 (.cons r2 .nil), _, e5, rfl, 0, rfl⟩
  · rw [LiI.putT_off as kvs H hm] at ha
    exact (I.hok a o ha).stay (fun b u _ hb => hk b u hb) (fun b hb => oldH b _ hb) (fun b xs hb => oldH b _ hb)
def isView (p d : Addr) : Heap → Prop := fun h => h.get? p = some (viewOb d)
theorem mt_itemsK : MtR X "dict.items" fun x xs H Q => ∃ (d : Addr) (kvs : List (Key × V)), x = .ref d ∧ xs = [] ∧ H d = some (.dK kvs) ∧ ∀ p, H p = none → Q (.ref p) (upd H p (.ext (isView p d))) := by
  intro pins s σ H x xs v us Q I r rs ⟨d, kvs, ex, exs, hd, q⟩
  subst ex exs
  cases rs
  obtain rfl : v = .ref d := r
  have ok := I.hok d _ hd
  rw [ObjOk.eq_3] at ok
  obtain ⟨hz, hs, vs, kv, o, es, ep, ho, hx, _⟩ := ok
  refine call_items ho hx hs ?_
  have hp : H s.heap.objs.size = none := I.hok.fresh (Nat.le_refl _)
  have hg : (s.heap.push (viewOb d)).get? s.heap.objs.size = some (viewOb d) := Heap.get?_push_size _ rfl
  refine ⟨.ref s.heap.objs.size, _, I.laid (t' := s.toks) (fun b u hb => Heap.get?_push_of_some _ hb) (Nat.le_refl _) ?_, rfl, q _ hp⟩
  rw [ObjOk.eq_13]
  exact ⟨hg, ⟨_, hg⟩, fun h1 h2 h3 h4 => h4 _ h3⟩
theorem kOf_at {as : List Addr} {ps : List (Int × Int)} {j : Nat} {a : Addr} {p : Int × Int} (nd : as.Nodup) (hj : as[j]? = some a) (e : ps[j]? = some p) : kOf as ps (.ref a) = p := by
  unfold kOf
  have hjl := (List.getElem?_eq_some_iff.mp hj).1
  have e9 : as.idxOf a = j := by
    rw [← (List.getElem?_eq_some_iff.mp hj).2]
    exact nd.idxOf_getElem j hjl
  simp only [e9, List.getD_eq_getElem?_getD, e, Option.getD_some]
theorem paired_map {α β : Type} {F : α → β → Prop} (g : α → β) : ∀ (ts : List α), (∀ t ∈ ts, F t (g t)) → Paired F ts (ts.map g)
  | [], _ => .nil
  | t :: ts, h => .cons (h t (by simp)) (paired_map g ts fun u hu => h u (by simp [hu]))
def addrOf : Value → Addr
  | .ref a => a
  | _ => 0
/-- the pairs of a dict of whole numbers -/
def kvI (ps : List (Int × Int)) : List (Key × V) := ps.map fun p => (Sum.inl p.1, V.int p.2)
theorem cr_sortItems (hc : X.calm = true) : CallR X (.builtin "sorted") fun vs H Q => ∃ (r d : Addr) (ps : List (Int × Int)), vs = [.ref r] ∧ H r = some (.ext (isView r d)) ∧ H d = some (.dK (kvI ps)) ∧
    ∀ (H' : Hp) (l : Addr) (ts : List Addr), (∀ b o, H b = some o → H' b = some o) → H l = none → (∀ t ∈ ts, H t = none) → H' l = some (.lst (ts.map V.ref)) → Paired (fun t p => H' t = some (.tup [V.int p.1, V.int p.2])) ts (sortP ps) → Q (.ref l) H' := by
  intro pins s σ H vs us Q I r ⟨rv, d, ps, ev, hr, hd, q⟩
  subst ev
  rw [Vals.ref1 r]
  have ok := I.hok d _ hd
  rw [ObjOk.eq_3] at ok
  obtain ⟨hz, hs, kvs, kv, o, es, ep, ho, hx, h1, h2, h3, h4⟩ := ok
  have okr := I.hok rv _ hr
  rw [ObjOk.eq_13] at okr
  have hlk : (kvI ps).length = kvs.length := by
    unfold L2.KV at kv
    exact paired_len kv
  have hlp : (kvI ps).length = ps.length := by unfold kvI; simp
  have hget : ∀ (j : Nat) (k : Key) (x : Value), kvs[j]? = some (k, x) → ∃ (p : Int × Int) (t : Tok), ps[j]? = some p ∧ k = Sum.inl p.1 ∧ x = Value.int p.2 t := by
    intro j k x e
    have hj : j < ps.length := by rw [← hlp, hlk]; exact (List.getElem?_eq_some_iff.mp e).1
    have e1 : (kvI ps)[j]? = some (Sum.inl ps[j].1, V.int ps[j].2) := by unfold kvI; rw [List.getElem?_map, List.getElem?_eq_getElem hj]; rfl
    obtain ⟨y, e2, e3, e4⟩ := LiI.paired_get kv e1
    rw [e] at e2; cases e2
    obtain ⟨t, rfl⟩ : ∃ t, x = Value.int ps[j].2 t := e4
    exact ⟨ps[j], t, List.getElem?_eq_getElem hj, e3.symm, rfl⟩
  refine sorted_items (I.ok.hd hc) ⟨_, okr.1, rfl, rfl⟩ ⟨o, es, ho, hx, h1, h2, h3, h4⟩ (by rw [← hlk]; exact hz) hget fun h₁ h' tk as out l hk hlen G hs1 hs2 hk2 hl hob => ?_
  have nd : as.Nodup := G.rise.imp fun {a b} (h : a < b) => Nat.ne_of_lt h
  have hge : ∀ a ∈ as, s.heap.objs.size ≤ a := fun a ha => Nat.le_of_lt (G.above a ha)
  have hlen' : as.length = (kvI ps).length := by rw [hlen, hlk]
  have I1 : Inv X pins σ (LiI.putT H as (kvI ps)) { s with heap := h₁, toks := tk } := tups_laid I hk hlen' nd hge fun j a ha => by
    obtain ⟨key, k, x, e1, e2, e3⟩ := G.pairs j a ha
    obtain ⟨p, t, e4, rfl, rfl⟩ := hget j k x e1
    refine ⟨key, (Sum.inl p.1, V.int p.2), .int p.2 t, by unfold kvI; rw [List.getElem?_map, e4]; rfl, ?_, ⟨t, rfl⟩, e3⟩
    rw [mixKind_is] at e2
    unfold keyIs at e2
    cases key with
    | int i t' =>
      have : i = p.1 := by simpa [Value.isInt] using e2
      rw [this]; exact ⟨t', rfl⟩
    | _ => simp [Value.isInt] at e2
  have oldH : ∀ b o, H b = some o → LiI.putT H as (kvI ps) b = some o := fun b o hb => by
    rw [LiI.putT_off as (kvI ps) H fun z => ?_]
    · exact hb
    · exact Nat.lt_irrefl _ (Nat.lt_of_lt_of_le (I.hok.lt hb) (hge b z))
  have hne : ∀ b o, LiI.putT H as (kvI ps) b = some o → b ≠ l := fun b o hb z => by
    subst z
    exact Nat.lt_irrefl _ (Nat.lt_of_lt_of_le (I1.hok.lt hb) hl)
  have hmem : ∀ v ∈ out, ∃ a ∈ as, v = .ref a := fun v hv => by
    obtain ⟨a, ha, e⟩ := List.mem_map.mp (hs2.perm.mem_iff.mp hv)
    exact ⟨a, ha, e.symm⟩
  have hout : (out.map addrOf).map Value.ref = out := by
    rw [List.map_map]
    conv => rhs; rw [← List.map_id out]
    apply List.map_congr_left
    intro v hv
    obtain ⟨a, _, rfl⟩ := hmem v hv
    rfl
  have hperm : (out.map addrOf).Perm as := by
    have := hs2.perm.map addrOf
    rw [List.map_map] at this
    rwa [show as.map (addrOf ∘ Value.ref) = as from (List.map_congr_left fun a _ => rfl).trans (List.map_id as)] at this
  generalize hts : out.map addrOf = ts at hout hperm
  have hP : as.map (fun t => kOf as ps (.ref t)) = ps := by
    apply List.ext_getElem?
    intro j
    rw [List.getElem?_map]
    cases e : as[j]? with
    | none =>
      have : ps.length ≤ j := by
        rw [← hlp, ← hlen']; exact List.getElem?_eq_none_iff.mp e
      rw [List.getElem?_eq_none this]; rfl
    | some a =>
      have hj : j < ps.length := by rw [← hlp, ← hlen']; exact (List.getElem?_eq_some_iff.mp e).1
      have e2 := List.getElem?_eq_getElem hj
      rw [e2, Option.map_some, kOf_at nd e e2]
  have hsort : ts.map (fun t => kOf as ps (.ref t)) = sortP ps := by
    refine sortedP_one ?_ ?_ (sortP_sorted ps)
    · have := hperm.map fun t => kOf as ps (.ref t)
      rw [hP] at this
      exact this.trans (sortP_perm ps).symm
    · rw [List.pairwise_map]
      rw [← hout] at hs1
      have h8 : List.Pairwise (fun x y => ltI (kOf as ps) y x = false) (ts.map Value.ref) := hs1
      have h9 : List.Pairwise (fun x y => ltI (kOf as ps) (.ref y) (.ref x) = false) ts := by rwa [List.pairwise_map] at h8
      exact h9
  have I2 : Inv X pins σ (upd (LiI.putT H as (kvI ps)) l (.lst (ts.map V.ref))) { s with heap := h', toks := tk } := I1.laid (t' := tk) hk2 hl (by
    rw [ObjOk.eq_1]
    obtain ⟨n, hob⟩ := hob
    refine ⟨?_, out, n, ?_, hob⟩
    · rw [List.length_map, hperm.length_eq, hlen']; exact hz
    · rw [← hout]; exact LiI.vals_refs ts)
  refine ⟨.ref l, _, I2, rfl, q _ l ts (fun b o hb => ?_) ?_ (fun t ht => I.hok.fresh (hge t (hperm.mem_iff.mp ht))) upd_same ?_⟩
  · rw [upd_ne (hne b o (oldH b o hb))]; exact oldH b o hb
  · cases e : H l with
    | none => rfl
    | some o => exact absurd rfl (hne l o (oldH l o e))
  · rw [← hsort]
    refine paired_map _ ts fun t ht => ?_
    obtain ⟨j, kv, e1, e2, e3⟩ := LiI.paired_ix (LiI.putT_at as (kvI ps) H hlen' nd) (hperm.mem_iff.mp ht)
    rw [upd_ne (hne t _ e3), e3]
    have hj : j < ps.length := by rw [← hlp]; exact (List.getElem?_eq_some_iff.mp e2).1
    have e4 : (kvI ps)[j]? = some (Sum.inl ps[j].1, V.int ps[j].2) := by unfold kvI; rw [List.getElem?_map, List.getElem?_eq_getElem hj]; rfl
    rw [e2] at e4
    cases e4
    rw [kOf_at nd e1 (List.getElem?_eq_getElem hj)]
    rfl
end
end DL

set_option Elab.async false
set_option linter.all false
set_option autoImplicit false
set_option maxRecDepth 100000
namespace DL
variable [TQ]
open PySem PySem.Spec PyProof.Rows L2
/-! ### sorted(d.items()), list.count, over data; what dicts tell -/
def pairsOf : List Key → List D → Option (List (Int × Int))
  | [], [] => some []
  | .inl k :: ks, .int v :: ds => (pairsOf ks ds).map fun ps => (k, v) :: ps
  | _, _ => none
def pairD (p : Int × Int) : D := .tup [.int p.1, .int p.2]
def oItemsS : D → Option D
  | .dic ks ds => (pairsOf ks ds).map fun ps => .lst ((sortP ps).map pairD)
  | _ => none
section
variable {K : PySem.W.Frag} {O : Addr → Prop} {H : Hp}
theorem pairsOf_rep : ∀ {ws : List (Key × V)} {ds : List D} {ps : List (Int × Int)}, pairsOf (ws.map Prod.fst) ds = some ps → RepL K O H ds (ws.map Prod.snd) → ws = kvI ps
  | [], [], ps, e, _ => by cases e; rfl
  | [], _ :: _, ps, e, _ => by cases e
  | (k, v) :: ws, [], ps, e, _ => by cases k <;> cases e
  | (.inr k, v) :: ws, d :: ds, ps, e, _ => by cases d <;> cases e
  | (.inl k, v) :: ws, d :: ds, ps, e, r => by
    cases d with
    | int n =>
      simp only [List.map_cons, pairsOf] at e
      cases g : pairsOf (ws.map Prod.fst) ds with
      | none => rw [g] at e; cases e
      | some qs =>
        rw [g] at e
        cases e
        simp only [List.map_cons, RepL] at r
        obtain ⟨x, t, ex, r1, r2⟩ := r
        cases ex
        simp only [Rep] at r1
        subst r1
        rw [pairsOf_rep g r2]
        rfl
    | _ => cases e
def rItemsS (K : PySem.W.Frag) : V → Hp → VK → Prop := fun x H Q => tyV K "dict" x H ∧ ∃ (d : Addr) (kvs : List (Key × V)), x = .ref d ∧ ([] : List V) = [] ∧ H d = some (.dK kvs) ∧ ∀ p, H p = none → ∃ (r d' : Addr) (ps : List (Int × Int)), [V.ref p] = [V.ref r] ∧ upd H p (.ext (isView p d)) r = some (.ext (isView r d')) ∧ upd H p (.ext (isView p d)) d' = some (.dK (kvI ps)) ∧
    ∀ (H' : Hp) (l : Addr) (ts : List Addr), (∀ b o, upd H p (.ext (isView p d)) b = some o → H' b = some o) → upd H p (.ext (isView p d)) l = none → (∀ t ∈ ts, upd H p (.ext (isView p d)) t = none) → H' l = some (.lst (ts.map V.ref)) → Paired (fun t q => H' t = some (.tup [V.int q.1, V.int q.2])) ts (sortP ps) → Q (.ref l) H'
theorem pairs_rep {O : Addr → Prop} {H' : Hp} : ∀ {ts : List Addr} {qs : List (Int × Int)}, (∀ t ∈ ts, ¬ O t) → Paired (fun t q => H' t = some (.tup [V.int q.1, V.int q.2])) ts qs → RepL K O H' (qs.map pairD) (ts.map V.ref)
  | [], [], _, _ => by simp only [List.map_nil, RepL]
  | [], _ :: _, _, h => by cases h
  | _ :: _, [], _, h => by cases h
  | t :: ts, q :: qs, hO, h => by
    cases h with
    | cons h1 h2 =>
      simp only [List.map_cons]
      refine RepL.cons ?_ (pairs_rep (fun u hu => hO u (by simp [hu])) h2)
      unfold pairD
      simp only [Rep, RepL]
      refine ⟨t, _, rfl, .inl ⟨hO t (by simp), .inl h1⟩, _, _, rfl, rfl, _, _, rfl, rfl, rfl⟩
theorem of_itemsS : OpF1 K oItemsS (rItemsS K) := fun c σ H s pend x d1 d Q eK R v1 e q => by
  cases d1 with
  | dic ks ds =>
    simp only [oItemsS] at e
    cases g : pairsOf ks ds with
    | none => rw [g] at e; cases e
    | some ps =>
      rw [g] at e
      cases e
      obtain ⟨a, ws, ea, ha, hk, r⟩ := vw_dic v1
      subst ea hk
      have hws := pairsOf_rep g r
      subst hws
      refine ⟨.inr (.inr (.inl ⟨rfl, .inl ⟨_, ha⟩⟩)), a, _, rfl, rfl, ha, fun p hp => ⟨p, a, ps, rfl, upd_same, ?_, fun H' l ts hH hl hts h1 h2 => ?_⟩⟩
      · rw [upd_ne (fun z => by rw [z, hp] at ha; cases ha)]; exact ha
      · have hlp : l ≠ p := fun z => by rw [z, upd_same] at hl; cases hl
        rw [upd_ne hlp] at hl
        have hold : ∀ b o, H b = some o → H' b = some o := fun b o hb => hH b o (by rw [upd_ne (fun z => by rw [z, hp] at hb; cases hb)]; exact hb)
        refine q _ _ (R.calledF (.of R.tabs hold) hl ⟨ts.map V.ref, h1, pairs_rep (fun t ht z => ?_) h2⟩)
        have ht2 := hts t ht
        have htp : t ≠ p := fun z => by rw [z, upd_same] at ht2; cases ht2
        rw [upd_ne htp] at ht2
        rcases z with z | z
        · exact R.trackedO z ht2
        · obtain ⟨j, y, _, _, e3⟩ := LiI.paired_ix h2 ht
          rw [z, h1] at e3; cases e3
  | _ => cases e
variable {c : Ctx} {W : XW} {X : Cx} {e o : Expr} {a1 : Arg} {p q apos cpos pos : Pos}
/-- sorted(d.items()) -/
theorem pxf_itemsS (hc : X.calm = true) (hm : X.mg "sorted" = none) (ho : PAg c W X e a1) (hg : Gl X "sorted" := by rfl)
    (hbase : attributeBase e "items" X.env (eval e X.env) = eval e X.env := by rfl) (hline : (apos.endLine == cpos.line) = true := by rfl)
    (hs : starEach [.Call (.Attribute e "items" apos) [] [] cpos] X.env = (false, eval (.Call (.Attribute e "items" apos) [] [] cpos) X.env) :: starEach [] X.env := by rfl) (hpl : (backTo pos (starEach [] X.env)).any (·.1) = false := by rfl) :
    PXF c W X (.Call (.Name "sorted" p) [.Call (.Attribute e "items" apos) [] [] cpos] [] pos) (mOp1 oItemsS a1) :=
  PEimp (pe_callB (cr_sortItems hc) hg hm (by decide +kernel) (pa_cons (pe_bm0 PySem.F.plainAttrs_dict PySem.F.slot_dict_items PySem.F.type_dict_items mt_itemsK ho hbase hline) pa_nil hs) (by decide) (by decide) hs hpl) fun σ H Q h => TF_op1 (c := c.at X.K) of_itemsS h
/-- xs.count(k), whole numbers -/
def oCount (d1 d2 : D) : Option D := match d2 with
  | .int k => ((lstOf d1).bind intsOf).map fun ns => .int ((ns.count k : Nat) : Int)
  | _ => none
theorem od_count : OpD2 K oCount fun x y H Q => rCntI K x [y] H Q := fun c σ H s pend x y d1 d2 d Q eK R v1 v2 e q => by
  unfold oCount at e
  cases d2 with
  | int k =>
    simp only at e
    cases g : lstOf d1 with
    | none => rw [g] at e; cases e
    | some ds =>
      rw [g, Option.bind_some] at e
      cases g2 : intsOf ds with
      | none => rw [g2] at e; cases e
      | some ns =>
        rw [g2] at e; cases e
        obtain ⟨a, xs, ea, hq, r⟩ := vw_sql v1 g
        rw [intsOf_spec g2] at r
        rw [rep_ints r] at hq
        exact ⟨a, ns, k, ea, by rw [vw_int v2], hq, q _ H (R.push (by simp only [Rep]))⟩
  | _ => cases e
end
/-! ### how they are worked out -/
section
variable (s : DS) (m m2 m3 mi : M D) (a1 : Arg) (r1 : AV) (d d1 d2 d3 : D) (k : Nat) (ks : List Key) (ds : List D)
@[simp] theorem mDict0_run : mDict0 s = .ok (.dic [] []) s := rfl
def kDGc (r1 : AV) (d2 d3 : D) (s : DS) : Ores D := lift ((aGet r1 s).bind fun d1 => dGetO d1 d2 d3) s
def kDGb (r1 : AV) (m3 : M D) (d2 : D) (s : DS) : Ores D := (m3 s).bind (kDGc r1 d2)
def kDGa (r1 : AV) (m2 m3 : M D) (b : Bool) (s : DS) : Ores D := if b = false then .bad else (m2 s).bind (kDGb r1 m3)
def kDG (m2 m3 : M D) (r1 : AV) (s : DS) : Ores D := kDGa r1 m2 m3 (isDc (aGet r1 s)) s
@[simp] theorem kDGc_run : kDGc r1 d2 d3 s = lift (oo1 (fun d1 => dGetO d1 d2 d3) (aGet r1 s)) s := by unfold kDGc; rw [oo1_eq]
@[simp] theorem kDGb_run : kDGb r1 m3 d2 s = (m3 s).bind (kDGc r1 d2) := rfl
@[simp] theorem kDGa_run : kDGa r1 m2 m3 true s = (m2 s).bind (kDGb r1 m3) := rfl
@[simp] theorem kDG_run : kDG m2 m3 r1 s = kDGa r1 m2 m3 (isDc (aGet r1 s)) s := rfl
@[simp] theorem mDGet2_run : mDGet2 a1 m2 m3 s = (aEv a1 s).bind (kDG m2 m3) := rfl
@[simp] theorem isDc_dic : isDc (some (.dic ks ds)) = true := rfl
def kDG1b (r1 : AV) (d2 : D) (s : DS) : Ores D := lift ((aGet r1 s).bind fun d1 => dGetO d1 d2 .non) s
def kDG1a (r1 : AV) (m2 : M D) (b : Bool) (s : DS) : Ores D := if b = false then .bad else (m2 s).bind (kDG1b r1)
def kDG1 (m2 : M D) (r1 : AV) (s : DS) : Ores D := kDG1a r1 m2 (isDc (aGet r1 s)) s
@[simp] theorem kDG1b_run : kDG1b r1 d2 s = lift (oo1 (fun d1 => dGetO d1 d2 .non) (aGet r1 s)) s := by unfold kDG1b; rw [oo1_eq]
@[simp] theorem kDG1a_run : kDG1a r1 m2 true s = (m2 s).bind (kDG1b r1) := rfl
@[simp] theorem kDG1_run : kDG1 m2 r1 s = kDG1a r1 m2 (isDc (aGet r1 s)) s := rfl
@[simp] theorem mDGet1_run : mDGet1 a1 m2 s = (aEv a1 s).bind (kDG1 m2) := rfl
@[simp] theorem isOwD_dic : isOwD (some (.ow (.dic ks ds))) = true := rfl
def kSDb (k : Nat) (di : D) (d : D) (s : DS) : SRes := dPutS k d s s[k]? (keyOf di)
def kSDc (k : Nat) (d : D) (di : D) (s : DS) : SRes := dPutS k d s s[k]? (keyOf di)
def kSDa (k : Nat) (mi : M D) (d : D) (b : Bool) (s : DS) : SRes := if b = false then .bad else toS (mi s) (kSDc k d)
def kSD (k : Nat) (mi : M D) (d : D) (s : DS) : SRes := kSDa k mi d (isOwD s[k]?) s
@[simp] theorem kSDc_run : kSDc k d d1 s = dPutS k d s s[k]? (keyOf d1) := rfl
@[simp] theorem kSDa_run : kSDa k mi d true s = toS (mi s) (kSDc k d) := rfl
@[simp] theorem kSD_run : kSD k mi d s = kSDa k mi d (isOwD s[k]?) s := rfl
@[simp] theorem sSetD_run : sSetD k mi m s = toS (m s) (kSD k mi) := rfl
@[simp] theorem keyOf_int (i : Int) : keyOf (.int i) = some (.inl i) := rfl
@[simp] theorem keyOf_str (x : Str) : keyOf (.str x) = some (.inr x) := rfl
@[simp] theorem dPutS_ok (key : Key) (h : ks.length < 100000) : dPutS k d s (some (.ow (.dic ks ds))) (some key) = .nx (s.set k (.ow (.dic (dPutK ks key) (dPutV ks ds key d)))) := if_pos h
end
/-! dicts of whole numbers -/
def dicI (ps : List (Int × Int)) : D := .dic (ps.map fun p => .inl p.1) (ps.map fun p => .int p.2)
def getI (ps : List (Int × Int)) (k : Int) : Option Int := (ps.find? fun p => decide (p.1 = k)).map Prod.snd
def putI (ps : List (Int × Int)) (k v : Int) : List (Int × Int) := if (ps.any fun p => decide (p.1 = k)) = true then ps.map (fun p => if p.1 = k then (p.1, v) else p) else ps ++ [(k, v)]
theorem dLook_I : ∀ (ps : List (Int × Int)) (k : Int), dLook (ps.map fun p => (Sum.inl p.1 : Key)) (ps.map fun p => D.int p.2) (.inl k) = (getI ps k).map D.int
  | [], k => rfl
  | p :: ps, k => by
    have ih := dLook_I ps k
    simp only [List.map_cons, dLook]
    unfold getI at ih ⊢
    by_cases h : p.1 = k
    · rw [if_pos (by rw [h])]; simp [h]
    · rw [if_neg (fun z => h (by injection z)), ih]; simp [h]
theorem any_I (ps : List (Int × Int)) (k : Int) : ((ps.map fun p => (Sum.inl p.1 : Key)).any fun k0 => decide (k0 = Sum.inl k)) = ps.any fun p => decide (p.1 = k) := by
  rw [List.any_map]
  congr 1
  funext p
  simp
theorem dSet_I : ∀ (ps : List (Int × Int)) (k v : Int), dSet (ps.map fun p => (Sum.inl p.1 : Key)) (ps.map fun p => D.int p.2) (.inl k) (.int v) = (ps.map fun p => if p.1 = k then (p.1, v) else p).map fun p => D.int p.2
  | [], k, v => rfl
  | p :: ps, k, v => by
    have ih := dSet_I ps k v
    simp only [List.map_cons, dSet, ih]
    congr 1
    by_cases h : p.1 = k
    · rw [if_pos (by rw [h]), if_pos h]
    · rw [if_neg (fun z => h (by injection z)), if_neg h]
theorem dPut_I (ps : List (Int × Int)) (k v : Int) : D.dic (dPutK (ps.map fun p => (Sum.inl p.1 : Key)) (.inl k)) (dPutV (ps.map fun p => (Sum.inl p.1 : Key)) (ps.map fun p => D.int p.2) (.inl k) (.int v)) = dicI (putI ps k v) := by
  unfold dicI putI dPutK dPutV
  rw [any_I]
  by_cases h : (ps.any fun p => decide (p.1 = k)) = true
  · rw [if_pos h, if_pos h, if_pos h, dSet_I]
    congr 1
    rw [List.map_map]
    apply List.map_congr_left
    intro p _
    show (Sum.inl p.1 : Key) = Sum.inl (if p.1 = k then (p.1, v) else p).1
    split <;> rfl
  · rw [if_neg h, if_neg h, if_neg h]
    simp
theorem dGetO_I (ps : List (Int × Int)) (k : Int) (d : D) : dGetO (dicI ps) (.int k) d = some (((getI ps k).map D.int).getD d) := by
  unfold dGetO dicI
  simp only [keyOf, Option.map_some, dLook_I]
theorem pairsOf_I : ∀ ps : List (Int × Int), pairsOf (ps.map fun p => (Sum.inl p.1 : Key)) (ps.map fun p => D.int p.2) = some ps
  | [] => rfl
  | p :: ps => by simp only [List.map_cons, pairsOf, pairsOf_I ps, Option.map_some]
theorem oItemsS_I (ps : List (Int × Int)) : oItemsS (dicI ps) = some (.lst ((sortP ps).map pairD)) := by
  show (pairsOf _ _).map _ = _
  rw [pairsOf_I, Option.map_some]
theorem oCount_lst (ns : List Int) (k : Int) : oCount (.lst (ns.map .int)) (.int k) = some (.int ((ns.count k : Nat) : Int)) := by
  unfold oCount
  simp only [lstOf, Option.bind_some, intsOf_map, Option.map_some]
end DL

set_option Elab.async false
set_option linter.all false
set_option autoImplicit false
set_option maxRecDepth 100000
namespace DL
variable [TQ]
open PySem PySem.Spec PyProof.Rows L2
/-! ### own errors: raise, calls that may raise, try -/
abbrev CV := Str → Value
def toL (c : Ctx) (K : PySem.W.Frag) (cv : CV) (Wl : WX) (e : Ex) (s : DS) : Prop := ∀ σ H pend, Rel (c.at K) σ H s pend → Wl (cv e.name) none σ H
def sRaise (nm : Str) : SM := fun s => .ex ⟨nm, []⟩ s
def mCallX (F : List D → FRes) (as : List Arg) : M D := fun s => (mArgs as s).bind fun avs s => (lift (getL avs s) s).bind fun ds s =>
  match F ds with
  | .ok d _ => .ok d s
  | .ex e _ => .ex e s
  | .bad => .bad
def spX (K : PySem.W.Frag) (cv : CV) (io fr : Bool) (ks : List Bool) (F : List D → FRes) : Sp := fun vs H Q E => ∃ (ds : List D) (O : Addr → Prop) (ioa : Option Addr), ioa.isSome = io ∧ OOk O H ∧ ArgsOk K O H ks ioa ds vs ∧
  match F ds with
  | .ok d t => ∀ v H', FrameOk H H' ioa → ResOk K O H H' d v fr → IoOk K O H' ioa t → Q v H'
  | .ex e t => ∀ H', FrameOk H H' ioa → IoOk K O H' ioa t → E (cv e.name) none H'
  | .bad => False
theorem spX_len {K : PySem.W.Frag} {cv : CV} {io fr : Bool} {ks : List Bool} {F : List D → FRes} {vs : List V} {H : Hp} {Q : VK} {E : XK} (h : spX K cv io fr ks F vs H Q E) : vs.length = ks.length + (if io then 1 else 0) := by
  obtain ⟨ds, O, ioa, e, _, h, _⟩ := h
  rw [← e]
  exact h.len
theorem Rel.dropAll {c : Ctx} {σ : L2.St} {H : Hp} {s : DS} : ∀ {pend : List PEnt}, Rel c σ H s pend → Rel c σ H s []
  | [], R => R
  | _ :: _, R => R.drop.dropAll
section
variable {c : Ctx} {W : XW} {X : Cx} {cv : CV} {Wl : WX} {e a b : Expr} {es : List Expr} {m : M D} {pos pos' p np : Pos} {x nm : Str} {i k : Nat} {as : List Arg} {G : List D → FRes} {ks : List Bool} {u u1 u2 : SM} {st : Stmt} {rest body suite : List Stmt} {b₀ : Stmt}
theorem ps_raiseX (hc : X.calm = true) (tk : Takes X Wl) (hW : ∀ e s, W e s → toL c X.K cv Wl e s) (he : PMk X e fun _ H Q => Q (cv nm) none H) : PSX c W X (.Raise (some e) none pos) (sRaise nm) :=
  PSimp (ps_raise hc tk he) fun D σ H ⟨s, pend, R, q⟩ => hW _ _ q σ H pend R
theorem T_callX {σ : L2.St} {H : Hp} {Q : VK} (hW : ∀ e s, W e s → toL c c.K cv Wl e s) (hk : kindOk ks as = true) (h : T c W (mCallX G as) σ H Q) : tCallS (spX c.K cv false false ks G) (WE Wl) (TAs c W as) σ H Q := by
  obtain ⟨s, pend, R, q⟩ := h
  refine ⟨s, pend, R, q.bind.monoE fun avs s1 em q1 xs H1 e1 R1 => ?_⟩
  obtain ⟨ds, hd, q2⟩ := q1.bind.lift
  refine ⟨ds, Oof c σ s1 (aPends avs xs pend), none, rfl, R1.ook, arg_all R1 hd (mArgs_kind em hk) e1 (fun e h => h) (fun j d v _ h1 h2 => (R1.viewS h1 h2).imp (fun h => h) fun ⟨p, e, r⟩ => ⟨p, e, (fun z => nomatch z), r⟩), ?_⟩
  cases hG : G ds with
  | bad => rw [hG] at q2; exact q2.elim
  | ex e t =>
    rw [hG] at q2
    intro H' hf _
    exact hW e s1 q2 σ H' _ (R1.same hf)
  | ok d t =>
    rw [hG] at q2
    intro v H' hf hr _
    exact q2 v H' ((R1.same hf).push (hr : Rep _ _ _ _ _)).dropAs
theorem TF_callX {σ : L2.St} {H : Hp} {Q : VK} (hW : ∀ e s, W e s → toL c c.K cv Wl e s) (hk : kindOk ks as = true) (h : TF c W (mCallX G as) σ H Q) : tCallS (spX c.K cv false true ks G) (WE Wl) (TAs c W as) σ H Q := by
  obtain ⟨s, pend, R, q⟩ := h
  refine ⟨s, pend, R, q.bind.monoE fun avs s1 em q1 xs H1 e1 R1 => ?_⟩
  obtain ⟨ds, hd, q2⟩ := q1.bind.lift
  refine ⟨ds, Oof c σ s1 (aPends avs xs pend), none, rfl, R1.ook, arg_all R1 hd (mArgs_kind em hk) e1 (fun e h => h) (fun j d v _ h1 h2 => (R1.viewS h1 h2).imp (fun h => h) fun ⟨p, e, r⟩ => ⟨p, e, (fun z => nomatch z), r⟩), ?_⟩
  cases hG : G ds with
  | bad => rw [hG] at q2; exact q2.elim
  | ex e t =>
    rw [hG] at q2
    intro H' hf _
    exact hW e s1 q2 σ H' _ (R1.same hf)
  | ok d t =>
    rw [hG] at q2
    intro v H' hf hr _
    obtain ⟨p, e2, hp, r⟩ := hr
    subst e2
    exact q2 _ H' (R1.calledF hf hp r).dropAsT
/-- f(a, ..) of a def that may raise -/
theorem px_callX {f : Addr} {fd : FuncData} {ps : List Str} (F : FnOk X.prog X.w X.K X.mg X.base (CX X.prog X.w) k f fd ps (spX X.K cv false false ks G)) (hr : Room k X.A) (hm : X.mg x = some (.ref f)) (hk : PySem.W.keepIn X.K (.ref f) = true) (hb : Binds X.K fd ps [])
    (tk : Takes X Wl) (hW : ∀ e s, W e s → toL c X.K cv Wl e s)
    (ha : PAs c W X (e :: es) as) (ho : kindOk ks as = true := by rfl) (hg : Gl X x := by rfl) (hdb : (x == ("__debug__" : Str)) = false := by decide) (he : starEach (e :: es) X.env = (false, eval e X.env) :: starEach es X.env := by rfl) (hpl : (backTo pos (starEach es X.env)).any (·.1) = false := by rfl) :
    PX c W X (.Call (.Name x p) (e :: es) [] pos) (mCallX G as) := PEimp (pe_callS F hr hg hm hk hb (fun σ => passAt tk σ) ha hdb he hpl) fun σ H Q h => T_callX (c := c.at X.K) hW ho h
theorem pxf_callX {f : Addr} {fd : FuncData} {ps : List Str} (F : FnOk X.prog X.w X.K X.mg X.base (CX X.prog X.w) k f fd ps (spX X.K cv false true ks G)) (hr : Room k X.A) (hm : X.mg x = some (.ref f)) (hk : PySem.W.keepIn X.K (.ref f) = true) (hb : Binds X.K fd ps [])
    (tk : Takes X Wl) (hW : ∀ e s, W e s → toL c X.K cv Wl e s)
    (ha : PAs c W X (e :: es) as) (ho : kindOk ks as = true := by rfl) (hg : Gl X x := by rfl) (hdb : (x == ("__debug__" : Str)) = false := by decide) (he : starEach (e :: es) X.env = (false, eval e X.env) :: starEach es X.env := by rfl) (hpl : (backTo pos (starEach es X.env)).any (·.1) = false := by rfl) :
    PXF c W X (.Call (.Name x p) (e :: es) [] pos) (mCallX G as) := PEimp (pe_callS F hr hg hm hk hb (fun σ => passAt tk σ) ha hdb he hpl) fun σ H Q h => TF_callX (c := c.at X.K) hW ho h
/-! statements where nothing is pending -/
def TSt0 (c : Ctx) (W : XW) (m : SM) : TS := fun D σ H => ∃ s, Rel c σ H s [] ∧ SG c W D [] (m s)
def PSX0 (c : Ctx) (W : XW) (X : Cx) (st : Stmt) (m : SM) : Prop := PS X st (TSt0 (c.at X.K) W m)
def PSsX0 (c : Ctx) (W : XW) (X : Cx) (st : List Stmt) (m : SM) : Prop := PSs X st (TSt0 (c.at X.K) W m)
theorem PSX.to0 (h : PSX c W X st u) : PSX0 c W X st u := PSimp h fun D σ H ⟨s, R, q⟩ => ⟨s, [], R, q⟩
theorem PSsX.to0 (h : PSsX c W X rest u) : PSsX0 c W X rest u := PSsimp h fun D σ H ⟨s, R, q⟩ => ⟨s, [], R, q⟩
theorem pss_cons0 (h1 : PSX0 c W X st u1) (h2 : PSsX0 c W X rest u2) : PSsX0 c W X (st :: rest) (sSeq u1 u2) := PSsimp (pss_cons h1 h2) fun D σ H ⟨s, R, q⟩ => by
  refine ⟨s, R, ?_⟩
  unfold sSeq at q
  cases e : u1 s with
  | bad => rw [e] at q; exact q
  | nx s1 => rw [e] at q; exact fun σ' H' R' => ⟨s1, R', q⟩
  | brk s1 => rw [e] at q; exact q
  | cnt s1 => rw [e] at q; exact q
  | ret d s1 => rw [e] at q; exact q
  | ex d s1 => rw [e] at q; exact q
theorem pss_one0 (h1 : PSX0 c W X st u1) : PSsX0 c W X [st] u1 := pss_one h1
/-- try: .. except C: .. ; what is not of C leaves -/
def sTry (mt : Str → Bool) (u1 u2 : SM) : SM := fun s => match u1 s with
  | .ex e s' => if mt e.name then u2 s' else .ex e s'
  | r => r
theorem ps_try0 {mt : Str → Bool} {cc : Value} (hs : X.stack = X.env :: X.outer) (hf : X.env.frame = some X.env.locals) (hc : Names X x cc) (tk : Takes X Wl) (hW : ∀ e s, W e s → toL c X.K cv Wl e s)
    (hm : ∀ nm, PySem.W.exmOne X.K (cv nm) cc = some (mt nm))
    (hb : ∀ (W2 : WX) (pn : List (Addr × Obj)) (xe : Value → Shared → Prop), Takes (X.tr pn xe) W2 → PassesOwn (model X.prog X.w) X.A X.env xe → PSsX0 c (toL c X.K cv W2) (X.tr pn xe) body u1)
    (hsu : ∀ (a : Addr) (oe : Obj) (cls : Value) (d : Option Addr) (pn : List (Addr × Obj)), PSsX0 c W (X.suite a ((a, oe) :: pn)) (b₀ :: suite) u2) :
    PSX0 c W X (.Try body [.ExceptHandler (some (.Name x np)) none (b₀ :: suite) pos'] [] [] pos) (sTry mt u1 u2) :=
  PSimp (ps_try_only (tb := fun W2 => TSt0 (c.at X.K) (toL c X.K cv W2) u1) (ts := fun _ _ _ => TSt0 (c.at X.K) W u2) hs hf hc tk (fun W2 pn xe t2 pa => hb W2 pn xe t2 pa) (fun a oe cls d pn _ _ => hsu a oe cls d pn)) fun D σ H ⟨s, R, q⟩ => by
    refine ⟨s, R, ?_⟩
    unfold sTry at q
    cases e1 : u1 s with
    | bad => rw [e1] at q; exact q
    | nx s1 => rw [e1] at q; exact q
    | brk s1 => rw [e1] at q; exact q
    | cnt s1 => rw [e1] at q; exact q
    | ret d s1 => rw [e1] at q; exact q
    | ex ee s1 =>
      rw [e1] at q
      simp only at q
      intro σ' H' pend' R'
      refine ⟨mt ee.name, hm _, fun hb a ha => ⟨s1, R'.dropAll, ?_⟩, fun hb => ?_⟩
      · rw [if_pos hb] at q; exact q
      · rw [if_neg (by rw [hb]; decide)] at q
        exact hW _ _ q σ' H' pend' R'
end
/-! the rules for defs -/
def fnResX (io : Bool) (fr : Bool) : SRes → FRes
  | .ret d s => match ioCont io s with
    | some t => .ok d t
    | none => .bad
  | .nx s => if fr then .bad else match ioCont io s with
    | some t => .ok .non t
    | none => .bad
  | .ex e s => match ioCont io s with
    | some t => .ex e t
    | none => .bad
  | _ => .bad
/-- for a def that may raise -/
theorem dfnX {P : Program} {w : World} {K : PySem.W.Frag} {mg : Str → Option Value} {base : Heap} {x qual : Str} {st : Stmt} {f : Addr} {fd : FuncData} {N ps : List Str} {k : Nat} {ks : List Bool} {io fr : Bool} {G : List D → FRes} {cv : CV}
    (F : Fun K x qual st f fd) (S : FnScope N ps (defScope st)) (u : SM) (hps : ps.length = ks.length + (if io then 1 else 0))
    (hb : ∀ (c : Ctx) (W : XW) (cdv : Value) (A : Around) (outer : List Env) (s : Shared) (H : Hp) (E : XK), (io = true ∨ c.io = none) → c.fr = fr → Room k (A.deeper (envOfC qual (defScope st) s.heap.objs.size f cdv)) →
      (∀ e s, W e s → toL c K cv (fun cls d _ H => E cls d H) e s) →
      PSsX0 c W (cxOf (CX P w) P w K mg base N qual (defScope st) f cdv A outer s H E) (defBody st) u)
    (hG : ∀ ds, G ds = .bad ∨ G ds = fnResX io fr (u (initS io ks N.length ds))) : FnOk P w K mg base (CX P w) (k + 1) f fd ps (spX K cv io fr ks G) := by
  refine F.okX S (fun vs H Q E h => ?_) (fun cdv A outer s H vs Q E hr h => ?_)
  · rw [hps]; exact spX_len h
  · obtain ⟨ds, O, ioa, hio, hO, ha, hq⟩ := h
    have hl := ha.len
    have hN : vs.length ≤ N.length := by
      have := congrArg List.length S.pre
      rw [List.length_take] at this
      rw [hl, hio, ← hps]
      omega
    refine ⟨_, hb { K := K, H0 := H, O0 := O, io := ioa, fr := fr } (fun e s => toL { K := K, H0 := H, O0 := O, io := ioa, fr := fr } K cv (fun cls d _ H => E cls d H) e s) cdv A outer s H E (by
      cases ioa with
      | none => exact .inr rfl
      | some p => exact .inl hio.symm) rfl hr (fun _ _ h => h), initS io ks N.length ds, ?_, ?_⟩
    · rw [← hio]
      exact rel_start hO ha hN
    · rcases hG ds with h2 | h2
      · rw [h2] at hq; exact hq.elim
      · rw [h2] at hq
        cases eu : u (initS io ks N.length ds) with
        | bad => rw [eu] at hq; exact hq.elim
        | brk s1 => rw [eu] at hq; exact hq.elim
        | cnt s1 => rw [eu] at hq; exact hq.elim
        | ex e s1 =>
          rw [eu] at hq
          simp only [fnResX] at hq
          cases ei : ioCont io s1 with
          | none => rw [ei] at hq; exact hq.elim
          | some t =>
            rw [ei] at hq
            intro σ' H' pend R
            exact hq H' ⟨R.frame, R.tabs⟩ (io_ok R (by show ioCont ioa.isSome s1 = some t; rw [hio]; exact ei))
        | ret d s1 =>
          rw [eu] at hq
          simp only [fnResX] at hq
          cases ei : ioCont io s1 with
          | none => rw [ei] at hq; exact hq.elim
          | some t =>
            rw [ei] at hq
            intro v σ' H' R
            exact hq v H' ⟨R.frame, R.tabs⟩ (res_ok R) (io_ok R (by show ioCont ioa.isSome s1 = some t; rw [hio]; exact ei))
        | nx s1 =>
          rw [eu] at hq
          simp only [fnResX] at hq
          cases fr with
          | true => exact hq.elim
          | false =>
            cases ei : ioCont io s1 with
            | none => rw [ei] at hq; exact hq.elim
            | some t =>
              rw [ei] at hq
              intro σ' H' R
              exact hq .non H' ⟨R.frame, R.tabs⟩ (by show Rep _ _ _ _ _; simp only [Rep]) (io_ok R (by show ioCont ioa.isSome s1 = some t; rw [hio]; exact ei))
/-- for a def whose body catches what is raised -/
theorem dfn0 {P : Program} {w : World} {K : PySem.W.Frag} {mg : Str → Option Value} {base : Heap} {x qual : Str} {st : Stmt} {f : Addr} {fd : FuncData} {N ps : List Str} {k : Nat} {ks : List Bool} {io fr : Bool} {G : List D → FRes}
    (F : Fun K x qual st f fd) (S : FnScope N ps (defScope st)) (u : SM) (hps : ps.length = ks.length + (if io then 1 else 0))
    (hb : ∀ (c : Ctx) (W : XW) (cdv : Value) (A : Around) (outer : List Env) (s : Shared) (H : Hp) (E : XK), (io = true ∨ c.io = none) → c.fr = fr → Room k (A.deeper (envOfC qual (defScope st) s.heap.objs.size f cdv)) → (∀ e s, ¬ W e s) →
      PSsX0 c W (cxOf CX0 P w K mg base N qual (defScope st) f cdv A outer s H E).nox (defBody st) u)
    (hG : ∀ ds, (∀ e t, G ds ≠ .ex e t) ∧ (G ds = .bad ∨ G ds = fnRes io fr (u (initS io ks N.length ds)))) : FnOk P w K mg base CX0 (k + 1) f fd ps (spD K io fr ks G) := by
  refine F.ok S (fun vs H Q E h => ?_) (fun cdv A outer s H vs Q E hr h => ?_)
  · rw [hps]; exact spD_len h
  · obtain ⟨ds, O, ioa, hio, hO, ha, hq⟩ := h
    have hl := ha.len
    have hN : vs.length ≤ N.length := by
      have := congrArg List.length S.pre
      rw [List.length_take] at this
      rw [hl, hio, ← hps]
      omega
    refine ⟨_, hb { K := K, H0 := H, O0 := O, io := ioa, fr := fr } (fun _ _ => False) cdv A outer s H E (by
      cases ioa with
      | none => exact .inr rfl
      | some p => exact .inl hio.symm) rfl hr (fun _ _ h => h), initS io ks N.length ds, ?_, ?_⟩
    · rw [← hio]
      exact rel_start hO ha hN
    · obtain ⟨h1, h2⟩ := hG ds
      rcases h2 with h2 | h2
      · rw [h2] at hq; exact hq.elim
      · rw [h2] at hq
        cases eu : u (initS io ks N.length ds) with
        | bad => rw [eu] at hq; exact hq.elim
        | brk s1 => rw [eu] at hq; exact hq.elim
        | cnt s1 => rw [eu] at hq; exact hq.elim
        | ex d s1 => rw [eu] at hq; exact hq.elim
        | ret d s1 =>
          rw [eu] at hq
          simp only [fnRes] at hq
          cases ei : ioCont io s1 with
          | none => rw [ei] at hq; exact hq.elim
          | some t =>
            rw [ei] at hq
            intro v σ' H' R
            exact hq v H' ⟨R.frame, R.tabs⟩ (res_ok R) (io_ok R (by show ioCont ioa.isSome s1 = some t; rw [hio]; exact ei))
        | nx s1 =>
          rw [eu] at hq
          simp only [fnRes] at hq
          cases fr with
          | true => exact hq.elim
          | false =>
            cases ei : ioCont io s1 with
            | none => rw [ei] at hq; exact hq.elim
            | some t =>
              rw [ei] at hq
              intro σ' H' R
              exact hq .non H' ⟨R.frame, R.tabs⟩ (by show Rep _ _ _ _ _; simp only [Rep]) (io_ok R (by show ioCont ioa.isSome s1 = some t; rw [hio]; exact ei))
/-! how they are worked out -/
section
variable (s : DS) (e : Ex) (nm : Str) (G : List D → FRes) (as : List Arg) (mt : Str → Bool) (u1 u2 : SM) (d : D) (t : Option D) (avs : List AV) (ds : List D)
def kFRX (r : FRes) (s : DS) : Ores D := match r with
  | .ok d _ => .ok d s
  | .ex e _ => .ex e s
  | .bad => .bad
@[simp] theorem kFRX_ok : kFRX (.ok d t) s = .ok d s := rfl
@[simp] theorem kFRX_ex : kFRX (.ex e t) s = .ex e s := rfl
def kCallXb (G : List D → FRes) (ds : List D) (s : DS) : Ores D := kFRX (G ds) s
def kCallX (G : List D → FRes) (avs : List AV) (s : DS) : Ores D := (lift (getL avs s) s).bind (kCallXb G)
@[simp] theorem kCallXb_run : kCallXb G ds s = kFRX (G ds) s := rfl
@[simp] theorem kCallX_run : kCallX G avs s = (lift (getL avs s) s).bind (kCallXb G) := rfl
@[simp] theorem mCallX_run : mCallX G as s = (mArgs as s).bind (kCallX G) := by
  unfold mCallX kCallX kCallXb kFRX
  rfl
@[simp] theorem sRaise_run : sRaise nm s = .ex ⟨nm, []⟩ s := rfl
def kTry (mt : Str → Bool) (u2 : SM) : SRes → SRes
  | .ex e s' => if mt e.name then u2 s' else .ex e s'
  | r => r
@[simp] theorem sTry_run : sTry mt u1 u2 s = kTry mt u2 (u1 s) := by
  unfold sTry kTry
  cases u1 s <;> rfl
@[simp] theorem kTry_ex : kTry mt u2 (.ex e s) = if mt e.name then u2 s else .ex e s := rfl
@[simp] theorem kTry_nx : kTry mt u2 (.nx s) = .nx s := rfl
@[simp] theorem kTry_ret : kTry mt u2 (.ret d s) = .ret d s := rfl

@[simp] theorem nxt_ex (f : SM) : (SRes.ex e s).nxt f = .ex e s := rfl
@[simp] theorem fnResX_ret (fr : Bool) : fnResX false fr (.ret d s) = .ok d none := rfl
@[simp] theorem fnResX_ex (fr : Bool) : fnResX false fr (.ex e s) = .ex e none := rfl
@[simp] theorem fnResX_nx : fnResX false false (.nx s) = .ok .non none := rfl
end
/-- whether an error of R is one of S -/
theorem exm_to {K : PySem.W.Frag} {S R : Addr} {b : Bool} (h1 : PySem.W.subIn K (.ref S) (.type "BaseException") = some true) (h2 : PySem.W.isClsIn K S = true) (h3 : PySem.W.typeIn K (.ref S) = some (.type "type")) (h4 : PySem.W.subIn K (.ref R) (.ref S) = some b) :
    PySem.W.exmOne K (.ref R) (.ref S) = some b := by
  have e1 : (PySem.W.subIn K (.ref S) (.type "BaseException") == some true) = true := by rw [h1] <;> rfl
  have e2 : ((PySem.W.clsIn K S).isSome && PySem.W.typeIn K (.ref S) == some (.type "type")) = true := by
    have h2' : (PySem.W.clsIn K S).isSome = true := h2
    rw [h2', h3] <;> rfl
  unfold PySem.W.exmOne
  rw [if_pos e1]
  unfold PySem.W.kitCls
  simp only
  rw [if_pos e2]
  exact h4
end DL

set_option Elab.async false
set_option linter.all false
set_option autoImplicit false
set_option maxRecDepth 100000
namespace DL
variable [TQ]
open PySem PySem.Spec PyProof.Rows L2
/-! ### sorted(d.items()), keys whole numbers, values anything -/
def insK {α : Type} (p : Int × α) : List (Int × α) → List (Int × α)
  | [] => [p]
  | q :: qs => if q.1 < p.1 then q :: insK p qs else p :: q :: qs
def sortK {α : Type} : List (Int × α) → List (Int × α)
  | [] => []
  | p :: ps => insK p (sortK ps)
theorem insK_map {α β : Type} (f : α → β) (p : Int × α) : ∀ qs, insK (p.1, f p.2) (qs.map fun q => (q.1, f q.2)) = (insK p qs).map fun q => (q.1, f q.2)
  | [] => rfl
  | q :: qs => by
    simp only [List.map_cons, insK]
    by_cases h : q.1 < p.1
    · rw [if_pos h, if_pos h, insK_map f p qs]; rfl
    · rw [if_neg h, if_neg h]; rfl
theorem sortK_map {α β : Type} (f : α → β) : ∀ ps : List (Int × α), sortK (ps.map fun q => (q.1, f q.2)) = (sortK ps).map fun q => (q.1, f q.2)
  | [] => rfl
  | p :: ps => by
    simp only [List.map_cons, sortK]
    rw [sortK_map f ps, insK_map f p]
theorem insK_perm {α : Type} (p : Int × α) : ∀ qs, (insK p qs).Perm (p :: qs)
  | [] => List.Perm.refl _
  | q :: qs => by
    unfold insK
    split
    · exact (List.Perm.cons q (insK_perm p qs)).trans (List.Perm.swap _ _ _)
    · exact List.Perm.refl _
theorem sortK_perm {α : Type} : ∀ ps : List (Int × α), (sortK ps).Perm ps
  | [] => List.Perm.refl _
  | p :: ps => (insK_perm p _).trans (List.Perm.cons p (sortK_perm ps))
theorem insK_sorted {α : Type} (p : Int × α) : ∀ qs : List (Int × α), qs.Pairwise (fun a b => a.1 ≤ b.1) → (insK p qs).Pairwise (fun a b => a.1 ≤ b.1)
  | [], _ => by simp [insK]
  | q :: qs, h => by
    have h' := List.pairwise_cons.mp h
    unfold insK
    split
    · rename_i c
      refine List.pairwise_cons.mpr ⟨fun z hz => ?_, insK_sorted p qs h'.2⟩
      rcases List.mem_cons.mp ((insK_perm p qs).mem_iff.mp hz) with rfl | hz
      · omega
      · exact h'.1 z hz
    · rename_i c
      refine List.pairwise_cons.mpr ⟨fun z hz => ?_, h⟩
      rcases List.mem_cons.mp hz with rfl | hz
      · omega
      · have := h'.1 z hz; omega
theorem sortK_sorted {α : Type} : ∀ ps : List (Int × α), (sortK ps).Pairwise (fun a b => a.1 ≤ b.1)
  | [] => List.Pairwise.nil
  | p :: ps => insK_sorted p _ (sortK_sorted ps)
/-- with different keys there is one order -/
theorem sortedK_one {α : Type} : ∀ {xs ys : List (Int × α)}, xs.Perm ys → (xs.map Prod.fst).Nodup → xs.Pairwise (fun a b => a.1 ≤ b.1) → ys.Pairwise (fun a b => a.1 ≤ b.1) → xs = ys
  | [], ys, h, _, _, _ => (List.nil_perm.mp h).symm
  | x :: xs, ys, h, hn, hx, hy => by
    cases ys with
    | nil => exact absurd h.length_eq (by simp)
    | cons y ys =>
      have hx' := List.pairwise_cons.mp hx
      have hy' := List.pairwise_cons.mp hy
      rw [List.map_cons, List.nodup_cons] at hn
      have e : x = y := by
        have h1 : y ∈ x :: xs := h.mem_iff.mpr List.mem_cons_self
        have h2 : x ∈ y :: ys := h.mem_iff.mp List.mem_cons_self
        rcases List.mem_cons.mp h1 with h1 | h1
        · exact h1.symm
        · rcases List.mem_cons.mp h2 with h2 | h2
          · exact h2
          · have h3 := hx'.1 y h1
            have h4 := hy'.1 x h2
            have h5 : x.1 = y.1 := by omega
            exact absurd (List.mem_map.mpr ⟨y, h1, h5.symm⟩) hn.1
      subst e
      rw [sortedK_one (List.Perm.cons_inv h) hn.2 hx'.2 hy'.2]
/-! at the level of the world -/
def IsPr (h : Heap) (v : Value) (x : Int) : Prop := ∃ a o t y n, v = .ref a ∧ h.get? a = some o ∧ o.cls = .type "tuple" ∧ o.data = .seq #[.int x t, y] n
theorem firsts_pr {h : Heap} {k : Value → Int} : ∀ {vs : List Value}, (∀ v ∈ vs, IsPr h v (k v)) → ∃ fs, PySem.W.KatTups h vs fs ∧ fs.length = vs.length ∧ ∀ f ∈ fs, ∃ x t, f = Value.int x t
  | [], _ => ⟨[], by rw [PySem.W.KatTups.eq_1]; trivial, rfl, fun f hf => nomatch hf⟩
  | v :: vs, hp => by
    obtain ⟨fs, h1, h2, h3⟩ := firsts_pr (vs := vs) fun u hu => hp u (by simp [hu])
    obtain ⟨a, o, t, y, n, e, ho, hc, hd⟩ := hp v (by simp)
    refine ⟨.int (k v) t :: fs, ?_, by simp [h2], fun f hf => ?_⟩
    · rw [PySem.W.KatTups.eq_2]
      exact ⟨⟨a, o, _, n, e, ho, hc, hd, rfl⟩, h1⟩
    · rcases List.mem_cons.mp hf with rfl | hf
      · exact ⟨_, _, rfl⟩
      · exact h3 f hf
def ltK (k : Value → Int) : Value → Value → Bool := fun v u => decide (k v < k u)
theorem swoK (k : Value → Int) : SrtO.Swo (ltK k) := ⟨fun x y h => by
  unfold ltK at *
  have := of_decide_eq_true h
  exact decide_eq_false (by omega), fun x y z h1 h2 => by
  unfold ltK at *
  have := of_decide_eq_false h1
  have := of_decide_eq_false h2
  exact decide_eq_false (by omega)⟩
section
variable {prog : Program} {w : World} {A : Around} {E : Value → Shared → Prop} {s : Shared}
theorem pr_cmp {vs : List Value} {k : Value → Int} (hp : ∀ v ∈ vs, IsPr s.heap v (k v)) (hi : ∀ v ∈ vs, ∀ u ∈ vs, k v = k u → v = u) : SrtO.Cmp prog w A s (tuples' true) (fun p => p.1 ∈ vs) (SrtO.lt2 (ltK k)) := by
  intro p q hm hm'
  obtain ⟨a, o, t, y, n, e, ho, hc, hd⟩ := hp p.1 hm
  obtain ⟨a', o', t', y', n', e', ho', hc', hd'⟩ := hp q.1 hm'
  show wpAny _ _ (keyLt' (tuples' true) p.1 q.1) (fun r s' => s' = s ∧ r = ltK k p.1 q.1) _ _
  by_cases hk : k p.1 = k q.1
  · have hpq := hi p.1 hm q.1 hm' hk
    have hlt : ltK k p.1 q.1 = false := decide_eq_false (by omega)
    rw [hlt, ← hpq]
    generalize k p.1 = kp at *
    rw [e]
    refine PySem.W.kat_lt ho hd ho hd ?_
    show PySem.W.KatLex prog w A true (decide (2 < 2)) _ [(.int kp t, .int kp t), (y, y)] 0 s
    refine PySem.W.kat_cons (SeqAt.EqAt.same (Value.int kp t) prog w _ _ (PySem.W.kat_yes (PySem.W.kat_cons (SeqAt.EqAt.same y prog w _ _ (PySem.W.kat_yes ?_)))))
    exact ⟨rfl, rfl⟩
  · have hlt : ltK k p.1 q.1 = decide (k p.1 < k q.1) := rfl
    rw [hlt]
    generalize k p.1 = kp at *
    generalize k q.1 = kq at *
    rw [e, e']
    refine PySem.W.kat_lt ho hd ho' hd' ?_
    show PySem.W.KatLex prog w A true (decide (2 < 2)) _ [(.int kp t, .int kq t'), (y, y')] 0 s
    refine PySem.W.kat_cons (SeqAt.EqAt.int_int kp t kq t' prog w _ _ (PySem.W.kat_go (fun e1 => ?_) fun e1 => PySem.W.kat_no (oneLt_int ⟨rfl, rfl⟩)))
    exact absurd (by simpa using e1) hk
theorem pr_sortable {a : Addr} {vs : List Value} {k : Value → Int} (h0 : 0 < vs.length) (hp : ∀ v ∈ vs, IsPr s.heap v (k v)) (hi : ∀ v ∈ vs, ∀ u ∈ vs, k v = k u → v = u) (ha : ∀ o, s.heap.get? a = some o → o.cls ≠ .type "tuple") : SrtO.SortableO prog w A s a vs (ltK k) := by
  intro h' keep
  have hp' : ∀ v ∈ vs, IsPr h' v (k v) := fun v hm => by
    obtain ⟨b, o, t, y, n, e, ho, hc, hd⟩ := hp v hm
    exact ⟨b, o, t, y, n, e, keep b o (fun z => ha o (z ▸ ho) hc) ho, hc, hd⟩
  obtain ⟨fs, h1, h2, h3⟩ := firsts_pr hp'
  refine ⟨tuples' true, fun Q E hq => ?_, pr_cmp hp' hi⟩
  refine PySem.W.kat_kind (T := .type "int") h1 (by omega) (fun f hm => ?_) rfl hq
  obtain ⟨x, t, rfl⟩ := h3 f hm
  exact PySem.W.Looks.now
/-- the key that the j-th of these addresses holds -/
def kOfK (as : List Addr) (ks : List Int) : Value → Int
  | .ref a => ks.getD (as.idxOf a) 0
  | _ => 0
theorem kOfK_at {as : List Addr} {ks : List Int} {j : Nat} {a : Addr} {p : Int} (nd : as.Nodup) (hj : as[j]? = some a) (e : ks[j]? = some p) : kOfK as ks (.ref a) = p := by
  unfold kOfK
  have hjl := (List.getElem?_eq_some_iff.mp hj).1
  have e9 : as.idxOf a = j := by
    rw [← (List.getElem?_eq_some_iff.mp hj).2]
    exact nd.idxOf_getElem j hjl
  simp only [e9, List.getD_eq_getElem?_getD, e, Option.getD_some]
theorem sorted_itemsV {r d : Addr} {kvs : List (Key × Value)} {ep : Nat} {ks : List Int} {Q : Value → Shared → Prop} (hh : A.handled = none) (hv : s.heap.IsItemsView r d) (hd : s.heap.DictAt (mixKind prog w) d kvs ep) (hz : kvs.length ≤ sizeLine)
    (hk0 : ks.Nodup) (hlk : kvs.length = ks.length) (hp : ∀ (j : Nat) (k : Key) (x : Value), kvs[j]? = some (k, x) → ∃ p : Int, ks[j]? = some p ∧ k = Sum.inl p)
    (h : ∀ (h₁ h' : Heap) (tk : Nat) (as : List Addr) (out : List Value) (l : Addr), (∀ b o, s.heap.get? b = some o → h₁.get? b = some o) → as.length = kvs.length → PySem.W.KdxG (mixKind prog w) kvs s.heap.objs.size h₁ as → SrtO.Srtd (ltK (kOfK as ks)) out → SrtO.Stb (ltK (kOfK as ks)) out (as.map .ref) →
      (∀ b o, h₁.get? b = some o → h'.get? b = some o) → h₁.objs.size ≤ l → (∃ n, h'.get? l = some (seqObj "list" out.toArray n)) → Q (.ref l) { s with heap := h', toks := tk }) :
    wpAny (model prog w) A (call (.builtin "sorted") [.ref r]) Q E s := by
  refine call_function_entry_kw kind_sorted plain_sorted entry_sorted (args_sorted1 _) ?_
  unfold Builtin.«sorted»
  refine wpAny_bind (m := checkCount "sorted" 1 1 _) (wpAny_pure ?_)
  refine wpAny_bind (PySem.W.kdx_collect (A := A.in1) hh hv hd hz fun h₁ tk as hk hlen G => ?_)
  have hzs : (as.map Value.ref).length ≤ sizeLine := by rw [List.length_map, hlen]; exact hz
  refine wpAny_bind (wpAny_newList ?_ hzs)
  have hoL : (h₁.push (seqObj "list" (as.map Value.ref).toArray 0)).get? h₁.objs.size = some (seqObj "list" (as.map Value.ref).toArray 0) := Heap.get?_push_size _ rfl
  have kp : ∀ b o, h₁.get? b = some o → b ≠ h₁.objs.size ∧ (h₁.push (seqObj "list" (as.map Value.ref).toArray 0)).get? b = some o := fun b o q => ⟨Nat.ne_of_lt (Heap.lt_size q), Heap.get?_push_of_some _ q⟩
  have nd : as.Nodup := G.rise.imp fun {a b} (h : a < b) => Nat.ne_of_lt h
  have hkey : ∀ (j : Nat) (a : Addr), as[j]? = some a → ∃ p, ks[j]? = some p ∧ kOfK as ks (.ref a) = p ∧ IsPr (h₁.push (seqObj "list" (as.map Value.ref).toArray 0)) (.ref a) p := fun j a hj => by
    obtain ⟨key, k, x, e1, e2, e3⟩ := G.pairs j a hj
    obtain ⟨p, e4, rfl⟩ := hp j k x e1
    have e7 : ∃ t', key = .int p t' := by
      rw [mixKind_is] at e2
      unfold keyIs at e2
      cases key with
      | int i t' =>
        refine ⟨t', ?_⟩
        have : i = p := by simpa [Value.isInt] using e2
        rw [this]
      | _ => simp [Value.isInt] at e2
    obtain ⟨t', rfl⟩ := e7
    exact ⟨p, e4, kOfK_at nd hj e4, a, _, t', x, _, rfl, (kp a _ e3).2, rfl, rfl⟩
  show wpAny _ _ _ _ _ { s with heap := h₁.push (seqObj "list" (as.map Value.ref).toArray 0), toks := tk }
  refine wpAny_bind (wpAny_holding (wpAny_call_entry slot_list_sort ⟨_, hoL, rfl⟩ entry_list_sort (SrtO.list_sort_ord (swoK _) hoL hzs (fun h2 => pr_sortable (k := kOfK as ks) (by omega) (fun v hv => ?_) (fun v hv u hu he => ?_) fun o ho => ?_) fun out hs hb => ⟨_, rfl, wpAny_pure ⟨_, rfl, h h₁ _ tk as out h₁.objs.size hk hlen G hs hb (fun b o q => ?_) (Nat.le_refl _) (sortedHeap_at hoL)⟩⟩) (args_list_sort _)))
  · obtain ⟨a, ha, rfl⟩ := List.mem_map.mp hv
    obtain ⟨j, hj⟩ := List.getElem?_of_mem ha
    obtain ⟨p, _, e8, e9⟩ := hkey j a hj
    rw [e8]; exact e9
  · obtain ⟨a, ha, rfl⟩ := List.mem_map.mp hv
    obtain ⟨b, hb, rfl⟩ := List.mem_map.mp hu
    obtain ⟨i, hi⟩ := List.getElem?_of_mem ha
    obtain ⟨j, hj⟩ := List.getElem?_of_mem hb
    obtain ⟨p, p1, p2, _⟩ := hkey i a hi
    obtain ⟨q, q1, q2, _⟩ := hkey j b hj
    rw [p2, q2] at he
    subst he
    have hij : i = j := by
      have h1 := (List.getElem?_eq_some_iff.mp p1)
      have h2 := (List.getElem?_eq_some_iff.mp q1)
      obtain ⟨l1, g1⟩ := h1
      obtain ⟨l2, g2⟩ := h2
      have hi' := hk0.idxOf_getElem i l1
      have hj' := hk0.idxOf_getElem j l2
      rw [g1] at hi'
      rw [g2] at hj'
      exact hi'.symm.trans hj'
    subst hij
    rw [hi] at hj; cases hj; rfl
  · rw [show ({ s with heap := h₁.push (seqObj "list" (as.map Value.ref).toArray 0), toks := tk } : Shared).heap = h₁.push (seqObj "list" (as.map Value.ref).toArray 0) from rfl, hoL] at ho
    cases ho
    intro z
    injection z with z
    exact absurd z (by decide)
  · rw [sortedHeap_old (kp b o q).1 (Heap.lt_size (kp b o q).2)]
    exact (kp b o q).2
end
/-- a dict by whole numbers -/
def kvV (ps : List (Int × V)) : List (Key × V) := ps.map fun p => (Sum.inl p.1, p.2)
section
variable {X : Cx}
theorem cr_sortItemsV (hc : X.calm = true) : CallR X (.builtin "sorted") fun vs H Q => ∃ (r d : Addr) (ps : List (Int × V)), vs = [.ref r] ∧ H r = some (.ext (isView r d)) ∧ H d = some (.dK (kvV ps)) ∧
    ((ps.map Prod.fst).Nodup → ∀ (H' : Hp) (l : Addr) (ts : List Addr), (∀ b o, H b = some o → H' b = some o) → H l = none → (∀ t ∈ ts, H t = none) → H' l = some (.lst (ts.map V.ref)) → Paired (fun t p => H' t = some (.tup [V.int p.1, p.2])) ts (sortK ps) → Q (.ref l) H') := by
  intro pins s σ H vs us Q I r ⟨rv, d, ps, ev, hr, hd, q⟩
  subst ev
  rw [Vals.ref1 r]
  have ok := I.hok d _ hd
  rw [ObjOk.eq_3] at ok
  obtain ⟨hz, hs, kvs, kv, o, es, ep, ho, hx, h1, h2, h3, h4⟩ := ok
  have okr := I.hok rv _ hr
  rw [ObjOk.eq_13] at okr
  have hlk : (kvV ps).length = kvs.length := by
    unfold L2.KV at kv
    exact paired_len kv
  have hlp : (kvV ps).length = ps.length := by unfold kvV; simp
  have hkeys : kvs.map (fun x => x.1) = ps.map fun p => (Sum.inl p.1 : Key) := by
    apply List.ext_getElem?
    intro j
    rw [List.getElem?_map, List.getElem?_map]
    by_cases hj : j < ps.length
    · have e1 : (kvV ps)[j]? = some (Sum.inl ps[j].1, ps[j].2) := by unfold kvV; rw [List.getElem?_map, List.getElem?_eq_getElem hj]; rfl
      obtain ⟨y, e2, e3, e4⟩ := LiI.paired_get kv e1
      rw [e2, List.getElem?_eq_getElem hj]
      simp only [Option.map_some]
      rw [← e3]
    · rw [List.getElem?_eq_none (by omega), List.getElem?_eq_none (by omega)]; rfl
  have hnd : (ps.map Prod.fst).Nodup := by
    rw [hkeys] at h4
    unfold List.Nodup at h4 ⊢
    rw [List.pairwise_map] at h4 ⊢
    exact h4.imp fun {a b} hab e => hab (by rw [e])
  have hget : ∀ (j : Nat) (k : Key) (x : Value), kvs[j]? = some (k, x) → ∃ p : Int × V, ps[j]? = some p ∧ k = Sum.inl p.1 ∧ RelV p.2 x := by
    intro j k x e
    have hj : j < ps.length := by rw [← hlp, hlk]; exact (List.getElem?_eq_some_iff.mp e).1
    have e1 : (kvV ps)[j]? = some (Sum.inl ps[j].1, ps[j].2) := by unfold kvV; rw [List.getElem?_map, List.getElem?_eq_getElem hj]; rfl
    obtain ⟨y, e2, e3, e4⟩ := LiI.paired_get kv e1
    rw [e] at e2; cases e2
    exact ⟨ps[j], List.getElem?_eq_getElem hj, e3.symm, e4⟩
  refine sorted_itemsV (ks := ps.map Prod.fst) (I.ok.hd hc) ⟨_, okr.1, rfl, rfl⟩ ⟨o, es, ho, hx, h1, h2, h3, h4⟩ (by rw [← hlk]; exact hz) hnd (by rw [← hlk, hlp, List.length_map]) (fun j k x e => by
    obtain ⟨p, e1, e2, _⟩ := hget j k x e
    exact ⟨p.1, by rw [List.getElem?_map, e1]; rfl, e2⟩) fun h₁ h' tk as out l hk hlen G hs1 hs2 hk2 hl hob => ?_
  have nd : as.Nodup := G.rise.imp fun {a b} (h : a < b) => Nat.ne_of_lt h
  have hge : ∀ a ∈ as, s.heap.objs.size ≤ a := fun a ha => Nat.le_of_lt (G.above a ha)
  have hlen' : as.length = (kvV ps).length := by rw [hlen, hlk]
  have I1 : Inv X pins σ (LiI.putT H as (kvV ps)) { s with heap := h₁, toks := tk } := tups_laid I hk hlen' nd hge fun j a ha => by
    obtain ⟨key, k, x, e1, e2, e3⟩ := G.pairs j a ha
    obtain ⟨p, e4, rfl, rx⟩ := hget j k x e1
    refine ⟨key, (Sum.inl p.1, p.2), x, by unfold kvV; rw [List.getElem?_map, e4]; rfl, ?_, rx, e3⟩
    rw [mixKind_is] at e2
    unfold keyIs at e2
    cases key with
    | int i t' =>
      have : i = p.1 := by simpa [Value.isInt] using e2
      rw [this]; exact ⟨t', rfl⟩
    | _ => simp [Value.isInt] at e2
  have oldH : ∀ b o, H b = some o → LiI.putT H as (kvV ps) b = some o := fun b o hb => by
    rw [LiI.putT_off as (kvV ps) H fun z => ?_]
    · exact hb
    · exact Nat.lt_irrefl _ (Nat.lt_of_lt_of_le (I.hok.lt hb) (hge b z))
  have hne : ∀ b o, LiI.putT H as (kvV ps) b = some o → b ≠ l := fun b o hb z => by
    subst z
    exact Nat.lt_irrefl _ (Nat.lt_of_lt_of_le (I1.hok.lt hb) hl)
  have hmem : ∀ v ∈ out, ∃ a ∈ as, v = .ref a := fun v hv => by
    obtain ⟨a, ha, e⟩ := List.mem_map.mp (hs2.perm.mem_iff.mp hv)
    exact ⟨a, ha, e.symm⟩
  have hout : (out.map addrOf).map Value.ref = out := by
    rw [List.map_map]
    conv => rhs; rw [← List.map_id out]
    apply List.map_congr_left
    intro v hv
    obtain ⟨a, _, rfl⟩ := hmem v hv
    rfl
  have hperm : (out.map addrOf).Perm as := by
    have := hs2.perm.map addrOf
    rw [List.map_map] at this
    rwa [show as.map (addrOf ∘ Value.ref) = as from (List.map_congr_left fun a _ => rfl).trans (List.map_id as)] at this
  generalize hts : out.map addrOf = ts at hout hperm
  let g : Addr → Int × V := fun t => ps.getD (as.idxOf t) (0, .non)
  have hg : ∀ (j : Nat) (a : Addr) (p : Int × V), as[j]? = some a → ps[j]? = some p → g a = p := fun j a p hj hp => by
    show ps.getD (as.idxOf a) (0, .non) = p
    have hjl := (List.getElem?_eq_some_iff.mp hj).1
    have e9 : as.idxOf a = j := by
      rw [← (List.getElem?_eq_some_iff.mp hj).2]
      exact nd.idxOf_getElem j hjl
    rw [e9, List.getD_eq_getElem?_getD, hp, Option.getD_some]
  have hP : as.map g = ps := by
    apply List.ext_getElem?
    intro j
    rw [List.getElem?_map]
    cases e : as[j]? with
    | none =>
      have : ps.length ≤ j := by
        rw [← hlp, ← hlen']; exact List.getElem?_eq_none_iff.mp e
      rw [List.getElem?_eq_none this]; rfl
    | some a =>
      have hj : j < ps.length := by rw [← hlp, ← hlen']; exact (List.getElem?_eq_some_iff.mp e).1
      have e2 := List.getElem?_eq_getElem hj
      rw [e2, Option.map_some, hg j a _ e e2]
  have hkk : ∀ t ∈ as, kOfK as (ps.map Prod.fst) (.ref t) = (g t).1 := fun t ht => by
    obtain ⟨j, hj⟩ := List.getElem?_of_mem ht
    have hjp : j < ps.length := by rw [← hlp, ← hlen']; exact (List.getElem?_eq_some_iff.mp hj).1
    have e2 := List.getElem?_eq_getElem hjp
    rw [hg j t _ hj e2, kOfK_at nd hj (by rw [List.getElem?_map, e2]; rfl)]
  have hsort : ts.map g = sortK ps := by
    have hp1 : (ts.map g).Perm ps := by
      have := hperm.map g
      rwa [hP] at this
    refine sortedK_one (hp1.trans (sortK_perm ps).symm) ?_ ?_ (sortK_sorted ps)
    · exact (hp1.map Prod.fst).nodup_iff.mpr hnd
    · rw [List.pairwise_map]
      rw [← hout] at hs1
      have h8 : List.Pairwise (fun x y => ltK (kOfK as (ps.map Prod.fst)) y x = false) (ts.map Value.ref) := hs1
      have h9 : List.Pairwise (fun x y => ltK (kOfK as (ps.map Prod.fst)) (.ref y) (.ref x) = false) ts := by rwa [List.pairwise_map] at h8
      refine h9.imp_of_mem fun {a b} ha hb h => ?_
      have := of_decide_eq_false h
      rw [hkk a (hperm.mem_iff.mp ha), hkk b (hperm.mem_iff.mp hb)] at this
      omega
  have I2 : Inv X pins σ (upd (LiI.putT H as (kvV ps)) l (.lst (ts.map V.ref))) { s with heap := h', toks := tk } := I1.laid (t' := tk) hk2 hl (by
    rw [ObjOk.eq_1]
    obtain ⟨n, hob⟩ := hob
    refine ⟨?_, out, n, ?_, hob⟩
    · rw [List.length_map, hperm.length_eq, hlen']; exact hz
    · rw [← hout]; exact LiI.vals_refs ts)
  refine ⟨.ref l, _, I2, rfl, q hnd _ l ts (fun b o hb => ?_) ?_ (fun t ht => I.hok.fresh (hge t (hperm.mem_iff.mp ht))) upd_same ?_⟩
  · rw [upd_ne (hne b o (oldH b o hb))]; exact oldH b o hb
  · cases e : H l with
    | none => rfl
    | some o => exact absurd rfl (hne l o (oldH l o e))
  · rw [← hsort]
    refine paired_map _ ts fun t ht => ?_
    obtain ⟨j, kv, e1, e2, e3⟩ := LiI.paired_ix (LiI.putT_at as (kvV ps) H hlen' nd) (hperm.mem_iff.mp ht)
    rw [upd_ne (hne t _ e3), e3]
    have hj : j < ps.length := by rw [← hlp]; exact (List.getElem?_eq_some_iff.mp e2).1
    have e4 : (kvV ps)[j]? = some (Sum.inl ps[j].1, ps[j].2) := by unfold kvV; rw [List.getElem?_map, List.getElem?_eq_getElem hj]; rfl
    rw [e2] at e4
    cases e4
    rw [hg j t _ e1 (List.getElem?_eq_getElem hj)]
    rfl
end
end DL

set_option Elab.async false
set_option linter.all false
set_option autoImplicit false
set_option maxRecDepth 100000
namespace DL
variable [TQ]
open PySem PySem.Spec PyProof.Rows L2
/-! ### for row, value in enumerate(xs): found.setdefault(value, []).append(row) -/
def putG (gs : List (Int × List Int)) (v n : Int) : List (Int × List Int) := if (gs.any fun g => decide (g.1 = v)) = true then gs.map (fun g => if g.1 = v then (g.1, g.2 ++ [n]) else g) else gs ++ [(v, [n])]
def grpN (vals : List Int) : Nat → List (Int × List Int)
  | 0 => []
  | n + 1 => match vals[n]? with
    | some v => putG (grpN vals n) v n
    | none => grpN vals n
def dicG (gs : List (Int × List Int)) : D := .dic (gs.map fun g => .inl g.1) (gs.map fun g => .lst (g.2.map .int))
def jkS (j k : Nat) (vals : List Int) : Nat → DS → DS
  | 0, s => s
  | n + 1, s => match vals[n]? with
    | some v => ((jkS j k vals n s).set j (.pl (.int n))).set k (.pl (.int v))
    | none => jkS j k vals n s
/-- what the heap holds: an address, a key, rows -/
structure GI (H1 H' : Hp) (p : Addr) (es : List (Addr × Int × List Int)) : Prop where
  old : ∀ b o, H1 b = some o → b ≠ p → H' b = some o
  dict : H' p = some (.dK (es.map fun e => (Sum.inl e.2.1, V.ref e.1)))
  lists : ∀ e ∈ es, H' e.1 = some (.lst (e.2.2.map V.int)) ∧ H1 e.1 = none ∧ e.1 ≠ p
  addrs : (es.map fun e => e.1).Nodup
  keys : (es.map fun e => e.2.1).Nodup
def putE (es : List (Addr × Int × List Int)) (v n : Int) : List (Addr × Int × List Int) := es.map fun e => if e.2.1 = v then (e.1, e.2.1, e.2.2 ++ [n]) else e
theorem gi_val {H1 H' : Hp} {p : Addr} {es : List (Addr × Int × List Int)} (g : GI H1 H' p es) (v : Int) :
    (∀ w, valV (es.map fun e => ((Sum.inl e.2.1 : Key), V.ref e.1)) (.inl v) = some w → ∃ e ∈ es, e.2.1 = v ∧ w = .ref e.1) ∧
    (valV (es.map fun e => ((Sum.inl e.2.1 : Key), V.ref e.1)) (.inl v) = none → ∀ e ∈ es, e.2.1 ≠ v) := by
  unfold valV
  constructor
  · intro w hw
    cases e : (es.map fun e => ((Sum.inl e.2.1 : Key), V.ref e.1)).find? fun kv => decide (kv.1 = Sum.inl v) with
    | none => rw [e] at hw; cases hw
    | some kv =>
      rw [e] at hw
      cases hw
      have h1 := List.mem_of_find?_eq_some e
      have h2 := List.find?_some e
      obtain ⟨e0, he, rfl⟩ := List.mem_map.mp h1
      have h3 : (Sum.inl e0.2.1 : Key) = Sum.inl v := by simpa using h2
      exact ⟨e0, he, by injection h3, rfl⟩
  · intro hn e he hv
    rw [Option.map_eq_none_iff] at hn
    have := List.find?_eq_none.mp hn _ (List.mem_map.mpr ⟨e, he, rfl⟩)
    simp [hv] at this
theorem gi_new {H1 H' H'' : Hp} {p T : Addr} {es : List (Addr × Int × List Int)} {o : HO} (g : GI H1 H' p es) (hT : H' T = none) (e : H'' = upd H' T o) : GI H1 H'' p es := by
  subst e
  have ne : ∀ b u, H' b = some u → b ≠ T := fun b u hb z => by rw [z, hT] at hb; cases hb
  exact ⟨fun b u hb hp => by
    have := g.old b u hb hp
    rw [upd_ne (ne b u this)]; exact this, by rw [upd_ne (ne _ _ g.dict)]; exact g.dict, fun e he => by
    obtain ⟨h1, h2, h3⟩ := g.lists e he
    exact ⟨by rw [upd_ne (ne _ _ h1)]; exact h1, h2, h3⟩, g.addrs, g.keys⟩
/-- a row is added to a list that is there -/
theorem gi_add {H1 H' : Hp} {p : Addr} {es : List (Addr × Int × List Int)} (g : GI H1 H' p es) {e0 : Addr × Int × List Int} (he : e0 ∈ es) (n : Int) : GI H1 (upd H' e0.1 (.lst ((e0.2.2 ++ [n]).map V.int))) p (putE es e0.2.1 n) := by
  have h0 := g.lists e0 he
  have same : ∀ e ∈ es, e.2.1 = e0.2.1 → e = e0 := fun e hm hk => by
    have h1 := g.keys
    have : ∀ (l : List (Addr × Int × List Int)), (l.map fun e => e.2.1).Nodup → ∀ x ∈ l, ∀ y ∈ l, x.2.1 = y.2.1 → x = y := by
      intro l
      induction l with
      | nil => intro _ x hx; cases hx
      | cons z l ih =>
        intro hn x hx y hy hxy
        rw [List.map_cons, List.nodup_cons] at hn
        rcases List.mem_cons.mp hx with rfl | hx' <;> rcases List.mem_cons.mp hy with rfl | hy'
        · rfl
        · exact absurd (List.mem_map.mpr ⟨y, hy', hxy.symm⟩) hn.1
        · exact absurd (List.mem_map.mpr ⟨x, hx', hxy⟩) hn.1
        · exact ih hn.2 x hx' y hy' hxy
    exact this es h1 e hm e0 he hk
  have sameA : ∀ e ∈ es, e.1 = e0.1 → e = e0 := fun e hm hk => by
    have h1 := g.addrs
    have : ∀ (l : List (Addr × Int × List Int)), (l.map fun e => e.1).Nodup → ∀ x ∈ l, ∀ y ∈ l, x.1 = y.1 → x = y := by
      intro l
      induction l with
      | nil => intro _ x hx; cases hx
      | cons z l ih =>
        intro hn x hx y hy hxy
        rw [List.map_cons, List.nodup_cons] at hn
        rcases List.mem_cons.mp hx with rfl | hx' <;> rcases List.mem_cons.mp hy with rfl | hy'
        · rfl
        · exact absurd (List.mem_map.mpr ⟨y, hy', hxy.symm⟩) hn.1
        · exact absurd (List.mem_map.mpr ⟨x, hx', hxy⟩) hn.1
        · exact ih hn.2 x hx' y hy' hxy
    exact this es h1 e hm e0 he hk
  have m1 : (putE es e0.2.1 n).map (fun e => e.1) = es.map fun e => e.1 := by
    unfold putE
    rw [List.map_map]
    apply List.map_congr_left
    intro e _
    show (if e.2.1 = e0.2.1 then (e.1, e.2.1, e.2.2 ++ [n]) else e).1 = e.1
    split <;> rfl
  have m2 : (putE es e0.2.1 n).map (fun e => e.2.1) = es.map fun e => e.2.1 := by
    unfold putE
    rw [List.map_map]
    apply List.map_congr_left
    intro e _
    show (if e.2.1 = e0.2.1 then (e.1, e.2.1, e.2.2 ++ [n]) else e).2.1 = e.2.1
    split <;> rfl
  have m3 : (putE es e0.2.1 n).map (fun e => ((Sum.inl e.2.1 : Key), V.ref e.1)) = es.map fun e => (Sum.inl e.2.1, V.ref e.1) := by
    unfold putE
    rw [List.map_map]
    apply List.map_congr_left
    intro e _
    show ((Sum.inl (if e.2.1 = e0.2.1 then (e.1, e.2.1, e.2.2 ++ [n]) else e).2.1 : Key), V.ref (if e.2.1 = e0.2.1 then (e.1, e.2.1, e.2.2 ++ [n]) else e).1) = _
    split <;> rfl
  refine ⟨fun b o hb hp => ?_, ?_, fun e he' => ?_, by rw [m1]; exact g.addrs, by rw [m2]; exact g.keys⟩
  · rw [upd_ne (fun z => by rw [z, h0.2.1] at hb; cases hb)]
    exact g.old b o hb hp
  · rw [upd_ne (fun z => h0.2.2 z.symm), m3]; exact g.dict
  · unfold putE at he'
    obtain ⟨e, hm, rfl⟩ := List.mem_map.mp he'
    by_cases hk : e.2.1 = e0.2.1
    · have := same e hm hk
      subst this
      rw [if_pos rfl]
      exact ⟨upd_same, h0.2.1, h0.2.2⟩
    · rw [if_neg hk]
      obtain ⟨h1, h2, h3⟩ := g.lists e hm
      refine ⟨?_, h2, h3⟩
      rw [upd_ne (fun z => hk (by rw [sameA e hm z]))]
      exact h1
/-- a new list -/
theorem gi_put {H1 H' : Hp} {p l : Addr} {es : List (Addr × Int × List Int)} (g : GI H1 H' p es) (hl : H' l = none) (h1l : H1 l = none) {v : Int} (hv : ∀ e ∈ es, e.2.1 ≠ v) (n : Int) (H'' : Hp) (e1 : H'' l = some (.lst [V.int n])) (e2 : H'' p = some (.dK ((es ++ [(l, v, [n])]).map fun e => (Sum.inl e.2.1, V.ref e.1)))) (e3 : ∀ b, b ≠ l → b ≠ p → H'' b = H' b) : GI H1 H'' p (es ++ [(l, v, [n])]) := by
  have hlp : l ≠ p := fun z => by rw [z, g.dict] at hl; cases hl
  have nel : ∀ b u, H' b = some u → b ≠ l := fun b u hb z => by rw [z, hl] at hb; cases hb
  refine ⟨fun b o hb hp => ?_, e2, fun e he => ?_, ?_, ?_⟩
  · have := g.old b o hb hp
    rw [e3 b (nel b o this) hp]; exact this
  · rcases List.mem_append.mp he with he | he
    · obtain ⟨h1, h2, h3⟩ := g.lists e he
      exact ⟨by rw [e3 _ (nel _ _ h1) h3]; exact h1, h2, h3⟩
    · simp at he; subst he
      exact ⟨e1, h1l, hlp⟩
  · rw [List.map_append, List.nodup_append]
    refine ⟨g.addrs, by simp, fun a ha b hb => ?_⟩
    simp at hb; subst hb
    obtain ⟨e, he, rfl⟩ := List.mem_map.mp ha
    exact nel _ _ (g.lists e he).1
  · rw [List.map_append, List.nodup_append]
    refine ⟨g.keys, by simp, fun a ha b hb => ?_⟩
    simp at hb; subst hb
    obtain ⟨e, he, rfl⟩ := List.mem_map.mp ha
    exact hv e he
/-- what it says of data -/
def esG (es : List (Addr × Int × List Int)) : List (Int × List Int) := es.map Prod.snd
theorem esG_put {es : List (Addr × Int × List Int)} {v n : Int} (h : ∃ e ∈ es, e.2.1 = v) : esG (putE es v n) = putG (esG es) v n := by
  unfold putG esG putE
  have hany : ((es.map Prod.snd).any fun g => decide (g.1 = v)) = true := by
    rw [List.any_eq_true]
    obtain ⟨e, he, hv⟩ := h
    exact ⟨e.2, List.mem_map.mpr ⟨e, he, rfl⟩, by simpa using hv⟩
  rw [if_pos hany, List.map_map, List.map_map]
  apply List.map_congr_left
  intro e _
  show (if e.2.1 = v then (e.1, e.2.1, e.2.2 ++ [n]) else e).2 = if e.2.1 = v then (e.2.1, e.2.2 ++ [n]) else e.2
  split <;> rfl
theorem esG_new {es : List (Addr × Int × List Int)} {v n : Int} {l : Addr} (h : ∀ e ∈ es, e.2.1 ≠ v) : esG (es ++ [(l, v, [n])]) = putG (esG es) v n := by
  unfold putG esG
  have hany : ¬ ((es.map Prod.snd).any fun g => decide (g.1 = v)) = true := by
    rw [List.any_eq_true]
    rintro ⟨g, hg, hv⟩
    obtain ⟨e, he, rfl⟩ := List.mem_map.mp hg
    exact h e he (by simpa using hv)
  rw [if_neg hany, List.map_append]; rfl
theorem grp_len (vals : List Int) : ∀ n, (grpN vals n).length ≤ n
  | 0 => by simp [grpN]
  | n + 1 => by
    have ih := grp_len vals n
    simp only [grpN]
    cases vals[n]? with
    | none => simp only; omega
    | some v =>
      simp only
      unfold putG
      split
      · rw [List.length_map]; omega
      · rw [List.length_append]; simp; omega
theorem grp_rows (vals : List Int) : ∀ n, ∀ g ∈ grpN vals n, g.2.length ≤ n
  | 0, g, h => by simp [grpN] at h
  | n + 1, g, h => by
    have ih := grp_rows vals n
    simp only [grpN] at h
    cases e : vals[n]? with
    | none => rw [e] at h; simp only at h; have := ih g h; omega
    | some v =>
      rw [e] at h
      simp only at h
      unfold putG at h
      split at h
      · obtain ⟨g0, h0, rfl⟩ := List.mem_map.mp h
        have := ih g0 h0
        split
        · simp; omega
        · omega
      · rcases List.mem_append.mp h with h | h
        · have := ih g h; omega
        · simp at h; subst h; simp
section
variable {c : Ctx} {W : XW} {X : Cx} {K : PySem.W.Frag}
/-- the dict in the eyes of a reader -/
theorem gi_own {O : Addr → Prop} {H1 H' : Hp} {p : Addr} {es : List (Addr × Int × List Int)} (g : GI H1 H' p es) (hO : ∀ a, O a → H1 a ≠ none) : OwnRep K O H' p (dicG (esG es)) := by
  have hr : ∀ l : List (Addr × Int × List Int), (∀ e ∈ l, H' e.1 = some (.lst (e.2.2.map V.int)) ∧ ¬ O e.1) → RepL K O H' ((l.map Prod.snd).map fun g => D.lst (g.2.map .int)) (l.map fun e => V.ref e.1) := by
    intro l
    induction l with
    | nil => intro _; simp only [List.map_nil, RepL]
    | cons e l ih =>
      intro h
      simp only [List.map_cons]
      obtain ⟨h1, h2⟩ := h e (by simp)
      refine RepL.cons ?_ (ih fun e' he' => h e' (by simp [he']))
      simp only [Rep]
      refine ⟨e.1, _, rfl, h2, h1, ?_⟩
      have : ∀ ns : List Int, RepL K O H' (ns.map D.int) (ns.map V.int) := by
        intro ns
        induction ns with
        | nil => simp only [List.map_nil, RepL]
        | cons n ns ih => simp only [List.map_cons]; exact RepL.cons (by simp only [Rep]) ih
      exact this _
  refine ⟨_, g.dict, ?_, ?_⟩
  · unfold esG
    rw [List.map_map, List.map_map]; rfl
  · rw [List.map_map]
    exact hr es fun e he => ⟨(g.lists e he).1, fun z => hO _ z (g.lists e he).2.1⟩
/-- one turn -/
theorem gi_turn {σ : L2.St} {H1 H' : Hp} {p : Addr} {es : List (Addr × Int × List Int)} {i j k : Nat} {v n : Int} {N : L2.St → Hp → Prop} (g : GI H1 H' p es) (hi : σ[i]? = some (some (V.ref p))) (hj : σ[j]? = some (some (V.int n))) (hk : σ[k]? = some (some (V.int v))) (hl : es.length < 1000000) (hr : ∀ e ∈ es, e.2.2.length < 1000000)
    (hN : ∀ H'' es', GI H1 H'' p es' → esG es' = putG (esG es) v n → N σ H'') :
    tBM K "list" rAppend (tDSetd (tVar i) (tVar k) (tLst tNil)) (tCons (tVar j) tNil) σ H' fun _ H4 => N σ H4 := by
  have hz : ∀ m : Nat, m < 1000000 → m < sizeLine := fun m h => Nat.lt_of_lt_of_le h (by decide)
  refine ⟨.ref p, hi, p, rfl, .inl ⟨_, .inl g.dict⟩, .int v, hk, Nat.zero_le _, fun l hl0 => ?_⟩
  have hlp : l ≠ p := fun z => by rw [z, g.dict] at hl0; cases hl0
  have g3 : GI H1 (upd H' l (.lst [])) p es := gi_new g hl0 rfl
  refine ⟨_, .inl v, g3.dict, rfl, by rw [List.length_map]; exact hz _ hl, fun w hw => ?_, fun hw => ?_⟩
  · obtain ⟨e, he, hv, rfl⟩ := (gi_val g3 v).1 w hw
    subst hv
    obtain ⟨h1, h2, h3⟩ := g3.lists e he
    refine ⟨.inl ⟨rfl, _, SqL.of h1⟩, .int n, hj, e.1, _, _, rfl, rfl, h1, by rw [List.length_map]; exact hz _ (hr e he), ?_⟩
    have g4 := gi_add g3 he n
    rw [List.map_append] at g4
    exact hN _ _ g4 (esG_put ⟨e, he, rfl⟩)
  · have hv := (gi_val g3 v).2 hw
    have h4 : upd (upd H' l (.lst [])) p (.dK (putK (es.map fun e => ((Sum.inl e.2.1 : Key), V.ref e.1)) (.inl v) (.ref l))) l = some (.lst []) := by
      rw [upd_ne hlp, upd_same]
    refine ⟨.inl ⟨rfl, _, SqL.of h4⟩, .int n, hj, l, _, _, rfl, rfl, h4, by decide, ?_⟩
    have h1l : H1 l = none := by
      cases e : H1 l with
      | none => rfl
      | some o =>
        have := g.old l o e hlp
        rw [hl0] at this; cases this
    refine hN _ _ (gi_put g hl0 h1l hv n _ (by rw [upd_same]; rfl) ?_ fun b hb1 hb2 => ?_) (esG_new hv)
    · rw [upd_ne (fun z => hlp z.symm), upd_same]
      congr 2
      unfold putK
      have hany : ¬ ((es.map fun e => ((Sum.inl e.2.1 : Key), V.ref e.1)).any fun kv => decide (kv.1 = Sum.inl v)) = true := by
        rw [List.any_eq_true]
        rintro ⟨kv, hkv, h⟩
        obtain ⟨e, he, rfl⟩ := List.mem_map.mp hkv
        have : (Sum.inl e.2.1 : Key) = Sum.inl v := by simpa using h
        exact hv e he (by injection this)
      rw [if_neg hany, List.map_append]; rfl
    · rw [upd_ne hb1, upd_ne hb2, upd_ne hb1]
end
end DL

set_option Elab.async false
set_option linter.all false
set_option autoImplicit false
set_option maxRecDepth 100000
namespace DL
variable [TQ]
open PySem PySem.Spec PyProof.Rows L2
/-! ### the rule -/
def grpO (i j k : Nat) (s : DS) : Option Sl → Option (List Int) → SRes
  | some (.ow (.dic [] [])), some vals => if vals.length < 1000000 ∧ j < s.length ∧ k < s.length then .nx ((jkS j k vals vals.length s).set i (.ow (dicG (grpN vals vals.length)))) else .bad
  | _, _ => .bad
def sGrp (i j k r : Nat) : SM := fun s => grpO i j k s s[i]? ((slotD s[r]?).bind intsA)
theorem jkS_ne {j k i : Nat} (hij : i ≠ j) (hik : i ≠ k) (vals : List Int) (s : DS) : ∀ n, (jkS j k vals n s)[i]? = s[i]?
  | 0 => rfl
  | n + 1 => by
    simp only [jkS]
    cases vals[n]? with
    | none => exact jkS_ne hij hik vals s n
    | some v =>
      simp only
      rw [List.getElem?_set_ne (Ne.symm hik), List.getElem?_set_ne (Ne.symm hij)]
      exact jkS_ne hij hik vals s n
theorem jkS_len (j k : Nat) (vals : List Int) (s : DS) : ∀ n, (jkS j k vals n s).length = s.length
  | 0 => rfl
  | n + 1 => by
    simp only [jkS]
    cases vals[n]? with
    | none => exact jkS_len j k vals s n
    | some v => simp only [List.length_set]; exact jkS_len j k vals s n
theorem sqA_keep {K : PySem.W.Frag} {H H' : Hp} {a : Addr} {t : Bool} {l : List V} (h : sqA t K H a l) (hk : ∀ o, H a = some o → (∀ ws, o ≠ .dK ws) → H' a = some o) : sqA t K H' a l := by
  cases t with
  | true =>
    rcases h with (h | ⟨o, h⟩) | h
    · exact .inl (.inl (hk _ h (fun ws z => by cases z)))
    · exact .inl (.inr ⟨o, hk _ h (fun ws z => by cases z)⟩)
    · exact .inr h
  | false =>
    rcases h with (h | ⟨o, h⟩) | h
    · exact .inl (.inl (hk _ h (fun ws z => by cases z)))
    · exact .inl (.inr ⟨o, hk _ h (fun ws z => by cases z)⟩)
    · exact .inr h
section
variable {c : Ctx} {W : XW} {X : Cx}
theorem slot_val {σ : L2.St} {H : Hp} {s : DS} {pend : List PEnt} {r : Nat} {d : D} (R : Rel c σ H s pend) (h : slotD s[r]? = some d) : ∃ v, σ[r]? = some (some v) := by
  cases e : s[r]? with
  | none => rw [e] at h; cases h
  | some sl =>
    rw [e] at h
    cases sl with
    | no => cases h
    | pl d' => obtain ⟨v, e1, _⟩ := R.pl r d' e; exact ⟨v, e1⟩
    | ow d' => obtain ⟨p, e1, _⟩ := R.ow r d' e; exact ⟨_, e1⟩
    | vw d' => obtain ⟨v, e1, _⟩ := R.vw r d' e; exact ⟨v, e1⟩
theorem ps_grpX {i j k r : Nat} {eref ed ek ej tg : Expr} {p pos lpos apos1 cpos1 apos2 cpos2 epos fpos : Pos} (hpo : PassesOwn (model X.prog X.w) X.A X.env X.xe) (hc : X.calm = true) (hm : X.mg "enumerate" = none)
    (href : PE X eref (tVar r)) (hd : PE X ed (tVar i)) (hk : PE X ek (tVar k)) (hj : PE X ej (tVar j)) (hT : PG X tg (gTup X.K 2 (gCons (gName j) (gCons (gName k) gNil)))) {es : List Expr} {kk : Nat} {tpos : Pos} (htg : tg = .Tuple es kk tpos)
    (hij : i ≠ j) (hik : i ≠ k) (hjk : j ≠ k) (hrj : r ≠ j) (hrk : r ≠ k) (hj0 : j ≠ 0 ∨ c.io = none) (hk0 : k ≠ 0 ∨ c.io = none)
    (hM : M2 X ed "setdefault" apos1 ek (.List [] lpos) cpos1 := by exact ⟨rfl, rfl, rfl, rfl⟩)
    (hg : Gl X "enumerate" := by rfl) (hs : starEach [eref] X.env = (false, eval eref X.env) :: starEach [] X.env := by rfl) (hpl : (backTo pos (starEach [] X.env)).any (·.1) = false := by rfl)
    (hbase : attributeBase (.Call (.Attribute ed "setdefault" apos1) [ek, .List [] lpos] [] cpos1) "append" X.env (eval (.Call (.Attribute ed "setdefault" apos1) [ek, .List [] lpos] [] cpos1) X.env) = eval (.Call (.Attribute ed "setdefault" apos1) [ek, .List [] lpos] [] cpos1) X.env := by rfl)
    (hfew : ((backTo cpos2 (starEach [ej] X.env)).all (fun x => !x.1) && (backToKw cpos2 (keywordEach [] X.env)).all (fun x => x.1.isSome) && decide ([ej].length + ([] : List Keyword).length + (if ([] : List Keyword).isEmpty then 0 else 1) < 30)) = true := by rfl)
    (hline : (apos2.endLine == cpos2.line) = true := by rfl) (hs2 : starEach [ej] X.env = (false, eval ej X.env) :: starEach [] X.env := by rfl) (hpl2 : (backTo cpos2 (starEach [] X.env)).any (·.1) = false := by rfl)
    (hsw : swapsWith (.Call (.Attribute (.Call (.Attribute ed "setdefault" apos1) [ek, .List [] lpos] [] cpos1) "append" apos2) [ej] [] cpos2) none epos.line X.env = pure false := by rfl)
    (hfold : ∀ x, foldedSetIterable (.Call (.Name "enumerate" p) [eref] [] pos) X.env x = pure x := by exact fun _ => rfl) :
    PSX c W X (.For tg (.Call (.Name "enumerate" p) [eref] [] pos) [.Expr (.Call (.Attribute (.Call (.Attribute ed "setdefault" apos1) [ek, .List [] lpos] [] cpos1) "append" apos2) [ej] [] cpos2) epos] [] fpos) (sGrp i j k r) := by
  subst htg
  refine PSimp (ps_for hpo hc (pi_en hg hm (pa_cons href pa_nil hs) hs hpl) hT (pss_one (ps_expr (pe_bm PySem.F.plainAttrs_list PySem.F.slot_list_append PySem.F.type_list_append mt_append (pe_dsetd hd hk (pe_lst pa_nil) hM) (pa_cons hj pa_nil hs2) hbase hfew hline hs2 hpl2) hsw)) hfold) fun D σ H ⟨s, pend, R, q⟩ => ?_
  unfold sGrp at q
  cases ev : (slotD s[r]?).bind intsA with
  | none =>
    rw [ev] at q
    have : ∀ o : Option Sl, grpO i j k s o none = .bad := fun o => by unfold grpO; split <;> first | rfl | (rename_i h; cases h)
    rw [this] at q
    exact q.elim
  | some vals =>
    rw [ev] at q
    cases ei : s[i]? with
    | none => rw [ei] at q; exact q.elim
    | some sl =>
      rw [ei] at q
      obtain ⟨d0, ed0, edi⟩ := Option.bind_eq_some_iff.mp ev
      obtain ⟨vr, er⟩ := slot_val R ed0
      obtain ⟨t, a, ea, hsq⟩ := vw_intsA (R.viewS ed0 er) edi
      subst ea
      cases sl with
      | ow dd =>
        cases dd with
        | dic ks ds =>
          cases ks with
          | cons k0 ks => exact q.elim
          | nil =>
            cases ds with
            | cons d1 ds => exact q.elim
            | nil =>
              simp only [grpO] at q
              by_cases hlen : vals.length < 1000000 ∧ j < s.length ∧ k < s.length
              · rw [if_pos hlen] at q
                obtain ⟨pp, ep, ws, hpd, hws, _⟩ := R.ow i _ ei
                have hws' : ws = [] := List.map_eq_nil_iff.mp hws
                subst hws'
                have g0 : GI H H pp [] := ⟨fun b o hb _ => hb, hpd, fun e he => (nomatch he), List.nodup_nil, List.nodup_nil⟩
                refine ⟨.ref a, er, t, a, vals.map .int, rfl, hsq, fun n m σ' H' => m + n = vals.length ∧ ∃ es, GI H H' pp es ∧ esG es = grpN vals n ∧ Rel (c.at X.K) σ' H (jkS j k vals n s) pend ∧ σ'[i]? = some (some (.ref pp)) ∧ σ'[r]? = some (some (.ref a)), ⟨vals.length, rfl, [], g0, rfl, R, ep, er⟩, fun n m σ' H' ⟨hmn, es', g, hes, R', ei', er'⟩ => ?_⟩
                have hsq' : sqA t X.K H' a (vals.map .int) := sqA_keep hsq fun o ho hne => g.old a o ho fun z => by
                  rw [z, hpd] at ho
                  cases ho
                  exact hne _ rfl
                by_cases hn : n < vals.length
                · have e1 : grpN vals (n + 1) = putG (grpN vals n) vals[n] n := by simp only [grpN, List.getElem?_eq_getElem hn]
                  have e2 : jkS j k vals (n + 1) s = ((jkS j k vals n s).set j (.pl (.int n))).set k (.pl (.int vals[n])) := by simp only [jkS, List.getElem?_eq_getElem hn]
                  have R1 := (R'.push (v := .int n) (d := .int n) (by simp only [Rep])).set (i := j) hj0
                  have R2 := (R1.push (v := .int vals[n]) (d := .int vals[n]) (by simp only [Rep])).set (i := k) hk0
                  rw [← e2] at R2
                  have hlσ : σ'.length = s.length := by rw [R'.len, jkS_len]
                  have nj : ((σ'.set j (some (V.int n))).set k (some (V.int vals[n])))[j]? = some (some (V.int n)) := by
                    rw [List.getElem?_set_ne (Ne.symm hjk), List.getElem?_set_self (by rw [hlσ]; exact hlen.2.1)]
                  have nk : ((σ'.set j (some (V.int n))).set k (some (V.int vals[n])))[k]? = some (some (V.int vals[n])) := by
                    rw [List.getElem?_set_self (by rw [List.length_set, hlσ]; exact hlen.2.2)]
                  have ni : ((σ'.set j (some (V.int n))).set k (some (V.int vals[n])))[i]? = some (some (V.ref pp)) := by
                    rw [List.getElem?_set_ne (Ne.symm hik), List.getElem?_set_ne (Ne.symm hij)]; exact ei'
                  have nr : ((σ'.set j (some (V.int n))).set k (some (V.int vals[n])))[r]? = some (some (V.ref a)) := by
                    rw [List.getElem?_set_ne (Ne.symm hrk), List.getElem?_set_ne (Ne.symm hrj)]; exact er'
                  refine .inr ⟨⟨vals.map .int, .int vals[n], hsq', by rw [List.getElem?_map, List.getElem?_eq_getElem hn]; rfl⟩, fun σ3 H3 => σ3 = (σ'.set j (some (V.int n))).set k (some (V.int vals[n])) ∧ ∃ e3, GI H H3 pp e3 ∧ esG e3 = putG (esG es') vals[n] n, ?_, ?_⟩
                  · rintro σ3 H3 ⟨rfl, e3, g3, h3⟩
                    exact ⟨m - 1, by omega, by omega, e3, g3, by rw [h3, hes, e1], R2, ni, nr⟩
                  · rintro x H'' ⟨T, x0, ex, hT0, eH, hx⟩
                    subst ex eH
                    have hx0 : x0 = .int vals[n] := by
                      have := hx _ hsq'
                      rw [List.getElem?_map, List.getElem?_eq_getElem hn] at this
                      cases this; rfl
                    subst hx0
                    refine ⟨T, [.int n, .int vals[n]], rfl, SqT.of upd_same, rfl, .int n, [.int vals[n]], rfl, .int vals[n], [], rfl, rfl, ?_⟩
                    have hle : es'.length = (grpN vals n).length := by rw [← hes]; unfold esG; rw [List.length_map]
                    have hgl := grp_len vals n
                    refine gi_turn (gi_new g hT0 rfl) ni nj nk (by omega) (fun e he => ?_) fun H4 e4 g4 h4 => ⟨rfl, e4, g4, h4⟩
                    have := grp_rows vals n e.2 (by rw [← hes]; exact List.mem_map.mpr ⟨e, he, rfl⟩)
                    omega
                · have hn' : n = vals.length := by omega
                  subst hn'
                  have R3 := R'.sameBut (by rw [jkS_ne hij hik]; exact ei) ei' (let ⟨u, hu, nu⟩ := R'.trackedN (.inr ⟨_, ei', _, by rw [jkS_ne hij hik]; exact ei⟩); .but R'.tabs hu nu g.old) (gi_own g fun a h => R'.trackedO h)
                  rw [hes] at R3
                  exact .inl ⟨⟨vals.map .int, hsq', by simp⟩, q σ' H' R3⟩
              · rw [if_neg hlen] at q; exact q.elim
        | _ => exact q.elim
      | _ => exact q.elim
end
end DL

set_option Elab.async false
set_option linter.all false
set_option autoImplicit false
set_option maxRecDepth 100000
namespace DL
variable [TQ]
open PySem PySem.Spec PyProof.Rows L2
/-! ### sorted(d.items()), values of any kind, over data -/
def intKeys : List Key → Option (List Int)
  | [] => some []
  | .inl i :: ks => (intKeys ks).map (i :: ·)
  | .inr _ :: _ => none
def pairV (p : Int × D) : D := .tup [.int p.1, p.2]
def oItemsV : D → Option D
  | .dic ks ds => (intKeys ks).map fun is => .lst ((sortK (is.zip ds)).map pairV)
  | _ => none
theorem intKeys_spec : ∀ {ks : List Key} {is : List Int}, intKeys ks = some is → ks = is.map fun i => (Sum.inl i : Key)
  | [], is, e => by cases e; rfl
  | .inl i :: ks, is, e => by
    simp only [intKeys] at e
    cases g : intKeys ks with
    | none => rw [g] at e; cases e
    | some js => rw [g] at e; cases e; rw [intKeys_spec g]; rfl
  | .inr _ :: _, is, e => by cases e
section
variable {K : PySem.W.Frag} {O : Addr → Prop} {H : Hp}
/-- values with their data -/
theorem repL_pairs : ∀ {ds : List D} {vs : List V}, RepL K O H ds vs → ∃ q : List (V × D), vs = q.map Prod.fst ∧ ds = q.map Prod.snd ∧ ∀ p ∈ q, Rep K O H p.2 p.1
  | [], vs, r => by simp only [RepL] at r; subst r; exact ⟨[], rfl, rfl, fun p h => nomatch h⟩
  | d :: ds, vs, r => by
    simp only [RepL] at r
    obtain ⟨v, t, ev, r1, r2⟩ := r
    subst ev
    obtain ⟨q, e1, e2, h⟩ := repL_pairs r2
    subst e1 e2
    exact ⟨(v, d) :: q, rfl, rfl, fun p hp => by
      rcases List.mem_cons.mp hp with rfl | hp
      · exact r1
      · exact h p hp⟩
def rItemsV (K : PySem.W.Frag) : V → Hp → VK → Prop := fun x H Q => tyV K "dict" x H ∧ ∃ (d : Addr) (kvs : List (Key × V)), x = .ref d ∧ ([] : List V) = [] ∧ H d = some (.dK kvs) ∧ ∀ p, H p = none → ∃ (r d' : Addr) (ps : List (Int × V)), [V.ref p] = [V.ref r] ∧ upd H p (.ext (isView p d)) r = some (.ext (isView r d')) ∧ upd H p (.ext (isView p d)) d' = some (.dK (kvV ps)) ∧
    ((ps.map Prod.fst).Nodup → ∀ (H' : Hp) (l : Addr) (ts : List Addr), (∀ b o, upd H p (.ext (isView p d)) b = some o → H' b = some o) → upd H p (.ext (isView p d)) l = none → (∀ t ∈ ts, upd H p (.ext (isView p d)) t = none) → H' l = some (.lst (ts.map V.ref)) → Paired (fun t q => H' t = some (.tup [V.int q.1, q.2])) ts (sortK ps) → Q (.ref l) H')
theorem pairsV_rep {O : Addr → Prop} {H' : Hp} : ∀ {ts : List Addr} {qs : List (Int × (V × D))}, (∀ t ∈ ts, ¬ O t) → (∀ q ∈ qs, Rep K O H' q.2.2 q.2.1) → Paired (fun t (q : Int × V) => H' t = some (.tup [V.int q.1, q.2])) ts (qs.map fun q => (q.1, q.2.1)) → RepL K O H' ((qs.map fun q => (q.1, q.2.2)).map pairV) (ts.map V.ref)
  | [], [], _, _, _ => by simp only [List.map_nil, RepL]
  | [], _ :: _, _, _, h => by cases h
  | _ :: _, [], _, _, h => by cases h
  | t :: ts, q :: qs, hO, hq, h => by
    cases h with
    | cons h1 h2 =>
      simp only [List.map_cons]
      refine RepL.cons ?_ (pairsV_rep (fun u hu => hO u (by simp [hu])) (fun p hp => hq p (by simp [hp])) h2)
      unfold pairV
      simp only [Rep, RepL]
      exact ⟨t, _, rfl, .inl ⟨hO t (by simp), .inl h1⟩, _, _, rfl, rfl, _, _, rfl, hq q (by simp), rfl⟩
theorem of_itemsV : OpF1 K oItemsV (rItemsV K) := fun c σ H s pend x d1 d Q eK R v1 e q => by
  cases d1 with
  | dic ks ds =>
    simp only [oItemsV] at e
    cases g : intKeys ks with
    | none => rw [g] at e; cases e
    | some is =>
      rw [g] at e
      simp only [Option.map_some, Option.some.injEq] at e
      subst e
      obtain ⟨a, ws, ea, ha, hk, r⟩ := vw_dic v1
      subst ea hk
      have hks := intKeys_spec g
      obtain ⟨vd, e1, e2, hvd⟩ := repL_pairs r
      subst e2
      have hws : ws = kvV (is.zip (vd.map Prod.fst)) := by
        have : ∀ (ws : List (Key × V)) (is : List Int) (vs : List V), ws.map Prod.fst = is.map (fun i => (Sum.inl i : Key)) → ws.map Prod.snd = vs → ws = kvV (is.zip vs) := by
          intro ws
          induction ws with
          | nil =>
            intro is vs h1 h2
            have : is = [] := by simpa using h1.symm
            subst this; rfl
          | cons w ws ih =>
            intro is vs h1 h2
            cases is with
            | nil => simp at h1
            | cons i is =>
              cases vs with
              | nil => simp at h2
              | cons v vs =>
                simp only [List.map_cons, List.cons.injEq] at h1 h2
                obtain ⟨k, x⟩ := w
                simp only at h1 h2
                rw [h1.1, h2.1, ih is vs h1.2 h2.2]
                rfl
        exact this ws is _ hks e1
      subst hws
      have hz1 : is.zip (vd.map Prod.fst) = (is.zip vd).map fun q => (q.1, q.2.1) := by rw [List.zip_map_right]; rfl
      have hz2 : is.zip (vd.map Prod.snd) = (is.zip vd).map fun q => (q.1, q.2.2) := by rw [List.zip_map_right]; rfl
      refine ⟨.inr (.inr (.inl ⟨rfl, .inl ⟨_, ha⟩⟩)), a, _, rfl, rfl, ha, fun p hp => ⟨p, a, is.zip (vd.map Prod.fst), rfl, upd_same, ?_, fun _ H' l ts hH hl hts h1 h2 => ?_⟩⟩
      · rw [upd_ne (fun z => by rw [z, hp] at ha; cases ha)]; exact ha
      · have hlp : l ≠ p := fun z => by rw [z, upd_same] at hl; cases hl
        rw [upd_ne hlp] at hl
        have hold : ∀ b o, H b = some o → H' b = some o := fun b o hb => hH b o (by rw [upd_ne (fun z => by rw [z, hp] at hb; cases hb)]; exact hb)
        rw [hz1, sortK_map (fun q : V × D => q.1)] at h2
        rw [hz2, sortK_map (fun q : V × D => q.2)] at q
        refine q _ _ (R.calledF (.of R.tabs hold) hl ⟨ts.map V.ref, h1, pairsV_rep (fun t ht z => ?_) (fun w hw => ?_) h2⟩)
        · have ht2 := hts t ht
          have htp : t ≠ p := fun z => by rw [z, upd_same] at ht2; cases ht2
          rw [upd_ne htp] at ht2
          rcases z with z | z
          · exact R.trackedO z ht2
          · obtain ⟨j, y, _, _, e3⟩ := LiI.paired_ix h2 ht
            rw [z, h1] at e3; cases e3
        · have hw2 : w ∈ is.zip vd := (sortK_perm _).mem_iff.mp hw
          have hw3 : w.2 ∈ vd := (List.of_mem_zip hw2).2
          have hr := hvd _ hw3
          rw [← eK] at hr
          exact hr.mono fun b u hn hb _ => ⟨fun z => z.elim (fun z => hn z) (fun z => by rw [z, hl] at hb; cases hb), hold b u hb⟩
  | _ => cases e
variable {c : Ctx} {W : XW} {X : Cx} {e o : Expr} {a1 : Arg} {p q apos cpos pos : Pos}
theorem pxf_itemsV (hc : X.calm = true) (hm : X.mg "sorted" = none) (ho : PAg c W X e a1) (hg : Gl X "sorted" := by rfl)
    (hbase : attributeBase e "items" X.env (eval e X.env) = eval e X.env := by rfl) (hline : (apos.endLine == cpos.line) = true := by rfl)
    (hs : starEach [.Call (.Attribute e "items" apos) [] [] cpos] X.env = (false, eval (.Call (.Attribute e "items" apos) [] [] cpos) X.env) :: starEach [] X.env := by rfl) (hpl : (backTo pos (starEach [] X.env)).any (·.1) = false := by rfl) :
    PXF c W X (.Call (.Name "sorted" p) [.Call (.Attribute e "items" apos) [] [] cpos] [] pos) (mOp1 oItemsV a1) :=
  PEimp (pe_callB (cr_sortItemsV hc) hg hm (by decide +kernel) (pa_cons (pe_bm0 PySem.F.plainAttrs_dict PySem.F.slot_dict_items PySem.F.type_dict_items mt_itemsK ho hbase hline) pa_nil hs) (by decide) (by decide) hs hpl) fun σ H Q h => TF_op1 (c := c.at X.K) of_itemsV h
end
/-- the groups in order -/
theorem intKeys_map : ∀ is : List Int, intKeys (is.map fun i => (Sum.inl i : Key)) = some is
  | [] => rfl
  | i :: is => by simp only [List.map_cons, intKeys, intKeys_map is, Option.map_some]
theorem oItemsV_G (gs : List (Int × List Int)) : oItemsV (dicG gs) = some (.lst ((sortK gs).map fun g => .tup [.int g.1, .lst (g.2.map .int)])) := by
  show (intKeys _).map _ = _
  rw [show (gs.map fun g => (Sum.inl g.1 : Key)) = (gs.map Prod.fst).map fun i => (Sum.inl i : Key) by rw [List.map_map]; rfl, intKeys_map, Option.map_some]
  have hz : (gs.map Prod.fst).zip (gs.map fun g => D.lst (g.2.map .int)) = gs.map fun g => (g.1, D.lst (g.2.map .int)) := by
    rw [List.zip_map']
  rw [hz, sortK_map (fun ns : List Int => D.lst (ns.map .int)), List.map_map]
  rfl
end DL

set_option Elab.async false
set_option linter.all false
set_option autoImplicit false
set_option maxRecDepth 100000
namespace DL
variable [TQ]
open PySem PySem.Spec PyProof.Rows L2
/-! ### (e, *xs), tuple(range(n)) -/
def oStar1 (d1 d2 : D) : Option D := (seqOf d2).bind fun ds => if ds.length ≤ 100000 then some (.tup (d1 :: ds)) else none
def mTupS1 (m1 : M D) (a2 : Arg) : M D := fun s => (m1 s).bind fun d1 s => (aEv a2 s).bind fun r2 s => lift ((aGet r2 s).bind fun d2 => oStar1 d1 d2) s
def kTupRg : D → DS → Ores D
  | .int n, s => if n ≤ 1000000 ∧ -1000000 ≤ n then .ok (.tup (rngD 0 n.toNat)) s else .bad
  | _, _ => .bad
def mTupRg (m : M D) : M D := fun s => (m s).bind kTupRg
section
variable {c : Ctx} {W : XW} {X : Cx} {e e1 e2 : Expr} {m m1 : M D} {a2 : Arg} {p p2 pos : Pos} {k : Nat}
theorem rng_rep {K : PySem.W.Frag} {O : Addr → Prop} {H : Hp} (n : Int) : RepL K O H (rngD 0 n.toNat) (rgV 0 n) := by
  unfold rngD rgV
  rw [show (n - 0).toNat = n.toNat by omega]
  generalize List.range n.toNat = l
  induction l with
  | nil => simp only [List.map_nil, RepL]
  | cons i l ih => simp only [List.map_cons]; exact RepL.cons (by simp only [Rep]) ih
theorem px_tupRg (hc : X.calm = true) (hm : X.mg "tuple" = none) (hm2 : X.mg "range" = none) (h : PX c W X e m) (hg : Gl X "tuple" := by rfl) (hg2 : Gl X "range" := by rfl)
    (hs : starEach [e] X.env = (false, eval e X.env) :: starEach [] X.env := by rfl)
    (hs2 : starEach [.Call (.Name "range" p2) [e] [] p] X.env = (false, eval (.Call (.Name "range" p2) [e] [] p) X.env) :: starEach [] X.env := by rfl) {p3 : Pos} :
    PX c W X (.Call (.Name "tuple" p3) [.Call (.Name "range" p2) [e] [] p] [] pos) (mTupRg m) :=
  PEimp (pe_tupRg hc hg hm (prg_1 hg2 hm2 h hs) hs2) fun σ H Q ⟨s, pend, R, q⟩ => by
    refine ⟨s, pend, R, q.bind.mono fun d s1 q1 v H1 R1 => ?_⟩
    cases d with
    | int n =>
      have hv := R1.head
      simp only [Rep] at hv
      subst hv
      simp only [kTupRg] at q1
      by_cases hn : n ≤ 1000000 ∧ -1000000 ≤ n
      · rw [if_pos hn] at q1
        refine ⟨n, rfl, ⟨by decide, by decide, by omega, by omega, ?_⟩, fun t ht => q1 _ _ (R1.drop.tup ht (rng_rep n))⟩
        have : (n - 0).toNat ≤ 1000000 := by omega
        exact Nat.le_trans this (by decide)
      · rw [if_neg hn] at q1; exact q1.elim
    | _ => exact q1.elim
theorem px_tupS1 (h1 : PX c W X e1 m1) (h2 : PAg c W X e2 a2) (hs : starEach [e1, .Starred e2 p2] X.env = (false, eval e1 X.env) :: starEach [.Starred e2 p2] X.env := by rfl) : PX c W X (.Tuple [e1, .Starred e2 p2] k pos) (mTupS1 m1 a2) :=
  PEimp (pe_tup (pa_cons h1 (StX.pa_star h2 pa_nil) hs)) fun σ H Q ⟨s, pend, R, q⟩ => by
    refine ⟨s, pend, R, q.bind.mono fun d1 s1 q1 x H1 R1 => ⟨s1, _, R1, q1.bind.mono fun r2 s2 q2 y H2 e2 R2 => ?_⟩⟩
    obtain ⟨d, hd, q3⟩ := q2.lift
    cases g : aGet r2 s2 with
    | none => rw [g] at hd; cases hd
    | some d2 =>
      rw [g] at hd
      simp only [Option.bind_some, oStar1] at hd
      cases g2 : seqOf d2 with
      | none => rw [g2] at hd; cases hd
      | some ds =>
        rw [g2] at hd
        simp only [Option.bind_some] at hd
        by_cases hl : ds.length ≤ 100000
        · rw [if_pos hl] at hd
          cases hd
          obtain ⟨a, xs, ea, hq, hr⟩ := vw_sqA (R2.viewA g e2 fun e h => mem_aPend1 e h) g2
          refine ⟨a, xs, ea, ?_, ?_⟩
          · cases hb : isTupD d2 with
            | true => rw [hb] at hq; exact .inl hq
            | false => rw [hb] at hq; exact .inr hq
          · show (x :: (xs ++ [])).length ≤ sizeLine ∧ ∀ t, H2 t = none → Q (V.ref t) (upd H2 t (.tup (x :: (xs ++ []))))
            rw [List.append_nil]
            have hx : Rep (c.at X.K).K (Oof (c.at X.K) σ s2 (aPend r2 y ((x, false, d1) :: pend))) H2 d1 x := R2.pd (x, false, d1) (mem_aPend2 List.mem_cons_self)
            refine ⟨?_, fun t ht => ?_⟩
            · rw [List.length_cons, ← hr.length]
              exact Nat.le_trans (Nat.succ_le_succ hl) (by decide)
            · exact q3 _ _ (R2.tup ht (RepL.cons hx hr)).dropA.under 
        · rw [if_neg hl] at hd; cases hd
end
section
variable (s : DS) (m m1 : M D) (a2 : Arg) (r2 : AV) (d1 d2 : D) (n : Int) (ds : List D)
@[simp] theorem mTupRg_run : mTupRg m s = (m s).bind kTupRg := rfl
theorem kTupRg_ok (h : n ≤ 1000000) (h2 : -1000000 ≤ n) : kTupRg (.int n) s = .ok (.tup (rngD 0 n.toNat)) s := if_pos ⟨h, h2⟩
def kTS1b (d1 : D) (r2 : AV) (s : DS) : Ores D := lift (oo1 (oStar1 d1) (aGet r2 s)) s
def kTS1 (a2 : Arg) (d1 : D) (s : DS) : Ores D := (aEv a2 s).bind (kTS1b d1)
@[simp] theorem kTS1b_run : kTS1b d1 r2 s = lift (oo1 (oStar1 d1) (aGet r2 s)) s := rfl
@[simp] theorem kTS1_run : kTS1 a2 d1 s = (aEv a2 s).bind (kTS1b d1) := rfl
@[simp] theorem mTupS1_run : mTupS1 m1 a2 s = (m1 s).bind (kTS1 a2) := by
  unfold mTupS1 kTS1 kTS1b
  simp only [oo1_eq]
theorem oStar1_tup (h : ds.length ≤ 100000) : oStar1 d1 (.tup ds) = some (.tup (d1 :: ds)) := if_pos h
@[simp] theorem sGrp_run (i j k r : Nat) : sGrp i j k r s = grpO i j k s s[i]? ((slotD s[r]?).bind intsA) := rfl
theorem grpO_ok (i j k : Nat) (vals : List Int) (h : vals.length < 1000000 ∧ j < s.length ∧ k < s.length) : grpO i j k s (some (.ow (.dic [] []))) (some vals) = .nx ((jkS j k vals vals.length s).set i (.ow (dicG (grpN vals vals.length)))) := if_pos h
end
end DL

set_option Elab.async false
set_option linter.all false
set_option autoImplicit false
set_option maxRecDepth 100000
namespace DL
variable [TQ]
open PySem PySem.Spec PyProof.Rows L2
/-! ### a constant of a module: a tuple of strings -/
def ConstS (K : PySem.W.Frag) (a : Addr) (ss : List Str) : Prop :=
  ∃ (o : Obj) (its : Array Value) (n : Nat), K.lookup a = some o ∧ o.cls = .type "tuple" ∧ o.data = .seq its n ∧ its.size ≤ sizeLine ∧ Vals (ss.map V.str) its.toList
theorem repL_strs {K : PySem.W.Frag} {O : Addr → Prop} {H : Hp} : ∀ ss : List Str, RepL K O H (ss.map D.str) (ss.map V.str)
  | [] => by simp only [List.map_nil, RepL]
  | s :: ss => by
    simp only [List.map_cons, RepL]
    exact ⟨_, _, rfl, by simp only [Rep], repL_strs ss⟩
theorem rep_constS {K : PySem.W.Frag} {a : Addr} {ss : List Str} (h : ConstS K a ss) (O : Addr → Prop) (H : Hp) : Rep K O H (.tup (ss.map .str)) (.ref a) := by
  simp only [Rep]
  exact ⟨a, _, rfl, .inr (.inr h), repL_strs ss⟩
section
variable {X : Cx} {c : Ctx} {W : XW}
theorem px_constS {x : Str} {a : Addr} {ss : List Str} {pos : Pos} (h : ConstS X.K a ss) (hm : X.mg x = some (.ref a)) (hg : Gl X x := by rfl) (hd : (x == ("__debug__" : Str)) = false := by decide) : PX c W X (.Name x pos) (mC (.tup (ss.map .str))) :=
  PEimp (pe_glob (v := .ref a) hg hm rfl hd) fun σ H Q ⟨s, pend, R, q⟩ => q (.ref a) H (R.push (rep_constS h _ _))
end
end DL

set_option Elab.async false
set_option linter.all false
set_option autoImplicit false
set_option maxRecDepth 100000
namespace DL
open PySem PySem.Spec PyProof.Rows L2 PySem.W

/-! ### a lambda of one parameter, its body evaluated at the bare heap -/
section
variable {prog : Program} {w : World} {A : Around} {env : Env} {E : Value → Shared → Prop} {s : Shared} {m : Str → Option Value} {x : Str} {a : Addr} {its : List Value}
/-- x[k] of a tuple -/
theorem raw_ix {k : Nat} {v : Value} {i : Nat} {p cp pos : Pos} {Q : Value → Shared → Prop} (hk : env.scope.kind = .function) (hl : env.kindOf x = some .local) (hn : s.heap.Ns env.locals m) (hm : m x = some (.ref a)) (ht : IsTup s.heap a its.toArray)
    (hz : its.length ≤ 1000) (e : its[k]? = some v) (hq : Q v { s with toks := s.toks + 1 }) (hd : (x == ("__debug__" : Str)) = false := by decide) :
    wpAny (model prog w) A (eval (.Subscript (.Name x p) (.Constant (.int k) i cp) pos) env) Q E s := by
  have hk2 : k < its.length := (List.getElem?_eq_some_iff.mp e).1
  refine Subscript_ (wpAny_Name (wpAny_loadName_local hk hl hn hm ?_) hd)
  refine wpAny_Constant_int ?_
  have h0 : ¬ ((k : Int) < 0) := by omega
  have hj : seqIndex? (k : Int) its.toArray.size = some k := by simp [seqIndex?, h0, hk2]
  exact subscriptTail_builtinR (x := v) (IsTup.typeIs ht) slot_tuple_getitem.lookup (getItem_tuple (j := k) (Q := fun r s' => r = v ∧ Q r s') ht (by omega) (by omega) hj (by simpa using e) ⟨rfl, hq⟩) (by rfl)
/-- (-x[1], x[0]) of a pair of ints -/
theorem raw_negpair {v1 v2 : Int} {t1 t2 : Tok} {i1 i2 : Nat} {p1 c1 q1 u1 p2 c2 q2 pos : Pos} {k3} {Q : Value → Shared → Prop} (hk : env.scope.kind = .function) (hl : env.kindOf x = some .local) (hn : s.heap.Ns env.locals m) (hm : m x = some (.ref a)) (ht : IsTup s.heap a #[.int v1 t1, .int v2 t2])
    (hq : ∀ (tk : Nat) (t : Tok), Q (.ref s.heap.objs.size) { s with heap := s.heap.push { cls := .type "tuple", data := .seq #[.int (-v2) t, .int v1 t1] }, toks := tk }) (hd : (x == ("__debug__" : Str)) = false := by decide) :
    wpAny (model prog w) A (eval (.Tuple [.UnaryOp .USub (.Subscript (.Name x p1) (.Constant (.int 1) i1 c1) q1) u1, .Subscript (.Name x p2) (.Constant (.int 0) i2 c2) q2] k3 pos) env) Q E s := by
  refine wpAny_Tuple_spliced ?_
  show wpAny _ _ (spliced [(false, _), (false, _)]) _ _ _
  refine Calls.spliced_cons (UnaryOp_ (raw_ix (k := 1) (its := [.int v1 t1, .int v2 t2]) hk hl hn hm ht (show 2 ≤ 1000 by decide) rfl (neg_int ?_) hd))
  refine Calls.spliced_cons (raw_ix (k := 0) (its := [.int v1 t1, .int v2 t2]) hk hl hn hm ht (show 2 ≤ 1000 by decide) rfl (Calls.spliced_nil ⟨(show 2 ≤ sizeLine by decide), ?_⟩) hd)
  exact hq _ _
end
/-- a lambda's names: its parameter alone -/
structure Lam1 (x : Str) (scope : Scope) : Prop where
  kind : scope.kind = .function
  co : scope.isCoroutine = false
  gen : scope.isGenerator = false
  par : scope.names.lookup x = some .local
  own : ∀ y ∈ scope.names, y.2 ≠ .cell ∧ y.2 ≠ .free
section
variable {prog : Program} {w : World} {A : Around} {s : Shared} {x q : Str} {f c' : Addr} {v : Value} {params : Arguments} {body : Expr} {scope : Scope} {cl : List (Str × Addr)} {pm ctv : Value} {d : PyData}
theorem raw_call (L : Lam1 x scope) (ho : s.heap.get? f = some (kla_obj "<lambda>" q params body scope cl pm c' ctv)) (hcd : s.heap.CodeRec (.ref c') q) (hroom : A.depth < recursionLimit) (hnl : s.heap.NoLimit)
    (hbind : bindArgs (kla_fn "<lambda>" q params body scope cl pm (.ref c') ctv) ⟨[v], []⟩ = pure [(x, v)])
    (hb : ∀ (s1 : Shared) (env : Env), (∃ tk, s1 = { s with heap := s1.heap, toks := tk }) → (∀ b o, s.heap.get? b = some o → s1.heap.get? b = some o) → env.scope = scope → s1.heap.Ns env.locals (fun y => [(x, v)].reverse.lookup y) →
      wpAny (model prog w) (A.deeper env) (eval body env) (KeyPure d s1) (fun _ _ => False) s1) :
    wpAny (model prog w) A (call (.ref f) [v]) (KeyPure d s) (fun _ _ => False) s := by
  refine wpAny_call ?_
  refine kla_callFunE hroom ho rfl L.co L.gen rfl hcd ?_
  rw [hbind]
  refine wpAny_pure (wpAny_newFunctionEnv (fun y hy => (L.own y hy).1) (fun y hy => ?_) (fun h₁ hns hsb => ⟨hnl.fresh _ hsb, ?_⟩) L.kind)
  · rcases List.mem_cons.mp hy with e | e
    · subst e; exact L.par
    · cases e
  · have kp : ∀ b o, s.heap.get? b = some o → h₁.get? b = some o := fun b o e => hsb.extBut b o (Nat.ne_of_lt (Heap.lt_size e)) (Heap.get?_push_of_some _ e)
    refine kla_codeExpr (wpAny_mono (hb _ _ ⟨_, rfl⟩ kp rfl hns) (fun u s' hq => ?_) fun e s' hq => hq.elim)
    obtain ⟨h', tk, e, k2, r⟩ := hq
    subst e
    exact ⟨h', tk, rfl, fun b o z => k2 b o (kp b o z), r⟩
end

/-! ### sorted(xs, key=f) of a list or a tuple -/
section
variable {prog : Program} {w : World} {A : Around} {E : Value → Shared → Prop} {s : Shared} {β : Type} {vs : List Value} {bs : List β} {R : Value → β → Prop}
theorem sortedKey_sq {t : Bool} {l f : Addr} {Q : Value → Shared → Prop} (k : β → PyData) (hl : hSq t s.heap l vs.toArray) (e : EachIs R vs bs) (hal : AllAlike (bs.map k)) (hk : Sortable (bs.map k)) (hL : bs.length ≤ sizeLine)
    (hu : ∀ x, x ∈ bs → A.units + 2 + (k x).depth < cLine)
    (turn : ∀ (v : Value) (x : β), R v x → x ∈ bs → ∀ (h : Heap) (tk : Nat), (∀ b o, s.heap.get? b = some o → h.get? b = some o) →
      wpAny (model prog w) A.in1.in1 (call (.ref f) [v]) (KeyPure (k x) { s with heap := h, toks := tk }) (fun _ _ => False) { s with heap := h, toks := tk })
    (h : ∀ (out : List Value) (h' : Heap) (tk : Nat) (d : Addr), (∀ b o, s.heap.get? b = some o → h'.get? b = some o) → s.heap.objs.size ≤ d → (∃ n, h'.get? d = some (seqObj "list" out.toArray n)) → out.length = bs.length → EachIs R out (bs.mergeSort (dataLe false k)) → Q (.ref d) { s with heap := h', toks := tk }) :
    wpAny (model prog w) A (call (.builtin "sorted") [.ref l] [(Str.ofString "key", .ref f)]) Q E s := by
  have hz : vs.length ≤ sizeLine := by rw [e.length]; exact hL
  refine call_function_entry_kw kind_sorted plain_sorted entry_sorted (ksk_s1 _ _) ?_
  unfold Builtin.«sorted»
  refine wpAny_bind (m := checkCount "sorted" 1 1 _) (wpAny_pure ?_)
  refine wpAny_bind (gather_sq hl hz ?_)
  generalize hh : (s.heap.push (seqObj "list" #[] 0)).update s.heap.objs.size (Obj.mapSeq (· ++ vs.toArray)) = h1
  have hkp : ∀ b o, s.heap.get? b = some o → h1.get? b = some o := fun b o q => by
    rw [← hh, Heap.get?_update_ne _ _ _ _ (Nat.ne_of_lt (Heap.lt_size q))]
    exact Heap.get?_push_of_some _ q
  have hle : s.heap.objs.size ≤ h1.objs.size := by
    rw [← hh, Heap.size_update, size_push']
    exact Nat.le_succ _
  refine wpAny_bind (wpAny_newList ?_ hz)
  have hoL : (h1.push (seqObj "list" vs.toArray 0)).get? h1.objs.size = some (seqObj "list" vs.toArray 0) := Heap.get?_push_size _ rfl
  have kp : ∀ (g : Heap), KeepsBut h1.objs.size (h1.push (seqObj "list" vs.toArray 0)) g → ∀ b o, s.heap.get? b = some o → g.get? b = some o := fun g kg b o q =>
    kg b o (Nat.ne_of_lt (Heap.lt_size (hkp b o q))) (Heap.get?_push_of_some _ (hkp b o q))
  show wpAny _ _ _ _ _ { s with heap := h1.push (seqObj "list" vs.toArray 0) }
  refine wpAny_bind (wpAny_holding (list_sort_key_data (s := { s with heap := h1.push (seqObj "list" vs.toArray 0) }) k hoL e hal hk hL hu (ksk_l1 _ _) (ksk_t1 _ _) (fun v x r hx g tk kg => turn v x r hx g tk (kp g kg)) fun out c h' tk kg hg hlen he => wpAny_pure ⟨_, rfl, ?_⟩))
  exact h out h' tk h1.objs.size (kp h' kg) hle ⟨c, hg⟩ hlen he
end
end DL

set_option Elab.async false
set_option linter.all false
set_option autoImplicit false
set_option maxRecDepth 100000
namespace DL
variable [TQ]
open PySem PySem.Spec PyProof.Rows L2 PySem.W

/-! ### sorted(xs, key=lambda p: (-p[1], p[0])) over pairs of ints -/
section
variable {c : Ctx} {σ : L2.St} {H H1 : Hp} {s : DS} {pend : List PEnt}
/-- behind the making of a lambda -/
theorem Rel.lam (R : Rel c σ H s pend) (hx : LamX.ExtN H H1) (ht : Tbs H1) (hb : ∀ b ps, c.H0 b = some (.tbl ps) → ∃ ps', H1 b = some (.tbl ps')) : Rel c σ H1 s pend := by
  have hg : ∀ a u, H a = some u → NT u → H1 a = some u := fun a u e n => hx a u e n.1
  have k : Keep (Oof c σ s pend) H (Oof c σ s pend) H1 := fun a u n e nt => ⟨n, hg a u e nt⟩
  have ke : ∀ q, (∃ u, H q = some u ∧ NT u) → H1 q = H q := fun q ⟨u, e, n⟩ => by rw [e]; exact hg q u e n
  refine ⟨R.len, fun i d h => ?_, fun i d h => ?_, fun e h => ?_, R.inj, R.ndp, R.sep, R.new, fun b o h n => ?_, R.o0, R.iok, R.io0, fun i d h => ?_, ht⟩
  · obtain ⟨v, e1, r⟩ := R.pl i d h
    exact ⟨v, e1, r.mono k⟩
  · obtain ⟨q, e1, r⟩ := R.ow i d h
    exact ⟨q, e1, r.mono k (ke q r.nt)⟩
  · exact (R.pd e h).mono k fun q d e2 => ke q (by
      have hq := R.pd e h
      rw [e2] at hq
      obtain ⟨q', e1, r⟩ := hq
      cases e1
      exact r.nt)
  · obtain ⟨u, e1, s1⟩ := R.frame b o h n
    by_cases z : ∃ ps, o = .tbl ps
    · obtain ⟨ps, z⟩ := z
      subst z
      obtain ⟨ps', e2⟩ := hb b ps h
      exact ⟨_, e2, .inr ⟨ps, ps', rfl, rfl⟩⟩
    · rcases s1 with e2 | ⟨ps, _, e2, _⟩
      · subst e2
        exact ⟨u, hx b u e1 fun ps y => z ⟨ps, y⟩, .refl u⟩
      · exact absurd ⟨ps, e2⟩ z
  · obtain ⟨v, e1, r⟩ := R.vw i d h
    exact ⟨v, e1, r.mono k (fun q _ _ h3 => ke q h3) fun _ r => r.nt⟩
end
def ps2 : List D → Option (List (Int × Int))
  | [] => some []
  | .tup [.int a, .int b] :: r => (ps2 r).map ((a, b) :: ·)
  | _ => none
theorem ps2_spec : ∀ {ds : List D} {ps : List (Int × Int)}, ps2 ds = some ps → ds = ps.map pairD
  | [], ps, e => by cases e; rfl
  | d :: r, ps, e => by
    unfold ps2 at e
    split at e
    · rename_i z; cases z
    · rename_i a b r' z
      cases z
      cases g : ps2 r with
      | none => rw [g] at e; cases e
      | some qs =>
        rw [g] at e
        cases e
        rw [ps2_spec g]
        rfl
    · cases e
theorem ps2_map : ∀ ps : List (Int × Int), ps2 (ps.map pairD) = some ps
  | [] => rfl
  | p :: ps => by
    show (ps2 (ps.map pairD)).map _ = _
    rw [ps2_map ps]
    rfl
def keyNB (p : Int × Int) : PyData := .tuple [.int (-p.2), .int p.1]
noncomputable def oSortNB (d : D) : Option D := ((seqOf d).bind ps2).map fun ps => .lst ((ps.mergeSort (dataLe false keyNB)).map pairD)
@[simp] theorem oSortNB_tup (ps : List (Int × Int)) : oSortNB (.tup (ps.map pairD)) = some (.lst ((ps.mergeSort (dataLe false keyNB)).map pairD)) := by
  unfold oSortNB
  rw [show seqOf (.tup (ps.map pairD)) = some (ps.map pairD) from rfl, Option.bind_some, ps2_map]
  rfl
def rLam (c : Ctx) (σ : L2.St) (f : D → Option D) : V → Hp → VK → Prop := fun x H1 Q => ∃ (s : DS) (pend : List PEnt) (d1 d : D), Rel c σ H1 s pend ∧ (∀ H2, Rel c σ H2 s pend → Vw c.K (Oof c σ s pend) H2 d1 x) ∧ f d1 = some d ∧ ∀ v H', Rel c σ H' s ((v, true, d) :: pend) → Q v H'
theorem TF_lam {c : Ctx} {W : XW} {f : D → Option D} {a1 : Arg} {σ : L2.St} {H : Hp} {Q : VK} (h : TF c W (mOp1 f a1) σ H Q) : TAg c W a1 σ H fun x H' => rLam c σ f x H' Q := by
  obtain ⟨s, pend, R, q⟩ := h
  refine ⟨s, pend, R, q.bind.mono fun r1 s1 q1 x H1 e1 R1 => ?_⟩
  obtain ⟨d, hd', q3⟩ := q1.lift
  cases g1 : aGet r1 s1 with
  | none => rw [g1] at hd'; cases hd'
  | some d1 =>
    rw [g1] at hd'
    exact ⟨s1, _, d1, d, R1, fun H2 R2 => R2.viewA g1 e1 fun e h => mem_aPend1 e h, hd', fun v H' R' => q3 v H' R'.dropAT⟩
section
variable {K : PySem.W.Frag} {O : Addr → Prop} {H : Hp}
theorem repL_zip {β : Type} {g : β → D} : ∀ {bs : List β} {xs : List V}, RepL K O H (bs.map g) xs → ∀ b ∈ xs.zip bs, Rep K O H (g b.2) b.1
  | [], xs, _, b, hb => by simp at hb
  | p :: ps, xs, h, b, hb => by
    simp only [List.map_cons, RepL] at h
    obtain ⟨x, r, e, h1, h2⟩ := h
    subst e
    rw [List.zip_cons_cons] at hb
    rcases List.mem_cons.mp hb with z | z
    · subst z; exact h1
    · exact repL_zip h2 b z
theorem repL_of {β : Type} {g : β → D} : ∀ {l : List (V × β)}, (∀ b ∈ l, Rep K O H (g b.2) b.1) → RepL K O H (l.map fun b => g b.2) (l.map Prod.fst)
  | [], _ => by simp only [List.map_nil, RepL]
  | b :: l, h => by
    simp only [List.map_cons]
    exact RepL.cons (h b (by simp)) (repL_of fun c hc => h c (by simp [hc]))
end
theorem each_zip {β : Type} {P : Value → β → Prop} {xs : List V} {its : List Value} {bs : List β} (rv : Vals xs its) (hl : bs.length = xs.length) (h : ∀ (x : V) (v : Value) (b : β), (x, b) ∈ xs.zip bs → RelV x v → P v b) : EachIs (fun v (b : V × β) => RelV b.1 v ∧ P v b.2) its (xs.zip bs) := by
  induction rv generalizing bs with
  | nil => exact .nil
  | cons r t ih =>
    cases bs with
    | nil => cases hl
    | cons b bs =>
      rw [List.zip_cons_cons]
      refine .cons ⟨r, h _ _ _ (by rw [List.zip_cons_cons]; exact List.mem_cons_self) r⟩ (ih (by simpa using hl) fun x v b hm rx => h x v b (by rw [List.zip_cons_cons]; exact List.mem_cons_of_mem _ hm) rx)
theorem each_vals {β : Type} {P : Value → β → Prop} : ∀ {out : List Value} {l : List (V × β)}, EachIs (fun v (b : V × β) => RelV b.1 v ∧ P v b.2) out l → Vals (l.map Prod.fst) out
  | _, _, .nil => .nil
  | _, _, .cons h t => .cons h.1 (each_vals t)

theorem sqA_le {X : Cx} {t : Bool} {pins : List (Addr × Obj)} {σ : L2.St} {H : Hp} {s : Shared} {a : Addr} {xs : List V} (I : Inv X pins σ H s) (h : sqA t X.K H a xs) : xs.length ≤ sizeLine := by
  cases t with
  | true => obtain ⟨_, _, _, hz⟩ := I.tuple h; exact hz
  | false => obtain ⟨_, _, _, hz⟩ := I.list h; exact hz
/-- what a def with a lambda knows of its code object and its table -/
structure LamD (X : Cx) (c : Ctx) (q : Str) : Prop where
  tb : ∃ cc P, LamX.TabB X.base X.mg cc P ∧ X.env.code = .ref cc ∧ (P, q ++ "<lambda>") ∈ TQ.tq ∧ ∀ p ∈ TQ.tq, p.1 = P → p.2 = q ++ "<lambda>"
  qual : X.env.qual = q
  h0 : c.H0 = X.H_0
section
variable {c : Ctx} {W : XW} {X : Cx} {e : Expr} {a1 : Arg} {p pos lpos kpos : Pos} {params : Arguments} {scope : Scope} {x : Str} {q : Str} {k : Nat}
theorem lam_made {pins : List (Addr × Obj)} {σ : L2.St} {H : Hp} {s : Shared} {params : Arguments} {body : Expr} {E Q : Value → Shared → Prop} (I : Inv X pins σ H s) (Ld : LamD X c q) (ht : Tbs H) (hdef : defaultsOf params X.env = ([], [])) (L : Lam1 x scope)
    (h : ∀ (f c' : Addr) (pm ctv : Value) (H1 : Hp) (s' : Shared), Inv X pins σ H1 s' → (∀ ds pend, Rel (c.at X.K) σ H ds pend → Rel (c.at X.K) σ H1 ds pend) →
      s'.heap.get? f = some (kla_obj "<lambda>" (q ++ "<lambda>") params body scope (cloFrom X.env.cells scope.names []) pm c' ctv) → s'.heap.CodeRec (.ref c') (q ++ "<lambda>") → Q (.ref f) s') :
    wpAny (model X.prog X.w) X.A (eval (.Lambda params body scope pos) X.env) Q E s := by
  obtain ⟨⟨cc, P, TB, hc, hm, hu⟩, hq, h0⟩ := Ld
  subst hq
  refine LamX.lam_make2 I TB hc hm hu ht hdef (fun y hy e => absurd e (L.own y hy).2) fun f c' pm ctv H1 s' I1 hx ht1 hf _ _ hco => ?_
  refine h f c' pm ctv H1 s' I1 (fun ds pend R => R.lam hx ht1 fun b ps hb => ?_) hf ?_
  · have hb' : X.H_0 b = some (.tbl ps) := by rw [← h0]; exact hb
    obtain ⟨more, e⟩ := I1.base.tbls b ps hb'
    exact ⟨_, e⟩
  · obtain ⟨⟨oc, vs, t, g1, g2, g3⟩, _, _⟩ := I1.hok c' _ hco
    exact ⟨c', oc, vs, t, rfl, g1, g2, g3⟩
theorem pxf_sortNB {p1 c1 q1 u1 p2 c2 q2 tpos : Pos} {i1 i2 k3 : Nat} (Ld : LamD X c q) (hr : Room (k + 1) X.A) (hm : X.mg "sorted" = none) (ha : PAg c W X e a1) (L : Lam1 x scope) (hdef : defaultsOf params X.env = ([], []) := by rfl)
    (hbind : ∀ (v : Value) (cl : List (Str × Addr)) (pm cv ctv : Value), bindArgs (kla_fn "<lambda>" (q ++ "<lambda>") params (.Tuple [.UnaryOp .USub (.Subscript (.Name x p1) (.Constant (.int 1) i1 c1) q1) u1, .Subscript (.Name x p2) (.Constant (.int 0) i2 c2) q2] k3 tpos) scope cl pm cv ctv) ⟨[v], []⟩ = pure [(x, v)])
    (hg : Gl X "sorted" := by rfl) (hd : (x == ("__debug__" : Str)) = false := by decide)
    (hs : starEach [e] X.env = (false, eval e X.env) :: starEach [] X.env := by rfl) (he : backTo pos (starEach [e] X.env) = (false, eval e X.env) :: backTo pos (starEach [] X.env) := by rfl) (hpl : (backTo pos (starEach [e] X.env)).any (·.1) = false := by rfl) :
    PXF c W X (.Call (.Name "sorted" p) [e] [⟨some "key", .Lambda params (.Tuple [.UnaryOp .USub (.Subscript (.Name x p1) (.Constant (.int 1) i1 c1) q1) u1, .Subscript (.Name x p2) (.Constant (.int 0) i2 c2) q2] k3 tpos) scope lpos, kpos⟩] pos) (mOp1 oSortNB a1) := by
  refine ⟨fun pins s σ H Q I h => ?_⟩
  refine wpAny_Call_Name_kw (ld_blt (u := .builtin "sorted") I hg hm (by rfl) ?_ (by decide) (by decide))
  refine PyProof.Rows.callWith_kw (thn ((pa_cons ha pa_nil hs).run pos pins s σ H (fun vs H1 => ∃ x, vs = [x] ∧ rLam (c.at X.K) σ oSortNB x H1 Q) I ?_) fun us s1 ⟨vs, H1, I1, r1, xv, ev, q1⟩ => ?_) he hpl (by rfl) (by rfl)
  · have h1 := TF_lam (c := c.at X.K) h
    obtain ⟨s0, pend, R, q0⟩ := h1
    exact ⟨s0, pend, R, q0.mono fun av s1 z y H' e1 R1 => ⟨y, rfl, z y H' e1 R1⟩⟩
  · subst ev
    obtain ⟨ds, pend, d1, d, R, hv, hf, hq⟩ := q1
    obtain ⟨v1, rfl, rv1⟩ := vals1 r1
    show wpAny _ _ (evalAll ((do let v ← eval _ X.env; standAt pos; pure v) :: [])) _ _ _
    refine wpAny_evalAll_cons (wpAny_bind (lam_made I1 Ld R.tabs hdef L fun f c' pm ctv H2 s2 I2 hR hob hcd => wpAny_bind (wpAny_standAt (wpAny_pure ?_))))
    refine wpAny_evalAll_nil ?_
    show wpAny _ _ (call (.builtin "sorted") [v1] [(Str.ofString "key", .ref f)]) _ _ _
    have R2 := hR ds pend R
    have V2 := hv H2 R2
    unfold oSortNB at hf
    cases g : seqOf d1 with
    | none => rw [g] at hf; cases hf
    | some es =>
      rw [g, Option.bind_some] at hf
      cases g2 : ps2 es with
      | none => rw [g2] at hf; cases hf
      | some ps =>
        rw [g2] at hf
        have hf' : d = .lst ((ps.mergeSort (dataLe false keyNB)).map pairD) := (Option.some.inj hf).symm
        subst hf'
        have := ps2_spec g2
        subst this
        obtain ⟨a, xs, ea, hsq, rep⟩ := vw_sqA V2 g
        subst ea
        cases rv1
        obtain ⟨its, rv, hl, _⟩ := sqA_seq I2 hsq
        have hz : xs.length ≤ sizeLine := sqA_le I2 hsq
        have hlen : ps.length = xs.length := by have := rep.length; rw [List.length_map] at this; exact this
        have rz := repL_zip rep
        refine sortedKey_sq (R := fun v (b : V × (Int × Int)) => RelV b.1 v ∧ ∃ (ai : Addr) (t u : Tok), v = .ref ai ∧ IsTup s2.heap ai #[.int b.2.1 t, .int b.2.2 u]) (fun b : V × (Int × Int) => keyNB b.2) hl
          (each_zip (P := fun v b => ∃ (ai : Addr) (t u : Tok), v = .ref ai ∧ IsTup s2.heap ai #[.int b.1 t, .int b.2 u]) rv hlen fun y v b hm ry => ?_) (AllAlike.of fun b b' => ?_) (Sortable.tuples fun b => ⟨_, _, rfl⟩) ?_ (fun b _ => ?_) (fun v b hRb hb h' tk hk => ?_) fun out h' tk dd hk hd hdl hol hout => ?_
        · have hr := rz _ hm
          simp only [pairD, Rep, RepL] at hr
          obtain ⟨ai, ys, ey, ht, y1, r1', e1, h1, y2, r2', e2, h2, e3⟩ := hr
          subst e1 e2 e3 h1 h2
          have ey' : y = .ref ai := ey
          subst ey'
          cases ry
          obtain ⟨its', rv', ht', _⟩ := I2.tuple ht.sq
          obtain ⟨w1, ws, rfl, q1, q2⟩ : ∃ w1 ws, its' = w1 :: ws ∧ RelV (.int b.1) w1 ∧ Vals [.int b.2] ws := by cases rv' with | cons h t => exact ⟨_, _, rfl, h, t⟩
          obtain ⟨w2, rfl, q3⟩ := vals1 q2
          obtain ⟨t1, rfl⟩ := q1
          obtain ⟨t2, rfl⟩ := q3
          exact ⟨ai, t1, t2, rfl, ht'⟩
        · simp [keyNB, alike, alikeAll]
        · rw [List.length_zip, hlen, Nat.min_self]
          exact hz
        · have := hr.un
          simp only [keyNB, PyData.depth, PyData.depthAll]
          omega
        · obtain ⟨_, ai, t, u, rfl, ht⟩ := hRb
          refine raw_call L (hk _ _ hob) (by obtain ⟨c2, oc, vs, t, e, g1, g2, g3⟩ := hcd; exact ⟨c2, oc, vs, t, e, hk _ _ g1, g2, g3⟩) (by have := hr.dp; show X.A.depth < _; omega) (I2.nolimit.keeps hk) (hbind _ _ _ _ _) fun s3 env es hk3 hsc hns => ?_
          obtain ⟨tk3, es⟩ := es
          have hkd : env.kindOf x = some .local := by
            show env.scope.names.lookup x = _
            rw [hsc]; exact L.par
          have ht3 : IsTup s3.heap ai #[.int b.2.1 t, .int b.2.2 u] := by
            obtain ⟨o, g1, g2, n, g3⟩ := ht
            exact ⟨o, hk3 _ _ (hk _ _ g1), g2, n, g3⟩
          refine raw_negpair (by rw [hsc]; exact L.kind) hkd hns (by simp) ht3 (fun tk' t' => ?_) hd
          refine ⟨_, tk', rfl, fun b o e => Heap.get?_push_of_some _ e, ?_⟩
          exact .tuple (Heap.get?_push_size _ rfl) rfl rfl (.cons (.int _ _) (.cons (.int _ _) .nil))
        · obtain ⟨n, hdl⟩ := hdl
          have hnone : H2 dd = none := I2.hok.fresh hd
          have e1 : ((xs.zip ps).mergeSort (dataLe false fun b : V × (Int × Int) => keyNB b.2)).map Prod.snd = ps.mergeSort (dataLe false keyNB) := by
            rw [List.map_mergeSort (r := dataLe false fun b : V × (Int × Int) => keyNB b.2) (s := dataLe false keyNB) (f := Prod.snd) (fun a _ b _ => rfl), List.map_snd_zip (by omega)]
          have hmem : ∀ b ∈ (xs.zip ps).mergeSort (dataLe false fun b : V × (Int × Int) => keyNB b.2), Rep (c.at X.K).K (Oof (c.at X.K) σ ds pend) H2 (pairD b.2) b.1 := fun b hb => rz b ((List.mergeSort_perm _ _).mem_iff.mp hb)
          have hrep := repL_of (g := pairD) hmem
          have e2 : ((xs.zip ps).mergeSort (dataLe false fun b : V × (Int × Int) => keyNB b.2)).map (fun b => pairD b.2) = (ps.mergeSort (dataLe false keyNB)).map pairD := by
            rw [← e1, List.map_map]; rfl
          rw [e2] at hrep
          refine ⟨.ref dd, upd H2 dd (.lst (((xs.zip ps).mergeSort (dataLe false fun b : V × (Int × Int) => keyNB b.2)).map Prod.fst)), I2.laid (t' := tk) hk hd ⟨?_, out, n, each_vals (P := fun v b => ∃ (ai : Addr) (t u : Tok), v = .ref ai ∧ IsTup s2.heap ai #[.int b.1 t, .int b.2 u]) hout, hdl⟩, rfl, hq _ _ (R2.lst hnone hrep)⟩
          rw [List.length_map, List.length_mergeSort, List.length_zip, hlen, Nat.min_self]
          exact hz
end
end DL

set_option Elab.async false
set_option linter.all false
set_option autoImplicit false
set_option maxRecDepth 100000
namespace DL
open PySem PySem.Spec PyProof.Rows L2 PySem.W

/-! ### the end of a law some of whose defs hold a lambda -/
/-- the def x of the head, its code object, its empty table -/
def TabFact (mg : Str → Option Value) (h : Heap) (x : Str) : Prop :=
  ∃ (a : Addr) (o : Obj) (fd : FuncData) (c P : Addr), mg x = some (.ref a) ∧ h.get? a = some o ∧ o.data = .func fd ∧ fd.code = .ref c ∧ h.IsCode c P #[] ∧ h.TableAt c P #[]
theorem tab_at {K : PySem.W.Frag} {h : Heap} {mg : Str → Option Value} {x : Str} {f cc P : Addr} {oc ce : Value} {od cf : Option Addr} {fd : FuncData} {osl csl : Array (Option Value)} {vs : Array Value} (KX : K.In h) (hm : mg x = some (.ref f))
    (lf : K.lookup f = some ⟨oc, od, .func fd, osl⟩) (hc : fd.code = .ref cc) (lc : K.lookup cc = some ⟨ce, cf, .fields vs, csl⟩) (hp : vs[11]? = some (.ref P)) (t : TabFact mg h x) :
    h.get? P = some { cls := .none, data := .fields #[] } ∧ CodeHd h cc P := by
  obtain ⟨a, o, fd', c, P', h1, h2, h3, h4, h5, h6⟩ := t
  rw [hm] at h1
  cases h1
  rw [KX _ _ lf] at h2
  cases h2
  cases h3
  rw [hc] at h4
  cases h4
  have hT := h6
  obtain ⟨⟨oc2, vc, e1, _, e3, e4⟩, hP⟩ := h6
  rw [KX _ _ lc] at e1
  cases e1
  cases e3
  rw [hp] at e4
  cases e4
  exact ⟨hP, CodeHd.of h5 hT⟩
theorem walk_ofTQ {l : PySem.W.OpenLaw} {n k : Nat} {q : Program} {loose : List Str} {XP : (Str → Option Value) → Heap → Prop} {YP : World → Heap → Prop} {d : DefRec} {K : Params → PySem.W.Frag} {CX : World → CXT} {x : Str}
    (hn : l.most = some n) (hn2 : n ≤ sizeLine) (hdf : d.params.defaults = []) (hr : Room k callerA)
    (hY : ∀ (w : World) (h : Heap), YP w h → (K w.params).In h)
    (F : ∀ (w : World) (mg : Str → Option Value) (fa : Addr) (h : Heap), (K w.params).In h → h.Ns mainGlobals mg → mg d.name = some (.ref fa) →
      (∀ y : Str, ((recsOf q).any fun e => e.name == y) = true → TabFact mg h y) → LamX.LawAtS l w (K w.params) (CX w) k n x mg fa h)
    (hCX : ∀ (w : World) (H : Hp) (s : Shared) (e : Value) (s' : Shared),
      CX w [] H s (fun _ _ _ => False) e s' → False) :
    PySem.W.WalkO q loose XP YP l.row.toRowW d [] (fun f vs => PySem.call f vs) := by
  refine Att.attach_callB hn hdf fun w s0 s1 mg mb fa o pm cd doc a us ns G Y ho hd hcd hmg hob hin hlen hbits hg => ?_
  have KX := hY w _ Y
  obtain ⟨fd, cs, sp, hT, nT, C, hb, hsp, hF⟩ := F w mg fa _ KX G.T.g hmg fun y hy => by
    obtain ⟨dL, hm, hn1⟩ := List.any_eq_true.mp hy
    have e : dL.name = y := beq_iff_eq.mp hn1
    rw [← e]
    exact G.T.tab dL hm
  exact LamX.law_callTs KX G.T.g G.T.b G.T.builtins G.T.nolimit hg hT nT C G.T.bmain hob hin
    (Nat.le_trans hlen hn2) hr hF hb (fun H hH hS => hsp H a ns hlen hbits hH hS) fun H e s' => hCX w H s1 e s'
end DL

set_option Elab.async false
set_option linter.all false
set_option autoImplicit false
set_option maxRecDepth 100000
namespace DL
variable [TQ]
open PySem PySem.Spec PyProof.Rows L2 PySem.W

def lam1B (x : Str) (scope : Scope) : Bool :=
  decide (scope.kind = .function) && !scope.isCoroutine && !scope.isGenerator && decide (scope.names.lookup x = some .local) && scope.names.all fun y => !decide (y.2 = .cell) && !decide (y.2 = .free)
theorem lam1_by {x : Str} {scope : Scope} (h : lam1B x scope = true) : Lam1 x scope := by
  unfold lam1B at h
  simp only [Bool.and_eq_true, Bool.not_eq_true', decide_eq_true_eq, decide_eq_false_iff_not, List.all_eq_true] at h
  obtain ⟨⟨⟨⟨h1, h2⟩, h3⟩, h4⟩, h5⟩ := h
  exact ⟨h1, h2, h3, h4, fun y hy => h5 y hy⟩
/-! [x] * n -/
def oRep : D → D → Option D
  | .lst ds, .int k => if ds.length * k.toNat ≤ 100000 ∧ -100000 ≤ k ∧ k ≤ 100000 then some (.lst (List.replicate k.toNat ds).flatten) else none
  | _, _ => none
section
variable {K : PySem.W.Frag}
theorem rep_flat {O : Addr → Prop} {H : Hp} {ds : List D} {xs : List V} (r : RepL K O H ds xs) : ∀ n : Nat, RepL K O H (List.replicate n ds).flatten (List.replicate n xs).flatten
  | 0 => by simpa using RepL.nil
  | n + 1 => by
    rw [List.replicate_succ, List.replicate_succ, List.flatten_cons, List.flatten_cons]
    exact r.append (rep_flat r n)
theorem of_rep : OpF2 K oRep rRep := fun c σ H s pend x y d1 d2 d Q eK R v1 v2 e q => by
  subst eK
  cases d1 with
  | lst ds =>
    cases d2 with
    | int k =>
      simp only [oRep] at e
      by_cases h : ds.length * k.toNat ≤ 100000 ∧ -100000 ≤ k ∧ k ≤ 100000
      · rw [if_pos h] at e; cases e
        obtain ⟨a1, xs, e1, h1, r1⟩ := vw_lst v1
        have e2 := vw_int v2
        obtain ⟨z1, z2, z3⟩ := h
        refine ⟨a1, k, xs, e1, e2, h1, by omega, by omega, ?_, fun p hp => q _ _ (R.lst hp (rep_flat r1 _))⟩
        rw [← r1.length]
        exact Nat.le_trans z1 (by decide)
      · rw [if_neg h] at e; cases e
    | _ => cases e
  | _ => cases e
end
theorem flat_repl {α : Type} (d : α) : ∀ n : Nat, (List.replicate n [d]).flatten = List.replicate n d
  | 0 => rfl
  | n + 1 => by rw [List.replicate_succ, List.replicate_succ, List.flatten_cons, flat_repl d n]; rfl
@[simp] theorem oRep_one (d : D) (n : Nat) (h : n ≤ 100000) : oRep (.lst [d]) (.int n) = some (.lst (List.replicate n d)) := by
  simp only [oRep, List.length_singleton, Int.toNat_natCast, Nat.one_mul]
  rw [if_pos (by omega), flat_repl]
end DL

set_option Elab.async false
set_option linter.all false
set_option autoImplicit false
set_option maxRecDepth 100000
namespace DL
variable [TQ]
open PySem PySem.Spec PyProof.Rows L2 PySem.W
/-! ### <, <=, >, >= of data that are alike -/
def notNone : PyData → Bool
  | .none => false
  | _ => true
theorem notNone_ne {p : PyData} (h : notNone p = true) : p ≠ .none := by rintro rfl; cases h
def cmpP (f : PyData → PyData → Bool) (d1 d2 : D) : Option Bool := match toP d1, toP d2 with
  | some p, some q => if (alike p q && notNone p && decide (p.depth ≤ 32)) = true then some (f p q) else none
  | _, _ => none
noncomputable def bLtA (d1 d2 : D) : Option Bool := orB (bLt d1 d2) (cmpP dataLt d1 d2)
noncomputable def bGtA (d1 d2 : D) : Option Bool := orB (bGt d1 d2) (cmpP (fun p q => dataLt q p) d1 d2)
noncomputable def bLeA (d1 d2 : D) : Option Bool := orB (bLe d1 d2) (cmpP (fun p q => !dataLt q p) d1 d2)
noncomputable def bGeA (d1 d2 : D) : Option Bool := orB (bGe d1 d2) (cmpP (fun p q => !dataLt p q) d1 d2)
def rCmpA (K : PySem.W.Frag) (g : Int → Int → Bool) (f : PyData → PyData → Bool) : R2 := fun x y H Q => rI0 (fun i j => .bl (g i j)) x y H Q ∨ ∃ p q, Dp K H x p ∧ Dp K H y q ∧ alike p q = true ∧ p ≠ .none ∧ p.depth ≤ 32 ∧ Q (.bl (f p q)) H
theorem cmpP_ok {K : PySem.W.Frag} {O : Addr → Prop} {H : Hp} {f : PyData → PyData → Bool} {x y : V} {d1 d2 : D} {b : Bool} (v1 : Vw K O H d1 x) (v2 : Vw K O H d2 y) (e : cmpP f d1 d2 = some b) : ∃ p q, Dp K H x p ∧ Dp K H y q ∧ alike p q = true ∧ p ≠ .none ∧ p.depth ≤ 32 ∧ f p q = b := by
  unfold cmpP at e
  split at e
  · rename_i p q g1 g2
    split at e
    · rename_i h
      cases e
      simp only [Bool.and_eq_true, decide_eq_true_eq] at h
      exact ⟨p, q, dp_vw v1 g1, dp_vw v2 g2, h.1.1, notNone_ne h.1.2, h.2, rfl⟩
    · cases e
  · cases e
theorem ob_cmpA {K : PySem.W.Frag} {b0 : D → D → Option Bool} {g : Int → Int → Bool} {f : PyData → PyData → Bool} (h0 : OpB2 K b0 (rI0 fun i j => .bl (g i j))) : OpB2 K (fun d1 d2 => orB (b0 d1 d2) (cmpP f d1 d2)) (rCmpA K g f) := fun O H x y d1 d2 b Q v1 v2 e q => by
  have e : orB (b0 d1 d2) (cmpP f d1 d2) = some b := e
  cases g0 : b0 d1 d2 with
  | some k => rw [g0] at e; cases e; exact .inl (h0 O H x y d1 d2 b Q v1 v2 g0 q)
  | none =>
    rw [g0] at e
    obtain ⟨p, r, h1, h2, h3, h4, h5, h6⟩ := cmpP_ok (f := f) v1 v2 e
    exact .inr ⟨p, r, h1, h2, h3, h4, h5, by rw [h6]; exact q⟩
section
variable {K : PySem.W.Frag}
theorem ob_bLtA : OpB2 K bLtA (rCmpA K (fun i j => decide (i < j)) dataLt) := ob_cmpA ob_bLt
theorem ob_bGtA : OpB2 K bGtA (rCmpA K (fun i j => decide (j < i)) fun p q => dataLt q p) := ob_cmpA ob_bGt
theorem ob_bLeA : OpB2 K bLeA (rCmpA K (fun i j => decide (i ≤ j)) fun p q => !dataLt q p) := ob_cmpA ob_bLe
theorem ob_bGeA : OpB2 K bGeA (rCmpA K (fun i j => decide (j ≤ i)) fun p q => !dataLt p q) := ob_cmpA ob_bGe
end
section
variable {X : Cx}
theorem op_cmpA {op : CmpOp} {g : Int → Int → Bool} {f : PyData → PyData → Bool} (hu : X.A.units + 64 < cLine) (h0 : OpR X (compareOp op) (rI0 fun i j => .bl (g i j)))
    (h1 : ∀ (A : Around) (s : Shared) (a b : Value) (da db : PyData) (as bs : List Addr) (Q : Value → Shared → Prop) (E : Value → Shared → Prop), Reads s.heap a da as → Reads s.heap b db bs → alike da db = true → da ≠ .none → A.units + min da.depth db.depth < cLine → Q (.bool (f da db)) s → wpAny (model X.prog X.w) A (compareOp op a b) Q E s) :
    OpR X (compareOp op) (rCmpA X.K g f) := fun pins s σ H x y v u Q I rx ry h => by
  rcases h with h | ⟨p, q, d1, d2, ha, hn, hd, hq⟩
  · exact h0 pins s σ H x y v u Q I rx ry h
  · obtain ⟨as, r1⟩ := d1.reads I _ _ _ rx
    obtain ⟨bs, r2⟩ := d2.reads I _ _ _ ry
    exact h1 X.A s v u p q as bs _ _ r1 r2 ha hn (by omega) ⟨.bl (f p q), H, I, rfl, hq⟩
theorem op_ltA (hu : X.A.units + 64 < cLine) : OpR X (compareOp .Lt) (rCmpA X.K (fun i j => decide (i < j)) dataLt) := op_cmpA hu op_lt fun _ _ _ _ _ _ _ _ _ _ ra rb h hn hu hq => lt_data ra rb h hn hu hq
theorem op_gtA (hu : X.A.units + 64 < cLine) : OpR X (compareOp .Gt) (rCmpA X.K (fun i j => decide (j < i)) fun p q => dataLt q p) := op_cmpA hu op_gt fun _ _ _ _ _ _ _ _ _ _ ra rb h hn hu hq => gt_data ra rb h hn hu hq
theorem op_leA (hu : X.A.units + 64 < cLine) : OpR X (compareOp .LtE) (rCmpA X.K (fun i j => decide (i ≤ j)) fun p q => !dataLt q p) := op_cmpA hu op_le fun _ _ _ _ _ _ _ _ _ _ ra rb h hn hu hq => le_data ra rb h hn hu hq
theorem op_geA (hu : X.A.units + 64 < cLine) : OpR X (compareOp .GtE) (rCmpA X.K (fun i j => decide (j ≤ i)) fun p q => !dataLt p q) := op_cmpA hu op_ge fun _ _ _ _ _ _ _ _ _ _ ra rb h hn hu hq => ge_data ra rb h hn hu hq
end
section
variable (x y : Int)
@[simp] theorem bLtA_int : bLtA (.int x) (.int y) = some (decide (x < y)) := by unfold bLtA; rw [bLt_int]; rfl
@[simp] theorem bLeA_int : bLeA (.int x) (.int y) = some (decide (x ≤ y)) := by unfold bLeA; rw [bLe_int]; rfl
@[simp] theorem bGtA_int : bGtA (.int x) (.int y) = some (decide (y < x)) := by unfold bGtA; rw [bGt_int]; rfl
@[simp] theorem bGeA_int : bGeA (.int x) (.int y) = some (decide (y ≤ x)) := by unfold bGeA; rw [bGe_int]; rfl
end
end DL

set_option Elab.async false
set_option linter.all false
set_option autoImplicit false
set_option maxRecDepth 100000
namespace DL
variable [TQ]
open PySem PySem.Spec PyProof.Rows L2 PySem.W
/-! ### max, min of lists and tuples of data that are alike -/
mutual
def noL : D → Bool
  | .non => true
  | .bl _ => true
  | .int _ => true
  | .str _ => true
  | .tup ds => noLs ds
  | _ => false
def noLs : List D → Bool
  | [] => true
  | d :: ds => noL d && noLs ds
end
mutual
theorem toP_inj : ∀ (d e : D) (p : PyData), noL d = true → noL e = true → toP d = some p → toP e = some p → d = e
  | .non, e, p, _, h2, h3, h4 => by
    simp only [toP] at h3; cases h3
    cases e with
    | non => rfl
    | tup es => simp only [toP] at h4; cases g : toPL es <;> rw [g] at h4 <;> cases h4
    | lst es => cases h2
    | scr es => cases h2
    | dic _ _ => cases h2
    | _ => simp only [toP] at h4; cases h4
  | .bl b, e, p, _, h2, h3, h4 => by
    simp only [toP] at h3; cases h3
    cases e with
    | bl c => simp only [toP] at h4; cases h4; rfl
    | tup es => simp only [toP] at h4; cases g : toPL es <;> rw [g] at h4 <;> cases h4
    | lst es => cases h2
    | scr es => cases h2
    | dic _ _ => cases h2
    | _ => simp only [toP] at h4; cases h4
  | .int b, e, p, _, h2, h3, h4 => by
    simp only [toP] at h3; cases h3
    cases e with
    | int c => simp only [toP] at h4; cases h4; rfl
    | tup es => simp only [toP] at h4; cases g : toPL es <;> rw [g] at h4 <;> cases h4
    | lst es => cases h2
    | scr es => cases h2
    | dic _ _ => cases h2
    | _ => simp only [toP] at h4; cases h4
  | .str b, e, p, _, h2, h3, h4 => by
    simp only [toP] at h3; cases h3
    cases e with
    | str c => simp only [toP] at h4; cases h4; rfl
    | tup es => simp only [toP] at h4; cases g : toPL es <;> rw [g] at h4 <;> cases h4
    | lst es => cases h2
    | scr es => cases h2
    | dic _ _ => cases h2
    | _ => simp only [toP] at h4; cases h4
  | .tup ds, e, p, h1, h2, h3, h4 => by
    simp only [toP] at h3
    cases g : toPL ds with
    | none => rw [g] at h3; cases h3
    | some ps =>
      rw [g] at h3; cases h3
      cases e with
      | tup es =>
        simp only [toP] at h4
        cases g2 : toPL es with
        | none => rw [g2] at h4; cases h4
        | some qs =>
          rw [g2] at h4; cases h4
          simp only [noL] at h1 h2
          rw [toPL_inj ds es _ h1 h2 g g2]
      | lst es => cases h2
      | scr es => cases h2
      | dic _ _ => cases h2
      | _ => simp only [toP] at h4; cases h4
  | .lst _, _, _, h1, _, _, _ => by cases h1
  | .scr _, _, _, h1, _, _, _ => by cases h1
  | .dic _ _, _, _, h1, _, _, _ => by cases h1
theorem toPL_inj : ∀ (ds es : List D) (ps : List PyData), noLs ds = true → noLs es = true → toPL ds = some ps → toPL es = some ps → ds = es
  | [], es, ps, _, h2, h3, h4 => by
    simp only [toPL] at h3; cases h3
    cases es with
    | nil => rfl
    | cons e es =>
      simp only [toPL] at h4
      cases g : toP e with
      | none => rw [g] at h4; cases h4
      | some q => cases g2 : toPL es <;> rw [g, g2] at h4 <;> cases h4
  | d :: ds, es, ps, h1, h2, h3, h4 => by
    simp only [toPL] at h3
    cases g : toP d with
    | none => rw [g] at h3; cases h3
    | some p =>
      cases g2 : toPL ds with
      | none => rw [g, g2] at h3; cases h3
      | some qs =>
        rw [g, g2] at h3; cases h3
        cases es with
        | nil => simp only [toPL] at h4; cases h4
        | cons e es =>
          simp only [toPL] at h4
          simp only [noLs, Bool.and_eq_true] at h1 h2
          cases g3 : toP e with
          | none => rw [g3] at h4; cases h4
          | some p' =>
            cases g4 : toPL es with
            | none => rw [g3, g4] at h4; cases h4
            | some qs' =>
              rw [g3, g4] at h4
              cases h4
              rw [toP_inj d e _ h1.1 h2.1 g g3, toPL_inj ds es _ h1.2 h2.2 g2 g4]
end
theorem toPL_get : ∀ {ds : List D} {ps : List PyData} {i : Nat} {d : D}, toPL ds = some ps → ds[i]? = some d → ∃ p, ps[i]? = some p ∧ toP d = some p
  | [], _, _, _, _, e => by simp at e
  | d0 :: ds, ps, i, d, h, e => by
    simp only [toPL] at h
    cases g : toP d0 with
    | none => rw [g] at h; cases h
    | some p =>
      cases g2 : toPL ds with
      | none => rw [g, g2] at h; cases h
      | some qs =>
        rw [g, g2] at h; cases h
        cases i with
        | zero => simp at e; subst e; exact ⟨p, rfl, g⟩
        | succ i => exact toPL_get (i := i) g2 (by simpa using e)
theorem toPL_len : ∀ {ds : List D} {ps : List PyData}, toPL ds = some ps → ps.length = ds.length
  | [], _, h => by simp only [toPL] at h; cases h; rfl
  | d0 :: ds, ps, h => by
    simp only [toPL] at h
    cases g : toP d0 with
    | none => rw [g] at h; cases h
    | some p =>
      cases g2 : toPL ds with
      | none => rw [g, g2] at h; cases h
      | some qs => rw [g, g2] at h; cases h; simp [toPL_len g2]
theorem noLs_mem : ∀ {ds : List D} {d : D}, noLs ds = true → d ∈ ds → noL d = true
  | [], _, _, h => by cases h
  | e :: ds, d, h, hm => by
    simp only [noLs, Bool.and_eq_true] at h
    rcases List.mem_cons.mp hm with z | z
    · subst z; exact h.1
    · exact noLs_mem h.2 z
def bestPD (mx : Bool) (x : PyData) (xs : List PyData) : PyData := if mx then maxD x xs else minD x xs
theorem fold_mem {α : Type} (f : α → α → Bool) : ∀ (xs : List α) (x : α), xs.foldl (fun a y => if f a y = true then y else a) x ∈ x :: xs
  | [], x => by simp
  | y :: ys, x => by
    show ys.foldl _ (if f x y = true then y else x) ∈ _
    have := fold_mem f ys (if f x y = true then y else x)
    rcases List.mem_cons.mp this with h | h
    · rw [h]
      split <;> simp
    · exact List.mem_cons_of_mem _ (List.mem_cons_of_mem _ h)
theorem bestPD_mem (mx : Bool) (x : PyData) (xs : List PyData) : bestPD mx x xs ∈ x :: xs := by
  unfold bestPD
  cases mx with
  | true => exact fold_mem (fun a y => dataLt a y) xs x
  | false => exact fold_mem (fun a y => dataLt y a) xs x
def alikeB (ps : List PyData) : Bool := ps.all fun p => notNone p && ps.all fun q => alike p q
theorem alikeB_ok {ps : List PyData} (h : alikeB ps = true) : AlikeAll ps := by
  unfold alikeB at h
  rw [List.all_eq_true] at h
  refine ⟨fun x hx y hy => ?_, fun x hx => ?_⟩
  · have := h x hx
    rw [Bool.and_eq_true, List.all_eq_true] at this
    exact this.2 y hy
  · have := h x hx
    rw [Bool.and_eq_true] at this
    exact notNone_ne this.1
/-- the first that is the best of all -/
noncomputable def bestF (mx : Bool) (ds : List D) : List PyData → Option D
  | [] => none
  | p :: ps => if (alikeB (p :: ps) && decide (PyData.depthAll (p :: ps) ≤ 32) && noLs ds) = true then (open Classical in ds.find? fun d => decide (toP d = some (bestPD mx p ps))) else none
noncomputable def oBestP (mx : Bool) (d : D) : Option D := (seqOf d).bind fun ds => (toPL ds).bind fun ps => bestF mx ds ps
def orD : Option D → Option D → Option D
  | some b, _ => some b
  | none, o => o
noncomputable def oMaxX (d : D) : Option D := orD (oMaxA d) (oBestP true d)
noncomputable def oMinX (d : D) : Option D := orD (oMinA d) (oBestP false d)
def rBestX (K : PySem.W.Frag) (mx : Bool) : List V → Hp → VK → Prop := fun vs H Q => rBestA K mx vs H Q ∨ ∃ (t : Bool) (a : Addr) (xs : List V) (p : PyData) (ps : List PyData), vs = [.ref a] ∧ sqA t K H a xs ∧ DpAll K H xs (p :: ps) ∧ AlikeAll (p :: ps) ∧ PyData.depthAll (p :: ps) ≤ 32 ∧
  ∀ (i : Nat) (v : V), xs[i]? = some v → (p :: ps)[i]? = some (bestPD mx p ps) → Q v H
section
variable {X : Cx}
theorem cr_bestX (mx : Bool) (hu : X.A.units + 64 < cLine) (hc : X.calm = true) : CallR X (.builtin (if mx then "max" else "min")) (rBestX X.K mx) := by
  intro pins s σ H vs us Q I r h
  rcases h with h | ⟨t, a, xs, p, ps, rfl, hs, hdp, hal, hdep, q⟩
  · exact cr_bestA mx hu hc pins s σ H vs us Q I r h
  · obtain ⟨its, rv, hl, _⟩ := sqA_seq I hs
    rw [Vals.ref1 r]
    obtain ⟨as, hr⟩ := Dp.readsAll I _ _ its hdp rv
    have hh := I.ok.hd hc
    have fin : ∀ (i : Nat) (v : Value) (h' : Heap) (tk : Nat) (bs : List Addr), its[i]? = some v → Reads h' v (bestPD mx p ps) bs → (∀ b o, s.heap.get? b = some o → h'.get? b = some o) → EP X pins σ Q v { s with heap := h', toks := tk } := fun i v h' tk bs hv hrd hk => by
      obtain ⟨x, hx, rx⟩ : ∃ x, xs[i]? = some x ∧ RelV x v := by
        have hi : i < its.length := (List.getElem?_eq_some_iff.mp hv).1
        have hl := rv.length
        obtain ⟨u, e1, e2⟩ := rv.get (List.getElem?_eq_getElem (show i < xs.length by omega))
        rw [hv] at e1
        cases e1
        exact ⟨_, List.getElem?_eq_getElem (by omega), e2⟩
      obtain ⟨cs, hc1, hlt, hm, _⟩ := readsAll_at (h := s.heap) hr i v hv
      have hg : (p :: ps)[i]? = some ((p :: ps).getD i .none) := by
        rw [List.getD_eq_getElem?_getD, List.getElem?_eq_getElem hlt]; rfl
      have he : (p :: ps).getD i .none = bestPD mx p ps := alike_unique _ _ v cs bs (hal.1 _ hm _ (bestPD_mem mx p ps)) (Reads.keeps hk hc1) hrd
      exact ⟨x, H, I.kept hk, rx, q i x hx (by rw [hg, he])⟩
    cases mx with
    | true =>
      cases t with
      | true => exact max_tuple_data hh (vs := its.toArray) hl (by simpa using hr) hal (by omega) fun i v h' tk bs hv => fin i v h' tk bs (by simpa using hv)
      | false => exact max_list_data hh (vs := its.toArray) hl (by simpa using hr) hal (by omega) fun i v h' tk bs hv => fin i v h' tk bs (by simpa using hv)
    | false =>
      cases t with
      | true => exact min_tuple_data hh (vs := its.toArray) hl (by simpa using hr) hal (by omega) fun i v h' tk bs hv => fin i v h' tk bs (by simpa using hv)
      | false => exact min_list_data hh (vs := its.toArray) hl (by simpa using hr) hal (by omega) fun i v h' tk bs hv => fin i v h' tk bs (by simpa using hv)
end
section
variable {K : PySem.W.Frag}
theorem od_bestP (mx : Bool) {O : Addr → Prop} {H : Hp} {x : V} {d1 d : D} (v1 : Vw K O H d1 x) (e : oBestP mx d1 = some d) : ∃ (t : Bool) (a : Addr) (xs : List V) (p : PyData) (ps : List PyData), [x] = [.ref a] ∧ sqA t K H a xs ∧ DpAll K H xs (p :: ps) ∧ AlikeAll (p :: ps) ∧ PyData.depthAll (p :: ps) ≤ 32 ∧
    ∀ (i : Nat) (v : V), xs[i]? = some v → (p :: ps)[i]? = some (bestPD mx p ps) → Rep K O H d v := by
  unfold oBestP at e
  cases g : seqOf d1 with
  | none => rw [g] at e; cases e
  | some ds =>
    rw [g, Option.bind_some] at e
    cases g2 : toPL ds with
    | none => rw [g2] at e; cases e
    | some qs =>
      rw [g2, Option.bind_some] at e
      cases qs with
      | nil => cases e
      | cons p ps =>
        unfold bestF at e
        dsimp only at e
        by_cases h : (alikeB (p :: ps) && decide (PyData.depthAll (p :: ps) ≤ 32) && noLs ds) = true
        · rw [if_pos h] at e
          simp only [Bool.and_eq_true, decide_eq_true_eq] at h
          obtain ⟨⟨h1, h2⟩, h3⟩ := h
          obtain ⟨a, xs, ea, hq, r⟩ := vw_sqA v1 g
          refine ⟨_, a, xs, p, ps, by rw [ea], hq, dps_of ds xs _ r g2, alikeB_ok h1, h2, fun i v hv hb => ?_⟩
          have hm := List.mem_of_find?_eq_some e
          have ht := List.find?_some e
          simp only [decide_eq_true_eq] at ht
          obtain ⟨d', hd', rep⟩ := r.get' hv
          obtain ⟨p', hp', ht'⟩ := toPL_get g2 hd'
          rw [hb] at hp'
          cases hp'
          have : d' = d := toP_inj d' d _ (noLs_mem h3 (List.mem_of_getElem? hd')) (noLs_mem h3 hm) ht' ht
          subst this
          exact rep
        · rw [if_neg h] at e; cases e
theorem od_maxX : OpD1 K oMaxX fun x H Q => rBestX K true [x] H Q := fun c σ H s pend x d1 d Q eK R v1 e q => by
  unfold oMaxX at e
  cases g : oMaxA d1 with
  | some b => rw [g] at e; cases e; exact .inl (od_maxA c σ H s pend x d1 d Q eK R v1 g q)
  | none =>
    rw [g] at e
    have e : oBestP true d1 = some d := e
    obtain ⟨t, a, xs, p, ps, ea, hq, h1, h2, h3, h4⟩ := od_bestP true v1 e
    subst eK
    exact .inr ⟨t, a, xs, p, ps, ea, hq, h1, h2, h3, fun i v hv hb => q v H (R.push (h4 i v hv hb))⟩
theorem od_minX : OpD1 K oMinX fun x H Q => rBestX K false [x] H Q := fun c σ H s pend x d1 d Q eK R v1 e q => by
  unfold oMinX at e
  cases g : oMinA d1 with
  | some b => rw [g] at e; cases e; exact .inl (od_minA c σ H s pend x d1 d Q eK R v1 g q)
  | none =>
    rw [g] at e
    have e : oBestP false d1 = some d := e
    obtain ⟨t, a, xs, p, ps, ea, hq, h1, h2, h3, h4⟩ := od_bestP false v1 e
    subst eK
    exact .inr ⟨t, a, xs, p, ps, ea, hq, h1, h2, h3, fun i v hv hb => q v H (R.push (h4 i v hv hb))⟩
end
theorem oMaxX_ints {d d' : D} (h : oMaxA d = some d') : oMaxX d = some d' := by unfold oMaxX; rw [h]; rfl
theorem oMinX_ints {d d' : D} (h : oMinA d = some d') : oMinX d = some d' := by unfold oMinX; rw [h]; rfl
/-! pairs of ints -/
def encP (p : Int × Int) : PyData := .tuple [.int p.1, .int p.2]
theorem toP_pair (p : Int × Int) : toP (pairD p) = some (encP p) := by simp [pairD, encP, toP, toPL]
theorem toPL_pairs : ∀ ps : List (Int × Int), toPL (ps.map pairD) = some (ps.map encP)
  | [] => by simp only [List.map_nil, toPL]
  | p :: ps => by simp only [List.map_cons, toPL, toP_pair, toPL_pairs ps]; rfl
theorem noLs_pairs : ∀ ps : List (Int × Int), noLs (ps.map pairD) = true
  | [] => by simp only [List.map_nil, noLs]
  | p :: ps => by simp only [List.map_cons, noLs, noLs_pairs ps, pairD, noL]; rfl
theorem alike_pair (p q : Int × Int) : alike (encP p) (encP q) = true := by simp [encP, alike, alikeAll]
theorem alikeB_pairs (ps : List (Int × Int)) : alikeB (ps.map encP) = true := by
  unfold alikeB
  simp only [List.all_map, List.all_eq_true, Bool.and_eq_true, Function.comp]
  exact fun p _ => ⟨rfl, fun q _ => alike_pair p q⟩
theorem depth_pair (p : Int × Int) : (encP p).depth = 1 := by simp [encP, PyData.depth, PyData.depthAll]
theorem depth_pairs : ∀ ps : List (Int × Int), PyData.depthAll (ps.map encP) ≤ 1
  | [] => by simp only [List.map_nil, PyData.depthAll]; omega
  | p :: ps => by
    simp only [List.map_cons, PyData.depthAll, depth_pair]
    have := depth_pairs ps
    omega
theorem best_pairs (mx : Bool) {d : D} {ps : List (Int × Int)} (hd : seqOf d = some (ps.map pairD)) (h : ps ≠ []) : ∃ M ∈ ps, oBestP mx d = some (pairD M) := by
  cases ps with
  | nil => exact absurd rfl h
  | cons p ps =>
    have hm := bestPD_mem mx (encP p) (ps.map encP)
    rw [← List.map_cons] at hm
    obtain ⟨M, hM, eM⟩ := List.mem_map.mp hm
    have e : oBestP mx d = (open Classical in ((p :: ps).map pairD).find? fun d => decide (toP d = some (bestPD mx (encP p) (ps.map encP)))) := by
      unfold oBestP
      rw [hd, Option.bind_some, toPL_pairs, Option.bind_some]
      have hc : (alikeB (encP p :: ps.map encP) && decide (PyData.depthAll (encP p :: ps.map encP) ≤ 32) && noLs ((p :: ps).map pairD)) = true := by
        have h1 := alikeB_pairs (p :: ps)
        have h2 := depth_pairs (p :: ps)
        have h3 := noLs_pairs (p :: ps)
        rw [List.map_cons] at h1 h2
        simp only [Bool.and_eq_true, decide_eq_true_eq]
        exact ⟨⟨h1, by omega⟩, h3⟩
      exact if_pos hc
    cases g : (open Classical in ((p :: ps).map pairD).find? fun d => decide (toP d = some (bestPD mx (encP p) (ps.map encP)))) with
    | none =>
      have := List.find?_eq_none.mp g (pairD M) (List.mem_map_of_mem hM)
      rw [toP_pair, eM] at this
      simp at this
    | some d' =>
      obtain ⟨M', hM', e'⟩ := List.mem_map.mp (List.mem_of_find?_eq_some g)
      exact ⟨M', hM', by rw [e, g, e']⟩
theorem ints_pairs {ps : List (Int × Int)} (h : ps ≠ []) : intsOf (ps.map pairD) = none := by
  cases ps with
  | nil => exact absurd rfl h
  | cons p ps => rfl
theorem maxX_pairs {ps : List (Int × Int)} (h : ps ≠ []) : ∃ M ∈ ps, oMaxX (.lst (ps.map pairD)) = some (pairD M) := by
  obtain ⟨M, hM, e⟩ := best_pairs true (d := .lst (ps.map pairD)) rfl h
  refine ⟨M, hM, ?_⟩
  have h0 : oMaxA (.lst (ps.map pairD)) = none := by
    unfold oMaxA oIntsA intsA
    rw [show seqOf (.lst (ps.map pairD)) = some (ps.map pairD) from rfl, Option.bind_some, ints_pairs h]
    rfl
  unfold oMaxX
  rw [h0, e]; rfl
theorem minX_pairs {ps : List (Int × Int)} (h : ps ≠ []) : ∃ M ∈ ps, oMinX (.lst (ps.map pairD)) = some (pairD M) := by
  obtain ⟨M, hM, e⟩ := best_pairs false (d := .lst (ps.map pairD)) rfl h
  refine ⟨M, hM, ?_⟩
  have h0 : oMinA (.lst (ps.map pairD)) = none := by
    unfold oMinA oIntsA intsA
    rw [show seqOf (.lst (ps.map pairD)) = some (ps.map pairD) from rfl, Option.bind_some, ints_pairs h]
    rfl
  unfold oMinX
  rw [h0, e]; rfl
theorem dataLt_pairs (p q : Int × Int) : dataLt (encP p) (encP q) = decide (p.1 < q.1 ∨ p.1 = q.1 ∧ p.2 < q.2) := by
  obtain ⟨a, b⟩ := p
  obtain ⟨c, d⟩ := q
  unfold encP
  rw [dataLt_tuple]
  by_cases h : a = c
  · subst h
    rw [dataLt_all_yes (by simp [alike]) (by simp [PyData.eqv])]
    by_cases h2 : b = d
    · subst h2
      rw [dataLt_all_yes (by simp [alike]) (by simp [PyData.eqv])]
      simp [keyToksAll, PyProof.Rows.lexLt, itemOrd, itemLt]
    · rw [dataLt_all_no (by simp [alike]) (by simpa [PyData.eqv] using h2), dataLt_int]
      simp
  · rw [dataLt_all_no (by simp [alike]) (by simpa [PyData.eqv] using h), dataLt_int]
    simp [h]
@[simp] theorem bLtA_pairs (p q : Int × Int) : bLtA (pairD p) (pairD q) = some (decide (p.1 < q.1 ∨ p.1 = q.1 ∧ p.2 < q.2)) := by
  have h0 : bLt (pairD p) (pairD q) = none := rfl
  have h1 : cmpP dataLt (pairD p) (pairD q) = some (dataLt (encP p) (encP q)) := by
    unfold cmpP
    rw [toP_pair, toP_pair]
    have : (alike (encP p) (encP q) && notNone (encP p) && decide ((encP p).depth ≤ 32)) = true := by
      rw [alike_pair, depth_pair]; rfl
    exact if_pos this
  unfold bLtA
  rw [h0, h1, dataLt_pairs]
  rfl
end DL

set_option Elab.async false
set_option linter.all false
set_option autoImplicit false
set_option maxRecDepth 100000
namespace DL
open PySem PySem.Spec PyProof.Rows L2
/-! how setdefault is worked out -/
section
variable (s : DS) (m2 m3 : M D) (d2 d3 : D) (k : Nat)
def kSTb (k : Nat) (d2 : D) (d3 : D) (s : DS) : Ores D := dSetdS k s d3 s[k]? (keyOf d2)
def kSTa (k : Nat) (m3 : M D) (d2 : D) (s : DS) : Ores D := (m3 s).bind (kSTb k d2)
def kST (k : Nat) (m2 m3 : M D) (b : Bool) (s : DS) : Ores D := if b = false then .bad else (m2 s).bind (kSTa k m3)
@[simp] theorem kSTb_run : kSTb k d2 d3 s = dSetdS k s d3 s[k]? (keyOf d2) := rfl
@[simp] theorem kSTa_run : kSTa k m3 d2 s = (m3 s).bind (kSTb k d2) := rfl
@[simp] theorem kST_run : kST k m2 m3 true s = (m2 s).bind (kSTa k m3) := rfl
@[simp] theorem mSetd_run : mSetd k m2 m3 s = kST k m2 m3 (isOwD s[k]?) s := rfl
end
theorem dSetd_I (ps : List (Int × Int)) (k : Nat) (x v : Int) (s : DS) (h : ps.length < 100000) : dSetdS k s (.int v) (some (.ow (dicI ps))) (some (.inl x)) =
    match getI ps x with
    | some u => .ok (.int u) s
    | none => .ok (.int v) (s.set k (.ow (dicI (ps ++ [(x, v)])))) := by
  have h1 : (ps.map fun p => (Sum.inl p.1 : Key)).length < 100000 := by simpa using h
  unfold dicI
  simp only [dSetdS, if_pos h1, dLook_I]
  cases e : getI ps x with
  | some u => rfl
  | none =>
    simp only [Option.map_none]
    have hn : ¬ (ps.any fun p => decide (p.1 = x)) = true := by
      intro z
      unfold getI at e
      rw [Option.map_eq_none_iff] at e
      obtain ⟨p, hp, e2⟩ := List.any_eq_true.mp z
      exact List.find?_eq_none.mp e p hp e2
    have := dPut_I ps x v
    unfold dicI at this
    rw [this]
    unfold putI
    rw [if_neg hn]
theorem eqF_str (a k : Str) : eqF (.str a) (.str k) = decide (a = k) := by
  show (a == k) = decide (a = k)
  rw [Bool.eq_iff_iff]
  simp
theorem in_two (k a b : Str) : bInA (.str k) (.lst [.str a, .str b]) = some (decide (k = a) || decide (k = b)) := by
  apply inA_of
  have e : bIn (.str k) (.lst [.str a, .str b]) = some (eqF (.str a) (.str k) || (eqF (.str b) (.str k) || false)) := rfl
  rw [e, eqF_str, eqF_str, Bool.or_false]
  congr 1
  by_cases h1 : a = k
  · subst h1; simp
  · by_cases h2 : b = k
    · subst h2; simp
    · have h1' : ¬ k = a := fun z => h1 z.symm
      have h2' : ¬ k = b := fun z => h2 z.symm
      simp [h1, h2, h1', h2']
end DL

set_option Elab.async false
set_option linter.all false
set_option autoImplicit false
set_option maxRecDepth 100000
namespace DL
variable [TQ]
open PySem PySem.Spec PyProof.Rows L2 PySem.W
/-! ### sorted(xs) of a list of pairs of ints -/
def rSortPr (K : PySem.W.Frag) : List V → Hp → VK → Prop := fun vs H Q => ∃ (a : Addr) (xs : List V) (ps : List (Int × Int)), vs = [.ref a] ∧ SqL K H a xs ∧ ps.length = xs.length ∧ (∀ b ∈ xs.zip ps, ∃ ai : Addr, b.1 = .ref ai ∧ SqT K H ai [.int b.2.1, .int b.2.2]) ∧
  ∀ (p : Addr) (bs : List (V × (Int × Int))), H p = none → bs.Perm (xs.zip ps) → bs.map Prod.snd = sortP ps → Q (.ref p) (upd H p (.lst (bs.map Prod.fst)))
theorem encP_le (ps : List (Int × Int)) : ps.mergeSort (dataLe false encP) = sortP ps := by
  have hle : ∀ p q : Int × Int, dataLe false encP p q = true ↔ ¬ (q.1 < p.1 ∨ q.1 = p.1 ∧ q.2 < p.2) := fun p q => by
    rw [dataLe_eq]
    show (!dataLt (encP q) (encP p)) = true ↔ _
    rw [dataLt_pairs, Bool.not_eq_true', decide_eq_false_iff_not]
  have h := List.pairwise_mergeSort (le := dataLe false encP) (fun a b c h1 h2 => by
    rw [hle] at h1 h2 ⊢
    omega) (fun a b => by
    rw [Bool.or_eq_true, hle, hle]
    omega) ps
  refine sortedP_one ((List.mergeSort_perm _ _).trans (sortP_perm ps).symm) (h.imp fun {a b} hab => ?_) (sortP_sorted ps)
  rw [leP_iff]
  have := (hle a b).mp hab
  omega
section
variable {X : Cx}
theorem cr_sortPr {k : Nat} (hr : Room k X.A) : CallR X (.builtin "sorted") (rSortPr X.K) := by
  intro pins s σ H vs us Q I r h
  obtain ⟨a, xs, ps, rfl, hs, hlen, hz, q⟩ := h
  obtain ⟨its, rv, hl, hsz⟩ := I.list hs
  rw [Vals.ref1 r]
  refine sorted_data (R := fun v (b : V × (Int × Int)) => RelV b.1 v ∧ ∃ (ai : Addr) (t u : Tok), v = .ref ai ∧ IsTup s.heap ai #[.int b.2.1 t, .int b.2.2 u]) (enc := fun b : V × (Int × Int) => encP b.2) (bs := xs.zip ps) (vs := its) hl.isList
    (each_zip (P := fun v b => ∃ (ai : Addr) (t u : Tok), v = .ref ai ∧ IsTup s.heap ai #[.int b.1 t, .int b.2 u]) rv hlen fun y v b hm ry => ?_) ?_ (AllAlike.of fun b b' => alike_pair _ _) (Sortable.tuples fun b => ⟨_, _, rfl⟩) ?_ (fun b _ => ?_) fun out hol hout => ?_
  · obtain ⟨ai, ey, ht⟩ := hz _ hm
    have ey' : y = .ref ai := ey
    subst ey'
    cases ry
    obtain ⟨its', rv', ht', _⟩ := I.tuple ht
    obtain ⟨w1, ws, rfl, q1, q2⟩ : ∃ w1 ws, its' = w1 :: ws ∧ RelV (.int b.1) w1 ∧ Vals [.int b.2] ws := by cases rv' with | cons h t => exact ⟨_, _, rfl, h, t⟩
    obtain ⟨w2, rfl, q3⟩ := vals1 q2
    obtain ⟨t1, rfl⟩ := q1
    obtain ⟨t2, rfl⟩ := q3
    exact ⟨ai, t1, t2, rfl, ht'⟩
  · have e1 := each_zip (P := fun v b => ∃ (ai : Addr) (t u : Tok), v = .ref ai ∧ IsTup s.heap ai #[.int b.1 t, .int b.2 u]) rv hlen fun y v b hm ry => by
      obtain ⟨ai, ey, ht⟩ := hz _ hm
      have ey' : y = .ref ai := ey
      subst ey'
      cases ry
      obtain ⟨its', rv', ht', _⟩ := I.tuple ht
      obtain ⟨w1, ws, rfl, q1, q2⟩ : ∃ w1 ws, its' = w1 :: ws ∧ RelV (.int b.1) w1 ∧ Vals [.int b.2] ws := by cases rv' with | cons h t => exact ⟨_, _, rfl, h, t⟩
      obtain ⟨w2, rfl, q3⟩ := vals1 q2
      obtain ⟨t1, rfl⟩ := q1
      obtain ⟨t2, rfl⟩ := q3
      exact ⟨ai, t1, t2, rfl, ht'⟩
    refine e1.mono fun v b hb => ?_
    obtain ⟨_, ai, t, u, rfl, o, g1, g2, n, g3⟩ := hb
    exact ⟨_, .tuple g1 g2 g3 (.cons (.int _ _) (.cons (.int _ _) .nil))⟩
  · rw [List.length_zip, hlen, Nat.min_self]; exact hsz
  · have := hr.un
    rw [depth_pair]
    omega
  · have hkp : ∀ b o, s.heap.get? b = some o → (sortedAll s.heap its out.toArray).get? b = some o := fun b o e => sortedAll_old e
    obtain ⟨n, hat⟩ := sortedAll_at s.heap its out.toArray
    have hd : s.heap.objs.size ≤ s.heap.objs.size + 1 := Nat.le_succ _
    have hnone : H (s.heap.objs.size + 1) = none := I.hok.fresh hd
    have e1 : ((xs.zip ps).mergeSort (dataLe false fun b : V × (Int × Int) => encP b.2)).map Prod.snd = sortP ps := by
      rw [List.map_mergeSort (r := dataLe false fun b : V × (Int × Int) => encP b.2) (s := dataLe false encP) (f := Prod.snd) (fun a _ b _ => rfl), List.map_snd_zip (by omega), encP_le]
    refine ⟨.ref (s.heap.objs.size + 1), upd H (s.heap.objs.size + 1) (.lst (((xs.zip ps).mergeSort (dataLe false fun b : V × (Int × Int) => encP b.2)).map Prod.fst)), I.laid (t' := s.toks) hkp hd ⟨?_, out, n, each_vals (P := fun v b => ∃ (ai : Addr) (t u : Tok), v = .ref ai ∧ IsTup s.heap ai #[.int b.1 t, .int b.2 u]) hout, hat⟩, rfl, q _ _ hnone (List.mergeSort_perm _ _) e1⟩
    rw [List.length_map, List.length_mergeSort, List.length_zip, hlen, Nat.min_self]
    exact hsz
end
def oSortPr (d : D) : Option D := (lstOf d).bind fun ds => if ds = [] then none else (ps2 ds).map fun ps => .lst ((sortP ps).map pairD)
def oSortX (d : D) : Option D := orD (oSortA d) (oSortPr d)
def rSortX (K : PySem.W.Frag) : List V → Hp → VK → Prop := fun vs H Q => rSortA K vs H Q ∨ rSortPr K vs H Q
section
variable {X : Cx} {K : PySem.W.Frag}
theorem cr_sortX {k : Nat} (hr : Room k X.A) : CallR X (.builtin "sorted") (rSortX X.K) := by
  intro pins s σ H vs us Q I r h
  rcases h with h | h
  · exact cr_sortA pins s σ H vs us Q I r h
  · exact cr_sortPr hr pins s σ H vs us Q I r h
theorem of_sortX : OpF1 K oSortX fun x H Q => rSortX K [x] H Q := fun c σ H s pend x d1 d Q eK R v1 e q => by
  unfold oSortX at e
  cases g : oSortA d1 with
  | some b => rw [g] at e; cases e; exact .inl (of_sortA c σ H s pend x d1 d Q eK R v1 g q)
  | none =>
    rw [g] at e
    have e : oSortPr d1 = some d := e
    unfold oSortPr at e
    cases g2 : lstOf d1 with
    | none => rw [g2] at e; cases e
    | some ds =>
      rw [g2, Option.bind_some] at e
      by_cases hn : ds = []
      · rw [if_pos hn] at e; cases e
      · rw [if_neg hn] at e
        cases g3 : ps2 ds with
        | none => rw [g3] at e; cases e
        | some ps =>
          rw [g3] at e
          cases e
          subst eK
          have := ps2_spec g3
          subst this
          obtain ⟨a, xs, ea, hq, r⟩ := vw_sql v1 g2
          have rz := repL_zip r
          refine .inr ⟨a, xs, ps, by rw [ea], hq, by have := r.length; rw [List.length_map] at this; exact this, fun b hb => ?_, fun p bs hp hperm hsort => ?_⟩
          · have hr := rz b hb
            simp only [pairD, Rep, RepL] at hr
            obtain ⟨ai, ys, ey, ht, y1, r1', e1, h1, y2, r2', e2, h2, e3⟩ := hr
            subst e1 e2 e3 h1 h2
            exact ⟨ai, ey, ht.sq⟩
          · have hrep := repL_of (g := pairD) (l := bs) fun b hb => rz b (hperm.mem_iff.mp hb)
            have e2 : bs.map (fun b => pairD b.2) = (sortP ps).map pairD := by
              rw [← hsort, List.map_map]; rfl
            rw [e2] at hrep
            exact q _ _ (R.lst hp hrep)
end
theorem oSortX_ints {d d' : D} (h : oSortA d = some d') : oSortX d = some d' := by unfold oSortX; rw [h]; rfl
@[simp] theorem oSortX_tup (ns : List Int) : oSortX (.tup (ns.map .int)) = some (.lst ((sortI ns).map .int)) := oSortX_ints (oSortA_tup ns)
@[simp] theorem oSortX_lst (ns : List Int) : oSortX (.lst (ns.map .int)) = some (.lst ((sortI ns).map .int)) := oSortX_ints (oSortA_lst ns)
theorem oSortX_pairs (ps : List (Int × Int)) : oSortX (.lst (ps.map pairD)) = some (.lst ((sortP ps).map pairD)) := by
  cases ps with
  | nil => exact oSortX_lst []
  | cons p ps =>
    have h0 : oSortA (.lst ((p :: ps).map pairD)) = none := by
      unfold oSortA intsA
      rw [show seqOf (.lst ((p :: ps).map pairD)) = some ((p :: ps).map pairD) from rfl, Option.bind_some, ints_pairs (by simp)]
      rfl
    unfold oSortX
    rw [h0]
    show oSortPr _ = _
    unfold oSortPr
    rw [show lstOf (.lst ((p :: ps).map pairD)) = some ((p :: ps).map pairD) from rfl, Option.bind_some, if_neg (by simp), ps2_map]
    rfl
end DL

set_option Elab.async false
set_option linter.all false
set_option autoImplicit false
set_option maxRecDepth 100000
namespace DL
variable [TQ]
open PySem PySem.Spec PyProof.Rows L2 PySem.W

/-! ### min(xs, key=lambda t: t[2]) of tuples with an int at the place 2 -/
section
variable {prog : Program} {w : World} {A : Around} {E : Value → Shared → Prop} {s : Shared}
def KeptS (s s' : Shared) : Prop := ∃ (h : Heap) (tk : Nat), s' = { s with heap := h, toks := tk } ∧ ∀ b o, s.heap.get? b = some o → h.get? b = some o
def IntV (ks : List Int) (i : Nat) (v : Value) (_ : Shared) : Prop := ∃ t, v = .int (ks.getD i 0) t
def btK (ks : List Int) (i j : Nat) : Bool := decide (ks.getD i 0 < ks.getD j 0)
theorem keptS_moved {s s1 s2 : Shared} {S I : Addr} (hS : s.heap.objs.size ≤ S) (hI : s.heap.objs.size ≤ I) (k : KeptS s s1) (m : Moved [S, I] (fun a b => b = a) s1 s2) : KeptS s s2 := by
  obtain ⟨h, tk, rfl, hk⟩ := k
  refine ⟨s2.heap, s2.toks, ?_, fun b o e => m.heap b o (fun hb => ?_) (hk b o e)⟩
  · obtain ⟨hp, g, d, tk2, os⟩ := s2
    have h1 : g = s.gens := m.gens
    have h2 : d = s.drawn := m.drawn
    have h3 : os = s.os := m.os
    subst h1
    subst h2
    subst h3
    rfl
  · have := Heap.lt_size e
    simp only [List.mem_cons, List.not_mem_nil, or_false] at hb
    rcases hb with rfl | rfl
    · exact absurd this (Nat.not_lt.mpr hS)
    · exact absurd this (Nat.not_lt.mpr hI)
theorem keyRun_ints {q S I : Addr} {n : Nat} {P : Nat → Value → Prop} {St : Nat → Shared → Prop} (ks : List Int) (hS : s.heap.objs.size ≤ S) (hI : s.heap.objs.size ≤ I)
    (hst : ∀ i (s1 s2 : Shared), St i s1 → (∀ b o, s1.heap.get? b = some o → s2.heap.get? b = some o) → St i s2)
    (turn : ∀ i v (s1 : Shared), i < n → P i v → KeptS s s1 → wpAny (model prog w) A (call (.ref q) [v]) (KeyPure (.int (ks.getD i 0)) s1) (fun _ _ => False) s1)
    (hu : A.units < cLine) : KeyRun prog w A (.ref q) .Lt S [I] (fun a b => b = a) n P St (KeptS s) (IntV ks) (btK ks) where
  keep s1 s2 k m := keptS_moved hS hI k m
  keepV i k s1 s2 h m := h
  turn i v s1 o Q E hi hP hJ hSt hSo hQ := by
    refine wpAny_mono (turn i v s1 hi hP hJ) (fun u s2 hq => ?_) fun _ _ h => h.elim
    obtain ⟨h', tk, rfl, hk, hr⟩ := hq
    obtain ⟨h0, tk0, rfl, hk0⟩ := hJ
    cases hr
    exact hQ _ _ ⟨h', tk, rfl, fun b o e => hk _ _ (hk0 _ _ e)⟩ (hst _ _ _ hSt hk) (hk _ _ hSo) ⟨_, rfl⟩ fun _ _ h => h
  cmp i j ki kj s1 Q E hJ hVi hVj hq := by
    obtain ⟨t, rfl⟩ := hVi
    obtain ⟨u, rfl⟩ := hVj
    refine rcLt_alike (.int (ks.getD i 0)) (.int (ks.getD j 0)) A s1 _ _ [] [] (.int _ _) (.int _ _) rfl (fun h => nomatch h) ?_ prog w E Q ?_
    · simp only [PyData.depth]
      exact hu
    · rw [dataLt_int]
      exact hq
theorem minKey_sq {t : Bool} {l f : Addr} {vs : List Value} {ks : List Int} {Q : Value → Shared → Prop} (hh : A.handled = none) (hl : hSq t s.heap l vs.toArray) (hn : 0 < vs.length) (hu : A.units + 1 < cLine)
    (turn : ∀ i v (s1 : Shared), i < vs.length → vs[i]? = some v → KeptS s s1 → wpAny (model prog w) A.in1 (call (.ref f) [v]) (KeyPure (.int (ks.getD i 0)) s1) (fun _ _ => False) s1)
    (h : ∀ v s', vs[argBest (btK ks) (vs.length - 1)]? = some v → KeptS s s' → Q v s') :
    wpAny (model prog w) A (call (.builtin "min") [.ref l] [(Str.ofString "key", .ref f)]) Q E s := by
  cases t with
  | true =>
    refine call_min_walkK (iter_tupleW (A := A.in1) hh hl fun s₂ e W st hfp hw hk2 => ?_)
    have hsz : s.heap.objs.size ≤ s₂.heap.objs.size := by
      subst e
      show _ ≤ (s.heap.push _).objs.size
      rw [Heap.size_push]
      exact Nat.le_succ _
    refine ⟨_, _, _, _, _, _, _, KeptS s, IntV ks, btK ks, rfl, W, st, hfp, by simpa using hn, keyRun_ints ks hsz (Nat.le_refl _) (fun i s1 s2 ⟨⟨o1, g1, g2, g3⟩, o2, g4, g5, n2, g6⟩ hk => ⟨⟨o1, hk _ _ g1, g2, g3⟩, o2, hk _ _ g4, g5, n2, g6⟩) (fun i v s1 hi hP hJ => turn i v s1 (by simpa using hi) (by simpa using hP) hJ) hu, ⟨s₂.heap, s₂.toks, by subst e; rfl, hk2⟩, fun v s' hP hJ => h v s' (by simpa using hP) hJ⟩
  | false =>
    refine call_min_walkK (iter_listW (A := A.in1) hh hl fun s₂ e W st hfp hw hk2 => ?_)
    have hsz : s.heap.objs.size ≤ s₂.heap.objs.size := by
      subst e
      show _ ≤ (s.heap.push _).objs.size
      rw [Heap.size_push]
      exact Nat.le_succ _
    refine ⟨_, _, _, _, _, _, _, KeptS s, IntV ks, btK ks, rfl, W, st, hfp, by simpa using hn, keyRun_ints ks hsz (Nat.le_refl _) (fun i s1 s2 ⟨⟨o1, g1, g2, g3⟩, o2, g4, g5, n2, g6⟩ hk => ⟨⟨o1, hk _ _ g1, g2, g3⟩, o2, hk _ _ g4, g5, n2, g6⟩) (fun i v s1 hi hP hJ => turn i v s1 (by simpa using hi) (by simpa using hP) hJ) hu, ⟨s₂.heap, s₂.toks, by subst e; rfl, hk2⟩, fun v s' hP hJ => h v s' (by simpa using hP) hJ⟩
end
/-! over data -/
def ks3 : List D → Option (List Int)
  | [] => some []
  | .tup [_, _, .int z] :: r => (ks3 r).map (z :: ·)
  | _ => none
theorem ks3_len : ∀ {ds : List D} {ks : List Int}, ks3 ds = some ks → ks.length = ds.length
  | [], ks, e => by cases e; rfl
  | d :: r, ks, e => by
    unfold ks3 at e
    split at e
    · rename_i z; cases z
    · rename_i a b z r' h
      cases h
      cases g : ks3 r with
      | none => rw [g] at e; cases e
      | some qs => rw [g] at e; cases e; simp [ks3_len g]
    · cases e
theorem ks3_get : ∀ {ds : List D} {ks : List Int} {i : Nat} {d : D}, ks3 ds = some ks → ds[i]? = some d → ∃ a b, d = .tup [a, b, .int (ks.getD i 0)]
  | [], ks, i, d, e, h => by simp at h
  | d0 :: r, ks, i, d, e, h => by
    unfold ks3 at e
    split at e
    · rename_i z; cases z
    · rename_i a b z r' h'
      cases h'
      cases g : ks3 r with
      | none => rw [g] at e; cases e
      | some qs =>
        rw [g] at e
        cases e
        cases i with
        | zero => simp at h; exact ⟨a, b, by rw [← h]; rfl⟩
        | succ i => exact ks3_get (i := i) g (by simpa using h)
    · cases e
theorem ks3_map {α : Type} (f : α → D) (k : α → Int) (h : ∀ x, ∃ a b, f x = .tup [a, b, .int (k x)]) : ∀ l : List α, ks3 (l.map f) = some (l.map k)
  | [] => rfl
  | x :: l => by
    obtain ⟨a, b, e⟩ := h x
    rw [List.map_cons, e]
    show (ks3 (l.map f)).map _ = _
    rw [ks3_map f k h l]
    rfl
noncomputable def oMin3 (d : D) : Option D := (seqOf d).bind fun ds => (ks3 ds).bind fun ks => ds[argBest (btK ks) (ds.length - 1)]?
def rLamP (c : Ctx) (σ : L2.St) (f : D → Option D) : V → Hp → VK → Prop := fun x H1 Q => ∃ (s : DS) (pend : List PEnt) (d1 d : D), Rel c σ H1 s pend ∧ (∀ H2, Rel c σ H2 s pend → Vw c.K (Oof c σ s pend) H2 d1 x) ∧ f d1 = some d ∧ ∀ v H', Rel c σ H' s ((v, false, d) :: pend) → Q v H'
theorem T_lam {c : Ctx} {W : XW} {f : D → Option D} {a1 : Arg} {σ : L2.St} {H : Hp} {Q : VK} (h : T c W (mOp1 f a1) σ H Q) : TAg c W a1 σ H fun x H' => rLamP c σ f x H' Q := by
  obtain ⟨s, pend, R, q⟩ := h
  refine ⟨s, pend, R, q.bind.mono fun r1 s1 q1 x H1 e1 R1 => ?_⟩
  obtain ⟨d, hd', q3⟩ := q1.lift
  cases g1 : aGet r1 s1 with
  | none => rw [g1] at hd'; cases hd'
  | some d1 =>
    rw [g1] at hd'
    exact ⟨s1, _, d1, d, R1, fun H2 R2 => R2.viewA g1 e1 fun e h => mem_aPend1 e h, hd', fun v H' R' => q3 v H' R'.dropA⟩
section
variable {c : Ctx} {W : XW} {X : Cx} {e : Expr} {a1 : Arg} {p pos lpos kpos : Pos} {params : Arguments} {scope : Scope} {x : Str} {q : Str} {k : Nat}
theorem px_min3 {p1 c1 q1 : Pos} {i1 : Nat} (Ld : LamD X c q) (hr : Room (k + 1) X.A) (hcalm : X.calm = true) (hm : X.mg "min" = none) (ha : PAg c W X e a1) (L : Lam1 x scope) (hdef : defaultsOf params X.env = ([], []) := by rfl)
    (hbind : ∀ (v : Value) (cl : List (Str × Addr)) (pm cv ctv : Value), bindArgs (kla_fn "<lambda>" (q ++ "<lambda>") params (.Subscript (.Name x p1) (.Constant (.int 2) i1 c1) q1) scope cl pm cv ctv) ⟨[v], []⟩ = pure [(x, v)])
    (hg : Gl X "min" := by rfl) (hd : (x == ("__debug__" : Str)) = false := by decide)
    (hs : starEach [e] X.env = (false, eval e X.env) :: starEach [] X.env := by rfl) (he : backTo pos (starEach [e] X.env) = (false, eval e X.env) :: backTo pos (starEach [] X.env) := by rfl) (hpl : (backTo pos (starEach [e] X.env)).any (·.1) = false := by rfl) :
    PX c W X (.Call (.Name "min" p) [e] [⟨some "key", .Lambda params (.Subscript (.Name x p1) (.Constant (.int 2) i1 c1) q1) scope lpos, kpos⟩] pos) (mOp1 oMin3 a1) := by
  refine ⟨fun pins s σ H Q I h => ?_⟩
  refine wpAny_Call_Name_kw (ld_blt (u := .builtin "min") I hg hm (by rfl) ?_ (by decide) (by decide))
  refine PyProof.Rows.callWith_kw (thn ((pa_cons ha pa_nil hs).run pos pins s σ H (fun vs H1 => ∃ x, vs = [x] ∧ rLamP (c.at X.K) σ oMin3 x H1 Q) I ?_) fun us s1 ⟨vs, H1, I1, r1, xv, ev, q1⟩ => ?_) he hpl (by rfl) (by rfl)
  · have h1 := T_lam (c := c.at X.K) h
    obtain ⟨s0, pend, R, q0⟩ := h1
    exact ⟨s0, pend, R, q0.mono fun av s1 z y H' e1 R1 => ⟨y, rfl, z y H' e1 R1⟩⟩
  · subst ev
    obtain ⟨ds, pend, d1, d, R, hv, hf, hq⟩ := q1
    obtain ⟨v1, rfl, rv1⟩ := vals1 r1
    show wpAny _ _ (evalAll ((do let v ← eval _ X.env; standAt pos; pure v) :: [])) _ _ _
    refine wpAny_evalAll_cons (wpAny_bind (lam_made I1 Ld R.tabs hdef L fun f c' pm ctv H2 s2 I2 hR hob hcd => wpAny_bind (wpAny_standAt (wpAny_pure ?_))))
    refine wpAny_evalAll_nil ?_
    show wpAny _ _ (call (.builtin "min") [v1] [(Str.ofString "key", .ref f)]) _ _ _
    have R2 := hR ds pend R
    have V2 := hv H2 R2
    unfold oMin3 at hf
    cases g : seqOf d1 with
    | none => rw [g] at hf; cases hf
    | some es =>
      rw [g, Option.bind_some] at hf
      cases g2 : ks3 es with
      | none => rw [g2] at hf; cases hf
      | some ks =>
        rw [g2, Option.bind_some] at hf
        obtain ⟨a, xs, ea, hsq, rep⟩ := vw_sqA V2 g
        subst ea
        cases rv1
        obtain ⟨its, rv, hl, _⟩ := sqA_seq I2 hsq
        have hlen : es.length = xs.length := rep.length
        have hlen2 : its.length = xs.length := rv.length.symm
        have hpos : 0 < its.length := by
          have := (List.getElem?_eq_some_iff.mp hf).1
          omega
        refine minKey_sq (ks := ks) (I2.ok.hd hcalm) hl hpos (by have := hr.un; omega) (fun i v s3 hi hvi hJ => ?_) fun v s3 hvi hJ => ?_
        · obtain ⟨h3, tk3, rfl, hk⟩ := hJ
          obtain ⟨y, hy, ry⟩ : ∃ y, xs[i]? = some y ∧ RelV y v := by
            obtain ⟨u, e1, e2⟩ := rv.get (List.getElem?_eq_getElem (show i < xs.length by omega))
            rw [hvi] at e1
            cases e1
            exact ⟨_, List.getElem?_eq_getElem (by omega), e2⟩
          obtain ⟨d', hd', rep'⟩ := rep.get' hy
          obtain ⟨da, db, ed⟩ := ks3_get g2 hd'
          subst ed
          simp only [Rep, RepL] at rep'
          obtain ⟨ai, ys, ey, ht, y1, r1', e1, h1, y2, r2', e2, h2, y3, r3', e3, h3', e4⟩ := rep'
          subst e1 e2 e3 e4 h3'
          have ey' : y = .ref ai := ey
          subst ey'
          cases ry
          obtain ⟨its', rv', ht', _⟩ := I2.tuple ht.sq
          obtain ⟨w1, ws, rfl, q1, q2⟩ : ∃ w1 ws, its' = w1 :: ws ∧ RelV y1 w1 ∧ Vals [y2, .int (ks.getD i 0)] ws := by cases rv' with | cons h t => exact ⟨_, _, rfl, h, t⟩
          obtain ⟨w2, ws2, rfl, q3, q4⟩ : ∃ w2 ws2, ws = w2 :: ws2 ∧ RelV y2 w2 ∧ Vals [.int (ks.getD i 0)] ws2 := by cases q2 with | cons h t => exact ⟨_, _, rfl, h, t⟩
          obtain ⟨w3, rfl, q5⟩ := vals1 q4
          obtain ⟨t3, rfl⟩ := q5
          refine raw_call L (hk _ _ hob) (by obtain ⟨c2, oc, vs, t, e, g1, g2, g3⟩ := hcd; exact ⟨c2, oc, vs, t, e, hk _ _ g1, g2, g3⟩) (by have := hr.dp; show X.A.depth < _; omega) (I2.nolimit.keeps hk) (hbind _ _ _ _ _) fun s3 env es hk3 hsc hns => ?_
          obtain ⟨tk4, es⟩ := es
          have hkd : env.kindOf x = some .local := by
            show env.scope.names.lookup x = _
            rw [hsc]; exact L.par
          have ht3 : IsTup s3.heap ai #[w1, w2, .int (ks.getD i 0) t3] := by
            obtain ⟨o, g1, g2, n, g3⟩ := ht'
            exact ⟨o, hk3 _ _ (hk _ _ g1), g2, n, g3⟩
          refine raw_ix (k := 2) (its := [w1, w2, .int (ks.getD i 0) t3]) (by rw [hsc]; exact L.kind) hkd hns (by simp) ht3 (show 3 ≤ 1000 by decide) rfl ?_ hd
          exact ⟨s3.heap, s3.toks + 1, rfl, fun b o e => e, .int _ _⟩
        · obtain ⟨h3, tk3, rfl, hk⟩ := hJ
          obtain ⟨y, hy, ry⟩ : ∃ y, xs[argBest (btK ks) (its.length - 1)]? = some y ∧ RelV y v := by
            have hi : argBest (btK ks) (its.length - 1) < its.length := (List.getElem?_eq_some_iff.mp hvi).1
            obtain ⟨u, e1, e2⟩ := rv.get (List.getElem?_eq_getElem (show argBest (btK ks) (its.length - 1) < xs.length by omega))
            rw [hvi] at e1
            cases e1
            exact ⟨_, List.getElem?_eq_getElem (by omega), e2⟩
          obtain ⟨d', hd', rep'⟩ := rep.get' hy
          rw [hlen2, ← hlen, hf] at hd'
          cases hd'
          exact ⟨y, H2, I2.kept hk, ry, hq y H2 (R2.push rep')⟩
end
end DL

set_option Elab.async false
set_option linter.all false
set_option autoImplicit false
set_option maxRecDepth 100000
namespace DL
variable [TQ]
open PySem PySem.Spec PyProof.Rows L2
/-! ### a constant of a module: a whole number -/
section
variable {X : Cx} {c : Ctx} {W : XW}
theorem px_constI {x : Str} {n : Int} {t : Tok} {pos : Pos} (hm : X.mg x = some (.int n t)) (hg : Gl X x := by rfl) (hd : (x == ("__debug__" : Str)) = false := by decide) : PX c W X (.Name x pos) (mC (.int n)) :=
  PEimp (pe_glob (v := .int n) hg hm ⟨t, rfl⟩ hd) fun σ H Q ⟨s, pend, R, q⟩ => q (.int n) H (R.push (by simp only [Rep]))
end
end DL

set_option Elab.async false
set_option linter.all false
set_option autoImplicit false
set_option maxRecDepth 100000
namespace DL
variable [TQ]
open PySem PySem.Spec PyProof.Rows L2
/-! ### what is never run -/
section
variable {X : Cx} {c : Ctx} {W : XW} {st : Stmt} {e : Expr}
def sDead : SM := fun _ => .bad
theorem ps_deadX : PSX c W X st sDead := by
  constructor
  intros
  rename_i q
  obtain ⟨s0, pend, R, f⟩ := q
  exact f.elim
@[simp] theorem sDead_run (s : DS) : sDead s = .bad := rfl
end
/-! ### targets in targets -/
def gNs2 : List TgF → List D → DS → Option DS
  | [], [], s => some s
  | g :: gs, d :: ds, s => (g d s).bind (gNs2 gs ds)
  | _, _, _ => none
theorem gNs2_len : ∀ {gs : List TgF} {ds : List D} {s s' : DS}, gNs2 gs ds s = some s' → ds.length = gs.length
  | [], [], _, _, _ => rfl
  | g :: gs, d :: ds, s, _, h => by
    simp only [gNs2] at h
    cases e : g d s with
    | none => rw [e] at h; cases h
    | some s1 => rw [e] at h; exact congrArg Nat.succ (gNs2_len (gs := gs) h)
  | [], _ :: _, _, _, h => by cases h
  | _ :: _, [], _, _, h => by cases h
def gTT (gs : List TgF) : TgF := fun d s => match d with
  | .tup ds => gNs2 gs ds s
  | _ => none
@[simp] theorem gTT_run (gs : List TgF) (ds : List D) (s : DS) : gTT gs (.tup ds) s = gNs2 gs ds s := rfl
@[simp] theorem gNs2_nil (s : DS) : gNs2 [] [] s = some s := rfl
@[simp] theorem gNs2_cons (g : TgF) (gs : List TgF) (d : D) (ds : List D) (s : DS) : gNs2 (g :: gs) (d :: ds) s = (g d s).bind (gNs2 gs ds) := rfl
def pL : List V → List D → List PEnt
  | v :: vs, d :: ds => (v, false, d) :: pL vs ds
  | _, _ => []
section
variable {c : Ctx} {σ : L2.St} {H : Hp} {s : DS} {pend : List PEnt}
theorem Oof_pL : ∀ (vs : List V) (ds : List D), Oof c σ s (pL vs ds ++ pend) = Oof c σ s pend
  | [], ds => by cases ds <;> rfl
  | v :: vs, [] => rfl
  | v :: vs, d :: ds => by
    show Oof c σ s ((v, false, d) :: (pL vs ds ++ pend)) = _
    rw [Oof.false, Oof_pL vs ds]
theorem Rel.pushL (R : Rel c σ H s pend) : ∀ {ds : List D} {vs : List V}, RepL c.K (Oof c σ s pend) H ds vs → Rel c σ H s (pL vs ds ++ pend)
  | [], vs, _ => by cases vs <;> exact R
  | d :: ds, vs, r => by
    simp only [RepL] at r
    obtain ⟨v, rr, ev, r1, r2⟩ := r
    subst ev
    exact (R.pushL r2).push (by rw [Oof_pL]; exact r1)
end
def TGs2 (c : Ctx) (gs : List TgF) (js : List Nat) : TGs := fun vs σ H Q => ∃ s pend ds s', Rel c σ H s (pL vs ds ++ pend) ∧ ds.length = vs.length ∧ gNs2 gs ds s = some s' ∧ ∀ σ' H', σ'.length = σ.length → (∀ (j : Nat), j ∉ js → σ'[j]? = σ[j]?) → Rel c σ' H' s' pend → Q σ' H'
def PGsY (c : Ctx) (X : Cx) (es : List Expr) (gs : List TgF) (js : List Nat) : Prop := PGs X es (TGs2 (c.at X.K) gs js)
section
variable {X : Cx} {c : Ctx} {e : Expr} {es : List Expr} {g : TgF} {gs : List TgF} {js is : List Nat} {pos : Pos}
theorem pgsy_nil : PGsY c X [] [] [] := PGsimp pgs_nil fun vs σ H Q ⟨s, pend, ds, s', R, r, e, q⟩ => by
  cases ds with
  | nil =>
    cases e
    cases vs with
    | nil => exact ⟨rfl, q σ H rfl (fun _ _ => rfl) R⟩
    | cons v vs => cases r
  | cons d ds => cases e
theorem pgsy_cons (h1 : PGX c X e g js) (h2 : PGsY c X es gs is) (hs : (assignEach (e :: es) X.env).map (·.2) = assign e X.env :: (assignEach es X.env).map (·.2) := by rfl) : PGsY c X (e :: es) (g :: gs) (js ++ is) :=
  PGsimp (pgs_cons h1 h2 hs) fun vs σ H Q ⟨s, pend, ds, s', R, r, e, q⟩ => by
    cases ds with
    | nil => cases e
    | cons d ds =>
      cases vs with
      | nil => cases r
      | cons v vs =>
        simp only [gNs2] at e
        cases eg : g d s with
        | none => rw [eg] at e; cases e
        | some s1 =>
          rw [eg, Option.bind_some] at e
          refine ⟨v, vs, rfl, s, pL vs ds ++ pend, d, s1, R, eg, fun σ1 H1 hl1 hj1 R1 => ⟨s1, pend, ds, s', R1, by simpa using r, e, fun σ' H' hl hj R' => q σ' H' (hl.trans hl1) (fun j hj' => ?_) R'⟩⟩
          rw [hj j fun z => hj' (List.mem_append_right _ z), hj1 j fun z => hj' (List.mem_append_left _ z)]
theorem pgx_tup2 {n k : Nat} (hc : X.calm = true) (h : PGsY c X es gs js) (hl : gs.length = n := by rfl) (hn : (assignEach es X.env).length = n := by rfl) (hst : (assignEach es X.env).findIdx? (·.1) = none := by rfl) : PGX c X (.Tuple es k pos) (gTT gs) js :=
  PGimp (pg_tup hc h hn hst) fun v σ H Q ⟨s, pend, d, s', R, e, q⟩ => by
    cases d with
    | tup ds =>
      have r := R.head
      simp only [Rep] at r
      obtain ⟨a, xs, ev, t, r⟩ := r
      refine ⟨a, xs, ev, t.sq, ?_, s, pend, ds, s', R.drop.pushL r, r.length, e, q⟩
      rw [← r.length]
      exact (gNs2_len (show gNs2 gs ds s = some s' from e)).trans hl
    | _ => cases e
end
end DL

set_option Elab.async false
set_option linter.all false
set_option autoImplicit false
set_option maxRecDepth 100000
namespace DL
variable [TQ]
open PySem PySem.Spec PyProof.Rows L2
/-! ### a character of a string -/
/-- x[i] of a list, a tuple or a string -/
def oIxB : D → D → Option D
  | .str z, .int i => if z.length ≤ 100000 then (atI z.cps.toList i).map fun c => .str ⟨#[c]⟩ else none
  | d, e => oIxA d e
section
variable {K : PySem.W.Frag}
theorem od_ixB : OpD2 K oIxB (rIx K) := fun c σ H s pend x y d1 d2 d Q eK R v1 v2 e q => by
  cases d1 with
  | str z =>
    cases d2 with
    | int i =>
      unfold oIxB at e
      dsimp only at e
      by_cases hz : z.length ≤ 100000
      · rw [if_pos hz] at e
        cases g : atI z.cps.toList i with
        | none => rw [g] at e; cases e
        | some ch =>
          rw [g] at e
          cases e
          refine .inr (.inr ⟨z, i, ch, ?_, vw_int v2, Nat.le_trans hz (by rw [show sizeLine = 16777216 from sizeLine_eq]; decide), g, q _ H (R.push (by simp only [Rep]))⟩)
          first
            | exact vw_str v1
            | (have h := v1.rep; simp only [Rep] at h; exact h)
            | (simpa only [Vw, Rep] using v1)
      · rw [if_neg hz] at e; cases e
    | _ => cases e
  | _ => exact od_ixA c σ H s pend x y _ d2 d Q eK R v1 v2 (by simpa only [oIxB] using e) q
end
@[simp] theorem oIxB_lst (ds : List D) (e : D) : oIxB (.lst ds) e = oIxA (.lst ds) e := rfl
@[simp] theorem oIxB_tup (ds : List D) (e : D) : oIxB (.tup ds) e = oIxA (.tup ds) e := rfl
end DL

set_option Elab.async false
set_option linter.all false
set_option autoImplicit false
set_option maxRecDepth 100000
namespace DL
variable [TQ]
open PySem PySem.Spec PyProof.Rows L2
/-! ### strings: slices, walks -/
section
variable {c : Ctx} {W : XW} {X : Cx} {e a b e3 tg : Expr} {es : List Expr} {m ma mb me : M D} {pos pos' p : Pos} {x : Str} {i j : Nat} {as : List Arg} {K : PySem.W.Frag}
/-- xs[lo:hi] of a list, a tuple, a string -/
def cutB (d : D) (l h : Option Int) : Option D := match d with
  | .tup ds => some (.tup (cutD ds l h))
  | .lst ds => some (.lst (cutD ds l h))
  | .str z => if z.length ≤ 100000 then some (.str (cutS z l h)) else none
  | _ => none
def mCutB (a1 : Arg) (lo hi : Option (M D)) : M D := fun s => (aEv a1 s).bind fun r1 s => (pEv lo s).bind fun l s => (pEv hi s).bind fun h s => lift ((aGet r1 s).bind fun d => cutB d l h) s
theorem px_cutB {a1 : Arg} {lo hi : Option Expr} {ml mh : Option (M D)} {p2 : Pos} (ha : PAg c W X e a1) (hl : POX c W X lo ml) (hh : POX c W X hi mh) : PX c W X (.Subscript e (.Slice lo hi none p2) pos) (mCutB a1 ml mh) :=
  PEimp (pe_slice ((sl_list.or sl_tupA).or sl_str) ha hl hh) fun σ H Q ⟨s, pend, R, q⟩ => by
    refine ⟨s, pend, R, q.bind.mono fun r1 s1 q1 x H1 e1 R1 => ⟨s1, _, R1, q1.bind.mono fun l s2 q2 H2 R2 => ⟨s2, _, R2, q2.bind.mono fun h s3 q3 H3 R3 => ?_⟩⟩⟩
    obtain ⟨d, hd, q4⟩ := q3.lift
    cases g : aGet r1 s3 with
    | none => rw [g] at hd; cases hd
    | some d1 =>
      rw [g] at hd
      have v1 := R3.viewA g e1 fun e h => mem_aPend1 e h
      cases d1 with
      | lst ds =>
        cases hd
        obtain ⟨a, xs, ea, hq, r⟩ := vw_lst v1
        exact .inl (.inl ⟨a, xs, ea, SqL.of hq, fun p hp => q4 _ _ (R3.lst hp (cut_rep r)).dropAT.relP⟩)
      | tup ds =>
        cases hd
        obtain ⟨a, xs, ea, hq, r⟩ := vw_tup v1
        refine .inl (.inr ⟨a, xs, ea, hq.sq, fun hw => ?_, fun hw p hp => q4 _ _ (R3.tup hp (cut_rep r)).dropA⟩)
        have ew : cutD ds l h = ds := by
          unfold cutD
          rw [r.length, hw.1, hw.2, List.drop_zero, Nat.sub_zero, ← r.length, List.take_length]
        subst ea
        refine q4 _ H3 (R3.push ?_).dropA
        rw [ew]
        simp only [Rep]
        exact ⟨a, xs, rfl, hq, r⟩
      | str z =>
        simp only [Option.bind_some, cutB] at hd
        by_cases hz : z.length ≤ 100000
        · rw [if_pos hz] at hd; cases hd
          exact .inr ⟨z, vw_str v1, Nat.le_trans hz (by rw [show sizeLine = 16777216 from sizeLine_eq]; decide), q4 _ H3 (R3.push (by simp only [Rep])).dropA⟩
        · rw [if_neg hz] at hd; cases hd
      | _ => cases hd
/-- the characters -/
def charsD (z : Str) : List D := z.cps.toList.map fun ch => .str ⟨#[ch]⟩
def seqB : D → Option (List D)
  | .str z => some (charsD z)
  | d => seqOf d
def mItemsB (m : M D) : M (List D) := fun s => (m s).bind fun d s => lift (seqB d) s
theorem walk_str {z : Str} : WalkD c (Its z) (charsD z) [] := by
  intro σ H s P R hP
  refine ⟨fun i hi => by show i < z.cps.size; simpa [charsD] using hi, by show z.cps.size ≤ _; simp [charsD], fun i x H' d e y => ?_⟩
  obtain ⟨e1, ch, ec, ex⟩ := y
  subst e1 ex
  refine R.push ?_
  unfold charsD at e
  rw [List.getElem?_map, Array.getElem?_toList, ec] at e
  cases e
  simp only [Rep]
def mItemsS (m : M D) : M (List D) := fun s => (m s).bind fun d s => match d with
  | .str z => .ok (charsD z) s
  | _ => .bad
theorem pix_str (h : PX c W X e m) : PIX c W X tg e (mItemsS m) := PIimp (pi_str h) fun σ H Rr ⟨s, pend, R, q⟩ => by
  refine ⟨s, pend, R, q.bind.mono fun d s1 q1 v H1 R1 => ?_⟩
  cases d with
  | str z =>
    have rep := R1.head
    simp only [Rep] at rep
    exact ⟨z, rep, q1 _ H1 [] (fun _ h => nomatch h) walk_str R1.drop⟩
  | _ => exact q1.elim
theorem pix_seqB (h : PX c W X e m) : PIX c W X tg e (mItemsB m) := ⟨fun pins s0 σ H Rr I ⟨s, pend, R, q⟩ => by
  have hL : mItemsB m s = mItemsA m s → _ := fun z => (pix_seq (tg := tg) h).run pins s0 σ H Rr I ⟨s, pend, R, z ▸ q⟩
  have hT : mItemsB m s = mItemsS m s → _ := fun z => (pix_str (tg := tg) h).run pins s0 σ H Rr I ⟨s, pend, R, z ▸ q⟩
  cases hm : m s with
  | bad => exact hL (by simp only [mItemsB, mItemsA, hm]; rfl)
  | ex x s1 => exact hL (by simp only [mItemsB, mItemsA, hm]; rfl)
  | ok d s1 =>
    cases d with
    | str ds => exact hT (by simp only [mItemsB, mItemsS, hm]; rfl)
    | _ => exact hL (by simp only [mItemsB, mItemsA, hm]; rfl)⟩
end
/-! equations -/
section
variable (a1 : Arg) (lo hi : Option (M D)) (l h : Option Int) (s : DS) (r1 : AV) (m : M D) (d : D) (ds : List D) (z : Str)
@[simp] theorem mCutB_run : mCutB a1 lo hi s = (aEv a1 s).bind (kCut0 cutB lo hi) := by
  unfold mCutB kCut0 kCut1 kCut2; simp only [oo1_eq]
@[simp] theorem cutB_tup : cutB (.tup ds) l h = some (.tup (cutD ds l h)) := rfl
@[simp] theorem cutB_lst : cutB (.lst ds) l h = some (.lst (cutD ds l h)) := rfl
theorem cutB_str (hz : z.length ≤ 100000) : cutB (.str z) l h = some (.str (cutS z l h)) := if_pos hz
def kSeqB (d : D) (s : DS) : Ores (List D) := lift (seqB d) s
@[simp] theorem kSeqB_run : kSeqB d s = lift (seqB d) s := rfl
@[simp] theorem mItemsB_run : mItemsB m s = (m s).bind kSeqB := rfl
@[simp] theorem seqB_lst : seqB (.lst ds) = some ds := rfl
@[simp] theorem seqB_tup : seqB (.tup ds) = some ds := rfl
@[simp] theorem seqB_scr : seqB (.scr ds) = some ds := rfl
@[simp] theorem seqB_str : seqB (.str z) = some (charsD z) := rfl
theorem oIxB_str {z : Str} {i : Int} {ch : Nat} (hz : z.length ≤ 100000) (h : atI z.cps.toList i = some ch) : oIxB (.str z) (.int i) = some (.str ⟨#[ch]⟩) := by
  show (if z.length ≤ 100000 then (atI z.cps.toList i).map fun c => D.str ⟨#[c]⟩ else none) = _
  rw [if_pos hz, h]; rfl
end
/-! ### the place of a string in a module's tuple -/
def ConstD (K : PySem.W.Frag) (a : Addr) (ss : List Str) : Prop :=
  ∃ (o : Obj) (its : Array Value) (n : Nat), K.lookup a = some o ∧ o.cls = .type "tuple" ∧ o.dict = none ∧ o.data = .seq its n ∧ its.size ≤ sizeLine ∧ Vals (ss.map V.str) its.toList
theorem ConstD.s {K : PySem.W.Frag} {a : Addr} {ss : List Str} (h : ConstD K a ss) : ConstS K a ss := by
  obtain ⟨o, its, n, h1, h2, _, h3, h4, h5⟩ := h
  exact ⟨o, its, n, h1, h2, h3, h4, h5⟩
def oIxS (ss : List Str) : D → Option D
  | .str z => if z ∈ ss then some (.int (ss.idxOf z : Nat)) else none
  | _ => none
section
variable {c : Ctx} {W : XW} {X : Cx} {e : Expr} {a1 : Arg} {pos apos cpos : Pos}
theorem px_constIx {x : Str} {a : Addr} {ss : List Str} (h : ConstD X.K a ss) (hm : X.mg x = some (.ref a)) (ha : PAg c W X e a1) (hg : Gl X x := by rfl) (hd : (x == ("__debug__" : Str)) = false := by decide)
    (hbase : attributeBase (.Name x pos) "index" X.env (eval (.Name x pos) X.env) = eval (.Name x pos) X.env := by rfl)
    (hfew : ((backTo cpos (starEach [e] X.env)).all (fun x => !x.1) && (backToKw cpos (keywordEach [] X.env)).all (fun x => x.1.isSome)
      && decide ([e].length + ([] : List Keyword).length + (if ([] : List Keyword).isEmpty then 0 else 1) < 30)) = true := by rfl)
    (hline : (apos.endLine == cpos.line) = true := by rfl) (hs : starEach [e] X.env = (false, eval e X.env) :: starEach [] X.env := by rfl) (hplain : (backTo cpos (starEach [] X.env)).any (·.1) = false := by rfl) :
    PX c W X (.Call (.Attribute (.Name x pos) "index" apos) [e] [] cpos) (mOp1 (oIxS ss) a1) :=
  PEimp (pe_bm PySem.F.plainAttrs_tuple PySem.F.slot_tuple_index PySem.F.type_tuple_index mt_tup_index (pe_glob (v := .ref a) hg hm rfl hd) (pa_cons ha pa_nil hs) hbase hfew hline hs hplain) fun σ H Q ⟨s, pend, R, q⟩ => by
    obtain ⟨o, its, n, h1, h2, h2d, h3, h4, h5⟩ := id h
    refine ⟨.inr (.inl ⟨rfl, o, h1, h2, h2d⟩), s, pend, R, q.bind.mono fun r1 s1 q1 y H1 e1 R1 => ?_⟩
    obtain ⟨d, hd', q3⟩ := q1.lift
    cases g : aGet r1 s1 with
    | none => rw [g] at hd'; cases hd'
    | some d1 =>
      rw [g] at hd'
      have v1 := R1.viewA g e1 fun e h => mem_aPend1 e h
      cases d1 with
      | str z =>
        simp only [Option.bind_some, oIxS] at hd'
        by_cases hz : z ∈ ss
        · rw [if_pos hz] at hd'; cases hd'
          refine ⟨a, ss, z, ss.idxOf z, rfl, by rw [vw_str v1], .inr ⟨o, its, n, h1, h2, h3, h4, h5⟩, ?_, fun m hm e => ?_, q3 _ H1 (R1.push (by simp only [Rep])).dropA⟩
          · have hl := List.idxOf_lt_length_iff.mpr hz
            rw [List.getElem?_eq_getElem hl, List.getElem_idxOf hl]
          · obtain ⟨hl, e2⟩ := List.getElem?_eq_some_iff.mp e
            have h3 := List.not_of_lt_findIdx (p := (· == z)) (xs := ss) (by simpa [List.idxOf] using hm)
            exact absurd (show (ss[m] == z) = true by rw [e2]; exact beq_self_eq_true z) (by rw [h3]; decide)
        · rw [if_neg hz] at hd'; cases hd'
      | _ => cases hd'
theorem oIxS_run (ss : List Str) (z : Str) (h : z ∈ ss) : oIxS ss (.str z) = some (.int (ss.idxOf z : Nat)) := if_pos h
end
end DL

set_option Elab.async false
set_option linter.all false
set_option autoImplicit false
set_option maxRecDepth 100000
set_option maxHeartbeats 4000000
namespace HT
open PySem PySem.Spec PyProof.Rows L2
section
variable {prog : Program} {w : World} {A : Around} {E : Value → Shared → Prop} {s : Shared}
theorem places_rev (n : Nat) : Builtin.Slice.slicePlaces ((n : Int) - 1) (-1) (-1) = n := by
  unfold Builtin.Slice.slicePlaces
  have h1 : ¬ ((-1 : Int) > 0) := by omega
  simp only [h1, if_false]
  split
  · rw [show (- -1 : Int) = 1 by decide, Int.ediv_one]; omega
  · omega
theorem sliceApplied_rev {sl : Addr} {n : Nat} {u : Tok} {Q : Int × Int × Nat → Shared → Prop} (hs : s.heap.IsSliceOf sl .none .none (.int (-1) u)) (h : Q ((n : Int) - 1, -1, n) s) : wpAny (model prog w) A (Builtin.Slice.sliceApplied (.ref sl) (pure (n : Int))) Q E s := by
  obtain ⟨os, hos, hcs, hds⟩ := id hs
  unfold Builtin.Slice.sliceApplied Builtin.Slice.sliceFields
  refine wpAny_bind (wpAny_bind (wpAny_field hos hds (x := .none) rfl (wpAny_bind (wpAny_field hos hds (x := .none) rfl (wpAny_bind (wpAny_field hos hds (x := .int (-1) u) rfl (wpAny_pure ?_)))))))
  refine wpAny_bind (slicePart_int ?_)
  show wpAny _ _ (if ((-1 : Int) == 0) = true then _ else _) _ _ s
  rw [if_neg (by decide)]
  refine wpAny_bind (slicePart_none (wpAny_bind (slicePart_none (wpAny_bind (wpAny_pure ?_)))))
  show wpAny _ _ (pure ((n : Int) - 1, (-1 : Int), Builtin.Slice.slicePlaces ((n : Int) - 1) (-1) (-1))) _ _ s
  rw [places_rev]
  exact wpAny_pure h
theorem fm_congr {α β : Type} {f g : α → Option β} : ∀ {l : List α}, (∀ m ∈ l, f m = g m) → l.filterMap f = l.filterMap g
  | [], _ => rfl
  | a :: l, h => by rw [List.filterMap_cons, List.filterMap_cons, h a List.mem_cons_self, fm_congr fun m hm => h m (List.mem_cons_of_mem _ hm)]
theorem pick_rev (xs : Array Value) : ((List.range xs.size).filterMap fun (m : Nat) => xs[(((xs.size : Nat) : Int) - 1 + (m : Int) * -1).toNat]?).toArray = xs.toList.reverse.toArray := by
  congr 1
  apply List.ext_getElem?
  intro i
  have e1 : ((List.range xs.size).filterMap fun (m : Nat) => xs[(((xs.size : Nat) : Int) - 1 + (m : Int) * -1).toNat]?) = (List.range xs.size).filterMap fun m => xs.toList.reverse[m]? := by
    apply fm_congr
    intro m hm
    have hm := List.mem_range.mp hm
    rw [List.getElem?_reverse (by simpa using hm)]
    rw [show (((xs.size : Nat) : Int) - 1 + (m : Int) * -1).toNat = xs.toList.length - 1 - m by rw [Array.length_toList]; omega]
    rw [Array.getElem?_toList]
  rw [e1]
  have e2 := PySem.W.krv_all (xs.toList.reverse.toArray)
  simp only [List.size_toArray, List.length_reverse, Array.length_toList, List.getElem?_toArray] at e2
  rw [e2]
theorem getItem_tuple_rev {t sl : Addr} {items : Array Value} {u : Tok} {Q : Value → Shared → Prop} (ht : IsTup s.heap t items) (hs : s.heap.IsSliceOf sl .none .none (.int (-1) u))
    (h : Q (.ref s.heap.objs.size) { s with heap := s.heap.push { cls := .type "tuple", data := .seq items.toList.reverse.toArray } })
    (hsz : items.size ≤ sizeLine) : wpAny (model prog w) A (getItem (.ref t) (.ref sl)) Q E s := by
  have htake : sizeOk (.seq items.toList.reverse.toArray) := by
    show items.toList.reverse.toArray.size ≤ sizeLine
    rw [List.size_toArray, List.length_reverse, Array.length_toList]
    exact hsz
  obtain ⟨os, hos, hcs, hds⟩ := id hs
  have hTs : s.TypeIs (.ref sl) "slice" := ⟨os, hos, hcs⟩
  unfold getItem
  try with_reducible refine wpAny_holding ?_
  first | refine wpAny_bind (wpAny_pure ?_) | skip
  refine wpAny_bind (wpAny_sequenceKey ht.typeIs (by decide) ?_)
  refine wpAny_bind (wpAny_callSpecial?_slot (name := Str.ofString "__getitem__") ht.typeIs PyProof.Rows.slot_tuple_getitem
    (wpAny_call_entry PyProof.Rows.slot_tuple_getitem ht.typeIs entry_tuple_getitem ?_ (args_tuple_getitem _ _)))
  show wpAny _ _ (Builtin.Tuple.tupleItemsOf (.ref t) >>= _) _ _ s
  refine wpAny_bind (tupleItemsOf_ ht ?_)
  refine wpAny_bind (wpAny_typeOf hTs ?_)
  rw [if_pos (by decide)]
  refine wpAny_bind (sliceApplied_rev (n := items.size) hs ?_)
  have hno : ¬ (((((items.size : Nat) : Int) - 1) == 0 && (-1 : Int) == 1 && items.size == items.size) = true) := by
    intro q
    rw [Bool.and_eq_true, Bool.and_eq_true] at q
    exact absurd q.1.2 (by decide)
  show wpAny _ _ (if ((((items.size : Nat) : Int) - 1) == 0 && (-1 : Int) == 1 && items.size == items.size) = true then _ else _) _ _ s
  rw [if_neg hno, pick_rev]
  first
    | exact wpAny_bind (m := Builtin.Tuple.tupleExact _) (wpAny_newObj_type (wpAny_pure ⟨_, rfl, wpAny_pure h⟩) htake)
    | exact wpAny_bind (m := Builtin.Tuple.tupleExact _) (wpAny_newObj_type (wpAny_bind (wpAny_pure (wpAny_pure ⟨_, rfl, wpAny_pure h⟩))) htake)
    | exact wpAny_bind (wpAny_bind (m := Builtin.Tuple.tupleExact _) (wpAny_newObj_type (wpAny_pure (wpAny_pure ⟨_, rfl, wpAny_pure h⟩)) htake))
    | exact wpAny_bind (wpAny_bind (m := Builtin.Tuple.tupleExact _) (wpAny_newObj_type (wpAny_pure ⟨_, rfl, wpAny_pure h⟩) htake))
end
end HT
namespace DL
variable [TQ]
open PySem PySem.Spec PyProof.Rows L2
section
variable {X : Cx}
/-! ### xs[::-1] of a list, of a tuple -/
def tRevA (K : PySem.W.Frag) (te : TE) : TE := fun σ H Q => te σ H fun x H1 => ∃ a xs, x = .ref a ∧ ((SqL K H1 a xs ∧ ∀ p, H1 p = none → Q (.ref p) (upd H1 p (.lst xs.reverse))) ∨ (SqT K H1 a xs ∧ ∀ p, H1 p = none → Q (.ref p) (upd H1 p (.tup xs.reverse))))
theorem pe_revA {e : Expr} {te : TE} {k : Nat} {p1 p2 p3 pos : Pos} (he : PE X e te) : PE X (.Subscript e (.Slice none none (some (.UnaryOp .USub (.Constant (.int 1) k p1) p2)) p3) pos) (tRevA X.K te) := by
  refine ⟨fun pins s σ H Q I h => ?_⟩
  refine Subscript_ (thn (he.run pins s σ H _ I h) fun v s1 ⟨x, H1, I1, r1, q1⟩ => ?_)
  obtain ⟨a, xs, ex, hxq⟩ := q1
  subst ex
  cases r1
  have hst : PO X (some (.UnaryOp .USub (.Constant (.int 1) k p1) p2)) (tPart (tUn (rU fun i => .int (-i)) (tC (.int 1)))) := po_some (pe_un un_neg pe_int)
  refine wpAny_Slice (thn (po_none.run pins s1 σ H1 (fun o H2 => o = none ∧ H2 = H1) I1 ⟨rfl, rfl⟩) fun vl s2 ⟨l, H2, I2, pl, el, e2⟩ => ?_)
  subst el e2
  refine thn (po_none.run pins s2 σ H2 (fun o H3 => o = none ∧ H3 = H2) I2 ⟨rfl, rfl⟩) fun vu s3 ⟨u, H3, I3, pu, eu, e3⟩ => ?_
  subst eu e3
  refine thn (hst.run pins s3 σ H3 (fun o H4 => o = some (-1) ∧ H4 = H3) I3 ⟨1, rfl, -1, rfl, rfl, rfl⟩) fun vs s4 ⟨o, H4, I4, ps, eo, e4⟩ => ?_
  subst eo e4
  have I5 : Inv X pins σ H4 { s4 with heap := s4.heap.push { cls := .type "slice", data := .fields #[vl, vu, vs] } } := I4.kept (t' := s4.toks) fun b ob q => Heap.get?_push_of_some _ q
  show wpAny (model X.prog X.w) X.A (subscriptTail e (.Slice none none (some (.UnaryOp .USub (.Constant (.int 1) k p1) p2)) p3) (.ref a) (.ref s4.heap.objs.size)) (EP X pins σ Q) X.xe { s4 with heap := s4.heap.push { cls := .type "slice", data := .fields #[vl, vu, vs] } }
  rcases hxq with ⟨hx, q⟩ | ⟨hx, q⟩
  · obtain ⟨its, r, ht, hz⟩ := I5.list hx
    have hlen := r.length
    refine tail_any (ops := [.ref a, .ref s4.heap.objs.size]) ht.isList.typeIs (PySem.slot_list_getitem.lookup) ?_ (by with_unfolding_all rfl)
    refine wpAny_getItem_list_slice ht.isList (Heap.IsSliceOf.new _ vl vu vs) pl pu ps (by decide) ?_ (by rw [List.size_toArray]; omega)
    rw [PySem.W.krv_pick]
    refine ⟨.ref _, _, I5.laid (t' := s4.toks) (o := .lst xs.reverse) (fun b ob q => Heap.get?_push_of_some _ q) (Nat.le_refl _) ?_, rfl, q _ (I5.hok.fresh (Nat.le_refl _))⟩
    exact ⟨by rw [List.length_reverse]; exact hz, _, 0, r.reverse, Heap.get?_push_size _ rfl⟩
  · obtain ⟨its, r, ht, hz⟩ := I5.tuple hx
    have hlen := r.length
    cases pl
    cases pu
    cases ps with
    | int i t =>
      refine tail_any (ops := [.ref a, .ref s4.heap.objs.size]) ht.typeIs (PyProof.Rows.slot_tuple_getitem.lookup) ?_ (by with_unfolding_all rfl)
      refine HT.getItem_tuple_rev ht (Heap.IsSliceOf.new _ .none .none (.int (-1) t)) ?_ (by rw [List.size_toArray]; omega)
      refine ⟨.ref _, _, I5.laid (t' := s4.toks) (o := .tup xs.reverse) (fun b ob q => Heap.get?_push_of_some _ q) (Nat.le_refl _) ?_, rfl, q _ (I5.hok.fresh (Nat.le_refl _))⟩
      exact ⟨by rw [List.length_reverse]; exact hz, _, r.reverse, IsTup.new _ _⟩
def oRevA : D → Option D
  | .lst ds => some (.lst ds.reverse)
  | .scr ds => some (.lst ds.reverse)
  | .tup ds => some (.tup ds.reverse)
  | _ => none
theorem od_revA {K : PySem.W.Frag} : OpD1 K oRevA (fun x H Q => ∃ a xs, x = .ref a ∧ ((SqL K H a xs ∧ ∀ p, H p = none → Q (.ref p) (upd H p (.lst xs.reverse))) ∨ (SqT K H a xs ∧ ∀ p, H p = none → Q (.ref p) (upd H p (.tup xs.reverse))))) := fun c σ H s pend x d1 d Q eK R v1 e q => by
    subst eK
    cases d1 with
    | lst ds =>
      cases e
      obtain ⟨a, xs, ea, hq, r⟩ := vw_lst v1
      exact ⟨a, xs, ea, .inl ⟨SqL.of hq, fun p hp => q _ _ (R.lst hp r.reverse).relP⟩⟩
    | scr ds =>
      cases e
      obtain ⟨a, xs, ea, hq, r⟩ := vw_scr v1
      exact ⟨a, xs, ea, .inl ⟨hq, fun p hp => q _ _ (R.lst hp r.reverse).relP⟩⟩
    | tup ds =>
      cases e
      obtain ⟨a, xs, ea, hq, r⟩ := vw_tup v1
      exact ⟨a, xs, ea, .inr ⟨hq.sq, fun p hp => q _ _ (R.tup hp r.reverse)⟩⟩
    | _ => cases e
section
variable {c : Ctx} {W : XW} {e : Expr} {a1 : Arg}
theorem px_revA {k : Nat} {p1 p2 p3 pos : Pos} (ha : PAg c W X e a1) : PX c W X (.Subscript e (.Slice none none (some (.UnaryOp .USub (.Constant (.int 1) k p1) p2)) p3) pos) (mOp1 oRevA a1) :=
  PEimp (pe_revA ha) fun σ H Q h => T_op1 (c := c.at X.K) (r := fun x H Q => ∃ a xs, x = .ref a ∧ ((SqL X.K H a xs ∧ ∀ p, H p = none → Q (.ref p) (upd H p (.lst xs.reverse))) ∨ (SqT X.K H a xs ∧ ∀ p, H p = none → Q (.ref p) (upd H p (.tup xs.reverse))))) od_revA h
end
@[simp] theorem oRevA_lst (ds : List D) : oRevA (.lst ds) = some (.lst ds.reverse) := rfl
@[simp] theorem oRevA_tup (ds : List D) : oRevA (.tup ds) = some (.tup ds.reverse) := rfl
end
end DL

set_option Elab.async false
set_option linter.all false
set_option maxRecDepth 100000
set_option autoImplicit false
namespace LK
open PySem PySem.Spec PyProof.Rows L2 DL

def topS (i : Nat) : Stmt := PySem.Challenge.pw_refpack_k31_order_of_plans.main.body.getD i (.Pass ⟨0, 0, 0, 0⟩)
abbrev s_reference_key : Stmt := topS 5
abbrev N_reference_key : List Str := ["reference"]
abbrev P_reference_key : List Str := ["reference"]
theorem sc_reference_key : FnScope N_reference_key P_reference_key (defScope s_reference_key) := ⟨rfl, rfl, rfl, by decide +kernel, rfl, by decide +kernel, by decide +kernel⟩
abbrev s_path_from : Stmt := topS 6
abbrev N_path_from : List Str := ["choice", "column", "path"]
abbrev P_path_from : List Str := ["choice", "column"]
theorem sc_path_from : FnScope N_path_from P_path_from (defScope s_path_from) := ⟨rfl, rfl, rfl, by decide +kernel, rfl, by decide +kernel, by decide +kernel⟩
abbrev s_place_of : Stmt := topS 9
abbrev N_place_of : List Str := ["table", "name", "place", "column"]
abbrev P_place_of : List Str := ["table", "name"]
theorem sc_place_of : FnScope N_place_of P_place_of (defScope s_place_of) := ⟨rfl, rfl, rfl, by decide +kernel, rfl, by decide +kernel, by decide +kernel⟩
abbrev s_law_tape : Stmt := topS 17
abbrev N_law_tape : List Str := ["script", "total", "cell"]
abbrev P_law_tape : List Str := ["script"]
theorem sc_law_tape : FnScope N_law_tape P_law_tape (defScope s_law_tape) := ⟨rfl, rfl, rfl, by decide +kernel, rfl, by decide +kernel, by decide +kernel⟩
abbrev s_law_draw : Stmt := topS 18
abbrev N_law_draw : List Str := ["tape", "many", "place", "number"]
abbrev P_law_draw : List Str := ["tape", "many"]
theorem sc_law_draw : FnScope N_law_draw P_law_draw (defScope s_law_draw) := ⟨rfl, rfl, rfl, by decide +kernel, rfl, by decide +kernel, by decide +kernel⟩
abbrev s_law_same : Stmt := topS 21
abbrev N_law_same : List Str := ["actual", "expected", "k"]
abbrev P_law_same : List Str := ["actual", "expected"]
theorem sc_law_same : FnScope N_law_same P_law_same (defScope s_law_same) := ⟨rfl, rfl, rfl, by decide +kernel, rfl, by decide +kernel, by decide +kernel⟩
abbrev s_law_within : Stmt := topS 22
abbrev N_law_within : List Str := ["value", "top"]
abbrev P_law_within : List Str := ["value", "top"]
theorem sc_law_within : FnScope N_law_within P_law_within (defScope s_law_within) := ⟨rfl, rfl, rfl, by decide +kernel, rfl, by decide +kernel, by decide +kernel⟩
abbrev s_law_distinct : Stmt := topS 26
abbrev N_law_distinct : List Str := ["values", "found", "x"]
abbrev P_law_distinct : List Str := ["values"]
theorem sc_law_distinct : FnScope N_law_distinct P_law_distinct (defScope s_law_distinct) := ⟨rfl, rfl, rfl, by decide +kernel, rfl, by decide +kernel, by decide +kernel⟩
abbrev s_law_fresh : Stmt := topS 30
abbrev N_law_fresh : List Str := ["name", "names", "most", "sign"]
abbrev P_law_fresh : List Str := ["name", "names", "most"]
theorem sc_law_fresh : FnScope N_law_fresh P_law_fresh (defScope s_law_fresh) := ⟨rfl, rfl, rfl, by decide +kernel, rfl, by decide +kernel, by decide +kernel⟩
abbrev s_law_key : Stmt := topS 37
abbrev N_law_key : List Str := ["names", "plan", "kinds", "places", "recipe", "c"]
abbrev P_law_key : List Str := ["names", "plan"]
theorem sc_law_key : FnScope N_law_key P_law_key (defScope s_law_key) := ⟨rfl, rfl, rfl, by decide +kernel, rfl, by decide +kernel, by decide +kernel⟩
abbrev s_circle_of : Stmt := topS 7
abbrev N_circle_of : List Str := ["choice", "column", "path"]
abbrev P_circle_of : List Str := ["choice"]
theorem sc_circle_of : FnScope N_circle_of P_circle_of (defScope s_circle_of) := ⟨rfl, rfl, rfl, by decide +kernel, rfl, by decide +kernel, by decide +kernel⟩
abbrev s_recipe_key : Stmt := topS 13
abbrev N_recipe_key : List Str := ["recipe", "kind", "place", "width"]
abbrev P_recipe_key : List Str := ["recipe"]
theorem sc_recipe_key : FnScope N_recipe_key P_recipe_key (defScope s_recipe_key) := ⟨rfl, rfl, rfl, by decide +kernel, rfl, by decide +kernel, by decide +kernel⟩
abbrev s_law_pick : Stmt := topS 19
abbrev N_law_pick : List Str := ["tape", "row"]
abbrev P_law_pick : List Str := ["tape", "row"]
theorem sc_law_pick : FnScope N_law_pick P_law_pick (defScope s_law_pick) := ⟨rfl, rfl, rfl, by decide +kernel, rfl, by decide +kernel, by decide +kernel⟩
abbrev s_law_any : Stmt := topS 20
abbrev N_law_any : List Str := ["tape"]
abbrev P_law_any : List Str := ["tape"]
theorem sc_law_any : FnScope N_law_any P_law_any (defScope s_law_any) := ⟨rfl, rfl, rfl, by decide +kernel, rfl, by decide +kernel, by decide +kernel⟩
abbrev s_law_shuffled : Stmt := topS 25
abbrev N_law_shuffled : List Str := ["tape", "row", "left", "found", "k"]
abbrev P_law_shuffled : List Str := ["tape", "row"]
theorem sc_law_shuffled : FnScope N_law_shuffled P_law_shuffled (defScope s_law_shuffled) := ⟨rfl, rfl, rfl, by decide +kernel, rfl, by decide +kernel, by decide +kernel⟩
abbrev s_choice_of : Stmt := topS 12
abbrev N_choice_of : List Str := ["table", "plan", "choice", "recipe"]
abbrev P_choice_of : List Str := ["table", "plan"]
theorem sc_choice_of : FnScope N_choice_of P_choice_of (defScope s_choice_of) := ⟨rfl, rfl, rfl, by decide +kernel, rfl, by decide +kernel, by decide +kernel⟩
abbrev s_law_number : Stmt := topS 23
abbrev N_law_number : List Str := ["tape", "n"]
abbrev P_law_number : List Str := ["tape"]
theorem sc_law_number : FnScope N_law_number P_law_number (defScope s_law_number) := ⟨rfl, rfl, rfl, by decide +kernel, rfl, by decide +kernel, by decide +kernel⟩
abbrev s_law_names : Stmt := topS 31
abbrev N_law_names : List Str := ["tape", "many", "letters", "stem", "names", "k", "name", "j"]
abbrev P_law_names : List Str := ["tape", "many"]
theorem sc_law_names : FnScope N_law_names P_law_names (defScope s_law_names) := ⟨rfl, rfl, rfl, by decide +kernel, rfl, by decide +kernel, by decide +kernel⟩
abbrev s_law_labels : Stmt := topS 32
abbrev N_law_labels : List Str := ["tape", "signs", "stem", "labels", "k", "label", "j"]
abbrev P_law_labels : List Str := ["tape"]
theorem sc_law_labels : FnScope N_law_labels P_law_labels (defScope s_law_labels) := ⟨rfl, rfl, rfl, by decide +kernel, rfl, by decide +kernel, by decide +kernel⟩
abbrev s_law_recipe : Stmt := topS 34
abbrev N_law_recipe : List Str := ["tape", "names", "name", "others", "kind", "reference", "x"]
abbrev P_law_recipe : List Str := ["tape", "names", "name"]
theorem sc_law_recipe : FnScope N_law_recipe P_law_recipe (defScope s_law_recipe) := ⟨rfl, rfl, rfl, by decide +kernel, rfl, by decide +kernel, by decide +kernel⟩
abbrev s_sort_keys : Stmt := topS 14
abbrev N_sort_keys : List Str := ["table", "plan", "kind", "_", "width", "place"]
abbrev P_sort_keys : List Str := ["table", "plan"]
theorem sc_sort_keys : FnScope N_sort_keys P_sort_keys (defScope s_sort_keys) := ⟨rfl, rfl, rfl, by decide +kernel, rfl, by decide +kernel, by decide +kernel⟩
abbrev s_law_spots : Stmt := topS 24
abbrev N_law_spots : List Str := ["tape", "many", "width", "top", "step", "start", "values", "k", "choice", "value"]
abbrev P_law_spots : List Str := ["tape", "many", "width", "top"]
theorem sc_law_spots : FnScope N_law_spots P_law_spots (defScope s_law_spots) := ⟨rfl, rfl, rfl, by decide +kernel, rfl, by decide +kernel, by decide +kernel⟩
abbrev s_law_ordered : Stmt := topS 35
abbrev N_law_ordered : List Str := ["tape", "names", "order", "name"]
abbrev P_law_ordered : List Str := ["tape", "names", "order"]
theorem sc_law_ordered : FnScope N_law_ordered P_law_ordered (defScope s_law_ordered) := ⟨rfl, rfl, rfl, by decide +kernel, rfl, by decide +kernel, by decide +kernel⟩
abbrev s_plan_order : Stmt := topS 15
abbrev N_plan_order : List Str := ["table", "first", "second", "first_keys", "second_keys"]
abbrev P_plan_order : List Str := ["table", "first", "second"]
theorem sc_plan_order : FnScope N_plan_order P_plan_order (defScope s_plan_order) := ⟨rfl, rfl, rfl, by decide +kernel, rfl, by decide +kernel, by decide +kernel⟩
abbrev s_law_column : Stmt := topS 27
abbrev N_law_column : List Str := ["tape", "many", "top", "style", "value", "menu", "values", "step", "k"]
abbrev P_law_column : List Str := ["tape", "many", "top"]
theorem sc_law_column : FnScope N_law_column P_law_column (defScope s_law_column) := ⟨rfl, rfl, rfl, by decide +kernel, rfl, by decide +kernel, by decide +kernel⟩
abbrev s_law_related : Stmt := topS 28
abbrev N_law_related : List Str := ["tape", "values", "top", "style", "noise", "found", "start", "keys", "bases", "x"]
abbrev P_law_related : List Str := ["tape", "values", "top"]
theorem sc_law_related : FnScope N_law_related P_law_related (defScope s_law_related) := ⟨rfl, rfl, rfl, by decide +kernel, rfl, by decide +kernel, by decide +kernel⟩
abbrev s_law_columns : Stmt := topS 29
abbrev N_law_columns : List Str := ["tape", "k", "many", "top", "columns", "c"]
abbrev P_law_columns : List Str := ["tape", "k", "many", "top"]
theorem sc_law_columns : FnScope N_law_columns P_law_columns (defScope s_law_columns) := ⟨rfl, rfl, rfl, by decide +kernel, rfl, by decide +kernel, by decide +kernel⟩
abbrev s_law_table : Stmt := topS 33
abbrev N_law_table : List Str := ["tape", "k", "many", "top", "names", "columns", "table", "c", "labels", "values", "keys", "x"]
abbrev P_law_table : List Str := ["tape", "k", "many", "top"]
theorem sc_law_table : FnScope N_law_table P_law_table (defScope s_law_table) := ⟨rfl, rfl, rfl, by decide +kernel, rfl, by decide +kernel, by decide +kernel⟩
abbrev s_law_small : Stmt := topS 36
abbrev N_law_small : List Str := ["tape", "top", "k", "many"]
abbrev P_law_small : List Str := ["tape", "top"]
theorem sc_law_small : FnScope N_law_small P_law_small (defScope s_law_small) := ⟨rfl, rfl, rfl, by decide +kernel, rfl, by decide +kernel, by decide +kernel⟩
abbrev s_law : Stmt := topS 38
abbrev N_law : List Str := ["script", "tape", "table", "names", "order", "first", "third", "second", "c", "plans", "one", "other", "keys", "due", "column"]
abbrev P_law : List Str := ["script"]
theorem sc_law : FnScope N_law P_law (defScope s_law) := ⟨rfl, rfl, rfl, by decide +kernel, rfl, by decide +kernel, by decide +kernel⟩

set_option maxHeartbeats 0 in
/-- what the top has written -/
structure Txt (K : PySem.W.Frag) (mg : Str → Option Value) where
  f_reference_key : Addr
  fd_reference_key : FuncData
  F_reference_key : Fun K "reference_key" "reference_key" s_reference_key f_reference_key fd_reference_key
  m_reference_key : mg "reference_key" = some (.ref f_reference_key)
  b_reference_key : Binds K fd_reference_key P_reference_key []
  f_path_from : Addr
  fd_path_from : FuncData
  F_path_from : Fun K "_path_from" "_path_from" s_path_from f_path_from fd_path_from
  m_path_from : mg "_path_from" = some (.ref f_path_from)
  b_path_from : Binds K fd_path_from P_path_from []
  f_place_of : Addr
  fd_place_of : FuncData
  F_place_of : Fun K "place_of" "place_of" s_place_of f_place_of fd_place_of
  m_place_of : mg "place_of" = some (.ref f_place_of)
  b_place_of : Binds K fd_place_of P_place_of []
  f_law_tape : Addr
  fd_law_tape : FuncData
  F_law_tape : Fun K "_law_tape" "_law_tape" s_law_tape f_law_tape fd_law_tape
  m_law_tape : mg "_law_tape" = some (.ref f_law_tape)
  b_law_tape : Binds K fd_law_tape P_law_tape []
  f_law_draw : Addr
  fd_law_draw : FuncData
  F_law_draw : Fun K "_law_draw" "_law_draw" s_law_draw f_law_draw fd_law_draw
  m_law_draw : mg "_law_draw" = some (.ref f_law_draw)
  b_law_draw : Binds K fd_law_draw P_law_draw []
  f_law_same : Addr
  fd_law_same : FuncData
  F_law_same : Fun K "_law_same" "_law_same" s_law_same f_law_same fd_law_same
  m_law_same : mg "_law_same" = some (.ref f_law_same)
  b_law_same : Binds K fd_law_same P_law_same []
  f_law_within : Addr
  fd_law_within : FuncData
  F_law_within : Fun K "_law_within" "_law_within" s_law_within f_law_within fd_law_within
  m_law_within : mg "_law_within" = some (.ref f_law_within)
  b_law_within : Binds K fd_law_within P_law_within []
  f_law_distinct : Addr
  fd_law_distinct : FuncData
  F_law_distinct : Fun K "_law_distinct" "_law_distinct" s_law_distinct f_law_distinct fd_law_distinct
  m_law_distinct : mg "_law_distinct" = some (.ref f_law_distinct)
  b_law_distinct : Binds K fd_law_distinct P_law_distinct []
  f_law_fresh : Addr
  fd_law_fresh : FuncData
  F_law_fresh : Fun K "_law_fresh" "_law_fresh" s_law_fresh f_law_fresh fd_law_fresh
  m_law_fresh : mg "_law_fresh" = some (.ref f_law_fresh)
  b_law_fresh : Binds K fd_law_fresh P_law_fresh []
  f_law_key : Addr
  fd_law_key : FuncData
  F_law_key : Fun K "_law_key" "_law_key" s_law_key f_law_key fd_law_key
  m_law_key : mg "_law_key" = some (.ref f_law_key)
  b_law_key : Binds K fd_law_key P_law_key []
  f_circle_of : Addr
  fd_circle_of : FuncData
  F_circle_of : Fun K "circle_of" "circle_of" s_circle_of f_circle_of fd_circle_of
  m_circle_of : mg "circle_of" = some (.ref f_circle_of)
  b_circle_of : Binds K fd_circle_of P_circle_of []
  f_recipe_key : Addr
  fd_recipe_key : FuncData
  F_recipe_key : Fun K "recipe_key" "recipe_key" s_recipe_key f_recipe_key fd_recipe_key
  m_recipe_key : mg "recipe_key" = some (.ref f_recipe_key)
  b_recipe_key : Binds K fd_recipe_key P_recipe_key []
  f_law_pick : Addr
  fd_law_pick : FuncData
  F_law_pick : Fun K "_law_pick" "_law_pick" s_law_pick f_law_pick fd_law_pick
  m_law_pick : mg "_law_pick" = some (.ref f_law_pick)
  b_law_pick : Binds K fd_law_pick P_law_pick []
  f_law_any : Addr
  fd_law_any : FuncData
  F_law_any : Fun K "_law_any" "_law_any" s_law_any f_law_any fd_law_any
  m_law_any : mg "_law_any" = some (.ref f_law_any)
  b_law_any : Binds K fd_law_any P_law_any []
  f_law_shuffled : Addr
  fd_law_shuffled : FuncData
  F_law_shuffled : Fun K "_law_shuffled" "_law_shuffled" s_law_shuffled f_law_shuffled fd_law_shuffled
  m_law_shuffled : mg "_law_shuffled" = some (.ref f_law_shuffled)
  b_law_shuffled : Binds K fd_law_shuffled P_law_shuffled []
  f_choice_of : Addr
  fd_choice_of : FuncData
  F_choice_of : Fun K "choice_of" "choice_of" s_choice_of f_choice_of fd_choice_of
  m_choice_of : mg "choice_of" = some (.ref f_choice_of)
  b_choice_of : Binds K fd_choice_of P_choice_of []
  f_law_number : Addr
  fd_law_number : FuncData
  F_law_number : Fun K "_law_number" "_law_number" s_law_number f_law_number fd_law_number
  m_law_number : mg "_law_number" = some (.ref f_law_number)
  b_law_number : Binds K fd_law_number P_law_number []
  f_law_names : Addr
  fd_law_names : FuncData
  F_law_names : Fun K "_law_names" "_law_names" s_law_names f_law_names fd_law_names
  m_law_names : mg "_law_names" = some (.ref f_law_names)
  b_law_names : Binds K fd_law_names P_law_names []
  f_law_labels : Addr
  fd_law_labels : FuncData
  F_law_labels : Fun K "_law_labels" "_law_labels" s_law_labels f_law_labels fd_law_labels
  m_law_labels : mg "_law_labels" = some (.ref f_law_labels)
  b_law_labels : Binds K fd_law_labels P_law_labels []
  f_law_recipe : Addr
  fd_law_recipe : FuncData
  F_law_recipe : Fun K "_law_recipe" "_law_recipe" s_law_recipe f_law_recipe fd_law_recipe
  m_law_recipe : mg "_law_recipe" = some (.ref f_law_recipe)
  b_law_recipe : Binds K fd_law_recipe P_law_recipe []
  f_sort_keys : Addr
  fd_sort_keys : FuncData
  F_sort_keys : Fun K "_sort_keys" "_sort_keys" s_sort_keys f_sort_keys fd_sort_keys
  m_sort_keys : mg "_sort_keys" = some (.ref f_sort_keys)
  b_sort_keys : Binds K fd_sort_keys P_sort_keys []
  f_law_spots : Addr
  fd_law_spots : FuncData
  F_law_spots : Fun K "_law_spots" "_law_spots" s_law_spots f_law_spots fd_law_spots
  m_law_spots : mg "_law_spots" = some (.ref f_law_spots)
  b_law_spots : Binds K fd_law_spots P_law_spots []
  f_law_ordered : Addr
  fd_law_ordered : FuncData
  F_law_ordered : Fun K "_law_ordered" "_law_ordered" s_law_ordered f_law_ordered fd_law_ordered
  m_law_ordered : mg "_law_ordered" = some (.ref f_law_ordered)
  b_law_ordered : Binds K fd_law_ordered P_law_ordered []
  f_plan_order : Addr
  fd_plan_order : FuncData
  F_plan_order : Fun K "plan_order" "plan_order" s_plan_order f_plan_order fd_plan_order
  m_plan_order : mg "plan_order" = some (.ref f_plan_order)
  b_plan_order : Binds K fd_plan_order P_plan_order []
  f_law_column : Addr
  fd_law_column : FuncData
  F_law_column : Fun K "_law_column" "_law_column" s_law_column f_law_column fd_law_column
  m_law_column : mg "_law_column" = some (.ref f_law_column)
  b_law_column : Binds K fd_law_column P_law_column []
  f_law_related : Addr
  fd_law_related : FuncData
  F_law_related : Fun K "_law_related" "_law_related" s_law_related f_law_related fd_law_related
  m_law_related : mg "_law_related" = some (.ref f_law_related)
  b_law_related : Binds K fd_law_related P_law_related []
  f_law_columns : Addr
  fd_law_columns : FuncData
  F_law_columns : Fun K "_law_columns" "_law_columns" s_law_columns f_law_columns fd_law_columns
  m_law_columns : mg "_law_columns" = some (.ref f_law_columns)
  b_law_columns : Binds K fd_law_columns P_law_columns []
  f_law_table : Addr
  fd_law_table : FuncData
  F_law_table : Fun K "_law_table" "_law_table" s_law_table f_law_table fd_law_table
  m_law_table : mg "_law_table" = some (.ref f_law_table)
  b_law_table : Binds K fd_law_table P_law_table []
  f_law_small : Addr
  fd_law_small : FuncData
  F_law_small : Fun K "_law_small" "_law_small" s_law_small f_law_small fd_law_small
  m_law_small : mg "_law_small" = some (.ref f_law_small)
  b_law_small : Binds K fd_law_small P_law_small []
  f_law : Addr
  fd_law : FuncData
  F_law : Fun K "law" "law" s_law f_law fd_law
  m_law : mg "law" = some (.ref f_law)
  b_law : Binds K fd_law P_law []
  z_abs : mg "abs" = none
  z_bool : mg "bool" = none
  z_enumerate : mg "enumerate" = none
  z_int : mg "int" = none
  z_isinstance : mg "isinstance" = none
  z_len : mg "len" = none
  z_list : mg "list" = none
  z_max : mg "max" = none
  z_range : mg "range" = none
  z_sorted : mg "sorted" = none
  z_str : mg "str" = none
  z_tuple : mg "tuple" = none
  z_zip : mg "zip" = none
  kc_KINDS : Addr
  g_KINDS : mg "KINDS" = some (.ref kc_KINDS)
  cd_KINDS : ConstD K kc_KINDS ["frame", "step", "dictionary", "offset", "lookup"]

section
variable {P : Program} {w : World} {K : PySem.W.Frag} {mg : Str → Option Value} {base : Heap}

noncomputable def u_reference_key : SM := (sRet (mIfE (mTest2 bIsN (.r 0) (.v (mC .non))) (mOp1 (fI fun i => -i) (.v (mC (.int 1)))) (mVar 0)))
noncomputable def G_reference_key : List D → FRes := fun ds => fnRes false false (u_reference_key (initS false [false] 1 ds))
theorem ok_reference_key (T : Txt K mg) : FnOk P w K mg base CX0 1 T.f_reference_key T.fd_reference_key P_reference_key (spD K false false [false] G_reference_key) := by
  refine dfn T.F_reference_key sc_reference_key u_reference_key rfl (fun c W cdv A outer s H E hio0 hfr hr h0 => ?_) (fun ds => ⟨fnRes_noex, .inr rfl⟩)
  have hio : c.io = none := hio0.resolve_left (by decide)
  exact (pss_oneX (ps_retX hfr (px_if (pt_cmp2 op_isN ob_isN (pg_r (pv 0)) (pg_v px_non)) (px_un un_neg od_neg (pg_v px_int)) (px_var (pv 0) (.inr hio)))))

noncomputable def wb_path_from_1 : SM := (sSeq (sApp 2 (mVar 1)) (sAsg 1 (mOp2 oIxA (.r 0) (.r 1))))
noncomputable def wt_path_from_2 : M Bool := (mAndB (mTest2 bNotN (.r 1) (.v (mC .non))) (mTest2 bNotInA (.r 1) (.r 2)))
noncomputable def u_path_from : SM := (sSeq (sAsgF 2 (mLst [])) (sSeq (whileN wt_path_from_2 wb_path_from_1 100000) (sRet (mOp1 oTuple (.r 2)))))
noncomputable def G_path_from : List D → FRes := fun ds => fnRes false false (u_path_from (initS false [true, false] 3 ds))
theorem ok_path_from (T : Txt K mg) : FnOk P w K mg base CX0 1 T.f_path_from T.fd_path_from P_path_from (spD K false false [true, false] G_path_from) := by
  refine dfn T.F_path_from sc_path_from u_path_from rfl (fun c W cdv A outer s H E hio0 hfr hr h0 => ?_) (fun ds => ⟨fnRes_noex, .inr rfl⟩)
  have hio : c.io = none := hio0.resolve_left (by decide)
  exact (pss_consX (ps_asgFX (i := 2) sc_path_from.nd (pxf_lst pas_nil) (hi0 := (.inl (by decide)))) (pss_consX (ps_whileX 100000 PassesOwn.never (PXW.pt (xw_and (pt_cmp2 op_notN ob_notN (pg_r (pv 1)) (pg_v px_non)) (xw_and1 (pt_cmp2 (op_notInA hr.units) ob_notInA (pg_r (pv 1)) (pg_r (pv 2)))))) (pss_consX (ps_appX (pv 2) (px_var (pv 1) (.inl (by decide)))) (pss_oneX (ps_asgX (i := 1) sc_path_from.nd (px_ix ix_seq od_ixA (pg_r (pv 0)) (pg_r (pv 1))) (hi0 := (.inl (by decide))))))) (pss_oneX (ps_retX hfr (px_t1 call_tuple_of od_tuple T.z_tuple (by decide +kernel) (pg_r (pv 2)))))))

noncomputable def lb_place_of_1 : SM := (sIf (mTest2 bEqA (.v (mOp2 oIxA (.r 3) (.v (mC (.int 0))))) (.r 1)) (sRet (mVar 2)) sNil)
noncomputable def u_place_of : SM := (sSeq (sFor (mEnum [.v (mVar 0)]) (gT [2, 3]) lb_place_of_1) sDead)
noncomputable def G_place_of : List D → FRes := fun ds => fnRes false false (u_place_of (initS false [false, false] 4 ds))
theorem ok_place_of (T : Txt K mg) : FnOk P w K mg base CX0 1 T.f_place_of T.fd_place_of P_place_of (spD K false false [false, false] G_place_of) := by
  refine dfn T.F_place_of sc_place_of u_place_of rfl (fun c W cdv A outer s H E hio0 hfr hr h0 => ?_) (fun ds => ⟨fnRes_noex, .inr rfl⟩)
  have hio : c.io = none := hio0.resolve_left (by decide)
  exact (pss_consX (ps_forX PassesOwn.never (pix_enum T.z_enumerate (pas_cons (pg_v (px_var (pv 0) (.inr hio))) pas_nil)) (pgx_tup rfl (pgsx_cons sc_place_of.nd (pgsx_cons sc_place_of.nd pgsx_nil (hi0 := (.inl (by decide)))) (hi0 := (.inl (by decide))))) (pss_oneX (ps_ifX (pt_cmp2 (op_eqA hr.units) ob_eqA (pg_v (px_ix ix_seq od_ixA (pg_r (pv 3)) (pg_v px_int))) (pg_r (pv 1))) (pss_oneX (ps_retX hfr (px_var (pv 2) (.inl (by decide))))) pss_nilX))) (pss_oneX ps_deadX))

noncomputable def lb_law_tape_1 : SM := (sAsg 1 (mOp2 oMod (.v (mOp1 oInt (.v (mOp2 oAddA (.v (mOp2 oMul (.r 1) (.v (mC (.int 31))))) (.v (mOp1 (fI fun i => if i < 0 then -i else i) (.v (mOp1 oInt (.r 2))))))))) (.v (mC (.int 2147483647)))))
noncomputable def u_law_tape : SM := (sSeq (sAsg 1 (mC (.int 7))) (sSeq (sFor (mItemsA (mVar 0)) (gN 2) lb_law_tape_1) (sRet (mLst [.v (mOp1 oList (.r 0)), .v (mC (.int 0)), .v (mC (.int 0)), .v (mVar 1)]))))
noncomputable def G_law_tape : List D → FRes := fun ds => fnRes false true (u_law_tape (initS false [false] 3 ds))
theorem ok_law_tape (T : Txt K mg) : FnOk P w K mg base CX0 1 T.f_law_tape T.fd_law_tape P_law_tape (spD K false true [false] G_law_tape) := by
  refine dfn T.F_law_tape sc_law_tape u_law_tape rfl (fun c W cdv A outer s H E hio0 hfr hr h0 => ?_) (fun ds => ⟨fnRes_noex, .inr rfl⟩)
  have hio : c.io = none := hio0.resolve_left (by decide)
  exact (pss_consX (ps_asgX (i := 1) sc_law_tape.nd px_int (hi0 := (.inl (by decide)))) (pss_consX (ps_forX PassesOwn.never (pix_seq (px_var (pv 0) (.inr hio))) (pgx_name sc_law_tape.nd (hi0 := (.inl (by decide)))) (pss_oneX (ps_asgX (i := 1) sc_law_tape.nd (px_bin op_mod od_mod (pg_v (px_t1 call_int1 od_int T.z_int (by decide +kernel) (pg_v (px_bin op_addA od_addA (pg_v (px_bin op_mul od_mul (pg_r (pv 1)) (pg_v px_int))) (pg_v (px_b1 call_abs od_abs T.z_abs (by decide +kernel) (pg_v (px_t1 call_int1 od_int T.z_int (by decide +kernel) (pg_r (pv 2)))))))))) (pg_v px_int)) (hi0 := (.inl (by decide)))))) (pss_oneX (ps_retFX hfr (pxf_lst (pas_cons (pg_v (PXF.px (pxf_t1 call_list_of of_list T.z_list (by decide +kernel) (pg_r (pv 0))))) (pas_cons (pg_v px_int) (pas_cons (pg_v px_int) (pas_cons (pg_v (px_var (pv 1) (.inl (by decide)))) pas_nil)))))))))

noncomputable def u_law_draw : SM := (sSeq (sIf (mTest2 bEqA (.v (mOp2 oIxA (.r 0) (.v (mC (.int 2))))) (.v (mC (.int 0)))) (sSeq (sAsg 2 (mOp2 oIxA (.r 0) (.v (mC (.int 1))))) (sSeq (sAsg 3 (mC (.int 0))) (sSeq (sIf (mTest2 bLtA (.r 2) (.v (mOp1 oLen (.v (mOp2 oIxA (.r 0) (.v (mC (.int 0)))))))) (sAsg 3 (mOp1 (fI fun i => if i < 0 then -i else i) (.v (mOp1 oInt (.v (mOp2 oIxA (.v (mOp2 oIxA (.r 0) (.v (mC (.int 0))))) (.r 2))))))) (sSeq (sSetL 0 (mC (.int 3)) (mOp2 oMod (.v (mOp1 oInt (.v (mOp2 oAddA (.v (mOp2 oAddA (.v (mOp2 oMul (.v (mOp2 oIxA (.r 0) (.v (mC (.int 3))))) (.v (mC (.int 48271))))) (.r 2))) (.v (mC (.int 1))))))) (.v (mC (.int 2147483647))))) (sAsg 3 (mOp2 oIxA (.r 0) (.v (mC (.int 3))))))) (sSeq (sSetL 0 (mC (.int 1)) (mOp2 oAddA (.r 2) (.v (mC (.int 1))))) (sSeq (sIf (mTest2 bLtA (.r 3) (.v (mOp2 oPow (.v (mC (.int 10))) (.v (mC (.int 18)))))) (sSeq (sAsg 3 (mOp2 oMod (.v (mOp1 oInt (.v (mOp2 oAddA (.v (mOp2 oAddA (.v (mOp2 oMul (.r 3) (.v (mC (.int 48271))))) (.v (mOp2 oMul (.r 2) (.v (mC (.int 69621))))))) (.v (mC (.int 5))))))) (.v (mC (.int 2147483647))))) (sSeq (sAsg 3 (mOp2 oMod (.v (mOp1 oInt (.v (mOp2 oMul (.r 3) (.v (mC (.int 69621))))))) (.v (mC (.int 2147483629))))) (sRet (mOp2 oMod (.v (mOp1 oInt (.r 3))) (.v (mOp2 oMax2 (.r 1) (.v (mC (.int 1))))))))) sNil) (sSetL 0 (mC (.int 2)) (mVar 3))))))) sNil) (sSeq (sAsg 3 (mOp2 oIxA (.r 0) (.v (mC (.int 2))))) (sSeq (sSetL 0 (mC (.int 2)) (mOp2 oDiv (.r 3) (.v (mOp2 oMax2 (.r 1) (.v (mC (.int 2))))))) (sRet (mOp2 oMod (.v (mOp1 oInt (.r 3))) (.v (mOp2 oMax2 (.r 1) (.v (mC (.int 1))))))))))
noncomputable def G_law_draw : List D → FRes := fun ds => fnRes true false (u_law_draw (initS true [true] 4 ds))
theorem ok_law_draw (T : Txt K mg) : FnOk P w K mg base CX0 1 T.f_law_draw T.fd_law_draw P_law_draw (spD K true false [true] G_law_draw) := by
  refine dfn T.F_law_draw sc_law_draw u_law_draw rfl (fun c W cdv A outer s H E hio0 hfr hr h0 => ?_) (fun ds => ⟨fnRes_noex, .inr rfl⟩)
  exact (pss_consX (ps_ifX (pt_cmp2 (op_eqA hr.units) ob_eqA (pg_v (px_ix ix_seq od_ixA (pg_r (pv 0)) (pg_v px_int))) (pg_v px_int)) (pss_consX (ps_asgX (i := 2) sc_law_draw.nd (px_ix ix_seq od_ixA (pg_r (pv 0)) (pg_v px_int)) (hi0 := (.inl (by decide)))) (pss_consX (ps_asgX (i := 3) sc_law_draw.nd px_int (hi0 := (.inl (by decide)))) (pss_consX (ps_ifX (pt_cmp2 (op_ltA hr.units) ob_bLtA (pg_r (pv 2)) (pg_v (px_b1 call_len od_len T.z_len (by decide +kernel) (pg_v (px_ix ix_seq od_ixA (pg_r (pv 0)) (pg_v px_int)))))) (pss_oneX (ps_asgX (i := 3) sc_law_draw.nd (px_b1 call_abs od_abs T.z_abs (by decide +kernel) (pg_v (px_t1 call_int1 od_int T.z_int (by decide +kernel) (pg_v (px_ix ix_seq od_ixA (pg_v (px_ix ix_seq od_ixA (pg_r (pv 0)) (pg_v px_int))) (pg_r (pv 2))))))) (hi0 := (.inl (by decide))))) (pss_consX (ps_setLX (pv 0) px_int (px_bin op_mod od_mod (pg_v (px_t1 call_int1 od_int T.z_int (by decide +kernel) (pg_v (px_bin op_addA od_addA (pg_v (px_bin op_addA od_addA (pg_v (px_bin op_mul od_mul (pg_v (px_ix ix_seq od_ixA (pg_r (pv 0)) (pg_v px_int))) (pg_v px_int))) (pg_r (pv 2)))) (pg_v px_int))))) (pg_v px_int))) (pss_oneX (ps_asgX (i := 3) sc_law_draw.nd (px_ix ix_seq od_ixA (pg_r (pv 0)) (pg_v px_int)) (hi0 := (.inl (by decide))))))) (pss_consX (ps_setLX (pv 0) px_int (px_bin op_addA od_addA (pg_r (pv 2)) (pg_v px_int))) (pss_consX (ps_ifX (pt_cmp2 (op_ltA hr.units) ob_bLtA (pg_r (pv 3)) (pg_v (px_bin op_pow od_pow (pg_v px_int) (pg_v px_int)))) (pss_consX (ps_asgX (i := 3) sc_law_draw.nd (px_bin op_mod od_mod (pg_v (px_t1 call_int1 od_int T.z_int (by decide +kernel) (pg_v (px_bin op_addA od_addA (pg_v (px_bin op_addA od_addA (pg_v (px_bin op_mul od_mul (pg_r (pv 3)) (pg_v px_int))) (pg_v (px_bin op_mul od_mul (pg_r (pv 2)) (pg_v px_int))))) (pg_v px_int))))) (pg_v px_int)) (hi0 := (.inl (by decide)))) (pss_consX (ps_asgX (i := 3) sc_law_draw.nd (px_bin op_mod od_mod (pg_v (px_t1 call_int1 od_int T.z_int (by decide +kernel) (pg_v (px_bin op_mul od_mul (pg_r (pv 3)) (pg_v px_int))))) (pg_v px_int)) (hi0 := (.inl (by decide)))) (pss_oneX (ps_retX hfr (px_bin op_mod od_mod (pg_v (px_t1 call_int1 od_int T.z_int (by decide +kernel) (pg_r (pv 3)))) (pg_v (px_b2 (call_max2 rfl) od_max2 T.z_max (by decide +kernel) (pg_r (pv 1)) (pg_v px_int)))))))) pss_nilX) (pss_oneX (ps_setLX (pv 0) px_int (px_var (pv 3) (.inl (by decide)))))))))) pss_nilX) (pss_consX (ps_asgX (i := 3) sc_law_draw.nd (px_ix ix_seq od_ixA (pg_r (pv 0)) (pg_v px_int)) (hi0 := (.inl (by decide)))) (pss_consX (ps_setLX (pv 0) px_int (px_bin op_fdivW od_div (pg_r (pv 3)) (pg_v (px_b2 (call_max2 rfl) od_max2 T.z_max (by decide +kernel) (pg_r (pv 1)) (pg_v px_int))))) (pss_oneX (ps_retX hfr (px_bin op_mod od_mod (pg_v (px_t1 call_int1 od_int T.z_int (by decide +kernel) (pg_r (pv 3)))) (pg_v (px_b2 (call_max2 rfl) od_max2 T.z_max (by decide +kernel) (pg_r (pv 1)) (pg_v px_int)))))))))

noncomputable def lb_law_same_1 (Gs : List D → FRes) : SM := (sIf (mNotB (mTru (.v (mCall Gs [.v (mOp2 oIxA (.r 0) (.r 2)), .v (mOp2 oIxA (.r 1) (.r 2))])))) (sRet (mC (.bl false))) sNil)
noncomputable def u_law_same (Gs : List D → FRes) : SM := (sSeq (sIf (mTest2 bIsN (.r 1) (.v (mC .non))) (sRet (mOp2 (oB bIsN) (.r 0) (.v (mC .non)))) sNil) (sSeq (sIf (mTru (.v (mOp1 (oIsi "tuple") (.r 1)))) (sSeq (sIf (mOrB (mNotB (mTru (.v (mOp1 (oIsi "tuple") (.r 0))))) (mTest2 bNeA (.v (mOp1 oLen (.r 0))) (.v (mOp1 oLen (.r 1))))) (sRet (mC (.bl false))) sNil) (sSeq (sFor (mRng1 [.v (mOp1 oLen (.r 1))]) (gN 2) (lb_law_same_1 Gs)) (sRet (mC (.bl true))))) sNil) (sSeq (sIf (mTru (.v (mOp1 (oIsi "bool") (.r 1)))) (sRet (mAndV (mOp1 (oIsi "bool") (.r 0)) (mOp2 (oB bEqA) (.r 0) (.r 1)))) sNil) (sSeq (sIf (mTru (.v (mOp1 (oIsi "str") (.r 1)))) (sRet (mAndV (mOp1 (oIsi "str") (.r 0)) (mOp2 (oB bEqA) (.r 0) (.r 1)))) sNil) (sRet (mAndV (mOp1 (oIsi "int") (.r 0)) (mAndV (mNotV (mOp1 (oIsi "bool") (.r 0))) (mOp2 (oB bEqA) (.r 0) (.r 1)))))))))
noncomputable def G_law_same : Nat → List D → FRes
  | 0 => fun _ => .bad
  | n + 1 => fun ds => fnRes false false (u_law_same (G_law_same n) (initS false [true, true] 3 ds))
theorem ok_law_same (T : Txt K mg) : ∀ n, FnOk P w K mg base CX0 (n + 1) T.f_law_same T.fd_law_same P_law_same (spD K false false [true, true] (G_law_same n))
  | 0 => ⟨fun vs H Q E h => spD_len h, fun A outer s H args us vs Q E hr e hb hv hs => by obtain ⟨ds, O, ioa, _, _, _, hq⟩ := hs; exact hq.elim⟩
  | n + 1 => by
    have Fs := ok_law_same T n
    refine dfn T.F_law_same sc_law_same (u_law_same (G_law_same n)) rfl (fun c W cdv A outer s H E hio0 hfr hr h0 => ?_) (fun ds => ⟨fnRes_noex (io := false) (fr := false) (r := u_law_same (G_law_same n) (initS false [true, true] 3 ds)), .inr rfl⟩)
    have hio : c.io = none := hio0.resolve_left (by decide)
    exact (pss_consX (ps_ifX (pt_cmp2 op_isN ob_isN (pg_r (pv 1)) (pg_v px_non)) (pss_oneX (ps_retX hfr (px_cmp op_isN (OpB2.d ob_isN) (pg_r (pv 0)) (pg_v px_non)))) pss_nilX) (pss_consX (ps_ifX (pt_tru (pg_v (px_isi (pg_r (pv 1)) T.z_isinstance T.z_tuple (by decide +kernel)))) (pss_consX (ps_ifX (PXW.pt (xw_or (pt_notB (pt_tru (pg_v (px_isi (pg_r (pv 0)) T.z_isinstance T.z_tuple (by decide +kernel))))) (xw_or1 (pt_cmp2 (op_neA hr.units) ob_neA (pg_v (px_b1 call_len od_len T.z_len (by decide +kernel) (pg_r (pv 0)))) (pg_v (px_b1 call_len od_len T.z_len (by decide +kernel) (pg_r (pv 1)))))))) (pss_oneX (ps_retX hfr px_bl)) pss_nilX) (pss_consX (ps_forX PassesOwn.never (pix_rng1 T.z_range (pas_cons (pg_v (px_b1 call_len od_len T.z_len (by decide +kernel) (pg_r (pv 1)))) pas_nil)) (pgx_name sc_law_same.nd (hi0 := (.inl (by decide)))) (pss_oneX (ps_ifX (pt_notB (pt_tru (pg_v (px_call Fs hr T.m_law_same T.F_law_same.kp T.b_law_same (pas_cons (pg_v (px_ix ix_seq od_ixA (pg_r (pv 0)) (pg_r (pv 2)))) (pas_cons (pg_v (px_ix ix_seq od_ixA (pg_r (pv 1)) (pg_r (pv 2)))) pas_nil)))))) (pss_oneX (ps_retX hfr px_bl)) pss_nilX))) (pss_oneX (ps_retX hfr px_bl)))) pss_nilX) (pss_consX (ps_ifX (pt_tru (pg_v (px_isi (pg_r (pv 1)) T.z_isinstance T.z_bool (by decide +kernel)))) (pss_oneX (ps_retX hfr (px_and (px_isi (pg_r (pv 0)) T.z_isinstance T.z_bool (by decide +kernel)) (px_one (px_cmp (op_eqA hr.units) (OpB2.d ob_eqA) (pg_r (pv 0)) (pg_r (pv 1))))))) pss_nilX) (pss_consX (ps_ifX (pt_tru (pg_v (px_isi (pg_r (pv 1)) T.z_isinstance T.z_str (by decide +kernel)))) (pss_oneX (ps_retX hfr (px_and (px_isi (pg_r (pv 0)) T.z_isinstance T.z_str (by decide +kernel)) (px_one (px_cmp (op_eqA hr.units) (OpB2.d ob_eqA) (pg_r (pv 0)) (pg_r (pv 1))))))) pss_nilX) (pss_oneX (ps_retX hfr (px_and (px_isi (pg_r (pv 0)) T.z_isinstance T.z_int (by decide +kernel)) (px_and (px_not (px_isi (pg_r (pv 0)) T.z_isinstance T.z_bool (by decide +kernel))) (px_one (px_cmp (op_eqA hr.units) (OpB2.d ob_eqA) (pg_r (pv 0)) (pg_r (pv 1))))))))))))

noncomputable def u_law_within : SM := (sRet (mOp2 oSub (.v (mOp2 oMod (.v (mOp1 oInt (.v (mOp2 oAddA (.r 0) (.r 1))))) (.v (mOp2 oAddA (.v (mOp2 oMul (.v (mC (.int 2))) (.r 1))) (.v (mC (.int 1))))))) (.r 1)))
noncomputable def G_law_within : List D → FRes := fun ds => fnRes false false (u_law_within (initS false [true, true] 2 ds))
theorem ok_law_within (T : Txt K mg) : FnOk P w K mg base CX0 1 T.f_law_within T.fd_law_within P_law_within (spD K false false [true, true] G_law_within) := by
  refine dfn T.F_law_within sc_law_within u_law_within rfl (fun c W cdv A outer s H E hio0 hfr hr h0 => ?_) (fun ds => ⟨fnRes_noex, .inr rfl⟩)
  have hio : c.io = none := hio0.resolve_left (by decide)
  exact (pss_oneX (ps_retX hfr (px_bin op_sub od_I0 (pg_v (px_bin op_mod od_mod (pg_v (px_t1 call_int1 od_int T.z_int (by decide +kernel) (pg_v (px_bin op_addA od_addA (pg_r (pv 0)) (pg_r (pv 1)))))) (pg_v (px_bin op_addA od_addA (pg_v (px_bin op_mul od_mul (pg_v px_int) (pg_r (pv 1)))) (pg_v px_int))))) (pg_r (pv 1)))))

noncomputable def lb_law_distinct_1 : SM := (sIf (mOrB (mTest2 bEqA (.r 1) (.v (mLst []))) (mTest2 bNeA (.v (mOp2 oIxA (.r 1) (.v (mOp1 (fI fun i => -i) (.v (mC (.int 1))))))) (.r 2))) (sApp 1 (mVar 2)) sNil)
noncomputable def u_law_distinct : SM := (sSeq (sAsgF 1 (mLst [])) (sSeq (sFor (mItemsA (mOp1 oSortA (.r 0))) (gN 2) lb_law_distinct_1) (sRet (mVar 1))))
noncomputable def G_law_distinct : List D → FRes := fun ds => fnRes false false (u_law_distinct (initS false [true] 3 ds))
theorem ok_law_distinct (T : Txt K mg) : FnOk P w K mg base CX0 1 T.f_law_distinct T.fd_law_distinct P_law_distinct (spD K false false [true] G_law_distinct) := by
  refine dfn T.F_law_distinct sc_law_distinct u_law_distinct rfl (fun c W cdv A outer s H E hio0 hfr hr h0 => ?_) (fun ds => ⟨fnRes_noex, .inr rfl⟩)
  have hio : c.io = none := hio0.resolve_left (by decide)
  exact (pss_consX (ps_asgFX (i := 1) sc_law_distinct.nd (pxf_lst pas_nil) (hi0 := (.inl (by decide)))) (pss_consX (ps_forX PassesOwn.never (pix_seq (PXF.px (pxf_b1 cr_sortA of_sortA T.z_sorted (by decide +kernel) (pg_r (pv 0))))) (pgx_name sc_law_distinct.nd (hi0 := (.inl (by decide)))) (pss_oneX (ps_ifX (PXW.pt (xw_or (pt_cmp2 (op_eqA hr.units) ob_eqA (pg_r (pv 1)) (pg_v (PXF.px (pxf_lst pas_nil)))) (xw_or1 (pt_cmp2 (op_neA hr.units) ob_neA (pg_v (px_ix ix_seq od_ixA (pg_r (pv 1)) (pg_v (px_un un_neg od_neg (pg_v px_int))))) (pg_r (pv 2)))))) (pss_oneX (ps_appX (pv 1) (px_var (pv 2) (.inl (by decide))))) pss_nilX))) (pss_oneX (ps_retX hfr (px_var (pv 1) (.inl (by decide)))))))

noncomputable def lb_law_fresh_1 : SM := (sIf (mTest2 bInA (.r 0) (.r 1)) (sAsg 0 (mOp2 oAddA (.v (mCutB (.r 0) none (some (mOp2 oSub (.r 2) (.v (mC (.int 1))))))) (.r 3))) sNil)
noncomputable def u_law_fresh : SM := (sSeq (sFor (mItemsB (mC (.str "abcdefgh"))) (gN 3) lb_law_fresh_1) (sRet (mVar 0)))
noncomputable def G_law_fresh : List D → FRes := fun ds => fnRes false false (u_law_fresh (initS false [false, true, true] 4 ds))
theorem ok_law_fresh (T : Txt K mg) : FnOk P w K mg base CX0 1 T.f_law_fresh T.fd_law_fresh P_law_fresh (spD K false false [false, true, true] G_law_fresh) := by
  refine dfn T.F_law_fresh sc_law_fresh u_law_fresh rfl (fun c W cdv A outer s H E hio0 hfr hr h0 => ?_) (fun ds => ⟨fnRes_noex, .inr rfl⟩)
  have hio : c.io = none := hio0.resolve_left (by decide)
  exact (pss_consX (ps_forX PassesOwn.never (pix_seqB px_str) (pgx_name sc_law_fresh.nd (hi0 := (.inl (by decide)))) (pss_oneX (ps_ifX (pt_cmp2 (op_inA hr.units) ob_inA (pg_r (pv 0)) (pg_r (pv 1))) (pss_oneX (ps_asgX (i := 0) sc_law_fresh.nd (px_bin op_addA od_addA (pg_v (px_cutB (pg_r (pv 0)) pox_none (pox_some (px_bin op_sub od_I0 (pg_r (pv 2)) (pg_v px_int))))) (pg_r (pv 3))) (hi0 := (.inr hio)))) pss_nilX))) (pss_oneX (ps_retX hfr (px_var (pv 0) (.inr hio)))))

noncomputable def ce_law_key_1 : M D := (mIfE (mTest2 bIsN (.v (mOp2 oIxA (.r 4) (.v (mC (.int 1))))) (.v (mC .non))) (mOp1 (fI fun i => -i) (.v (mC (.int 1)))) (mMt2 oIndex (.r 0) (.v (mOp2 oIxA (.r 4) (.v (mC (.int 1)))))))
noncomputable def ce_law_key_2 : M D := (mTup [.v (mMt2 oIndex (.r 2) (.v (mOp2 oIxA (.v (mOp2 oIxA (.r 1) (.r 5))) (.v (mC (.int 0)))))), .v (mOp2 oIxA (.r 3) (.r 5)), .v (mOp2 oIxA (.v (mOp2 oIxA (.r 1) (.r 5))) (.v (mC (.int 2))))])
noncomputable def u_law_key : SM := (sSeq (sAsg 2 (mLst [.v (mC (.str "frame")), .v (mC (.str "step")), .v (mC (.str "dictionary")), .v (mC (.str "offset")), .v (mC (.str "lookup"))])) (sSeq (sAsgF 3 (mLc (mItemsA (mVar 1)) [4] (gN 4) mYes ce_law_key_1)) (sRet (mLc (mRng1 [.v (mOp1 oLen (.r 1))]) [5] (gN 5) mYes ce_law_key_2))))
noncomputable def G_law_key : List D → FRes := fun ds => fnRes false false (u_law_key (initS false [true, false] 6 ds))
theorem ok_law_key (T : Txt K mg) : FnOk P w K mg base CX0 1 T.f_law_key T.fd_law_key P_law_key (spD K false false [true, false] G_law_key) := by
  refine dfn T.F_law_key sc_law_key u_law_key rfl (fun c W cdv A outer s H E hio0 hfr hr h0 => ?_) (fun ds => ⟨fnRes_noex, .inr rfl⟩)
  have hio : c.io = none := hio0.resolve_left (by decide)
  exact (pss_consX (ps_asgX (i := 2) sc_law_key.nd (PXF.px (pxf_lst (pas_cons (pg_v px_str) (pas_cons (pg_v px_str) (pas_cons (pg_v px_str) (pas_cons (pg_v px_str) (pas_cons (pg_v px_str) pas_nil))))))) (hi0 := (.inl (by decide)))) (pss_consX (ps_asgFX (i := 3) sc_law_key.nd (pxf_lc (own := [("recipe", 4)]) sc_law_key.nd (pix_seq (px_var (pv 1) (.inl (by decide)))) (blkOk_by (own := [("recipe", 4)]) (N := N_law_key) (sc := defScope s_law_key) (by decide +kernel)) (fun _ _ _ _ _ => (pgx_name sc_law_key.nd (hi0 := (.inl (by decide))))) (fun _ _ _ _ _ => ptsx_nil) (fun _ _ _ _ _ => (px_if (pt_cmp2 op_isN ob_isN (pg_v (px_ix ix_seq od_ixA (pg_r (pv 4)) (pg_v px_int))) (pg_v px_non)) (px_un un_neg od_neg (pg_v px_int)) (px_mt2 PySem.F.slot_list_index PySem.F.type_list_index mt_index od_index (pg_r (pv 0)) (pg_v (px_ix ix_seq od_ixA (pg_r (pv 4)) (pg_v px_int)))))) (h0 := .inl (by decide))) (hi0 := (.inl (by decide)))) (pss_oneX (ps_retX hfr (PXF.px (pxf_lc (own := [("c", 5)]) sc_law_key.nd (pix_rng1 T.z_range (pas_cons (pg_v (px_b1 call_len od_len T.z_len (by decide +kernel) (pg_r (pv 1)))) pas_nil)) (blkOk_by (own := [("c", 5)]) (N := N_law_key) (sc := defScope s_law_key) (by decide +kernel)) (fun _ _ _ _ _ => (pgx_name sc_law_key.nd (hi0 := (.inl (by decide))))) (fun _ _ _ _ _ => ptsx_nil) (fun _ _ _ _ _ => (px_tup (pas_cons (pg_v (px_mt2 PySem.F.slot_list_index PySem.F.type_list_index mt_index od_index (pg_r (pv 2)) (pg_v (px_ix ix_seq od_ixA (pg_v (px_ix ix_seq od_ixA (pg_r (pv 1)) (pg_r (pv 5)))) (pg_v px_int))))) (pas_cons (pg_v (px_ix ix_seq od_ixA (pg_r (pv 3)) (pg_r (pv 5)))) (pas_cons (pg_v (px_ix ix_seq od_ixA (pg_v (px_ix ix_seq od_ixA (pg_r (pv 1)) (pg_r (pv 5)))) (pg_v px_int))) pas_nil))))) (h0 := .inl (by decide))))))))

noncomputable def lb_circle_of_1 : SM := (sSeq (sAsg 2 (mCall G_path_from [.r 0, .v (mVar 1)])) (sIf (mTest2 bEqA (.v (mOp2 oIxA (.r 0) (.v (mOp2 oIxA (.r 2) (.v (mOp1 (fI fun i => -i) (.v (mC (.int 1))))))))) (.r 1)) (sRet (mVar 2)) sNil))
noncomputable def u_circle_of : SM := (sSeq (sFor (mRng1 [.v (mOp1 oLen (.r 0))]) (gN 1) lb_circle_of_1) (sRet (mC .non)))
noncomputable def G_circle_of : List D → FRes := fun ds => fnRes false false (u_circle_of (initS false [true] 3 ds))
theorem ok_circle_of (T : Txt K mg) : FnOk P w K mg base CX0 2 T.f_circle_of T.fd_circle_of P_circle_of (spD K false false [true] G_circle_of) := by
  refine dfn T.F_circle_of sc_circle_of u_circle_of rfl (fun c W cdv A outer s H E hio0 hfr hr h0 => ?_) (fun ds => ⟨fnRes_noex, .inr rfl⟩)
  have hio : c.io = none := hio0.resolve_left (by decide)
  exact (pss_consX (ps_forX PassesOwn.never (pix_rng1 T.z_range (pas_cons (pg_v (px_b1 call_len od_len T.z_len (by decide +kernel) (pg_r (pv 0)))) pas_nil)) (pgx_name sc_circle_of.nd (hi0 := (.inl (by decide)))) (pss_consX (ps_asgX (i := 2) sc_circle_of.nd (px_call (ok_path_from T) (hr.mono (by decide)) T.m_path_from T.F_path_from.kp T.b_path_from (pas_cons (pg_r (pv 0)) (pas_cons (pg_v (px_var (pv 1) (.inl (by decide)))) pas_nil))) (hi0 := (.inl (by decide)))) (pss_oneX (ps_ifX (pt_cmp2 (op_eqA hr.units) ob_eqA (pg_v (px_ix ix_seq od_ixA (pg_r (pv 0)) (pg_v (px_ix ix_seq od_ixA (pg_r (pv 2)) (pg_v (px_un un_neg od_neg (pg_v px_int))))))) (pg_r (pv 1))) (pss_oneX (ps_retX hfr (px_var (pv 2) (.inl (by decide))))) pss_nilX)))) (pss_oneX (ps_retX hfr px_non)))

noncomputable def u_recipe_key : SM := (sSeq (sUnp (mVar 0) (gT [1, 2, 3])) (sRet (mTup [.v (mOp1 (oIxS ["frame", "step", "dictionary", "offset", "lookup"]) (.r 1)), .v (mCall G_reference_key [.v (mVar 2)]), .v (mVar 3)])))
noncomputable def G_recipe_key : List D → FRes := fun ds => fnRes false false (u_recipe_key (initS false [false] 4 ds))
theorem ok_recipe_key (T : Txt K mg) : FnOk P w K mg base CX0 2 T.f_recipe_key T.fd_recipe_key P_recipe_key (spD K false false [false] G_recipe_key) := by
  refine dfn T.F_recipe_key sc_recipe_key u_recipe_key rfl (fun c W cdv A outer s H E hio0 hfr hr h0 => ?_) (fun ds => ⟨fnRes_noex, .inr rfl⟩)
  have hio : c.io = none := hio0.resolve_left (by decide)
  exact (pss_consX (ps_unpX (px_var (pv 0) (.inr hio)) (pgx_tup rfl (pgsx_cons sc_recipe_key.nd (pgsx_cons sc_recipe_key.nd (pgsx_cons sc_recipe_key.nd pgsx_nil (hi0 := (.inl (by decide)))) (hi0 := (.inl (by decide)))) (hi0 := (.inl (by decide)))))) (pss_oneX (ps_retX hfr (px_tup (pas_cons (pg_v (px_constIx T.cd_KINDS T.g_KINDS (pg_r (pv 1)))) (pas_cons (pg_v (px_call (ok_reference_key T) (hr.mono (by decide)) T.m_reference_key T.F_reference_key.kp T.b_reference_key (pas_cons (pg_v (px_var (pv 2) (.inl (by decide)))) pas_nil))) (pas_cons (pg_v (px_var (pv 3) (.inl (by decide)))) pas_nil)))))))

noncomputable def u_law_pick : SM := (sRet (mOp2 oIxB (.r 1) (.v (mCallT G_law_draw 0 [.v (mOp1 oLen (.r 1))]))))
noncomputable def G_law_pick : List D → FRes := fun ds => fnRes true false (u_law_pick (initS true [true] 2 ds))
theorem ok_law_pick (T : Txt K mg) : FnOk P w K mg base CX0 2 T.f_law_pick T.fd_law_pick P_law_pick (spD K true false [true] G_law_pick) := by
  refine dfn T.F_law_pick sc_law_pick u_law_pick rfl (fun c W cdv A outer s H E hio0 hfr hr h0 => ?_) (fun ds => ⟨fnRes_noex, .inr rfl⟩)
  exact (pss_oneX (ps_retX hfr (px_ix ix_seq od_ixB (pg_r (pv 1)) (pg_v (px_callT (ok_law_draw T) (hr.mono (by decide)) T.m_law_draw T.F_law_draw.kp T.b_law_draw (pv 0) (pas_cons (pg_v (px_b1 call_len od_len T.z_len (by decide +kernel) (pg_r (pv 1)))) pas_nil))))))

noncomputable def u_law_any : SM := (sSeq (sIf (mAndB (mTest2 bEqA (.v (mOp2 oIxA (.r 0) (.v (mC (.int 2))))) (.v (mC (.int 0)))) (mTest2 bLtA (.v (mOp2 oIxA (.r 0) (.v (mC (.int 1))))) (.v (mOp1 oLen (.v (mOp2 oIxA (.r 0) (.v (mC (.int 0))))))))) (sSeq (sSetL 0 (mC (.int 1)) (mOp2 oAddA (.v (mOp2 oIxA (.r 0) (.v (mC (.int 1))))) (.v (mC (.int 1))))) (sRet (mOp1 oInt (.v (mOp2 oIxA (.v (mOp2 oIxA (.r 0) (.v (mC (.int 0))))) (.v (mOp2 oSub (.v (mOp2 oIxA (.r 0) (.v (mC (.int 1))))) (.v (mC (.int 1)))))))))) sNil) (sRet (mOp2 oSub (.v (mCallT G_law_draw 0 [.v (mC (.int 2000001))])) (.v (mC (.int 1000000))))))
noncomputable def G_law_any : List D → FRes := fun ds => fnRes true false (u_law_any (initS true [] 1 ds))
theorem ok_law_any (T : Txt K mg) : FnOk P w K mg base CX0 2 T.f_law_any T.fd_law_any P_law_any (spD K true false [] G_law_any) := by
  refine dfn T.F_law_any sc_law_any u_law_any rfl (fun c W cdv A outer s H E hio0 hfr hr h0 => ?_) (fun ds => ⟨fnRes_noex, .inr rfl⟩)
  exact (pss_consX (ps_ifX (PXW.pt (xw_and (pt_cmp2 (op_eqA hr.units) ob_eqA (pg_v (px_ix ix_seq od_ixA (pg_r (pv 0)) (pg_v px_int))) (pg_v px_int)) (xw_and1 (pt_cmp2 (op_ltA hr.units) ob_bLtA (pg_v (px_ix ix_seq od_ixA (pg_r (pv 0)) (pg_v px_int))) (pg_v (px_b1 call_len od_len T.z_len (by decide +kernel) (pg_v (px_ix ix_seq od_ixA (pg_r (pv 0)) (pg_v px_int))))))))) (pss_consX (ps_setLX (pv 0) px_int (px_bin op_addA od_addA (pg_v (px_ix ix_seq od_ixA (pg_r (pv 0)) (pg_v px_int))) (pg_v px_int))) (pss_oneX (ps_retX hfr (px_t1 call_int1 od_int T.z_int (by decide +kernel) (pg_v (px_ix ix_seq od_ixA (pg_v (px_ix ix_seq od_ixA (pg_r (pv 0)) (pg_v px_int))) (pg_v (px_bin op_sub od_I0 (pg_v (px_ix ix_seq od_ixA (pg_r (pv 0)) (pg_v px_int))) (pg_v px_int))))))))) pss_nilX) (pss_oneX (ps_retX hfr (px_bin op_sub od_I0 (pg_v (px_callT (ok_law_draw T) (hr.mono (by decide)) T.m_law_draw T.F_law_draw.kp T.b_law_draw (pv 0) (pas_cons (pg_v px_int) pas_nil))) (pg_v px_int)))))

noncomputable def lb_law_shuffled_1 : SM := (sApp 3 (mPopAt 2 (mCallT G_law_draw 0 [.v (mOp1 oLen (.r 2))])))
noncomputable def u_law_shuffled : SM := (sSeq (sAsgF 2 (mOp1 oList (.r 1))) (sSeq (sAsgF 3 (mLst [])) (sSeq (sFor (mRng1 [.v (mOp1 oLen (.r 1))]) (gN 4) lb_law_shuffled_1) (sRet (mVar 3)))))
noncomputable def G_law_shuffled : List D → FRes := fun ds => fnRes true false (u_law_shuffled (initS true [true] 5 ds))
theorem ok_law_shuffled (T : Txt K mg) : FnOk P w K mg base CX0 2 T.f_law_shuffled T.fd_law_shuffled P_law_shuffled (spD K true false [true] G_law_shuffled) := by
  refine dfn T.F_law_shuffled sc_law_shuffled u_law_shuffled rfl (fun c W cdv A outer s H E hio0 hfr hr h0 => ?_) (fun ds => ⟨fnRes_noex, .inr rfl⟩)
  exact (pss_consX (ps_asgFX (i := 2) sc_law_shuffled.nd (pxf_t1 call_list_of of_list T.z_list (by decide +kernel) (pg_r (pv 1))) (hi0 := (.inl (by decide)))) (pss_consX (ps_asgFX (i := 3) sc_law_shuffled.nd (pxf_lst pas_nil) (hi0 := (.inl (by decide)))) (pss_consX (ps_forX PassesOwn.never (pix_rng1 T.z_range (pas_cons (pg_v (px_b1 call_len od_len T.z_len (by decide +kernel) (pg_r (pv 1)))) pas_nil)) (pgx_name sc_law_shuffled.nd (hi0 := (.inl (by decide)))) (pss_oneX (ps_appX (pv 3) (px_popAtX (pv 2) (px_callT (ok_law_draw T) (hr.mono (by decide)) T.m_law_draw T.F_law_draw.kp T.b_law_draw (pv 0) (pas_cons (pg_v (px_b1 call_len od_len T.z_len (by decide +kernel) (pg_r (pv 2)))) pas_nil)))))) (pss_oneX (ps_retX hfr (px_var (pv 3) (.inl (by decide))))))))

noncomputable def ce_choice_of_1 : M D := (mIfE (mTest2 bIsN (.v (mOp2 oIxA (.r 3) (.v (mC (.int 1))))) (.v (mC .non))) (mC .non) (mCall G_place_of [.v (mVar 0), .v (mOp2 oIxA (.r 3) (.v (mC (.int 1))))]))
noncomputable def u_choice_of : SM := (sSeq (sAsg 2 (mOp1 oTuple (.v (mLc (mItemsA (mVar 1)) [3] (gN 3) mYes ce_choice_of_1)))) (sSeq (sIf (mTest2 bNotN (.v (mCall G_circle_of [.r 2])) (.v (mC .non))) sDead sNil) (sRet (mVar 2))))
noncomputable def G_choice_of : List D → FRes := fun ds => fnRes false false (u_choice_of (initS false [false, false] 4 ds))
theorem ok_choice_of (T : Txt K mg) : FnOk P w K mg base CX0 3 T.f_choice_of T.fd_choice_of P_choice_of (spD K false false [false, false] G_choice_of) := by
  refine dfn T.F_choice_of sc_choice_of u_choice_of rfl (fun c W cdv A outer s H E hio0 hfr hr h0 => ?_) (fun ds => ⟨fnRes_noex, .inr rfl⟩)
  have hio : c.io = none := hio0.resolve_left (by decide)
  exact (pss_consX (ps_asgX (i := 2) sc_choice_of.nd (px_t1 call_tuple_of od_tuple T.z_tuple (by decide +kernel) (pg_v (PXF.px (pxf_lc (own := [("recipe", 3)]) sc_choice_of.nd (pix_seq (px_var (pv 1) (.inl (by decide)))) (blkOk_by (own := [("recipe", 3)]) (N := N_choice_of) (sc := defScope s_choice_of) (by decide +kernel)) (fun _ _ _ _ _ => (pgx_name sc_choice_of.nd (hi0 := (.inl (by decide))))) (fun _ _ _ _ _ => ptsx_nil) (fun _ _ _ _ _ => (px_if (pt_cmp2 op_isN ob_isN (pg_v (px_ix ix_seq od_ixA (pg_r (pv 3)) (pg_v px_int))) (pg_v px_non)) px_non (px_call (ok_place_of T) (hr.mono (by decide)) T.m_place_of T.F_place_of.kp T.b_place_of (pas_cons (pg_v (px_var (pv 0) (.inr hio))) (pas_cons (pg_v (px_ix ix_seq od_ixA (pg_r (pv 3)) (pg_v px_int))) pas_nil))))) (h0 := .inl (by decide)))))) (hi0 := (.inl (by decide)))) (pss_consX (ps_ifX (pt_cmp2 op_notN ob_notN (pg_v (px_call (ok_circle_of T) (hr.mono (by decide)) T.m_circle_of T.F_circle_of.kp T.b_circle_of (pas_cons (pg_r (pv 2)) pas_nil))) (pg_v px_non)) (pss_oneX ps_deadX) pss_nilX) (pss_oneX (ps_retX hfr (px_var (pv 2) (.inl (by decide)))))))

noncomputable def u_law_number : SM := (sSeq (sAsg 1 (mCallT G_law_draw 0 [.v (mCallT G_law_pick 0 [.v (mLst [.v (mC (.int 2)), .v (mC (.int 10)), .v (mC (.int 300)), .v (mC (.int 70000)), .v (mC (.int 1000000001))])])])) (sRet (mOp2 oIxA (.v (mLst [.v (mVar 1), .v (mOp1 (fI fun i => -i) (.r 1))])) (.v (mCallT G_law_draw 0 [.v (mC (.int 2))])))))
noncomputable def G_law_number : List D → FRes := fun ds => fnRes true false (u_law_number (initS true [] 2 ds))
theorem ok_law_number (T : Txt K mg) : FnOk P w K mg base CX0 3 T.f_law_number T.fd_law_number P_law_number (spD K true false [] G_law_number) := by
  refine dfn T.F_law_number sc_law_number u_law_number rfl (fun c W cdv A outer s H E hio0 hfr hr h0 => ?_) (fun ds => ⟨fnRes_noex, .inr rfl⟩)
  exact (pss_consX (ps_asgX (i := 1) sc_law_number.nd (px_callT (ok_law_draw T) (hr.mono (by decide)) T.m_law_draw T.F_law_draw.kp T.b_law_draw (pv 0) (pas_cons (pg_v (px_callT (ok_law_pick T) (hr.mono (by decide)) T.m_law_pick T.F_law_pick.kp T.b_law_pick (pv 0) (pas_cons (pg_v (PXF.px (pxf_lst (pas_cons (pg_v px_int) (pas_cons (pg_v px_int) (pas_cons (pg_v px_int) (pas_cons (pg_v px_int) (pas_cons (pg_v px_int) pas_nil)))))))) pas_nil))) pas_nil)) (hi0 := (.inl (by decide)))) (pss_oneX (ps_retX hfr (px_ix ix_seq od_ixA (pg_v (PXF.px (pxf_lst (pas_cons (pg_v (px_var (pv 1) (.inl (by decide)))) (pas_cons (pg_v (px_un un_neg od_neg (pg_r (pv 1)))) pas_nil))))) (pg_v (px_callT (ok_law_draw T) (hr.mono (by decide)) T.m_law_draw T.F_law_draw.kp T.b_law_draw (pv 0) (pas_cons (pg_v px_int) pas_nil)))))))

noncomputable def lb_law_names_1 : SM := (sAsg 6 (mOp2 oAddA (.r 6) (.v (mCallT G_law_pick 0 [.v (mOp2 oAddA (.r 2) (.v (mC (.str "0123456789_"))))]))))
noncomputable def lb_law_names_2 : SM := (sSeq (sAsg 6 (mOp2 oAddA (.r 3) (.v (mOp2 oIxB (.r 2) (.v (mCallT G_law_draw 0 [.v (mC (.int 52))])))))) (sSeq (sFor (mRng1 [.v (mCallT G_law_pick 0 [.v (mLst [.v (mC (.int 0)), .v (mC (.int 0)), .v (mC (.int 1)), .v (mC (.int 2))])])]) (gN 7) lb_law_names_1) (sApp 4 (mCall G_law_fresh [.v (mCutB (.r 6) none (some (mC (.int 20)))), .r 4, .v (mC (.int 20))]))))
noncomputable def u_law_names : SM := (sSeq (sAsg 2 (mC (.str "abcdefghijklmnopqrstuvwxyzABCDEFGHIJKLMNOPQRSTUVWXYZ"))) (sSeq (sAsg 3 (mCutB (.v (mC (.str "a_shared_beginning"))) none (some (mCallT G_law_pick 0 [.v (mLst [.v (mC (.int 0)), .v (mC (.int 0)), .v (mC (.int 0)), .v (mC (.int 1)), .v (mC (.int 18)), .v (mCallT G_law_draw 0 [.v (mC (.int 19))])])])))) (sSeq (sAsgF 4 (mLst [])) (sSeq (sFor (mRng1 [.r 1]) (gN 5) lb_law_names_2) (sRet (mVar 4))))))
noncomputable def G_law_names : List D → FRes := fun ds => fnRes true false (u_law_names (initS true [true] 8 ds))
theorem ok_law_names (T : Txt K mg) : FnOk P w K mg base CX0 3 T.f_law_names T.fd_law_names P_law_names (spD K true false [true] G_law_names) := by
  refine dfn T.F_law_names sc_law_names u_law_names rfl (fun c W cdv A outer s H E hio0 hfr hr h0 => ?_) (fun ds => ⟨fnRes_noex, .inr rfl⟩)
  exact (pss_consX (ps_asgX (i := 2) sc_law_names.nd px_str (hi0 := (.inl (by decide)))) (pss_consX (ps_asgX (i := 3) sc_law_names.nd (px_cutB (pg_v px_str) pox_none (pox_some (px_callT (ok_law_pick T) (hr.mono (by decide)) T.m_law_pick T.F_law_pick.kp T.b_law_pick (pv 0) (pas_cons (pg_v (PXF.px (pxf_lst (pas_cons (pg_v px_int) (pas_cons (pg_v px_int) (pas_cons (pg_v px_int) (pas_cons (pg_v px_int) (pas_cons (pg_v px_int) (pas_cons (pg_v (px_callT (ok_law_draw T) (hr.mono (by decide)) T.m_law_draw T.F_law_draw.kp T.b_law_draw (pv 0) (pas_cons (pg_v px_int) pas_nil))) pas_nil))))))))) pas_nil)))) (hi0 := (.inl (by decide)))) (pss_consX (ps_asgFX (i := 4) sc_law_names.nd (pxf_lst pas_nil) (hi0 := (.inl (by decide)))) (pss_consX (ps_forX PassesOwn.never (pix_rng1 T.z_range (pas_cons (pg_r (pv 1)) pas_nil)) (pgx_name sc_law_names.nd (hi0 := (.inl (by decide)))) (pss_consX (ps_asgX (i := 6) sc_law_names.nd (px_bin op_addA od_addA (pg_r (pv 3)) (pg_v (px_ix ix_seq od_ixB (pg_r (pv 2)) (pg_v (px_callT (ok_law_draw T) (hr.mono (by decide)) T.m_law_draw T.F_law_draw.kp T.b_law_draw (pv 0) (pas_cons (pg_v px_int) pas_nil)))))) (hi0 := (.inl (by decide)))) (pss_consX (ps_forX PassesOwn.never (pix_rng1 T.z_range (pas_cons (pg_v (px_callT (ok_law_pick T) (hr.mono (by decide)) T.m_law_pick T.F_law_pick.kp T.b_law_pick (pv 0) (pas_cons (pg_v (PXF.px (pxf_lst (pas_cons (pg_v px_int) (pas_cons (pg_v px_int) (pas_cons (pg_v px_int) (pas_cons (pg_v px_int) pas_nil))))))) pas_nil))) pas_nil)) (pgx_name sc_law_names.nd (hi0 := (.inl (by decide)))) (pss_oneX (ps_asgX (i := 6) sc_law_names.nd (px_bin op_addA od_addA (pg_r (pv 6)) (pg_v (px_callT (ok_law_pick T) (hr.mono (by decide)) T.m_law_pick T.F_law_pick.kp T.b_law_pick (pv 0) (pas_cons (pg_v (px_bin op_addA od_addA (pg_r (pv 2)) (pg_v px_str))) pas_nil)))) (hi0 := (.inl (by decide)))))) (pss_oneX (ps_appX (pv 4) (px_call (ok_law_fresh T) (hr.mono (by decide)) T.m_law_fresh T.F_law_fresh.kp T.b_law_fresh (pas_cons (pg_v (px_cutB (pg_r (pv 6)) pox_none (pox_some px_int))) (pas_cons (pg_r (pv 4)) (pas_cons (pg_v px_int) pas_nil))))))))) (pss_oneX (ps_retX hfr (px_var (pv 4) (.inl (by decide)))))))))

noncomputable def lb_law_labels_1 : SM := (sAsg 5 (mOp2 oAddA (.r 5) (.v (mCallT G_law_pick 0 [.r 1]))))
noncomputable def lb_law_labels_2 : SM := (sSeq (sAsg 5 (mVar 2)) (sSeq (sFor (mRng1 [.v (mCallT G_law_pick 0 [.v (mLst [.v (mC (.int 0)), .v (mC (.int 1)), .v (mC (.int 1)), .v (mC (.int 2))])])]) (gN 6) lb_law_labels_1) (sApp 3 (mCall G_law_fresh [.v (mVar 5), .r 3, .v (mC (.int 8))]))))
noncomputable def u_law_labels : SM := (sSeq (sAsg 1 (mC (.str " !\"#$&'()*+,-./0123456789:;<=>?@ABCDEFGHIJKLMNOPQRSTUVWXYZ[\\]^_`abcdefghijklmnopqrstuvwxyz{|}~"))) (sSeq (sAsg 2 (mCutB (.v (mC (.str "label "))) none (some (mCallT G_law_pick 0 [.v (mLst [.v (mC (.int 0)), .v (mC (.int 0)), .v (mC (.int 6)), .v (mCallT G_law_draw 0 [.v (mC (.int 7))])])])))) (sSeq (sAsgF 3 (mLst [])) (sSeq (sFor (mRng1 [.v (mOp2 oAddA (.v (mC (.int 1))) (.v (mCallT G_law_draw 0 [.v (mC (.int 6))])))]) (gN 4) lb_law_labels_2) (sRet (mOp1 oTuple (.r 3)))))))
noncomputable def G_law_labels : List D → FRes := fun ds => fnRes true false (u_law_labels (initS true [] 7 ds))
theorem ok_law_labels (T : Txt K mg) : FnOk P w K mg base CX0 3 T.f_law_labels T.fd_law_labels P_law_labels (spD K true false [] G_law_labels) := by
  refine dfn T.F_law_labels sc_law_labels u_law_labels rfl (fun c W cdv A outer s H E hio0 hfr hr h0 => ?_) (fun ds => ⟨fnRes_noex, .inr rfl⟩)
  exact (pss_consX (ps_asgX (i := 1) sc_law_labels.nd px_str (hi0 := (.inl (by decide)))) (pss_consX (ps_asgX (i := 2) sc_law_labels.nd (px_cutB (pg_v px_str) pox_none (pox_some (px_callT (ok_law_pick T) (hr.mono (by decide)) T.m_law_pick T.F_law_pick.kp T.b_law_pick (pv 0) (pas_cons (pg_v (PXF.px (pxf_lst (pas_cons (pg_v px_int) (pas_cons (pg_v px_int) (pas_cons (pg_v px_int) (pas_cons (pg_v (px_callT (ok_law_draw T) (hr.mono (by decide)) T.m_law_draw T.F_law_draw.kp T.b_law_draw (pv 0) (pas_cons (pg_v px_int) pas_nil))) pas_nil))))))) pas_nil)))) (hi0 := (.inl (by decide)))) (pss_consX (ps_asgFX (i := 3) sc_law_labels.nd (pxf_lst pas_nil) (hi0 := (.inl (by decide)))) (pss_consX (ps_forX PassesOwn.never (pix_rng1 T.z_range (pas_cons (pg_v (px_bin op_addA od_addA (pg_v px_int) (pg_v (px_callT (ok_law_draw T) (hr.mono (by decide)) T.m_law_draw T.F_law_draw.kp T.b_law_draw (pv 0) (pas_cons (pg_v px_int) pas_nil))))) pas_nil)) (pgx_name sc_law_labels.nd (hi0 := (.inl (by decide)))) (pss_consX (ps_asgX (i := 5) sc_law_labels.nd (px_var (pv 2) (.inl (by decide))) (hi0 := (.inl (by decide)))) (pss_consX (ps_forX PassesOwn.never (pix_rng1 T.z_range (pas_cons (pg_v (px_callT (ok_law_pick T) (hr.mono (by decide)) T.m_law_pick T.F_law_pick.kp T.b_law_pick (pv 0) (pas_cons (pg_v (PXF.px (pxf_lst (pas_cons (pg_v px_int) (pas_cons (pg_v px_int) (pas_cons (pg_v px_int) (pas_cons (pg_v px_int) pas_nil))))))) pas_nil))) pas_nil)) (pgx_name sc_law_labels.nd (hi0 := (.inl (by decide)))) (pss_oneX (ps_asgX (i := 5) sc_law_labels.nd (px_bin op_addA od_addA (pg_r (pv 5)) (pg_v (px_callT (ok_law_pick T) (hr.mono (by decide)) T.m_law_pick T.F_law_pick.kp T.b_law_pick (pv 0) (pas_cons (pg_r (pv 1)) pas_nil)))) (hi0 := (.inl (by decide)))))) (pss_oneX (ps_appX (pv 3) (px_call (ok_law_fresh T) (hr.mono (by decide)) T.m_law_fresh T.F_law_fresh.kp T.b_law_fresh (pas_cons (pg_v (px_var (pv 5) (.inl (by decide)))) (pas_cons (pg_r (pv 3)) (pas_cons (pg_v px_int) pas_nil))))))))) (pss_oneX (ps_retX hfr (px_t1 call_tuple_of od_tuple T.z_tuple (by decide +kernel) (pg_r (pv 3)))))))))

noncomputable def ce_law_recipe_1 : M D := (mVar 6)
noncomputable def ct_law_recipe_2 : M Bool := (mTest2 bNeA (.r 6) (.r 2))
noncomputable def u_law_recipe : SM := (sSeq (sAsgF 3 (mLc (mItemsA (mVar 1)) [6] (gN 6) ct_law_recipe_2 ce_law_recipe_1)) (sSeq (sAsg 4 (mCallT G_law_pick 0 [.v (mOp2 oAddA (.v (mLst [.v (mC (.str "frame")), .v (mC (.str "step")), .v (mC (.str "dictionary"))])) (.v (mCutA (.v (mLst [.v (mC (.str "offset")), .v (mC (.str "lookup")), .v (mC (.str "offset")), .v (mC (.str "lookup"))])) none (some (mOp2 oMul (.v (mC (.int 4))) (.v (mOp1 oLen (.r 3))))))))])) (sSeq (sAsg 5 (mC .non)) (sSeq (sIf (mTest2 bInA (.r 4) (.v (mLst [.v (mC (.str "offset")), .v (mC (.str "lookup"))]))) (sAsg 5 (mCallT G_law_pick 0 [.r 3])) sNil) (sRet (mTup [.v (mVar 4), .v (mVar 5), .v (mCallT G_law_pick 0 [.v (mLst [.v (mC (.int 0)), .v (mC (.int 1)), .v (mC (.int 2)), .v (mC (.int 3)), .v (mCallT G_law_draw 0 [.v (mC (.int 8))]), .v (mCallT G_law_draw 0 [.v (mC (.int 33))])])])]))))))
noncomputable def G_law_recipe : List D → FRes := fun ds => fnRes true false (u_law_recipe (initS true [false, true] 7 ds))
theorem ok_law_recipe (T : Txt K mg) : FnOk P w K mg base CX0 3 T.f_law_recipe T.fd_law_recipe P_law_recipe (spD K true false [false, true] G_law_recipe) := by
  refine dfn T.F_law_recipe sc_law_recipe u_law_recipe rfl (fun c W cdv A outer s H E hio0 hfr hr h0 => ?_) (fun ds => ⟨fnRes_noex, .inr rfl⟩)
  exact (pss_consX (ps_asgLcX (i := 3) (own := [("x", 6)]) sc_law_recipe.nd (pix_seq (px_var (pv 1) (.inl (by decide)))) (blkOk_by (own := [("x", 6)]) (N := N_law_recipe) (sc := defScope s_law_recipe) (by decide +kernel)) (fun _ _ _ _ _ => (pgx_name sc_law_recipe.nd (hi0 := (.inl (by decide))))) (fun _ _ _ _ _ => (ptsx_one (pt_cmp2 (op_neA hr.units) ob_neA (pg_r (pv 6)) (pg_r (pv 2))))) (fun _ _ _ _ _ => (px_var (pv 6) (.inl (by decide)))) (h0 := .inl (by decide)) (hi0 := (.inl (by decide))) (hsw := sw_true rfl rfl rfl (by decide +kernel))) (pss_consX (ps_asgX (i := 4) sc_law_recipe.nd (px_callT (ok_law_pick T) (hr.mono (by decide)) T.m_law_pick T.F_law_pick.kp T.b_law_pick (pv 0) (pas_cons (pg_v (px_bin op_addA od_addA (pg_v (PXF.px (pxf_lst (pas_cons (pg_v px_str) (pas_cons (pg_v px_str) (pas_cons (pg_v px_str) pas_nil)))))) (pg_v (px_cutA (pg_v (PXF.px (pxf_lst (pas_cons (pg_v px_str) (pas_cons (pg_v px_str) (pas_cons (pg_v px_str) (pas_cons (pg_v px_str) pas_nil))))))) pox_none (pox_some (px_bin op_mul od_mul (pg_v px_int) (pg_v (px_b1 call_len od_len T.z_len (by decide +kernel) (pg_r (pv 3)))))))))) pas_nil)) (hi0 := (.inl (by decide)))) (pss_consX (ps_asgX (i := 5) sc_law_recipe.nd px_non (hi0 := (.inl (by decide)))) (pss_consX (ps_ifX (pt_cmp2 (op_inA hr.units) ob_inA (pg_r (pv 4)) (pg_v (PXF.px (pxf_lst (pas_cons (pg_v px_str) (pas_cons (pg_v px_str) pas_nil)))))) (pss_oneX (ps_asgX (i := 5) sc_law_recipe.nd (px_callT (ok_law_pick T) (hr.mono (by decide)) T.m_law_pick T.F_law_pick.kp T.b_law_pick (pv 0) (pas_cons (pg_r (pv 3)) pas_nil)) (hi0 := (.inl (by decide))))) pss_nilX) (pss_oneX (ps_retX hfr (px_tup (pas_cons (pg_v (px_var (pv 4) (.inl (by decide)))) (pas_cons (pg_v (px_var (pv 5) (.inl (by decide)))) (pas_cons (pg_v (px_callT (ok_law_pick T) (hr.mono (by decide)) T.m_law_pick T.F_law_pick.kp T.b_law_pick (pv 0) (pas_cons (pg_v (PXF.px (pxf_lst (pas_cons (pg_v px_int) (pas_cons (pg_v px_int) (pas_cons (pg_v px_int) (pas_cons (pg_v px_int) (pas_cons (pg_v (px_callT (ok_law_draw T) (hr.mono (by decide)) T.m_law_draw T.F_law_draw.kp T.b_law_draw (pv 0) (pas_cons (pg_v px_int) pas_nil))) (pas_cons (pg_v (px_callT (ok_law_draw T) (hr.mono (by decide)) T.m_law_draw T.F_law_draw.kp T.b_law_draw (pv 0) (pas_cons (pg_v px_int) pas_nil))) pas_nil))))))))) pas_nil))) pas_nil))))))))))

noncomputable def ce_sort_keys_1 : M D := (mCall G_recipe_key [.v (mTup [.v (mVar 2), .v (mVar 5), .v (mVar 4)])])
noncomputable def u_sort_keys : SM := (sRet (mLc (mZip [.v (mVar 1), .v (mCall G_choice_of [.v (mVar 0), .v (mVar 1)])]) [5, 2, 3, 4] (gTT [(gT [2, 3, 4]), (gN 5)]) mYes ce_sort_keys_1))
noncomputable def G_sort_keys : List D → FRes := fun ds => fnRes false false (u_sort_keys (initS false [false, false] 6 ds))
theorem ok_sort_keys (T : Txt K mg) : FnOk P w K mg base CX0 4 T.f_sort_keys T.fd_sort_keys P_sort_keys (spD K false false [false, false] G_sort_keys) := by
  refine dfn T.F_sort_keys sc_sort_keys u_sort_keys rfl (fun c W cdv A outer s H E hio0 hfr hr h0 => ?_) (fun ds => ⟨fnRes_noex, .inr rfl⟩)
  have hio : c.io = none := hio0.resolve_left (by decide)
  exact (pss_oneX (ps_retX hfr (PXF.px (pxf_lc (own := [("place", 5), ("kind", 2), ("_", 3), ("width", 4)]) sc_sort_keys.nd (pix_zip2 T.z_zip (pas_cons (pg_v (px_var (pv 1) (.inl (by decide)))) (pas_cons (pg_v (px_call (ok_choice_of T) (hr.mono (by decide)) T.m_choice_of T.F_choice_of.kp T.b_choice_of (pas_cons (pg_v (px_var (pv 0) (.inr hio))) (pas_cons (pg_v (px_var (pv 1) (.inl (by decide)))) pas_nil)))) pas_nil))) (blkOk_by (own := [("place", 5), ("kind", 2), ("_", 3), ("width", 4)]) (N := N_sort_keys) (sc := defScope s_sort_keys) (by decide +kernel)) (fun _ _ _ _ _ => (pgx_tup2 rfl (pgsy_cons (pgx_tup rfl (pgsx_cons sc_sort_keys.nd (pgsx_cons sc_sort_keys.nd (pgsx_cons sc_sort_keys.nd pgsx_nil (hi0 := (.inl (by decide)))) (hi0 := (.inl (by decide)))) (hi0 := (.inl (by decide))))) (pgsy_cons (pgx_name sc_sort_keys.nd (hi0 := (.inl (by decide)))) pgsy_nil)))) (fun _ _ _ _ _ => ptsx_nil) (fun _ _ _ _ _ => (px_call (ok_recipe_key T) (hr.mono (by decide)) T.m_recipe_key T.F_recipe_key.kp T.b_recipe_key (pas_cons (pg_v (px_tup (pas_cons (pg_v (px_var (pv 2) (.inl (by decide)))) (pas_cons (pg_v (px_var (pv 5) (.inl (by decide)))) (pas_cons (pg_v (px_var (pv 4) (.inl (by decide)))) pas_nil))))) pas_nil))) (h0 := .inl (by decide))))))

noncomputable def lb_law_spots_1 : SM := (sSeq (sAsg 8 (mCallT G_law_draw 0 [.v (mC (.int 6))])) (sSeq (sAsg 9 (mOp2 oAddA (.r 5) (.v (mCallT G_law_draw 0 [.v (mC (.int 4))])))) (sSeq (sIf (mAndB (mTest2 bNeA (.r 6) (.v (mLst []))) (mTest2 bEqA (.r 8) (.v (mC (.int 1))))) (sAsg 9 (mCallT G_law_pick 0 [.r 6])) (sIf (mTest2 bEqA (.r 8) (.v (mC (.int 2)))) (sAsg 9 (mOp2 oAddA (.r 5) (.v (mCallT G_law_draw 0 [.v (mOp2 oMul (.v (mC (.int 3))) (.r 4))])))) (sIf (mTest2 bEqA (.r 8) (.v (mC (.int 3)))) (sAsg 9 (mCallT G_law_any 0 [])) (sIf (mAndB (mTest2 bNeA (.r 6) (.v (mLst []))) (mTest2 bGtA (.r 8) (.v (mC (.int 3))))) (sAsg 9 (mOp2 oAddA (.v (mCallT G_law_pick 0 [.r 6])) (.v (mCallT G_law_pick 0 [.v (mLst [.v (mC (.int 1)), .v (mOp1 (fI fun i => -i) (.v (mC (.int 1)))), .v (mOp2 oSub (.r 4) (.v (mC (.int 1)))), .v (mOp2 oSub (.v (mC (.int 1))) (.r 4)), .v (mVar 4), .v (mOp1 (fI fun i => -i) (.r 4))])])))) sNil)))) (sApp 6 (mCall G_law_within [.r 9, .r 3])))))
noncomputable def u_law_spots : SM := (sSeq (sAsg 4 (mOp2 oShl (.v (mC (.int 1))) (.r 2))) (sSeq (sAsg 5 (mCallT G_law_number 0 [])) (sSeq (sAsgF 6 (mLst [])) (sSeq (sFor (mRng1 [.r 1]) (gN 7) lb_law_spots_1) (sRet (mVar 6))))))
noncomputable def G_law_spots : List D → FRes := fun ds => fnRes true false (u_law_spots (initS true [true, true, true] 10 ds))
theorem ok_law_spots (T : Txt K mg) : FnOk P w K mg base CX0 4 T.f_law_spots T.fd_law_spots P_law_spots (spD K true false [true, true, true] G_law_spots) := by
  refine dfn T.F_law_spots sc_law_spots u_law_spots rfl (fun c W cdv A outer s H E hio0 hfr hr h0 => ?_) (fun ds => ⟨fnRes_noex, .inr rfl⟩)
  exact (pss_consX (ps_asgX (i := 4) sc_law_spots.nd (px_bin op_shlW od_shl (pg_v px_int) (pg_r (pv 2))) (hi0 := (.inl (by decide)))) (pss_consX (ps_asgX (i := 5) sc_law_spots.nd (px_callT (ok_law_number T) (hr.mono (by decide)) T.m_law_number T.F_law_number.kp T.b_law_number (pv 0) pas_nil) (hi0 := (.inl (by decide)))) (pss_consX (ps_asgFX (i := 6) sc_law_spots.nd (pxf_lst pas_nil) (hi0 := (.inl (by decide)))) (pss_consX (ps_forX PassesOwn.never (pix_rng1 T.z_range (pas_cons (pg_r (pv 1)) pas_nil)) (pgx_name sc_law_spots.nd (hi0 := (.inl (by decide)))) (pss_consX (ps_asgX (i := 8) sc_law_spots.nd (px_callT (ok_law_draw T) (hr.mono (by decide)) T.m_law_draw T.F_law_draw.kp T.b_law_draw (pv 0) (pas_cons (pg_v px_int) pas_nil)) (hi0 := (.inl (by decide)))) (pss_consX (ps_asgX (i := 9) sc_law_spots.nd (px_bin op_addA od_addA (pg_r (pv 5)) (pg_v (px_callT (ok_law_draw T) (hr.mono (by decide)) T.m_law_draw T.F_law_draw.kp T.b_law_draw (pv 0) (pas_cons (pg_v px_int) pas_nil)))) (hi0 := (.inl (by decide)))) (pss_consX (ps_ifX (PXW.pt (xw_and (pt_cmp2 (op_neA hr.units) ob_neA (pg_r (pv 6)) (pg_v (PXF.px (pxf_lst pas_nil)))) (xw_and1 (pt_cmp2 (op_eqA hr.units) ob_eqA (pg_r (pv 8)) (pg_v px_int))))) (pss_oneX (ps_asgX (i := 9) sc_law_spots.nd (px_callT (ok_law_pick T) (hr.mono (by decide)) T.m_law_pick T.F_law_pick.kp T.b_law_pick (pv 0) (pas_cons (pg_r (pv 6)) pas_nil)) (hi0 := (.inl (by decide))))) (pss_oneX (ps_ifX (pt_cmp2 (op_eqA hr.units) ob_eqA (pg_r (pv 8)) (pg_v px_int)) (pss_oneX (ps_asgX (i := 9) sc_law_spots.nd (px_bin op_addA od_addA (pg_r (pv 5)) (pg_v (px_callT (ok_law_draw T) (hr.mono (by decide)) T.m_law_draw T.F_law_draw.kp T.b_law_draw (pv 0) (pas_cons (pg_v (px_bin op_mul od_mul (pg_v px_int) (pg_r (pv 4)))) pas_nil)))) (hi0 := (.inl (by decide))))) (pss_oneX (ps_ifX (pt_cmp2 (op_eqA hr.units) ob_eqA (pg_r (pv 8)) (pg_v px_int)) (pss_oneX (ps_asgX (i := 9) sc_law_spots.nd (px_callT (ok_law_any T) (hr.mono (by decide)) T.m_law_any T.F_law_any.kp T.b_law_any (pv 0) pas_nil) (hi0 := (.inl (by decide))))) (pss_oneX (ps_ifX (PXW.pt (xw_and (pt_cmp2 (op_neA hr.units) ob_neA (pg_r (pv 6)) (pg_v (PXF.px (pxf_lst pas_nil)))) (xw_and1 (pt_cmp2 (op_gtA hr.units) ob_bGtA (pg_r (pv 8)) (pg_v px_int))))) (pss_oneX (ps_asgX (i := 9) sc_law_spots.nd (px_bin op_addA od_addA (pg_v (px_callT (ok_law_pick T) (hr.mono (by decide)) T.m_law_pick T.F_law_pick.kp T.b_law_pick (pv 0) (pas_cons (pg_r (pv 6)) pas_nil))) (pg_v (px_callT (ok_law_pick T) (hr.mono (by decide)) T.m_law_pick T.F_law_pick.kp T.b_law_pick (pv 0) (pas_cons (pg_v (PXF.px (pxf_lst (pas_cons (pg_v px_int) (pas_cons (pg_v (px_un un_neg od_neg (pg_v px_int))) (pas_cons (pg_v (px_bin op_sub od_I0 (pg_r (pv 4)) (pg_v px_int))) (pas_cons (pg_v (px_bin op_sub od_I0 (pg_v px_int) (pg_r (pv 4)))) (pas_cons (pg_v (px_var (pv 4) (.inl (by decide)))) (pas_cons (pg_v (px_un un_neg od_neg (pg_r (pv 4)))) pas_nil))))))))) pas_nil)))) (hi0 := (.inl (by decide))))) pss_nilX))))))) (pss_oneX (ps_appX (pv 6) (px_call (ok_law_within T) (hr.mono (by decide)) T.m_law_within T.F_law_within.kp T.b_law_within (pas_cons (pg_r (pv 9)) (pas_cons (pg_r (pv 3)) pas_nil))))))))) (pss_oneX (ps_retX hfr (px_var (pv 6) (.inl (by decide)))))))))

noncomputable def ce_law_ordered_1 : M D := (mCallT G_law_recipe 0 [.v (mOp2 oAddA (.v (mCutA (.r 2) none (some (mMt2 oIndex (.r 2) (.r 3))))) (.v (mLst [.v (mVar 3)]))), .r 3])
noncomputable def u_law_ordered : SM := (sRet (mOp1 oTuple (.v (mLc (mItemsA (mVar 1)) [3] (gN 3) mYes ce_law_ordered_1))))
noncomputable def G_law_ordered : List D → FRes := fun ds => fnRes true false (u_law_ordered (initS true [false, true] 4 ds))
theorem ok_law_ordered (T : Txt K mg) : FnOk P w K mg base CX0 4 T.f_law_ordered T.fd_law_ordered P_law_ordered (spD K true false [false, true] G_law_ordered) := by
  refine dfn T.F_law_ordered sc_law_ordered u_law_ordered rfl (fun c W cdv A outer s H E hio0 hfr hr h0 => ?_) (fun ds => ⟨fnRes_noex, .inr rfl⟩)
  exact (pss_oneX (ps_retX hfr (px_t1 call_tuple_of od_tuple T.z_tuple (by decide +kernel) (pg_v (PXF.px (pxf_lc (own := [("name", 3)]) sc_law_ordered.nd (pix_seq (px_var (pv 1) (.inl (by decide)))) (blkOk_by (own := [("name", 3)]) (N := N_law_ordered) (sc := defScope s_law_ordered) (by decide +kernel)) (fun _ _ _ _ _ => (pgx_name sc_law_ordered.nd (hi0 := (.inl (by decide))))) (fun _ _ _ _ _ => ptsx_nil) (fun _ _ _ _ _ => (px_callT (ok_law_recipe T) (hr.mono (by decide)) T.m_law_recipe T.F_law_recipe.kp T.b_law_recipe (pv 0) (pas_cons (pg_v (px_bin op_addA od_addA (pg_v (px_cutA (pg_r (pv 2)) pox_none (pox_some (px_mt2 PySem.F.slot_list_index PySem.F.type_list_index mt_index od_index (pg_r (pv 2)) (pg_r (pv 3)))))) (pg_v (PXF.px (pxf_lst (pas_cons (pg_v (px_var (pv 3) (.inl (by decide)))) pas_nil)))))) (pas_cons (pg_r (pv 3)) pas_nil)))) (h0 := .inl (by decide))))))))

noncomputable def u_plan_order : SM := (sSeq (sAsg 3 (mCall G_sort_keys [.v (mVar 0), .v (mVar 1)])) (sSeq (sAsg 4 (mCall G_sort_keys [.v (mVar 0), .v (mVar 2)])) (sSeq (sIf (mTest2 bEqA (.r 3) (.r 4)) (sRet (mC (.int 0))) sNil) (sRet (mIfE (mTest2 bLtA (.r 3) (.r 4)) (mOp1 (fI fun i => -i) (.v (mC (.int 1)))) (mC (.int 1)))))))
noncomputable def G_plan_order : List D → FRes := fun ds => fnRes false false (u_plan_order (initS false [false, false, false] 5 ds))
theorem ok_plan_order (T : Txt K mg) : FnOk P w K mg base CX0 5 T.f_plan_order T.fd_plan_order P_plan_order (spD K false false [false, false, false] G_plan_order) := by
  refine dfn T.F_plan_order sc_plan_order u_plan_order rfl (fun c W cdv A outer s H E hio0 hfr hr h0 => ?_) (fun ds => ⟨fnRes_noex, .inr rfl⟩)
  have hio : c.io = none := hio0.resolve_left (by decide)
  exact (pss_consX (ps_asgX (i := 3) sc_plan_order.nd (px_call (ok_sort_keys T) (hr.mono (by decide)) T.m_sort_keys T.F_sort_keys.kp T.b_sort_keys (pas_cons (pg_v (px_var (pv 0) (.inr hio))) (pas_cons (pg_v (px_var (pv 1) (.inl (by decide)))) pas_nil))) (hi0 := (.inl (by decide)))) (pss_consX (ps_asgX (i := 4) sc_plan_order.nd (px_call (ok_sort_keys T) (hr.mono (by decide)) T.m_sort_keys T.F_sort_keys.kp T.b_sort_keys (pas_cons (pg_v (px_var (pv 0) (.inr hio))) (pas_cons (pg_v (px_var (pv 2) (.inl (by decide)))) pas_nil))) (hi0 := (.inl (by decide)))) (pss_consX (ps_ifX (pt_cmp2 (op_eqA hr.units) ob_eqA (pg_r (pv 3)) (pg_r (pv 4))) (pss_oneX (ps_retX hfr px_int)) pss_nilX) (pss_oneX (ps_retX hfr (px_if (pt_cmp2 (op_ltA hr.units) ob_bLtA (pg_r (pv 3)) (pg_r (pv 4))) (px_un un_neg od_neg (pg_v px_int)) px_int))))))

noncomputable def ce_law_column_1 : M D := (mCall G_law_within [.v (mCallT G_law_number 0 []), .r 2])
noncomputable def ce_law_column_2 : M D := (mCallT G_law_pick 0 [.r 5])
noncomputable def lb_law_column_3 : SM := (sSeq (sAsg 4 (mCall G_law_within [.v (mOp2 oAddA (.v (mOp2 oAddA (.r 4) (.r 7))) (.v (mCallT G_law_pick 0 [.v (mLst [.v (mC (.int 0)), .v (mC (.int 0)), .v (mC (.int 0)), .v (mC (.int 1)), .v (mOp1 (fI fun i => -i) (.v (mC (.int 3)))), .v (mCallT G_law_number 0 [])])]))), .r 2])) (sApp 6 (mVar 4)))
noncomputable def ce_law_column_4 : M D := (mVar 4)
noncomputable def u_law_column : SM := (sSeq (sAsg 3 (mCallT G_law_draw 0 [.v (mC (.int 6))])) (sSeq (sAsg 4 (mCall G_law_within [.v (mCallT G_law_number 0 []), .r 2])) (sSeq (sIf (mTest2 bEqA (.r 3) (.v (mC (.int 0)))) (sSeq (sAsg 5 (mLst [.v (mVar 4), .v (mCallT G_law_pick 0 [.v (mLst [.v (mVar 4), .v (mVar 2), .v (mOp1 (fI fun i => -i) (.r 2))])])])) (sSeq (sAsg 5 (mOp2 oAddA (.r 5) (.v (mLc (mRng1 [.v (mCallT G_law_draw 0 [.v (mC (.int 4))])]) [8] (gN 8) mYes ce_law_column_1)))) (sRet (mLc (mRng1 [.r 1]) [8] (gN 8) mYes ce_law_column_2)))) sNil) (sSeq (sAsgF 6 (mLst [])) (sSeq (sIf (mTest2 bEqA (.r 3) (.v (mC (.int 1)))) (sSeq (sAsg 7 (mCallT G_law_pick 0 [.v (mLst [.v (mC (.int 0)), .v (mC (.int 0)), .v (mC (.int 1)), .v (mC (.int 7)), .v (mVar 4)])])) (sSeq (sFor (mRng1 [.r 1]) (gN 8) lb_law_column_3) (sRet (mVar 6)))) sNil) (sSeq (sIf (mTest2 bEqA (.r 3) (.v (mC (.int 2)))) (sSeq (sAsg 4 (mCallT G_law_pick 0 [.v (mLst [.v (mC (.int 0)), .v (mVar 4)])])) (sSeq (sAsgF 6 (mLc (mRng1 [.r 1]) [8] (gN 8) mYes ce_law_column_4)) (sSeq (sIf (mAndB (mTest2 bGtA (.r 1) (.v (mC (.int 0)))) (mTest2 bEqA (.v (mCallT G_law_draw 0 [.v (mC (.int 2))])) (.v (mC (.int 0))))) (sSetL 6 (mCallT G_law_draw 0 [.r 1]) (mCall G_law_within [.v (mCallT G_law_any 0 []), .r 2])) sNil) (sRet (mVar 6))))) sNil) (sRet (mCallT G_law_spots 0 [.r 1, .v (mCallT G_law_pick 0 [.v (mLst [.v (mC (.int 0)), .v (mC (.int 1)), .v (mC (.int 2)), .v (mC (.int 3)), .v (mC (.int 4)), .v (mCallT G_law_draw 0 [.v (mC (.int 31))])])]), .r 2]))))))))
noncomputable def G_law_column : List D → FRes := fun ds => fnRes true false (u_law_column (initS true [true, false] 9 ds))
theorem ok_law_column (T : Txt K mg) : FnOk P w K mg base CX0 5 T.f_law_column T.fd_law_column P_law_column (spD K true false [true, false] G_law_column) := by
  refine dfn T.F_law_column sc_law_column u_law_column rfl (fun c W cdv A outer s H E hio0 hfr hr h0 => ?_) (fun ds => ⟨fnRes_noex, .inr rfl⟩)
  exact (pss_consX (ps_asgX (i := 3) sc_law_column.nd (px_callT (ok_law_draw T) (hr.mono (by decide)) T.m_law_draw T.F_law_draw.kp T.b_law_draw (pv 0) (pas_cons (pg_v px_int) pas_nil)) (hi0 := (.inl (by decide)))) (pss_consX (ps_asgX (i := 4) sc_law_column.nd (px_call (ok_law_within T) (hr.mono (by decide)) T.m_law_within T.F_law_within.kp T.b_law_within (pas_cons (pg_v (px_callT (ok_law_number T) (hr.mono (by decide)) T.m_law_number T.F_law_number.kp T.b_law_number (pv 0) pas_nil)) (pas_cons (pg_r (pv 2)) pas_nil))) (hi0 := (.inl (by decide)))) (pss_consX (ps_ifX (pt_cmp2 (op_eqA hr.units) ob_eqA (pg_r (pv 3)) (pg_v px_int)) (pss_consX (ps_asgX (i := 5) sc_law_column.nd (PXF.px (pxf_lst (pas_cons (pg_v (px_var (pv 4) (.inl (by decide)))) (pas_cons (pg_v (px_callT (ok_law_pick T) (hr.mono (by decide)) T.m_law_pick T.F_law_pick.kp T.b_law_pick (pv 0) (pas_cons (pg_v (PXF.px (pxf_lst (pas_cons (pg_v (px_var (pv 4) (.inl (by decide)))) (pas_cons (pg_v (px_var (pv 2) (.inl (by decide)))) (pas_cons (pg_v (px_un un_neg od_neg (pg_r (pv 2)))) pas_nil)))))) pas_nil))) pas_nil)))) (hi0 := (.inl (by decide)))) (pss_consX (ps_asgX (i := 5) sc_law_column.nd (px_bin op_addA od_addA (pg_r (pv 5)) (pg_v (PXF.px (pxf_lc (own := [("k", 8)]) sc_law_column.nd (pix_rng1 T.z_range (pas_cons (pg_v (px_callT (ok_law_draw T) (hr.mono (by decide)) T.m_law_draw T.F_law_draw.kp T.b_law_draw (pv 0) (pas_cons (pg_v px_int) pas_nil))) pas_nil)) (blkOk_by (own := [("k", 8)]) (N := N_law_column) (sc := defScope s_law_column) (by decide +kernel)) (fun _ _ _ _ _ => (pgx_name sc_law_column.nd (hi0 := (.inl (by decide))))) (fun _ _ _ _ _ => ptsx_nil) (fun _ _ _ _ _ => (px_call (ok_law_within T) (hr.mono (by decide)) T.m_law_within T.F_law_within.kp T.b_law_within (pas_cons (pg_v (px_callT (ok_law_number T) (hr.mono (by decide)) T.m_law_number T.F_law_number.kp T.b_law_number (pv 0) pas_nil)) (pas_cons (pg_r (pv 2)) pas_nil)))) (h0 := .inl (by decide)))))) (hi0 := (.inl (by decide)))) (pss_oneX (ps_retX hfr (PXF.px (pxf_lc (own := [("k", 8)]) sc_law_column.nd (pix_rng1 T.z_range (pas_cons (pg_r (pv 1)) pas_nil)) (blkOk_by (own := [("k", 8)]) (N := N_law_column) (sc := defScope s_law_column) (by decide +kernel)) (fun _ _ _ _ _ => (pgx_name sc_law_column.nd (hi0 := (.inl (by decide))))) (fun _ _ _ _ _ => ptsx_nil) (fun _ _ _ _ _ => (px_callT (ok_law_pick T) (hr.mono (by decide)) T.m_law_pick T.F_law_pick.kp T.b_law_pick (pv 0) (pas_cons (pg_r (pv 5)) pas_nil))) (h0 := .inl (by decide)))))))) pss_nilX) (pss_consX (ps_asgFX (i := 6) sc_law_column.nd (pxf_lst pas_nil) (hi0 := (.inl (by decide)))) (pss_consX (ps_ifX (pt_cmp2 (op_eqA hr.units) ob_eqA (pg_r (pv 3)) (pg_v px_int)) (pss_consX (ps_asgX (i := 7) sc_law_column.nd (px_callT (ok_law_pick T) (hr.mono (by decide)) T.m_law_pick T.F_law_pick.kp T.b_law_pick (pv 0) (pas_cons (pg_v (PXF.px (pxf_lst (pas_cons (pg_v px_int) (pas_cons (pg_v px_int) (pas_cons (pg_v px_int) (pas_cons (pg_v px_int) (pas_cons (pg_v (px_var (pv 4) (.inl (by decide)))) pas_nil)))))))) pas_nil)) (hi0 := (.inl (by decide)))) (pss_consX (ps_forX PassesOwn.never (pix_rng1 T.z_range (pas_cons (pg_r (pv 1)) pas_nil)) (pgx_name sc_law_column.nd (hi0 := (.inl (by decide)))) (pss_consX (ps_asgX (i := 4) sc_law_column.nd (px_call (ok_law_within T) (hr.mono (by decide)) T.m_law_within T.F_law_within.kp T.b_law_within (pas_cons (pg_v (px_bin op_addA od_addA (pg_v (px_bin op_addA od_addA (pg_r (pv 4)) (pg_r (pv 7)))) (pg_v (px_callT (ok_law_pick T) (hr.mono (by decide)) T.m_law_pick T.F_law_pick.kp T.b_law_pick (pv 0) (pas_cons (pg_v (PXF.px (pxf_lst (pas_cons (pg_v px_int) (pas_cons (pg_v px_int) (pas_cons (pg_v px_int) (pas_cons (pg_v px_int) (pas_cons (pg_v (px_un un_neg od_neg (pg_v px_int))) (pas_cons (pg_v (px_callT (ok_law_number T) (hr.mono (by decide)) T.m_law_number T.F_law_number.kp T.b_law_number (pv 0) pas_nil)) pas_nil))))))))) pas_nil))))) (pas_cons (pg_r (pv 2)) pas_nil))) (hi0 := (.inl (by decide)))) (pss_oneX (ps_appX (pv 6) (px_var (pv 4) (.inl (by decide))))))) (pss_oneX (ps_retX hfr (px_var (pv 6) (.inl (by decide))))))) pss_nilX) (pss_consX (ps_ifX (pt_cmp2 (op_eqA hr.units) ob_eqA (pg_r (pv 3)) (pg_v px_int)) (pss_consX (ps_asgX (i := 4) sc_law_column.nd (px_callT (ok_law_pick T) (hr.mono (by decide)) T.m_law_pick T.F_law_pick.kp T.b_law_pick (pv 0) (pas_cons (pg_v (PXF.px (pxf_lst (pas_cons (pg_v px_int) (pas_cons (pg_v (px_var (pv 4) (.inl (by decide)))) pas_nil))))) pas_nil)) (hi0 := (.inl (by decide)))) (pss_consX (ps_asgLcX (i := 6) (own := [("k", 8)]) sc_law_column.nd (pix_rng1 T.z_range (pas_cons (pg_r (pv 1)) pas_nil)) (blkOk_by (own := [("k", 8)]) (N := N_law_column) (sc := defScope s_law_column) (by decide +kernel)) (fun _ _ _ _ _ => (pgx_name sc_law_column.nd (hi0 := (.inl (by decide))))) (fun _ _ _ _ _ => ptsx_nil) (fun _ _ _ _ _ => (px_var (pv 4) (.inl (by decide)))) (h0 := .inl (by decide)) (hi0 := (.inl (by decide))) (hsw := sw_true rfl rfl rfl (by decide +kernel))) (pss_consX (ps_ifX (PXW.pt (xw_and (pt_cmp2 (op_gtA hr.units) ob_bGtA (pg_r (pv 1)) (pg_v px_int)) (xw_and1 (pt_cmp2 (op_eqA hr.units) ob_eqA (pg_v (px_callT (ok_law_draw T) (hr.mono (by decide)) T.m_law_draw T.F_law_draw.kp T.b_law_draw (pv 0) (pas_cons (pg_v px_int) pas_nil))) (pg_v px_int))))) (pss_oneX (ps_setLX (pv 6) (px_callT (ok_law_draw T) (hr.mono (by decide)) T.m_law_draw T.F_law_draw.kp T.b_law_draw (pv 0) (pas_cons (pg_r (pv 1)) pas_nil)) (px_call (ok_law_within T) (hr.mono (by decide)) T.m_law_within T.F_law_within.kp T.b_law_within (pas_cons (pg_v (px_callT (ok_law_any T) (hr.mono (by decide)) T.m_law_any T.F_law_any.kp T.b_law_any (pv 0) pas_nil)) (pas_cons (pg_r (pv 2)) pas_nil))))) pss_nilX) (pss_oneX (ps_retX hfr (px_var (pv 6) (.inl (by decide)))))))) pss_nilX) (pss_oneX (ps_retX hfr (px_callT (ok_law_spots T) (hr.mono (by decide)) T.m_law_spots T.F_law_spots.kp T.b_law_spots (pv 0) (pas_cons (pg_r (pv 1)) (pas_cons (pg_v (px_callT (ok_law_pick T) (hr.mono (by decide)) T.m_law_pick T.F_law_pick.kp T.b_law_pick (pv 0) (pas_cons (pg_v (PXF.px (pxf_lst (pas_cons (pg_v px_int) (pas_cons (pg_v px_int) (pas_cons (pg_v px_int) (pas_cons (pg_v px_int) (pas_cons (pg_v px_int) (pas_cons (pg_v (px_callT (ok_law_draw T) (hr.mono (by decide)) T.m_law_draw T.F_law_draw.kp T.b_law_draw (pv 0) (pas_cons (pg_v px_int) pas_nil))) pas_nil))))))))) pas_nil))) (pas_cons (pg_r (pv 2)) pas_nil))))))))))))

noncomputable def ce_law_related_1 : M D := (mCall G_law_within [.v (mOp2 oAddA (.v (mOp2 oAddA (.r 9) (.r 6))) (.v (mCallT G_law_draw 0 [.r 4]))), .r 2])
noncomputable def ce_law_related_2 : M D := (mCallT G_law_number 0 [])
noncomputable def ce_law_related_3 : M D := (mCall G_law_within [.v (mOp2 oAddA (.v (mOp2 oIxA (.r 8) (.v (mMt2 oIndex (.r 7) (.r 9))))) (.v (mCallT G_law_draw 0 [.r 4]))), .r 2])
noncomputable def u_law_related : SM := (sSeq (sAsg 3 (mCallT G_law_draw 0 [.v (mC (.int 8))])) (sSeq (sIf (mTest2 bEqA (.r 3) (.v (mC (.int 0)))) (sRet (mCallT G_law_column 0 [.v (mOp1 oLen (.r 1)), .v (mVar 2)])) sNil) (sSeq (sAsg 4 (mOp2 oShl (.v (mC (.int 1))) (.v (mCallT G_law_pick 0 [.v (mLst [.v (mC (.int 0)), .v (mC (.int 0)), .v (mC (.int 1)), .v (mC (.int 2)), .v (mC (.int 3))])])))) (sSeq (sAsgF 5 (mOp1 oList (.r 1))) (sSeq (sIf (mTest2 bLtA (.r 3) (.v (mC (.int 4)))) (sSeq (sAsg 6 (mCallT G_law_pick 0 [.v (mLst [.v (mC (.int 0)), .v (mC (.int 0)), .v (mCallT G_law_number 0 [])])])) (sAsgF 5 (mLc (mItemsA (mVar 1)) [9] (gN 9) mYes ce_law_related_1))) (sIf (mTest2 bLtA (.r 3) (.v (mC (.int 7)))) (sSeq (sAsg 7 (mCall G_law_distinct [.r 1])) (sSeq (sAsgF 8 (mLc (mItemsA (mVar 7)) [9] (gN 9) mYes ce_law_related_2)) (sAsgF 5 (mLc (mItemsA (mVar 1)) [9] (gN 9) mYes ce_law_related_3)))) sNil)) (sSeq (sIf (mAndB (mTest2 bNeA (.r 5) (.v (mLst []))) (mTest2 bEqA (.v (mCallT G_law_draw 0 [.v (mC (.int 3))])) (.v (mC (.int 0))))) (sSetL 5 (mCallT G_law_draw 0 [.v (mOp1 oLen (.r 5))]) (mCall G_law_within [.v (mCallT G_law_any 0 []), .r 2])) sNil) (sRet (mVar 5))))))))
noncomputable def G_law_related : List D → FRes := fun ds => fnRes true false (u_law_related (initS true [false, false] 10 ds))
theorem ok_law_related (T : Txt K mg) : FnOk P w K mg base CX0 6 T.f_law_related T.fd_law_related P_law_related (spD K true false [false, false] G_law_related) := by
  refine dfn T.F_law_related sc_law_related u_law_related rfl (fun c W cdv A outer s H E hio0 hfr hr h0 => ?_) (fun ds => ⟨fnRes_noex, .inr rfl⟩)
  exact (pss_consX (ps_asgX (i := 3) sc_law_related.nd (px_callT (ok_law_draw T) (hr.mono (by decide)) T.m_law_draw T.F_law_draw.kp T.b_law_draw (pv 0) (pas_cons (pg_v px_int) pas_nil)) (hi0 := (.inl (by decide)))) (pss_consX (ps_ifX (pt_cmp2 (op_eqA hr.units) ob_eqA (pg_r (pv 3)) (pg_v px_int)) (pss_oneX (ps_retX hfr (px_callT (ok_law_column T) (hr.mono (by decide)) T.m_law_column T.F_law_column.kp T.b_law_column (pv 0) (pas_cons (pg_v (px_b1 call_len od_len T.z_len (by decide +kernel) (pg_r (pv 1)))) (pas_cons (pg_v (px_var (pv 2) (.inl (by decide)))) pas_nil))))) pss_nilX) (pss_consX (ps_asgX (i := 4) sc_law_related.nd (px_bin op_shlW od_shl (pg_v px_int) (pg_v (px_callT (ok_law_pick T) (hr.mono (by decide)) T.m_law_pick T.F_law_pick.kp T.b_law_pick (pv 0) (pas_cons (pg_v (PXF.px (pxf_lst (pas_cons (pg_v px_int) (pas_cons (pg_v px_int) (pas_cons (pg_v px_int) (pas_cons (pg_v px_int) (pas_cons (pg_v px_int) pas_nil)))))))) pas_nil)))) (hi0 := (.inl (by decide)))) (pss_consX (ps_asgFX (i := 5) sc_law_related.nd (pxf_t1 call_list_of of_list T.z_list (by decide +kernel) (pg_r (pv 1))) (hi0 := (.inl (by decide)))) (pss_consX (ps_ifX (pt_cmp2 (op_ltA hr.units) ob_bLtA (pg_r (pv 3)) (pg_v px_int)) (pss_consX (ps_asgX (i := 6) sc_law_related.nd (px_callT (ok_law_pick T) (hr.mono (by decide)) T.m_law_pick T.F_law_pick.kp T.b_law_pick (pv 0) (pas_cons (pg_v (PXF.px (pxf_lst (pas_cons (pg_v px_int) (pas_cons (pg_v px_int) (pas_cons (pg_v (px_callT (ok_law_number T) (hr.mono (by decide)) T.m_law_number T.F_law_number.kp T.b_law_number (pv 0) pas_nil)) pas_nil)))))) pas_nil)) (hi0 := (.inl (by decide)))) (pss_oneX (ps_asgLcX (i := 5) (own := [("x", 9)]) sc_law_related.nd (pix_seq (px_var (pv 1) (.inl (by decide)))) (blkOk_by (own := [("x", 9)]) (N := N_law_related) (sc := defScope s_law_related) (by decide +kernel)) (fun _ _ _ _ _ => (pgx_name sc_law_related.nd (hi0 := (.inl (by decide))))) (fun _ _ _ _ _ => ptsx_nil) (fun _ _ _ _ _ => (px_call (ok_law_within T) (hr.mono (by decide)) T.m_law_within T.F_law_within.kp T.b_law_within (pas_cons (pg_v (px_bin op_addA od_addA (pg_v (px_bin op_addA od_addA (pg_r (pv 9)) (pg_r (pv 6)))) (pg_v (px_callT (ok_law_draw T) (hr.mono (by decide)) T.m_law_draw T.F_law_draw.kp T.b_law_draw (pv 0) (pas_cons (pg_r (pv 4)) pas_nil))))) (pas_cons (pg_r (pv 2)) pas_nil)))) (h0 := .inl (by decide)) (hi0 := (.inl (by decide))) (hsw := sw_true rfl rfl rfl (by decide +kernel))))) (pss_oneX (ps_ifX (pt_cmp2 (op_ltA hr.units) ob_bLtA (pg_r (pv 3)) (pg_v px_int)) (pss_consX (ps_asgX (i := 7) sc_law_related.nd (px_call (ok_law_distinct T) (hr.mono (by decide)) T.m_law_distinct T.F_law_distinct.kp T.b_law_distinct (pas_cons (pg_r (pv 1)) pas_nil)) (hi0 := (.inl (by decide)))) (pss_consX (ps_asgFX (i := 8) sc_law_related.nd (pxf_lc (own := [("x", 9)]) sc_law_related.nd (pix_seq (px_var (pv 7) (.inl (by decide)))) (blkOk_by (own := [("x", 9)]) (N := N_law_related) (sc := defScope s_law_related) (by decide +kernel)) (fun _ _ _ _ _ => (pgx_name sc_law_related.nd (hi0 := (.inl (by decide))))) (fun _ _ _ _ _ => ptsx_nil) (fun _ _ _ _ _ => (px_callT (ok_law_number T) (hr.mono (by decide)) T.m_law_number T.F_law_number.kp T.b_law_number (pv 0) pas_nil)) (h0 := .inl (by decide))) (hi0 := (.inl (by decide)))) (pss_oneX (ps_asgLcX (i := 5) (own := [("x", 9)]) sc_law_related.nd (pix_seq (px_var (pv 1) (.inl (by decide)))) (blkOk_by (own := [("x", 9)]) (N := N_law_related) (sc := defScope s_law_related) (by decide +kernel)) (fun _ _ _ _ _ => (pgx_name sc_law_related.nd (hi0 := (.inl (by decide))))) (fun _ _ _ _ _ => ptsx_nil) (fun _ _ _ _ _ => (px_call (ok_law_within T) (hr.mono (by decide)) T.m_law_within T.F_law_within.kp T.b_law_within (pas_cons (pg_v (px_bin op_addA od_addA (pg_v (px_ix ix_seq od_ixA (pg_r (pv 8)) (pg_v (px_mt2 PySem.F.slot_list_index PySem.F.type_list_index mt_index od_index (pg_r (pv 7)) (pg_r (pv 9)))))) (pg_v (px_callT (ok_law_draw T) (hr.mono (by decide)) T.m_law_draw T.F_law_draw.kp T.b_law_draw (pv 0) (pas_cons (pg_r (pv 4)) pas_nil))))) (pas_cons (pg_r (pv 2)) pas_nil)))) (h0 := .inl (by decide)) (hi0 := (.inl (by decide))) (hsw := sw_true rfl rfl rfl (by decide +kernel)))))) pss_nilX))) (pss_consX (ps_ifX (PXW.pt (xw_and (pt_cmp2 (op_neA hr.units) ob_neA (pg_r (pv 5)) (pg_v (PXF.px (pxf_lst pas_nil)))) (xw_and1 (pt_cmp2 (op_eqA hr.units) ob_eqA (pg_v (px_callT (ok_law_draw T) (hr.mono (by decide)) T.m_law_draw T.F_law_draw.kp T.b_law_draw (pv 0) (pas_cons (pg_v px_int) pas_nil))) (pg_v px_int))))) (pss_oneX (ps_setLX (pv 5) (px_callT (ok_law_draw T) (hr.mono (by decide)) T.m_law_draw T.F_law_draw.kp T.b_law_draw (pv 0) (pas_cons (pg_v (px_b1 call_len od_len T.z_len (by decide +kernel) (pg_r (pv 5)))) pas_nil)) (px_call (ok_law_within T) (hr.mono (by decide)) T.m_law_within T.F_law_within.kp T.b_law_within (pas_cons (pg_v (px_callT (ok_law_any T) (hr.mono (by decide)) T.m_law_any T.F_law_any.kp T.b_law_any (pv 0) pas_nil)) (pas_cons (pg_r (pv 2)) pas_nil))))) pss_nilX) (pss_oneX (ps_retX hfr (px_var (pv 5) (.inl (by decide)))))))))))

noncomputable def lb_law_columns_1 : SM := (sApp 4 (mCallT G_law_related 0 [.v (mCallT G_law_pick 0 [.r 4]), .v (mVar 3)]))
noncomputable def u_law_columns : SM := (sSeq (sAsgF 4 (mLst [.v (mCallT G_law_column 0 [.r 2, .v (mVar 3)])])) (sSeq (sFor (mRng2 [.v (mC (.int 1)), .r 1]) (gN 5) lb_law_columns_1) (sRet (mCallT G_law_shuffled 0 [.r 4]))))
noncomputable def G_law_columns : List D → FRes := fun ds => fnRes true false (u_law_columns (initS true [true, true, false] 6 ds))
theorem ok_law_columns (T : Txt K mg) : FnOk P w K mg base CX0 7 T.f_law_columns T.fd_law_columns P_law_columns (spD K true false [true, true, false] G_law_columns) := by
  refine dfn T.F_law_columns sc_law_columns u_law_columns rfl (fun c W cdv A outer s H E hio0 hfr hr h0 => ?_) (fun ds => ⟨fnRes_noex, .inr rfl⟩)
  exact (pss_consX (ps_asgFX (i := 4) sc_law_columns.nd (pxf_lst (pas_cons (pg_v (px_callT (ok_law_column T) (hr.mono (by decide)) T.m_law_column T.F_law_column.kp T.b_law_column (pv 0) (pas_cons (pg_r (pv 2)) (pas_cons (pg_v (px_var (pv 3) (.inl (by decide)))) pas_nil)))) pas_nil)) (hi0 := (.inl (by decide)))) (pss_consX (ps_forX PassesOwn.never (pix_rng2 T.z_range (pas_cons (pg_v px_int) (pas_cons (pg_r (pv 1)) pas_nil))) (pgx_name sc_law_columns.nd (hi0 := (.inl (by decide)))) (pss_oneX (ps_appX (pv 4) (px_callT (ok_law_related T) (hr.mono (by decide)) T.m_law_related T.F_law_related.kp T.b_law_related (pv 0) (pas_cons (pg_v (px_callT (ok_law_pick T) (hr.mono (by decide)) T.m_law_pick T.F_law_pick.kp T.b_law_pick (pv 0) (pas_cons (pg_r (pv 4)) pas_nil))) (pas_cons (pg_v (px_var (pv 3) (.inl (by decide)))) pas_nil)))))) (pss_oneX (ps_retX hfr (px_callT (ok_law_shuffled T) (hr.mono (by decide)) T.m_law_shuffled T.F_law_shuffled.kp T.b_law_shuffled (pv 0) (pas_cons (pg_r (pv 4)) pas_nil))))))

noncomputable def ce_law_table_1 : M D := (mOp2 oMod (.v (mOp1 oInt (.v (mMt2 oIndex (.r 10) (.r 11))))) (.v (mOp1 oLen (.r 8))))
noncomputable def lb_law_table_2 : SM := (sSeq (sAsg 8 (mC .non)) (sSeq (sAsg 9 (mOp2 oIxA (.r 5) (.r 7))) (sSeq (sIf (mTest2 bEqA (.v (mCallT G_law_draw 0 [.v (mC (.int 4))])) (.v (mC (.int 0)))) (sSeq (sAsg 8 (mCallT G_law_labels 0 [])) (sSeq (sAsg 10 (mCall G_law_distinct [.r 9])) (sAsgF 9 (mLc (mItemsA (mVar 9)) [11] (gN 11) mYes ce_law_table_1)))) sNil) (sApp 6 (mTup [.v (mOp2 oIxA (.r 4) (.r 7)), .v (mVar 8), .v (mOp1 oTuple (.r 9))])))))
noncomputable def u_law_table : SM := (sSeq (sAsg 4 (mCallT G_law_names 0 [.r 1])) (sSeq (sAsg 5 (mCallT G_law_columns 0 [.r 1, .r 2, .v (mVar 3)])) (sSeq (sAsgF 6 (mLst [])) (sSeq (sFor (mRng1 [.r 1]) (gN 7) lb_law_table_2) (sRet (mOp1 oTuple (.r 6)))))))
noncomputable def G_law_table : List D → FRes := fun ds => fnRes true false (u_law_table (initS true [true, true, false] 12 ds))
theorem ok_law_table (T : Txt K mg) : FnOk P w K mg base CX0 8 T.f_law_table T.fd_law_table P_law_table (spD K true false [true, true, false] G_law_table) := by
  refine dfn T.F_law_table sc_law_table u_law_table rfl (fun c W cdv A outer s H E hio0 hfr hr h0 => ?_) (fun ds => ⟨fnRes_noex, .inr rfl⟩)
  exact (pss_consX (ps_asgX (i := 4) sc_law_table.nd (px_callT (ok_law_names T) (hr.mono (by decide)) T.m_law_names T.F_law_names.kp T.b_law_names (pv 0) (pas_cons (pg_r (pv 1)) pas_nil)) (hi0 := (.inl (by decide)))) (pss_consX (ps_asgX (i := 5) sc_law_table.nd (px_callT (ok_law_columns T) (hr.mono (by decide)) T.m_law_columns T.F_law_columns.kp T.b_law_columns (pv 0) (pas_cons (pg_r (pv 1)) (pas_cons (pg_r (pv 2)) (pas_cons (pg_v (px_var (pv 3) (.inl (by decide)))) pas_nil)))) (hi0 := (.inl (by decide)))) (pss_consX (ps_asgFX (i := 6) sc_law_table.nd (pxf_lst pas_nil) (hi0 := (.inl (by decide)))) (pss_consX (ps_forX PassesOwn.never (pix_rng1 T.z_range (pas_cons (pg_r (pv 1)) pas_nil)) (pgx_name sc_law_table.nd (hi0 := (.inl (by decide)))) (pss_consX (ps_asgX (i := 8) sc_law_table.nd px_non (hi0 := (.inl (by decide)))) (pss_consX (ps_asgX (i := 9) sc_law_table.nd (px_ix ix_seq od_ixA (pg_r (pv 5)) (pg_r (pv 7))) (hi0 := (.inl (by decide)))) (pss_consX (ps_ifX (pt_cmp2 (op_eqA hr.units) ob_eqA (pg_v (px_callT (ok_law_draw T) (hr.mono (by decide)) T.m_law_draw T.F_law_draw.kp T.b_law_draw (pv 0) (pas_cons (pg_v px_int) pas_nil))) (pg_v px_int)) (pss_consX (ps_asgX (i := 8) sc_law_table.nd (px_callT (ok_law_labels T) (hr.mono (by decide)) T.m_law_labels T.F_law_labels.kp T.b_law_labels (pv 0) pas_nil) (hi0 := (.inl (by decide)))) (pss_consX (ps_asgX (i := 10) sc_law_table.nd (px_call (ok_law_distinct T) (hr.mono (by decide)) T.m_law_distinct T.F_law_distinct.kp T.b_law_distinct (pas_cons (pg_r (pv 9)) pas_nil)) (hi0 := (.inl (by decide)))) (pss_oneX (ps_asgLcX (i := 9) (own := [("x", 11)]) sc_law_table.nd (pix_seq (px_var (pv 9) (.inl (by decide)))) (blkOk_by (own := [("x", 11)]) (N := N_law_table) (sc := defScope s_law_table) (by decide +kernel)) (fun _ _ _ _ _ => (pgx_name sc_law_table.nd (hi0 := (.inl (by decide))))) (fun _ _ _ _ _ => ptsx_nil) (fun _ _ _ _ _ => (px_bin op_mod od_mod (pg_v (px_t1 call_int1 od_int T.z_int (by decide +kernel) (pg_v (px_mt2 PySem.F.slot_list_index PySem.F.type_list_index mt_index od_index (pg_r (pv 10)) (pg_r (pv 11)))))) (pg_v (px_b1 call_len od_len T.z_len (by decide +kernel) (pg_r (pv 8)))))) (h0 := .inl (by decide)) (hi0 := (.inl (by decide))) (hsw := sw_true rfl rfl rfl (by decide +kernel)))))) pss_nilX) (pss_oneX (ps_appX (pv 6) (px_tup (pas_cons (pg_v (px_ix ix_seq od_ixA (pg_r (pv 4)) (pg_r (pv 7)))) (pas_cons (pg_v (px_var (pv 8) (.inl (by decide)))) (pas_cons (pg_v (px_t1 call_tuple_of od_tuple T.z_tuple (by decide +kernel) (pg_r (pv 9)))) pas_nil)))))))))) (pss_oneX (ps_retX hfr (px_t1 call_tuple_of od_tuple T.z_tuple (by decide +kernel) (pg_r (pv 6)))))))))

noncomputable def u_law_small : SM := (sSeq (sAsg 2 (mOp2 oAddA (.v (mC (.int 1))) (.v (mCallT G_law_draw 0 [.v (mC (.int 4))])))) (sSeq (sIf (mTest2 bEqA (.v (mCallT G_law_draw 0 [.v (mC (.int 8))])) (.v (mC (.int 0)))) (sAsg 2 (mOp2 oAddA (.v (mC (.int 5))) (.v (mCallT G_law_draw 0 [.v (mC (.int 2))])))) sNil) (sSeq (sAsg 3 (mCallT G_law_draw 0 [.v (mC (.int 7))])) (sSeq (sIf (mTest2 bEqA (.v (mCallT G_law_draw 0 [.v (mC (.int 16))])) (.v (mC (.int 0)))) (sAsg 3 (mC (.int 24))) sNil) (sRet (mCallT G_law_table 0 [.r 2, .r 3, .v (mVar 1)]))))))
noncomputable def G_law_small : List D → FRes := fun ds => fnRes true false (u_law_small (initS true [false] 4 ds))
theorem ok_law_small (T : Txt K mg) : FnOk P w K mg base CX0 9 T.f_law_small T.fd_law_small P_law_small (spD K true false [false] G_law_small) := by
  refine dfn T.F_law_small sc_law_small u_law_small rfl (fun c W cdv A outer s H E hio0 hfr hr h0 => ?_) (fun ds => ⟨fnRes_noex, .inr rfl⟩)
  exact (pss_consX (ps_asgX (i := 2) sc_law_small.nd (px_bin op_addA od_addA (pg_v px_int) (pg_v (px_callT (ok_law_draw T) (hr.mono (by decide)) T.m_law_draw T.F_law_draw.kp T.b_law_draw (pv 0) (pas_cons (pg_v px_int) pas_nil)))) (hi0 := (.inl (by decide)))) (pss_consX (ps_ifX (pt_cmp2 (op_eqA hr.units) ob_eqA (pg_v (px_callT (ok_law_draw T) (hr.mono (by decide)) T.m_law_draw T.F_law_draw.kp T.b_law_draw (pv 0) (pas_cons (pg_v px_int) pas_nil))) (pg_v px_int)) (pss_oneX (ps_asgX (i := 2) sc_law_small.nd (px_bin op_addA od_addA (pg_v px_int) (pg_v (px_callT (ok_law_draw T) (hr.mono (by decide)) T.m_law_draw T.F_law_draw.kp T.b_law_draw (pv 0) (pas_cons (pg_v px_int) pas_nil)))) (hi0 := (.inl (by decide))))) pss_nilX) (pss_consX (ps_asgX (i := 3) sc_law_small.nd (px_callT (ok_law_draw T) (hr.mono (by decide)) T.m_law_draw T.F_law_draw.kp T.b_law_draw (pv 0) (pas_cons (pg_v px_int) pas_nil)) (hi0 := (.inl (by decide)))) (pss_consX (ps_ifX (pt_cmp2 (op_eqA hr.units) ob_eqA (pg_v (px_callT (ok_law_draw T) (hr.mono (by decide)) T.m_law_draw T.F_law_draw.kp T.b_law_draw (pv 0) (pas_cons (pg_v px_int) pas_nil))) (pg_v px_int)) (pss_oneX (ps_asgX (i := 3) sc_law_small.nd px_int (hi0 := (.inl (by decide))))) pss_nilX) (pss_oneX (ps_retX hfr (px_callT (ok_law_table T) (hr.mono (by decide)) T.m_law_table T.F_law_table.kp T.b_law_table (pv 0) (pas_cons (pg_r (pv 2)) (pas_cons (pg_r (pv 3)) (pas_cons (pg_v (px_var (pv 1) (.inl (by decide)))) pas_nil))))))))))

noncomputable def ce_law_1 : M D := (mOp2 oIxA (.r 14) (.v (mC (.int 0))))
noncomputable def lb_law_2 : SM := (sSeq (sAsg 12 (mLst [.v (mCall G_law_key [.r 3, .v (mVar 10)]), .v (mCall G_law_key [.r 3, .v (mVar 11)])])) (sSeq (sIf (mNotB (mTru (.v (mCall (G_law_same 4) [.v (mCall G_plan_order [.v (mVar 2), .v (mVar 10), .v (mVar 11)]), .v (mOp2 oSub (.v (mOp1 oInt (.v (mOp2 (oB bGtA) (.v (mOp2 oIxA (.r 12) (.v (mC (.int 0))))) (.v (mOp2 oIxA (.r 12) (.v (mC (.int 1))))))))) (.v (mOp1 oInt (.v (mOp2 (oB bLtA) (.v (mOp2 oIxA (.r 12) (.v (mC (.int 0))))) (.v (mOp2 oIxA (.r 12) (.v (mC (.int 1))))))))))])))) (sRet (mC (.bl false))) sNil) (sSeq (sAsg 12 (mLst [.v (mCall G_law_key [.v (mOp1 oRevA (.r 3)), .v (mOp1 oRevA (.r 10))]), .v (mCall G_law_key [.v (mOp1 oRevA (.r 3)), .v (mOp1 oRevA (.r 11))])])) (sSeq (sAsg 13 (mOp2 oSub (.v (mOp1 oInt (.v (mOp2 (oB bGtA) (.v (mOp2 oIxA (.r 12) (.v (mC (.int 0))))) (.v (mOp2 oIxA (.r 12) (.v (mC (.int 1))))))))) (.v (mOp1 oInt (.v (mOp2 (oB bLtA) (.v (mOp2 oIxA (.r 12) (.v (mC (.int 0))))) (.v (mOp2 oIxA (.r 12) (.v (mC (.int 1))))))))))) (sIf (mNotB (mTru (.v (mCall (G_law_same 4) [.v (mCall G_plan_order [.v (mOp1 oRevA (.r 2)), .v (mOp1 oRevA (.r 10)), .v (mOp1 oRevA (.r 11))]), .r 13])))) (sRet (mC (.bl false))) sNil)))))
noncomputable def lb_law_3 : SM := (sFor (mItemsA (mVar 9)) (gN 11) lb_law_2)
noncomputable def st_law_1 : SM := (sAsgF 1 (mCall G_law_tape [.v (mVar 0)]))
noncomputable def st_law_2 : SM := (sAsg 2 (mCallT G_law_small 1 [.v (mC (.int 1000))]))
noncomputable def st_law_3 : SM := (sAsgF 3 (mLc (mItemsA (mVar 2)) [14] (gN 14) mYes ce_law_1))
noncomputable def st_law_4 : SM := (sAsg 4 (mCallT G_law_shuffled 1 [.r 3]))
noncomputable def st_law_5 : SM := (sAsg 5 (mCallT G_law_ordered 1 [.v (mVar 3), .r 4]))
noncomputable def st_law_6 : SM := (sAsg 6 (mCallT G_law_ordered 1 [.v (mVar 3), .r 4]))
noncomputable def st_law_7 : SM := (sAsgF 7 (mOp1 oList (.r 5)))
noncomputable def st_law_8 : SM := (sIf (mTest2 bGtA (.v (mCallT G_law_draw 1 [.v (mC (.int 4))])) (.v (mC (.int 0)))) (sSeq (sAsg 8 (mCallT G_law_draw 1 [.v (mOp1 oLen (.r 3))])) (sSeq (sSetL 7 (mVar 8) (mCallT G_law_recipe 1 [.v (mOp2 oAddA (.v (mCutA (.r 4) none (some (mMt2 oIndex (.r 4) (.v (mOp2 oIxA (.r 3) (.r 8))))))) (.v (mLst [.v (mOp2 oIxA (.r 3) (.r 8))]))), .v (mOp2 oIxA (.r 3) (.r 8))])) (sIf (mTest2 bEqA (.v (mCallT G_law_draw 1 [.v (mC (.int 2))])) (.v (mC (.int 0)))) (sSetL 7 (mVar 8) (mTup [.v (mOp2 oIxA (.v (mOp2 oIxA (.r 5) (.r 8))) (.v (mC (.int 0)))), .v (mOp2 oIxA (.v (mOp2 oIxA (.r 5) (.r 8))) (.v (mC (.int 1)))), .v (mCallT G_law_draw 1 [.v (mC (.int 33))])])) sNil))) sNil)
noncomputable def st_law_9 : SM := (sAsg 9 (mLst [.v (mVar 5), .v (mOp1 oTuple (.r 7)), .v (mVar 6)]))
noncomputable def st_law_10 : SM := (sFor (mItemsA (mVar 9)) (gN 10) lb_law_3)
noncomputable def st_law_11 : SM := (sRet (mC (.bl true)))
noncomputable def u_law : SM := (sSeq st_law_1 (sSeq st_law_2 (sSeq st_law_3 (sSeq st_law_4 (sSeq st_law_5 (sSeq st_law_6 (sSeq st_law_7 (sSeq st_law_8 (sSeq st_law_9 (sSeq st_law_10 st_law_11))))))))))
noncomputable def G_law : List D → FRes := fun ds => fnRes false false (u_law (initS false [false] 15 ds))
theorem ok_law (T : Txt K mg) : FnOk P w K mg base CX0 10 T.f_law T.fd_law P_law (spD K false false [false] G_law) := by
  refine dfn T.F_law sc_law u_law rfl (fun c W cdv A outer s H E hio0 hfr hr h0 => ?_) (fun ds => ⟨fnRes_noex, .inr rfl⟩)
  have hio : c.io = none := hio0.resolve_left (by decide)
  exact (pss_consX (ps_asgFX (i := 1) sc_law.nd (pxf_call (ok_law_tape T) (hr.mono (by decide)) T.m_law_tape T.F_law_tape.kp T.b_law_tape (pas_cons (pg_v (px_var (pv 0) (.inr hio))) pas_nil)) (hi0 := (.inl (by decide)))) (pss_consX (ps_asgX (i := 2) sc_law.nd (px_callT (ok_law_small T) (hr.mono (by decide)) T.m_law_small T.F_law_small.kp T.b_law_small (pv 1) (pas_cons (pg_v px_int) pas_nil)) (hi0 := (.inl (by decide)))) (pss_consX (ps_asgLcX (i := 3) (own := [("column", 14)]) sc_law.nd (pix_seq (px_var (pv 2) (.inl (by decide)))) (blkOk_by (own := [("column", 14)]) (N := N_law) (sc := defScope s_law) (by decide +kernel)) (fun _ _ _ _ _ => (pgx_name sc_law.nd (hi0 := (.inl (by decide))))) (fun _ _ _ _ _ => ptsx_nil) (fun _ _ _ _ _ => (px_ix ix_seq od_ixA (pg_r (pv 14)) (pg_v px_int))) (h0 := .inl (by decide)) (hi0 := (.inl (by decide))) (hsw := sw_true rfl rfl rfl (by decide +kernel))) (pss_consX (ps_asgX (i := 4) sc_law.nd (px_callT (ok_law_shuffled T) (hr.mono (by decide)) T.m_law_shuffled T.F_law_shuffled.kp T.b_law_shuffled (pv 1) (pas_cons (pg_r (pv 3)) pas_nil)) (hi0 := (.inl (by decide)))) (pss_consX (ps_asgX (i := 5) sc_law.nd (px_callT (ok_law_ordered T) (hr.mono (by decide)) T.m_law_ordered T.F_law_ordered.kp T.b_law_ordered (pv 1) (pas_cons (pg_v (px_var (pv 3) (.inl (by decide)))) (pas_cons (pg_r (pv 4)) pas_nil))) (hi0 := (.inl (by decide)))) (pss_consX (ps_asgX (i := 6) sc_law.nd (px_callT (ok_law_ordered T) (hr.mono (by decide)) T.m_law_ordered T.F_law_ordered.kp T.b_law_ordered (pv 1) (pas_cons (pg_v (px_var (pv 3) (.inl (by decide)))) (pas_cons (pg_r (pv 4)) pas_nil))) (hi0 := (.inl (by decide)))) (pss_consX (ps_asgFX (i := 7) sc_law.nd (pxf_t1 call_list_of of_list T.z_list (by decide +kernel) (pg_r (pv 5))) (hi0 := (.inl (by decide)))) (pss_consX (ps_ifX (pt_cmp2 (op_gtA hr.units) ob_bGtA (pg_v (px_callT (ok_law_draw T) (hr.mono (by decide)) T.m_law_draw T.F_law_draw.kp T.b_law_draw (pv 1) (pas_cons (pg_v px_int) pas_nil))) (pg_v px_int)) (pss_consX (ps_asgX (i := 8) sc_law.nd (px_callT (ok_law_draw T) (hr.mono (by decide)) T.m_law_draw T.F_law_draw.kp T.b_law_draw (pv 1) (pas_cons (pg_v (px_b1 call_len od_len T.z_len (by decide +kernel) (pg_r (pv 3)))) pas_nil)) (hi0 := (.inl (by decide)))) (pss_consX (ps_setLX (pv 7) (px_var (pv 8) (.inl (by decide))) (px_callT (ok_law_recipe T) (hr.mono (by decide)) T.m_law_recipe T.F_law_recipe.kp T.b_law_recipe (pv 1) (pas_cons (pg_v (px_bin op_addA od_addA (pg_v (px_cutA (pg_r (pv 4)) pox_none (pox_some (px_mt2 PySem.F.slot_list_index PySem.F.type_list_index mt_index od_index (pg_r (pv 4)) (pg_v (px_ix ix_seq od_ixA (pg_r (pv 3)) (pg_r (pv 8)))))))) (pg_v (PXF.px (pxf_lst (pas_cons (pg_v (px_ix ix_seq od_ixA (pg_r (pv 3)) (pg_r (pv 8)))) pas_nil)))))) (pas_cons (pg_v (px_ix ix_seq od_ixA (pg_r (pv 3)) (pg_r (pv 8)))) pas_nil)))) (pss_oneX (ps_ifX (pt_cmp2 (op_eqA hr.units) ob_eqA (pg_v (px_callT (ok_law_draw T) (hr.mono (by decide)) T.m_law_draw T.F_law_draw.kp T.b_law_draw (pv 1) (pas_cons (pg_v px_int) pas_nil))) (pg_v px_int)) (pss_oneX (ps_setLX (pv 7) (px_var (pv 8) (.inl (by decide))) (px_tup (pas_cons (pg_v (px_ix ix_seq od_ixA (pg_v (px_ix ix_seq od_ixA (pg_r (pv 5)) (pg_r (pv 8)))) (pg_v px_int))) (pas_cons (pg_v (px_ix ix_seq od_ixA (pg_v (px_ix ix_seq od_ixA (pg_r (pv 5)) (pg_r (pv 8)))) (pg_v px_int))) (pas_cons (pg_v (px_callT (ok_law_draw T) (hr.mono (by decide)) T.m_law_draw T.F_law_draw.kp T.b_law_draw (pv 1) (pas_cons (pg_v px_int) pas_nil))) pas_nil)))))) pss_nilX)))) pss_nilX) (pss_consX (ps_asgX (i := 9) sc_law.nd (PXF.px (pxf_lst (pas_cons (pg_v (px_var (pv 5) (.inl (by decide)))) (pas_cons (pg_v (px_t1 call_tuple_of od_tuple T.z_tuple (by decide +kernel) (pg_r (pv 7)))) (pas_cons (pg_v (px_var (pv 6) (.inl (by decide)))) pas_nil))))) (hi0 := (.inl (by decide)))) (pss_consX (ps_forX PassesOwn.never (pix_seq (px_var (pv 9) (.inl (by decide)))) (pgx_name sc_law.nd (hi0 := (.inl (by decide)))) (pss_oneX (ps_forX PassesOwn.never (pix_seq (px_var (pv 9) (.inl (by decide)))) (pgx_name sc_law.nd (hi0 := (.inl (by decide)))) (pss_consX (ps_asgX (i := 12) sc_law.nd (PXF.px (pxf_lst (pas_cons (pg_v (px_call (ok_law_key T) (hr.mono (by decide)) T.m_law_key T.F_law_key.kp T.b_law_key (pas_cons (pg_r (pv 3)) (pas_cons (pg_v (px_var (pv 10) (.inl (by decide)))) pas_nil)))) (pas_cons (pg_v (px_call (ok_law_key T) (hr.mono (by decide)) T.m_law_key T.F_law_key.kp T.b_law_key (pas_cons (pg_r (pv 3)) (pas_cons (pg_v (px_var (pv 11) (.inl (by decide)))) pas_nil)))) pas_nil)))) (hi0 := (.inl (by decide)))) (pss_consX (ps_ifX (pt_notB (pt_tru (pg_v (px_call (ok_law_same T 4) (hr.mono (by decide)) T.m_law_same T.F_law_same.kp T.b_law_same (pas_cons (pg_v (px_call (ok_plan_order T) (hr.mono (by decide)) T.m_plan_order T.F_plan_order.kp T.b_plan_order (pas_cons (pg_v (px_var (pv 2) (.inl (by decide)))) (pas_cons (pg_v (px_var (pv 10) (.inl (by decide)))) (pas_cons (pg_v (px_var (pv 11) (.inl (by decide)))) pas_nil))))) (pas_cons (pg_v (px_bin op_sub od_I0 (pg_v (px_t1 call_int1 od_int T.z_int (by decide +kernel) (pg_v (px_cmp (op_gtA hr.units) (OpB2.d ob_bGtA) (pg_v (px_ix ix_seq od_ixA (pg_r (pv 12)) (pg_v px_int))) (pg_v (px_ix ix_seq od_ixA (pg_r (pv 12)) (pg_v px_int))))))) (pg_v (px_t1 call_int1 od_int T.z_int (by decide +kernel) (pg_v (px_cmp (op_ltA hr.units) (OpB2.d ob_bLtA) (pg_v (px_ix ix_seq od_ixA (pg_r (pv 12)) (pg_v px_int))) (pg_v (px_ix ix_seq od_ixA (pg_r (pv 12)) (pg_v px_int))))))))) pas_nil)))))) (pss_oneX (ps_retX hfr px_bl)) pss_nilX) (pss_consX (ps_asgX (i := 12) sc_law.nd (PXF.px (pxf_lst (pas_cons (pg_v (px_call (ok_law_key T) (hr.mono (by decide)) T.m_law_key T.F_law_key.kp T.b_law_key (pas_cons (pg_v (px_revA (pg_r (pv 3)))) (pas_cons (pg_v (px_revA (pg_r (pv 10)))) pas_nil)))) (pas_cons (pg_v (px_call (ok_law_key T) (hr.mono (by decide)) T.m_law_key T.F_law_key.kp T.b_law_key (pas_cons (pg_v (px_revA (pg_r (pv 3)))) (pas_cons (pg_v (px_revA (pg_r (pv 11)))) pas_nil)))) pas_nil)))) (hi0 := (.inl (by decide)))) (pss_consX (ps_asgX (i := 13) sc_law.nd (px_bin op_sub od_I0 (pg_v (px_t1 call_int1 od_int T.z_int (by decide +kernel) (pg_v (px_cmp (op_gtA hr.units) (OpB2.d ob_bGtA) (pg_v (px_ix ix_seq od_ixA (pg_r (pv 12)) (pg_v px_int))) (pg_v (px_ix ix_seq od_ixA (pg_r (pv 12)) (pg_v px_int))))))) (pg_v (px_t1 call_int1 od_int T.z_int (by decide +kernel) (pg_v (px_cmp (op_ltA hr.units) (OpB2.d ob_bLtA) (pg_v (px_ix ix_seq od_ixA (pg_r (pv 12)) (pg_v px_int))) (pg_v (px_ix ix_seq od_ixA (pg_r (pv 12)) (pg_v px_int)))))))) (hi0 := (.inl (by decide)))) (pss_oneX (ps_ifX (pt_notB (pt_tru (pg_v (px_call (ok_law_same T 4) (hr.mono (by decide)) T.m_law_same T.F_law_same.kp T.b_law_same (pas_cons (pg_v (px_call (ok_plan_order T) (hr.mono (by decide)) T.m_plan_order T.F_plan_order.kp T.b_plan_order (pas_cons (pg_v (px_revA (pg_r (pv 2)))) (pas_cons (pg_v (px_revA (pg_r (pv 10)))) (pas_cons (pg_v (px_revA (pg_r (pv 11)))) pas_nil))))) (pas_cons (pg_r (pv 13)) pas_nil)))))) (pss_oneX (ps_retX hfr px_bl)) pss_nilX))))))))) (pss_oneX (ps_retX hfr px_bl))))))))))))

end

set_option maxHeartbeats 0 in
theorem all_mk {K : PySem.W.Frag} {h : Heap} {mg : Str → Option Value} (X : K.In h) (G : h.Ns mainGlobals mg)
    {f0 : Addr} {od0 an0 : Option Addr} {sl0 : Array (Option Value)} {oc0 kV0 dc0 pm0 cd0 ct0 : Value}
    (a0 : PySem.W.nsIn K mainGlobals "reference_key" = some (some (.ref f0))) (l0 : K.lookup f0 = some ⟨oc0, od0, .func (PySem.W.fnOf "reference_key" "reference_key" (defArgs s_reference_key) (defBody s_reference_key) (defScope s_reference_key) .none kV0 dc0 pm0 an0 cd0 ct0), sl0⟩) (c0 : PySem.W.codeIn K cd0 "reference_key" = true) (k0 : PySem.W.keepIn K (.ref f0) = true)
    {f1 : Addr} {od1 an1 : Option Addr} {sl1 : Array (Option Value)} {oc1 kV1 dc1 pm1 cd1 ct1 : Value}
    (a1 : PySem.W.nsIn K mainGlobals "_path_from" = some (some (.ref f1))) (l1 : K.lookup f1 = some ⟨oc1, od1, .func (PySem.W.fnOf "_path_from" "_path_from" (defArgs s_path_from) (defBody s_path_from) (defScope s_path_from) .none kV1 dc1 pm1 an1 cd1 ct1), sl1⟩) (c1 : PySem.W.codeIn K cd1 "_path_from" = true) (k1 : PySem.W.keepIn K (.ref f1) = true)
    {f2 : Addr} {od2 an2 : Option Addr} {sl2 : Array (Option Value)} {oc2 kV2 dc2 pm2 cd2 ct2 : Value}
    (a2 : PySem.W.nsIn K mainGlobals "place_of" = some (some (.ref f2))) (l2 : K.lookup f2 = some ⟨oc2, od2, .func (PySem.W.fnOf "place_of" "place_of" (defArgs s_place_of) (defBody s_place_of) (defScope s_place_of) .none kV2 dc2 pm2 an2 cd2 ct2), sl2⟩) (c2 : PySem.W.codeIn K cd2 "place_of" = true) (k2 : PySem.W.keepIn K (.ref f2) = true)
    {f3 : Addr} {od3 an3 : Option Addr} {sl3 : Array (Option Value)} {oc3 kV3 dc3 pm3 cd3 ct3 : Value}
    (a3 : PySem.W.nsIn K mainGlobals "_law_tape" = some (some (.ref f3))) (l3 : K.lookup f3 = some ⟨oc3, od3, .func (PySem.W.fnOf "_law_tape" "_law_tape" (defArgs s_law_tape) (defBody s_law_tape) (defScope s_law_tape) .none kV3 dc3 pm3 an3 cd3 ct3), sl3⟩) (c3 : PySem.W.codeIn K cd3 "_law_tape" = true) (k3 : PySem.W.keepIn K (.ref f3) = true)
    {f4 : Addr} {od4 an4 : Option Addr} {sl4 : Array (Option Value)} {oc4 kV4 dc4 pm4 cd4 ct4 : Value}
    (a4 : PySem.W.nsIn K mainGlobals "_law_draw" = some (some (.ref f4))) (l4 : K.lookup f4 = some ⟨oc4, od4, .func (PySem.W.fnOf "_law_draw" "_law_draw" (defArgs s_law_draw) (defBody s_law_draw) (defScope s_law_draw) .none kV4 dc4 pm4 an4 cd4 ct4), sl4⟩) (c4 : PySem.W.codeIn K cd4 "_law_draw" = true) (k4 : PySem.W.keepIn K (.ref f4) = true)
    {f5 : Addr} {od5 an5 : Option Addr} {sl5 : Array (Option Value)} {oc5 kV5 dc5 pm5 cd5 ct5 : Value}
    (a5 : PySem.W.nsIn K mainGlobals "_law_same" = some (some (.ref f5))) (l5 : K.lookup f5 = some ⟨oc5, od5, .func (PySem.W.fnOf "_law_same" "_law_same" (defArgs s_law_same) (defBody s_law_same) (defScope s_law_same) .none kV5 dc5 pm5 an5 cd5 ct5), sl5⟩) (c5 : PySem.W.codeIn K cd5 "_law_same" = true) (k5 : PySem.W.keepIn K (.ref f5) = true)
    {f6 : Addr} {od6 an6 : Option Addr} {sl6 : Array (Option Value)} {oc6 kV6 dc6 pm6 cd6 ct6 : Value}
    (a6 : PySem.W.nsIn K mainGlobals "_law_within" = some (some (.ref f6))) (l6 : K.lookup f6 = some ⟨oc6, od6, .func (PySem.W.fnOf "_law_within" "_law_within" (defArgs s_law_within) (defBody s_law_within) (defScope s_law_within) .none kV6 dc6 pm6 an6 cd6 ct6), sl6⟩) (c6 : PySem.W.codeIn K cd6 "_law_within" = true) (k6 : PySem.W.keepIn K (.ref f6) = true)
    {f7 : Addr} {od7 an7 : Option Addr} {sl7 : Array (Option Value)} {oc7 kV7 dc7 pm7 cd7 ct7 : Value}
    (a7 : PySem.W.nsIn K mainGlobals "_law_distinct" = some (some (.ref f7))) (l7 : K.lookup f7 = some ⟨oc7, od7, .func (PySem.W.fnOf "_law_distinct" "_law_distinct" (defArgs s_law_distinct) (defBody s_law_distinct) (defScope s_law_distinct) .none kV7 dc7 pm7 an7 cd7 ct7), sl7⟩) (c7 : PySem.W.codeIn K cd7 "_law_distinct" = true) (k7 : PySem.W.keepIn K (.ref f7) = true)
    {f8 : Addr} {od8 an8 : Option Addr} {sl8 : Array (Option Value)} {oc8 kV8 dc8 pm8 cd8 ct8 : Value}
    (a8 : PySem.W.nsIn K mainGlobals "_law_fresh" = some (some (.ref f8))) (l8 : K.lookup f8 = some ⟨oc8, od8, .func (PySem.W.fnOf "_law_fresh" "_law_fresh" (defArgs s_law_fresh) (defBody s_law_fresh) (defScope s_law_fresh) .none kV8 dc8 pm8 an8 cd8 ct8), sl8⟩) (c8 : PySem.W.codeIn K cd8 "_law_fresh" = true) (k8 : PySem.W.keepIn K (.ref f8) = true)
    {f9 : Addr} {od9 an9 : Option Addr} {sl9 : Array (Option Value)} {oc9 kV9 dc9 pm9 cd9 ct9 : Value}
    (a9 : PySem.W.nsIn K mainGlobals "_law_key" = some (some (.ref f9))) (l9 : K.lookup f9 = some ⟨oc9, od9, .func (PySem.W.fnOf "_law_key" "_law_key" (defArgs s_law_key) (defBody s_law_key) (defScope s_law_key) .none kV9 dc9 pm9 an9 cd9 ct9), sl9⟩) (c9 : PySem.W.codeIn K cd9 "_law_key" = true) (k9 : PySem.W.keepIn K (.ref f9) = true)
    {f10 : Addr} {od10 an10 : Option Addr} {sl10 : Array (Option Value)} {oc10 kV10 dc10 pm10 cd10 ct10 : Value}
    (a10 : PySem.W.nsIn K mainGlobals "circle_of" = some (some (.ref f10))) (l10 : K.lookup f10 = some ⟨oc10, od10, .func (PySem.W.fnOf "circle_of" "circle_of" (defArgs s_circle_of) (defBody s_circle_of) (defScope s_circle_of) .none kV10 dc10 pm10 an10 cd10 ct10), sl10⟩) (c10 : PySem.W.codeIn K cd10 "circle_of" = true) (k10 : PySem.W.keepIn K (.ref f10) = true)
    {f11 : Addr} {od11 an11 : Option Addr} {sl11 : Array (Option Value)} {oc11 kV11 dc11 pm11 cd11 ct11 : Value}
    (a11 : PySem.W.nsIn K mainGlobals "recipe_key" = some (some (.ref f11))) (l11 : K.lookup f11 = some ⟨oc11, od11, .func (PySem.W.fnOf "recipe_key" "recipe_key" (defArgs s_recipe_key) (defBody s_recipe_key) (defScope s_recipe_key) .none kV11 dc11 pm11 an11 cd11 ct11), sl11⟩) (c11 : PySem.W.codeIn K cd11 "recipe_key" = true) (k11 : PySem.W.keepIn K (.ref f11) = true)
    {f12 : Addr} {od12 an12 : Option Addr} {sl12 : Array (Option Value)} {oc12 kV12 dc12 pm12 cd12 ct12 : Value}
    (a12 : PySem.W.nsIn K mainGlobals "_law_pick" = some (some (.ref f12))) (l12 : K.lookup f12 = some ⟨oc12, od12, .func (PySem.W.fnOf "_law_pick" "_law_pick" (defArgs s_law_pick) (defBody s_law_pick) (defScope s_law_pick) .none kV12 dc12 pm12 an12 cd12 ct12), sl12⟩) (c12 : PySem.W.codeIn K cd12 "_law_pick" = true) (k12 : PySem.W.keepIn K (.ref f12) = true)
    {f13 : Addr} {od13 an13 : Option Addr} {sl13 : Array (Option Value)} {oc13 kV13 dc13 pm13 cd13 ct13 : Value}
    (a13 : PySem.W.nsIn K mainGlobals "_law_any" = some (some (.ref f13))) (l13 : K.lookup f13 = some ⟨oc13, od13, .func (PySem.W.fnOf "_law_any" "_law_any" (defArgs s_law_any) (defBody s_law_any) (defScope s_law_any) .none kV13 dc13 pm13 an13 cd13 ct13), sl13⟩) (c13 : PySem.W.codeIn K cd13 "_law_any" = true) (k13 : PySem.W.keepIn K (.ref f13) = true)
    {f14 : Addr} {od14 an14 : Option Addr} {sl14 : Array (Option Value)} {oc14 kV14 dc14 pm14 cd14 ct14 : Value}
    (a14 : PySem.W.nsIn K mainGlobals "_law_shuffled" = some (some (.ref f14))) (l14 : K.lookup f14 = some ⟨oc14, od14, .func (PySem.W.fnOf "_law_shuffled" "_law_shuffled" (defArgs s_law_shuffled) (defBody s_law_shuffled) (defScope s_law_shuffled) .none kV14 dc14 pm14 an14 cd14 ct14), sl14⟩) (c14 : PySem.W.codeIn K cd14 "_law_shuffled" = true) (k14 : PySem.W.keepIn K (.ref f14) = true)
    {f15 : Addr} {od15 an15 : Option Addr} {sl15 : Array (Option Value)} {oc15 kV15 dc15 pm15 cd15 ct15 : Value}
    (a15 : PySem.W.nsIn K mainGlobals "choice_of" = some (some (.ref f15))) (l15 : K.lookup f15 = some ⟨oc15, od15, .func (PySem.W.fnOf "choice_of" "choice_of" (defArgs s_choice_of) (defBody s_choice_of) (defScope s_choice_of) .none kV15 dc15 pm15 an15 cd15 ct15), sl15⟩) (c15 : PySem.W.codeIn K cd15 "choice_of" = true) (k15 : PySem.W.keepIn K (.ref f15) = true)
    {f16 : Addr} {od16 an16 : Option Addr} {sl16 : Array (Option Value)} {oc16 kV16 dc16 pm16 cd16 ct16 : Value}
    (a16 : PySem.W.nsIn K mainGlobals "_law_number" = some (some (.ref f16))) (l16 : K.lookup f16 = some ⟨oc16, od16, .func (PySem.W.fnOf "_law_number" "_law_number" (defArgs s_law_number) (defBody s_law_number) (defScope s_law_number) .none kV16 dc16 pm16 an16 cd16 ct16), sl16⟩) (c16 : PySem.W.codeIn K cd16 "_law_number" = true) (k16 : PySem.W.keepIn K (.ref f16) = true)
    {f17 : Addr} {od17 an17 : Option Addr} {sl17 : Array (Option Value)} {oc17 kV17 dc17 pm17 cd17 ct17 : Value}
    (a17 : PySem.W.nsIn K mainGlobals "_law_names" = some (some (.ref f17))) (l17 : K.lookup f17 = some ⟨oc17, od17, .func (PySem.W.fnOf "_law_names" "_law_names" (defArgs s_law_names) (defBody s_law_names) (defScope s_law_names) .none kV17 dc17 pm17 an17 cd17 ct17), sl17⟩) (c17 : PySem.W.codeIn K cd17 "_law_names" = true) (k17 : PySem.W.keepIn K (.ref f17) = true)
    {f18 : Addr} {od18 an18 : Option Addr} {sl18 : Array (Option Value)} {oc18 kV18 dc18 pm18 cd18 ct18 : Value}
    (a18 : PySem.W.nsIn K mainGlobals "_law_labels" = some (some (.ref f18))) (l18 : K.lookup f18 = some ⟨oc18, od18, .func (PySem.W.fnOf "_law_labels" "_law_labels" (defArgs s_law_labels) (defBody s_law_labels) (defScope s_law_labels) .none kV18 dc18 pm18 an18 cd18 ct18), sl18⟩) (c18 : PySem.W.codeIn K cd18 "_law_labels" = true) (k18 : PySem.W.keepIn K (.ref f18) = true)
    {f19 : Addr} {od19 an19 : Option Addr} {sl19 : Array (Option Value)} {oc19 kV19 dc19 pm19 cd19 ct19 : Value}
    (a19 : PySem.W.nsIn K mainGlobals "_law_recipe" = some (some (.ref f19))) (l19 : K.lookup f19 = some ⟨oc19, od19, .func (PySem.W.fnOf "_law_recipe" "_law_recipe" (defArgs s_law_recipe) (defBody s_law_recipe) (defScope s_law_recipe) .none kV19 dc19 pm19 an19 cd19 ct19), sl19⟩) (c19 : PySem.W.codeIn K cd19 "_law_recipe" = true) (k19 : PySem.W.keepIn K (.ref f19) = true)
    {f20 : Addr} {od20 an20 : Option Addr} {sl20 : Array (Option Value)} {oc20 kV20 dc20 pm20 cd20 ct20 : Value}
    (a20 : PySem.W.nsIn K mainGlobals "_sort_keys" = some (some (.ref f20))) (l20 : K.lookup f20 = some ⟨oc20, od20, .func (PySem.W.fnOf "_sort_keys" "_sort_keys" (defArgs s_sort_keys) (defBody s_sort_keys) (defScope s_sort_keys) .none kV20 dc20 pm20 an20 cd20 ct20), sl20⟩) (c20 : PySem.W.codeIn K cd20 "_sort_keys" = true) (k20 : PySem.W.keepIn K (.ref f20) = true)
    {f21 : Addr} {od21 an21 : Option Addr} {sl21 : Array (Option Value)} {oc21 kV21 dc21 pm21 cd21 ct21 : Value}
    (a21 : PySem.W.nsIn K mainGlobals "_law_spots" = some (some (.ref f21))) (l21 : K.lookup f21 = some ⟨oc21, od21, .func (PySem.W.fnOf "_law_spots" "_law_spots" (defArgs s_law_spots) (defBody s_law_spots) (defScope s_law_spots) .none kV21 dc21 pm21 an21 cd21 ct21), sl21⟩) (c21 : PySem.W.codeIn K cd21 "_law_spots" = true) (k21 : PySem.W.keepIn K (.ref f21) = true)
    {f22 : Addr} {od22 an22 : Option Addr} {sl22 : Array (Option Value)} {oc22 kV22 dc22 pm22 cd22 ct22 : Value}
    (a22 : PySem.W.nsIn K mainGlobals "_law_ordered" = some (some (.ref f22))) (l22 : K.lookup f22 = some ⟨oc22, od22, .func (PySem.W.fnOf "_law_ordered" "_law_ordered" (defArgs s_law_ordered) (defBody s_law_ordered) (defScope s_law_ordered) .none kV22 dc22 pm22 an22 cd22 ct22), sl22⟩) (c22 : PySem.W.codeIn K cd22 "_law_ordered" = true) (k22 : PySem.W.keepIn K (.ref f22) = true)
    {f23 : Addr} {od23 an23 : Option Addr} {sl23 : Array (Option Value)} {oc23 kV23 dc23 pm23 cd23 ct23 : Value}
    (a23 : PySem.W.nsIn K mainGlobals "plan_order" = some (some (.ref f23))) (l23 : K.lookup f23 = some ⟨oc23, od23, .func (PySem.W.fnOf "plan_order" "plan_order" (defArgs s_plan_order) (defBody s_plan_order) (defScope s_plan_order) .none kV23 dc23 pm23 an23 cd23 ct23), sl23⟩) (c23 : PySem.W.codeIn K cd23 "plan_order" = true) (k23 : PySem.W.keepIn K (.ref f23) = true)
    {f24 : Addr} {od24 an24 : Option Addr} {sl24 : Array (Option Value)} {oc24 kV24 dc24 pm24 cd24 ct24 : Value}
    (a24 : PySem.W.nsIn K mainGlobals "_law_column" = some (some (.ref f24))) (l24 : K.lookup f24 = some ⟨oc24, od24, .func (PySem.W.fnOf "_law_column" "_law_column" (defArgs s_law_column) (defBody s_law_column) (defScope s_law_column) .none kV24 dc24 pm24 an24 cd24 ct24), sl24⟩) (c24 : PySem.W.codeIn K cd24 "_law_column" = true) (k24 : PySem.W.keepIn K (.ref f24) = true)
    {f25 : Addr} {od25 an25 : Option Addr} {sl25 : Array (Option Value)} {oc25 kV25 dc25 pm25 cd25 ct25 : Value}
    (a25 : PySem.W.nsIn K mainGlobals "_law_related" = some (some (.ref f25))) (l25 : K.lookup f25 = some ⟨oc25, od25, .func (PySem.W.fnOf "_law_related" "_law_related" (defArgs s_law_related) (defBody s_law_related) (defScope s_law_related) .none kV25 dc25 pm25 an25 cd25 ct25), sl25⟩) (c25 : PySem.W.codeIn K cd25 "_law_related" = true) (k25 : PySem.W.keepIn K (.ref f25) = true)
    {f26 : Addr} {od26 an26 : Option Addr} {sl26 : Array (Option Value)} {oc26 kV26 dc26 pm26 cd26 ct26 : Value}
    (a26 : PySem.W.nsIn K mainGlobals "_law_columns" = some (some (.ref f26))) (l26 : K.lookup f26 = some ⟨oc26, od26, .func (PySem.W.fnOf "_law_columns" "_law_columns" (defArgs s_law_columns) (defBody s_law_columns) (defScope s_law_columns) .none kV26 dc26 pm26 an26 cd26 ct26), sl26⟩) (c26 : PySem.W.codeIn K cd26 "_law_columns" = true) (k26 : PySem.W.keepIn K (.ref f26) = true)
    {f27 : Addr} {od27 an27 : Option Addr} {sl27 : Array (Option Value)} {oc27 kV27 dc27 pm27 cd27 ct27 : Value}
    (a27 : PySem.W.nsIn K mainGlobals "_law_table" = some (some (.ref f27))) (l27 : K.lookup f27 = some ⟨oc27, od27, .func (PySem.W.fnOf "_law_table" "_law_table" (defArgs s_law_table) (defBody s_law_table) (defScope s_law_table) .none kV27 dc27 pm27 an27 cd27 ct27), sl27⟩) (c27 : PySem.W.codeIn K cd27 "_law_table" = true) (k27 : PySem.W.keepIn K (.ref f27) = true)
    {f28 : Addr} {od28 an28 : Option Addr} {sl28 : Array (Option Value)} {oc28 kV28 dc28 pm28 cd28 ct28 : Value}
    (a28 : PySem.W.nsIn K mainGlobals "_law_small" = some (some (.ref f28))) (l28 : K.lookup f28 = some ⟨oc28, od28, .func (PySem.W.fnOf "_law_small" "_law_small" (defArgs s_law_small) (defBody s_law_small) (defScope s_law_small) .none kV28 dc28 pm28 an28 cd28 ct28), sl28⟩) (c28 : PySem.W.codeIn K cd28 "_law_small" = true) (k28 : PySem.W.keepIn K (.ref f28) = true)
    {f29 : Addr} {od29 an29 : Option Addr} {sl29 : Array (Option Value)} {oc29 kV29 dc29 pm29 cd29 ct29 : Value}
    (a29 : PySem.W.nsIn K mainGlobals "law" = some (some (.ref f29))) (l29 : K.lookup f29 = some ⟨oc29, od29, .func (PySem.W.fnOf "law" "law" (defArgs s_law) (defBody s_law) (defScope s_law) .none kV29 dc29 pm29 an29 cd29 ct29), sl29⟩) (c29 : PySem.W.codeIn K cd29 "law" = true) (k29 : PySem.W.keepIn K (.ref f29) = true)
    (z_abs : PySem.W.nsIn K mainGlobals "abs" = some none)
    (z_bool : PySem.W.nsIn K mainGlobals "bool" = some none)
    (z_enumerate : PySem.W.nsIn K mainGlobals "enumerate" = some none)
    (z_int : PySem.W.nsIn K mainGlobals "int" = some none)
    (z_isinstance : PySem.W.nsIn K mainGlobals "isinstance" = some none)
    (z_len : PySem.W.nsIn K mainGlobals "len" = some none)
    (z_list : PySem.W.nsIn K mainGlobals "list" = some none)
    (z_max : PySem.W.nsIn K mainGlobals "max" = some none)
    (z_range : PySem.W.nsIn K mainGlobals "range" = some none)
    (z_sorted : PySem.W.nsIn K mainGlobals "sorted" = some none)
    (z_str : PySem.W.nsIn K mainGlobals "str" = some none)
    (z_tuple : PySem.W.nsIn K mainGlobals "tuple" = some none)
    (z_zip : PySem.W.nsIn K mainGlobals "zip" = some none)
    {kc_KINDS : Addr} {ks_KINDS : Array (Option Value)} {kn_KINDS : Nat} {kt0_KINDS : Tok} {kt1_KINDS : Tok} {kt2_KINDS : Tok} {kt3_KINDS : Tok} {kt4_KINDS : Tok}
    (g_KINDS : PySem.W.nsIn K mainGlobals "KINDS" = some (some (.ref kc_KINDS)))
    (lk_KINDS : K.lookup kc_KINDS = some ⟨.type "tuple", none, .seq #[.str "frame" kt0_KINDS, .str "step" kt1_KINDS, .str "dictionary" kt2_KINDS, .str "offset" kt3_KINDS, .str "lookup" kt4_KINDS] kn_KINDS, ks_KINDS⟩)
    {l : PySem.W.OpenLaw} {w : World} {fa : Addr} (hfa : mg "law" = some (.ref fa)) :
    ∃ fd : FuncData, (∀ (s : Shared) (v : Value), BindsTo s fd ⟨[v], []⟩ [("script", v)]) ∧ ∀ base : Heap, K.In base → base.Ns mainGlobals mg → FnOk l.prog w K mg base CX0 10 fa fd ["script"] (spD K false false [false] G_law) := by
  have e := hfa.symm.trans (PySem.W.mg_of X G a29)
  cases e
  have F0 := fun_mk (st := s_reference_key) l0 c0 k0
  have b0 := F0.binds (ps := P_reference_key) fun _ _ _ _ _ _ us hl => match us, hl with | [_], _ => rfl
  have F1 := fun_mk (st := s_path_from) l1 c1 k1
  have b1 := F1.binds (ps := P_path_from) fun _ _ _ _ _ _ us hl => match us, hl with | [_, _], _ => rfl
  have F2 := fun_mk (st := s_place_of) l2 c2 k2
  have b2 := F2.binds (ps := P_place_of) fun _ _ _ _ _ _ us hl => match us, hl with | [_, _], _ => rfl
  have F3 := fun_mk (st := s_law_tape) l3 c3 k3
  have b3 := F3.binds (ps := P_law_tape) fun _ _ _ _ _ _ us hl => match us, hl with | [_], _ => rfl
  have F4 := fun_mk (st := s_law_draw) l4 c4 k4
  have b4 := F4.binds (ps := P_law_draw) fun _ _ _ _ _ _ us hl => match us, hl with | [_, _], _ => rfl
  have F5 := fun_mk (st := s_law_same) l5 c5 k5
  have b5 := F5.binds (ps := P_law_same) fun _ _ _ _ _ _ us hl => match us, hl with | [_, _], _ => rfl
  have F6 := fun_mk (st := s_law_within) l6 c6 k6
  have b6 := F6.binds (ps := P_law_within) fun _ _ _ _ _ _ us hl => match us, hl with | [_, _], _ => rfl
  have F7 := fun_mk (st := s_law_distinct) l7 c7 k7
  have b7 := F7.binds (ps := P_law_distinct) fun _ _ _ _ _ _ us hl => match us, hl with | [_], _ => rfl
  have F8 := fun_mk (st := s_law_fresh) l8 c8 k8
  have b8 := F8.binds (ps := P_law_fresh) fun _ _ _ _ _ _ us hl => match us, hl with | [_, _, _], _ => rfl
  have F9 := fun_mk (st := s_law_key) l9 c9 k9
  have b9 := F9.binds (ps := P_law_key) fun _ _ _ _ _ _ us hl => match us, hl with | [_, _], _ => rfl
  have F10 := fun_mk (st := s_circle_of) l10 c10 k10
  have b10 := F10.binds (ps := P_circle_of) fun _ _ _ _ _ _ us hl => match us, hl with | [_], _ => rfl
  have F11 := fun_mk (st := s_recipe_key) l11 c11 k11
  have b11 := F11.binds (ps := P_recipe_key) fun _ _ _ _ _ _ us hl => match us, hl with | [_], _ => rfl
  have F12 := fun_mk (st := s_law_pick) l12 c12 k12
  have b12 := F12.binds (ps := P_law_pick) fun _ _ _ _ _ _ us hl => match us, hl with | [_, _], _ => rfl
  have F13 := fun_mk (st := s_law_any) l13 c13 k13
  have b13 := F13.binds (ps := P_law_any) fun _ _ _ _ _ _ us hl => match us, hl with | [_], _ => rfl
  have F14 := fun_mk (st := s_law_shuffled) l14 c14 k14
  have b14 := F14.binds (ps := P_law_shuffled) fun _ _ _ _ _ _ us hl => match us, hl with | [_, _], _ => rfl
  have F15 := fun_mk (st := s_choice_of) l15 c15 k15
  have b15 := F15.binds (ps := P_choice_of) fun _ _ _ _ _ _ us hl => match us, hl with | [_, _], _ => rfl
  have F16 := fun_mk (st := s_law_number) l16 c16 k16
  have b16 := F16.binds (ps := P_law_number) fun _ _ _ _ _ _ us hl => match us, hl with | [_], _ => rfl
  have F17 := fun_mk (st := s_law_names) l17 c17 k17
  have b17 := F17.binds (ps := P_law_names) fun _ _ _ _ _ _ us hl => match us, hl with | [_, _], _ => rfl
  have F18 := fun_mk (st := s_law_labels) l18 c18 k18
  have b18 := F18.binds (ps := P_law_labels) fun _ _ _ _ _ _ us hl => match us, hl with | [_], _ => rfl
  have F19 := fun_mk (st := s_law_recipe) l19 c19 k19
  have b19 := F19.binds (ps := P_law_recipe) fun _ _ _ _ _ _ us hl => match us, hl with | [_, _, _], _ => rfl
  have F20 := fun_mk (st := s_sort_keys) l20 c20 k20
  have b20 := F20.binds (ps := P_sort_keys) fun _ _ _ _ _ _ us hl => match us, hl with | [_, _], _ => rfl
  have F21 := fun_mk (st := s_law_spots) l21 c21 k21
  have b21 := F21.binds (ps := P_law_spots) fun _ _ _ _ _ _ us hl => match us, hl with | [_, _, _, _], _ => rfl
  have F22 := fun_mk (st := s_law_ordered) l22 c22 k22
  have b22 := F22.binds (ps := P_law_ordered) fun _ _ _ _ _ _ us hl => match us, hl with | [_, _, _], _ => rfl
  have F23 := fun_mk (st := s_plan_order) l23 c23 k23
  have b23 := F23.binds (ps := P_plan_order) fun _ _ _ _ _ _ us hl => match us, hl with | [_, _, _], _ => rfl
  have F24 := fun_mk (st := s_law_column) l24 c24 k24
  have b24 := F24.binds (ps := P_law_column) fun _ _ _ _ _ _ us hl => match us, hl with | [_, _, _], _ => rfl
  have F25 := fun_mk (st := s_law_related) l25 c25 k25
  have b25 := F25.binds (ps := P_law_related) fun _ _ _ _ _ _ us hl => match us, hl with | [_, _, _], _ => rfl
  have F26 := fun_mk (st := s_law_columns) l26 c26 k26
  have b26 := F26.binds (ps := P_law_columns) fun _ _ _ _ _ _ us hl => match us, hl with | [_, _, _, _], _ => rfl
  have F27 := fun_mk (st := s_law_table) l27 c27 k27
  have b27 := F27.binds (ps := P_law_table) fun _ _ _ _ _ _ us hl => match us, hl with | [_, _, _, _], _ => rfl
  have F28 := fun_mk (st := s_law_small) l28 c28 k28
  have b28 := F28.binds (ps := P_law_small) fun _ _ _ _ _ _ us hl => match us, hl with | [_, _], _ => rfl
  have F29 := fun_mk (st := s_law) l29 c29 k29
  have b29 := F29.binds (ps := P_law) fun _ _ _ _ _ _ us hl => match us, hl with | [_], _ => rfl
  exact ⟨_, fun s v => .of_eq rfl, fun base _ _ => ok_law (T := {
    f_reference_key := f0, fd_reference_key := _, F_reference_key := F0, m_reference_key := PySem.W.mg_of X G a0, b_reference_key := b0,
    f_path_from := f1, fd_path_from := _, F_path_from := F1, m_path_from := PySem.W.mg_of X G a1, b_path_from := b1,
    f_place_of := f2, fd_place_of := _, F_place_of := F2, m_place_of := PySem.W.mg_of X G a2, b_place_of := b2,
    f_law_tape := f3, fd_law_tape := _, F_law_tape := F3, m_law_tape := PySem.W.mg_of X G a3, b_law_tape := b3,
    f_law_draw := f4, fd_law_draw := _, F_law_draw := F4, m_law_draw := PySem.W.mg_of X G a4, b_law_draw := b4,
    f_law_same := f5, fd_law_same := _, F_law_same := F5, m_law_same := PySem.W.mg_of X G a5, b_law_same := b5,
    f_law_within := f6, fd_law_within := _, F_law_within := F6, m_law_within := PySem.W.mg_of X G a6, b_law_within := b6,
    f_law_distinct := f7, fd_law_distinct := _, F_law_distinct := F7, m_law_distinct := PySem.W.mg_of X G a7, b_law_distinct := b7,
    f_law_fresh := f8, fd_law_fresh := _, F_law_fresh := F8, m_law_fresh := PySem.W.mg_of X G a8, b_law_fresh := b8,
    f_law_key := f9, fd_law_key := _, F_law_key := F9, m_law_key := PySem.W.mg_of X G a9, b_law_key := b9,
    f_circle_of := f10, fd_circle_of := _, F_circle_of := F10, m_circle_of := PySem.W.mg_of X G a10, b_circle_of := b10,
    f_recipe_key := f11, fd_recipe_key := _, F_recipe_key := F11, m_recipe_key := PySem.W.mg_of X G a11, b_recipe_key := b11,
    f_law_pick := f12, fd_law_pick := _, F_law_pick := F12, m_law_pick := PySem.W.mg_of X G a12, b_law_pick := b12,
    f_law_any := f13, fd_law_any := _, F_law_any := F13, m_law_any := PySem.W.mg_of X G a13, b_law_any := b13,
    f_law_shuffled := f14, fd_law_shuffled := _, F_law_shuffled := F14, m_law_shuffled := PySem.W.mg_of X G a14, b_law_shuffled := b14,
    f_choice_of := f15, fd_choice_of := _, F_choice_of := F15, m_choice_of := PySem.W.mg_of X G a15, b_choice_of := b15,
    f_law_number := f16, fd_law_number := _, F_law_number := F16, m_law_number := PySem.W.mg_of X G a16, b_law_number := b16,
    f_law_names := f17, fd_law_names := _, F_law_names := F17, m_law_names := PySem.W.mg_of X G a17, b_law_names := b17,
    f_law_labels := f18, fd_law_labels := _, F_law_labels := F18, m_law_labels := PySem.W.mg_of X G a18, b_law_labels := b18,
    f_law_recipe := f19, fd_law_recipe := _, F_law_recipe := F19, m_law_recipe := PySem.W.mg_of X G a19, b_law_recipe := b19,
    f_sort_keys := f20, fd_sort_keys := _, F_sort_keys := F20, m_sort_keys := PySem.W.mg_of X G a20, b_sort_keys := b20,
    f_law_spots := f21, fd_law_spots := _, F_law_spots := F21, m_law_spots := PySem.W.mg_of X G a21, b_law_spots := b21,
    f_law_ordered := f22, fd_law_ordered := _, F_law_ordered := F22, m_law_ordered := PySem.W.mg_of X G a22, b_law_ordered := b22,
    f_plan_order := f23, fd_plan_order := _, F_plan_order := F23, m_plan_order := PySem.W.mg_of X G a23, b_plan_order := b23,
    f_law_column := f24, fd_law_column := _, F_law_column := F24, m_law_column := PySem.W.mg_of X G a24, b_law_column := b24,
    f_law_related := f25, fd_law_related := _, F_law_related := F25, m_law_related := PySem.W.mg_of X G a25, b_law_related := b25,
    f_law_columns := f26, fd_law_columns := _, F_law_columns := F26, m_law_columns := PySem.W.mg_of X G a26, b_law_columns := b26,
    f_law_table := f27, fd_law_table := _, F_law_table := F27, m_law_table := PySem.W.mg_of X G a27, b_law_table := b27,
    f_law_small := f28, fd_law_small := _, F_law_small := F28, m_law_small := PySem.W.mg_of X G a28, b_law_small := b28,
    f_law := f29, fd_law := _, F_law := F29, m_law := PySem.W.mg_of X G a29, b_law := b29,
    z_abs := PySem.W.mg_none_of X G z_abs,
    z_bool := PySem.W.mg_none_of X G z_bool,
    z_enumerate := PySem.W.mg_none_of X G z_enumerate,
    z_int := PySem.W.mg_none_of X G z_int,
    z_isinstance := PySem.W.mg_none_of X G z_isinstance,
    z_len := PySem.W.mg_none_of X G z_len,
    z_list := PySem.W.mg_none_of X G z_list,
    z_max := PySem.W.mg_none_of X G z_max,
    z_range := PySem.W.mg_none_of X G z_range,
    z_sorted := PySem.W.mg_none_of X G z_sorted,
    z_str := PySem.W.mg_none_of X G z_str,
    z_tuple := PySem.W.mg_none_of X G z_tuple,
    z_zip := PySem.W.mg_none_of X G z_zip,
    kc_KINDS := kc_KINDS, cd_KINDS := ⟨_, _, _, lk_KINDS, rfl, rfl, rfl, (show 5 ≤ sizeLine by decide), (.cons ⟨_, rfl⟩ (.cons ⟨_, rfl⟩ (.cons ⟨_, rfl⟩ (.cons ⟨_, rfl⟩ (.cons ⟨_, rfl⟩ .nil)))))⟩,
    g_KINDS := PySem.W.mg_of X G g_KINDS })⟩
end LK

set_option maxRecDepth 100000
set_option autoImplicit false
set_option linter.all false
namespace WM
open DL
/-! windows over ints: mathematics alone -/
def cov (xs : List Int) (s W : Int) : Nat := (xs.filter fun x => decide (s ≤ x) && decide (x < s + W)).length
def below (xs : List Int) (b : Int) : Nat := (xs.filter fun x => decide (x < b)).length
theorem cov_below {W : Int} (h : 0 < W) (s : Int) : ∀ xs : List Int, cov xs s W + below xs s = below xs (s + W)
  | [] => rfl
  | x :: xs => by
    have ih := cov_below h s xs
    simp only [cov, below] at ih ⊢
    by_cases h1 : s ≤ x
    · by_cases h2 : x < s + W
      · rw [List.filter_cons_of_pos (by simp [h1, h2]), List.filter_cons_of_neg (by simp; omega), List.filter_cons_of_pos (by simp [h2])]
        simp only [List.length_cons]; omega
      · rw [List.filter_cons_of_neg (by simp [h2]), List.filter_cons_of_neg (by simp; omega), List.filter_cons_of_neg (by simp; omega)]
        omega
    · rw [List.filter_cons_of_neg (by simp [h1]), List.filter_cons_of_pos (by simp; omega), List.filter_cons_of_pos (by simp; omega)]
      simp only [List.length_cons]; omega
theorem cov_perm {xs ys : List Int} (h : xs.Perm ys) (s W : Int) : cov xs s W = cov ys s W := (h.filter _).length_eq
theorem below_perm {xs ys : List Int} (h : xs.Perm ys) (b : Int) : below xs b = below ys b := (h.filter _).length_eq
theorem cov_le (xs : List Int) (s W : Int) : cov xs s W ≤ xs.length := List.length_filter_le _ _
theorem below_le (xs : List Int) (b : Int) : below xs b ≤ xs.length := List.length_filter_le _ _
theorem pw_pos (n : Nat) : (0 : Int) < 2 ^ n := Int.pow_pos (by decide)
theorem below_mono (l : List Int) {b c : Int} (h : b ≤ c) : below l b ≤ below l c := by
  unfold below
  rw [← List.countP_eq_length_filter, ← List.countP_eq_length_filter]
  exact List.countP_mono_left fun x _ hx => by simp at hx ⊢; omega
theorem cov_pos {xs : List Int} {x W : Int} (hx : x ∈ xs) (h : 0 < W) : 0 < cov xs x W := List.length_pos_of_mem (a := x) (List.mem_filter.mpr ⟨hx, by simp; omega⟩)
theorem below_sorted {b : Int} : ∀ {ys : List Int}, ys.Pairwise (· ≤ ·) → ∀ (j : Nat) (hj : j < ys.length), ys[j] < b ↔ j < below ys b
  | [], _, j, hj => absurd hj (by simp)
  | y :: ys, hs, j, hj => by
    have h1 := List.pairwise_cons.mp hs
    unfold below
    by_cases hy : y < b
    · rw [List.filter_cons_of_pos (by simpa using hy)]
      cases j with
      | zero => simp [hy]
      | succ j =>
        have := below_sorted (b := b) h1.2 j (by simpa using hj)
        simp only [List.getElem_cons_succ, List.length_cons]
        rw [this]; unfold below; omega
    · have hall : ∀ x ∈ y :: ys, ¬ x < b := fun x hx => by
        rcases List.mem_cons.mp hx with rfl | hx
        · exact hy
        · have := h1.1 x hx; omega
      rw [List.filter_eq_nil_iff.mpr (fun x hx => by simpa using hall x hx)]
      have := hall _ (List.getElem_mem hj)
      constructor
      · intro q; exact absurd q this
      · intro q; simp at q
def mx (f : Int → Nat) : List Int → Nat
  | [] => 0
  | x :: l => max (f x) (mx f l)
theorem mx_le {f : Int → Nat} : ∀ {l : List Int} {x : Int}, x ∈ l → f x ≤ mx f l
  | y :: l, x, h => by
    simp only [mx]
    rcases List.mem_cons.mp h with rfl | h
    · omega
    · have := mx_le (f := f) h; omega
theorem mx_att {f : Int → Nat} : ∀ {l : List Int}, l ≠ [] → ∃ x ∈ l, f x = mx f l
  | [], h => absurd rfl h
  | [y], _ => ⟨y, by simp, by simp [mx]⟩
  | y :: z :: l, _ => by
    obtain ⟨x, hx, e⟩ := mx_att (f := f) (l := z :: l) (by simp)
    by_cases h : mx f (z :: l) ≤ f y
    · exact ⟨y, by simp, by rw [mx]; omega⟩
    · exact ⟨x, List.mem_cons_of_mem _ hx, by rw [mx, e]; omega⟩
theorem mx_uniq {f : Int → Nat} {l : List Int} {m : Nat} (h : ∀ x ∈ l, f x ≤ m) (h2 : (l = [] ∧ m = 0) ∨ ∃ x ∈ l, f x = m) : mx f l = m := by
  rcases h2 with ⟨rfl, rfl⟩ | ⟨x, hx, e⟩
  · rfl
  · obtain ⟨y, hy, ey⟩ := mx_att (f := f) (List.ne_nil_of_mem hx)
    have h1 := mx_le (f := f) hx
    have h3 := h y hy
    omega
theorem mx_perm {f : Int → Nat} {l m : List Int} (h : l.Perm m) : mx f l = mx f m := by
  cases m with
  | nil => rw [List.Perm.eq_nil h]
  | cons y m =>
    obtain ⟨x, hx, e⟩ := mx_att (f := f) (l := y :: m) (by simp)
    exact mx_uniq (fun z hz => mx_le (h.mem_iff.mp hz)) (.inr ⟨x, h.mem_iff.mpr hx, e⟩)
theorem mx_congr {f g : Int → Nat} : ∀ {l : List Int}, (∀ x ∈ l, f x = g x) → mx f l = mx g l
  | [], _ => rfl
  | x :: l, h => by rw [mx, mx, h x (by simp), mx_congr fun y hy => h y (List.mem_cons_of_mem _ hy)]
/-- the cover -/
def cover (xs : List Int) (W : Int) : Nat := mx (fun x => cov xs x W) xs
theorem cover_perm {xs ys : List Int} (h : xs.Perm ys) (W : Int) : cover xs W = cover ys W := by
  unfold cover
  rw [mx_perm h, mx_congr fun x _ => cov_perm h x W]
theorem cover_le {xs : List Int} {x : Int} (W : Int) (h : x ∈ xs) : cov xs x W ≤ cover xs W := mx_le (f := fun x => cov xs x W) h
theorem cover_len (xs : List Int) (W : Int) : cover xs W ≤ xs.length := by
  cases xs with
  | nil => exact Nat.le_refl _
  | cons y l =>
    obtain ⟨x, _, e⟩ := mx_att (f := fun x => cov (y :: l) x W) (l := y :: l) (by simp)
    unfold cover
    rw [← e]; exact cov_le _ _ _
/-! the first that has the most -/
theorem best_fold (f : Int → Nat) : ∀ (l : List Int) (b0 : Int) (m0 : Nat), l.foldl (fun (bm : Int × Nat) x => if bm.2 < f x then (x, f x) else bm) (b0, m0) = if m0 < mx f l then ((l.find? fun x => decide (f x = mx f l)).getD 0, mx f l) else (b0, m0)
  | [], b0, m0 => by simp [mx]
  | x :: l, b0, m0 => by
    rw [List.foldl_cons]
    by_cases h : m0 < f x
    · rw [if_pos h, best_fold f l]
      rw [if_pos (show m0 < mx f (x :: l) by rw [mx]; omega)]
      by_cases h2 : f x < mx f l
      · rw [if_pos h2]
        have e : mx f (x :: l) = mx f l := by rw [mx]; omega
        rw [e, List.find?_cons_of_neg (by simp; omega)]
      · rw [if_neg h2]
        have e : mx f (x :: l) = f x := by rw [mx]; omega
        rw [e, List.find?_cons_of_pos (by simp)]; rfl
    · rw [if_neg h, best_fold f l]
      by_cases h2 : m0 < mx f l
      · have e : mx f (x :: l) = mx f l := by rw [mx]; omega
        rw [if_pos h2, e, if_pos h2, List.find?_cons_of_neg (by simp; omega)]
      · rw [if_neg h2, if_neg (by rw [mx]; omega)]
/-! the different ones -/
def dd : Option Int → List Int → List Int
  | _, [] => []
  | p, x :: l => if p = some x then dd p l else x :: dd (some x) l
theorem dd_mem : ∀ {l : List Int} {p : Option Int} {x : Int}, x ∈ dd p l → x ∈ l
  | [], _, _, h => by simp [dd] at h
  | y :: l, p, x, h => by
    unfold dd at h
    by_cases q : p = some y
    · rw [if_pos q] at h; exact List.mem_cons_of_mem _ (dd_mem h)
    · rw [if_neg q] at h
      rcases List.mem_cons.mp h with rfl | h
      · exact List.mem_cons_self
      · exact List.mem_cons_of_mem _ (dd_mem h)
theorem dd_mem' : ∀ {l : List Int} {p : Option Int} {x : Int}, x ∈ l → some x ≠ p → x ∈ dd p l
  | y :: l, p, x, h, hp => by
    unfold dd
    by_cases q : p = some y
    · rw [if_pos q]
      rcases List.mem_cons.mp h with rfl | h
      · exact absurd q.symm hp
      · exact dd_mem' h hp
    · rw [if_neg q]
      rcases List.mem_cons.mp h with rfl | h
      · exact List.mem_cons_self
      · by_cases e : x = y
        · subst e; exact List.mem_cons_self
        · exact List.mem_cons_of_mem _ (dd_mem' h fun z => e (Option.some.inj z))
theorem dd_find (g : Int → Bool) : ∀ (l : List Int) (p : Option Int), (∀ x, p = some x → g x = false) → (dd p l).find? g = l.find? g
  | [], _, _ => rfl
  | y :: l, p, hp => by
    unfold dd
    by_cases q : p = some y
    · rw [if_pos q, dd_find g l p hp, List.find?_cons_of_neg (by rw [hp y q]; decide)]
    · rw [if_neg q]
      cases hg : g y with
      | true => rw [List.find?_cons_of_pos hg, List.find?_cons_of_pos hg]
      | false => rw [List.find?_cons_of_neg (by rw [hg]; decide), List.find?_cons_of_neg (by rw [hg]; decide), dd_find g l (some y) fun x e => by cases e; exact hg]
theorem dd_len : ∀ (l : List Int) (p : Option Int), (dd p l).length ≤ l.length
  | [], _ => Nat.le_refl _
  | y :: l, p => by
    unfold dd
    by_cases q : p = some y
    · rw [if_pos q]; have := dd_len l p; simp; omega
    · rw [if_neg q]; have := dd_len l (some y); simp; omega
theorem dd_strict : ∀ (l : List Int) (p : Option Int), l.Pairwise (· ≤ ·) → (∀ q, p = some q → ∀ x ∈ l, q ≤ x) → (dd p l).Pairwise (· < ·) ∧ ∀ q, p = some q → ∀ x ∈ dd p l, q < x
  | [], _, _, _ => ⟨.nil, fun _ _ _ h => by simp [dd] at h⟩
  | y :: l, p, hs, hp => by
    have h1 := List.pairwise_cons.mp hs
    unfold dd
    by_cases q : p = some y
    · rw [if_pos q]
      exact dd_strict l p h1.2 fun a e x hx => hp a e x (List.mem_cons_of_mem _ hx)
    · rw [if_neg q]
      obtain ⟨a1, a2⟩ := dd_strict l (some y) h1.2 fun a e x hx => by cases e; exact h1.1 x hx
      refine ⟨List.pairwise_cons.mpr ⟨a2 y rfl, a1⟩, fun a e x hx => ?_⟩
      have hay : a < y := by
        have := hp a e y List.mem_cons_self
        have : a ≠ y := fun z => q (z ▸ e)
        omega
      rcases List.mem_cons.mp hx with rfl | hx
      · exact hay
      · have := a2 y rfl x hx; omega
/-! the reaches of a sorted list -/
def reachL (ys : List Int) (W : Int) : List Int := ys.zipIdx.map fun q => (below ys (q.1 + W) : Int) - (q.2 : Nat)
theorem reachL_len (ys : List Int) (W : Int) : (reachL ys W).length = ys.length := by simp [reachL]
theorem reachL_get (ys : List Int) (W : Int) (i : Nat) (h : i < ys.length) : (reachL ys W)[i]'(by rw [reachL_len]; exact h) = (below ys (ys[i] + W) : Int) - (i : Nat) := by
  simp [reachL]
theorem below_self {ys : List Int} (hs : ys.Pairwise (· ≤ ·)) (i : Nat) (h : i < ys.length) : below ys ys[i] ≤ i := Nat.not_lt.mp fun q => Int.lt_irrefl _ ((below_sorted (b := ys[i]) hs i h).mpr q)
theorem reach_cov {ys : List Int} {W : Int} (hW : 0 < W) (i : Nat) (h : i < ys.length) : (below ys (ys[i] + W) : Int) - (i : Nat) = cov ys ys[i] W + below ys ys[i] - (i : Nat) := by
  have := cov_below hW ys[i] ys
  omega
theorem reach_max {ys : List Int} {W : Int} (hW : 0 < W) (hs : ys.Pairwise (· ≤ ·)) : ((reachL ys W).max?).getD 0 = (cover ys W : Int) := by
  cases hy : ys with
  | nil => rfl
  | cons y l =>
    rw [← hy]
    have hne : ys ≠ [] := by rw [hy]; simp
    obtain ⟨x, hx, e⟩ := mx_att (f := fun x => cov ys x W) hne
    have hm : (reachL ys W).max? = some (cover ys W : Int) := by
      refine List.max?_eq_some_iff.mpr ⟨?_, fun r hr => ?_⟩
      · obtain ⟨j, hj, ej⟩ := List.getElem_of_mem hx
        have hb : below ys x ≤ j := by rw [← ej]; exact below_self hs j hj
        have hi : below ys x < ys.length := by omega
        have h1 : ¬ ys[below ys x] < x := fun q => Nat.lt_irrefl _ ((below_sorted hs _ hi).mp q)
        have h2 : ys[below ys x] ≤ ys[j] := by
          rcases Nat.lt_or_ge (below ys x) j with q | q
          · exact List.pairwise_iff_getElem.mp hs _ _ hi hj q
          · have : below ys x = j := by omega
            exact Int.le_of_eq (by simp only [this])
        have h3 : ys[below ys x] = x := by omega
        refine List.mem_of_getElem (i := below ys x) (h := by rw [reachL_len]; exact hi) ?_
        rw [reachL_get ys W _ hi, reach_cov hW _ hi, h3]
        show _ = ((mx (fun x => cov ys x W) ys : Nat) : Int)
        rw [← e]
        omega
      · obtain ⟨i, hi, ei⟩ := List.getElem_of_mem hr
        rw [reachL_len] at hi
        rw [reachL_get ys W i hi, reach_cov hW i hi] at ei
        have := below_self hs i hi
        have := cover_le (xs := ys) W (List.getElem_mem hi)
        omega
    rw [hm]; rfl
theorem zip_zipIdx {β : Type} (f : Int × Nat → β) : ∀ (ys : List Int) (k : Nat), ys.zip ((ys.zipIdx k).map f) = (ys.zipIdx k).map fun q => (q.1, f q)
  | [], _ => rfl
  | y :: ys, k => by
    rw [List.zipIdx_cons, List.map_cons, List.zip_cons_cons, zip_zipIdx f ys, List.map_cons]
theorem starts_suf {ys : List Int} {W : Int} (hW : 0 < W) (hs : ys.Pairwise (· ≤ ·)) (m : Int) (hm : ∀ x ∈ ys, (cov ys x W : Int) ≤ m) : ∀ (suf pre : List Int), ys = pre ++ suf →
    ((suf.zipIdx pre.length).filter fun q => decide ((below ys (q.1 + W) : Int) - (q.2 : Nat) = m)).map (·.1) = (dd pre.getLast? suf).filter fun x => decide ((cov ys x W : Int) = m)
  | [], _, _ => rfl
  | y :: suf, pre, e => by
    have hi : pre.length < ys.length := by rw [e]; simp
    have hy : ys[pre.length] = y := by simp [e]
    have ih := starts_suf hW hs m hm suf (pre ++ [y]) (by rw [e]; simp)
    rw [List.length_append, List.length_singleton, List.getLast?_concat] at ih
    have hc := reach_cov hW pre.length hi
    rw [hy] at hc
    rw [List.zipIdx_cons]
    unfold dd
    by_cases q : pre.getLast? = some y
    · rw [if_pos q, q]
      have hlt : below ys y < pre.length := by
        obtain ⟨p0, rfl⟩ : ∃ p0, pre = p0 ++ [y] := List.getLast?_eq_some_iff.mp q
        have h2 : ys[p0.length]'(by rw [e]; simp) = y := by simp [e]
        have := below_self hs p0.length (by rw [e]; simp)
        rw [h2] at this
        simp; omega
      have hle := hm y (by rw [e]; simp)
      rw [List.filter_cons_of_neg (by simp only [decide_eq_true_eq]; omega)]
      exact ih
    · rw [if_neg q]
      have hge : pre.length ≤ below ys y := by
        cases hp : pre with
        | nil => exact Nat.zero_le _
        | cons a l =>
          have hne : pre ≠ [] := by rw [hp]; simp
          have hl : 0 < pre.length := List.length_pos_iff.mpr hne
          have hi1 : pre.length - 1 < ys.length := by omega
          have h1 : ys[pre.length - 1] ≤ ys[pre.length] := List.pairwise_iff_getElem.mp hs _ _ hi1 hi (by omega)
          have h2 : ys[pre.length - 1] ≠ y := fun z => q (by
            rw [List.getLast?_eq_getElem?, List.getElem?_eq_getElem (by omega)]
            congr 1
            rw [← z]
            simp [e, List.getElem_append_left (show pre.length - 1 < pre.length by omega)])
          rw [hy] at h1
          have h3 := (below_sorted (b := y) hs _ hi1).mp (by omega)
          rw [hp] at h3 hl
          omega
      have hle : below ys y ≤ pre.length := by have := below_self hs _ hi; rw [hy] at this; exact this
      have heq : ((below ys (y + W) : Int) - (pre.length : Nat) = m) ↔ ((cov ys y W : Int) = m) := by omega
      by_cases hq : (cov ys y W : Int) = m
      · rw [List.filter_cons_of_pos (by simpa using heq.mpr hq), List.filter_cons_of_pos (by simpa using hq), List.map_cons, ih]
      · rw [List.filter_cons_of_neg (by simpa using fun z => hq (heq.mp z)), List.filter_cons_of_neg (by simpa using hq), ih]
/-- the starts whose windows cover the most -/
def starts (xs : List Int) (W : Int) : List Int := (dd none (sortI xs)).filter fun x => decide (cov xs x W = cover xs W)
theorem starts_zip {xs : List Int} {W : Int} (hW : 0 < W) : (((sortI xs).zip (reachL (sortI xs) W)).filter fun q => decide (q.2 = (cover xs W : Int))).map (·.1) = starts xs W := by
  have hp := sortI_perm xs
  have hs := sortI_sorted xs
  have h := starts_suf hW hs (cover xs W : Int) (fun x hx => by
    rw [cov_perm hp]
    have := cover_le W (hp.mem_iff.mp hx)
    omega) (sortI xs) [] rfl
  unfold reachL
  rw [zip_zipIdx]
  rw [List.filter_map, List.map_map]
  unfold starts
  have e : (fun x => decide (cov xs x W = cover xs W)) = fun x => decide ((cov (sortI xs) x W : Int) = (cover xs W : Int)) := by
    funext x
    rw [cov_perm hp]
    exact decide_eq_decide.mpr (by omega)
  rw [e]
  exact h
/-- the base -/
def base (xs : List Int) (W : Int) : Int := ((sortI xs).find? fun x => decide (cov xs x W = cover xs W)).getD 0
theorem starts_head (xs : List Int) (W : Int) : (starts xs W).head? = (sortI xs).find? fun x => decide (cov xs x W = cover xs W) := by
  unfold starts
  rw [List.head?_filter, dd_find _ _ _ (fun x e => by cases e)]
theorem base_find {xs : List Int} (W : Int) (h : xs ≠ []) : ∃ b, (sortI xs).find? (fun x => decide (cov xs x W = cover xs W)) = some b ∧ b = base xs W ∧ b ∈ xs ∧ cov xs b W = cover xs W := by
  obtain ⟨x, hx, e⟩ := mx_att (f := fun x => cov xs x W) h
  cases g : (sortI xs).find? fun x => decide (cov xs x W = cover xs W) with
  | none =>
    have := List.find?_eq_none.mp g x ((sortI_perm xs).mem_iff.mpr hx)
    exact absurd (show cov xs x W = cover xs W from e) (by simpa using this)
  | some b =>
    refine ⟨b, rfl, by unfold base; rw [g]; rfl, (sortI_perm xs).mem_iff.mp (List.mem_of_find?_eq_some g), by simpa using List.find?_some g⟩
theorem base_fold {xs : List Int} {W : Int} (hW : 0 < W) : (sortI xs).foldl (fun (bm : Int × Nat) x => if bm.2 < cov xs x W then (x, cov xs x W) else bm) (0, 0) = (base xs W, cover xs W) := by
  rw [best_fold (fun x => cov xs x W)]
  have e : mx (fun x => cov xs x W) (sortI xs) = cover xs W := mx_perm (sortI_perm xs)
  rw [e]
  by_cases h : 0 < cover xs W
  · rw [if_pos h]; rfl
  · rw [if_neg h]
    have hn : xs = [] := by
      cases hx : xs with
      | nil => rfl
      | cons y l =>
        have h1 := cov_pos (xs := xs) (x := y) (by rw [hx]; simp) hW
        have h2 := cover_le (xs := xs) (x := y) W (by rw [hx]; simp)
        omega
    subst hn
    rfl
/-- the places that the window of the base covers -/
def places (xs : List Int) (W : Int) : List Int := ((List.range xs.length).filter fun k => decide (base xs W ≤ xs.getD k 0) && decide (xs.getD k 0 < base xs W + W)).map fun (k : Nat) => (k : Int)
theorem range_zipIdx (g : Int → Bool) (xs : List Int) : ((List.range xs.length).filter fun k => g (xs.getD k 0)).map (fun (k : Nat) => (k : Int)) = ((xs.zipIdx 0).filter fun q => g q.1).map fun q => ((q.2 : Nat) : Int) := by
  have e : List.range xs.length = (xs.zipIdx 0).map (·.2) := by rw [List.zipIdx_map_snd, List.range_eq_range']
  have h : ((List.range xs.length).filter fun k => g (xs.getD k 0)) = ((xs.zipIdx 0).filter fun q => g q.1).map (·.2) := by
    rw [e, List.filter_map]
    congr 1
    apply List.filter_congr
    intro q hq
    have := List.mem_zipIdx' hq
    simp only [Function.comp]
    have h2 : xs.getD q.2 0 = q.1 := by
      rw [List.getD_eq_getElem?_getD, List.getElem?_eq_getElem this.1]
      exact this.2.symm
    rw [h2]
  rw [h, List.map_map]; rfl
theorem places_zip (xs : List Int) (W : Int) : places xs W = ((xs.zipIdx 0).filter fun q => decide (base xs W ≤ q.1) && decide (q.1 < base xs W + W)).map fun q => ((q.2 : Nat) : Int) :=
  range_zipIdx (fun v => decide (base xs W ≤ v) && decide (v < base xs W + W)) xs
theorem starts_len (xs : List Int) (W : Int) : (starts xs W).length ≤ xs.length := by
  have h1 := List.length_filter_le (fun x => decide (cov xs x W = cover xs W)) (dd none (sortI xs))
  have h2 := dd_len (sortI xs) none
  rw [(sortI_perm xs).length_eq] at h2
  unfold starts; omega
theorem places_len (xs : List Int) (W : Int) : (places xs W).length ≤ xs.length := by
  unfold places
  rw [List.length_map]
  have h1 := List.length_filter_le (fun k => decide (base xs W ≤ xs.getD k 0) && decide (xs.getD k 0 < base xs W + W)) (List.range xs.length)
  rw [List.length_range] at h1; omega
theorem cov_base (xs : List Int) (W : Int) : cov xs (base xs W) W = cover xs W := by
  by_cases h : xs = []
  · subst h; rfl
  · obtain ⟨b, _, e, _, h2⟩ := base_find W h
    rw [← e]; exact h2
/-! any window -/
theorem cov_any {W : Int} (xs : List Int) (s : Int) : cov xs s W ≤ cover xs W := by
  by_cases h : cov xs s W = 0
  · omega
  · obtain ⟨y, hy⟩ := List.exists_mem_of_length_pos (show 0 < (xs.filter fun x => decide (s ≤ x) && decide (x < s + W)).length by unfold cov at h; omega)
    obtain ⟨m, hm⟩ : ∃ m, (xs.filter fun x => decide (s ≤ x) && decide (x < s + W)).min? = some m := by
      cases g : (xs.filter fun x => decide (s ≤ x) && decide (x < s + W)).min? with
      | none => rw [List.min?_eq_none_iff.mp g] at hy; cases hy
      | some m => exact ⟨m, rfl⟩
    have h2 := List.min?_eq_some_iff.mp hm
    have h3 := List.mem_filter.mp h2.1
    simp only [Bool.and_eq_true, decide_eq_true_eq] at h3
    refine Nat.le_trans ?_ (cover_le W h3.1)
    unfold cov
    rw [← List.countP_eq_length_filter, ← List.countP_eq_length_filter]
    refine List.countP_mono_left fun x hx hp => ?_
    have := h2.2 x (List.mem_filter.mpr ⟨hx, hp⟩)
    simp only [Bool.and_eq_true, decide_eq_true_eq] at hp ⊢
    omega
theorem cov_append (xs ys : List Int) (s W : Int) : cov (xs ++ ys) s W = cov xs s W + cov ys s W := by unfold cov; rw [List.filter_append, List.length_append]
theorem cover_att (xs : List Int) (W : Int) : (xs = [] ∧ cover xs W = 0) ∨ ∃ x ∈ xs, cov xs x W = cover xs W := by
  by_cases h : xs = []
  · subst h; exact .inl ⟨rfl, rfl⟩
  · obtain ⟨x, hx, e⟩ := mx_att (f := fun x => cov xs x W) h
    exact .inr ⟨x, hx, e⟩
theorem cover_append_l (xs ys : List Int) (W : Int) : cover xs W ≤ cover (xs ++ ys) W := by
  rcases cover_att xs W with ⟨_, e⟩ | ⟨x, hx, e⟩
  · omega
  · have := cov_any (W := W) (xs ++ ys) x
    rw [cov_append] at this; omega
theorem cover_append_r (xs ys : List Int) (W : Int) : cover ys W ≤ cover (xs ++ ys) W := by
  rcases cover_att ys W with ⟨_, e⟩ | ⟨x, hx, e⟩
  · omega
  · have := cov_any (W := W) (xs ++ ys) x
    rw [cov_append] at this; omega
theorem cover_append_le (xs ys : List Int) (W : Int) : cover (xs ++ ys) W ≤ cover xs W + cover ys W := by
  rcases cover_att (xs ++ ys) W with ⟨_, e⟩ | ⟨x, hx, e⟩
  · omega
  · rw [cov_append] at e
    have h1 := cov_any (W := W) xs x
    have h2 := cov_any (W := W) ys x
    omega
theorem cov_cons (f : Int) (xs : List Int) (s W : Int) : cov (f :: xs) s W = cov xs s W + if s ≤ f ∧ f < s + W then 1 else 0 := by
  unfold cov
  by_cases h : s ≤ f ∧ f < s + W
  · rw [if_pos h, List.filter_cons_of_pos (by simp [h])]; rfl
  · rw [if_neg h, List.filter_cons_of_neg (by simpa using h)]; rfl
/-- one more -/
theorem cover_cons {W : Int} (hW : 0 < W) (f : Int) (xs : List Int) : cover (f :: xs) W = cover xs W + if (∃ s ∈ f :: xs.filter (fun x => decide (x ≤ f) && decide (f < x + W)), cov xs s W = cover xs W) then 1 else 0 := by
  by_cases h : ∃ s ∈ f :: xs.filter (fun x => decide (x ≤ f) && decide (f < x + W)), cov xs s W = cover xs W
  · rw [if_pos h]
    obtain ⟨s, hs, e⟩ := h
    have hw : s ≤ f ∧ f < s + W := by
      rcases List.mem_cons.mp hs with rfl | hs
      · omega
      · have := (List.mem_filter.mp hs).2
        simpa using this
    refine mx_uniq (fun x hx => ?_) (.inr ⟨s, ?_, ?_⟩)
    · show cov (f :: xs) x W ≤ _
      rw [cov_cons]
      have := cov_any (W := W) xs x
      split <;> omega
    · rcases List.mem_cons.mp hs with rfl | hs
      · exact List.mem_cons_self
      · exact List.mem_cons_of_mem _ (List.mem_filter.mp hs).1
    · show cov (f :: xs) s W = _
      rw [cov_cons, if_pos hw, e]
  · rw [if_neg h, Nat.add_zero]
    rcases cover_att xs W with ⟨e0, e⟩ | ⟨y, hy, e⟩
    · exact absurd ⟨f, List.mem_cons_self, by rw [e, e0]; rfl⟩ h
    · have hle : ∀ x, x ∈ f :: xs → cov (f :: xs) x W ≤ cover xs W := fun x hx => by
        rw [cov_cons]
        have h1 := cov_any (W := W) xs x
        by_cases hw : x ≤ f ∧ f < x + W
        · rw [if_pos hw]
          have h2 : cov xs x W ≠ cover xs W := fun z => h ⟨x, by
            rcases List.mem_cons.mp hx with rfl | hx
            · exact List.mem_cons_self
            · exact List.mem_cons_of_mem _ (List.mem_filter.mpr ⟨hx, by simpa using hw⟩), z⟩
          omega
        · rw [if_neg hw]; omega
      refine mx_uniq hle (.inr ⟨y, List.mem_cons_of_mem _ hy, ?_⟩)
      have h1 := hle y (List.mem_cons_of_mem _ hy)
      have h2 := cov_cons f xs y W
      show cov (f :: xs) y W = _
      split at h2 <;> omega
/-! collections that lie close together -/
def Tight (W : Int) (l : List Int) : Prop := ∀ x ∈ l, ∀ y ∈ l, x - y < W
theorem tight_iff {W M m : Int} {l : List Int} (h1 : l.max? = some M) (h2 : l.min? = some m) : M - m < W ↔ Tight W l := by
  have a := List.max?_eq_some_iff.mp h1
  have b := List.min?_eq_some_iff.mp h2
  constructor
  · intro h x hx y hy
    have := a.2 x hx; have := b.2 y hy; omega
  · intro h
    exact h M a.1 m b.1
theorem has_max {l : List Int} (h : l ≠ []) : ∃ M, l.max? = some M := by
  cases g : l.max? with
  | none => exact absurd (List.max?_eq_none_iff.mp g) h
  | some M => exact ⟨M, rfl⟩
theorem has_min {l : List Int} (h : l ≠ []) : ∃ M, l.min? = some M := by
  cases g : l.min? with
  | none => exact absurd (List.min?_eq_none_iff.mp g) h
  | some M => exact ⟨M, rfl⟩
theorem cover_sub {l xs : List Int} (h : l.Sublist xs) (W : Int) : cover l W ≤ cover xs W := by
  rcases cover_att l W with ⟨_, e⟩ | ⟨x, hx, e⟩
  · omega
  · have h1 : cov l x W ≤ cov xs x W := (h.filter _).length_le
    have := cov_any (W := W) xs x
    omega
theorem tight_cover {W : Int} {l : List Int} (h : Tight W l) : l.length ≤ cover l W := by
  by_cases hn : l = []
  · subst hn; exact Nat.zero_le _
  · obtain ⟨m, hm⟩ := has_min hn
    have b := List.min?_eq_some_iff.mp hm
    have e : cov l m W = l.length := by
      unfold cov
      rw [List.filter_eq_self.mpr (fun x hx => by
        have := b.2 x hx
        have := h x hx m b.1
        simp; omega)]
    have := cover_le W b.1
    omega
theorem cov_mono (xs : List Int) (s : Int) {W V : Int} (h : W ≤ V) : cov xs s W ≤ cov xs s V := by
  unfold cov
  rw [← List.countP_eq_length_filter, ← List.countP_eq_length_filter]
  exact List.countP_mono_left fun x _ hx => by simp at hx ⊢; omega
theorem cover_mono (xs : List Int) {W V : Int} (h : W ≤ V) : cover xs W ≤ cover xs V := by
  rcases cover_att xs W with ⟨_, e⟩ | ⟨x, hx, e⟩
  · omega
  · have h1 := cov_mono xs x h
    have := cov_any (W := V) xs x
    omega
theorem cov_twice {W : Int} (hW : 0 < W) (s : Int) : ∀ xs : List Int, cov xs s (W + W) = cov xs s W + cov xs (s + W) W
  | [] => rfl
  | x :: xs => by
    have ih := cov_twice hW s xs
    rw [cov_cons, cov_cons, cov_cons, ih]
    by_cases h1 : s ≤ x ∧ x < s + W
    · rw [if_pos h1, if_pos (by omega), if_neg (by omega)]; omega
    · by_cases h2 : s + W ≤ x ∧ x < s + W + W
      · rw [if_neg h1, if_pos (by omega), if_pos h2]; omega
      · rw [if_neg h1, if_neg (by omega), if_neg h2]; omega
theorem cover_twice {W : Int} (hW : 0 < W) (xs : List Int) : cover xs (W + W) ≤ 2 * cover xs W := by
  rcases cover_att xs (W + W) with ⟨_, e⟩ | ⟨x, hx, e⟩
  · omega
  · rw [cov_twice hW] at e
    have h1 := cov_any (W := W) xs x
    have h2 := cov_any (W := W) xs (x + W)
    omega
theorem cover_full {W : Int} {xs : List Int} (h : Tight W xs) : cover xs W = xs.length := Nat.le_antisymm (cover_len xs W) (tight_cover h)
theorem cover_less {W : Int} {xs : List Int} (hn : xs ≠ []) (h : ¬ Tight W xs) : cover xs W < xs.length := by
  refine Nat.lt_of_le_of_ne (cover_len xs W) fun e => h ?_
  rcases cover_att xs W with ⟨z, _⟩ | ⟨s, _, e2⟩
  · exact absurd z hn
  · rw [e] at e2
    unfold cov at e2
    have hall := List.filter_eq_self.mp (List.Sublist.eq_of_length List.filter_sublist e2)
    intro x hx y hy
    have a := hall x hx
    have b := hall y hy
    simp only [Bool.and_eq_true, decide_eq_true_eq] at a b
    omega
/-- the spread -/
def spr (xs : List Int) : Int := xs.max?.getD 0 - xs.min?.getD 0
theorem spr_tight {xs : List Int} {W : Int} (hn : xs ≠ []) : spr xs < W ↔ Tight W xs := by
  obtain ⟨M, hM⟩ := has_max hn
  obtain ⟨m, hm⟩ := has_min hn
  unfold spr
  rw [hM, hm]
  exact tight_iff hM hm
theorem spr_nonneg (xs : List Int) : 0 ≤ spr xs := by
  by_cases hn : xs = []
  · subst hn; exact Int.le_refl _
  · obtain ⟨M, hM⟩ := has_max hn
    obtain ⟨m, hm⟩ := has_min hn
    unfold spr
    rw [hM, hm]
    have a := List.max?_eq_some_iff.mp hM
    have b := List.min?_eq_some_iff.mp hm
    have := a.2 m b.1
    simp; omega
theorem spr_le {xs : List Int} {B : Int} (hB : 0 ≤ B) (h : ∀ x ∈ xs, -B ≤ x ∧ x ≤ B) : spr xs ≤ 2 * B := by
  by_cases hn : xs = []
  · subst hn; show (0 : Int) - 0 ≤ _; omega
  · obtain ⟨M, hM⟩ := has_max hn
    obtain ⟨m, hm⟩ := has_min hn
    unfold spr
    rw [hM, hm]
    have a := h M (List.max?_eq_some_iff.mp hM).1
    have b := h m (List.min?_eq_some_iff.mp hm).1
    simp; omega
theorem spr_sorted {xs : List Int} (hn : xs ≠ []) : ∃ (a b : Int) (l r : List Int), sortI xs = a :: l ∧ sortI xs = r ++ [b] ∧ spr xs = b - a := by
  have hp := sortI_perm xs
  have hs := sortI_sorted xs
  have hn2 : sortI xs ≠ [] := fun z => hn (by rw [z] at hp; exact (List.nil_perm.mp hp))
  obtain ⟨a, l, e1⟩ := List.exists_cons_of_ne_nil hn2
  have e2 : sortI xs = (sortI xs).dropLast ++ [(sortI xs).getLast hn2] := (List.dropLast_concat_getLast hn2).symm
  refine ⟨a, (sortI xs).getLast hn2, l, (sortI xs).dropLast, e1, e2, ?_⟩
  have hmin : xs.min? = some a := List.min?_eq_some_iff.mpr ⟨hp.mem_iff.mp (by rw [e1]; exact List.mem_cons_self), fun x hx => by
    have hx2 := hp.mem_iff.mpr hx
    rw [e1] at hx2 hs
    rcases List.mem_cons.mp hx2 with rfl | h
    · exact Int.le_refl _
    · exact (List.pairwise_cons.mp hs).1 x h⟩
  have hmax : xs.max? = some ((sortI xs).getLast hn2) := List.max?_eq_some_iff.mpr ⟨hp.mem_iff.mp (List.getLast_mem hn2), fun x hx => by
    have hx2 := hp.mem_iff.mpr hx
    rw [e2] at hx2 hs
    rcases List.mem_append.mp hx2 with h | h
    · exact (List.pairwise_append.mp hs).2.2 x h _ List.mem_cons_self
    · simp at h; omega⟩
  unfold spr
  rw [hmin, hmax]; rfl
theorem places_count (xs : List Int) (W : Int) : (places xs W).length = cover xs W := by
  rw [← cov_base, places_zip, List.length_map]
  have h : (xs.zipIdx 0).map (·.1) = xs := by simp
  unfold cov
  generalize base xs W = b
  conv => rhs; rw [← h, List.filter_map, List.length_map]
  rfl
theorem places_lt (xs : List Int) (W : Int) : (places xs W).Pairwise (· < ·) := by
  unfold places
  refine List.pairwise_map.mpr ((List.Pairwise.filter _ List.pairwise_lt_range).imp fun h => by omega)
theorem places_mem {xs : List Int} {W k : Int} (h : k ∈ places xs W) : 0 ≤ k ∧ k < xs.length ∧ base xs W ≤ xs.getD k.toNat 0 ∧ xs.getD k.toNat 0 < base xs W + W := by
  unfold places at h
  obtain ⟨n, hn, rfl⟩ := List.mem_map.mp h
  have h2 := List.mem_filter.mp hn
  have h3 := List.mem_range.mp h2.1
  have h4 := h2.2
  simp only [Bool.and_eq_true, decide_eq_true_eq] at h4
  exact ⟨by omega, by omega, by simpa using h4.1, by simpa using h4.2⟩
/-! moved, and with all signs changed -/
theorem cov_move (c : Int) (xs : List Int) (s W : Int) : cov (xs.map fun x => x + c) (s + c) W = cov xs s W := by
  unfold cov
  rw [List.filter_map, List.length_map]
  congr 1
  apply List.filter_congr
  intro x _
  simp only [Function.comp]
  congr 1 <;> exact decide_eq_decide.mpr (by omega)
theorem mx_map (g : Int → Int) {f f' : Int → Nat} (h : ∀ x, f' (g x) = f x) : ∀ l : List Int, mx f' (l.map g) = mx f l
  | [] => rfl
  | x :: l => by rw [List.map_cons, mx, mx, h, mx_map g h l]
theorem cover_move (c : Int) (xs : List Int) (W : Int) : cover (xs.map fun x => x + c) W = cover xs W :=
  mx_map (fun x => x + c) (fun x => cov_move c xs x W) xs
theorem sort_move (c : Int) (xs : List Int) : sortI (xs.map fun x => x + c) = (sortI xs).map fun x => x + c :=
  sorted_one ((sortI_perm _).trans ((sortI_perm xs).map _).symm) (sortI_sorted _) (List.pairwise_map.mpr ((sortI_sorted xs).imp fun h => by omega))
theorem dd_move (c : Int) : ∀ (l : List Int) (p : Option Int), dd (p.map fun x => x + c) (l.map fun x => x + c) = (dd p l).map fun x => x + c
  | [], _ => rfl
  | x :: l, p => by
    rw [List.map_cons]
    unfold dd
    have e : (p.map (fun x => x + c) = some (x + c)) ↔ p = some x := by
      cases p with
      | none => simp
      | some y => simp
    by_cases h : p = some x
    · rw [if_pos (e.mpr h), if_pos h, dd_move c l p]
    · rw [if_neg (fun z => h (e.mp z)), if_neg h, List.map_cons]
      have := dd_move c l (some x)
      simp only [Option.map_some] at this
      rw [this]
theorem starts_move (c : Int) (xs : List Int) (W : Int) : starts (xs.map fun x => x + c) W = (starts xs W).map fun x => x + c := by
  unfold starts
  rw [sort_move, cover_move]
  have := dd_move c (sortI xs) none
  simp only [Option.map_none] at this
  rw [this, List.filter_map]
  congr 1
  apply List.filter_congr
  intro x _
  simp only [Function.comp, cov_move]
theorem base_move (c : Int) {xs : List Int} (h : xs ≠ []) (W : Int) : base (xs.map fun x => x + c) W = base xs W + c := by
  obtain ⟨b, e1, e2, _, _⟩ := base_find W h
  have h1 := starts_head xs W
  have h2 := starts_head (xs.map fun x => x + c) W
  rw [starts_move, List.head?_map, h1, e1] at h2
  unfold base
  rw [← h2, e1]; rfl
theorem places_move (c : Int) (xs : List Int) (W : Int) : places (xs.map fun x => x + c) W = places xs W := by
  by_cases h : xs = []
  · subst h; rfl
  · unfold places
    rw [base_move c h, List.length_map]
    congr 1
    apply List.filter_congr
    intro k hk
    have hk' : k < xs.length := List.mem_range.mp hk
    have e1 : (xs.map fun x => x + c).getD k 0 = xs.getD k 0 + c := by simp [hk']
    rw [e1]
    congr 1 <;> exact decide_eq_decide.mpr (by omega)
theorem cov_neg (xs : List Int) (s W : Int) : cov (xs.map fun x => -x) s W = cov xs (-s - W + 1) W := by
  unfold cov
  rw [List.filter_map, List.length_map]
  congr 1
  apply List.filter_congr
  intro x _
  simp only [Function.comp]
  rw [Bool.and_comm]
  congr 1 <;> exact decide_eq_decide.mpr (by omega)
theorem cover_neg (xs : List Int) (W : Int) : cover (xs.map fun x => -x) W = cover xs W := by
  refine Nat.le_antisymm ?_ ?_
  · rcases cover_att (xs.map fun x => -x) W with ⟨_, e⟩ | ⟨x, hx, e⟩
    · omega
    · rw [cov_neg] at e
      have := cov_any (W := W) xs (-x - W + 1)
      omega
  · rcases cover_att xs W with ⟨_, e⟩ | ⟨x, hx, e⟩
    · omega
    · have := cov_any (W := W) (xs.map fun x => -x) (-x - W + 1)
      rw [cov_neg, show -(-x - W + 1) - W + 1 = x by omega] at this
      omega
/-! from the other side -/
def low (ys : List Int) (W : Int) (k : Nat) (h : k < ys.length) : Nat := below ys (ys[k] - W + 1)
theorem low_le {ys : List Int} {W : Int} (hW : 0 < W) (hs : ys.Pairwise (· ≤ ·)) (k : Nat) (h : k < ys.length) : low ys W k h ≤ k :=
  Nat.not_lt.mp fun q => by have := (below_sorted hs k h).mpr q; omega
theorem low_lt {ys : List Int} {W : Int} (hs : ys.Pairwise (· ≤ ·)) (k : Nat) (h : k < ys.length) (j : Nat) (hj : j < ys.length) : ys[k] - ys[j] < W ↔ low ys W k h ≤ j := by
  have := below_sorted (b := ys[k] - W + 1) hs j hj
  unfold low
  constructor
  · intro q
    exact Nat.not_lt.mp fun z => by have := this.mpr z; omega
  · intro q
    have : ¬ ys[j] < ys[k] - W + 1 := fun z => by have := this.mp z; omega
    omega
theorem run_cov {ys : List Int} {W : Int} (hW : 0 < W) (hs : ys.Pairwise (· ≤ ·)) (k : Nat) (h : k < ys.length) : k + 1 - low ys W k h ≤ cov ys (ys[low ys W k h]'(by have := low_le hW hs k h; omega)) W := by
  have hl := low_le hW hs k h
  have h1 := (low_lt (W := W) hs k h (low ys W k h) (by omega)).mpr (Nat.le_refl _)
  have h2 := (below_sorted (b := ys[low ys W k h]'(by omega) + W) hs k h).mp (by omega)
  have h3 := below_self hs (low ys W k h) (by omega)
  have h4 := cov_below hW (ys[low ys W k h]'(by omega)) ys
  omega
theorem cov_run {ys : List Int} {W : Int} (hW : 0 < W) (hs : ys.Pairwise (· ≤ ·)) {x : Int} (hx : x ∈ ys) : ∃ (k : Nat) (h : k < ys.length), cov ys x W ≤ k + 1 - low ys W k h := by
  have hp := cov_pos hx hW
  have h4 := cov_below hW x ys
  have hle := below_le ys (x + W)
  have hk : below ys (x + W) - 1 < ys.length := by omega
  refine ⟨below ys (x + W) - 1, hk, ?_⟩
  have h1 := (below_sorted (b := x + W) hs _ hk).mpr (by omega)
  have h2 : low ys W (below ys (x + W) - 1) hk ≤ below ys x := below_mono ys (by omega)
  omega
theorem run_cover {ys : List Int} {W : Int} (hW : 0 < W) (hs : ys.Pairwise (· ≤ ·)) {m : Nat} (h1 : ∀ (k : Nat) (h : k < ys.length), k + 1 - low ys W k h ≤ m) (h2 : (ys = [] ∧ m = 0) ∨ ∃ (k : Nat) (h : k < ys.length), k + 1 - low ys W k h = m) : cover ys W = m := by
  refine mx_uniq (fun x hx => ?_) ?_
  · obtain ⟨k, h, e⟩ := cov_run hW hs hx
    exact Nat.le_trans e (h1 k h)
  · rcases h2 with h2 | ⟨k, h, e⟩
    · exact .inl h2
    · have hl := low_le hW hs k h
      have hr := run_cov hW hs k h
      obtain ⟨k2, hk2, e2⟩ := cov_run hW hs (List.getElem_mem (show low ys W k h < ys.length by omega))
      have := h1 k2 hk2
      exact .inr ⟨_, List.getElem_mem (show low ys W k h < ys.length by omega), by omega⟩
end WM

set_option maxRecDepth 100000
set_option autoImplicit false
set_option linter.all false
namespace LK
open PySem PySem.Spec PyProof.Rows L2 DL
/-! cuts and sums of lists -/
theorem cut_take (ds : List D) (n : Nat) : DL.cutD ds none (some (n : Int)) = ds.take n := by
  unfold DL.cutD HT.sIx
  simp only [if_neg (show ¬ ((n : Int) < 0) by omega), List.drop_zero, Nat.sub_zero]
  by_cases h : (n : Int) < ds.length
  · congr 1; omega
  · rw [List.take_of_length_le (by omega), List.take_of_length_le (by omega)]
theorem cut_drop (ds : List D) (n : Nat) : DL.cutD ds (some (n : Int)) none = ds.drop n := by
  unfold DL.cutD HT.sIx
  simp only [if_neg (show ¬ ((n : Int) < 0) by omega)]
  by_cases h : (n : Int) < ds.length
  · rw [List.take_of_length_le (by rw [List.length_drop]; omega)]
    congr 1; omega
  · rw [List.drop_of_length_le (l := ds) (i := n) (by omega), List.drop_of_length_le (by omega), List.take_nil]
theorem add_lst {xs ys : List D} (h : xs.length + ys.length ≤ 100000) : oAddA (.lst xs) (.lst ys) = some (.lst (xs ++ ys)) := if_pos h
theorem add_ints {xs ys : List Int} (h : xs.length + ys.length ≤ 100000) : oAddA (.lst (xs.map .int)) (.lst (ys.map .int)) = some (.lst ((xs ++ ys).map .int)) := by
  rw [add_lst (by simpa using h), List.map_append]
@[simp] theorem oInt_bl (b : Bool) : oInt (.bl b) = some (.int (if b then 1 else 0)) := rfl
theorem at1 {α : Type} (a b : α) (l : List α) : atI (a :: b :: l) 1 = some b := by
  rw [atI_int _ _ ⟨by omega, by simp; omega⟩]; rfl
theorem at2 {α : Type} (a b c : α) (l : List α) : atI (a :: b :: c :: l) 2 = some c := by
  rw [atI_int _ _ ⟨by omega, by simp; omega⟩]; rfl
theorem at3 {α : Type} (a b c d : α) (l : List α) : atI (a :: b :: c :: d :: l) 3 = some d := by
  rw [atI_int _ _ ⟨by omega, by simp; omega⟩]; rfl
/-- one statement, and what follows -/
theorem step1 {io fr : Bool} {u1 u2 : SM} {s s' : DS} {r : FRes} (h : u1 s = .nx s') (h2 : fnRes io fr (u2 s') = r) : fnRes io fr (sSeq u1 u2 s) = r := by
  rw [sSeq_run, h, SRes.nxt_nx, h2]
theorem bIn_tups (v : Int) (xs : List Int) : bIn (.int v) (.tup (xs.map .int)) = some (decide (v ∈ xs)) := by
  have h := bIn_ints v xs
  unfold bIn at h ⊢
  exact h
theorem max_lst {l : List Int} {M : Int} (h : l.max? = some M) : oMaxA (.lst (l.map .int)) = some (.int M) := by
  show oIntsA (fun ns => ns.max?) _ = _
  rw [oIntsA_lst, h]; rfl
theorem min_lst {l : List Int} {M : Int} (h : l.min? = some M) : oMinA (.lst (l.map .int)) = some (.int M) := by
  show oIntsA (fun ns => ns.min?) _ = _
  rw [oIntsA_lst, h]; rfl
theorem ne_nil (xs : List Int) : bEqA (.lst (xs.map .int)) (.lst []) = some (decide (xs = [])) := by simpa using bEqA_lsts xs []
end LK

set_option maxRecDepth 100000
set_option autoImplicit false
set_option linter.all false
namespace LK
open PySem PySem.Spec PyProof.Rows L2 DL
/-! plain values of one kind in a sequence -/
structure Emb {α : Type} [DecidableEq α] (f : α → D) : Prop where
  fl : ∀ a, flatD (f a) = true
  eq : ∀ a b, eqF (f a) (f b) = decide (a = b)
theorem emb_str : Emb D.str := ⟨fun _ => rfl, fun a b => eqF_str a b⟩
theorem emb_int : Emb D.int := ⟨fun _ => rfl, fun a b => eqF_int a b⟩
section
variable {α : Type} [DecidableEq α] {f : α → D}
theorem Emb.all (E : Emb f) : ∀ xs : List α, (xs.map f).all flatD = true
  | [] => rfl
  | x :: xs => by rw [List.map_cons, List.all_cons, E.fl, E.all xs]; rfl
theorem Emb.inF (E : Emb f) (x : α) : ∀ xs : List α, inF (f x) (xs.map f) = decide (x ∈ xs)
  | [] => by simp [DL.inF]
  | y :: xs => by
    have h := E.inF x xs
    unfold DL.inF at h ⊢
    rw [List.map_cons, List.any_cons, h, E.eq]
    by_cases e : x = y
    · subst e; simp
    · have e' : ¬ y = x := fun z => e z.symm
      simp [e, e']
theorem Emb.bIn (E : Emb f) (x : α) (xs : List α) {d : D} (hd : seqOf d = some (xs.map f)) : bInA (f x) d = some (decide (x ∈ xs)) := inA_of (by
  unfold DL.bIn
  rw [hd]
  show (if flatD (f x) && (xs.map f).all flatD then some (DL.inF (f x) (xs.map f)) else none) = _
  rw [E.all, E.fl, E.inF]; rfl)
theorem Emb.idxF (E : Emb f) (x : α) : ∀ xs : List α, x ∈ xs → idxF (f x) (xs.map f) = some (xs.idxOf x)
  | [], h => absurd h (by simp)
  | y :: xs, h => by
    rw [List.map_cons]
    unfold DL.idxF
    rw [E.eq, List.idxOf_cons]
    by_cases e : y = x
    · simp [e]
    · rw [E.idxF x xs (by
        rcases List.mem_cons.mp h with h | h
        · exact absurd h.symm e
        · exact h)]
      have e2 : (y == x) = false := by simpa using e
      rw [e2]
      simp [e]
theorem Emb.index (E : Emb f) {x : α} {xs : List α} (h : x ∈ xs) {d : D} (hd : lstOf d = some (xs.map f)) : oIndex d (f x) = some (.int (xs.idxOf x : Nat)) := by
  unfold oIndex
  rw [hd]
  show (if flatD (f x) && (xs.map f).all flatD then (DL.idxF (f x) (xs.map f)).map fun j => D.int (j : Nat) else none) = _
  rw [E.all, E.fl, E.idxF x xs h]; rfl
end
theorem in_strs (z : Str) (zs : List Str) : bInA (.str z) (.lst (zs.map .str)) = some (decide (z ∈ zs)) := emb_str.bIn z zs rfl
theorem in_strsT (z : Str) (zs : List Str) : bInA (.str z) (.tup (zs.map .str)) = some (decide (z ∈ zs)) := emb_str.bIn z zs rfl
theorem ix_strs {z : Str} {zs : List Str} (h : z ∈ zs) : oIndex (.lst (zs.map .str)) (.str z) = some (.int (zs.idxOf z : Nat)) := emb_str.index h rfl
theorem at_map {α : Type} (f : α → D) {xs : List α} {i : Int} {x : α} (h0 : 0 ≤ i) (h : xs[i.toNat]? = some x) : atI (xs.map f) i = some (f x) := by
  have hl : i.toNat < xs.length := (List.getElem?_eq_some_iff.mp h).1
  rw [atI_int _ _ ⟨h0, by rw [List.length_map]; omega⟩, List.getElem?_map, h]; rfl
theorem eq_strs (a b : Str) : bEqA (.str a) (.str b) = some (decide (a = b)) := rfl
end LK

set_option maxRecDepth 100000
set_option autoImplicit false
set_option linter.all false
namespace LK
open PySem PySem.Spec PyProof.Rows L2 DL
/-! == of plain data: no bools, no dicts -/
mutual
def nbD : D → Bool
  | .non => true
  | .int _ => true
  | .str z => (PyData.str z).canLay0
  | .tup ds => nbL ds
  | .lst ds => nbL ds
  | _ => false
def nbL : List D → Bool
  | [] => true
  | d :: ds => nbD d && nbL ds
end
mutual
def dpD : D → Nat
  | .tup ds => dpL ds + 1
  | .lst ds => dpL ds + 1
  | _ => 0
def dpL : List D → Nat
  | [] => 0
  | d :: ds => max (dpD d) (dpL ds)
end
mutual
theorem nb_toP : ∀ d : D, nbD d = true → ∃ p, toP d = some p ∧ p.canLay0 = true ∧ p.depth = dpD d
  | .non, _ => ⟨.none, by simp only [toP], rfl, by simp only [dpD, PyData.depth]⟩
  | .int i, _ => ⟨.int i, by simp only [toP], rfl, by simp only [dpD, PyData.depth]⟩
  | .str z, h => ⟨.str z, by simp only [toP], by simpa only [nbD] using h, by simp only [dpD, PyData.depth]⟩
  | .bl _, h => by simp [nbD] at h
  | .dic _ _, h => by simp [nbD] at h
  | .scr _, h => by simp [nbD] at h
  | .tup ds, h => by
    obtain ⟨ps, e, c, dp⟩ := nb_toPL ds (by simpa only [nbD] using h)
    exact ⟨.tuple ps, by simp only [toP, e]; rfl, by simpa only [PyData.canLay0] using c, by simp only [PyData.depth, dpD, dp]⟩
  | .lst ds, h => by
    obtain ⟨ps, e, c, dp⟩ := nb_toPL ds (by simpa only [nbD] using h)
    exact ⟨.list ps, by simp only [toP, e]; rfl, by simpa only [PyData.canLay0] using c, by simp only [PyData.depth, dpD, dp]⟩
theorem nb_toPL : ∀ ds : List D, nbL ds = true → ∃ ps, toPL ds = some ps ∧ PyData.canLayAll0 ps = true ∧ PyData.depthAll ps = dpL ds
  | [], _ => ⟨[], by simp only [toPL], by simp only [PyData.canLayAll0], by simp only [PyData.depthAll, dpL]⟩
  | d :: ds, h => by
    simp only [nbL, Bool.and_eq_true] at h
    obtain ⟨p, e1, c1, d1⟩ := nb_toP d h.1
    obtain ⟨ps, e2, c2, d2⟩ := nb_toPL ds h.2
    exact ⟨p :: ps, by simp only [toPL, e1, e2]; rfl, by simp only [PyData.canLayAll0, c1, c2]; rfl, by simp only [PyData.depthAll, dpL, d1, d2]⟩
end
theorem inj_tup {ds : List D} {q : PyData} (h : toP (.tup ds) = some q) : ∃ qs, toPL ds = some qs ∧ q = .tuple qs := by
  simp only [toP] at h
  cases e : toPL ds with
  | none => rw [e] at h; cases h
  | some qs => rw [e] at h; cases h; exact ⟨qs, rfl, rfl⟩
theorem inj_lst {ds : List D} {q : PyData} (h : toP (.lst ds) = some q) : ∃ qs, toPL ds = some qs ∧ q = .list qs := by
  simp only [toP] at h
  cases e : toPL ds with
  | none => rw [e] at h; cases h
  | some qs => rw [e] at h; cases h; exact ⟨qs, rfl, rfl⟩
theorem inj_cons {d : D} {ds : List D} {q : List PyData} (h : toPL (d :: ds) = some q) : ∃ p ps, toP d = some p ∧ toPL ds = some ps ∧ q = p :: ps := by
  simp only [toPL] at h
  cases e : toP d with
  | none => rw [e] at h; cases h
  | some p =>
    rw [e] at h
    cases e2 : toPL ds with
    | none => rw [e2] at h; cases h
    | some ps => rw [e2] at h; cases h; exact ⟨p, ps, rfl, rfl, rfl⟩
mutual
theorem nb_eqv : ∀ (d1 d2 : D) (p q : PyData), nbD d1 = true → nbD d2 = true → toP d1 = some p → toP d2 = some q → (PyData.eqv p q = true ↔ d1 = d2)
  | .bl _, _, _, _, h, _, _, _ => by simp [nbD] at h
  | .dic _ _, _, _, _, h, _, _, _ => by simp [nbD] at h
  | .scr _, _, _, _, h, _, _, _ => by simp [nbD] at h
  | .non, d2, p, q, _, h2, e1, e2 => by
    simp only [toP] at e1
    cases e1
    cases d2 <;> simp only [nbD, Bool.false_eq_true] at h2
    · simp only [toP] at e2; cases e2; simp [PyData.eqv]
    · simp only [toP] at e2; cases e2; simp [PyData.eqv]
    · simp only [toP] at e2; cases e2; simp [PyData.eqv]
    · obtain ⟨qs, _, rfl⟩ := inj_tup e2; simp [PyData.eqv]
    · obtain ⟨qs, _, rfl⟩ := inj_lst e2; simp [PyData.eqv]
  | .int i, d2, p, q, _, h2, e1, e2 => by
    simp only [toP] at e1
    cases e1
    cases d2 <;> simp only [nbD, Bool.false_eq_true] at h2
    · simp only [toP] at e2; cases e2; simp [PyData.eqv]
    · simp only [toP] at e2; cases e2; simp [PyData.eqv]
    · simp only [toP] at e2; cases e2; simp [PyData.eqv]
    · obtain ⟨qs, _, rfl⟩ := inj_tup e2; simp [PyData.eqv]
    · obtain ⟨qs, _, rfl⟩ := inj_lst e2; simp [PyData.eqv]
  | .str i, d2, p, q, _, h2, e1, e2 => by
    simp only [toP] at e1
    cases e1
    cases d2 <;> simp only [nbD, Bool.false_eq_true] at h2
    · simp only [toP] at e2; cases e2; simp [PyData.eqv]
    · simp only [toP] at e2; cases e2; simp [PyData.eqv]
    · simp only [toP] at e2; cases e2; simp [PyData.eqv]
    · obtain ⟨qs, _, rfl⟩ := inj_tup e2; simp [PyData.eqv]
    · obtain ⟨qs, _, rfl⟩ := inj_lst e2; simp [PyData.eqv]
  | .tup ds, d2, p, q, h1, h2, e1, e2 => by
    obtain ⟨ps, g1, rfl⟩ := inj_tup e1
    cases d2 <;> simp only [nbD, Bool.false_eq_true] at h2
    · simp only [toP] at e2; cases e2; simp [PyData.eqv]
    · simp only [toP] at e2; cases e2; simp [PyData.eqv]
    · simp only [toP] at e2; cases e2; simp [PyData.eqv]
    · obtain ⟨qs, g2, rfl⟩ := inj_tup e2
      rename_i es
      have := nb_eqvL ds es ps qs (by simpa only [nbD] using h1) h2 g1 g2
      simpa [PyData.eqv] using this
    · obtain ⟨qs, _, rfl⟩ := inj_lst e2; simp [PyData.eqv]
  | .lst ds, d2, p, q, h1, h2, e1, e2 => by
    obtain ⟨ps, g1, rfl⟩ := inj_lst e1
    cases d2 <;> simp only [nbD, Bool.false_eq_true] at h2
    · simp only [toP] at e2; cases e2; simp [PyData.eqv]
    · simp only [toP] at e2; cases e2; simp [PyData.eqv]
    · simp only [toP] at e2; cases e2; simp [PyData.eqv]
    · obtain ⟨qs, _, rfl⟩ := inj_tup e2; simp [PyData.eqv]
    · obtain ⟨qs, g2, rfl⟩ := inj_lst e2
      rename_i es
      have := nb_eqvL ds es ps qs (by simpa only [nbD] using h1) h2 g1 g2
      simpa [PyData.eqv] using this
theorem nb_eqvL : ∀ (ds es : List D) (ps qs : List PyData), nbL ds = true → nbL es = true → toPL ds = some ps → toPL es = some qs → (PyData.eqvAll ps qs = true ↔ ds = es)
  | [], es, ps, qs, _, h2, e1, e2 => by
    simp only [toPL] at e1
    cases e1
    cases es with
    | nil => simp only [toPL] at e2; cases e2; simp [PyData.eqvAll]
    | cons e es => obtain ⟨q, qs', _, _, rfl⟩ := inj_cons e2; simp [PyData.eqvAll]
  | d :: ds, es, ps, qs, h1, h2, e1, e2 => by
    obtain ⟨p, ps', a1, a2, rfl⟩ := inj_cons e1
    simp only [nbL, Bool.and_eq_true] at h1
    cases es with
    | nil => simp only [toPL] at e2; cases e2; simp [PyData.eqvAll]
    | cons e es =>
      obtain ⟨q, qs', b1, b2, rfl⟩ := inj_cons e2
      simp only [nbL, Bool.and_eq_true] at h2
      have r1 := nb_eqv d e p q h1.1 h2.1 a1 b1
      have r2 := nb_eqvL ds es ps' qs' h1.2 h2.2 a2 b2
      simp only [PyData.eqvAll, Bool.and_eq_true, r1, r2, List.cons.injEq]
end
theorem shaped_nb {d : D} {p : PyData} (h : nbD d = true) (hd : dpD d ≤ 64) (e : toP d = some p) : SeqAt.shaped p = true := by
  obtain ⟨p', e1, c, dp⟩ := nb_toP d h
  rw [e] at e1; cases e1
  unfold SeqAt.shaped
  rw [c, dp, Bool.true_and]
  exact decide_eq_true hd
theorem eq_nb {d1 d2 : D} (h1 : nbD d1 = true) (h2 : nbD d2 = true) (k1 : dpD d1 ≤ 64) (k2 : dpD d2 ≤ 64) : ∃ b, bEqA d1 d2 = some b ∧ (b = true ↔ d1 = d2) := by
  obtain ⟨p, e1, _, _⟩ := nb_toP d1 h1
  obtain ⟨q, e2, _, _⟩ := nb_toP d2 h2
  have hv := nb_eqv d1 d2 p q h1 h2 e1 e2
  unfold bEqA
  cases g : bEq d1 d2 with
  | none =>
    refine ⟨PyData.eqv p q, ?_, hv⟩
    show eqP (toP d1) (toP d2) = _
    rw [e1, e2]
    simp only [eqP, shaped_nb h1 k1 e1, shaped_nb h2 k2 e2, Bool.and_self, if_true]
  | some b =>
    refine ⟨b, rfl, ?_⟩
    cases d1 <;> cases d2 <;> simp only [bEq, reduceCtorEq, Option.some.injEq] at g <;> subst g <;> simp [nbD] at h1 h2 ⊢
theorem nbL_map {α : Type} (f : α → D) : ∀ {xs : List α}, (∀ x ∈ xs, nbD (f x) = true) → nbL (xs.map f) = true
  | [], _ => by simp only [List.map_nil, nbL]
  | x :: xs, h => by
    simp only [List.map_cons, nbL, h x List.mem_cons_self, nbL_map f fun y hy => h y (List.mem_cons_of_mem _ hy), Bool.and_self]
theorem dpL_map {α : Type} (f : α → D) {n : Nat} : ∀ {xs : List α}, (∀ x ∈ xs, dpD (f x) ≤ n) → dpL (xs.map f) ≤ n
  | [], _ => by simp only [List.map_nil, dpL]; omega
  | x :: xs, h => by
    have := h x List.mem_cons_self
    have := dpL_map f fun y hy => h y (List.mem_cons_of_mem x hy)
    simp only [List.map_cons, dpL]
    omega
end LK

set_option maxRecDepth 100000
set_option autoImplicit false
set_option linter.all false
namespace LK
open PySem PySem.Spec PyProof.Rows L2 DL PySem.W
/-! lists of triples of ints: ==, <, > -/
abbrev T3 := Int × Int × Int
def tD3 (t : T3) : D := .tup [.int t.1, .int t.2.1, .int t.2.2]
def enc3 (t : T3) : PyData := .tuple [.int t.1, .int t.2.1, .int t.2.2]
def lt3 (p q : T3) : Bool := decide (p.1 < q.1 ∨ p.1 = q.1 ∧ (p.2.1 < q.2.1 ∨ p.2.1 = q.2.1 ∧ p.2.2 < q.2.2))
theorem toPL3 : ∀ ts : List T3, toPL (ts.map tD3) = some (ts.map enc3)
  | [] => by simp only [List.map_nil, toPL]
  | t :: ts => by simp only [List.map_cons, tD3, toPL, toP, toPL3 ts]; rfl
theorem toP3 (ts : List T3) : toP (.lst (ts.map tD3)) = some (.list (ts.map enc3)) := by simp only [toP, toPL3]; rfl
theorem alike3 (p q : T3) : alike (enc3 p) (enc3 q) = true := by simp [enc3, alike, alikeAll]
theorem alikeA3 : ∀ xs ys : List T3, alikeAll (xs.map enc3) (ys.map enc3) = true
  | [], _ => by simp [alikeAll]
  | _ :: _, [] => by simp [alikeAll]
  | x :: xs, y :: ys => by simp only [List.map_cons, alikeAll, alike3, alikeA3 xs ys, Bool.and_self]
theorem eqv3 (p q : T3) : PyData.eqv (enc3 p) (enc3 q) = decide (p = q) := by
  obtain ⟨a, b, c⟩ := p
  obtain ⟨d, e, f⟩ := q
  simp only [enc3, PyData.eqv, PyData.eqvAll, Prod.mk.injEq]
  rw [Bool.eq_iff_iff]
  simp
theorem dataLt3 (p q : T3) : dataLt (enc3 p) (enc3 q) = lt3 p q := by
  obtain ⟨a, b, c⟩ := p
  obtain ⟨d, e, f⟩ := q
  unfold enc3 lt3
  rw [dataLt_tuple, dataLt_cons (by simp [alike]), dataLt_cons (by simp [alike]), dataLt_cons (by simp [alike])]
  simp only [PyData.eqv, dataLt_int]
  by_cases h1 : a = d
  · subst h1
    by_cases h2 : b = e
    · subst h2
      by_cases h3 : c = f
      · subst h3
        simp [keyToksAll, PyProof.Rows.lexLt, itemOrd, itemLt]
      · simp [h3]
    · simp [h2]
  · simp [h1]
def ltL : List T3 → List T3 → Bool
  | x :: xs, y :: ys => if x = y then ltL xs ys else lt3 x y
  | _, _ => false
theorem lexL : ∀ xs ys : List T3, xs.length = ys.length → PyProof.Rows.lexLt itemOrd (keyToksAll (xs.map enc3)) (keyToksAll (ys.map enc3)) = ltL xs ys
  | [], [], _ => by simp [keyToksAll, PyProof.Rows.lexLt, itemOrd, itemLt, ltL]
  | x :: xs, y :: ys, h => by
    rw [List.map_cons, List.map_cons, dataLt_cons (alike3 x y), eqv3, dataLt3, lexL xs ys (by simpa using h)]
    rw [show ltL (x :: xs) (y :: ys) = if x = y then ltL xs ys else lt3 x y from by rw [ltL]]
    by_cases e : x = y <;> simp [e]
theorem lt3_tri {x y : T3} (h : x ≠ y) : lt3 x y = !lt3 y x := by
  obtain ⟨a, b, c⟩ := x
  obtain ⟨d, e, f⟩ := y
  have h : ¬ (a = d ∧ b = e ∧ c = f) := fun z => h (by rw [z.1, z.2.1, z.2.2])
  unfold lt3
  rw [Bool.eq_iff_iff]
  simp only [decide_eq_true_eq, Bool.not_eq_true', decide_eq_false_iff_not]
  omega
theorem ltL_tri : ∀ xs ys : List T3, xs.length = ys.length → (xs = ys → ltL xs ys = false ∧ ltL ys xs = false) ∧ (xs ≠ ys → ltL xs ys = !ltL ys xs)
  | [], [], _ => ⟨fun _ => ⟨rfl, rfl⟩, fun h => absurd rfl h⟩
  | x :: xs, y :: ys, h => by
    obtain ⟨h1, h2⟩ := ltL_tri xs ys (by simpa using h)
    by_cases e : x = y
    · subst e
      refine ⟨fun z => ?_, fun z => ?_⟩
      · simp only [ltL, if_true]
        exact h1 (by simpa using z)
      · simp only [ltL, if_true]
        exact h2 (by simpa using z)
    · refine ⟨fun z => absurd (List.cons.inj z).1 e, fun _ => ?_⟩
      simp only [ltL, if_neg e, if_neg (fun z : y = x => e z.symm)]
      exact lt3_tri e
theorem depth3 : ∀ ts : List T3, PyData.depthAll (ts.map enc3) ≤ 1
  | [] => by simp only [List.map_nil, PyData.depthAll]; omega
  | t :: ts => by
    have := depth3 ts
    have h : (enc3 t).depth = 1 := by simp [enc3, PyData.depth, PyData.depthAll]
    simp only [List.map_cons, PyData.depthAll, h]
    omega
theorem cmp3 (f : PyData → PyData → Bool) (xs ys : List T3) : cmpP f (.lst (xs.map tD3)) (.lst (ys.map tD3)) = some (f (.list (xs.map enc3)) (.list (ys.map enc3))) := by
  unfold cmpP
  rw [toP3, toP3]
  have h1 := alikeA3 xs ys
  have h2 := depth3 xs
  have : (alike (.list (xs.map enc3)) (.list (ys.map enc3)) && notNone (.list (xs.map enc3)) && decide ((PyData.list (xs.map enc3)).depth ≤ 32)) = true := by
    simp only [alike, h1, notNone, PyData.depth, Bool.true_and]
    exact decide_eq_true (by omega)
  exact if_pos this
theorem lt_rows (xs ys : List T3) (h : xs.length = ys.length) : bLtA (.lst (xs.map tD3)) (.lst (ys.map tD3)) = some (ltL xs ys) := by
  unfold bLtA
  rw [show bLt (.lst (xs.map tD3)) (.lst (ys.map tD3)) = none from rfl, cmp3]
  show some _ = _
  rw [dataLt_list, lexL xs ys h]
theorem gt_rows (xs ys : List T3) (h : xs.length = ys.length) : bGtA (.lst (xs.map tD3)) (.lst (ys.map tD3)) = some (ltL ys xs) := by
  unfold bGtA
  rw [show bGt (.lst (xs.map tD3)) (.lst (ys.map tD3)) = none from rfl, cmp3]
  show some (dataLt _ _) = _
  rw [dataLt_list, lexL ys xs h.symm]
theorem inj3 : ∀ xs ys : List T3, xs.map tD3 = ys.map tD3 → xs = ys
  | [], [], _ => rfl
  | [], _ :: _, h => by cases h
  | _ :: _, [], h => by cases h
  | (a, b, c) :: xs, (d, e, f) :: ys, h => by
    simp only [List.map_cons, tD3, List.cons.injEq, D.tup.injEq, D.int.injEq, and_true] at h
    obtain ⟨⟨h1, h2, h3⟩, h4⟩ := h
    rw [h1, h2, h3, inj3 xs ys h4]
theorem eq_rows (xs ys : List T3) : bEqA (.lst (xs.map tD3)) (.lst (ys.map tD3)) = some (decide (xs = ys)) := by
  have hn : ∀ ts : List T3, nbD (.lst (ts.map tD3)) = true := fun ts => by
    simp only [nbD]
    exact nbL_map tD3 fun t _ => by simp [tD3, nbD, nbL]
  have hd : ∀ ts : List T3, dpD (.lst (ts.map tD3)) ≤ 64 := fun ts => by
    have := dpL_map tD3 (n := 1) (xs := ts) fun t _ => by simp [tD3, dpD, dpL]
    simp only [dpD]
    omega
  obtain ⟨b, e, hb⟩ := eq_nb (hn xs) (hn ys) (hd xs) (hd ys)
  rw [e]
  congr 1
  rw [Bool.eq_iff_iff, hb, decide_eq_true_iff]
  exact ⟨fun z => inj3 xs ys (D.lst.inj z), fun z => by rw [z]⟩
end LK

set_option maxRecDepth 100000
set_option autoImplicit false
set_option linter.all false
namespace LK
open PySem PySem.Spec PyProof.Rows L2 DL
def tapeD (ns : List Int) (p r t : Int) : D := .lst [.lst (ns.map .int), .int p, .int r, .int t]
def Tape (d : D) : Prop := ∃ ns p r t, d = tapeD ns p r t ∧ 0 ≤ p ∧ 0 ≤ r
theorem mod_max (x many : Int) : 0 ≤ x % max many 1 ∧ x % max many 1 < max many 1 := ⟨Int.emod_nonneg _ (by omega), Int.emod_lt_of_pos _ (by omega)⟩
theorem draw_ok {d : D} (hd : Tape d) {many : Int} (hm : many < 1208925819614629174706176) : ∃ x d', G_law_draw [d, .int many] = .ok (.int x) (some d') ∧ Tape d' ∧ 0 ≤ x ∧ x < max many 1 := by
  obtain ⟨ns, p, r, t, rfl, hp, hr⟩ := hd
  have h1 : 0 < max many 1 := by omega
  have h2 : 0 < max many 2 := by omega
  have h3 : max many 2 < 1208925819614629174706176 := by omega
  by_cases h : r = 0
  · subst h
    by_cases hl : p < ns.length
    · have hk : p.toNat < ns.length := by omega
      generalize hv : ns[p.toNat] = v
      have e : atI (ns.map D.int) p = some (.int v) := by
        rw [atI_int _ _ ⟨hp, by simpa using hl⟩, List.getElem?_map, List.getElem?_eq_getElem hk, hv]; rfl
      generalize hn : (if v < 0 then -v else v) = n
      have hn0 : 0 ≤ n := by omega
      by_cases hs : n < 1000000000000000000
      · refine ⟨((n * 48271 + p * 69621 + 5) % 2147483647 * 69621 % 2147483629) % max many 1, tapeD ns (p + 1) 0 t, ?_, ⟨_, _, _, _, rfl, by omega, by omega⟩, mod_max _ _⟩
        simp [G_law_draw, u_law_draw, initS, tapeD, atI_int, ixN_int, h1, hl, e, hn, hs]
      · refine ⟨n % max many 1, tapeD ns (p + 1) (n / max many 2) t, ?_, ⟨_, _, _, _, rfl, by omega, Int.ediv_nonneg hn0 (by omega)⟩, mod_max _ _⟩
        simp [G_law_draw, u_law_draw, initS, tapeD, atI_int, ixN_int, h1, h2, h3, hl, e, hn, hs]
    · generalize hn : (t * 48271 + p + 1) % 2147483647 = n
      have g : n < 1000000000000000000 := by omega
      refine ⟨((n * 48271 + p * 69621 + 5) % 2147483647 * 69621 % 2147483629) % max many 1, tapeD ns (p + 1) 0 n, ?_, ⟨_, _, _, _, rfl, by omega, by omega⟩, mod_max _ _⟩
      simp [G_law_draw, u_law_draw, initS, tapeD, atI_int, ixN_int, h1, hl, hn, g]
  · refine ⟨r % max many 1, tapeD ns p (r / max many 2) t, ?_, ⟨_, _, _, _, rfl, hp, Int.ediv_nonneg hr (by omega)⟩, mod_max _ _⟩
    simp [G_law_draw, u_law_draw, initS, tapeD, atI_int, ixN_int, h, h1, h2, h3]
theorem tape_ok (ns : List Int) : ∃ d, G_law_tape [.scr (ns.map .int)] = .ok d none ∧ Tape d := by
  have loop : ∀ (l : List Int) (tot : Int) (x : Sl) (d0 : D), ∃ tot' x', forLoop (gN 2) lb_law_tape_1 (l.map .int) [.pl d0, .pl (.int tot), x] = .nx [.pl d0, .pl (.int tot'), x'] := by
    intro l
    induction l with
    | nil => intro tot x d0; exact ⟨tot, x, rfl⟩
    | cons a l ih =>
      intro tot x d0
      obtain ⟨tot', x', e⟩ := ih ((tot * 31 + if a < 0 then -a else a) % 2147483647) (.pl (.int a)) d0
      exact ⟨tot', x', by rw [← e]; simp [forLoop_cons, lb_law_tape_1]⟩
  obtain ⟨tot', x', e⟩ := loop ns 7 .no (.scr (ns.map .int))
  exact ⟨tapeD ns 0 0 tot', by simp [G_law_tape, u_law_tape, initS, e, tapeD], ns, 0, 0, tot', rfl, by omega, by omega⟩
theorem two_pow_i (n : Nat) : (2 : Int) ^ n = ((2 ^ n : Nat) : Int) := by
  rw [Int.natCast_pow]; rfl
theorem two_pow_ge (n : Nat) : (1 : Int) ≤ 2 ^ n := by
  rw [two_pow_i]; have := Nat.one_le_two_pow (n := n); omega
theorem two_pow_le {n m : Nat} (h : n ≤ m) : (2 : Int) ^ n ≤ 2 ^ m := by
  rw [two_pow_i, two_pow_i]; exact Int.ofNat_le.mpr (Nat.pow_le_pow_right (by omega) h)
theorem pick_ok {d : D} (hd : Tape d) {row : List D} (h0 : row ≠ []) (hl : row.length < 1000000) : ∃ x d', G_law_pick [d, .lst row] = .ok x (some d') ∧ Tape d' ∧ x ∈ row := by
  have hpos : 0 < row.length := List.length_pos_iff.mpr h0
  obtain ⟨x, d', e, hT, hx0, hx1⟩ := draw_ok hd (many := (row.length : Int)) (by omega)
  have hk : x.toNat < row.length := by omega
  have e2 : atI row x = some row[x.toNat] := by
    rw [atI_int _ _ ⟨hx0, by omega⟩, List.getElem?_eq_getElem hk]
  exact ⟨row[x.toNat], d', by simp [G_law_pick, u_law_pick, initS, e, e2], hT, List.getElem_mem hk⟩
end LK

set_option maxRecDepth 100000
set_option autoImplicit false
set_option linter.all false
namespace LK
open PySem PySem.Spec PyProof.Rows L2 DL
theorem any_ok {d : D} (hd : Tape d) : ∃ x d', G_law_any [d] = .ok (.int x) (some d') ∧ Tape d' := by
  obtain ⟨x, d', e, hT, hx0, hx1⟩ := draw_ok hd (many := 2000001) (by omega)
  obtain ⟨ns, p, r, t, rfl, hp, hr⟩ := hd
  by_cases h : r = 0 ∧ p < ns.length
  · obtain ⟨h1, h2⟩ := h
    subst h1
    have hk : p.toNat < ns.length := by omega
    generalize hv : ns[p.toNat] = v
    have e : atI (ns.map D.int) p = some (.int v) := by
      rw [atI_int _ _ ⟨hp, by simpa using h2⟩, List.getElem?_map, List.getElem?_eq_getElem hk, hv]; rfl
    have e1 : p + 1 - 1 = p := by omega
    exact ⟨v, tapeD ns (p + 1) 0 t, by simp [G_law_any, u_law_any, initS, tapeD, atI_int, ixN_int, h2, e, e1], _, _, _, _, rfl, by omega, by omega⟩
  · refine ⟨x - 1000000, d', ?_, hT⟩
    by_cases h1 : r = 0
    · have h2 : ¬ p < ns.length := fun z => h ⟨h1, z⟩
      subst h1
      unfold tapeD at e
      simp [G_law_any, u_law_any, initS, tapeD, atI_int, ixN_int, h2, e]
    · unfold tapeD at e
      simp [G_law_any, u_law_any, initS, tapeD, atI_int, ixN_int, h1, e]
end LK

set_option maxRecDepth 100000
set_option autoImplicit false
set_option linter.all false
namespace LK
open PySem PySem.Spec PyProof.Rows L2 DL
/-! data that are the same as themselves, as the laws ask it -/
def Pln : Nat → D → Prop
  | 0, _ => False
  | _ + 1, .int _ => True
  | _ + 1, .bl _ => True
  | _ + 1, .str _ => True
  | _ + 1, .non => True
  | n + 1, .tup ds => ds.length ≤ 1000000 ∧ ∀ d ∈ ds, Pln n d
  | _ + 1, _ => False
theorem same_ok : ∀ (n : Nat) (d : D), Pln n d → G_law_same n [d, d] = .ok (.bl true) none
  | 0, d, h => h.elim
  | n + 1, .int x, h => by simp [G_law_same, u_law_same, initS]
  | n + 1, .bl x, h => by simp [G_law_same, u_law_same, initS]
  | n + 1, .str x, h => by simp [G_law_same, u_law_same, initS]
  | n + 1, .non, h => by simp [G_law_same, u_law_same, initS]
  | n + 1, .lst _, h => h.elim
  | n + 1, .dic _ _, h => h.elim
  | n + 1, .scr _, h => h.elim
  | n + 1, .tup ds, h => by
    obtain ⟨hl, h⟩ := h
    obtain ⟨s1, e, x, e1⟩ := for_inv (g := gN 2) (u := lb_law_same_1 (G_law_same n)) (fun _ s => ∃ x, s = [.vw (.tup ds), .vw (.tup ds), x]) (rngD 0 ds.length) 0 (fun k hk s ⟨x, e⟩ => by
      have hk' : k < ds.length := by simpa [rngD_len] using hk
      subst e
      rw [rngD_get]
      refine ⟨[.vw (.tup ds), .vw (.tup ds), .pl (.int k)], .inl ?_, _, rfl⟩
      have e2 := same_ok n ds[k] (h _ (List.getElem_mem hk'))
      simp [stepF_run, lb_law_same_1, atI_get ds k hk', e2]) [.vw (.tup ds), .vw (.tup ds), .no] ⟨_, rfl⟩
    subst e1
    simp [G_law_same, u_law_same, initS, rng1_nat hl, e]
end LK

set_option maxRecDepth 100000
set_option autoImplicit false
set_option linter.all false
namespace LK
open PySem PySem.Spec PyProof.Rows L2 DL
theorem erase_map {α β : Type} (f : α → β) : ∀ (l : List α) (i : Nat), (l.map f).eraseIdx i = (l.eraseIdx i).map f
  | [], _ => rfl
  | _ :: _, 0 => rfl
  | x :: l, i + 1 => by
    show f x :: (l.map f).eraseIdx i = f x :: (l.eraseIdx i).map f
    rw [erase_map f l i]
theorem erase_perm {α : Type} : ∀ (l : List α) (i : Nat) (h : i < l.length), (l[i] :: l.eraseIdx i).Perm l
  | [], _, h => absurd h (by simp)
  | _ :: _, 0, _ => List.Perm.refl _
  | x :: l, i + 1, h => by
    have h' : i < l.length := by simpa using h
    show (l[i] :: x :: l.eraseIdx i).Perm (x :: l)
    exact (List.Perm.swap _ _ _).trans (List.Perm.cons x (erase_perm l i h'))
theorem shuffled_ok {d : D} (hd : Tape d) (row : List Int) (hl : row.length ≤ 1000) : ∃ (sh : List Int) (d' : D), G_law_shuffled [d, .lst (row.map .int)] = .ok (.lst (sh.map .int)) (some d') ∧ Tape d' ∧ sh.Perm row := by
  obtain ⟨s1, e1, d', left, found, x, rfl, hT, hp, hn⟩ := for_inv (g := gN 4) (u := lb_law_shuffled_1) (fun k s => ∃ d' left found x, s = [.ow d', .vw (.lst (row.map .int)), .ow (.lst (left.map D.int)), .ow (.lst (found.map D.int)), x] ∧ Tape d' ∧ (found ++ left).Perm row ∧ found.length = k) (rngD 0 row.length) 0 (fun k hk s ⟨d', left, found, x, e, hT, hp, hn⟩ => by
    subst e
    rw [rngD_len] at hk
    have hlen := hp.length_eq
    simp only [List.length_append] at hlen
    obtain ⟨j, d2, e2, hT2, hj0, hj1⟩ := draw_ok hT (many := (left.length : Int)) (by omega)
    have hj : j.toNat < left.length := by omega
    have hjn : j = (j.toNat : Int) := by omega
    have hpop := mPopAtc_ok (ds := left.map D.int) (j := j) j.toNat hjn (by simpa using hj) (by simp; omega)
    have hf : found.length < 100000 := by omega
    have e3 : (List.map D.int left).eraseIdx j.toNat = (left.eraseIdx j.toNat).map D.int := by
      rw [erase_map]
    refine ⟨[.ow d2, .vw (.lst (row.map .int)), .ow (.lst ((left.eraseIdx j.toNat).map D.int)), .ow (.lst ((found ++ [left[j.toNat]]).map D.int)), .pl (rngD 0 row.length)[k]], .inl ?_, d2, left.eraseIdx j.toNat, found ++ [left[j.toNat]], _, rfl, hT2, ?_, by simp; omega⟩
    · simp [stepF_run, lb_law_shuffled_1, e2, hpop, hf, e3]
    · rw [List.append_assoc]
      exact (List.Perm.append_left found (erase_perm left j.toNat hj)).trans hp) [.ow d, .vw (.lst (row.map .int)), .ow (.lst (row.map .int)), .ow (.lst []), .no] ⟨d, row, [], .no, rfl, hd, by simp, rfl⟩
  have hlen := hp.length_eq
  rw [rngD_len] at hn
  simp only [List.length_append] at hlen
  have hz : left = [] := List.length_eq_zero_iff.mp (by omega)
  subst hz
  exact ⟨found, d', by simp [G_law_shuffled, u_law_shuffled, initS, rng1_nat (show row.length ≤ 1000000 by omega), e1], hT, by simpa using hp⟩
end LK

set_option maxRecDepth 100000
set_option autoImplicit false
set_option linter.all false
namespace LK
open PySem PySem.Spec PyProof.Rows L2 DL
/-! shuffled lists of any data -/
theorem shufD_ok {d : D} (hd : Tape d) (row : List D) (hl : row.length ≤ 1000) : ∃ (sh : List D) (d' : D), G_law_shuffled [d, .lst row] = .ok (.lst sh) (some d') ∧ Tape d' ∧ sh.Perm row := by
  obtain ⟨s1, e1, d', left, found, x, rfl, hT, hp, hn⟩ := for_inv (g := gN 4) (u := lb_law_shuffled_1) (fun k s => ∃ d' left found x, s = [.ow d', .vw (.lst row), .ow (.lst left), .ow (.lst found), x] ∧ Tape d' ∧ (found ++ left).Perm row ∧ found.length = k) (rngD 0 row.length) 0 (fun k hk s ⟨d', left, found, x, e, hT, hp, hn⟩ => by
    subst e
    rw [rngD_len] at hk
    have hlen := hp.length_eq
    simp only [List.length_append] at hlen
    obtain ⟨j, d2, e2, hT2, hj0, hj1⟩ := draw_ok hT (many := (left.length : Int)) (by omega)
    have hj : j.toNat < left.length := by omega
    have hjn : j = (j.toNat : Int) := by omega
    have hpop := mPopAtc_ok (ds := left) (j := j) j.toNat hjn (by simpa using hj) (by omega)
    have hf : found.length < 100000 := by omega
    refine ⟨[.ow d2, .vw (.lst row), .ow (.lst (left.eraseIdx j.toNat)), .ow (.lst (found ++ [left[j.toNat]])), .pl (rngD 0 row.length)[k]], .inl ?_, d2, left.eraseIdx j.toNat, found ++ [left[j.toNat]], _, rfl, hT2, ?_, by simp; omega⟩
    · simp [stepF_run, lb_law_shuffled_1, e2, hpop, hf]
    · rw [List.append_assoc]
      exact (List.Perm.append_left found (erase_perm left j.toNat hj)).trans hp) [.ow d, .vw (.lst row), .ow (.lst row), .ow (.lst []), .no] ⟨d, row, [], .no, rfl, hd, by simp, rfl⟩
  have hlen := hp.length_eq
  rw [rngD_len] at hn
  simp only [List.length_append] at hlen
  have hz : left = [] := List.length_eq_zero_iff.mp (by omega)
  subst hz
  exact ⟨found, d', by simp [G_law_shuffled, u_law_shuffled, initS, rng1_nat (show row.length ≤ 1000000 by omega), e1], hT, by simpa using hp⟩
theorem perm_map {α β : Type} [Inhabited α] {f : α → β} {sh : List β} {row : List α} (h : sh.Perm (row.map f)) : ∃ ys : List α, sh = ys.map f ∧ ys.Perm row := by
  suffices H : ∀ (l sh : List β), sh.Perm l → ∀ row : List α, l = row.map f → ∃ ys : List α, sh = ys.map f ∧ ys.Perm row from H _ _ h row rfl
  intro l sh h
  induction h with
  | nil => intro row e; exact ⟨row, by rw [← e], .refl _⟩
  | cons x h ih =>
    intro row e
    cases row with
    | nil => cases e
    | cons a r =>
      rw [List.map_cons] at e
      cases e
      obtain ⟨ys, e1, p1⟩ := ih r rfl
      exact ⟨a :: ys, by rw [e1]; rfl, p1.cons a⟩
  | swap x y l =>
    intro row e
    match row, e with
    | a :: b :: r, e =>
      simp only [List.map_cons] at e
      cases e
      exact ⟨b :: a :: r, rfl, List.Perm.swap a b r⟩
  | trans h1 h2 ih1 ih2 =>
    intro row e
    obtain ⟨ys, e1, p1⟩ := ih2 row e
    obtain ⟨zs, e2, p2⟩ := ih1 ys e1
    exact ⟨zs, e2, p2.trans p1⟩
/-- a shuffled list of values of one kind -/
theorem shufF_ok {α : Type} [Inhabited α] (f : α → D) {d : D} (hd : Tape d) (row : List α) (hl : row.length ≤ 1000) : ∃ (sh : List α) (d' : D), G_law_shuffled [d, .lst (row.map f)] = .ok (.lst (sh.map f)) (some d') ∧ Tape d' ∧ sh.Perm row := by
  obtain ⟨sh, d', e, hT, hp⟩ := shufD_ok hd (row.map f) (by simpa using hl)
  obtain ⟨ys, rfl, hp2⟩ := perm_map hp
  exact ⟨ys, d', e, hT, hp2⟩
theorem pickF_ok {α : Type} (f : α → D) {d : D} (hd : Tape d) {row : List α} (h0 : row ≠ []) (hl : row.length ≤ 1000) : ∃ x d', G_law_pick [d, .lst (row.map f)] = .ok (f x) (some d') ∧ Tape d' ∧ x ∈ row := by
  obtain ⟨y, d', e, hT, hm⟩ := pick_ok hd (row := row.map f) (by simpa using h0) (by simp; omega)
  obtain ⟨x, hx, rfl⟩ := List.mem_map.mp hm
  exact ⟨x, d', e, hT, hx⟩
end LK

set_option maxRecDepth 100000
set_option autoImplicit false
set_option linter.all false
namespace LK
open PySem PySem.Spec PyProof.Rows L2 DL
/-! ### strings: their characters -/
def cpsL (z : Str) : List Nat := z.cps.toList
def ofL (l : List Nat) : Str := ⟨l.toArray⟩
theorem cpsL_of (l : List Nat) : cpsL (ofL l) = l := by unfold cpsL ofL; simp
theorem ofL_cps (z : Str) : ofL (cpsL z) = z := by unfold cpsL ofL; simp
theorem len_cps (z : Str) : z.length = (cpsL z).length := by unfold cpsL; simp [Str.length]
theorem cps_app (a b : Str) : cpsL (a ++ b) = cpsL a ++ cpsL b := by
  show (a.cps ++ b.cps).toList = _
  simp [cpsL]
theorem len_app (a b : Str) : (a ++ b).length = a.length + b.length := by rw [len_cps, len_cps, len_cps, cps_app, List.length_append]
theorem cps_cut (z : Str) (n : Nat) : cpsL (cutS z none (some (n : Int))) = (cpsL z).take n := by
  unfold cutS HT.sIx cpsL
  simp only [if_neg (show ¬ ((n : Int) < 0) by omega), List.drop_zero, Nat.sub_zero]
  by_cases h : (n : Int) < z.length
  · congr 1; omega
  · have hz : z.length = z.cps.toList.length := by simp [Str.length]
    rw [List.take_of_length_le (by omega), List.take_of_length_le (by omega)]
theorem str_ext {a b : Str} (h : cpsL a = cpsL b) : a = b := by rw [← ofL_cps a, ← ofL_cps b, h]
theorem ch_cps (c : Nat) : cpsL ⟨#[c]⟩ = [c] := rfl
/-! ### a name that is not there yet -/
def frStep (names : List Str) (m : Nat) (z : Str) (c : Nat) : Str := if z ∈ names then cutS z none (some (m : Int)) ++ ⟨#[c]⟩ else z
theorem fr_stay {names : List Str} {m : Nat} {z : Str} (h : z ∉ names) : ∀ cs : List Nat, cs.foldl (frStep names m) z = z
  | [] => rfl
  | c :: cs => by rw [List.foldl_cons, show frStep names m z c = z from if_neg h, fr_stay h cs]
theorem fr_all {names : List Str} {m : Nat} : ∀ (cs : List Nat) (z : Str), cs.foldl (frStep names m) z ∈ names → ∃ l : List Str, l.map (fun y => (cpsL y).getLast?) = cs.map some ∧ ∀ y ∈ l, y ∈ names
  | [], z, h => ⟨[], rfl, fun y hy => by cases hy⟩
  | c :: cs, z, h => by
    rw [List.foldl_cons] at h
    have h1 : frStep names m z c ∈ names := by
      by_cases hn : frStep names m z c ∈ names
      · exact hn
      · rw [fr_stay hn cs] at h; exact h
    have hz : z ∈ names := by
      by_cases hz : z ∈ names
      · exact hz
      · rw [show frStep names m z c = z from if_neg hz] at h1; exact h1
    obtain ⟨l, e, hl⟩ := fr_all cs _ h
    refine ⟨frStep names m z c :: l, ?_, fun y hy => ?_⟩
    · rw [List.map_cons, List.map_cons, e]
      congr 1
      unfold frStep
      rw [if_pos hz, cps_app, ch_cps, List.getLast?_concat]
    · rcases List.mem_cons.mp hy with rfl | hy
      · exact h1
      · exact hl y hy
theorem nodup_le {α : Type} [DecidableEq α] : ∀ (l names : List α), l.Nodup → (∀ y ∈ l, y ∈ names) → l.length ≤ names.length
  | [], _, _, _ => Nat.zero_le _
  | y :: l, names, hn, hm => by
    have hy := hm y List.mem_cons_self
    have hn' := List.nodup_cons.mp hn
    have := nodup_le l (names.erase y) hn'.2 fun x hx => (List.mem_erase_of_ne (fun e : x = y => hn'.1 (by rw [← e]; exact hx))).mpr (hm x (List.mem_cons_of_mem _ hx))
    rw [List.length_erase_of_mem hy] at this
    have h0 : 0 < names.length := List.length_pos_of_mem hy
    simp only [List.length_cons]
    omega
theorem nodup_of_map {α β : Type} (f : α → β) : ∀ {l : List α}, (l.map f).Nodup → l.Nodup
  | [], _ => List.nodup_nil
  | a :: l, h => by
    rw [List.map_cons, List.nodup_cons] at h
    exact List.nodup_cons.mpr ⟨fun z => h.1 (List.mem_map.mpr ⟨a, z, rfl⟩), nodup_of_map f h.2⟩
def signs8 : List Nat := [97, 98, 99, 100, 101, 102, 103, 104]
def freshN (names : List Str) (m : Nat) (z : Str) : Str := signs8.foldl (frStep names m) z
theorem fresh_new {names : List Str} (h : names.length ≤ 7) (m : Nat) (z : Str) : freshN names m z ∉ names := fun hm => by
  obtain ⟨l, e, hl⟩ := fr_all signs8 z hm
  have hn : l.Nodup := nodup_of_map (fun y => (cpsL y).getLast?) (by rw [e]; decide)
  have := nodup_le l names hn hl
  have hlen := congrArg List.length e
  rw [List.length_map, List.length_map] at hlen
  have h8 : signs8.length = 8 := rfl
  omega
theorem fresh_keep {names : List Str} {m : Nat} (P : Str → Prop) (hP : ∀ z c, P z → c ∈ signs8 → P (cutS z none (some (m : Int)) ++ ⟨#[c]⟩)) {z : Str} (hz : P z) : P (freshN names m z) := by
  have key : ∀ (cs : List Nat) (z : Str), (∀ c ∈ cs, c ∈ signs8) → P z → P (cs.foldl (frStep names m) z) := by
    intro cs
    induction cs with
    | nil => intro z _ h; exact h
    | cons c cs ih =>
      intro z hc h
      rw [List.foldl_cons]
      refine ih _ (fun c hc' => hc c (List.mem_cons_of_mem _ hc')) ?_
      unfold frStep
      split
      · exact hP z c h (hc c List.mem_cons_self)
      · exact h
  exact key signs8 z (fun c h => h) hz
end LK

set_option maxRecDepth 100000
set_option autoImplicit false
set_option linter.all false
namespace LK
open PySem PySem.Spec PyProof.Rows L2 DL
/-! names and labels as the laws draw them -/
def isLt (c : Nat) : Bool := (65 ≤ c && c ≤ 90) || (97 ≤ c && c ≤ 122)
def isNc (c : Nat) : Bool := isLt c || (48 ≤ c && c ≤ 57) || c == 95
def isPr (c : Nat) : Bool := 32 ≤ c && c ≤ 126
def hdLt : List Nat → Bool
  | [] => true
  | c :: _ => isLt c
/-- what a name begins with -/
def Stem (z : Str) : Prop := hdLt (cpsL z) = true ∧ ∀ c ∈ cpsL z, isNc c = true
def NameOk (z : Str) : Prop := Stem z ∧ 1 ≤ z.length ∧ z.length ≤ 20
def LabOk (z : Str) : Prop := z.length ≤ 8 ∧ ∀ c ∈ cpsL z, isPr c = true
theorem hdLt_take {l : List Nat} (h : hdLt l = true) (n : Nat) : hdLt (l.take n) = true := by
  cases l with
  | nil => simp [hdLt]
  | cons c l => cases n with
    | zero => rfl
    | succ n => exact h
theorem stem_take {z : Str} (h : Stem z) (n : Nat) : Stem (cutS z none (some (n : Int))) := by
  unfold Stem
  rw [cps_cut]
  exact ⟨hdLt_take h.1 n, fun c hc => h.2 c (List.mem_of_mem_take hc)⟩
theorem stem_app {z : Str} (h : Stem z) {c : Nat} (hc : isNc c = true) (hl : 1 ≤ z.length ∨ isLt c = true) : Stem (z ++ ⟨#[c]⟩) := by
  unfold Stem
  rw [cps_app, ch_cps]
  rw [len_cps] at hl
  obtain ⟨h1, h2⟩ := h
  refine ⟨?_, fun x hx => ?_⟩
  · cases e : cpsL z with
    | nil =>
      rw [e] at hl
      rcases hl with hl | hl
      · simp at hl
      · exact hl
    | cons a l => rw [e] at h1; exact h1
  · rcases List.mem_append.mp hx with hx | hx
    · exact h2 x hx
    · rw [List.mem_singleton.mp hx]; exact hc
theorem len_cut (z : Str) (n : Nat) : (cutS z none (some (n : Int))).length = min n z.length := by
  rw [len_cps, cps_cut, List.length_take, len_cps]
theorem len_ch (c : Nat) : (⟨#[c]⟩ : Str).length = 1 := rfl
theorem sign_ok {c : Nat} (h : c ∈ signs8) : isLt c = true ∧ isNc c = true ∧ isPr c = true := by
  have : ∀ c ∈ signs8, isLt c = true ∧ isNc c = true ∧ isPr c = true := by decide
  exact this c h
theorem name_sign {z : Str} {c : Nat} (h : NameOk z) (hc : c ∈ signs8) : NameOk (cutS z none (some ((19 : Nat) : Int)) ++ ⟨#[c]⟩) := by
  obtain ⟨h1, h2, h3⟩ := h
  obtain ⟨s1, s2, _⟩ := sign_ok hc
  refine ⟨stem_app (stem_take h1 19) s2 (.inr s1), ?_, ?_⟩
  · rw [len_app, len_ch]; omega
  · rw [len_app, len_ch, len_cut]; omega
theorem lab_sign {z : Str} {c : Nat} (h : LabOk z) (hc : c ∈ signs8) : LabOk (cutS z none (some ((7 : Nat) : Int)) ++ ⟨#[c]⟩) := by
  obtain ⟨h1, h2⟩ := h
  obtain ⟨_, _, s3⟩ := sign_ok hc
  refine ⟨by rw [len_app, len_ch, len_cut]; omega, fun x hx => ?_⟩
  rw [cps_app, ch_cps, cps_cut] at hx
  rcases List.mem_append.mp hx with hx | hx
  · exact h2 x (List.mem_of_mem_take hx)
  · rw [List.mem_singleton.mp hx]; exact s3
theorem charsD_eq (z : Str) : charsD z = (cpsL z).map fun c => D.str ⟨#[c]⟩ := rfl
theorem eight : cpsL ("abcdefgh" : Str) = signs8 := by decide +kernel
theorem addS {a b : Str} (h : a.length + b.length ≤ 100000) : oAddA (.str a) (.str b) = some (.str (a ++ b)) := if_pos h
theorem fresh_run (z : Str) (names : List Str) (m : Nat) (hz : z.length ≤ m + 1) (hm : m ≤ 100) : G_law_fresh [.str z, .lst (names.map .str), .int ((m : Int) + 1)] = .ok (.str (freshN names m z)) none := by
  have key : ∀ (cs : List Nat) (z : Str) (x : Sl), z.length ≤ m + 1 → ∃ x', forLoop (gN 3) lb_law_fresh_1 (cs.map fun c => D.str ⟨#[c]⟩) [.pl (.str z), .vw (.lst (names.map .str)), .vw (.int ((m : Int) + 1)), x] = .nx [.pl (.str (cs.foldl (frStep names m) z)), .vw (.lst (names.map .str)), .vw (.int ((m : Int) + 1)), x'] := by
    intro cs
    induction cs with
    | nil => intro z x _; exact ⟨x, rfl⟩
    | cons c cs ih =>
      intro z x hz
      have hcz := cutB_str none (some (m : Int)) z (show z.length ≤ 100000 by omega)
      have hl : (cutS z none (some (m : Int)) ++ ⟨#[c]⟩ : Str).length ≤ m + 1 := by rw [len_app, len_ch, len_cut]; omega
      have ha := addS (a := cutS z none (some (m : Int))) (b := ⟨#[c]⟩) (by rw [len_app] at hl; omega)
      have hin := in_strs z names
      have hm1 : (m : Int) + 1 - 1 = (m : Int) := by omega
      rw [List.foldl_cons]
      by_cases h : z ∈ names
      · obtain ⟨x', e⟩ := ih (cutS z none (some (m : Int)) ++ ⟨#[c]⟩) (.pl (.str ⟨#[c]⟩)) hl
        refine ⟨x', ?_⟩
        rw [show frStep names m z c = cutS z none (some (m : Int)) ++ ⟨#[c]⟩ from if_pos h, ← e]
        rw [decide_eq_true h] at hin
        generalize names.map D.str = NS at *
        simp [forLoop_cons, lb_law_fresh_1, hin, hm1, hcz, ha]
      · obtain ⟨x', e⟩ := ih z (.pl (.str ⟨#[c]⟩)) hz
        refine ⟨x', ?_⟩
        rw [show frStep names m z c = z from if_neg h, ← e]
        rw [decide_eq_false h] at hin
        generalize names.map D.str = NS at *
        simp [forLoop_cons, lb_law_fresh_1, hin]
  obtain ⟨x', e⟩ := key signs8 z .no hz
  rw [← eight, ← charsD_eq] at e
  unfold freshN
  rw [← eight]
  generalize names.map D.str = NS at *
  simp [G_law_fresh, u_law_fresh, initS, e]
/-- a character of a string -/
theorem pick_str {d : D} (hd : Tape d) {z : Str} (h0 : 1 ≤ z.length) (hl : z.length ≤ 1000) : ∃ c d', G_law_pick [d, .str z] = .ok (.str ⟨#[c]⟩) (some d') ∧ Tape d' ∧ c ∈ cpsL z := by
  obtain ⟨x, d', e, hT, hx0, hx1⟩ := draw_ok hd (many := (z.length : Int)) (by omega)
  have hlen := len_cps z
  have hk : x.toNat < (cpsL z).length := by omega
  have e2 : oIxB (.str z) (.int x) = some (.str ⟨#[(cpsL z)[x.toNat]]⟩) := oIxB_str (by omega) (by
    show atI (cpsL z) x = _
    rw [atI_int _ _ ⟨hx0, by omega⟩, List.getElem?_eq_getElem hk])
  have e3 : oLen (.str z) = some (.int z.length) := if_pos (by omega)
  exact ⟨(cpsL z)[x.toNat], d', by simp [G_law_pick, u_law_pick, initS, e, e2, e3], hT, List.getElem_mem hk⟩
theorem letter_at {d : D} (hd : Tape d) : ∃ c d', (∀ s : DS, s[0]? = some (.ow d) → (aEv (.v (mCallT G_law_draw 0 [.v (mC (.int 52))])) s) = .ok (.d (.int c)) (s.set 0 (.ow d'))) ∧ Tape d' ∧ 0 ≤ c ∧ c < 52 := by
  obtain ⟨x, d', e, hT, hx0, hx1⟩ := draw_ok hd (many := 52) (by omega)
  refine ⟨x, d', fun s hs => ?_, hT, hx0, by omega⟩
  simp [hs, e]
end LK

set_option maxRecDepth 100000
set_option autoImplicit false
set_option linter.all false
namespace LK
open PySem PySem.Spec PyProof.Rows L2 DL
abbrev ltS : Str := "abcdefghijklmnopqrstuvwxyzABCDEFGHIJKLMNOPQRSTUVWXYZ"
abbrev dgS : Str := "0123456789_"
abbrev stS : Str := "a_shared_beginning"
theorem lt_len : ltS.length = 52 := by decide +kernel
theorem lt_all : ∀ c ∈ cpsL ltS, isLt c = true := by decide +kernel
theorem dg_len : dgS.length = 11 := by decide +kernel
theorem dg_all : ∀ c ∈ cpsL dgS, isNc c = true := by decide +kernel
theorem st_stem : Stem stS := by unfold Stem; decide +kernel
theorem st_len : stS.length = 18 := by decide +kernel
theorem nc_of_lt {c : Nat} (h : isLt c = true) : isNc c = true := by unfold isNc; rw [h]; rfl
theorem pool_all : ∀ c ∈ cpsL (ltS ++ dgS), isNc c = true := fun c hc => by
  rw [cps_app] at hc
  rcases List.mem_append.mp hc with hc | hc
  · exact nc_of_lt (lt_all c hc)
  · exact dg_all c hc
theorem pool_len : (ltS ++ dgS).length = 63 := by rw [len_app, lt_len, dg_len]
def nmS (d : D) (k : Nat) (st : Str) (names : List Str) (x5 x6 x7 : Sl) : DS := [.ow d, .vw (.int k), .pl (.str ltS), .pl (.str st), .ow (.lst (names.map .str)), x5, x6, x7]
theorem names_in {d : D} (hd : Tape d) (k : Nat) (st : Str) (names : List Str) (x5 x7 : Sl) (n : Nat) (hn : n ≤ 2) {z : Str} (hz : Stem z) (h1 : 1 ≤ z.length) (h2 : z.length ≤ 19) :
    ∃ (d' : D) (w : Str) (x : Sl), forLoop (gN 7) lb_law_names_1 (rngD 0 n) (nmS d k st names x5 (.pl (.str z)) x7) = .nx (nmS d' k st names x5 (.pl (.str w)) x) ∧ Tape d' ∧ Stem w ∧ 1 ≤ w.length ∧ w.length ≤ 21 := by
  obtain ⟨s1, e1, d', w, x, rfl, hT, hw, hw1, hw2⟩ := for_inv (g := gN 7) (u := lb_law_names_1) (fun j s => ∃ d' w x, s = nmS d' k st names x5 (.pl (.str w)) x ∧ Tape d' ∧ Stem w ∧ 1 ≤ w.length ∧ w.length ≤ 19 + j) (rngD 0 n) 0 (fun j hj s ⟨d', w, x, e, hT, hw, hw1, hw2⟩ => by
    subst e
    rw [rngD_len] at hj
    obtain ⟨c, d2, e2, hT2, hc⟩ := pick_str hT (z := ltS ++ dgS) (by rw [pool_len]; omega) (by rw [pool_len]; omega)
    have ha := addS (a := ltS) (b := dgS) (by rw [lt_len, dg_len]; omega)
    have hb := addS (a := w) (b := ⟨#[c]⟩) (by rw [len_ch]; omega)
    refine ⟨nmS d2 k st names x5 (.pl (.str (w ++ ⟨#[c]⟩))) (.pl (rngD 0 n)[j]), .inl ?_, d2, w ++ ⟨#[c]⟩, _, rfl, hT2, stem_app hw (pool_all c hc) (.inl hw1), by rw [len_app]; omega, by rw [len_app, len_ch]; omega⟩
    unfold nmS
    generalize ltS ++ dgS = PS at *
    generalize names.map D.str = NS at *
    simp [stepF_run, lb_law_names_1, ha, e2, hb]) _ ⟨d, z, x7, rfl, hd, hz, h1, by omega⟩
  rw [rngD_len] at hw2
  exact ⟨d', w, x, e1, hT, hw, hw1, by omega⟩
theorem names_ok {d : D} (hd : Tape d) (k : Nat) (hk : k ≤ 6) : ∃ (zs : List Str) (d' : D), G_law_names [d, .int k] = .ok (.lst (zs.map .str)) (some d') ∧ Tape d' ∧ zs.length = k ∧ zs.Nodup ∧ ∀ z ∈ zs, NameOk z := by
  obtain ⟨n0, d1, e1, hT1, hn0, hn1⟩ := draw_ok hd (many := 19) (by omega)
  obtain ⟨n, d2, e2, hT2, hn⟩ := pickF_ok D.int hT1 (row := [0, 0, 0, 1, 18, n0]) (by simp) (by simp)
  simp only [List.map_cons, List.map_nil] at e2
  have hnb : 0 ≤ n ∧ n ≤ 18 := by
    simp only [List.mem_cons, List.not_mem_nil, or_false] at hn
    rcases hn with rfl | rfl | rfl | rfl | rfl | rfl <;> omega
  obtain ⟨m, rfl⟩ : ∃ m : Nat, n = (m : Int) := ⟨n.toNat, by omega⟩
  have hcut := cutB_str none (some (m : Int)) stS (by rw [st_len]; omega)
  have hst := stem_take st_stem m
  have hsl := len_cut stS m
  rw [st_len] at hsl
  generalize cutS stS none (some (m : Int)) = st at hcut hst hsl
  obtain ⟨s1, e3, d3, names, x5, x6, x7, rfl, hT3, hl, hnd, hok⟩ := for_inv (g := gN 5) (u := lb_law_names_2) (fun j s => ∃ d' names x5 x6 x7, s = nmS d' k st names x5 x6 x7 ∧ Tape d' ∧ names.length = j ∧ names.Nodup ∧ ∀ z ∈ names, NameOk z) (rngD 0 k) 0 (fun j hj s ⟨d', names, x5, x6, x7, e, hT, hl, hnd, hok⟩ => by
    subst e
    rw [rngD_len] at hj
    obtain ⟨q, d4, e4, hT4, hq0, hq1⟩ := draw_ok hT (many := 52) (by omega)
    have hll := len_cps ltS
    rw [lt_len] at hll
    have hqk : q.toNat < (cpsL ltS).length := by omega
    obtain ⟨ch, hch⟩ : ∃ ch, (cpsL ltS)[q.toNat]? = some ch := ⟨_, List.getElem?_eq_getElem hqk⟩
    have hcm : ch ∈ cpsL ltS := List.mem_of_getElem? hch
    have hix : oIxB (.str ltS) (.int q) = some (.str ⟨#[ch]⟩) := oIxB_str (by rw [lt_len]; omega) (by
      show atI (cpsL ltS) q = _
      rw [atI_int _ _ ⟨hq0, by omega⟩, hch])
    have ha := addS (a := st) (b := ⟨#[ch]⟩) (by rw [len_ch]; omega)
    have hs1 := stem_app hst (nc_of_lt (lt_all ch hcm)) (.inr (lt_all ch hcm))
    have hs2 : (st ++ ⟨#[ch]⟩ : Str).length = st.length + 1 := by rw [len_app, len_ch]
    obtain ⟨r, d5, e5, hT5, hr⟩ := pickF_ok D.int hT4 (row := [0, 0, 1, 2]) (by simp) (by simp)
    simp only [List.map_cons, List.map_nil] at e5
    have hrb : 0 ≤ r ∧ r ≤ 2 := by
      simp only [List.mem_cons, List.not_mem_nil, or_false] at hr
      rcases hr with rfl | rfl | rfl | rfl <;> omega
    obtain ⟨rn, rfl⟩ : ∃ rn : Nat, r = (rn : Int) := ⟨r.toNat, by omega⟩
    have hrg := rng1_nat (n := rn) (by omega)
    obtain ⟨d6, w, x, e6, hT6, hw, hw1, hw2⟩ := names_in hT5 k st names (.pl (rngD 0 k)[j]) x7 rn (by omega) hs1 (by omega) (by omega)
    have hcw := cutB_str none (some ((20 : Nat) : Int)) w (by omega)
    have hcs := stem_take hw 20
    have hcl := len_cut w 20
    generalize cutS w none (some ((20 : Nat) : Int)) = y at hcw hcs hcl
    have hf := fresh_run y names 19 (by omega) (by omega)
    have hfn := fresh_new (names := names) (by omega) 19 y
    have hfk := fresh_keep (names := names) (m := 19) NameOk (fun z c h hc => name_sign h hc) (z := y) ⟨hcs, by omega, by omega⟩
    generalize freshN names 19 y = v at hf hfn hfk
    refine ⟨nmS d6 k st (names ++ [v]) (.pl (rngD 0 k)[j]) (.pl (.str w)) x, .inl ?_, d6, names ++ [v], _, _, _, rfl, hT6, by simp; omega, ?_, ?_⟩
    · have hlt : names.length < 100000 := by omega
      unfold nmS at e6 ⊢
      have hml : (names.map D.str).length = names.length := by simp
      rw [List.map_append, List.map_cons, List.map_nil]
      generalize names.map D.str = NS at *
      rw [show ((20 : Nat) : Int) = 20 from rfl] at hcw
      rw [show ((19 : Nat) : Int) + 1 = 20 from rfl] at hf
      simp [stepF_run, lb_law_names_2, e4, hix, ha, e5, hrg, e6, hcw, hf, hml, hlt]
    · exact List.nodup_append.mpr ⟨hnd, by simp, fun a ha b hb => by rw [List.mem_singleton.mp hb]; exact fun z => hfn (z ▸ ha)⟩
    · intro z hz
      rcases List.mem_append.mp hz with hz | hz
      · exact hok z hz
      · rw [List.mem_singleton.mp hz]; exact hfk) (nmS d2 k st [] .no .no .no) ⟨d2, [], .no, .no, .no, rfl, hT2, rfl, List.nodup_nil, fun z hz => by cases hz⟩
  rw [rngD_len] at hl
  refine ⟨names, d3, ?_, hT3, by omega, hnd, hok⟩
  have hrk := rng1_nat (n := k) (by omega)
  have h0 : G_law_names [d, .int k] = fnRes true false (u_law_names [.ow d, .vw (.int k), .no, .no, .no, .no, .no, .no]) := by simp [G_law_names, initS]
  rw [h0]
  unfold u_law_names
  unfold nmS at e3
  simp only [List.map_nil] at e3
  generalize names.map D.str = NS at *
  refine step1 (s' := [.ow d, .vw (.int k), .pl (.str ltS), .no, .no, .no, .no, .no]) (by simp) ?_
  refine step1 (s' := [.ow d2, .vw (.int k), .pl (.str ltS), .pl (.str st), .no, .no, .no, .no]) (by simp [e1, e2, hcut]) ?_
  refine step1 (s' := [.ow d2, .vw (.int k), .pl (.str ltS), .pl (.str st), .ow (.lst []), .no, .no, .no]) (by simp) ?_
  simp [hrk, e3]
end LK

set_option maxRecDepth 100000
set_option autoImplicit false
set_option linter.all false
namespace LK
open PySem PySem.Spec PyProof.Rows L2 DL
abbrev prS : Str := " !\"#$&'()*+,-./0123456789:;<=>?@ABCDEFGHIJKLMNOPQRSTUVWXYZ[\\]^_`abcdefghijklmnopqrstuvwxyz{|}~"
abbrev lbS : Str := "label "
theorem pr_len : prS.length = 94 := by decide +kernel
theorem pr_all : ∀ c ∈ cpsL prS, isPr c = true := by decide +kernel
theorem lb_len : lbS.length = 6 := by decide +kernel
theorem lb_all : ∀ c ∈ cpsL lbS, isPr c = true := by decide +kernel
def lbSt (d : D) (st : Str) (labs : List Str) (x4 x5 x6 : Sl) : DS := [.ow d, .pl (.str prS), .pl (.str st), .ow (.lst (labs.map .str)), x4, x5, x6]
theorem labs_in {d : D} (hd : Tape d) (st : Str) (labs : List Str) (x4 x6 : Sl) (n : Nat) (hn : n ≤ 2) {z : Str} (hz : ∀ c ∈ cpsL z, isPr c = true) (h2 : z.length ≤ 6) :
    ∃ (d' : D) (w : Str) (x : Sl), forLoop (gN 6) lb_law_labels_1 (rngD 0 n) (lbSt d st labs x4 (.pl (.str z)) x6) = .nx (lbSt d' st labs x4 (.pl (.str w)) x) ∧ Tape d' ∧ LabOk w := by
  obtain ⟨s1, e1, d', w, x, rfl, hT, hw, hw2⟩ := for_inv (g := gN 6) (u := lb_law_labels_1) (fun j s => ∃ d' w x, s = lbSt d' st labs x4 (.pl (.str w)) x ∧ Tape d' ∧ (∀ c ∈ cpsL w, isPr c = true) ∧ w.length ≤ 6 + j) (rngD 0 n) 0 (fun j hj s ⟨d', w, x, e, hT, hw, hw2⟩ => by
    subst e
    rw [rngD_len] at hj
    obtain ⟨c, d2, e2, hT2, hc⟩ := pick_str hT (z := prS) (by rw [pr_len]; omega) (by rw [pr_len]; omega)
    have hb := addS (a := w) (b := ⟨#[c]⟩) (by rw [len_ch]; omega)
    refine ⟨lbSt d2 st labs x4 (.pl (.str (w ++ ⟨#[c]⟩))) (.pl (rngD 0 n)[j]), .inl ?_, d2, w ++ ⟨#[c]⟩, _, rfl, hT2, fun x hx => ?_, by rw [len_app, len_ch]; omega⟩
    · unfold lbSt
      generalize prS = PS at *
      generalize labs.map D.str = NS at *
      simp [stepF_run, lb_law_labels_1, e2, hb]
    · rw [cps_app, ch_cps] at hx
      rcases List.mem_append.mp hx with hx | hx
      · exact hw x hx
      · rw [List.mem_singleton.mp hx]; exact pr_all c hc) _ ⟨d, z, x6, rfl, hd, hz, by omega⟩
  rw [rngD_len] at hw2
  exact ⟨d', w, x, e1, hT, by omega, hw⟩
theorem labels_ok {d : D} (hd : Tape d) : ∃ (zs : List Str) (d' : D), G_law_labels [d] = .ok (.tup (zs.map .str)) (some d') ∧ Tape d' ∧ 1 ≤ zs.length ∧ zs.length ≤ 6 ∧ zs.Nodup ∧ ∀ z ∈ zs, LabOk z := by
  obtain ⟨n0, d1, e1, hT1, hn0, hn1⟩ := draw_ok hd (many := 7) (by omega)
  obtain ⟨n, d2, e2, hT2, hn⟩ := pickF_ok D.int hT1 (row := [0, 0, 6, n0]) (by simp) (by simp)
  simp only [List.map_cons, List.map_nil] at e2
  have hnb : 0 ≤ n ∧ n ≤ 6 := by
    simp only [List.mem_cons, List.not_mem_nil, or_false] at hn
    rcases hn with rfl | rfl | rfl | rfl <;> omega
  obtain ⟨m, rfl⟩ : ∃ m : Nat, n = (m : Int) := ⟨n.toNat, by omega⟩
  have hcut := cutB_str none (some (m : Int)) lbS (by rw [lb_len]; omega)
  have hst : ∀ c ∈ cpsL (cutS lbS none (some (m : Int))), isPr c = true := fun c hc => by
    rw [cps_cut] at hc
    exact lb_all c (List.mem_of_mem_take hc)
  have hsl := len_cut lbS m
  rw [lb_len] at hsl
  generalize cutS lbS none (some (m : Int)) = st at hcut hst hsl
  obtain ⟨kk, d2b, e2b, hT2b, hk0, hk1⟩ := draw_ok hT2 (many := 6) (by omega)
  obtain ⟨k, hk⟩ : ∃ k : Nat, 1 + kk = (k : Int) := ⟨(1 + kk).toNat, by omega⟩
  obtain ⟨s1, e3, d3, labs, x4, x5, x6, rfl, hT3, hl, hnd, hok⟩ := for_inv (g := gN 4) (u := lb_law_labels_2) (fun j s => ∃ d' labs x4 x5 x6, s = lbSt d' st labs x4 x5 x6 ∧ Tape d' ∧ labs.length = j ∧ labs.Nodup ∧ ∀ z ∈ labs, LabOk z) (rngD 0 k) 0 (fun j hj s ⟨d', labs, x4, x5, x6, e, hT, hl, hnd, hok⟩ => by
    subst e
    rw [rngD_len] at hj
    obtain ⟨r, d5, e5, hT5, hr⟩ := pickF_ok D.int hT (row := [0, 1, 1, 2]) (by simp) (by simp)
    simp only [List.map_cons, List.map_nil] at e5
    have hrb : 0 ≤ r ∧ r ≤ 2 := by
      simp only [List.mem_cons, List.not_mem_nil, or_false] at hr
      rcases hr with rfl | rfl | rfl | rfl <;> omega
    obtain ⟨rn, rfl⟩ : ∃ rn : Nat, r = (rn : Int) := ⟨r.toNat, by omega⟩
    have hrg := rng1_nat (n := rn) (by omega)
    obtain ⟨d6, w, x, e6, hT6, hw⟩ := labs_in hT5 st labs (.pl (rngD 0 k)[j]) x6 rn (by omega) hst (by omega)
    have hf := fresh_run w labs 7 (by have := hw.1; omega) (by omega)
    have hfn := fresh_new (names := labs) (by omega) 7 w
    have hfk := fresh_keep (names := labs) (m := 7) LabOk (fun z c h hc => lab_sign h hc) (z := w) hw
    generalize freshN labs 7 w = v at hf hfn hfk
    refine ⟨lbSt d6 st (labs ++ [v]) (.pl (rngD 0 k)[j]) (.pl (.str w)) x, .inl ?_, d6, labs ++ [v], _, _, _, rfl, hT6, by simp; omega, ?_, ?_⟩
    · have hlt : labs.length < 100000 := by omega
      unfold lbSt at e6 ⊢
      have hml : (labs.map D.str).length = labs.length := by simp
      rw [List.map_append, List.map_cons, List.map_nil]
      generalize labs.map D.str = NS at *
      rw [show ((7 : Nat) : Int) + 1 = 8 from rfl] at hf
      simp [stepF_run, lb_law_labels_2, e5, hrg, e6, hf, hml, hlt]
    · exact List.nodup_append.mpr ⟨hnd, by simp, fun a ha b hb => by rw [List.mem_singleton.mp hb]; exact fun z => hfn (z ▸ ha)⟩
    · intro z hz
      rcases List.mem_append.mp hz with hz | hz
      · exact hok z hz
      · rw [List.mem_singleton.mp hz]; exact hfk) (lbSt d2b st [] .no .no .no) ⟨d2b, [], .no, .no, .no, rfl, hT2b, rfl, List.nodup_nil, fun z hz => by cases hz⟩
  rw [rngD_len] at hl
  refine ⟨labs, d3, ?_, hT3, by omega, by omega, hnd, hok⟩
  have hrk := rng1_nat (n := k) (by omega)
  have h0 : G_law_labels [d] = fnRes true false (u_law_labels [.ow d, .no, .no, .no, .no, .no, .no]) := by simp [G_law_labels, initS]
  rw [h0]
  unfold u_law_labels
  unfold lbSt at e3
  simp only [List.map_nil] at e3
  have htu : oTuple (.lst (labs.map .str)) = some (.tup (labs.map .str)) := rfl
  generalize labs.map D.str = NS at *
  refine step1 (s' := [.ow d, .pl (.str prS), .no, .no, .no, .no, .no]) (by simp) ?_
  refine step1 (s' := [.ow d2, .pl (.str prS), .pl (.str st), .no, .no, .no, .no]) (by simp [e1, e2, hcut]) ?_
  refine step1 (s' := [.ow d2, .pl (.str prS), .pl (.str st), .ow (.lst []), .no, .no, .no]) (by simp) ?_
  simp [e2b, hk, hrk, e3, htu]
end LK

set_option maxRecDepth 100000
set_option autoImplicit false
set_option linter.all false
namespace LK
open PySem PySem.Spec PyProof.Rows L2 DL
/-! what the laws about windows draw -/
@[simp] theorem bEqA_nl : bEqA (.lst []) (.lst []) = some true := by simpa using bEqA_lsts [] []
theorem within_ok (v : Int) {top : Int} (h : 0 ≤ top) (h2 : top < 18446744073709551616) : ∃ r, G_law_within [.int v, .int top] = .ok (.int r) none ∧ -top ≤ r ∧ r ≤ top := by
  refine ⟨(v + top) % (2 * top + 1) - top, ?_, ?_, ?_⟩
  · simp [G_law_within, u_law_within, initS, show 0 < 2 * top + 1 by omega, show top < 18446744073709551616 by omega]
  · have := Int.emod_nonneg (v + top) (show 2 * top + 1 ≠ 0 by omega); omega
  · have := Int.emod_lt_of_pos (v + top) (show 0 < 2 * top + 1 by omega); omega
theorem number_ok {d : D} (hd : Tape d) : ∃ x d', G_law_number [d] = .ok (.int x) (some d') ∧ Tape d' ∧ -1000000000 ≤ x ∧ x ≤ 1000000000 := by
  obtain ⟨m, d1, e1, hT1, hm⟩ := pick_ok hd (row := [.int 2, .int 10, .int 300, .int 70000, .int 1000000001]) (by simp) (by simp)
  obtain ⟨k, rfl, hk0, hk1⟩ : ∃ k : Int, m = .int k ∧ 1 ≤ k ∧ k ≤ 1000000001 := by
    simp only [List.mem_cons, List.not_mem_nil, or_false] at hm
    rcases hm with rfl | rfl | rfl | rfl | rfl <;> exact ⟨_, rfl, by decide, by decide⟩
  obtain ⟨n, d2, e2, hT2, hn0, hn1⟩ := draw_ok hT1 (many := k) (by omega)
  obtain ⟨t, d3, e3, hT3, ht0, ht1⟩ := draw_ok hT2 (many := 2) (by omega)
  have ht : t = 0 ∨ t = 1 := by omega
  rcases ht with rfl | rfl
  · exact ⟨n, d3, by simp [G_law_number, u_law_number, initS, e1, e2, e3], hT3, by omega, by omega⟩
  · refine ⟨-n, d3, ?_, hT3, by omega, by omega⟩
    have ha : ∀ (a b : D), atI [a, b] 1 = some b := fun _ _ => rfl
    simp [G_law_number, u_law_number, initS, e1, e2, e3, ha]
theorem pick_int {d : D} (hd : Tape d) {vs : List Int} (h0 : vs ≠ []) (hl : vs.length ≤ 1000) : ∃ x d', G_law_pick [d, .lst (vs.map .int)] = .ok (.int x) (some d') ∧ Tape d' ∧ x ∈ vs := by
  obtain ⟨y, d1, e1, hT1, hy⟩ := pick_ok hd (row := vs.map D.int) (by simpa using h0) (by simp; omega)
  obtain ⟨x, hx, rfl⟩ := List.mem_map.mp hy
  exact ⟨x, d1, e1, hT1, hx⟩
theorem pow40 {w : Int} (h0 : 0 ≤ w) (h1 : w ≤ 40) : (1 : Int) ≤ 2 ^ w.toNat ∧ (2 : Int) ^ w.toNat ≤ 1099511627776 := by
  have h := two_pow_le (n := w.toNat) (m := 40) (by omega)
  have h2 := two_pow_ge w.toNat
  have e : (2 : Int) ^ 40 = 1099511627776 := by decide
  exact ⟨h2, by omega⟩
theorem spots_ok {d : D} (hd : Tape d) {many w top : Int} (hm0 : 0 ≤ many) (hm1 : many ≤ 1000) (hw0 : 0 ≤ w) (hw1 : w ≤ 40) (ht0 : 0 ≤ top) (ht1 : top < 18446744073709551616) :
    ∃ (vs : List Int) (d' : D), G_law_spots [d, .int many, .int w, .int top] = .ok (.lst (vs.map .int)) (some d') ∧ Tape d' ∧ (vs.length : Int) = many ∧ ∀ v ∈ vs, -top ≤ v ∧ v ≤ top := by
  obtain ⟨hp0, hp1⟩ := pow40 hw0 hw1
  have hsh := shl_one hw0 (show w ≤ 1000 by omega)
  generalize (2 : Int) ^ w.toNat = W at hp0 hp1 hsh
  obtain ⟨st, d1, e1, hT1, _, _⟩ := number_ok hd
  obtain ⟨n, rfl⟩ : ∃ n : Nat, many = (n : Int) := ⟨many.toNat, by omega⟩
  have turn : ∀ (vs : List Int) (d : D) (x7 x8 x9 : Sl) (c : D), Tape d → vs.length ≤ 1000 → ∃ (v : Int) (d' : D) (x8' x9' : Sl), stepF (gN 7) lb_law_spots_1 c [.ow d, .vw (.int n), .vw (.int w), .vw (.int top), .pl (.int W), .pl (.int st), .ow (.lst (vs.map .int)), x7, x8, x9] =
      .nx [.ow d', .vw (.int n), .vw (.int w), .vw (.int top), .pl (.int W), .pl (.int st), .ow (.lst ((vs ++ [v]).map .int)), .pl c, x8', x9'] ∧ Tape d' ∧ -top ≤ v ∧ v ≤ top := by
    intro vs d x7 x8 x9 c hT hvl
    obtain ⟨ch, d1, e1, hT1, hc0, hc1⟩ := draw_ok hT (many := 6) (by omega)
    obtain ⟨q, d2, e2, hT2, hq0, hq1⟩ := draw_ok hT1 (many := 4) (by omega)
    have hq := bEqA_lsts vs []
    simp only [List.map_nil] at hq
    have hlt : vs.length < 100000 := by omega
    have fin : ∀ v : Int, ∃ r, G_law_within [.int v, .int top] = .ok (.int r) none ∧ -top ≤ r ∧ r ≤ top := fun v => within_ok v ht0 ht1
    by_cases h1 : vs ≠ [] ∧ ch = 1
    · obtain ⟨hne, rfl⟩ := h1
      obtain ⟨v, d3, e3, hT3, _⟩ := pick_int hT2 hne hvl
      obtain ⟨r, er, hr⟩ := fin v
      exact ⟨r, d3, _, _, by simp [stepF_run, lb_law_spots_1, e1, e2, hq, hne, e3, er, hlt]; first | exact ⟨rfl, rfl⟩ | rfl, hT3, hr⟩
    · have hb1 : (!decide (vs = []) && decide (ch = 1)) = false := by
        simp only [Bool.and_eq_false_iff, Bool.not_eq_false', decide_eq_true_eq, decide_eq_false_iff_not]
        by_cases hv : vs = []
        · exact .inl hv
        · exact .inr fun z => h1 ⟨hv, z⟩
      by_cases h2 : ch = 2
      · subst h2
        obtain ⟨v, d3, e3, hT3, _⟩ := draw_ok hT2 (many := 3 * W) (by omega)
        obtain ⟨r, er, hr⟩ := fin (st + v)
        by_cases hv : vs = [] <;>
        exact ⟨r, d3, _, _, by simp [stepF_run, lb_law_spots_1, e1, e2, hq, hv, e3, er, hlt]; first | exact ⟨rfl, rfl⟩ | rfl, hT3, hr⟩
      · by_cases h3 : ch = 3
        · subst h3
          obtain ⟨v, d3, e3, hT3⟩ := any_ok hT2
          obtain ⟨r, er, hr⟩ := fin v
          by_cases hv : vs = [] <;>
          exact ⟨r, d3, _, _, by simp [stepF_run, lb_law_spots_1, e1, e2, hq, hv, e3, er, hlt]; first | exact ⟨rfl, rfl⟩ | rfl, hT3, hr⟩
        · by_cases hv : vs = []
          · obtain ⟨r, er, hr⟩ := fin (st + q)
            subst hv
            exact ⟨r, d2, _, _, by simp [stepF_run, lb_law_spots_1, e1, e2, hq, h2, h3, er, hlt]; first | exact ⟨rfl, rfl⟩ | rfl, hT2, hr⟩
          · have hn1 : ch ≠ 1 := fun z => h1 ⟨hv, z⟩
            by_cases h4 : 3 < ch
            · obtain ⟨v, d3, e3, hT3, _⟩ := pick_int hT2 hv hvl
              obtain ⟨x, d4, e4, hT4, hx⟩ := pick_int hT3 (vs := [1, -1, W - 1, 1 - W, W, -W]) (by simp) (by simp)
              simp only [List.map_cons, List.map_nil] at e4
              obtain ⟨r, er, hr⟩ := fin (v + x)
              exact ⟨r, d4, _, _, by simp [stepF_run, lb_law_spots_1, e1, e2, hq, hv, hn1, h2, h3, h4, e3, e4, er, hlt]; first | exact ⟨rfl, rfl⟩ | rfl, hT4, hr⟩
            · obtain ⟨r, er, hr⟩ := fin (st + q)
              exact ⟨r, d2, _, _, by simp [stepF_run, lb_law_spots_1, e1, e2, hq, hv, hn1, h2, h3, h4, er, hlt]; first | exact ⟨rfl, rfl⟩ | rfl, hT2, hr⟩
  have h2 := fun hx => for_inv (g := gN 7) (u := lb_law_spots_1) (fun k s => ∃ (vs : List Int) (d : D) (x7 x8 x9 : Sl), s = [.ow d, .vw (.int n), .vw (.int w), .vw (.int top), .pl (.int W), .pl (.int st), .ow (.lst (vs.map .int)), x7, x8, x9] ∧ Tape d ∧ vs.length = k ∧ ∀ v ∈ vs, -top ≤ v ∧ v ≤ top) (rngD 0 n) 0 (fun k hk s ⟨vs, d, x7, x8, x9, es, hT, hk2, hv⟩ => by
    subst es
    rw [rngD_len] at hk
    obtain ⟨v, d', x8', x9', e, hT', hv0, hv1⟩ := turn vs d x7 x8 x9 (rngD 0 n)[k] hT (by omega)
    refine ⟨_, .inl e, vs ++ [v], d', _, _, _, rfl, hT', by simp; omega, fun y hy => ?_⟩
    rcases List.mem_append.mp hy with hy | hy
    · exact hv y hy
    · simp at hy; subst hy; exact ⟨hv0, hv1⟩) [.ow d1, .vw (.int n), .vw (.int w), .vw (.int top), .pl (.int W), .pl (.int st), .ow (.lst []), .no, .no, .no] hx
  obtain ⟨s1, e2, vs, d2, x7, x8, x9, es, hT2, hvl, hv⟩ := h2 ⟨[], d1, _, _, _, rfl, hT1, rfl, fun v h => nomatch h⟩
  subst es
  rw [rngD_len] at hvl
  exact ⟨vs, d2, by simp [G_law_spots, u_law_spots, initS, hsh, e1, rng1_nat (show n ≤ 1000000 by omega), e2], hT2, by omega, hv⟩
end LK

set_option maxRecDepth 100000
set_option autoImplicit false
set_option linter.all false
namespace LK
open PySem PySem.Spec PyProof.Rows L2 DL WM
theorem distinct_ok {xs : List Int} (hl : xs.length ≤ 1000) : G_law_distinct [.lst (xs.map .int)] = .ok (.lst ((dd none (sortI xs)).map .int)) none := by
  have key : ∀ (l acc : List Int) (x2 : Sl), acc.length + l.length ≤ 1000 → ∃ x2', forLoop (gN 2) lb_law_distinct_1 (l.map .int) [.vw (.lst (xs.map .int)), .ow (.lst (acc.map .int)), x2] = .nx [.vw (.lst (xs.map .int)), .ow (.lst ((acc ++ dd acc.getLast? l).map .int)), x2'] := by
    intro l
    induction l with
    | nil => intro acc x2 _; exact ⟨x2, by simp [dd]⟩
    | cons x l ih =>
      intro acc x2 hn
      simp only [List.length_cons] at hn
      have hq := bEqA_lsts acc []
      have hlt : acc.length < 100000 := by omega
      unfold dd
      by_cases h : acc.getLast? = some x
      · obtain ⟨a0, rfl⟩ : ∃ a0, acc = a0 ++ [x] := List.getLast?_eq_some_iff.mp h
        obtain ⟨x2', e⟩ := ih (a0 ++ [x]) (.pl (.int x)) (by omega)
        have hat := DL.atI_last (a0.map D.int) (D.int x)
        refine ⟨x2', ?_⟩
        rw [if_pos h, ← e]
        simp only [List.map_append, List.map_cons, List.map_nil] at hq ⊢
        simp [forLoop_cons, lb_law_distinct_1, hq, hat]
      · rw [if_neg h]
        obtain ⟨x2', e⟩ := ih (acc ++ [x]) (.pl (.int x)) (by simp; omega)
        rw [List.getLast?_concat, List.append_assoc] at e
        refine ⟨x2', ?_⟩
        show _ = SRes.nx [_, .ow (.lst ((acc ++ ([x] ++ dd (some x) l)).map .int)), _]
        rw [← e]
        rcases List.eq_nil_or_concat acc with rfl | ⟨a0, z, rfl⟩
        · have hq0 : bEqA (.lst []) (.lst []) = some true := by simpa using hq
          simp [forLoop_cons, lb_law_distinct_1, hq0]
        · have hz : z ≠ x := fun q => h (by rw [q]; simp)
          have hat := DL.atI_last (a0.map D.int) (D.int z)
          simp only [List.concat_eq_append, List.map_append, List.map_cons, List.map_nil, List.length_append, List.length_cons, List.length_nil] at hq hlt ⊢
          simp [forLoop_cons, lb_law_distinct_1, hq, hat, hz, show a0.length + 1 < 100000 by omega]
  obtain ⟨x2', e⟩ := key (sortI xs) [] .no (by rw [(sortI_perm xs).length_eq]; simpa using hl)
  simp only [List.map_nil, List.getLast?_nil, List.nil_append] at e
  simp [G_law_distinct, u_law_distinct, initS, e]
end LK

set_option maxRecDepth 100000
set_option autoImplicit false
set_option linter.all false
namespace LK
open PySem PySem.Spec PyProof.Rows L2 DL WM
/-! the columns that the laws draw -/
theorem add_lst2 {xs ys zs : List D} (h : xs.length + ys.length ≤ 100000) (e : xs ++ ys = zs) : oAddA (.lst xs) (.lst ys) = some (.lst zs) := by rw [add_lst h, e]
theorem mem_bound {vs : List Int} {v : Int} {top : Int} (h : ∀ x ∈ vs, -top ≤ x ∧ x ≤ top) (hv : -top ≤ v ∧ v ≤ top) : ∀ x ∈ vs ++ [v], -top ≤ x ∧ x ≤ top := fun x hx => by
  rcases List.mem_append.mp hx with hx | hx
  · exact h x hx
  · simp at hx; subst hx; exact hv
theorem column_ok {d : D} (hd : Tape d) {many : Nat} (hm : many ≤ 1000) {top : Int} (ht0 : 0 ≤ top) (ht1 : top < 18446744073709551616) :
    ∃ (vs : List Int) (d' : D), G_law_column [d, .int many, .int top] = .ok (.lst (vs.map .int)) (some d') ∧ Tape d' ∧ vs.length = many ∧ ∀ v ∈ vs, -top ≤ v ∧ v ≤ top := by
  obtain ⟨st, d1, e1, hT1, hs0, hs1⟩ := draw_ok hd (many := 6) (by omega)
  obtain ⟨nb, d2, e2, hT2, _, _⟩ := number_ok hT1
  obtain ⟨val, e3, hv0, hv1⟩ := within_ok nb ht0 ht1
  have hr := rng1_nat (n := many) (by omega)
  have hrl : ¬ 100000 < (rngD 0 many).length := by rw [rngD_len]; omega
  by_cases c0 : st = 0
  · subst c0
    obtain ⟨pk, d3, e4, hT3, hp⟩ := pick_int hT2 (vs := [val, top, -top]) (by simp) (by simp)
    obtain ⟨k, d4, e5, hT4, hk0, hk1⟩ := draw_ok hT3 (many := 4) (by omega)
    obtain ⟨kn, rfl⟩ : ∃ n : Nat, k = (n : Int) := ⟨k.toNat, by omega⟩
    simp only [List.map_cons, List.map_nil] at e4
    have hpk : -top ≤ pk ∧ pk ≤ top := by
      simp only [List.mem_cons, List.not_mem_nil, or_false] at hp
      rcases hp with rfl | rfl | rfl <;> omega
    obtain ⟨S1, acc1, e6, d5, vs1, rfl, hacc1, hT5, hl1, hb1⟩ := lc_inv (g := gN 8) (vs := [8]) (t := mYes) (me := ce_law_column_1) (fun n s acc => ∃ (d' : D) (vs : List Int), s = [.ow d', .vw (.int many), .pl (.int top), .pl (.int 0), .pl (.int val), .pl (.lst [.int val, .int pk]), .no, .no, .no] ∧ acc = vs.map D.int ∧ Tape d' ∧ vs.length = n ∧ ∀ v ∈ vs, -top ≤ v ∧ v ≤ top) (rngD 0 kn) 0 (fun n hn s acc ⟨d', vs, e, hacc, hT, hl, hb⟩ => by
      subst e hacc
      obtain ⟨y, d6, e7, hT6, _, _⟩ := number_ok hT
      obtain ⟨w, e8, hw0, hw1⟩ := within_ok y ht0 ht1
      exact ⟨_, (vs ++ [w]).map D.int, by simp [stepL_run, ce_law_column_1, e7, e8], d6, vs ++ [w], rfl, rfl, hT6, by simp; omega, mem_bound hb ⟨hw0, hw1⟩⟩) [.ow d4, .vw (.int many), .pl (.int top), .pl (.int 0), .pl (.int val), .pl (.lst [.int val, .int pk]), .no, .no, .no] [] ⟨d4, [], rfl, rfl, hT4, rfl, fun v h => nomatch h⟩
    subst hacc1
    rw [rngD_len] at hl1
    have hmenu : ∀ v ∈ [val, pk] ++ vs1, -top ≤ v ∧ v ≤ top := fun v hv => by
      rcases List.mem_append.mp hv with hv | hv
      · simp only [List.mem_cons, List.not_mem_nil, or_false] at hv
        rcases hv with rfl | rfl
        · exact ⟨hv0, hv1⟩
        · exact hpk
      · exact hb1 v hv
    have hadd := add_ints (xs := [val, pk]) (ys := vs1) (by simp; omega)
    simp only [List.map_cons, List.map_nil] at hadd
    have hml : ([val, pk] ++ vs1).length ≤ 1000 := by simp; omega
    have hmn : [val, pk] ++ vs1 ≠ [] := by simp
    generalize [val, pk] ++ vs1 = menu at hadd hmenu hml hmn
    obtain ⟨S2, acc2, e9, d7, vs2, rfl, hacc2, hT7, hl2, hb2⟩ := lc_inv (g := gN 8) (vs := [8]) (t := mYes) (me := ce_law_column_2) (fun n s acc => ∃ (d' : D) (vs : List Int), s = [.ow d', .vw (.int many), .pl (.int top), .pl (.int 0), .pl (.int val), .pl (.lst (menu.map .int)), .no, .no, .no] ∧ acc = vs.map D.int ∧ Tape d' ∧ vs.length = n ∧ ∀ v ∈ vs, -top ≤ v ∧ v ≤ top) (rngD 0 many) 0 (fun n hn s acc ⟨d', vs, e, hacc, hT, hl, hb⟩ => by
      subst e hacc
      obtain ⟨y, d6, e7, hT6, hy⟩ := pick_int hT hmn hml
      exact ⟨_, (vs ++ [y]).map D.int, by simp [stepL_run, ce_law_column_2, e7], d6, vs ++ [y], rfl, rfl, hT6, by simp; omega, mem_bound hb (hmenu y hy)⟩) [.ow d5, .vw (.int many), .pl (.int top), .pl (.int 0), .pl (.int val), .pl (.lst (menu.map .int)), .no, .no, .no] [] ⟨d5, [], rfl, rfl, hT5, rfl, fun v h => nomatch h⟩
    subst hacc2
    rw [rngD_len] at hl2
    have hr2 := rng1_nat (n := kn) (by omega)
    have hrl2 : ¬ 100000 < (rngD 0 kn).length := by rw [rngD_len]; omega
    refine ⟨vs2, d7, ?_, hT7, by omega, hb2⟩
    generalize menu.map D.int = MM at *
    generalize vs1.map D.int = V1 at *
    generalize vs2.map D.int = V2 at *
    simp [G_law_column, u_law_column, initS, e1, e2, e3, e4, e5, hr2, hrl2, e6, hadd, hr, hrl, e9]
  · by_cases c1 : st = 1
    · subst c1
      obtain ⟨sp, d3, e4, hT3, hp⟩ := pick_int hT2 (vs := [0, 0, 1, 7, val]) (by simp) (by simp)
      simp only [List.map_cons, List.map_nil] at e4
      obtain ⟨S1, e5, d4, v4, vs, x8, rfl, hT4, hl, hb⟩ := for_inv (g := gN 8) (u := lb_law_column_3) (fun n s => ∃ (d' : D) (v4 : Int) (vs : List Int) (x8 : Sl), s = [.ow d', .vw (.int many), .pl (.int top), .pl (.int 1), .pl (.int v4), .no, .ow (.lst (vs.map .int)), .pl (.int sp), x8] ∧ Tape d' ∧ vs.length = n ∧ ∀ v ∈ vs, -top ≤ v ∧ v ≤ top) (rngD 0 many) 0 (fun n hn s ⟨d', v4, vs, x8, e, hT, hl, hb⟩ => by
        subst e
        rw [rngD_len] at hn
        obtain ⟨y, d6, e7, hT6, _, _⟩ := number_ok hT
        obtain ⟨z, d7, e8, hT7, _⟩ := pick_int hT6 (vs := [0, 0, 0, 1, -3, y]) (by simp) (by simp)
        simp only [List.map_cons, List.map_nil] at e8
        obtain ⟨w, e9, hw0, hw1⟩ := within_ok (v4 + sp + z) ht0 ht1
        exact ⟨[.ow d7, .vw (.int many), .pl (.int top), .pl (.int 1), .pl (.int w), .no, .ow (.lst ((vs ++ [w]).map .int)), .pl (.int sp), .pl (rngD 0 many)[n]], .inl (by simp [stepF_run, lb_law_column_3, e7, e8, e9, show vs.length < 100000 by omega]), d7, w, vs ++ [w], _, rfl, hT7, by simp; omega, mem_bound hb ⟨hw0, hw1⟩⟩) [.ow d3, .vw (.int many), .pl (.int top), .pl (.int 1), .pl (.int val), .no, .ow (.lst []), .pl (.int sp), .no] ⟨d3, val, [], .no, rfl, hT3, rfl, fun v h => nomatch h⟩
      rw [rngD_len] at hl
      refine ⟨vs, d4, ?_, hT4, by omega, hb⟩
      generalize vs.map D.int = V at *
      simp [G_law_column, u_law_column, initS, e1, e2, e3, e4, hr, e5]
    · by_cases c2 : st = 2
      · subst c2
        obtain ⟨v4, d3, e4, hT3, hp⟩ := pick_int hT2 (vs := [0, val]) (by simp) (by simp)
        simp only [List.map_cons, List.map_nil] at e4
        have hv4 : -top ≤ v4 ∧ v4 ≤ top := by
          simp only [List.mem_cons, List.not_mem_nil, or_false] at hp
          rcases hp with rfl | rfl <;> omega
        have hlc := lc_map (g := gN 8) (vs := [8]) (t := mYes) (me := ce_law_column_4) (fun (j : Nat) => D.int (j : Int)) (fun _ => D.int v4) [.ow d3, .vw (.int many), .pl (.int top), .pl (.int 2), .pl (.int v4), .no, .ow (.lst []), .no, .no] (List.range many) (fun j _ acc => by
          simp [stepL_run, ce_law_column_4]) []
        have hrep : ((List.range many).map fun _ => D.int v4) = (List.replicate many v4).map D.int := by
          rw [List.map_replicate]
          apply List.ext_getElem (by simp)
          intro i h1 h2
          simp
        rw [← rngD0, List.nil_append, hrep] at hlc
        by_cases h0 : many = 0
        · have hrb : ∀ v ∈ List.replicate many v4, -top ≤ v ∧ v ≤ top := fun v hv => by
            rw [(List.mem_replicate.mp hv).2]; exact hv4
          refine ⟨List.replicate many v4, d3, ?_, hT3, by simp, hrb⟩
          generalize (List.replicate many v4).map D.int = M1 at *
          simp [G_law_column, u_law_column, initS, e1, e2, e3, e4, hr, hrl, hlc, show ¬ 0 < many by omega]
        · obtain ⟨q, d5, e5, hT5, hq0, hq1⟩ := draw_ok hT3 (many := 2) (by omega)
          have hrb : ∀ v ∈ List.replicate many v4, -top ≤ v ∧ v ≤ top := fun v hv => by
            rw [(List.mem_replicate.mp hv).2]; exact hv4
          by_cases hq : q = 0
          · subst hq
            obtain ⟨an, d6, e6, hT6⟩ := any_ok hT5
            obtain ⟨w, e7, hw0, hw1⟩ := within_ok an ht0 ht1
            obtain ⟨ix, d7, e8, hT7, hi0, hi1⟩ := draw_ok hT6 (many := (many : Int)) (by omega)
            have hix := ixN_int ix many ⟨hi0, by omega⟩
            have hset : ((List.replicate many v4).map D.int).set ix.toNat (.int w) = ((List.replicate many v4).set ix.toNat w).map D.int := by rw [List.map_set]
            refine ⟨(List.replicate many v4).set ix.toNat w, d7, ?_, hT7, by simp, fun v hv => ?_⟩
            · have hml : ((List.replicate many v4).map D.int).length = many := by simp
              generalize ((List.replicate many v4).set ix.toNat w).map D.int = M2 at *
              generalize (List.replicate many v4).map D.int = M1 at *
              simp [G_law_column, u_law_column, initS, e1, e2, e3, e4, hr, hrl, hlc, show 0 < many by omega, e5, e6, e7, e8, hml, hix, hset]
            · rcases List.mem_or_eq_of_mem_set hv with h | h
              · exact hrb v h
              · rw [h]; exact ⟨hw0, hw1⟩
          · refine ⟨List.replicate many v4, d5, ?_, hT5, by simp, hrb⟩
            generalize (List.replicate many v4).map D.int = M1 at *
            simp [G_law_column, u_law_column, initS, e1, e2, e3, e4, hr, hrl, hlc, show 0 < many by omega, e5, hq]
      · obtain ⟨w0, d3, e4, hT3, hw0, hw1⟩ := draw_ok hT2 (many := 31) (by omega)
        obtain ⟨w, d4, e5, hT4, hw⟩ := pick_int hT3 (vs := [0, 1, 2, 3, 4, w0]) (by simp) (by simp)
        simp only [List.map_cons, List.map_nil] at e5
        have hwb : 0 ≤ w ∧ w ≤ 40 := by
          simp only [List.mem_cons, List.not_mem_nil, or_false] at hw
          rcases hw with rfl | rfl | rfl | rfl | rfl | rfl <;> omega
        obtain ⟨vs, d5, e6, hT5, hl, hb⟩ := spots_ok hT4 (many := (many : Int)) (w := w) (top := top) (by omega) (by omega) hwb.1 hwb.2 ht0 ht1
        refine ⟨vs, d5, ?_, hT5, by omega, hb⟩
        generalize vs.map D.int = V at *
        simp [G_law_column, u_law_column, initS, e1, e2, e3, c0, c1, c2, e4, e5, e6]
theorem dd_sort_mem0 (xs : List Int) (x : Int) : x ∈ dd none (sortI xs) ↔ x ∈ xs :=
  ⟨fun h => (sortI_perm xs).mem_iff.mp (dd_mem h), fun h => dd_mem' ((sortI_perm xs).mem_iff.mpr h) (fun z => nomatch z)⟩
theorem related_end {d : D} (hd : Tape d) {ws : List Int} (hl : ws.length ≤ 1000) {top : Int} (ht0 : 0 ≤ top) (ht1 : top < 18446744073709551616) (hb : ∀ v ∈ ws, -top ≤ v ∧ v ≤ top) (a1 a3 a4 a6 a7 a8 : Sl) :
    ∃ (vs : List Int) (d' : D), fnRes true false (sSeq (sIf (mAndB (mTest2 bNeA (.r 5) (.v (mLst []))) (mTest2 bEqA (.v (mCallT G_law_draw 0 [.v (mC (.int 3))])) (.v (mC (.int 0))))) (sSetL 5 (mCallT G_law_draw 0 [.v (mOp1 oLen (.r 5))]) (mCall G_law_within [.v (mCallT G_law_any 0 []), .r 2])) sNil) (sRet (mVar 5)) [.ow d, a1, .pl (.int top), a3, a4, .ow (.lst (ws.map .int)), a6, a7, a8, .no]) = .ok (.lst (vs.map .int)) (some d') ∧ Tape d' ∧ vs.length = ws.length ∧ ∀ v ∈ vs, -top ≤ v ∧ v ≤ top := by
  have hne := ne_nil ws
  by_cases h0 : ws = []
  · rw [decide_eq_true h0] at hne
    refine ⟨ws, d, ?_, hd, rfl, hb⟩
    generalize ws.map D.int = M1 at *
    simp [hne]
  · rw [decide_eq_false h0] at hne
    have hpos : 0 < ws.length := List.length_pos_iff.mpr h0
    obtain ⟨q, d5, e5, hT5, hq0, hq1⟩ := draw_ok hd (many := 3) (by omega)
    by_cases hq : q = 0
    · subst hq
      obtain ⟨an, d6, e6, hT6⟩ := any_ok hT5
      obtain ⟨w, e7, hw0, hw1⟩ := within_ok an ht0 ht1
      obtain ⟨ix, d7, e8, hT7, hi0, hi1⟩ := draw_ok hT6 (many := (ws.length : Int)) (by omega)
      have hix := ixN_int ix ws.length ⟨hi0, by omega⟩
      have hset : (ws.map D.int).set ix.toNat (.int w) = (ws.set ix.toNat w).map D.int := by rw [List.map_set]
      refine ⟨ws.set ix.toNat w, d7, ?_, hT7, by simp, fun v hv => ?_⟩
      · have hml : (ws.map D.int).length = ws.length := by simp
        generalize (ws.set ix.toNat w).map D.int = M2 at *
        generalize ws.map D.int = M1 at *
        simp [hne, e5, e6, e7, e8, hml, hix, hset]
      · rcases List.mem_or_eq_of_mem_set hv with h | h
        · exact hb v h
        · rw [h]; exact ⟨hw0, hw1⟩
    · refine ⟨ws, d5, ?_, hT5, rfl, hb⟩
      generalize ws.map D.int = M1 at *
      simp [hne, e5, hq]
theorem noise_ok {d : D} (hd : Tape d) : ∃ (w : Int) (N : Int) (d' : D), G_law_pick [d, .lst [.int 0, .int 0, .int 1, .int 2, .int 3]] = .ok (.int w) (some d') ∧ Tape d' ∧ oShl (.int 1) (.int w) = some (.int N) ∧ 1 ≤ N ∧ N ≤ 8 := by
  obtain ⟨w, d1, e1, hT1, hw⟩ := pick_int hd (vs := [0, 0, 1, 2, 3]) (by simp) (by simp)
  simp only [List.map_cons, List.map_nil] at e1
  simp only [List.mem_cons, List.not_mem_nil, or_false] at hw
  have hwb : 0 ≤ w ∧ w ≤ 3 := by rcases hw with rfl | rfl | rfl | rfl | rfl <;> omega
  have h1 := two_pow_le (n := w.toNat) (m := 3) (by omega)
  have h2 := two_pow_ge w.toNat
  have e : (2 : Int) ^ 3 = 8 := by decide
  exact ⟨w, 2 ^ w.toNat, d1, e1, hT1, shl_one hwb.1 (by omega), h2, by omega⟩
theorem related_ok {d : D} (hd : Tape d) {vs : List Int} (hl : vs.length ≤ 1000) {top : Int} (ht0 : 0 ≤ top) (ht1 : top < 18446744073709551616) (hvb : ∀ v ∈ vs, -top ≤ v ∧ v ≤ top) :
    ∃ (ws : List Int) (d' : D), G_law_related [d, .lst (vs.map .int), .int top] = .ok (.lst (ws.map .int)) (some d') ∧ Tape d' ∧ ws.length = vs.length ∧ ∀ v ∈ ws, -top ≤ v ∧ v ≤ top := by
  obtain ⟨st, d1, e1, hT1, hs0, hs1⟩ := draw_ok hd (many := 8) (by omega)
  have hvl : (vs.map D.int).length = vs.length := by simp
  have hvl2 : ¬ 100000 < (vs.map D.int).length := by rw [hvl]; omega
  have hG : G_law_related [d, .lst (vs.map .int), .int top] = fnRes true false (u_law_related [.ow d, .pl (.lst (vs.map .int)), .pl (.int top), .no, .no, .no, .no, .no, .no, .no]) := by simp [G_law_related, initS]
  by_cases c0 : st = 0
  · subst c0
    obtain ⟨ws, d2, e2, hT2, hwl, hwb⟩ := column_ok hT1 (many := vs.length) hl ht0 ht1
    refine ⟨ws, d2, ?_, hT2, hwl, hwb⟩
    rw [hG]
    generalize vs.map D.int = V at *
    generalize ws.map D.int = W at *
    simp [u_law_related, e1, hvl, e2]
  · obtain ⟨wn, N, d2, e2, hT2, hsh, hN0, hN1⟩ := noise_ok hT1
    have hlist : oList (.lst (vs.map .int)) = some (.lst (vs.map .int)) := rfl
    rw [hG]
    unfold u_law_related
    by_cases c1 : st < 4
    · obtain ⟨nb, d3, e3, hT3, _, _⟩ := number_ok hT2
      obtain ⟨sa, d4, e4, hT4, _⟩ := pick_int hT3 (vs := [0, 0, nb]) (by simp) (by simp)
      simp only [List.map_cons, List.map_nil] at e4
      obtain ⟨S1, acc1, e5, d5, ws, rfl, hacc, hT5, hwl, hwb⟩ := lc_rel (g := gN 9) (vs := [9]) (t := mYes) (me := ce_law_related_1) D.int (fun n s acc => ∃ (d' : D) (ws : List Int), s = [.ow d', .pl (.lst (vs.map .int)), .pl (.int top), .pl (.int st), .pl (.int N), .ow (.lst (vs.map .int)), .pl (.int sa), .no, .no, .no] ∧ acc = ws.map D.int ∧ Tape d' ∧ ws.length = n ∧ ∀ v ∈ ws, -top ≤ v ∧ v ≤ top) vs (fun n hn s acc ⟨d', ws, e, hacc, hT, hl, hb⟩ => by
        subst e hacc
        obtain ⟨z, d6, e6, hT6, _, _⟩ := draw_ok hT (many := N) (by omega)
        obtain ⟨w, e7, hw0, hw1⟩ := within_ok (vs[n] + sa + z) ht0 ht1
        exact ⟨_, (ws ++ [w]).map D.int, by simp [stepL_run, ce_law_related_1, e6, e7], d6, ws ++ [w], rfl, rfl, hT6, by simp; omega, mem_bound hb ⟨hw0, hw1⟩⟩) [.ow d4, .pl (.lst (vs.map .int)), .pl (.int top), .pl (.int st), .pl (.int N), .ow (.lst (vs.map .int)), .pl (.int sa), .no, .no, .no] ⟨d4, [], rfl, rfl, hT4, rfl, fun v h => nomatch h⟩
      subst hacc
      obtain ⟨us, d6, e6, hT6, hul, hub⟩ := related_end hT5 (by omega) ht0 ht1 hwb (.pl (.lst (vs.map .int))) (.pl (.int st)) (.pl (.int N)) (.pl (.int sa)) .no .no
      refine ⟨us, d6, ?_, hT6, by omega, hub⟩
      rw [← e6]
      generalize vs.map D.int = V at *
      generalize ws.map D.int = W at *
      refine step1 (s' := [.ow d1, .pl (.lst V), .pl (.int top), .pl (.int st), .no, .no, .no, .no, .no, .no]) (by simp [e1]) ?_
      refine step1 (s' := [.ow d1, .pl (.lst V), .pl (.int top), .pl (.int st), .no, .no, .no, .no, .no, .no]) (by simp [c0]) ?_
      refine step1 (s' := [.ow d2, .pl (.lst V), .pl (.int top), .pl (.int st), .pl (.int N), .no, .no, .no, .no, .no]) (by simp [e2, hsh]) ?_
      refine step1 (s' := [.ow d2, .pl (.lst V), .pl (.int top), .pl (.int st), .pl (.int N), .ow (.lst V), .no, .no, .no, .no]) (by simp [hlist]) ?_
      refine step1 (s' := [.ow d5, .pl (.lst V), .pl (.int top), .pl (.int st), .pl (.int N), .ow (.lst W), .pl (.int sa), .no, .no, .no]) (by simp [c1, e3, e4, hvl2, e5]) ?_
      rfl
    · by_cases c2 : st < 7
      · have hdi := distinct_ok hl
        have hdm := dd_sort_mem0 vs
        have hdl : (dd none (sortI vs)).length ≤ 1000 := by
          have := dd_len (sortI vs) none
          rw [(sortI_perm vs).length_eq] at this; omega
        generalize dd none (sortI vs) = ks at hdi hdm hdl
        obtain ⟨S1, acc1, e3, d3, bs, rfl, hacc1, hT3, hbl⟩ := lc_rel (g := gN 9) (vs := [9]) (t := mYes) (me := ce_law_related_2) D.int (fun n s acc => ∃ (d' : D) (bs : List Int), s = [.ow d', .pl (.lst (vs.map .int)), .pl (.int top), .pl (.int st), .pl (.int N), .ow (.lst (vs.map .int)), .no, .pl (.lst (ks.map .int)), .no, .no] ∧ acc = bs.map D.int ∧ Tape d' ∧ bs.length = n) ks (fun n hn s acc ⟨d', bs, e, hacc, hT, hl⟩ => by
          subst e hacc
          obtain ⟨z, d6, e6, hT6, _, _⟩ := number_ok hT
          exact ⟨_, (bs ++ [z]).map D.int, by simp [stepL_run, ce_law_related_2, e6], d6, bs ++ [z], rfl, rfl, hT6, by simp; omega⟩) [.ow d2, .pl (.lst (vs.map .int)), .pl (.int top), .pl (.int st), .pl (.int N), .ow (.lst (vs.map .int)), .no, .pl (.lst (ks.map .int)), .no, .no] ⟨d2, [], rfl, rfl, hT2, rfl⟩
        subst hacc1
        obtain ⟨S2, acc2, e5, d5, ws, rfl, hacc, hT5, hwl, hwb⟩ := lc_rel (g := gN 9) (vs := [9]) (t := mYes) (me := ce_law_related_3) D.int (fun n s acc => ∃ (d' : D) (ws : List Int), s = [.ow d', .pl (.lst (vs.map .int)), .pl (.int top), .pl (.int st), .pl (.int N), .ow (.lst (vs.map .int)), .no, .pl (.lst (ks.map .int)), .ow (.lst (bs.map .int)), .no] ∧ acc = ws.map D.int ∧ Tape d' ∧ ws.length = n ∧ ∀ v ∈ ws, -top ≤ v ∧ v ≤ top) vs (fun n hn s acc ⟨d', ws, e, hacc, hT, hl, hb⟩ => by
          subst e hacc
          obtain ⟨j, hj, hjl⟩ := oIndex_ints ((hdm vs[n]).mpr (List.getElem_mem hn))
          have hjb : j < bs.length := by rw [hbl]; simpa using hjl
          have hat : atI (bs.map D.int) (j : Int) = some (.int bs[j]) := by rw [atI_get _ j (by simpa using hjb)]; simp
          obtain ⟨z, d6, e6, hT6, _, _⟩ := draw_ok hT (many := N) (by omega)
          obtain ⟨w, e7, hw0, hw1⟩ := within_ok (bs[j] + z) ht0 ht1
          exact ⟨_, (ws ++ [w]).map D.int, by simp [stepL_run, ce_law_related_3, hj, hat, e6, e7], d6, ws ++ [w], rfl, rfl, hT6, by simp; omega, mem_bound hb ⟨hw0, hw1⟩⟩) [.ow d3, .pl (.lst (vs.map .int)), .pl (.int top), .pl (.int st), .pl (.int N), .ow (.lst (vs.map .int)), .no, .pl (.lst (ks.map .int)), .ow (.lst (bs.map .int)), .no] ⟨d3, [], rfl, rfl, hT3, rfl, fun v h => nomatch h⟩
        subst hacc
        obtain ⟨us, d6, e6, hT6, hul, hub⟩ := related_end hT5 (by omega) ht0 ht1 hwb (.pl (.lst (vs.map .int))) (.pl (.int st)) (.pl (.int N)) .no (.pl (.lst (ks.map .int))) (.ow (.lst (bs.map .int)))
        refine ⟨us, d6, ?_, hT6, by omega, hub⟩
        rw [← e6]
        have hkl : ¬ 100000 < (ks.map D.int).length := by rw [List.length_map]; omega
        generalize vs.map D.int = V at *
        generalize ws.map D.int = W at *
        generalize ks.map D.int = KK at *
        generalize bs.map D.int = B at *
        refine step1 (s' := [.ow d1, .pl (.lst V), .pl (.int top), .pl (.int st), .no, .no, .no, .no, .no, .no]) (by simp [e1]) ?_
        refine step1 (s' := [.ow d1, .pl (.lst V), .pl (.int top), .pl (.int st), .no, .no, .no, .no, .no, .no]) (by simp [c0]) ?_
        refine step1 (s' := [.ow d2, .pl (.lst V), .pl (.int top), .pl (.int st), .pl (.int N), .no, .no, .no, .no, .no]) (by simp [e2, hsh]) ?_
        refine step1 (s' := [.ow d2, .pl (.lst V), .pl (.int top), .pl (.int st), .pl (.int N), .ow (.lst V), .no, .no, .no, .no]) (by simp [hlist]) ?_
        refine step1 (s' := [.ow d5, .pl (.lst V), .pl (.int top), .pl (.int st), .pl (.int N), .ow (.lst W), .no, .pl (.lst KK), .ow (.lst B), .no]) (by simp [c1, c2, hdi, hkl, e3, hvl2, e5]) ?_
        rfl
      · obtain ⟨us, d6, e6, hT6, hul, hub⟩ := related_end hT2 hl ht0 ht1 hvb (.pl (.lst (vs.map .int))) (.pl (.int st)) (.pl (.int N)) .no .no .no
        refine ⟨us, d6, ?_, hT6, hul, hub⟩
        rw [← e6]
        generalize vs.map D.int = V at *
        refine step1 (s' := [.ow d1, .pl (.lst V), .pl (.int top), .pl (.int st), .no, .no, .no, .no, .no, .no]) (by simp [e1]) ?_
        refine step1 (s' := [.ow d1, .pl (.lst V), .pl (.int top), .pl (.int st), .no, .no, .no, .no, .no, .no]) (by simp [c0]) ?_
        refine step1 (s' := [.ow d2, .pl (.lst V), .pl (.int top), .pl (.int st), .pl (.int N), .no, .no, .no, .no, .no]) (by simp [e2, hsh]) ?_
        refine step1 (s' := [.ow d2, .pl (.lst V), .pl (.int top), .pl (.int st), .pl (.int N), .ow (.lst V), .no, .no, .no, .no]) (by simp [hlist]) ?_
        refine step1 (s' := [.ow d2, .pl (.lst V), .pl (.int top), .pl (.int st), .pl (.int N), .ow (.lst V), .no, .no, .no, .no]) (by simp [c1, c2]) ?_
        rfl
end LK

set_option maxRecDepth 100000
set_option autoImplicit false
set_option linter.all false
namespace LK
open PySem PySem.Spec PyProof.Rows L2 DL WM
/-! columns of a table, as the laws draw them -/
def ColB (many : Nat) (top : Int) (vs : List Int) : Prop := vs.length = many ∧ ∀ v ∈ vs, -top ≤ v ∧ v ≤ top
def intsD (vs : List Int) : D := .lst (vs.map .int)
theorem columns_ok {d : D} (hd : Tape d) (k many : Nat) (hk1 : 1 ≤ k) (hk : k ≤ 6) (hm : many ≤ 1000) {top : Int} (ht0 : 0 ≤ top) (ht1 : top < 18446744073709551616) :
    ∃ (cs : List (List Int)) (d' : D), G_law_columns [d, .int k, .int many, .int top] = .ok (.lst (cs.map intsD)) (some d') ∧ Tape d' ∧ cs.length = k ∧ ∀ vs ∈ cs, ColB many top vs := by
  obtain ⟨v0, d1, e1, hT1, hl0, hb0⟩ := column_ok hd hm ht0 ht1
  obtain ⟨s1, e2, d2, cs, x5, rfl, hT2, hl, hall⟩ := for_inv (g := gN 5) (u := lb_law_columns_1) (fun j s => ∃ d' cs x5, s = [.ow d', .vw (.int k), .vw (.int many), .pl (.int top), .ow (.lst ((cs : List (List Int)).map intsD)), x5] ∧ Tape d' ∧ cs.length = 1 + j ∧ ∀ vs ∈ cs, ColB many top vs) (rngD 1 (k - 1)) 0 (fun j hj s ⟨d', cs, x5, e, hT, hl, hall⟩ => by
    subst e
    rw [rngD_len] at hj
    obtain ⟨vs, d4, e4, hT4, hvs⟩ := pickF_ok intsD hT (row := cs) (by intro z; rw [z] at hl; simp at hl; omega) (by omega)
    obtain ⟨ws, d5, e5, hT5, hwl, hwb⟩ := related_ok hT4 (vs := vs) (by rw [(hall vs hvs).1]; exact hm) ht0 ht1 (hall vs hvs).2
    refine ⟨[.ow d5, .vw (.int k), .vw (.int many), .pl (.int top), .ow (.lst ((cs ++ [ws]).map intsD)), .pl (rngD 1 (k - 1))[j]], .inl ?_, d5, cs ++ [ws], _, rfl, hT5, by simp; omega, fun us hus => ?_⟩
    · have hlt : cs.length < 100000 := by omega
      have hml : (cs.map intsD).length = cs.length := by simp
      rw [List.map_append, List.map_cons, List.map_nil]
      unfold intsD at *
      generalize cs.map (fun vs => D.lst (vs.map D.int)) = CS at *
      generalize ws.map D.int = W at *
      generalize vs.map D.int = V at *
      simp [stepF_run, lb_law_columns_1, e4, e5, hml, hlt]
    · rcases List.mem_append.mp hus with h | h
      · exact hall us h
      · rw [List.mem_singleton.mp h]; exact ⟨hwl.trans (hall vs hvs).1, hwb⟩) [.ow d1, .vw (.int k), .vw (.int many), .pl (.int top), .ow (.lst ([v0].map intsD)), .no] ⟨d1, [v0], .no, rfl, hT1, rfl, fun us hus => by rw [List.mem_singleton.mp hus]; exact ⟨hl0, hb0⟩⟩
  rw [rngD_len] at hl
  obtain ⟨sh, d3, e3, hT3, hp⟩ := shufF_ok intsD hT2 cs (by omega)
  refine ⟨sh, d3, ?_, hT3, by rw [hp.length_eq]; omega, fun us hus => hall us (hp.mem_iff.mp hus)⟩
  have hrg := rng2_ok (x := 1) (y := (k : Int)) (by omega) (by omega) (by omega) (by omega)
  rw [show ((k : Int) - 1).toNat = k - 1 by omega] at hrg
  simp only [List.map_cons, List.map_nil] at e2
  generalize cs.map intsD = CS at *
  generalize sh.map intsD = SH at *
  unfold intsD at e2
  generalize v0.map D.int = V at *
  simp [G_law_columns, u_law_columns, initS, e1, hrg, e2, e3]
/-! the table -/
structure Col where
  name : Str
  labs : Option (List Str)
  vals : List Int
deriving Inhabited
def labD : Option (List Str) → D
  | none => .non
  | some ls => .tup (ls.map .str)
def colD (c : Col) : D := .tup [.str c.name, labD c.labs, .tup (c.vals.map .int)]
def tabD (t : List Col) : D := .tup (t.map colD)
def ColOk (many : Nat) (top : Int) (c : Col) : Prop := NameOk c.name ∧ c.vals.length = many ∧ match c.labs with
  | none => ∀ v ∈ c.vals, -top ≤ v ∧ v ≤ top
  | some ls => (1 ≤ ls.length ∧ ls.length ≤ 6 ∧ ls.Nodup ∧ ∀ l ∈ ls, LabOk l) ∧ ∀ v ∈ c.vals, 0 ≤ v ∧ v < ls.length
def TabOk (k many : Nat) (top : Int) (t : List Col) : Prop := t.length = k ∧ (t.map Col.name).Nodup ∧ ∀ c ∈ t, ColOk many top c
def tbSt (d : D) (k many : Nat) (top : Int) (zs : List Str) (cs : List (List Int)) (t : List Col) (x7 x8 x9 x10 : Sl) : DS := [.ow d, .vw (.int k), .vw (.int many), .pl (.int top), .pl (.lst (zs.map .str)), .pl (.lst (cs.map intsD)), .ow (.lst (t.map colD)), x7, x8, x9, x10, .no]
theorem lab_mod (a : Int) (n : Nat) (h : 1 ≤ n) : oMod (.int a) (.int (n : Int)) = some (.int (a % (n : Int))) := by
  have h1 : cMod a (n : Int) = true := by unfold cMod; rw [dB_true]; omega
  show (if cMod a (n : Int) = true then _ else _) = _
  rw [if_pos h1]
theorem table_turn {d : D} (hd : Tape d) {k many : Nat} (hm : many ≤ 1000) {top : Int} {zs : List Str} {cs : List (List Int)} {t : List Col} {j : Nat} (hzl : zs.length = k) (hcl : cs.length = k) (hj : j < k) (hk : k ≤ 6) (htl : t.length = j) (hz : ∀ z ∈ zs, NameOk z) (hc : ∀ vs ∈ cs, ColB many top vs) (x7 x8 x9 x10 : Sl) :
    ∃ (d' : D) (c : Col) (y8 y9 y10 : Sl), stepF (gN 7) lb_law_table_2 (.int (j : Nat)) (tbSt d k many top zs cs t x7 x8 x9 x10) = .nx (tbSt d' k many top zs cs (t ++ [c]) (.pl (.int (j : Nat))) y8 y9 y10) ∧ Tape d' ∧ zs[j]? = some c.name ∧ ColOk many top c := by
  obtain ⟨z, ez⟩ : ∃ z, zs[j]? = some z := ⟨_, List.getElem?_eq_getElem (by omega)⟩
  obtain ⟨vs, ev⟩ : ∃ vs, cs[j]? = some vs := ⟨_, List.getElem?_eq_getElem (by omega)⟩
  have hzo := hz z (List.mem_of_getElem? ez)
  obtain ⟨hvl, hvb⟩ := hc vs (List.mem_of_getElem? ev)
  have az : atI (zs.map D.str) (j : Nat) = some (.str z) := at_map D.str (by omega) (by simpa using ez)
  have av : atI (cs.map intsD) (j : Nat) = some (intsD vs) := at_map intsD (by omega) (by simpa using ev)
  obtain ⟨q, d1, e1, hT1, hq0, hq1⟩ := draw_ok hd (many := 4) (by omega)
  have htl2 : (t.map colD).length < 100000 := by simp; omega
  by_cases c0 : q = 0
  · subst c0
    obtain ⟨ls, d2, e2, hT2, hl1, hl2, hln, hlo⟩ := labels_ok hT1
    have hdi := distinct_ok (xs := vs) (by omega)
    have hdm := dd_sort_mem0 vs
    generalize dd none (sortI vs) = ks at hdi hdm
    have hll : (ls.map D.str).length = ls.length := by simp
    have hkl : ¬ 100000 < (vs.map D.int).length := by simp; omega
    have key := lc_map (g := gN 11) (vs := [11]) (t := mYes) (me := ce_law_table_1) D.int (fun v => D.int ((ks.idxOf v : Nat) % (ls.length : Int))) [.ow d2, .vw (.int k), .vw (.int many), .pl (.int top), .pl (.lst (zs.map .str)), .pl (.lst (cs.map intsD)), .ow (.lst (t.map colD)), .pl (.int (j : Nat)), .pl (.tup (ls.map .str)), .pl (.lst (vs.map .int)), .pl (.lst (ks.map .int)), .no] vs (fun v hv acc => by
      have hix := emb_int.index ((hdm v).mpr hv) (d := .lst (ks.map .int)) rfl
      have hmo := lab_mod (ks.idxOf v : Nat) ls.length hl1
      generalize zs.map D.str = ZS at *
      generalize cs.map intsD = CS at *
      generalize t.map colD = TS at *
      generalize vs.map D.int = VS at *
      generalize ks.map D.int = KS at *
      generalize ls.map D.str = LS at *
      simp [stepL_run, ce_law_table_1, hix, hll, hmo]) []
    rw [List.nil_append] at key
    refine ⟨d2, ⟨z, some ls, vs.map fun v => ((ks.idxOf v : Nat) : Int) % (ls.length : Int)⟩, .pl (.tup (ls.map .str)), .ow (.lst ((vs.map fun v => ((ks.idxOf v : Nat) : Int) % (ls.length : Int)).map .int)), .pl (.lst (ks.map .int)), ?_, hT2, ez, hzo, by simpa using hvl, ⟨hl1, hl2, hln, hlo⟩, fun v hv => ?_⟩
    · have hmm : (vs.map fun v => D.int (((ks.idxOf v : Nat) : Int) % (ls.length : Int))) = (vs.map fun v => ((ks.idxOf v : Nat) : Int) % (ls.length : Int)).map D.int := by rw [List.map_map]; rfl
      rw [hmm] at key
      have htu : oTuple (.lst ((vs.map fun v => ((ks.idxOf v : Nat) : Int) % (ls.length : Int)).map D.int)) = some (.tup ((vs.map fun v => ((ks.idxOf v : Nat) : Int) % (ls.length : Int)).map D.int)) := rfl
      have hcd : colD ⟨z, some ls, vs.map fun v => ((ks.idxOf v : Nat) : Int) % (ls.length : Int)⟩ = .tup [.str z, .tup (ls.map .str), .tup ((vs.map fun v => ((ks.idxOf v : Nat) : Int) % (ls.length : Int)).map D.int)] := rfl
      unfold tbSt
      rw [List.map_append, List.map_cons, List.map_nil, hcd]
      unfold intsD at key av ⊢
      generalize (vs.map fun v => ((ks.idxOf v : Nat) : Int) % (ls.length : Int)).map D.int = W at *
      generalize t.map colD = TS at *
      generalize zs.map D.str = ZS at *
      generalize (cs.map fun vs => D.lst (vs.map D.int)) = CS at *
      generalize vs.map D.int = VS at *
      generalize ks.map D.int = KS at *
      generalize ls.map D.str = LS at *
      simp [stepF_run, lb_law_table_2, av, e1, e2, hdi, hkl, key, az, htu, htl2]
    · obtain ⟨u, hu, rfl⟩ := List.mem_map.mp hv
      exact ⟨Int.emod_nonneg _ (by omega), Int.emod_lt_of_pos _ (by omega)⟩
  · refine ⟨d1, ⟨z, none, vs⟩, .pl .non, .pl (.lst (vs.map .int)), x10, ?_, hT1, ez, hzo, hvl, hvb⟩
    have htu : oTuple (.lst (vs.map D.int)) = some (.tup (vs.map D.int)) := rfl
    have hcd : colD ⟨z, none, vs⟩ = .tup [.str z, .non, .tup (vs.map D.int)] := rfl
    unfold tbSt
    rw [List.map_append, List.map_cons, List.map_nil, hcd]
    generalize t.map colD = TS at *
    unfold intsD at av ⊢
    generalize zs.map D.str = ZS at *
    generalize (cs.map fun vs => D.lst (vs.map D.int)) = CS at *
    generalize vs.map D.int = VS at *
    simp [stepF_run, lb_law_table_2, av, e1, c0, az, htu, htl2]
theorem table_ok {d : D} (hd : Tape d) (k many : Nat) (hk1 : 1 ≤ k) (hk : k ≤ 6) (hm : many ≤ 1000) {top : Int} (ht0 : 0 ≤ top) (ht1 : top < 18446744073709551616) :
    ∃ (t : List Col) (d' : D), G_law_table [d, .int k, .int many, .int top] = .ok (tabD t) (some d') ∧ Tape d' ∧ TabOk k many top t := by
  obtain ⟨zs, d1, e1, hT1, hzl, hzn, hz⟩ := names_ok hd k hk
  obtain ⟨cs, d2, e2, hT2, hcl, hc⟩ := columns_ok hT1 k many hk1 hk hm ht0 ht1
  obtain ⟨s1, e3, d3, t, x7, x8, x9, x10, rfl, hT3, htl, htn, hall⟩ := for_inv (g := gN 7) (u := lb_law_table_2) (fun j s => ∃ d' t x7 x8 x9 x10, s = tbSt d' k many top zs cs t x7 x8 x9 x10 ∧ Tape d' ∧ t.length = j ∧ t.map Col.name = zs.take j ∧ ∀ c ∈ t, ColOk many top c) (rngD 0 k) 0 (fun j hj s ⟨d', t, x7, x8, x9, x10, e, hT, htl, htn, hall⟩ => by
    subst e
    rw [rngD_len] at hj
    obtain ⟨d4, c, y8, y9, y10, e4, hT4, ezc, hco⟩ := table_turn hT hm hzl hcl hj hk (htl.trans (Nat.zero_add j)) hz hc x7 x8 x9 x10
    refine ⟨_, .inl (by rw [rngD_get]; simp only [Int.zero_add]; exact e4), d4, t ++ [c], _, _, _, _, rfl, hT4, by rw [List.length_append, htl, Nat.zero_add]; rfl, ?_, fun u hu => ?_⟩
    · rw [List.map_append, htn, List.map_cons, List.map_nil, Nat.zero_add, List.take_succ, ezc]; rfl
    · rcases List.mem_append.mp hu with h | h
      · exact hall u h
      · rw [List.mem_singleton.mp h]; exact hco) (tbSt d2 k many top zs cs [] .no .no .no .no) ⟨d2, [], .no, .no, .no, .no, rfl, hT2, rfl, rfl, fun c hc => by cases hc⟩
  rw [rngD_len, Nat.zero_add] at htl htn
  refine ⟨t, d3, ?_, hT3, htl, ?_, hall⟩
  · have hrk := rng1_nat (n := k) (by omega)
    have htu : oTuple (.lst (t.map colD)) = some (.tup (t.map colD)) := rfl
    unfold tabD
    unfold tbSt at e3
    simp only [List.map_nil] at e3
    generalize t.map colD = TS at *
    generalize zs.map D.str = ZS at *
    generalize cs.map intsD = CS at *
    simp [G_law_table, u_law_table, initS, e1, e2, hrk, e3, htu]
  · rw [htn, List.take_of_length_le (by omega)]; exact hzn
theorem small_ok {d : D} (hd : Tape d) {top : Int} (ht0 : 0 ≤ top) (ht1 : top < 18446744073709551616) :
    ∃ (k many : Nat) (t : List Col) (d' : D), G_law_small [d, .int top] = .ok (tabD t) (some d') ∧ Tape d' ∧ 1 ≤ k ∧ k ≤ 6 ∧ many ≤ 24 ∧ TabOk k many top t := by
  obtain ⟨a, d1, e1, hT1, ha0, ha1⟩ := draw_ok hd (many := 4) (by omega)
  obtain ⟨b, d2, e2, hT2, hb0, hb1⟩ := draw_ok hT1 (many := 8) (by omega)
  have s2 : ∃ (k : Nat) (d3 : D), fnRes true false (u_law_small [.ow d, .pl (.int top), .no, .no]) = fnRes true false ((sSeq (sAsg 3 (mCallT G_law_draw 0 [.v (mC (.int 7))])) (sSeq (sIf (mTest2 bEqA (.v (mCallT G_law_draw 0 [.v (mC (.int 16))])) (.v (mC (.int 0)))) (sAsg 3 (mC (.int 24))) sNil) (sRet (mCallT G_law_table 0 [.r 2, .r 3, .v (mVar 1)])))) [.ow d3, .pl (.int top), .pl (.int (k : Nat)), .no]) ∧ Tape d3 ∧ 1 ≤ k ∧ k ≤ 6 := by
    by_cases c : b = 0
    · subst c
      obtain ⟨q, d3, e3, hT3, hq0, hq1⟩ := draw_ok hT2 (many := 2) (by omega)
      refine ⟨(5 + q).toNat, d3, ?_, hT3, by omega, by omega⟩
      rw [show (((5 + q).toNat : Nat) : Int) = 5 + q by omega]
      unfold u_law_small
      refine step1 (s' := [.ow d1, .pl (.int top), .pl (.int (1 + a)), .no]) (by simp [e1]) ?_
      refine step1 (s' := [.ow d3, .pl (.int top), .pl (.int (5 + q)), .no]) (by simp [e2, e3]) rfl
    · refine ⟨(1 + a).toNat, d2, ?_, hT2, by omega, by omega⟩
      rw [show (((1 + a).toNat : Nat) : Int) = 1 + a by omega]
      unfold u_law_small
      refine step1 (s' := [.ow d1, .pl (.int top), .pl (.int (1 + a)), .no]) (by simp [e1]) ?_
      refine step1 (s' := [.ow d2, .pl (.int top), .pl (.int (1 + a)), .no]) (by simp [e2, c]) rfl
  obtain ⟨k, d3, e3, hT3, hk1, hk6⟩ := s2
  obtain ⟨m, d4, e4, hT4, hm0, hm1⟩ := draw_ok hT3 (many := 7) (by omega)
  obtain ⟨q, d5, e5, hT5, hq0, hq1⟩ := draw_ok hT4 (many := 16) (by omega)
  have h0 : G_law_small [d, .int top] = fnRes true false (u_law_small [.ow d, .pl (.int top), .no, .no]) := by simp [G_law_small, initS]
  by_cases c : q = 0
  · subst c
    obtain ⟨t, d6, e6, hT6, ht⟩ := table_ok hT5 k 24 hk1 hk6 (by omega) ht0 ht1
    refine ⟨k, 24, t, d6, ?_, hT6, hk1, hk6, by omega, ht⟩
    rw [h0, e3]
    rw [show ((24 : Nat) : Int) = 24 from rfl] at e6
    generalize tabD t = TD at *
    simp [e4, e5, e6]
  · obtain ⟨mm, rfl⟩ : ∃ mm : Nat, m = (mm : Int) := ⟨m.toNat, by omega⟩
    obtain ⟨t, d6, e6, hT6, ht⟩ := table_ok hT5 k mm hk1 hk6 (by omega) ht0 ht1
    refine ⟨k, mm, t, d6, ?_, hT6, hk1, hk6, by omega, ht⟩
    rw [h0, e3]
    generalize tabD t = TD at *
    simp [e4, e5, c, e6]
end LK

set_option maxRecDepth 100000
set_option autoImplicit false
set_option linter.all false
namespace LK
open PySem PySem.Spec PyProof.Rows L2 DL WM
/-! recipes and plans, as the laws draw them -/
structure Rec where
  kind : Str
  ref : Option Str
  w : Nat
deriving Inhabited
def optS : Option Str → D
  | none => .non
  | some z => .str z
def recD (r : Rec) : D := .tup [.str r.kind, optS r.ref, .int (r.w : Int)]
def planD (p : List Rec) : D := .tup (p.map recD)
abbrev k0 : List Str := ["frame", "step", "dictionary"]
abbrev k1 : List Str := ["offset", "lookup"]
def RecOk (others : List Str) (r : Rec) : Prop := ((r.kind ∈ k0 ∧ r.ref = none) ∨ (r.kind ∈ k1 ∧ ∃ x ∈ others, r.ref = some x)) ∧ r.w ≤ 32
theorem k01 : ∀ k ∈ k0, k ∉ k1 := by decide +kernel
theorem others_run (names : List Str) (z : Str) (a0 : Sl) (hl : names.length ≤ 1000) : lcLoop (gN 6) [6] ct_law_recipe_2 ce_law_recipe_1 (names.map .str) [a0, .pl (.lst (names.map .str)), .vw (.str z), .no, .no, .no, .no] [] = .ok (.lst ((names.filter fun x => decide (x ≠ z)).map .str)) [a0, .pl (.lst (names.map .str)), .vw (.str z), .no, .no, .no, .no] := by
  have h := lc_fun (g := gN 6) (vs := [6]) (t := ct_law_recipe_2) (me := ce_law_recipe_1) D.str (fun x => decide (x ≠ z)) D.str [a0, .pl (.lst (names.map .str)), .vw (.str z), .no, .no, .no, .no] names (fun x _ acc => by
    have he : bEqA (.str x) (.str z) = some (decide (x = z)) := eq_strs x z
    generalize names.map D.str = NS at *
    by_cases hx : x = z
    · subst hx
      rw [decide_eq_true rfl] at he
      simp [stepL_run, ct_law_recipe_2, ce_law_recipe_1, he]
    · rw [decide_eq_false hx] at he
      simp [stepL_run, ct_law_recipe_2, ce_law_recipe_1, he, hx]) []
  rw [h, List.nil_append]
theorem recipe_ok {d : D} (hd : Tape d) (names : List Str) (z : Str) (hl : names.length ≤ 100) :
    ∃ (r : Rec) (d' : D), G_law_recipe [d, .lst (names.map .str), .str z] = .ok (recD r) (some d') ∧ Tape d' ∧ RecOk (names.filter fun x => decide (x ≠ z)) r := by
  have ho := others_run names z (.ow d) (by omega)
  have hol : (names.filter fun x => decide (x ≠ z)).length ≤ names.length := List.length_filter_le _ _
  generalize (names.filter fun x => decide (x ≠ z)) = others at ho hol ⊢
  have hcut := cut_take [D.str "offset", .str "lookup", .str "offset", .str "lookup"] (4 * others.length)
  have hmul := oMulR 4 (others.length : Int) ⟨by omega, by omega⟩
  rw [show ((4 * others.length : Nat) : Int) = 4 * (others.length : Int) by omega] at hcut
  have hnl : ¬ 100000 < (names.map D.str).length := by simp; omega
  have hol2 : (others.map D.str).length = others.length := by simp
  have h0 : G_law_recipe [d, .lst (names.map .str), .str z] = fnRes true false (u_law_recipe [.ow d, .pl (.lst (names.map .str)), .vw (.str z), .no, .no, .no, .no]) := by simp [G_law_recipe, initS]
  have fin : ∀ (d1 : D) (k : Str) (ref : Option Str) (o3 : Sl), Tape d1 → ∃ (w : Nat) (d' : D), fnRes true false (sRet (mTup [.v (mVar 4), .v (mVar 5), .v (mCallT G_law_pick 0 [.v (mLst [.v (mC (.int 0)), .v (mC (.int 1)), .v (mC (.int 2)), .v (mC (.int 3)), .v (mCallT G_law_draw 0 [.v (mC (.int 8))]), .v (mCallT G_law_draw 0 [.v (mC (.int 33))])])])]) [.ow d1, .pl (.lst (names.map .str)), .vw (.str z), o3, .pl (.str k), .pl (optS ref), .no]) = .ok (recD ⟨k, ref, w⟩) (some d') ∧ Tape d' ∧ w ≤ 32 := by
    intro d1 k ref o3 hT1
    obtain ⟨a, d2, e2, hT2, ha0, ha1⟩ := draw_ok hT1 (many := 8) (by omega)
    obtain ⟨b, d3, e3, hT3, hb0, hb1⟩ := draw_ok hT2 (many := 33) (by omega)
    obtain ⟨w, d4, e4, hT4, hw⟩ := pickF_ok D.int hT3 (row := [0, 1, 2, 3, a, b]) (by simp) (by simp)
    simp only [List.map_cons, List.map_nil] at e4
    have hwb : 0 ≤ w ∧ w ≤ 32 := by
      simp only [List.mem_cons, List.not_mem_nil, or_false] at hw
      rcases hw with rfl | rfl | rfl | rfl | rfl | rfl <;> omega
    refine ⟨w.toNat, d4, ?_, hT4, by omega⟩
    unfold recD
    rw [show ((w.toNat : Nat) : Int) = w by omega]
    generalize optS ref = RD
    generalize names.map D.str = NS at *
    simp [e2, e3, e4]
  by_cases hn : others = []
  · subst hn
    obtain ⟨k, d1, e1, hT1, hk⟩ := pickF_ok D.str hd (row := k0) (by decide) (by decide)
    obtain ⟨w, d', e2, hT2, hw⟩ := fin d1 k none (.ow (.lst [])) hT1
    refine ⟨⟨k, none, w⟩, d', ?_, hT2, .inl ⟨hk, rfl⟩, hw⟩
    rw [h0, ← e2]
    have hin := in_strs k k1
    rw [decide_eq_false (k01 k hk)] at hin
    have hcut0 : DL.cutD [D.str "offset", .str "lookup", .str "offset", .str "lookup"] none (some 0) = [] := cut_take _ 0
    simp only [List.map_nil, List.map_cons] at ho e1 hin ⊢
    have hadd := add_lst (xs := [D.str "frame", .str "step", .str "dictionary"]) (ys := []) (by simp)
    rw [List.append_nil] at hadd
    unfold u_law_recipe
    generalize names.map D.str = NS at *
    refine step1 (s' := [.ow d, .pl (.lst NS), .vw (.str z), .ow (.lst []), .no, .no, .no]) (by simp [hnl, ho]) ?_
    refine step1 (s' := [.ow d1, .pl (.lst NS), .vw (.str z), .ow (.lst []), .pl (.str k), .no, .no]) (by simp [hcut0, hadd, e1]) ?_
    refine step1 (s' := [.ow d1, .pl (.lst NS), .vw (.str z), .ow (.lst []), .pl (.str k), .pl .non, .no]) (by simp) ?_
    refine step1 (s' := [.ow d1, .pl (.lst NS), .vw (.str z), .ow (.lst []), .pl (.str k), .pl .non, .no]) (by simp [hin]) ?_
    rfl
  · have hpos : 0 < others.length := List.length_pos_iff.mpr hn
    rw [List.take_of_length_le (by simp; omega)] at hcut
    obtain ⟨k, d1, e1, hT1, hk⟩ := pickF_ok D.str hd (row := k0 ++ (k1 ++ k1)) (by decide) (by decide)
    have hadd := add_lst (xs := [D.str "frame", .str "step", .str "dictionary"]) (ys := [D.str "offset", .str "lookup", .str "offset", .str "lookup"]) (by simp)
    have hin := in_strs k k1
    simp only [List.map_cons, List.map_nil, List.cons_append, List.nil_append] at e1 hadd hin
    by_cases h1 : k ∈ k1
    · rw [decide_eq_true h1] at hin
      obtain ⟨x, d2, e3, hT2, hx⟩ := pickF_ok D.str hT1 (row := others) hn (by omega)
      obtain ⟨w, d', e2, hT3, hw⟩ := fin d2 k (some x) (.ow (.lst (others.map .str))) hT2
      refine ⟨⟨k, some x, w⟩, d', ?_, hT3, .inr ⟨h1, x, hx, rfl⟩, hw⟩
      rw [h0, ← e2]
      unfold u_law_recipe
      generalize names.map D.str = NS at *
      generalize others.map D.str = OS at *
      refine step1 (s' := [.ow d, .pl (.lst NS), .vw (.str z), .ow (.lst OS), .no, .no, .no]) (by simp [hnl, ho]) ?_
      refine step1 (s' := [.ow d1, .pl (.lst NS), .vw (.str z), .ow (.lst OS), .pl (.str k), .no, .no]) (by simp [hol2, hmul, hcut, hadd, e1]) ?_
      refine step1 (s' := [.ow d1, .pl (.lst NS), .vw (.str z), .ow (.lst OS), .pl (.str k), .pl .non, .no]) (by simp) ?_
      refine step1 (s' := [.ow d2, .pl (.lst NS), .vw (.str z), .ow (.lst OS), .pl (.str k), .pl (.str x), .no]) (by simp [hin, e3]) ?_
      rfl
    · rw [decide_eq_false h1] at hin
      have hk0 : k ∈ k0 := by
        rcases List.mem_append.mp hk with h | h
        · exact h
        · rcases List.mem_append.mp h with h | h <;> exact absurd h h1
      obtain ⟨w, d', e2, hT2, hw⟩ := fin d1 k none (.ow (.lst (others.map .str))) hT1
      refine ⟨⟨k, none, w⟩, d', ?_, hT2, .inl ⟨hk0, rfl⟩, hw⟩
      rw [h0, ← e2]
      unfold u_law_recipe
      generalize names.map D.str = NS at *
      generalize others.map D.str = OS at *
      refine step1 (s' := [.ow d, .pl (.lst NS), .vw (.str z), .ow (.lst OS), .no, .no, .no]) (by simp [hnl, ho]) ?_
      refine step1 (s' := [.ow d1, .pl (.lst NS), .vw (.str z), .ow (.lst OS), .pl (.str k), .no, .no]) (by simp [hol2, hmul, hcut, hadd, e1]) ?_
      refine step1 (s' := [.ow d1, .pl (.lst NS), .vw (.str z), .ow (.lst OS), .pl (.str k), .pl .non, .no]) (by simp) ?_
      refine step1 (s' := [.ow d1, .pl (.lst NS), .vw (.str z), .ow (.lst OS), .pl (.str k), .pl .non, .no]) (by simp [hin]) ?_
      rfl
/-- the columns that come first in the order -/
def before (order : List Str) (z : Str) : List Str := (order.take (order.idxOf z) ++ [z]).filter fun x => decide (x ≠ z)
theorem before_lt {order : List Str} {z x : Str} (h : x ∈ before order z) : x ∈ order ∧ order.idxOf x < order.idxOf z := by
  unfold before at h
  obtain ⟨h1, h2⟩ := List.mem_filter.mp h
  have h2 : x ≠ z := of_decide_eq_true h2
  rcases List.mem_append.mp h1 with h1 | h1
  · refine ⟨List.mem_of_mem_take h1, ?_⟩
    obtain ⟨i, hi, e⟩ := List.mem_iff_getElem.mp h1
    rw [List.length_take] at hi
    have h3 : order.idxOf x ≤ i := by
      rw [List.getElem_take] at e
      by_cases hh : i < order.idxOf x
      · have h4 := List.not_of_lt_findIdx (p := (· == x)) (xs := order) (by simpa [List.idxOf] using hh)
        exact absurd (show (order[i] == x) = true by rw [e]; exact beq_self_eq_true x) (by rw [h4]; decide)
      · omega
    omega
  · exact absurd (List.mem_singleton.mp h1) h2
/-- a recipe whose reference is one of those -/
theorem drawn_ok {d : D} (hd : Tape d) (order : List Str) {z : Str} (hz : z ∈ order) (hl : order.length ≤ 50) :
    ∃ (r : Rec) (d' : D) (OS : List D), oIndex (.lst (order.map .str)) (.str z) = some (.int (order.idxOf z : Nat)) ∧ DL.cutD (order.map .str) none (some ((order.idxOf z : Nat) : Int)) = OS ∧ oAddA (.lst OS) (.lst [.str z]) = some (.lst (OS ++ [.str z])) ∧
      G_law_recipe [d, .lst (OS ++ [.str z]), .str z] = .ok (recD r) (some d') ∧ Tape d' ∧ RecOk (before order z) r := by
  have h1 := ix_strs hz
  have h2 := cut_take (order.map D.str) (order.idxOf z)
  obtain ⟨r, d', e, hT, hr⟩ := recipe_ok hd (order.take (order.idxOf z) ++ [z]) z (by rw [List.length_append, List.length_take, List.length_singleton]; omega)
  rw [List.map_append, List.map_cons, List.map_nil, List.map_take] at e
  exact ⟨r, d', (order.map D.str).take (order.idxOf z), h1, h2, add_lst (by rw [List.length_take, List.length_map, List.length_singleton]; omega), e, hT, hr⟩
def PlanOk (order names : List Str) (p : List Rec) : Prop := p.length = names.length ∧ ∀ (i : Nat) z r, names[i]? = some z → p[i]? = some r → RecOk (before order z) r
theorem ordered_ok {d : D} (hd : Tape d) (names order : List Str) (hn : ∀ z ∈ names, z ∈ order) (hl : order.length ≤ 50) (hnl : names.length ≤ 50) :
    ∃ (p : List Rec) (d' : D), G_law_ordered [d, .lst (names.map .str), .lst (order.map .str)] = .ok (planD p) (some d') ∧ Tape d' ∧ PlanOk order names p := by
  obtain ⟨s1, acc1, e1, d1, p, rfl, hacc, hT1, hp, hpr⟩ := lc_rel (g := gN 3) (vs := [3]) (t := mYes) (me := ce_law_ordered_1) D.str (fun n s acc => ∃ (d' : D) (p : List Rec), s = [.ow d', .pl (.lst (names.map .str)), .vw (.lst (order.map .str)), .no] ∧ acc = p.map recD ∧ Tape d' ∧ p.length = n ∧ ∀ (i : Nat) z r, names[i]? = some z → p[i]? = some r → RecOk (before order z) r) names (fun n hn2 s acc ⟨d', p, e, hacc, hT, hp, hpr⟩ => by
    subst e hacc
    obtain ⟨r, d2, OS, i1, i2, i3, e2, hT2, hr⟩ := drawn_ok hT order (hn _ (List.getElem_mem hn2)) hl
    refine ⟨_, (p ++ [r]).map recD, ?_, d2, p ++ [r], rfl, rfl, hT2, by simp; omega, fun i z r' hz hr' => ?_⟩
    · rw [List.map_append, List.map_cons, List.map_nil]
      generalize p.map recD = PD at *
      generalize names.map D.str = NS at *
      generalize order.map D.str = OD at *
      generalize recD r = RD at *
      simp [stepL_run, ce_law_ordered_1, i1, i2, i3, e2]
    · by_cases hi : i < p.length
      · rw [List.getElem?_append_left hi] at hr'
        exact hpr i z r' hz hr'
      · have hin : i = n := by
          have := (List.getElem?_eq_some_iff.mp hr').1
          rw [List.length_append, List.length_singleton] at this
          omega
        subst hin
        rw [List.getElem?_append_right (by omega), hp, Nat.sub_self] at hr'
        cases hr'
        rw [List.getElem?_eq_getElem hn2] at hz
        cases hz
        exact hr) [.ow d, .pl (.lst (names.map .str)), .vw (.lst (order.map .str)), .no] ⟨d, [], rfl, rfl, hd, rfl, fun i z r _ h => by cases h⟩
  subst hacc
  refine ⟨p, d1, ?_, hT1, hp, hpr⟩
  have hnl2 : ¬ 100000 < (names.map D.str).length := by simp; omega
  have htu : oTuple (.lst (p.map recD)) = some (.tup (p.map recD)) := rfl
  unfold planD
  generalize p.map recD = PD at *
  generalize names.map D.str = NS at *
  generalize order.map D.str = OD at *
  simp [G_law_ordered, u_law_ordered, initS, hnl2, e1, htu]
end LK

set_option maxRecDepth 100000
set_option autoImplicit false
set_option linter.all false
namespace LK
open PySem PySem.Spec PyProof.Rows L2 DL
def oD : Option Int → D
  | none => .non
  | some r => .int r
def Ch (fs : List (Option Int)) : Prop := ∀ r, some r ∈ fs → 0 ≤ r ∧ r < fs.length
def chD (fs : List (Option Int)) : D := .tup (fs.map oD)
def nxt (fs : List (Option Int)) (c : Int) : Option Int := (fs[c.toNat]?).join
theorem nxt_at {fs : List (Option Int)} {c : Int} (h0 : 0 ≤ c) (h1 : c < fs.length) : atI (fs.map oD) c = some (oD (nxt fs c)) := by
  have hk : c.toNat < fs.length := by omega
  rw [atI_int _ _ ⟨h0, by simpa using h1⟩, List.getElem?_map]
  unfold nxt
  rw [List.getElem?_eq_getElem hk]
  cases fs[c.toNat] <;> rfl
theorem nxt_ok {fs : List (Option Int)} (hC : Ch fs) {c v : Int} (h : nxt fs c = some v) : 0 ≤ v ∧ v < fs.length := by
  unfold nxt at h
  cases g : fs[c.toNat]? with
  | none => rw [g] at h; cases h
  | some o =>
    rw [g] at h
    cases h
    exact hC v (List.mem_of_getElem? g)
def free (n : Nat) (acc : List Int) : Nat := ((List.range n).filter fun (k : Nat) => !decide ((k : Int) ∈ acc)).length
theorem free_less {n : Nat} {acc : List Int} {v : Int} (h0 : 0 ≤ v) (h1 : v < n) (hv : v ∉ acc) : free n (acc ++ [v]) < free n acc := by
  unfold free
  have hx : v.toNat < n := by omega
  refine filter_less (fun x _ h => ?_) (x := v.toNat) (List.mem_range.mpr hx) ?_ ?_
  · simp at h ⊢; exact h.1
  · simp [Int.toNat_of_nonneg h0, hv]
  · simp [Int.toNat_of_nonneg h0]
theorem free_one {n : Nat} {c : Int} (h0 : 0 ≤ c) (h1 : c < n) : free n [c] < n := by
  have h : free n [c] < free n [] := by
    have := free_less (n := n) (acc := []) h0 h1 (by simp)
    simpa using this
  have e : free n [] ≤ n := Nat.le_trans (List.length_filter_le _ _) (by simp)
  omega
theorem rngD_succ (i : Int) (n : Nat) : rngD i (n + 1) = .int i :: rngD (i + 1) n := by
  unfold rngD
  rw [List.range_succ_eq_map, List.map_cons, List.map_map]
  congr 1
  · simp
  · apply List.map_congr_left
    intro a _
    simp; omega
theorem same_non : G_law_same 4 [.non, .non] = .ok (.bl true) none := same_ok 4 _ trivial
theorem same_t (xs : List Int) (h : xs.length ≤ 1000000) : G_law_same 4 [.tup (xs.map .int), .tup (xs.map .int)] = .ok (.bl true) none := same_ok 4 _ ⟨by simpa using h, fun d hd => by
  obtain ⟨x, _, rfl⟩ := List.mem_map.mp hd
  exact trivial⟩
end LK

set_option maxRecDepth 100000
set_option autoImplicit false
set_option linter.all false
namespace LK
open PySem PySem.Spec PyProof.Rows L2 DL
/-! paths through references, by mathematics -/
def Rg (fs : List (Option Int)) (c : Int) : Prop := 0 ≤ c ∧ c < fs.length
def Lk (fs : List (Option Int)) (l : List Int) : Prop := ∀ p a b q, l = p ++ a :: b :: q → nxt fs a = some b
structure Pth (fs : List (Option Int)) (c : Int) (P : List Int) : Prop where
  hd : ∃ t, P = c :: t
  lk : Lk fs P
  nd : P.Nodup
  rg : ∀ x ∈ P, Rg fs x
  en : ∃ A L, P = A ++ [L] ∧ (nxt fs L = none ∨ ∃ v ∈ P, nxt fs L = some v)
theorem lk_snoc {fs : List (Option Int)} {pre : List Int} {l v : Int} (h : Lk fs (pre ++ [l])) (e : nxt fs l = some v) : Lk fs (pre ++ [l] ++ [v]) := by
  intro p a b q e2
  rcases List.eq_nil_or_concat q with rfl | ⟨q', z, rfl⟩
  · have : pre ++ [l] ++ [v] = (p ++ [a]) ++ [b] := by rw [e2]; simp
    obtain ⟨h1, h2⟩ := List.append_inj' this rfl
    obtain ⟨h3, h4⟩ := List.append_inj' h1 rfl
    cases h2; cases h4; exact e
  · have : pre ++ [l] ++ [v] = (p ++ a :: b :: q') ++ [z] := by rw [e2]; simp
    obtain ⟨h1, h2⟩ := List.append_inj' this rfl
    exact h p a b q' h1
/-- every column has a path -/
theorem ext (fs : List (Option Int)) (hC : Ch fs) : ∀ (m : Nat) (pre : List Int) (l : Int), Lk fs (pre ++ [l]) → (pre ++ [l]).Nodup → (∀ x ∈ pre ++ [l], Rg fs x) → free fs.length (pre ++ [l]) < m →
    ∃ t, Lk fs (pre ++ [l] ++ t) ∧ (pre ++ [l] ++ t).Nodup ∧ (∀ x ∈ pre ++ [l] ++ t, Rg fs x) ∧ ∃ A L, pre ++ [l] ++ t = A ++ [L] ∧ (nxt fs L = none ∨ ∃ v ∈ pre ++ [l] ++ t, nxt fs L = some v)
  | 0, pre, l, _, _, _, hm => absurd hm (by omega)
  | m + 1, pre, l, h1, h2, h3, hm => by
    cases hv : nxt fs l with
    | none => exact ⟨[], by simpa using h1, by simpa using h2, by simpa using h3, pre, l, by simp, .inl hv⟩
    | some v =>
      by_cases hin : v ∈ pre ++ [l]
      · exact ⟨[], by simpa using h1, by simpa using h2, by simpa using h3, pre, l, by simp, .inr ⟨v, by simpa using hin, hv⟩⟩
      · have hvb := nxt_ok hC hv
        have hf := free_less hvb.1 hvb.2 hin
        obtain ⟨t, k1, k2, k3, k4⟩ := ext fs hC m (pre ++ [l]) v (lk_snoc h1 hv) (by
          rw [List.nodup_append]
          exact ⟨h2, by simp, fun a ha b hb => by simp at hb; subst hb; exact fun z => hin (z ▸ ha)⟩) (fun x hx => by
          rcases List.mem_append.mp hx with hx | hx
          · exact h3 x hx
          · simp at hx; subst hx; exact hvb) (by omega)
        have e : pre ++ [l] ++ (v :: t) = pre ++ [l] ++ [v] ++ t := by simp
        exact ⟨v :: t, by rw [e]; exact k1, by rw [e]; exact k2, by rw [e]; exact k3, by rw [e]; exact k4⟩
theorem pth_ex (fs : List (Option Int)) (hC : Ch fs) {c : Int} (hc : Rg fs c) : ∃ P, Pth fs c P := by
  obtain ⟨t, h1, h2, h3, h4⟩ := ext fs hC (fs.length + 1) [] c (by
    intro p a b q e
    have := congrArg List.length e
    simp at this
    omega) (by simp) (fun x hx => by simp at hx; subst hx; exact hc) (by
    have := free_one (n := fs.length) hc.1 hc.2
    simp only [List.nil_append]; omega)
  exact ⟨_, ⟨⟨t, by simp⟩, h1, h2, h3, h4⟩⟩
theorem nodup_len : ∀ (xs ys : List Nat), xs.Nodup → (∀ x ∈ xs, x ∈ ys) → xs.length ≤ ys.length
  | [], _, _, _ => by simp
  | x :: xs, ys, hn, hs => by
    have hx := hs x (by simp)
    rw [List.nodup_cons] at hn
    have := nodup_len xs (ys.erase x) hn.2 fun z hz => (List.mem_erase_of_ne fun e => hn.1 (by rw [← e]; exact hz)).mpr (hs z (by simp [hz]))
    rw [List.length_erase_of_mem hx] at this
    have := List.length_pos_of_mem hx
    simp only [List.length_cons]
    omega
theorem pth_len {fs : List (Option Int)} {c : Int} {P : List Int} (h : Pth fs c P) : P.length ≤ fs.length := by
  have h1 : (P.map Int.toNat).Nodup := by
    rw [List.Nodup, List.pairwise_map]
    exact List.Pairwise.imp_of_mem (fun {a b} ha hb (hab : a ≠ b) => by
      have := h.rg a ha; have := h.rg b hb
      unfold Rg at *; omega) h.nd
  have h2 := nodup_len _ (List.range fs.length) h1 (fun x hx => by
    obtain ⟨a, ha, rfl⟩ := List.mem_map.mp hx
    have := h.rg a ha
    unfold Rg at this
    exact List.mem_range.mpr (by omega))
  simpa using h2
/-- the ends: from there on, references come to an end -/
inductive End (fs : List (Option Int)) : Int → Prop
  | last {c : Int} : nxt fs c = none → End fs c
  | step {c v : Int} : nxt fs c = some v → End fs v → End fs c
def Cl (fs : List (Option Int)) (M : List Int) : Prop := ∀ c ∈ M, ∃ v ∈ M, nxt fs c = some v
theorem cl_noend {fs : List (Option Int)} {M : List Int} (h : Cl fs M) {c : Int} (he : End fs c) : c ∉ M := by
  induction he with
  | last e => intro hm; obtain ⟨v, _, e2⟩ := h _ hm; rw [e] at e2; cases e2
  | step e _ ih => intro hm; obtain ⟨v, hv, e2⟩ := h _ hm; rw [e] at e2; cases e2; exact ih hv
theorem noend_cl (fs : List (Option Int)) {c : Int} (h : ¬ End fs c) : ∃ v, nxt fs c = some v ∧ ¬ End fs v := by
  cases e : nxt fs c with
  | none => exact absurd (.last e) h
  | some v => exact ⟨v, rfl, fun z => h (.step e z)⟩
/-- all of a row that is linked and whose last one comes to an end does -/
theorem lk_end {fs : List (Option Int)} : ∀ (q : List Int) (l : Int), Lk fs (q ++ [l]) → End fs l → ∀ x ∈ q ++ [l], End fs x := by
  intro q
  induction q with
  | nil => intro l _ he x hx; simp at hx; subst hx; exact he
  | cons a q ih =>
    intro l hl he x hx
    have h2 : Lk fs (q ++ [l]) := fun p b c r e => hl (a :: p) b c r (by rw [List.cons_append, e]; rfl)
    have h3 := ih l h2 he
    rcases List.mem_cons.mp hx with rfl | hx
    · cases q with
      | nil => exact .step (hl [] x l [] rfl) (h3 l (by simp))
      | cons b q => exact .step (hl [] x b (q ++ [l]) rfl) (h3 b (by simp))
    · exact h3 x hx
/-- the next one of all but the last stands in the row -/
theorem lk_next {fs : List (Option Int)} : ∀ (q : List Int) (l : Int), Lk fs (q ++ [l]) → ∀ x ∈ q, ∃ v ∈ q ++ [l], nxt fs x = some v := by
  intro q
  induction q with
  | nil => intro l _ x hx; cases hx
  | cons a q ih =>
    intro l hl x hx
    have h2 : Lk fs (q ++ [l]) := fun p b c r e => hl (a :: p) b c r (by rw [List.cons_append, e]; rfl)
    rcases List.mem_cons.mp hx with rfl | hx
    · cases q with
      | nil => exact ⟨l, by simp, hl [] x l [] rfl⟩
      | cons b q => exact ⟨b, by simp, hl [] x b (q ++ [l]) rfl⟩
    · obtain ⟨v, hv, e⟩ := ih l h2 x hx
      exact ⟨v, by simp at hv ⊢; exact .inr hv, e⟩
theorem pth_end {fs : List (Option Int)} {c : Int} {P : List Int} (h : Pth fs c P) {A : List Int} {L : Int} (e : P = A ++ [L]) : End fs c ↔ nxt fs L = none := by
  obtain ⟨t, et⟩ := h.hd
  have hc : c ∈ P := by rw [et]; simp
  constructor
  · intro he
    obtain ⟨A', L', e', k⟩ := h.en
    have e2 : A ++ [L] = A' ++ [L'] := by rw [← e, ← e']
    obtain ⟨h1, h2⟩ := List.append_inj' e2 rfl
    cases h2
    rcases k with k | ⟨v, hv, k⟩
    · exact k
    · refine absurd hc (cl_noend (M := P) (fun x hx => ?_) he)
      rw [e] at hx
      rcases List.mem_append.mp hx with hx | hx
      · obtain ⟨v', hv', k'⟩ := lk_next A L (e ▸ h.lk) x hx
        exact ⟨v', by rw [e]; exact hv', k'⟩
      · simp at hx; subst hx; exact ⟨v, hv, k⟩
  · intro hn
    exact lk_end A L (e ▸ h.lk) (.last hn) c (e ▸ hc)
/-- the end of a path whose last one refers back starts a circle -/
theorem pth_back {fs : List (Option Int)} {c : Int} {P : List Int} (h : Pth fs c P) {A : List Int} {L v : Int} (e : P = A ++ [L]) (hv : v ∈ P) (k : nxt fs L = some v) : ∃ Q B, Pth fs v Q ∧ Q = B ++ [L] := by
  obtain ⟨p, q, ep⟩ := List.append_of_mem hv
  have hq : ∃ B, v :: q = B ++ [L] := by
    rcases List.eq_nil_or_concat q with rfl | ⟨q', z, rfl⟩
    · have : A ++ [L] = p ++ [v] := by rw [← e, ep]
      obtain ⟨_, h2⟩ := List.append_inj' this rfl
      cases h2; exact ⟨[], rfl⟩
    · have : A ++ [L] = (p ++ v :: q') ++ [z] := by rw [← e, ep]; simp
      obtain ⟨_, h2⟩ := List.append_inj' this rfl
      cases h2; exact ⟨v :: q', by simp⟩
  obtain ⟨B, eB⟩ := hq
  refine ⟨v :: q, B, ⟨⟨q, rfl⟩, fun p' a b r e' => h.lk (p ++ p') a b r (by rw [ep, e', List.append_assoc]), ?_, fun x hx => h.rg x (by rw [ep]; exact List.mem_append_right _ hx), B, L, eB, .inr ⟨v, by simp, k⟩⟩, eB⟩
  have := h.nd
  rw [ep, List.nodup_append] at this
  exact this.2.1
/-- the program's walk -/
theorem follow {fs : List (Option Int)} (hl : fs.length ≤ 1000) : ∀ (rest : List Int) (pre : List Int) (l : Int) (N : Nat), Lk fs (pre ++ l :: rest) → (pre ++ l :: rest).Nodup → (∀ x ∈ pre ++ l :: rest, Rg fs x) → (∃ A L, pre ++ l :: rest = A ++ [L] ∧ (nxt fs L = none ∨ ∃ v ∈ pre ++ l :: rest, nxt fs L = some v)) → (pre ++ l :: rest).length ≤ 1000 → rest.length < N →
    ∃ x', whileN wt_path_from_2 wb_path_from_1 N [.vw (chD fs), .pl (oD (nxt fs l)), .ow (.lst ((pre ++ [l]).map .int))] = .nx [.vw (chD fs), x', .ow (.lst ((pre ++ l :: rest).map .int))]
  | [], pre, l, N, h1, h2, h3, ⟨A, L, e, k⟩, h5, hN => by
    obtain ⟨N, rfl⟩ : ∃ k, N = k + 1 := ⟨N - 1, by omega⟩
    obtain ⟨h4, h6⟩ := List.append_inj' e rfl
    cases h6
    rcases k with k | ⟨v, hv, k⟩
    · exact ⟨_, by simp [whileN_succ, wt_path_from_2, k, oD]; rfl⟩
    · have hin : bInA (.int v) (.lst ((pre ++ [l]).map D.int)) = some true := by rw [inA_int, decide_eq_true hv]
      simp only [List.map_append, List.map_cons, List.map_nil] at hin ⊢
      exact ⟨_, by simp [whileN_succ, wt_path_from_2, k, oD, hin]; rfl⟩
  | r :: rest, pre, l, N, h1, h2, h3, h4, h5, hN => by
    obtain ⟨N, rfl⟩ : ∃ k, N = k + 1 := ⟨N - 1, by simp at hN; omega⟩
    have k : nxt fs l = some r := h1 pre l r rest rfl
    have ee : pre ++ l :: r :: rest = (pre ++ [l]) ++ r :: rest := by simp
    have hr : r ∉ pre ++ [l] := by
      rw [ee, List.nodup_append] at h2
      intro z
      exact h2.2.2 r z r (by simp) rfl
    have hin : bInA (.int r) (.lst ((pre ++ [l]).map D.int)) = some false := by rw [inA_int, decide_eq_false hr]
    have hrg := h3 r (by simp)
    have hat := nxt_at hrg.1 hrg.2
    obtain ⟨x', e⟩ := follow hl rest (pre ++ [l]) r N (ee ▸ h1) (ee ▸ h2) (ee ▸ h3) (ee ▸ h4) (ee ▸ h5) (by simp at hN; omega)
    have hp : pre.length + 1 < 100000 := by simp at h5; omega
    refine ⟨x', ?_⟩
    rw [ee, ← e]
    simp only [List.map_append, List.map_cons, List.map_nil] at hin
    simp [whileN_succ, wt_path_from_2, wb_path_from_1, oD, k, hin, hat, chD, hp]
theorem path_run {fs : List (Option Int)} (hl : fs.length ≤ 1000) {c : Int} {P : List Int} (h : Pth fs c P) : G_path_from [chD fs, .int c] = .ok (.tup (P.map .int)) none := by
  obtain ⟨t, rfl⟩ := h.hd
  have hc := h.rg c (by simp)
  have hat := nxt_at hc.1 hc.2
  have hlen := pth_len h
  obtain ⟨x', e⟩ := follow hl t [] c 99999 h.lk h.nd h.rg h.en (by simp at hlen ⊢; omega) (by simp at hlen; omega)
  have hin : bInA (.int c) (.lst []) = some false := inA_int c []
  have e2 : whileN wt_path_from_2 wb_path_from_1 100000 [.vw (chD fs), .pl (.int c), .ow (.lst [])] = .nx [.vw (chD fs), x', .ow (.lst ((c :: t).map .int))] := by
    rw [show (100000 : Nat) = 99999 + 1 from rfl, whileN_succ]
    simp only [List.nil_append, List.map_cons, List.map_nil] at e ⊢
    rw [← e]
    simp [wt_path_from_2, wb_path_from_1, hin, chD, hat]
  simp only [List.map_cons] at e2 ⊢
  simp [G_path_from, u_path_from, initS, e2]
end LK

set_option maxRecDepth 100000
set_option autoImplicit false
set_option linter.all false
namespace LK
open PySem PySem.Spec PyProof.Rows L2 DL
theorem pth_cl {fs : List (Option Int)} {c : Int} {A : List Int} {L v : Int} (h : Pth fs c (A ++ [L])) (hv : v ∈ A ++ [L]) (k : nxt fs L = some v) : Cl fs (A ++ [L]) := by
  intro x hx
  rcases List.mem_append.mp hx with hx | hx
  · exact lk_next A L h.lk x hx
  · simp at hx; subst hx; exact ⟨v, hv, k⟩
/-- the program's search for a circle -/
theorem circle_run (fs : List (Option Int)) (hC : Ch fs) (hl : fs.length ≤ 1000) : (G_circle_of [chD fs] = .ok .non none ∧ ∀ c, Rg fs c → End fs c) ∨
    ∃ (c : Int) (P : List Int), Pth fs c P ∧ (∃ A L, P = A ++ [L] ∧ nxt fs L = some c) ∧ Cl fs P ∧ G_circle_of [chD fs] = .ok (.tup (P.map .int)) none := by
  have hr := rng1_nat (n := fs.length) (by omega)
  rcases for_inv_ret (g := gN 1) (u := lb_circle_of_1) (fun k s => (∃ x y, s = [.vw (chD fs), x, y]) ∧ ∀ j : Nat, j < k → ∀ A L, Pth fs j (A ++ [L]) → nxt fs L ≠ some (j : Int)) (fun d s => ∃ (c : Int) (A : List Int) (L : Int), d = .tup ((A ++ [L]).map .int) ∧ Pth fs c (A ++ [L]) ∧ nxt fs L = some c) (rngD 0 fs.length) 0 (fun k hk s ⟨⟨x, y, e⟩, hI⟩ => by
    subst e
    rw [rngD_len] at hk
    rw [rngD_get, Int.zero_add]
    rw [Nat.zero_add] at hI ⊢
    have hrg : Rg fs (k : Int) := ⟨by omega, by omega⟩
    obtain ⟨P, hP⟩ := pth_ex fs hC hrg
    obtain ⟨A, L, rfl, hen⟩ := hP.en
    have hrun := path_run hl hP
    have hL := hP.rg L (by simp)
    have hat := nxt_at hL.1 hL.2
    have hlast : atI (A.map D.int ++ [D.int L]) (-1) = some (D.int L) := DL.atI_last _ _
    simp only [List.map_append, List.map_cons, List.map_nil] at hrun
    by_cases hn : nxt fs L = some (k : Int)
    · rw [hn] at hat
      refine .inr ⟨.tup ((A ++ [L]).map .int), [.vw (chD fs), .pl (.int k), .pl (.tup (A.map D.int ++ [D.int L]))], ?_, k, A, L, rfl, hP, hn⟩
      unfold chD at hrun ⊢
      simp [stepF_run, lb_circle_of_1, hrun, hlast, hat, oD]
    · have hne : bEqA (oD (nxt fs L)) (.int k) = some false := by
        cases g : nxt fs L with
        | none => rfl
        | some v =>
          have : ¬ v = (k : Int) := fun z => hn (by rw [g, z])
          simp [oD, this]
      refine .inl ⟨[.vw (chD fs), .pl (.int k), .pl (.tup (A.map D.int ++ [D.int L]))], .inl ?_, ⟨_, _, rfl⟩, fun j hj A' L' h' => ?_⟩
      · unfold chD at hrun ⊢
        simp [stepF_run, lb_circle_of_1, hrun, hlast, hat, hne]
      · by_cases hj2 : j < k
        · exact hI j hj2 A' L' h'
        · have : j = k := by omega
          subst this
          have h2 := path_run hl h'
          have h3 := path_run hl hP
          rw [h2] at h3
          injection h3 with h3
          injection h3 with h3
          have h4 : A' ++ [L'] = A ++ [L] := by
            have := congrArg (List.map fun d => match d with | D.int i => i | _ => 0) h3
            simpa [List.map_map, Function.comp_def] using this
          obtain ⟨_, h5⟩ := List.append_inj' h4 rfl
          cases h5; exact hn) [.vw (chD fs), .no, .no] ⟨⟨_, _, rfl⟩, fun j hj => absurd hj (by omega)⟩ with ⟨s1, e, _, hI⟩ | ⟨d, s1, e, c, A, L, rfl, hP, hn⟩
  · refine .inl ⟨?_, fun c hc => ?_⟩
    · unfold chD at e ⊢
      simp [G_circle_of, u_circle_of, initS, hr, e]
    · rw [rngD_len, Nat.zero_add] at hI
      apply Classical.byContradiction
      intro hne
      obtain ⟨P, hP⟩ := pth_ex fs hC hc
      obtain ⟨A, L, rfl, hen⟩ := hP.en
      rcases hen with hen | ⟨v, hv, hen⟩
      · exact hne ((pth_end hP rfl).mpr hen)
      · obtain ⟨Q, B, hQ, rfl⟩ := pth_back hP rfl hv hen
        have hvr := hP.rg v hv
        have hv' : v = ((v.toNat : Nat) : Int) := by unfold Rg at hvr; omega
        rw [hv'] at hQ
        exact hI v.toNat (by unfold Rg at hvr; omega) B L hQ (by rw [← hv']; exact hen)
  · obtain ⟨t, ht⟩ := hP.hd
    refine .inr ⟨c, A ++ [L], hP, ⟨A, L, rfl, hn⟩, pth_cl hP (by rw [ht]; simp) hn, ?_⟩
    unfold chD at e ⊢
    simp [G_circle_of, u_circle_of, initS, hr, e]
end LK

set_option maxRecDepth 100000
set_option autoImplicit false
set_option linter.all false
namespace LK
open PySem PySem.Spec PyProof.Rows L2 DL WM
/-! the choice of a plan -/
def namesT (t : List Col) : List Str := t.map Col.name
theorem place_loop (td : D) (z : Str) : ∀ (t : List Col) (k : Nat) (x2 x3 : Sl), z ∈ namesT t → ∃ s', forLoop (gT [2, 3]) lb_place_of_1 (enumD k (t.map colD)) [.pl td, .pl (.str z), x2, x3] = .ret (.int ((k + (namesT t).idxOf z : Nat) : Int)) s'
  | [], k, x2, x3, h => by cases h
  | c :: t, k, x2, x3, h => by
    have hat : oIxA (colD c) (.int 0) = some (.str c.name) := rfl
    have he := eq_strs c.name z
    rw [show namesT (c :: t) = c.name :: namesT t from rfl, List.idxOf_cons]
    rw [show (c :: t).map colD = colD c :: t.map colD from rfl]
    show ∃ s', forLoop (gT [2, 3]) lb_place_of_1 (.tup [.int k, colD c] :: enumD (k + 1) (t.map colD)) _ = _
    by_cases hc : c.name = z
    · rw [decide_eq_true hc] at he
      have hb : (c.name == z) = true := by rw [hc]; exact beq_self_eq_true z
      rw [hb]
      generalize colD c = CD at *
      generalize enumD (k + 1) (t.map colD) = EN at *
      exact ⟨[.pl td, .pl (.str z), .pl (.int k), .pl CD], by simp [forLoop_cons, lb_place_of_1, hat, he]⟩
    · rw [decide_eq_false hc] at he
      have hm : z ∈ namesT t := (List.mem_cons.mp h).resolve_left fun e => hc e.symm
      obtain ⟨s', e⟩ := place_loop td z t (k + 1) (.pl (.int k)) (.pl (colD c)) hm
      have hb : (c.name == z) = false := beq_eq_false_iff_ne.mpr hc
      rw [hb, show (k + (bif false then 0 else (namesT t).idxOf z + 1) : Nat) = k + 1 + (namesT t).idxOf z by simp; omega]
      refine ⟨s', ?_⟩
      rw [← e]
      generalize colD c = CD at *
      generalize enumD (k + 1) (t.map colD) = EN at *
      simp [forLoop_cons, lb_place_of_1, hat, he]
theorem place_run (t : List Col) (z : Str) (h : z ∈ namesT t) : G_place_of [tabD t, .str z] = .ok (.int ((namesT t).idxOf z : Nat)) none := by
  obtain ⟨s', e⟩ := place_loop (tabD t) z t 0 .no .no h
  rw [Nat.zero_add] at e
  have hz : enumO [tabD t] = some (enumD 0 (t.map colD)) := rfl
  generalize enumD 0 (t.map colD) = EN at *
  generalize tabD t = TD at *
  simp [G_place_of, u_place_of, initS, hz, e]
def fsOf (names : List Str) (p : List Rec) : List (Option Int) := p.map fun r => r.ref.map fun x => ((names.idxOf x : Nat) : Int)
def RefsOk (order names : List Str) (p : List Rec) : Prop := p.length = names.length ∧ ∀ (i : Nat) z r x, names[i]? = some z → p[i]? = some r → r.ref = some x → x ∈ names ∧ order.idxOf x < order.idxOf z
theorem fs_end {order names : List Str} {p : List Rec} (h : RefsOk order names p) : ∀ (n : Nat) (c : Int), Rg (fsOf names p) c → (∀ z, names[c.toNat]? = some z → order.idxOf z < n) → End (fsOf names p) c := by
  obtain ⟨hl, h⟩ := h
  intro n
  induction n with
  | zero =>
    intro c hc hn
    have hlen : (fsOf names p).length = names.length := by unfold fsOf; rw [List.length_map, hl]
    have hk : c.toNat < names.length := by have := hc.2; have := hc.1; omega
    exact absurd (hn _ (List.getElem?_eq_getElem hk)) (Nat.not_lt_zero _)
  | succ n ih =>
    intro c hc hn
    have hlen : (fsOf names p).length = names.length := by unfold fsOf; rw [List.length_map, hl]
    have hk : c.toNat < names.length := by have := hc.2; have := hc.1; omega
    have ez := List.getElem?_eq_getElem hk
    have er := List.getElem?_eq_getElem (show c.toNat < p.length by omega)
    have hnx : nxt (fsOf names p) c = p[c.toNat].ref.map fun x => ((names.idxOf x : Nat) : Int) := by
      unfold nxt fsOf
      rw [List.getElem?_map, er]
      simp
    cases e : p[c.toNat].ref with
    | none => exact .last (by rw [hnx, e]; rfl)
    | some x =>
      obtain ⟨hx, hlt⟩ := h _ _ _ x ez er e
      have hix := List.idxOf_lt_length_iff.mpr hx
      refine .step (v := ((names.idxOf x : Nat) : Int)) (by rw [hnx, e]; rfl) (ih _ ⟨by omega, by rw [hlen]; omega⟩ fun z hz => ?_)
      rw [Int.toNat_natCast, List.getElem?_eq_getElem hix, List.getElem_idxOf hix] at hz
      cases hz
      have := hn _ ez
      omega
theorem fs_ch {order names : List Str} {p : List Rec} (h : RefsOk order names p) : Ch (fsOf names p) := fun r hr => by
  unfold fsOf at hr ⊢
  obtain ⟨q, hq, e⟩ := List.mem_map.mp hr
  obtain ⟨i, hi, rfl⟩ := List.mem_iff_getElem.mp hq
  have hl := h.1
  cases e2 : p[i].ref with
  | none => rw [e2] at e; cases e
  | some x =>
    rw [e2] at e; cases e
    obtain ⟨hx, _⟩ := h.2 i _ _ x (List.getElem?_eq_getElem (by omega)) (List.getElem?_eq_getElem hi) e2
    have := List.idxOf_lt_length_iff.mpr hx
    rw [List.length_map]
    show 0 ≤ ((names.idxOf x : Nat) : Int) ∧ ((names.idxOf x : Nat) : Int) < _
    omega
theorem circle_none {order names : List Str} {p : List Rec} (h : RefsOk order names p) (hl : p.length ≤ 1000) : G_circle_of [chD (fsOf names p)] = .ok .non none := by
  have hlen : (fsOf names p).length = p.length := by unfold fsOf; rw [List.length_map]
  rcases circle_run (fsOf names p) (fs_ch h) (by omega) with ⟨e, _⟩ | ⟨c, P, hP, _, hC, _⟩
  · exact e
  · obtain ⟨t, ht⟩ := hP.hd
    have hcP : c ∈ P := by rw [ht]; exact List.mem_cons_self
    have hr := hP.rg c hcP
    exact absurd hcP (cl_noend hC (fs_end h (order.length + 1) c hr fun z _ => Nat.lt_succ_of_le List.idxOf_le_length))
theorem choice_run {order : List Str} {t : List Col} {p : List Rec} (h : RefsOk order (namesT t) p) (hl : p.length ≤ 1000) : G_choice_of [tabD t, planD p] = .ok (chD (fsOf (namesT t) p)) none := by
  have key := lc_map (g := gN 3) (vs := [3]) (t := mYes) (me := ce_choice_of_1) recD (fun r => oD (r.ref.map fun x => (((namesT t).idxOf x : Nat) : Int))) [.pl (tabD t), .pl (planD p), .no, .no] p (fun r hr acc => by
    have h1 : oIxA (recD r) (.int 1) = some (optS r.ref) := rfl
    cases e : r.ref with
    | none =>
      rw [e] at h1
      have h2 : bIsN (optS none) .non = some true := rfl
      generalize recD r = RD at *
      generalize planD p = PD at *
      generalize tabD t = TD at *
      simp [stepL_run, ce_choice_of_1, h1, h2, oD]
    | some x =>
      rw [e] at h1
      obtain ⟨i, hi, rfl⟩ := List.mem_iff_getElem.mp hr
      obtain ⟨hx, _⟩ := h.2 i _ _ x (List.getElem?_eq_getElem (by have := h.1; omega)) (List.getElem?_eq_getElem hi) e
      have h2 : bIsN (optS (some x)) .non = some false := rfl
      have h3 := place_run t x hx
      have h4 : optS (some x) = .str x := rfl
      rw [h4] at h1 h2
      generalize recD p[i] = RD at *
      generalize planD p = PD at *
      generalize tabD t = TD at *
      simp [stepL_run, ce_choice_of_1, h1, h2, h3, oD]) []
  rw [List.nil_append] at key
  have hc := circle_none h hl
  have e1 : (p.map fun r => oD (r.ref.map fun x => (((namesT t).idxOf x : Nat) : Int))) = (fsOf (namesT t) p).map oD := by unfold fsOf; rw [List.map_map]; rfl
  rw [e1] at key
  have hs : seqOf (planD p) = some (p.map recD) := rfl
  have hlen : ¬ 100000 < (p.map recD).length := by rw [List.length_map]; omega
  have htu : oTuple (.lst ((fsOf (namesT t) p).map oD)) = some (chD (fsOf (namesT t) p)) := rfl
  have hn : bNotN .non .non = some false := rfl
  generalize planD p = PD at *
  generalize tabD t = TD at *
  generalize chD (fsOf (namesT t) p) = CH at *
  generalize (fsOf (namesT t) p).map oD = FD at *
  generalize p.map recD = RD at *
  simp [G_choice_of, u_choice_of, initS, hs, hlen, key, htu, hc, hn]
end LK

set_option maxRecDepth 100000
set_option autoImplicit false
set_option linter.all false
namespace LK
open PySem PySem.Spec PyProof.Rows L2 DL WM
abbrev kinds5 : List Str := ["frame", "step", "dictionary", "offset", "lookup"]
def refI (names : List Str) : Option Str → Int
  | none => -1
  | some x => ((names.idxOf x : Nat) : Int)
def keyR (names : List Str) (r : Rec) : T3 := (((kinds5.idxOf r.kind : Nat) : Int), refI names r.ref, (r.w : Int))
def keyL (names : List Str) (p : List Rec) : List T3 := p.map (keyR names)
def PlanR (order names : List Str) (p : List Rec) : Prop := RefsOk order names p ∧ ∀ r ∈ p, r.kind ∈ kinds5
theorem planR_refs {order names : List Str} {p : List Rec} (h : PlanR order names p) {r : Rec} (hr : r ∈ p) {x : Str} (e : r.ref = some x) : x ∈ names := by
  obtain ⟨i, hi, rfl⟩ := List.mem_iff_getElem.mp hr
  exact (h.1.2 i _ _ x (List.getElem?_eq_getElem (by have := h.1.1; omega)) (List.getElem?_eq_getElem hi) e).1
theorem zip_pl (names : List Str) (p : List Rec) : zip2D (p.map recD) ((fsOf names p).map oD) = p.map fun r => .tup [recD r, oD (r.ref.map fun x => ((names.idxOf x : Nat) : Int))] := by
  unfold zip2D fsOf
  rw [List.map_map]
  induction p with
  | nil => rfl
  | cons r p ih => simp only [List.map_cons, List.zipWith_cons_cons, ih]; rfl
theorem sort_keys_run {order : List Str} {t : List Col} {p : List Rec} (h : PlanR order (namesT t) p) (hl : p.length ≤ 1000) : G_sort_keys [tabD t, planD p] = .ok (.lst ((keyL (namesT t) p).map tD3)) none := by
  have hch := choice_run h.1 hl
  have hz : zipO [planD p, chD (fsOf (namesT t) p)] = some (p.map fun r => .tup [recD r, oD (r.ref.map fun x => (((namesT t).idxOf x : Nat) : Int))]) := by
    rw [← zip_pl]; rfl
  have key := lc_map (g := gTT [gT [2, 3, 4], gN 5]) (vs := [5, 2, 3, 4]) (t := mYes) (me := ce_sort_keys_1) (fun r => D.tup [recD r, oD (r.ref.map fun x => (((namesT t).idxOf x : Nat) : Int))]) (fun r => tD3 (keyR (namesT t) r)) [.pl (tabD t), .pl (planD p), .no, .no, .no, .no] p (fun r hr acc => by
    have hk := oIxS_run kinds5 r.kind (h.2 r hr)
    have h1 : G_reference_key [oD (r.ref.map fun x => (((namesT t).idxOf x : Nat) : Int))] = .ok (.int (refI (namesT t) r.ref)) none := by
      cases e : r.ref with
      | none =>
        have h2 : bIsN .non .non = some true := rfl
        simp [G_reference_key, u_reference_key, initS, oD, refI, h2]
      | some x =>
        have h2 : bIsN (.int (((namesT t).idxOf x : Nat) : Int)) .non = some false := rfl
        simp [G_reference_key, u_reference_key, initS, oD, refI, h2]
    unfold recD tD3 keyR
    generalize oD (r.ref.map fun x => (((namesT t).idxOf x : Nat) : Int)) = RD at *
    generalize planD p = PD at *
    generalize tabD t = TD at *
    simp [stepL_run, ce_sort_keys_1, G_recipe_key, u_recipe_key, initS, hk, h1]) []
  rw [List.nil_append] at key
  have hlen : ¬ 100000 < (p.map fun r => D.tup [recD r, oD (r.ref.map fun x => (((namesT t).idxOf x : Nat) : Int))]).length := by rw [List.length_map]; omega
  have e1 : (p.map fun r => tD3 (keyR (namesT t) r)) = (keyL (namesT t) p).map tD3 := by unfold keyL; rw [List.map_map]; rfl
  rw [e1] at key
  generalize chD (fsOf (namesT t) p) = CH at *
  generalize (p.map fun r => D.tup [recD r, oD (r.ref.map fun x => (((namesT t).idxOf x : Nat) : Int))]) = ZL at *
  generalize planD p = PD at *
  generalize tabD t = TD at *
  generalize (keyL (namesT t) p).map tD3 = KL at *
  simp [G_sort_keys, u_sort_keys, initS, hch, mZip, allD, hz, hlen, key]
theorem key_run {order names : List Str} {p : List Rec} (h : PlanR order names p) (hl : p.length ≤ 1000) : G_law_key [.lst (names.map .str), planD p] = .ok (.lst ((keyL names p).map tD3)) none := by
  have key1 := lc_map (g := gN 4) (vs := [4]) (t := mYes) (me := ce_law_key_1) recD (fun r => D.int (refI names r.ref)) [.vw (.lst (names.map .str)), .pl (planD p), .pl (.lst (kinds5.map .str)), .no, .no, .no] p (fun r hr acc => by
    have h1 : oIxA (recD r) (.int 1) = some (optS r.ref) := rfl
    cases e : r.ref with
    | none =>
      rw [e] at h1
      have h2 : bIsN (optS none) .non = some true := rfl
      generalize recD r = RD at *
      generalize planD p = PD at *
      generalize names.map D.str = NS at *
      generalize kinds5.map D.str = KS at *
      simp [stepL_run, ce_law_key_1, h1, h2, refI]
    | some x =>
      rw [e] at h1
      have h2 : bIsN (optS (some x)) .non = some false := rfl
      have h3 := ix_strs (planR_refs h hr e)
      have h4 : optS (some x) = .str x := rfl
      rw [h4] at h1 h2
      generalize recD r = RD at *
      generalize planD p = PD at *
      generalize names.map D.str = NS at *
      generalize kinds5.map D.str = KS at *
      simp [stepL_run, ce_law_key_1, h1, h2, h3, refI]) []
  rw [List.nil_append] at key1
  have key2 := lc_rel (g := gN 5) (vs := [5]) (t := mYes) (me := ce_law_key_2) (fun (j : Nat) => D.int (j : Int)) (fun n s acc => s = [.vw (.lst (names.map .str)), .pl (planD p), .pl (.lst (kinds5.map .str)), .ow (.lst (p.map fun r => D.int (refI names r.ref))), .no, .no] ∧ acc = ((keyL names p).map tD3).take n) (List.range p.length) (fun n hn s acc ⟨e, ha⟩ => by
    rw [List.length_range] at hn
    subst e ha
    refine ⟨_, ((keyL names p).map tD3).take (n + 1), ?_, rfl, rfl⟩
    have hp : p[n] ∈ p := List.getElem_mem hn
    have a1 : oIxA (planD p) (.int (n : Nat)) = some (recD p[n]) := by
      show atI (p.map recD) (n : Nat) = _
      exact at_map recD (by omega) (by simpa using List.getElem?_eq_getElem hn)
    have a2 : oIxA (.lst (p.map fun r => D.int (refI names r.ref))) (.int (n : Nat)) = some (.int (refI names p[n].ref)) := by
      show atI (p.map fun r => D.int (refI names r.ref)) (n : Nat) = _
      exact at_map (fun r : Rec => D.int (refI names r.ref)) (by omega) (by simpa using List.getElem?_eq_getElem hn)
    have a3 : oIxA (recD p[n]) (.int 0) = some (.str p[n].kind) := rfl
    have a4 : oIxA (recD p[n]) (.int 2) = some (.int (p[n].w : Int)) := rfl
    have hk := ix_strs (h.2 _ hp)
    have ht : ((keyL names p).map tD3).take (n + 1) = ((keyL names p).map tD3).take n ++ [tD3 (keyR names p[n])] := by
      rw [List.take_succ, List.getElem?_map]
      unfold keyL
      rw [List.getElem?_map, List.getElem?_eq_getElem hn]; rfl
    rw [ht, List.getElem_range]
    unfold tD3 keyR
    generalize recD p[n] = RD at *
    generalize planD p = PD at *
    generalize names.map D.str = NS at *
    generalize (p.map fun r => D.int (refI names r.ref)) = PL at *
    generalize kinds5.map D.str = KS at *
    simp [stepL_run, ce_law_key_2, a1, a2, a3, a4, hk]) [.vw (.lst (names.map .str)), .pl (planD p), .pl (.lst (kinds5.map .str)), .ow (.lst (p.map fun r => D.int (refI names r.ref))), .no, .no] ⟨rfl, rfl⟩
  obtain ⟨s1, acc1, e2, rfl, rfl⟩ := key2
  have hsq : seqOf (planD p) = some (p.map recD) := rfl
  have hlen : ¬ 100000 < (p.map recD).length := by rw [List.length_map]; omega
  have hol : oLen (planD p) = some (.int (p.length : Nat)) := by
    show some (D.int ((p.map recD).length : Nat)) = _
    rw [List.length_map]
  have hrg := rng1_nat (n := p.length) (by omega)
  have hrl : ¬ 100000 < (rngD 0 p.length).length := by rw [rngD_len]; omega
  rw [← rngD0] at e2
  rw [List.length_range, List.take_of_length_le (by rw [List.length_map]; unfold keyL; rw [List.length_map]; omega)] at e2
  have h0 : G_law_key [.lst (names.map .str), planD p] = fnRes false false (u_law_key [.vw (.lst (names.map .str)), .pl (planD p), .no, .no, .no, .no]) := by simp [G_law_key, initS]
  rw [h0]
  unfold u_law_key
  generalize p.map recD = RL at *
  generalize planD p = PD at *
  generalize names.map D.str = NS at *
  generalize (p.map fun r => D.int (refI names r.ref)) = PL at *
  generalize (keyL names p).map tD3 = KL at *
  refine step1 (s' := [.vw (.lst NS), .pl PD, .pl (.lst (kinds5.map .str)), .no, .no, .no]) (by simp) ?_
  generalize kinds5.map D.str = KS at *
  refine step1 (s' := [.vw (.lst NS), .pl PD, .pl (.lst KS), .ow (.lst PL), .no, .no]) (by simp [hsq, hlen, key1]) ?_
  simp [hol, hrg, hrl, e2]
def dueI (xs ys : List T3) : Int := (if ltL ys xs then 1 else 0) - (if ltL xs ys then 1 else 0)
theorem order_run {order : List Str} {t : List Col} {p q : List Rec} (h : PlanR order (namesT t) p) (h2 : PlanR order (namesT t) q) (hl : p.length ≤ 1000) : G_plan_order [tabD t, planD p, planD q] = .ok (.int (dueI (keyL (namesT t) p) (keyL (namesT t) q))) none := by
  have hpq : q.length = p.length := by rw [h.1.1, h2.1.1]
  have k1 := sort_keys_run h hl
  have k2 := sort_keys_run h2 (by omega)
  have hle : (keyL (namesT t) p).length = (keyL (namesT t) q).length := by unfold keyL; rw [List.length_map, List.length_map, hpq]
  have e1 := eq_rows (keyL (namesT t) p) (keyL (namesT t) q)
  have e2 := lt_rows _ _ hle
  obtain ⟨t1, t2⟩ := ltL_tri _ _ hle
  unfold dueI
  generalize hA : keyL (namesT t) p = A at *
  generalize hB : keyL (namesT t) q = B at *
  have h0 : G_plan_order [tabD t, planD p, planD q] = fnRes false false (u_plan_order [.pl (tabD t), .pl (planD p), .pl (planD q), .no, .no]) := by simp [G_plan_order, initS]
  rw [h0]
  unfold u_plan_order
  generalize planD p = PD at *
  generalize planD q = QD at *
  generalize tabD t = TD at *
  generalize A.map tD3 = AD at *
  generalize B.map tD3 = BD at *
  refine step1 (s' := [.pl TD, .pl PD, .pl QD, .pl (.lst AD), .no]) (by simp [k1]) ?_
  refine step1 (s' := [.pl TD, .pl PD, .pl QD, .pl (.lst AD), .pl (.lst BD)]) (by simp [k2]) ?_
  by_cases e : A = B
  · obtain ⟨l1, l2⟩ := t1 e
    rw [decide_eq_true e] at e1
    rw [l1, l2]
    simp [e1]
  · have l1 := t2 e
    rw [decide_eq_false e] at e1
    cases hg : ltL B A with
    | true =>
      rw [hg] at l1
      rw [l1] at e2 ⊢
      simp [e1, e2]
    | false =>
      rw [hg] at l1
      rw [l1] at e2 ⊢
      simp [e1, e2]
end LK

set_option maxRecDepth 100000
set_option autoImplicit false
set_option linter.all false
namespace LK
open PySem PySem.Spec PyProof.Rows L2 DL WM
theorem rev_at {α : Type} (l : List α) {i : Nat} {x : α} (h : l.reverse[i]? = some x) : ∃ j, j < l.length ∧ l[j]? = some x ∧ i < l.length ∧ j = l.length - 1 - i := by
  have hi := (List.getElem?_eq_some_iff.mp h).1
  rw [List.length_reverse] at hi
  rw [List.getElem?_reverse hi] at h
  exact ⟨l.length - 1 - i, by omega, h, hi, rfl⟩
theorem planR_rev {order names : List Str} {p : List Rec} (h : PlanR order names p) : PlanR order names.reverse p.reverse := by
  obtain ⟨⟨hl, h1⟩, h2⟩ := h
  refine ⟨⟨by rw [List.length_reverse, List.length_reverse, hl], fun i z r x hz hr e => ?_⟩, fun r hr => h2 r (List.mem_reverse.mp hr)⟩
  obtain ⟨j, hj, ej, hi, e1⟩ := rev_at names hz
  obtain ⟨j2, hj2, ej2, hi2, e2⟩ := rev_at p hr
  have : j2 = j := by omega
  subst this
  obtain ⟨a, b⟩ := h1 j2 z r x ej ej2 e
  exact ⟨List.mem_reverse.mpr a, b⟩
theorem rev_tab (t : List Col) : oRevA (tabD t) = some (tabD t.reverse) := by
  show some (D.tup (t.map colD).reverse) = _
  rw [← List.map_reverse]; rfl
theorem rev_plan (p : List Rec) : oRevA (planD p) = some (planD p.reverse) := by
  show some (D.tup (p.map recD).reverse) = _
  rw [← List.map_reverse]; rfl
theorem rev_names (zs : List Str) : oRevA (.lst (zs.map .str)) = some (.lst (zs.reverse.map .str)) := by
  show some (D.lst (zs.map D.str).reverse) = _
  rw [← List.map_reverse]
theorem pair_at {x y : D} : atI [x, y] 0 = some x ∧ atI [x, y] 1 = some y := ⟨rfl, rfl⟩
theorem due_at (A B : List T3) (h : A.length = B.length) : ∀ s : DS, s[12]? = some (.pl (.lst [.lst (A.map tD3), .lst (B.map tD3)])) →
    mOp2 oSub (.v (mOp1 oInt (.v (mOp2 (oB bGtA) (.v (mOp2 oIxA (.r 12) (.v (mC (.int 0))))) (.v (mOp2 oIxA (.r 12) (.v (mC (.int 1))))))))) (.v (mOp1 oInt (.v (mOp2 (oB bLtA) (.v (mOp2 oIxA (.r 12) (.v (mC (.int 0))))) (.v (mOp2 oIxA (.r 12) (.v (mC (.int 1))))))))) s = .ok (.int (dueI A B)) s := by
  intro s hs
  have e1 := lt_rows A B h
  have e2 := gt_rows A B h
  obtain ⟨a0, a1⟩ := pair_at (x := D.lst (A.map tD3)) (y := D.lst (B.map tD3))
  unfold dueI
  generalize ltL A B = LT at *
  generalize ltL B A = GT at *
  have b1 : oB bGtA (.lst (A.map tD3)) (.lst (B.map tD3)) = some (.bl GT) := by unfold oB; rw [e2]; rfl
  have b2 : oB bLtA (.lst (A.map tD3)) (.lst (B.map tD3)) = some (.bl LT) := by unfold oB; rw [e1]; rfl
  generalize A.map tD3 = AD at *
  generalize B.map tD3 = BD at *
  have c1 : oIxA (.lst [.lst AD, .lst BD]) (.int 0) = some (.lst AD) := rfl
  have c2 : oIxA (.lst [.lst AD, .lst BD]) (.int 1) = some (.lst BD) := rfl
  simp [hs, c1, c2, e1, e2]
def stL (a0 a1 : Sl) (TD NS : D) (a4 a5 a6 a7 a8 a9 : Sl) (PD : D) (x11 x12 x13 : Sl) : DS := [a0, a1, .pl TD, .pl NS, a4, a5, a6, a7, a8, a9, .pl PD, x11, x12, x13, .no]
theorem turn_ok {order : List Str} {t : List Col} {p q : List Rec} (h : PlanR order (namesT t) p) (h2 : PlanR order (namesT t) q) (hl : p.length ≤ 1000) (a0 a1 a4 a5 a6 a7 a8 a9 x11 x12 x13 : Sl) :
    ∃ y12 y13 : Sl, stepF (gN 11) lb_law_2 (planD q) (stL a0 a1 (tabD t) (.lst ((namesT t).map .str)) a4 a5 a6 a7 a8 a9 (planD p) x11 x12 x13) = .nx (stL a0 a1 (tabD t) (.lst ((namesT t).map .str)) a4 a5 a6 a7 a8 a9 (planD p) (.pl (planD q)) y12 y13) := by
  have hpq : q.length = p.length := by rw [h.1.1, h2.1.1]
  have hr := planR_rev h
  have hr2 := planR_rev h2
  have hnr : (namesT t).reverse = namesT t.reverse := by unfold namesT; rw [List.map_reverse]
  rw [hnr] at hr hr2
  have hlr : p.reverse.length ≤ 1000 := by rw [List.length_reverse]; exact hl
  have o1 := order_run h h2 hl
  have o2 := order_run hr hr2 hlr
  have k1 := key_run h hl
  have k2 := key_run h2 (by omega)
  have k3 := key_run hr hlr
  have k4 := key_run hr2 (by rw [List.length_reverse]; omega)
  have hA : (keyL (namesT t) p).length = (keyL (namesT t) q).length := by unfold keyL; rw [List.length_map, List.length_map, hpq]
  have hB : (keyL (namesT t.reverse) p.reverse).length = (keyL (namesT t.reverse) q.reverse).length := by unfold keyL; rw [List.length_map, List.length_map, List.length_reverse, List.length_reverse, hpq]
  have d1 := due_at _ _ hA
  have d2 := due_at _ _ hB
  have s1 := same_ok 4 (.int (dueI (keyL (namesT t) p) (keyL (namesT t) q))) trivial
  have s2 := same_ok 4 (.int (dueI (keyL (namesT t.reverse) p.reverse) (keyL (namesT t.reverse) q.reverse))) trivial
  have v1 := rev_tab t
  have v2 := rev_plan p
  have v3 := rev_plan q
  have v4 := rev_names (namesT t)
  rw [hnr] at v4
  generalize keyL (namesT t) p = A at *
  generalize keyL (namesT t) q = B at *
  generalize keyL (namesT t.reverse) p.reverse = A2 at *
  generalize keyL (namesT t.reverse) q.reverse = B2 at *
  generalize dueI A B = U at *
  generalize dueI A2 B2 = U2 at *
  generalize A.map tD3 = AD at *
  generalize B.map tD3 = BD at *
  generalize A2.map tD3 = AD2 at *
  generalize B2.map tD3 = BD2 at *
  generalize planD p = PD at *
  generalize planD q = QD at *
  generalize planD p.reverse = PR at *
  generalize planD q.reverse = QR at *
  generalize tabD t = TD at *
  generalize tabD t.reverse = TR at *
  generalize (namesT t).map D.str = NS at *
  generalize (namesT t.reverse).map D.str = NR at *
  refine ⟨.pl (.lst [.lst AD2, .lst BD2]), .pl (.int U2), ?_⟩
  rw [stepF_run]
  unfold stL
  show stepO lb_law_2 (some _) = _
  rw [stepO_some]
  unfold lb_law_2
  have e1 : ∀ (u : SM) (s s' : DS) (f : SM) (r : SRes), u s = .nx s' → f s' = r → sSeq u f s = r := fun u s s' f r h1 h2 => by rw [sSeq_run, h1, SRes.nxt_nx, h2]
  refine e1 _ _ [a0, a1, .pl TD, .pl (.lst NS), a4, a5, a6, a7, a8, a9, .pl PD, .pl QD, .pl (.lst [.lst AD, .lst BD]), x13, .no] _ _ (by simp [k1, k2]) ?_
  refine e1 _ _ [a0, a1, .pl TD, .pl (.lst NS), a4, a5, a6, a7, a8, a9, .pl PD, .pl QD, .pl (.lst [.lst AD, .lst BD]), x13, .no] _ _ ?_ ?_
  · have := d1 [a0, a1, .pl TD, .pl (.lst NS), a4, a5, a6, a7, a8, a9, .pl PD, .pl QD, .pl (.lst [.lst AD, .lst BD]), x13, .no] rfl
    generalize mOp2 oSub (.v (mOp1 oInt (.v (mOp2 (oB bGtA) (.v (mOp2 oIxA (.r 12) (.v (mC (.int 0))))) (.v (mOp2 oIxA (.r 12) (.v (mC (.int 1))))))))) (.v (mOp1 oInt (.v (mOp2 (oB bLtA) (.v (mOp2 oIxA (.r 12) (.v (mC (.int 0))))) (.v (mOp2 oIxA (.r 12) (.v (mC (.int 1))))))))) = DU at *
    simp [o1, this, s1]
  refine e1 _ _ [a0, a1, .pl TD, .pl (.lst NS), a4, a5, a6, a7, a8, a9, .pl PD, .pl QD, .pl (.lst [.lst AD2, .lst BD2]), x13, .no] _ _ (by simp [v1, v2, v3, v4, k3, k4]) ?_
  refine e1 _ _ [a0, a1, .pl TD, .pl (.lst NS), a4, a5, a6, a7, a8, a9, .pl PD, .pl QD, .pl (.lst [.lst AD2, .lst BD2]), .pl (.int U2), .no] _ _ ?_ ?_
  · have := d2 [a0, a1, .pl TD, .pl (.lst NS), a4, a5, a6, a7, a8, a9, .pl PD, .pl QD, .pl (.lst [.lst AD2, .lst BD2]), x13, .no] rfl
    generalize mOp2 oSub (.v (mOp1 oInt (.v (mOp2 (oB bGtA) (.v (mOp2 oIxA (.r 12) (.v (mC (.int 0))))) (.v (mOp2 oIxA (.r 12) (.v (mC (.int 1))))))))) (.v (mOp1 oInt (.v (mOp2 (oB bLtA) (.v (mOp2 oIxA (.r 12) (.v (mC (.int 0))))) (.v (mOp2 oIxA (.r 12) (.v (mC (.int 1))))))))) = DU at *
    simp [this]
  simp [v1, v2, v3, o2, s2]
theorem loop2_ok {order : List Str} {t : List Col} {p : List Rec} (h : PlanR order (namesT t) p) (hl : p.length ≤ 1000) (a0 a1 a4 a5 a6 a7 a8 a9 : Sl) : ∀ (qs : List (List Rec)) (x11 x12 x13 : Sl), (∀ q ∈ qs, PlanR order (namesT t) q) →
    ∃ y11 y12 y13 : Sl, forLoop (gN 11) lb_law_2 (qs.map planD) (stL a0 a1 (tabD t) (.lst ((namesT t).map .str)) a4 a5 a6 a7 a8 a9 (planD p) x11 x12 x13) = .nx (stL a0 a1 (tabD t) (.lst ((namesT t).map .str)) a4 a5 a6 a7 a8 a9 (planD p) y11 y12 y13)
  | [], x11, x12, x13, _ => ⟨x11, x12, x13, rfl⟩
  | q :: qs, x11, x12, x13, hq => by
    obtain ⟨y12, y13, e⟩ := turn_ok h (hq q List.mem_cons_self) hl a0 a1 a4 a5 a6 a7 a8 a9 x11 x12 x13
    obtain ⟨z11, z12, z13, e2⟩ := loop2_ok h hl a0 a1 a4 a5 a6 a7 a8 a9 qs (.pl (planD q)) y12 y13 fun q hq' => hq q (List.mem_cons_of_mem _ hq')
    refine ⟨z11, z12, z13, ?_⟩
    rw [List.map_cons, forLoop_step, e, ← e2]; rfl
theorem loop3_ok {order : List Str} {t : List Col} (qs : List (List Rec)) (hq : ∀ q ∈ qs, PlanR order (namesT t) q) (hl : ∀ q ∈ qs, q.length ≤ 1000) (a0 a1 a4 a5 a6 a7 a8 : Sl) : ∀ (ps : List (List Rec)) (x10 x11 x12 x13 : Sl), (∀ q ∈ ps, q ∈ qs) →
    ∃ s', forLoop (gN 10) lb_law_3 (ps.map planD) [a0, a1, .pl (tabD t), .pl (.lst ((namesT t).map .str)), a4, a5, a6, a7, a8, .pl (.lst (qs.map planD)), x10, x11, x12, x13, .no] = .nx s'
  | [], x10, x11, x12, x13, _ => ⟨_, rfl⟩
  | p :: ps, x10, x11, x12, x13, hp => by
    have hpm := hp p List.mem_cons_self
    obtain ⟨y11, y12, y13, e⟩ := loop2_ok (hq p hpm) (hl p hpm) a0 a1 a4 a5 a6 a7 a8 (.pl (.lst (qs.map planD))) qs x11 x12 x13 hq
    obtain ⟨s', e2⟩ := loop3_ok qs hq hl a0 a1 a4 a5 a6 a7 a8 ps (.pl (planD p)) y11 y12 y13 fun q hq' => hp q (List.mem_cons_of_mem _ hq')
    refine ⟨s', ?_⟩
    rw [List.map_cons, forLoop_step, ← e2]
    have : stepF (gN 10) lb_law_3 (planD p) [a0, a1, .pl (tabD t), .pl (.lst ((namesT t).map .str)), a4, a5, a6, a7, a8, .pl (.lst (qs.map planD)), x10, x11, x12, x13, .no] = .nx [a0, a1, .pl (tabD t), .pl (.lst ((namesT t).map .str)), a4, a5, a6, a7, a8, .pl (.lst (qs.map planD)), .pl (planD p), y11, y12, y13, .no] := by
      rw [stepF_run]
      unfold stL at e
      generalize tabD t = TD at *
      generalize (namesT t).map D.str = NS at *
      generalize qs.map planD = QS at *
      generalize planD p = PD at *
      simp [lb_law_3, e]
    rw [this]; rfl
/-! the second plan -/
def RecR (order names : List Str) (z : Str) (r : Rec) : Prop := r.kind ∈ kinds5 ∧ ∀ x, r.ref = some x → x ∈ names ∧ order.idxOf x < order.idxOf z
theorem kinds_sub : (∀ k ∈ k0, k ∈ kinds5) ∧ ∀ k ∈ k1, k ∈ kinds5 := by constructor <;> decide +kernel
theorem recR_of {order names : List Str} {z : Str} {r : Rec} (hn : ∀ x ∈ order, x ∈ names) (h : RecOk (before order z) r) : RecR order names z r := by
  obtain ⟨h | ⟨hk, x, hx, e⟩, _⟩ := h
  · exact ⟨kinds_sub.1 _ h.1, fun x e => by rw [h.2] at e; cases e⟩
  · refine ⟨kinds_sub.2 _ hk, fun y e2 => ?_⟩
    rw [e] at e2; cases e2
    obtain ⟨a, b⟩ := before_lt hx
    exact ⟨hn _ a, b⟩
theorem planR_iff {order names : List Str} {p : List Rec} : PlanR order names p ↔ p.length = names.length ∧ ∀ (i : Nat) z r, names[i]? = some z → p[i]? = some r → RecR order names z r := by
  constructor
  · intro ⟨⟨hl, h1⟩, h2⟩
    exact ⟨hl, fun i z r hz hr => ⟨h2 r (List.mem_of_getElem? hr), fun x e => h1 i z r x hz hr e⟩⟩
  · intro ⟨hl, h⟩
    refine ⟨⟨hl, fun i z r x hz hr e => (h i z r hz hr).2 x e⟩, fun r hr => ?_⟩
    obtain ⟨i, hi, rfl⟩ := List.mem_iff_getElem.mp hr
    exact (h i _ _ (List.getElem?_eq_getElem (by omega)) (List.getElem?_eq_getElem hi)).1
theorem planR_of {order names : List Str} {p : List Rec} (hn : ∀ x ∈ order, x ∈ names) (h : PlanOk order names p) : PlanR order names p := planR_iff.mpr ⟨h.1, fun i z r hz hr => recR_of hn (h.2 i z r hz hr)⟩
theorem planR_set {order names : List Str} {p : List Rec} (h : PlanR order names p) {k : Nat} {z : Str} {r : Rec} (hz : names[k]? = some z) (hr : RecR order names z r) : PlanR order names (p.set k r) := by
  obtain ⟨hl, h⟩ := planR_iff.mp h
  refine planR_iff.mpr ⟨by rw [List.length_set, hl], fun i z' r' hz' hr' => ?_⟩
  rw [List.getElem?_set] at hr'
  split at hr'
  · rename_i e
    subst e
    split at hr'
    · cases hr'
      rw [hz] at hz'; cases hz'
      exact hr
    · cases hr'
  · exact h i z' r' hz' hr'
end LK

set_option maxRecDepth 100000
set_option autoImplicit false
set_option linter.all false
namespace LK
open PySem PySem.Spec PyProof.Rows L2 DL WM
theorem names_run (t : List Col) (a0 : Sl) (d1 : D) : lcLoop (gN 14) [14] mYes ce_law_1 (t.map colD) [a0, .ow d1, .pl (tabD t), .no, .no, .no, .no, .no, .no, .no, .no, .no, .no, .no, .no] [] = .ok (.lst ((namesT t).map .str)) [a0, .ow d1, .pl (tabD t), .no, .no, .no, .no, .no, .no, .no, .no, .no, .no, .no, .no] := by
  have key := lc_map (g := gN 14) (vs := [14]) (t := mYes) (me := ce_law_1) colD (fun c => D.str c.name) [a0, .ow d1, .pl (tabD t), .no, .no, .no, .no, .no, .no, .no, .no, .no, .no, .no, .no] t (fun c _ acc => by
    have h : oIxA (colD c) (.int 0) = some (.str c.name) := rfl
    generalize colD c = CD at *
    generalize tabD t = TD at *
    simp [stepL_run, ce_law_1, h]) []
  rw [key, List.nil_append]
  unfold namesT
  rw [List.map_map]; rfl
theorem second_ok {d : D} (hd : Tape d) {order : List Str} {t : List Col} {p : List Rec} (h : PlanR order (namesT t) p) (hno : ∀ x ∈ order, x ∈ namesT t) (hon : ∀ x ∈ namesT t, x ∈ order) (hol : order.length ≤ 50) (hnp : 1 ≤ (namesT t).length) (hpl : (namesT t).length ≤ 50) (a0 a6 : Sl) :
    ∃ (d' : D) (q : List Rec) (y8 : Sl), st_law_8 [a0, .ow d, .pl (tabD t), .pl (.lst ((namesT t).map .str)), .pl (.lst (order.map .str)), .pl (planD p), a6, .ow (.lst (p.map recD)), .no, .no, .no, .no, .no, .no, .no] = .nx [a0, .ow d', .pl (tabD t), .pl (.lst ((namesT t).map .str)), .pl (.lst (order.map .str)), .pl (planD p), a6, .ow (.lst (q.map recD)), y8, .no, .no, .no, .no, .no, .no] ∧ Tape d' ∧ PlanR order (namesT t) q := by
  obtain ⟨q, d1, e1, hT1, hq0, hq1⟩ := draw_ok hd (many := 4) (by omega)
  by_cases c0 : q > 0
  · have hlen : ((namesT t).map D.str).length = (namesT t).length := by simp
    obtain ⟨c, d2, e2, hT2, hc0, hc1⟩ := draw_ok hT1 (many := ((namesT t).length : Int)) (by omega)
    obtain ⟨k, rfl⟩ : ∃ k : Nat, c = (k : Int) := ⟨c.toNat, by omega⟩
    have hk : k < (namesT t).length := by omega
    obtain ⟨z, hz⟩ : ∃ z, (namesT t)[k]? = some z := ⟨_, List.getElem?_eq_getElem hk⟩
    have hzm := List.mem_of_getElem? hz
    have az : atI ((namesT t).map D.str) (k : Nat) = some (.str z) := at_map D.str (by omega) (by simpa using hz)
    obtain ⟨r, d3, OS, i1, i2, i3, e3, hT3, hr⟩ := drawn_ok hT2 order (hon z hzm) hol
    have hrr := recR_of hno hr
    have hkp : k < p.length := by rw [h.1.1]; exact hk
    have hix := ixN_int (k : Int) (p.map recD).length ⟨by omega, by rw [List.length_map]; omega⟩
    rw [Int.toNat_natCast] at hix
    have hset : (p.map recD).set k (recD r) = (p.set k r).map recD := by rw [List.map_set]
    have hp2 := planR_set h hz hrr
    obtain ⟨b, d4, e4, hT4, hb0, hb1⟩ := draw_ok hT3 (many := 2) (by omega)
    by_cases c1 : b = 0
    · subst c1
      obtain ⟨w, d5, e5, hT5, hw0, hw1⟩ := draw_ok hT4 (many := 33) (by omega)
      have a1 : oIxA (planD p) (.int (k : Nat)) = some (recD p[k]) := by
        show atI (p.map recD) (k : Nat) = _
        exact at_map recD (by omega) (by simpa using List.getElem?_eq_getElem hkp)
      have a2 : oIxA (recD p[k]) (.int 0) = some (.str p[k].kind) := rfl
      have a3 : oIxA (recD p[k]) (.int 1) = some (optS p[k].ref) := rfl
      have hpk : RecR order (namesT t) z p[k] := (planR_iff.mp h).2 k z _ hz (List.getElem?_eq_getElem hkp)
      have hset2 : ((p.set k r).map recD).set k (.tup [.str p[k].kind, optS p[k].ref, .int w]) = ((p.set k r).set k ⟨p[k].kind, p[k].ref, w.toNat⟩).map recD := by
        rw [List.map_set (f := recD) (l := p.set k r)]
        unfold recD
        simp only [show ((w.toNat : Nat) : Int) = w by omega]
      have hix2 := ixN_int (k : Int) ((p.set k r).map recD).length ⟨by omega, by rw [List.length_map, List.length_set]; omega⟩
      rw [Int.toNat_natCast] at hix2
      refine ⟨d5, (p.set k r).set k ⟨p[k].kind, p[k].ref, w.toNat⟩, .pl (.int (k : Nat)), ?_, hT5, planR_set hp2 hz ⟨hpk.1, hpk.2⟩⟩
      generalize recD p[k] = RK at *
      generalize optS p[k].ref = OK at *
      generalize ((p.set k r).set k ⟨p[k].kind, p[k].ref, w.toNat⟩).map recD = Q2 at *
      generalize (p.set k r).map recD = Q1 at *
      generalize p.map recD = PL at *
      generalize planD p = PD at *
      generalize tabD t = TD at *
      generalize (namesT t).map D.str = NS at *
      generalize order.map D.str = OD at *
      generalize recD r = RD at *
      simp [st_law_8, e1, c0, hlen, e2, az, i1, i2, i3, e3, hix, hset, e4, a1, a2, a3, e5, hix2, hset2]
    · refine ⟨d4, p.set k r, .pl (.int (k : Nat)), ?_, hT4, hp2⟩
      generalize (p.set k r).map recD = Q1 at *
      generalize p.map recD = PL at *
      generalize planD p = PD at *
      generalize tabD t = TD at *
      generalize (namesT t).map D.str = NS at *
      generalize order.map D.str = OD at *
      generalize recD r = RD at *
      simp [st_law_8, e1, c0, hlen, e2, az, i1, i2, i3, e3, hix, hset, e4, c1]
  · refine ⟨d1, p, .no, ?_, hT1, h⟩
    generalize p.map recD = PL at *
    generalize planD p = PD at *
    generalize tabD t = TD at *
    generalize (namesT t).map D.str = NS at *
    generalize order.map D.str = OD at *
    simp [st_law_8, e1, c0]
theorem law_true (ns : List Int) (hl : ns.length ≤ 63) : G_law [.scr (ns.map .int)] = .ok (.bl true) none := by
  obtain ⟨d0, e0, hT0⟩ := tape_ok ns
  obtain ⟨k, many, t, d1, e1, hT1, hk1, hk6, hm, ht⟩ := small_ok hT0 (top := 1000) (by omega) (by omega)
  have hnl : (namesT t).length = k := by unfold namesT; rw [List.length_map]; exact ht.1
  have hnr := names_run t (.pl (.scr (ns.map .int))) d1
  obtain ⟨order, d2, e2, hT2, hperm⟩ := shufF_ok D.str hT1 (namesT t) (by omega)
  have hol : order.length ≤ 50 := by rw [hperm.length_eq]; omega
  have hon : ∀ x ∈ namesT t, x ∈ order := fun x hx => hperm.mem_iff.mpr hx
  have hno : ∀ x ∈ order, x ∈ namesT t := fun x hx => hperm.mem_iff.mp hx
  obtain ⟨p1, d3, e3, hT3, hp1⟩ := ordered_ok hT2 (namesT t) order hon hol (by omega)
  obtain ⟨p3, d4, e4, hT4, hp3⟩ := ordered_ok hT3 (namesT t) order hon hol (by omega)
  have r1 := planR_of hno hp1
  have r3 := planR_of hno hp3
  obtain ⟨d5, p2, y8, e5, hT5, r2⟩ := second_ok hT4 r1 hno hon hol (by omega) (by omega) (.pl (.scr (ns.map .int))) (.pl (planD p3))
  obtain ⟨s', e6⟩ := loop3_ok (order := order) (t := t) [p1, p2, p3] (fun q hq => by
    simp only [List.mem_cons, List.not_mem_nil, or_false] at hq
    rcases hq with rfl | rfl | rfl
    · exact r1
    · exact r2
    · exact r3) (fun q hq => by
    simp only [List.mem_cons, List.not_mem_nil, or_false] at hq
    rcases hq with rfl | rfl | rfl
    · rw [r1.1.1]; omega
    · rw [r2.1.1]; omega
    · rw [r3.1.1]; omega) (.pl (.scr (ns.map .int))) (.ow d5) (.pl (.lst (order.map .str))) (.pl (planD p1)) (.pl (planD p3)) (.ow (.lst (p2.map recD))) y8 [p1, p2, p3] .no .no .no .no (fun q hq => hq)
  simp only [List.map_cons, List.map_nil] at e6
  have hsq : seqOf (tabD t) = some (t.map colD) := rfl
  have htl : ¬ 100000 < (t.map colD).length := by rw [List.length_map, ht.1]; omega
  have hli : oList (planD p1) = some (.lst (p1.map recD)) := rfl
  have htu : oTuple (.lst (p2.map recD)) = some (planD p2) := rfl
  have h0 : G_law [.scr (ns.map .int)] = fnRes false false (u_law [.pl (.scr (ns.map .int)), .no, .no, .no, .no, .no, .no, .no, .no, .no, .no, .no, .no, .no, .no]) := by simp [G_law, initS]
  rw [h0]
  unfold u_law
  generalize D.scr (ns.map D.int) = SC at *
  generalize t.map colD = TL at *
  generalize p1.map recD = L1 at *
  generalize p2.map recD = L2 at *
  generalize planD p1 = P1 at *
  generalize planD p2 = P2 at *
  generalize planD p3 = P3 at *
  generalize tabD t = TD at *
  generalize (namesT t).map D.str = NS at *
  generalize order.map D.str = OD at *
  refine step1 (s' := [.pl SC, .ow d0, .no, .no, .no, .no, .no, .no, .no, .no, .no, .no, .no, .no, .no]) (by simp [st_law_1, e0]) ?_
  refine step1 (s' := [.pl SC, .ow d1, .pl TD, .no, .no, .no, .no, .no, .no, .no, .no, .no, .no, .no, .no]) (by simp [st_law_2, e1]) ?_
  refine step1 (s' := [.pl SC, .ow d1, .pl TD, .ow (.lst NS), .no, .no, .no, .no, .no, .no, .no, .no, .no, .no, .no]) (by simp [st_law_3, hsq, htl, hnr]) ?_
  refine step1 (s' := [.pl SC, .ow d2, .pl TD, .ow (.lst NS), .pl (.lst OD), .no, .no, .no, .no, .no, .no, .no, .no, .no, .no]) (by simp [st_law_4, e2]) ?_
  refine step1 (s' := [.pl SC, .ow d3, .pl TD, .pl (.lst NS), .pl (.lst OD), .pl P1, .no, .no, .no, .no, .no, .no, .no, .no, .no]) (by simp [st_law_5, e3]) ?_
  refine step1 (s' := [.pl SC, .ow d4, .pl TD, .pl (.lst NS), .pl (.lst OD), .pl P1, .pl P3, .no, .no, .no, .no, .no, .no, .no, .no]) (by simp [st_law_6, e4]) ?_
  refine step1 (s' := [.pl SC, .ow d4, .pl TD, .pl (.lst NS), .pl (.lst OD), .pl P1, .pl P3, .ow (.lst L1), .no, .no, .no, .no, .no, .no, .no]) (by simp [st_law_7, hli]) ?_
  refine step1 e5 ?_
  refine step1 (s' := [.pl SC, .ow d5, .pl TD, .pl (.lst NS), .pl (.lst OD), .pl P1, .pl P3, .ow (.lst L2), y8, .pl (.lst [P1, P2, P3]), .no, .no, .no, .no, .no]) (by simp [st_law_9, htu]) ?_
  refine step1 (s' := s') (by simp [st_law_10, e6]) ?_
  simp [st_law_11]
end LK

open PySem PySem.W PyProof.Rows
set_option maxHeartbeats 0 in
theorem PySem.Challenge.cw_refpack_k31_order_of_plans_holds : PySem.Challenge.rw_refpack_k31_order_of_plans.Holds := by
  w_on; o_law; k_head; (case hw => w_witness2)
  k_fill
  refine L2.walk_of (l := PySem.Challenge.rw_refpack_k31_order_of_plans) (n := 63) (k := 10) (x := "script") (CX := fun _ => L2.CX0) (sp := fun w => DL.spD _ false false [false] LK.G_law) rfl (by decide) rfl ⟨rfl, by decide, by decide⟩ (fun w h Y => PySem.W.kIn_of Y) ?F (fun _ H a ns hl hO hS => DL.law_sp (fun _ h => absurd h (List.not_mem_nil)) hS (LK.law_true ns hl)) (fun _ _ _ _ _ h => h)
  case F =>
    intro w mg fa h KX G hmg
    refine' LK.all_mk KX G ?a0 ?l0 ?c0 ?k0 ?a1 ?l1 ?c1 ?k1 ?a2 ?l2 ?c2 ?k2 ?a3 ?l3 ?c3 ?k3 ?a4 ?l4 ?c4 ?k4 ?a5 ?l5 ?c5 ?k5 ?a6 ?l6 ?c6 ?k6 ?a7 ?l7 ?c7 ?k7 ?a8 ?l8 ?c8 ?k8 ?a9 ?l9 ?c9 ?k9 ?a10 ?l10 ?c10 ?k10 ?a11 ?l11 ?c11 ?k11 ?a12 ?l12 ?c12 ?k12 ?a13 ?l13 ?c13 ?k13 ?a14 ?l14 ?c14 ?k14 ?a15 ?l15 ?c15 ?k15 ?a16 ?l16 ?c16 ?k16 ?a17 ?l17 ?c17 ?k17 ?a18 ?l18 ?c18 ?k18 ?a19 ?l19 ?c19 ?k19 ?a20 ?l20 ?c20 ?k20 ?a21 ?l21 ?c21 ?k21 ?a22 ?l22 ?c22 ?k22 ?a23 ?l23 ?c23 ?k23 ?a24 ?l24 ?c24 ?k24 ?a25 ?l25 ?c25 ?k25 ?a26 ?l26 ?c26 ?k26 ?a27 ?l27 ?c27 ?k27 ?a28 ?l28 ?c28 ?k28 ?a29 ?l29 ?c29 ?k29 ?z_abs ?z_bool ?z_enumerate ?z_int ?z_isinstance ?z_len ?z_list ?z_max ?z_range ?z_sorted ?z_str ?z_tuple ?z_zip ?g_KINDS ?lk_KINDS hmg
    (case a0 => k_is); (case l0 => k_is); (case c0 => k_is); (case k0 => k_is); (case a1 => k_is); (case l1 => k_is); (case c1 => k_is); (case k1 => k_is); (case a2 => k_is); (case l2 => k_is); (case c2 => k_is); (case k2 => k_is); (case a3 => k_is); (case l3 => k_is); (case c3 => k_is); (case k3 => k_is); (case a4 => k_is); (case l4 => k_is); (case c4 => k_is); (case k4 => k_is); (case a5 => k_is); (case l5 => k_is); (case c5 => k_is); (case k5 => k_is); (case a6 => k_is); (case l6 => k_is); (case c6 => k_is); (case k6 => k_is); (case a7 => k_is); (case l7 => k_is); (case c7 => k_is); (case k7 => k_is); (case a8 => k_is); (case l8 => k_is); (case c8 => k_is); (case k8 => k_is); (case a9 => k_is); (case l9 => k_is); (case c9 => k_is); (case k9 => k_is); (case a10 => k_is); (case l10 => k_is); (case c10 => k_is); (case k10 => k_is); (case a11 => k_is); (case l11 => k_is); (case c11 => k_is); (case k11 => k_is); (case a12 => k_is); (case l12 => k_is); (case c12 => k_is); (case k12 => k_is); (case a13 => k_is); (case l13 => k_is); (case c13 => k_is); (case k13 => k_is); (case a14 => k_is); (case l14 => k_is); (case c14 => k_is); (case k14 => k_is); (case a15 => k_is); (case l15 => k_is); (case c15 => k_is); (case k15 => k_is); (case a16 => k_is); (case l16 => k_is); (case c16 => k_is); (case k16 => k_is); (case a17 => k_is); (case l17 => k_is); (case c17 => k_is); (case k17 => k_is); (case a18 => k_is); (case l18 => k_is); (case c18 => k_is); (case k18 => k_is); (case a19 => k_is); (case l19 => k_is); (case c19 => k_is); (case k19 => k_is); (case a20 => k_is); (case l20 => k_is); (case c20 => k_is); (case k20 => k_is); (case a21 => k_is); (case l21 => k_is); (case c21 => k_is); (case k21 => k_is); (case a22 => k_is); (case l22 => k_is); (case c22 => k_is); (case k22 => k_is); (case a23 => k_is); (case l23 => k_is); (case c23 => k_is); (case k23 => k_is); (case a24 => k_is); (case l24 => k_is); (case c24 => k_is); (case k24 => k_is); (case a25 => k_is); (case l25 => k_is); (case c25 => k_is); (case k25 => k_is); (case a26 => k_is); (case l26 => k_is); (case c26 => k_is); (case k26 => k_is); (case a27 => k_is); (case l27 => k_is); (case c27 => k_is); (case k27 => k_is); (case a28 => k_is); (case l28 => k_is); (case c28 => k_is); (case k28 => k_is); (case a29 => k_is); (case l29 => k_is); (case c29 => k_is); (case k29 => k_is); (case z_abs => k_is); (case z_bool => k_is); (case z_enumerate => k_is); (case z_int => k_is); (case z_isinstance => k_is); (case z_len => k_is); (case z_list => k_is); (case z_max => k_is); (case z_range => k_is); (case z_sorted => k_is); (case z_str => k_is); (case z_tuple => k_is); (case z_zip => k_is); (case g_KINDS => k_is); (case lk_KINDS => k_is)
