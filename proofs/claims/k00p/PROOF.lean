import PyProof.Rows.All
import Wide.All
import OpenK.AllK
import Wide.FinOn
import HandS.ForMost
import HandS.ForExc
import HandS.IsInst
import HandS.Wide
import HandS.Strs
import HandS.TupAny
import HandS.DictComp
import HandS.Defaults
import HandS.Style
import HandS.Small
import KE.KSortTupG
import HandS.TupSets
import HandS.SortInts
import PyProof.ReprRoads
import HandS.EndOwn
import HandS.ExcIs
import HandS.Conv
import KE.GoesMore
import HandS.SetBool
import HandS.More
import HandS.WordsDict
import HandS.CallLocal
import HandS.TupMul
import PyProof.StrOps2
import HandS.Deep
import HandS.RaiseMore
import HandS.HeadHook3
import HandS.ExcInit
import HandS.ExcField
import KE.KDictZip
import HandS.Zip
import HandS.WideBits
import KE.KExcIs
import HandS.Text
import KE.KDictCopyH
import KE.KDictDisplayH
import HandS.SortKw
import HandS.Nested
import HandS.MakeKwOnly
import PySem.Challenge.RW_witnesslog_k00_errors_apart
set_option Elab.async false
set_option linter.all false
set_option maxRecDepth 100000
set_option maxHeartbeats 4000000
namespace VS
open PySem PySem.Spec PyProof.Rows L2
inductive D where
  | non | bl (b : Bool) | int (i : Int) | str (x : Str) | tup (xs : List D) | lst (xs : List D) | dct (ks : List Key) (xs : List D)
  | exc (n f : Str) (fs : List D) | cls (n : Str) | st | opq (v : V) | scr (ns : List Int) | odk (k : Nat) | dcT (ks : List (List Key)) (xs : List D) | ins (n : Str) (ns : List Str) (xs : List D)
structure Lay where
  sa : Addr
  la : Addr
  ca : Addr
structure Dc where
  K : PySem.W.Frag
  mg : Str → Option Value
  l : Lay
structure DS where
  large : List Int
  cells : List Int
  left : Int
  turn : Int
def ExO (cls : Value) (dd : Option Addr) (a : Addr) : HO := .ext fun h => ∃ (oe : Obj) (vs : Array Value), h.get? a = some oe ∧ Zc cls dd oe ∧ oe.data = .fields vs
def oddKey (b : Addr) : Nat → Value
  | 0 => .bool true
  | 1 => .none
  | _ => .ref b
def OddO (a b : Addr) (k : Nat) : HO := .ext fun h => ∃ (o : Obj) (es : Array DictEntry) (ep : Nat), h.get? a = some o ∧ (a == sysModules) = false ∧ o.ExactDict ∧ o.data = .dict es ep ∧ es.size = 1 ∧ ∀ e ∈ es.toList, e.key = oddKey b k
mutual
def Den (c : Dc) (F : Hp) : D → V → Prop
  | .non, v => v = .non
  | .bl b, v => v = .bl b
  | .int i, v => v = .int i
  | .str x, v => v = .str x
  | .tup ds, v => ∃ a vs, v = .ref a ∧ SqT c.K F a vs ∧ ds.length ≤ sizeLine ∧ Dens c F ds vs
  | .lst ds, v => ∃ a vs, v = .ref a ∧ F a = some (.lst vs) ∧ ds.length ≤ sizeLine ∧ Dens c F ds vs
  | .dct ks ds, v => ∃ a kv, v = .ref a ∧ F a = some (.dK kv) ∧ kv.map (·.1) = ks ∧ Dens c F ds (kv.map (·.2))
  | .exc n f fs, v => ∃ a C dd us, v = .ref a ∧ c.mg n = some (.ref C) ∧ F a = some (ExO (.ref C) dd a) ∧ Dens c F fs us ∧ (match us with | [] => dd = none | u :: _ => ∃ p, dd = some p ∧ F p = some (.xd [(f, u)]))
  | .cls n, v => ∃ C, v = .ref C ∧ c.mg n = some (.ref C)
  | .st, v => v = .ref c.l.sa
  | .opq w, v => v = w
  | .scr ns, v => ∃ a, v = .ref a ∧ SqL c.K F a (ns.map V.int)
  | .odk k, v => ∃ a b, v = .ref a ∧ F a = some (OddO a b k) ∧ (2 ≤ k → F b = some (.tup [.int 0]))
  | .dcT ks ds, v => ∃ a kv, v = .ref a ∧ F a = some (.dT kv) ∧ kv.map (·.1) = ks ∧ Dens c F ds (kv.map (·.2))
  | .ins n ns ds, v => ∃ a C dx fs, v = .ref a ∧ c.mg n = some (.ref C) ∧ F a = some (.ins C dx fs) ∧ fs.map (·.1) = ns ∧ Dens c F ds (fs.map (·.2))
def Dens (c : Dc) (F : Hp) : List D → List V → Prop
  | [], vs => vs = []
  | d :: ds, vs => ∃ v r, vs = v :: r ∧ Den c F d v ∧ Dens c F ds r
end
section
variable {c : Dc} {F F' : Hp}
theorem sqT_mono {K : PySem.W.Frag} {a : Addr} {vs : List V} (e : Same F F') (h : SqT K F a vs) : SqT K F' a vs := by
  rcases h with (h | ⟨o, h⟩) | h
  · exact .inl (.inl (e _ _ h))
  · exact .inl (.inr ⟨o, e _ _ h⟩)
  · exact .inr h
mutual
theorem Den.mono (e : Same F F') : ∀ (d : D) (v : V), Den c F d v → Den c F' d v
  | .non, _, h => h
  | .bl _, _, h => h
  | .int _, _, h => h
  | .str _, _, h => h
  | .tup ds, _, h => by
    simp only [Den] at h ⊢
    obtain ⟨a, vs, h1, h2, hz, h3⟩ := h
    exact ⟨a, vs, h1, sqT_mono e h2, hz, Dens.mono e ds vs h3⟩
  | .lst ds, _, h => by
    simp only [Den] at h ⊢
    obtain ⟨a, vs, h1, h2, hz, h3⟩ := h
    exact ⟨a, vs, h1, e _ _ h2, hz, Dens.mono e ds vs h3⟩
  | .dct ks ds, _, h => by
    simp only [Den] at h ⊢
    obtain ⟨a, kv, h1, h2, h3, h4⟩ := h
    exact ⟨a, kv, h1, e _ _ h2, h3, Dens.mono e ds _ h4⟩
  | .exc n f fs, _, h => by
    simp only [Den] at h ⊢
    obtain ⟨a, C, dd, us, h1, h2, h3, h4, h5⟩ := h
    refine ⟨a, C, dd, us, h1, h2, e _ _ h3, Dens.mono e fs us h4, ?_⟩
    cases us with
    | nil => exact h5
    | cons u r =>
      obtain ⟨p, q1, q2⟩ := h5
      exact ⟨p, q1, e _ _ q2⟩
  | .cls _, _, h => h
  | .st, _, h => h
  | .opq _, _, h => h
  | .odk _, _, h => by
    obtain ⟨a, b, h1, h2, h3⟩ := h
    exact ⟨a, b, h1, e _ _ h2, fun z => e _ _ (h3 z)⟩
  | .dcT ks ds, _, h => by
    simp only [Den] at h ⊢
    obtain ⟨a, kv, h1, h2, h3, h4⟩ := h
    exact ⟨a, kv, h1, e _ _ h2, h3, Dens.mono e ds _ h4⟩
  | .ins n ns ds, _, h => by
    simp only [Den] at h ⊢
    obtain ⟨a, C, dx, fs, h1, h2, h3, h4, h5⟩ := h
    exact ⟨a, C, dx, fs, h1, h2, e _ _ h3, h4, Dens.mono e ds _ h5⟩
  | .scr _, _, h => by
    simp only [Den] at h ⊢
    obtain ⟨a, h1, h2⟩ := h
    exact ⟨a, h1, e.seq h2⟩
theorem Dens.mono (e : Same F F') : ∀ (ds : List D) (vs : List V), Dens c F ds vs → Dens c F' ds vs
  | [], _, h => h
  | d :: ds, _, h => by
    simp only [Dens] at h ⊢
    obtain ⟨v, r, h1, h2, h3⟩ := h
    exact ⟨v, r, h1, Den.mono e d v h2, Dens.mono e ds r h3⟩
end
theorem Dens.length : ∀ {ds : List D} {vs : List V}, Dens c F ds vs → ds.length = vs.length
  | [], _, h => by simp only [Dens] at h; subst h; rfl
  | d :: ds, _, h => by
    simp only [Dens] at h
    obtain ⟨v, r, rfl, _, h3⟩ := h
    simp [Dens.length h3]
theorem Dens.get : ∀ {ds : List D} {vs : List V} {i : Nat} {v : V}, Dens c F ds vs → vs[i]? = some v → ∃ d, ds[i]? = some d ∧ Den c F d v
  | [], _, i, v, h, e => by simp only [Dens] at h; subst h; simp at e
  | d :: ds, _, i, v, h, e => by
    simp only [Dens] at h
    obtain ⟨w, r, rfl, h2, h3⟩ := h
    cases i with
    | zero => simp at e; subst e; exact ⟨d, rfl, h2⟩
    | succ i => simpa using Dens.get h3 (by simpa using e)
theorem Dens.get' : ∀ {ds : List D} {vs : List V} {i : Nat} {d : D}, Dens c F ds vs → ds[i]? = some d → ∃ v, vs[i]? = some v ∧ Den c F d v
  | [], _, i, v, h, e => by simp at e
  | d :: ds, _, i, v, h, e => by
    simp only [Dens] at h
    obtain ⟨w, r, rfl, h2, h3⟩ := h
    cases i with
    | zero => simp at e; subst e; exact ⟨w, rfl, h2⟩
    | succ i => simpa using Dens.get' h3 (by simpa using e)
theorem Dens.append : ∀ {ds es : List D} {vs ws : List V}, Dens c F ds vs → Dens c F es ws → Dens c F (ds ++ es) (vs ++ ws)
  | [], _, _, _, h, h' => by simp only [Dens] at h; subst h; exact h'
  | d :: ds, _, _, _, h, h' => by
    simp only [Dens] at h
    obtain ⟨w, r, rfl, h2, h3⟩ := h
    exact ⟨w, r ++ _, rfl, h2, Dens.append h3 h'⟩
theorem Dens.one {d : D} {v : V} (h : Den c F d v) : Dens c F [d] [v] := ⟨v, [], rfl, h, rfl⟩
theorem Dens.cons {d : D} {v : V} {ds : List D} {vs : List V} (h : Den c F d v) (h' : Dens c F ds vs) : Dens c F (d :: ds) (v :: vs) := ⟨v, vs, rfl, h, h'⟩
theorem Dens.nil : Dens c F [] [] := rfl
theorem Dens.drop : ∀ {ds : List D} {vs : List V} (n : Nat), Dens c F ds vs → Dens c F (ds.drop n) (vs.drop n)
  | _, _, 0, h => h
  | [], _, n + 1, h => by simp only [Dens] at h; subst h; simp [Dens]
  | d :: ds, _, n + 1, h => by
    simp only [Dens] at h
    obtain ⟨w, r, rfl, h2, h3⟩ := h
    exact Dens.drop n h3
theorem Dens.set {e : D} {u : V} (q : Den c F e u) : ∀ {ds : List D} {vs : List V} (n : Nat), Dens c F ds vs → Dens c F (ds.set n e) (vs.set n u)
  | [], _, n, h => by simp only [Dens] at h; subst h; simp [Dens]
  | d :: ds, _, 0, h => by
    simp only [Dens] at h
    obtain ⟨w, r, rfl, h2, h3⟩ := h
    exact ⟨u, r, rfl, q, h3⟩
  | d :: ds, _, n + 1, h => by
    simp only [Dens] at h
    obtain ⟨w, r, rfl, h2, h3⟩ := h
    exact ⟨w, _, rfl, h2, Dens.set q n h3⟩
theorem Dens.ints : ∀ {ns : List Int} {vs : List V}, Dens c F (ns.map D.int) vs → vs = ns.map V.int
  | [], _, h => h
  | n :: ns, _, h => by
    simp only [List.map_cons, Dens] at h
    obtain ⟨w, r, rfl, h2, h3⟩ := h
    simp only [Den] at h2
    rw [h2, Dens.ints h3] <;> rfl
theorem Dens.of_ints : ∀ (ns : List Int), Dens c F (ns.map D.int) (ns.map V.int)
  | [] => rfl
  | n :: ns => ⟨_, _, rfl, rfl, Dens.of_ints ns⟩
end
def NoTbl (o : HO) : Prop := ∀ ps, o ≠ .tbl ps
def LD (o : HO) : Prop := (∃ vs, o = .lst vs) ∨ (∃ kv, o = .dK kv) ∨ ∃ w a S n, o = L2.SetO w a S n
theorem LD.nt {o : HO} (h : LD o) : NoTbl o := by
  rcases h with ⟨_, rfl⟩ | ⟨_, rfl⟩ | ⟨_, _, _, _, rfl⟩
  · exact fun _ q => by cases q
  · exact fun _ q => by cases q
  · exact fun _ q => by unfold L2.SetO at q; cases q
structure Fits (F O T H : Hp) : Prop where
  f : Same F H
  o : Same O H
  t : Same T H
  fo : ∀ a, O a ≠ none → F a = none
  ft : ∀ a, T a ≠ none → F a = none
  ot : ∀ a, T a ≠ none → O a = none
  nt : ∀ a o, F a = some o → NoTbl o
  ld : ∀ a o, O a = some o → LD o
section
variable {F O T H : Hp}
theorem upd_none {H : Hp} {p : Addr} (e : Same F H) (h : H p = none) : F p = none := e.free h
theorem same_upd {p : Addr} {o : HO} (h : F p = none) : Same F (upd F p o) := fun b u e => by rw [upd_ne (ne_of_none e h)]; exact e
theorem Fits.new {p : Addr} {o : HO} (h : Fits F O T H) (n : H p = none) (nt : NoTbl o := by intro _ q; cases q) : Fits (upd F p o) O T (upd H p o) where
  f := fun b u e => by
    by_cases hb : b = p
    · subst hb; rw [upd_same] at e ⊢; exact e
    · rw [upd_ne hb] at e ⊢; exact h.f b u e
  o := fun b u e => by
    have := h.o b u e
    rw [upd_ne (ne_of_none this n)]; exact this
  t := fun b u e => by
    have := h.t b u e
    rw [upd_ne (ne_of_none this n)]; exact this
  fo := fun a q => by
    have : a ≠ p := fun z => by subst z; exact q (upd_none h.o n)
    rw [upd_ne this]; exact h.fo a q
  ft := fun a q => by
    have : a ≠ p := fun z => by subst z; exact q (upd_none h.t n)
    rw [upd_ne this]; exact h.ft a q
  ot := h.ot
  nt := fun a u q => by
    by_cases hb : a = p
    · subst hb; rw [upd_same] at q; cases q; exact nt
    · rw [upd_ne hb] at q; exact h.nt a u q
  ld := h.ld
theorem Fits.newO {p : Addr} {o : HO} (h : Fits F O T H) (n : H p = none) (ld : LD o := by first | exact .inl ⟨_, rfl⟩ | exact .inr (.inl ⟨_, rfl⟩)) : Fits F (upd O p o) T (upd H p o) where
  o := fun b u e => by
    by_cases hb : b = p
    · subst hb; rw [upd_same] at e ⊢; exact e
    · rw [upd_ne hb] at e ⊢; exact h.o b u e
  f := fun b u e => by
    have := h.f b u e
    rw [upd_ne (ne_of_none this n)]; exact this
  t := fun b u e => by
    have := h.t b u e
    rw [upd_ne (ne_of_none this n)]; exact this
  fo := fun a q => by
    by_cases hb : a = p
    · subst hb; exact upd_none h.f n
    · rw [upd_ne hb] at q; exact h.fo a q
  ft := h.ft
  ot := fun a q => by
    have : a ≠ p := fun z => by subst z; exact q (upd_none h.t n)
    rw [upd_ne this]; exact h.ot a q
  nt := h.nt
  ld := fun a u q => by
    by_cases hb : a = p
    · subst hb; rw [upd_same] at q; cases q; exact ld
    · rw [upd_ne hb] at q; exact h.ld a u q
theorem Fits.setO {p : Addr} {o o' : HO} (h : Fits F O T H) (n : O p = some o) (ld : LD o' := by first | exact .inl ⟨_, rfl⟩ | exact .inr (.inl ⟨_, rfl⟩)) : Fits F (upd O p o') T (upd H p o') where
  o := fun b u e => by
    by_cases hb : b = p
    · subst hb; rw [upd_same] at e ⊢; exact e
    · rw [upd_ne hb] at e ⊢; exact h.o b u e
  f := fun b u e => by
    have nb : b ≠ p := fun z => by subst z; rw [h.fo b (by rw [n]; simp)] at e; cases e
    rw [upd_ne nb]; exact h.f b u e
  t := fun b u e => by
    have nb : b ≠ p := fun z => by subst z; rw [h.ot b (by rw [e]; simp)] at n; cases n
    rw [upd_ne nb]; exact h.t b u e
  fo := fun a q => by
    by_cases hb : a = p
    · subst hb; exact h.fo a (by rw [n]; simp)
    · rw [upd_ne hb] at q; exact h.fo a q
  ft := h.ft
  ot := fun a q => by
    have : a ≠ p := fun z => by subst z; rw [h.ot a q] at n; cases n
    rw [upd_ne this]; exact h.ot a q
  nt := h.nt
  ld := fun a u q => by
    by_cases hb : a = p
    · subst hb; rw [upd_same] at q; cases q; exact ld
    · rw [upd_ne hb] at q; exact h.ld a u q
theorem Fits.less {O' : Hp} (h : Fits F O T H) (s : Same O' O) : Fits F O' T H where
  f := h.f
  o := s.trans h.o
  t := h.t
  fo := fun a q => h.fo a (by
    cases e : O' a with
    | none => exact absurd e q
    | some u => rw [s a u e]; simp)
  ft := h.ft
  ot := fun a q => by
    cases e : O' a with
    | none => rfl
    | some u => have := h.ot a q; rw [s a u e] at this; cases this
  nt := h.nt
  ld := fun a u q => h.ld a u (s a u q)
def del (O : Hp) (p : Addr) : Hp := fun b => if b = p then none else O b
theorem Fits.freeze {p : Addr} {o : HO} (h : Fits F O T H) (n : O p = some o) : Fits (upd F p o) (del O p) T H where
  f := fun b u e => by
    by_cases hb : b = p
    · subst hb; rw [upd_same] at e; rw [← e]; exact h.o _ _ n
    · rw [upd_ne hb] at e; exact h.f b u e
  o := fun b u e => by
    unfold del at e
    split at e
    · cases e
    · exact h.o b u e
  t := h.t
  fo := fun a q => by
    have : a ≠ p := fun z => by subst z; unfold del at q; rw [if_pos rfl] at q; exact q rfl
    rw [upd_ne this]
    unfold del at q
    rw [if_neg this] at q
    exact h.fo a q
  ft := fun a q => by
    have : a ≠ p := fun z => by subst z; rw [h.ot a q] at n; cases n
    rw [upd_ne this]; exact h.ft a q
  ot := fun a q => by
    unfold del
    split
    · rfl
    · exact h.ot a q
  nt := fun a u q => by
    by_cases hb : a = p
    · subst hb; rw [upd_same] at q; cases q; exact (h.ld _ _ n).nt
    · rw [upd_ne hb] at q; exact h.nt a u q
  ld := fun a u q => by
    unfold del at q
    split at q
    · cases q
    · exact h.ld a u q
end
end VS
namespace VS
open PySem PySem.Spec PyProof.Rows L2
abbrev Env := List (Option D)
inductive Res (α : Type) where
  | ok (a : α)
  | exc (n f : Str) (fs : List D) (S : DS)
  | bad
abbrev ME := Env → DS → Res (D × DS)
abbrev MT := Env → DS → Res (Bool × DS)
abbrev MA := Env → DS → Res (List D × DS)
def bindM {α β : Type} (x : Res (α × DS)) (k : α → DS → Res β) : Res β := match x with
  | .ok (a, S) => k a S
  | .exc n f fs S => .exc n f fs S
  | .bad => .bad
def ofO {α : Type} (x : Option α) (S : DS) : Res (α × DS) := match x with
  | some a => .ok (a, S)
  | none => .bad
def stT (l : Lay) (S : DS) (T0 : Hp) : Hp := fun a => if a = l.sa then some (.dK [(Sum.inr "large", .ref l.la), (Sum.inr "cells", .ref l.ca), (Sum.inr "left", .int S.left), (Sum.inr "turn", .int S.turn)])
  else if a = l.la then some (.lst (S.large.map V.int)) else T0 a
def stI (c : Dc) (S : DS) (F : Hp) : Prop := c.l.sa ≠ c.l.la ∧ F c.l.ca = some (.lst (S.cells.map V.int)) ∧ S.cells.length ≤ 1000 ∧ S.large.length ≤ 1000
structure TPr where
  P : Hp → Hp → Prop
  mono : ∀ {T0 F F' : Hp}, P T0 F → Same F F' → P T0 F'
def exT (T : Hp) : TPr := ⟨fun T0 _ => T0 = T, fun h _ => h⟩
structure Bc where
  c : Dc
  stf : Bool
  TP : TPr
  own : List Nat
def Bc.T (b : Bc) (S : DS) (T0 : Hp) : Hp := if b.stf = true then stT b.c.l S T0 else T0
def FitB (b : Bc) (F O : Hp) (S : DS) (H : Hp) : Prop := ∃ T0, b.TP.P T0 F ∧ Fits F O (b.T S T0) H
section
variable {b : Bc} {F O H : Hp} {S : DS} {p : Addr} {u u' : HO}
theorem FitB.f (h : FitB b F O S H) : Same F H := h.choose_spec.2.f
theorem FitB.o (h : FitB b F O S H) : Same O H := h.choose_spec.2.o
theorem FitB.fo (h : FitB b F O S H) : ∀ a, O a ≠ none → F a = none := h.choose_spec.2.fo
theorem FitB.new (h : FitB b F O S H) (n : H p = none) (nt : NoTbl u := by intro _ q; cases q) : FitB b (upd F p u) O S (upd H p u) := let ⟨T0, tp, fit⟩ := h; ⟨T0, b.TP.mono tp (same_upd (upd_none fit.f n)), fit.new n nt⟩
theorem FitB.newO (h : FitB b F O S H) (n : H p = none) (ld : LD u := by first | exact .inl ⟨_, rfl⟩ | exact .inr (.inl ⟨_, rfl⟩)) : FitB b F (upd O p u) S (upd H p u) := let ⟨T0, tp, fit⟩ := h; ⟨T0, tp, fit.newO n ld⟩
theorem FitB.setO (h : FitB b F O S H) (n : O p = some u) (ld : LD u' := by first | exact .inl ⟨_, rfl⟩ | exact .inr (.inl ⟨_, rfl⟩)) : FitB b F (upd O p u') S (upd H p u') := let ⟨T0, tp, fit⟩ := h; ⟨T0, tp, fit.setO n ld⟩
theorem FitB.freeze (h : FitB b F O S H) (n : O p = some u) : FitB b (upd F p u) (del O p) S H := let ⟨T0, tp, fit⟩ := h; ⟨T0, b.TP.mono tp (same_upd (fit.fo p (by rw [n]; simp))), fit.freeze n⟩
theorem FitB.less {O' : Hp} (h : FitB b F O S H) (s : Same O' O) : FitB b F O' S H := let ⟨T0, tp, fit⟩ := h; ⟨T0, tp, fit.less s⟩
end
def Bc.I (b : Bc) (S : DS) (F : Hp) : Prop := b.stf = true → stI b.c S F
theorem Bc.I.mono {b : Bc} {S : DS} {F F' : Hp} (h : b.I S F) (e : Same F F') : b.I S F' := fun q => ⟨(h q).1, e _ _ (h q).2.1, (h q).2.2⟩
def DenB (c : Dc) (F O : Hp) : D → V → Prop
  | .lst ds, v => ∃ a vs, v = .ref a ∧ (F a = some (.lst vs) ∨ O a = some (.lst vs)) ∧ ds.length ≤ sizeLine ∧ Dens c F ds vs
  | .dct ks ds, v => ∃ a kv, v = .ref a ∧ (F a = some (.dK kv) ∨ O a = some (.dK kv)) ∧ kv.map (·.1) = ks ∧ Dens c F ds (kv.map (·.2))
  | d, v => Den c F d v
def OwnD (c : Dc) (F O : Hp) (a : Addr) : D → Prop
  | .lst ds => ∃ vs, O a = some (.lst vs) ∧ ds.length ≤ sizeLine ∧ Dens c F ds vs
  | .dct ks ds => ∃ kv, O a = some (.dK kv) ∧ kv.map (·.1) = ks ∧ Dens c F ds (kv.map (·.2))
  | _ => False
section
variable {c : Dc} {F F' O O' : Hp}
theorem Den.toB {d : D} {v : V} (h : Den c F d v) : DenB c F O d v := by
  cases d with
  | lst ds => simp only [Den] at h; obtain ⟨a, vs, h1, h2, h3⟩ := h; exact ⟨a, vs, h1, .inl h2, h3⟩
  | dct ks ds => simp only [Den] at h; obtain ⟨a, kv, h1, h2, h3⟩ := h; exact ⟨a, kv, h1, .inl h2, h3⟩
  | _ => exact h
theorem DenB.mono (e : Same F F') (eo : Same O O') {d : D} {v : V} (h : DenB c F O d v) : DenB c F' O' d v := by
  cases d with
  | lst ds => obtain ⟨a, vs, h1, h2, hz, h3⟩ := h; exact ⟨a, vs, h1, h2.imp (e _ _) (eo _ _), hz, Dens.mono e _ _ h3⟩
  | dct ks ds => obtain ⟨a, kv, h1, h2, h3⟩ := h; exact ⟨a, kv, h1, h2.imp (e _ _) (eo _ _), h3.1, Dens.mono e _ _ h3.2⟩
  | non => exact Den.mono e _ _ h
  | bl _ => exact Den.mono e _ _ h
  | int _ => exact Den.mono e _ _ h
  | str _ => exact Den.mono e _ _ h
  | tup _ => exact Den.mono e _ _ h
  | exc _ _ _ => exact Den.mono e _ _ h
  | cls _ => exact Den.mono e _ _ h
  | st => exact Den.mono e _ _ h
  | opq _ => exact Den.mono e _ _ h
  | odk _ => exact Den.mono e _ _ h
  | dcT _ _ => exact Den.mono e _ _ h
  | ins _ _ _ => exact Den.mono e _ _ h
  | scr _ => exact Den.mono e _ _ h
theorem OwnD.toB {a : Addr} {d : D} (h : OwnD c F O a d) : DenB c F O d (.ref a) := by
  cases d with
  | lst ds => obtain ⟨vs, h1, h2⟩ := h; exact ⟨a, vs, rfl, .inr h1, h2⟩
  | dct ks ds => obtain ⟨vs, h1, h2⟩ := h; exact ⟨a, vs, rfl, .inr h1, h2⟩
  | _ => exact False.elim h
theorem OwnD.mono (e : Same F F') (eo : ∀ o, O a = some o → O' a = some o) {d : D} (h : OwnD c F O a d) : OwnD c F' O' a d := by
  cases d with
  | lst ds => obtain ⟨vs, h1, hz, h2⟩ := h; exact ⟨vs, eo _ h1, hz, Dens.mono e _ _ h2⟩
  | dct ks ds => obtain ⟨vs, h1, h2, h3⟩ := h; exact ⟨vs, eo _ h1, h2, Dens.mono e _ _ h3⟩
  | _ => exact False.elim h
theorem OwnD.some {a : Addr} {d : D} (h : OwnD c F O a d) : O a ≠ none := by
  cases d with
  | lst ds => obtain ⟨vs, h1, _⟩ := h; rw [h1]; simp
  | dct ks ds => obtain ⟨vs, h1, _⟩ := h; rw [h1]; simp
  | _ => exact False.elim h
end
structure Pre (b : Bc) (F0 O0 F O H : Hp) (σ : L2.St) (env : Env) (S : DS) : Prop where
  fit : FitB b F O S H
  f0 : Same F0 F
  o0 : Same O0 O
  inv : b.I S F
  slot : ∀ i d, env[i]? = some (some d) → i ∉ b.own → ∃ v, σ[i]? = some (some v) ∧ Den b.c F d v
  slotO : ∀ i d, env[i]? = some (some d) → i ∈ b.own → ∃ a, σ[i]? = some (some (.ref a)) ∧ OwnD b.c F O a d ∧ O0 a = none
  sep : ∀ i j a, i ∈ b.own → j ∈ b.own → (∃ d, env[i]? = some (some d)) → (∃ d, env[j]? = some (some d)) → σ[i]? = some (some (.ref a)) → σ[j]? = some (some (.ref a)) → i = j
  len : σ.length = env.length
section
variable {b : Bc} {F0 O0 F O H F' O' H' : Hp} {σ : L2.St} {env : Env} {S S' : DS}
theorem Pre.grow (P : Pre b F0 O0 F O H σ env S) (e : Same F F') (fit : FitB b F' O S' H') (I : b.I S' F') : Pre b F0 O0 F' O H' σ env S' :=
  ⟨fit, P.f0.trans e, P.o0, I, fun i d h n => let ⟨v, h1, h2⟩ := P.slot i d h n; ⟨v, h1, Den.mono e _ _ h2⟩,
    fun i d h n => let ⟨a, h1, h2, h3⟩ := P.slotO i d h n; ⟨a, h1, h2.mono e (fun _ q => q), h3⟩, P.sep, P.len⟩
theorem Pre.moreO (P : Pre b F0 O0 F O H σ env S) (eo : Same O O') (fit : FitB b F O' S H') : Pre b F0 O0 F O' H' σ env S :=
  ⟨fit, P.f0, P.o0.trans eo, P.inv, P.slot, fun i d h n => let ⟨a, h1, h2, h3⟩ := P.slotO i d h n; ⟨a, h1, h2.mono (Same.refl _) (eo _), h3⟩, P.sep, P.len⟩
end
def ExcR (c : Dc) (F : Hp) (n f : Str) (fs : List D) (cls : Value) (dd : Option Addr) : Prop :=
  ∃ C us, c.mg n = some (.ref C) ∧ cls = .ref C ∧ Dens c F fs us ∧ (match us with | [] => dd = none | u :: _ => ∃ p, dd = some p ∧ F p = some (.xd [(f, u)]))
def PostX (b : Bc) (E : XK) (O F : Hp) (n f : Str) (fs : List D) (S' : DS) : Prop :=
  ∀ cls dd F' H', Same F F' → FitB b F' O S' H' → b.I S' F' → ExcR b.c F' n f fs cls dd → E cls dd H'
def Post {α : Type} (b : Bc) (E : XK) (O F : Hp) (r : Res (α × DS)) (k : α → DS → Hp → Hp → Prop) : Prop := match r with
  | .ok (a, S') => ∀ F' H', Same F F' → FitB b F' O S' H' → b.I S' F' → k a S' F' H'
  | .exc n f fs S' => PostX b E O F n f fs S'
  | .bad => False
section
variable {α β : Type} {b : Bc} {E : XK} {O F F' H : Hp} {S : DS}
theorem Post.mono {r : Res (α × DS)} {k : α → DS → Hp → Hp → Prop} (h : Post b E O F r k) (e : Same F F') : Post b E O F' r k := by
  cases r with
  | ok p => obtain ⟨a, S'⟩ := p; exact fun F2 H2 e2 => h F2 H2 (e.trans e2)
  | exc n f fs S' => exact fun cls dd F2 H2 e2 => h cls dd F2 H2 (e.trans e2)
  | bad => exact h
theorem Post.imp {r : Res (α × DS)} {k k' : α → DS → Hp → Hp → Prop} (h : Post b E O F r k) (f : ∀ a S' F' H', Same F F' → FitB b F' O S' H' → b.I S' F' → k a S' F' H' → k' a S' F' H') : Post b E O F r k' := by
  cases r with
  | ok p => obtain ⟨a, S'⟩ := p; exact fun F2 H2 e2 fit I => f a S' F2 H2 e2 fit I (h F2 H2 e2 fit I)
  | exc n f fs S' => exact h
  | bad => exact h
theorem Post.bind {x : Res (α × DS)} {g : α → DS → Res (β × DS)} {k : β → DS → Hp → Hp → Prop} (h : Post b E O F (bindM x g) k) : Post b E O F x (fun a S' F' H' => Post b E O F' (g a S') k) := by
  cases x with
  | ok p => obtain ⟨a, S'⟩ := p; exact fun F2 H2 e2 _ _ => Post.mono (show Post b E O F (g a S') k from h) e2
  | exc n f fs S' => exact h
  | bad => exact h
theorem Post.ofO {x : Option α} {k : α → DS → Hp → Hp → Prop} (h : Post b E O F (ofO x S) k) : ∃ a, x = some a ∧ ∀ F' H', Same F F' → FitB b F' O S H' → b.I S F' → k a S F' H' := by
  cases x with
  | none => exact False.elim h
  | some a => exact ⟨a, rfl, h⟩
end
def tE (b : Bc) (E : XK) (f : ME) : TE := fun σ H Q => ∃ F0 O0 F O env S, Pre b F0 O0 F O H σ env S ∧ Post b E O F (f env S) fun d S' F' H' => ∀ v, Den b.c F' d v → Q v H'
def tB (b : Bc) (E : XK) (f : ME) : TE := fun σ H Q => ∃ F0 O0 F O env S, Pre b F0 O0 F O H σ env S ∧ Post b E O F (f env S) fun d S' F' H' => ∀ v, DenB b.c F' O d v → Q v H'
def tT (b : Bc) (E : XK) (f : MT) : TT := fun σ H Q => ∃ F0 O0 F O env S, Pre b F0 O0 F O H σ env S ∧ Post b E O F (f env S) fun d S' F' H' => Q d H'
def tA (b : Bc) (E : XK) (f : MA) : TA := fun σ H Q => ∃ F0 O0 F O env S, Pre b F0 O0 F O H σ env S ∧ Post b E O F (f env S) fun ds S' F' H' => ∀ vs, Dens b.c F' ds vs → Q vs H'
theorem PE.imp {X : Cx} {e : Expr} {t t' : TE} (h : PE X e t) (i : ∀ σ H Q, t' σ H Q → t σ H Q) : PE X e t' := ⟨fun pins s σ H Q I q => h.run pins s σ H Q I (i σ H Q q)⟩
theorem PT.imp {X : Cx} {e : Expr} {t t' : TT} (h : PT X e t) (i : ∀ σ H Q, t' σ H Q → t σ H Q) : PT X e t' := ⟨fun pins s σ H Q I q => h.run pins s σ H Q I (i σ H Q q)⟩
theorem PW.imp {X : Cx} {e : Expr} {t t' : TT} (h : PW X e t) (i : ∀ σ H Q, t' σ H Q → t σ H Q) : PW X e t' := ⟨fun w pins s σ H Q I q => h.run w pins s σ H Q I (i σ H Q q)⟩
theorem PA.imp {X : Cx} {e : List Expr} {t t' : TA} (h : PA X e t) (i : ∀ σ H Q, t' σ H Q → t σ H Q) : PA X e t' := ⟨fun p pins s σ H Q I q => h.run p pins s σ H Q I (i σ H Q q)⟩
theorem PS.imp {X : Cx} {e : Stmt} {t t' : TS} (h : PS X e t) (i : ∀ D σ H, t' D σ H → t D σ H) : PS X e t' := ⟨fun pins s σ H D I q => h.run pins s σ H D I (i D σ H q)⟩
theorem PSs.imp {X : Cx} {e : List Stmt} {t t' : TS} (h : PSs X e t) (i : ∀ D σ H, t' D σ H → t D σ H) : PSs X e t' := ⟨fun pins s σ H D I q => h.run pins s σ H D I (i D σ H q)⟩
section
variable {X : Cx} {b : Bc} {E : XK} {e e1 e2 : Expr} {es : List Expr} {f f1 f2 : ME} {pos : Pos}
theorem toB (h : PE X e (tB b E f)) : PE X e (tE b E f) ∨ True := .inr trivial
theorem bE (h : PE X e (tE b E f)) : PE X e (tB b E f) := PE.imp h fun σ H Q ⟨F0, O0, F, O, env, S, P, h⟩ => ⟨F0, O0, F, O, env, S, P, h.imp fun d S' F' H' _ _ _ k v hv => k v hv.toB⟩
def varM (i : Nat) : ME := fun env S => match env[i]? with | some (some d) => .ok (d, S) | _ => .bad
def cM (d : D) : ME := fun _ S => .ok (d, S)
theorem e_var (i : Nat) (hE : PE X e (tVar i)) (ho : b.own.contains i = false) : PE X e (tE b E (varM i)) := PE.imp hE fun σ H Q ⟨F0, O0, F, O, env, S, P, h⟩ => by
  unfold varM at h
  cases he : env[i]? with
  | none => rw [he] at h; exact False.elim h
  | some o =>
    cases o with
    | none => rw [he] at h; exact False.elim h
    | some d =>
      rw [he] at h
      obtain ⟨v, h1, h2⟩ := P.slot i d he (by simpa using ho)
      exact ⟨v, h1, h F H (Same.refl _) P.fit P.inv v h2⟩
theorem b_var (i : Nat) (hE : PE X e (tVar i)) : PE X e (tB b E (varM i)) := PE.imp hE fun σ H Q ⟨F0, O0, F, O, env, S, P, h⟩ => by
  unfold varM at h
  cases he : env[i]? with
  | none => rw [he] at h; exact False.elim h
  | some o =>
    cases o with
    | none => rw [he] at h; exact False.elim h
    | some d =>
      rw [he] at h
      by_cases ho : i ∈ b.own
      · obtain ⟨a, h1, h2, _⟩ := P.slotO i d he ho
        exact ⟨_, h1, h F H (Same.refl _) P.fit P.inv _ h2.toB⟩
      · obtain ⟨v, h1, h2⟩ := P.slot i d he ho
        exact ⟨v, h1, h F H (Same.refl _) P.fit P.inv v h2.toB⟩
theorem e_c {v : V} {d : D} (hE : PE X e (tC v)) (hd : ∀ F, Den b.c F d v) : PE X e (tE b E (cM d)) := PE.imp hE fun σ H Q ⟨F0, O0, F, O, env, S, P, h⟩ => h F H (Same.refl _) P.fit P.inv v (hd F)
theorem e_int {i : Int} {j p} : PE X (.Constant (.int i) j p) (tE b E (cM (.int i))) := e_c pe_int fun _ => rfl
theorem e_bl {i : Bool} {j p} : PE X (.Constant (.bool i) j p) (tE b E (cM (.bl i))) := e_c pe_bl fun _ => rfl
theorem e_non {j p} : PE X (.Constant .none j p) (tE b E (cM .non)) := e_c pe_non fun _ => rfl
theorem e_str {x : Str} {j p} : PE X (.Constant (.str x) j p) (tE b E (cM (.str x))) := e_c pe_str fun _ => rfl
def RuleU (c : Dc) (r : V → Hp → VK → Prop) (g : D → Option D) : Prop := ∀ F O T H d v d' Q, Fits F O T H → DenB c F O d v → g d = some d' → (∀ v' F' H', Same F F' → Fits F' O T H' → Den c F' d' v' → Q v' H') → r v H Q
def RuleB (c : Dc) (r : R2) (g : D → D → Option D) : Prop := ∀ F O T H d e v u d' Q, Fits F O T H → DenB c F O d v → DenB c F O e u → g d e = some d' → (∀ v' F' H', Same F F' → Fits F' O T H' → Den c F' d' v' → Q v' H') → r v u H Q
def RuleN (c : Dc) (r : List V → Hp → VK → Prop) (g : List D → Option D) : Prop := ∀ F O T H ds vs d' Q, Fits F O T H → Paired (fun d v => DenB c F O d v) ds vs → g ds = some d' → (∀ v' F' H', Same F F' → Fits F' O T H' → Den c F' d' v' → Q v' H') → r vs H Q
theorem RuleU.run {b : Bc} {r : V → Hp → VK → Prop} {g : D → Option D} (hr : RuleU b.c r g) : ∀ F O S H d v d' Q, FitB b F O S H → DenB b.c F O d v → g d = some d' → (∀ v' F' H', Same F F' → FitB b F' O S H' → Den b.c F' d' v' → Q v' H') → r v H Q :=
  fun F O S H d v d' Q ⟨T0, tp, fit⟩ hv e k => hr F O _ H d v d' Q fit hv e fun v' F' H' s f => k v' F' H' s ⟨T0, b.TP.mono tp s, f⟩
theorem RuleB.run {b : Bc} {r : R2} {g : D → D → Option D} (hr : RuleB b.c r g) : ∀ F O S H d e v u d' Q, FitB b F O S H → DenB b.c F O d v → DenB b.c F O e u → g d e = some d' → (∀ v' F' H', Same F F' → FitB b F' O S H' → Den b.c F' d' v' → Q v' H') → r v u H Q :=
  fun F O S H d e v u d' Q ⟨T0, tp, fit⟩ hv hu e' k => hr F O _ H d e v u d' Q fit hv hu e' fun v' F' H' s f => k v' F' H' s ⟨T0, b.TP.mono tp s, f⟩
theorem RuleN.run {b : Bc} {r : List V → Hp → VK → Prop} {g : List D → Option D} (hr : RuleN b.c r g) : ∀ F O S H ds vs d' Q, FitB b F O S H → Paired (fun d v => DenB b.c F O d v) ds vs → g ds = some d' → (∀ v' F' H', Same F F' → FitB b F' O S H' → Den b.c F' d' v' → Q v' H') → r vs H Q :=
  fun F O S H ds vs d' Q ⟨T0, tp, fit⟩ hv e' k => hr F O _ H ds vs d' Q fit hv e' fun v' F' H' s f => k v' F' H' s ⟨T0, b.TP.mono tp s, f⟩
def unM (g : D → Option D) (f : ME) : ME := fun env S => bindM (f env S) fun d S1 => ofO (g d) S1
def binM (g : D → D → Option D) (f1 f2 : ME) : ME := fun env S => bindM (f1 env S) fun d S1 => bindM (f2 env S1) fun e S2 => ofO (g d e) S2
theorem e_bin {r : R2} {g : D → D → Option D} (hr : RuleB b.c r g) (h : ∀ t u, PE X e1 t → PE X e2 u → PE X e (tOp r t u)) (h1 : PE X e1 (tB b E f1)) (h2 : PE X e2 (tB b E f2)) : PE X e (tE b E (binM g f1 f2)) :=
  PE.imp (h _ _ h1 h2) fun σ H Q ⟨F0, O0, F, O, env, S, P, h⟩ => ⟨F0, O0, F, O, env, S, P, (Post.bind h).imp fun d S1 F1 H1 s1 fit1 I1 k v hv => ⟨F0, O0, F1, O, env, S1, P.grow s1 fit1 I1, (Post.bind k).imp fun d2 S2 F2 H2 s2 fit2 I2 k u hu => by
    obtain ⟨d', e', k⟩ := Post.ofO k
    exact hr.run (b := b) F2 O _ H2 d d2 v u d' Q fit2 (hv.mono s2 (Same.refl _)) hu e' fun v' F' H' s f dv => k F' H' s f (I2.mono s) v' dv⟩⟩
end
end VS
namespace VS
open PySem PySem.Spec PyProof.Rows L2
def ObjD (c : Dc) (F : Hp) : D → HO → Prop
  | .lst ds, o => ∃ vs, o = .lst vs ∧ ds.length ≤ sizeLine ∧ Dens c F ds vs
  | .dct ks ds, o => ∃ kv, o = .dK kv ∧ kv.map (·.1) = ks ∧ Dens c F ds (kv.map (·.2))
  | _, _ => False
theorem ObjD.den {c : Dc} {F : Hp} {d : D} {o : HO} {p : Addr} (h : ObjD c F d o) (n : F p = none) : Den c (upd F p o) d (.ref p) := by
  have e := same_upd (o := o) n
  cases d with
  | lst ds => obtain ⟨vs, rfl, hz, h⟩ := h; exact ⟨p, vs, rfl, upd_same, hz, Dens.mono e _ _ h⟩
  | dct ks ds => obtain ⟨kv, rfl, hz, h⟩ := h; exact ⟨p, kv, rfl, upd_same, hz, Dens.mono e _ _ h⟩
  | _ => exact False.elim h
theorem ObjD.ld {c : Dc} {F : Hp} {d : D} {o : HO} (h : ObjD c F d o) : LD o := by
  cases d with
  | lst ds => obtain ⟨vs, rfl, hz, h⟩ := h; exact .inl ⟨_, rfl⟩
  | dct ks ds => obtain ⟨kv, rfl, hz, h⟩ := h; exact .inr (.inl ⟨_, rfl⟩)
  | _ => exact False.elim h
theorem ObjD.own {c : Dc} {F O : Hp} {d : D} {o : HO} {p : Addr} (h : ObjD c F d o) (n : O p = some o) : OwnD c F O p d := by
  cases d with
  | lst ds => obtain ⟨vs, rfl, hz, h⟩ := h; exact ⟨vs, n, hz, h⟩
  | dct ks ds => obtain ⟨kv, rfl, hz, h⟩ := h; exact ⟨kv, n, hz, h⟩
  | _ => exact False.elim h
def tN (b : Bc) (E : XK) (f : ME) : TE := fun σ H Q => ∃ F0 O0 F O env S, Pre b F0 O0 F O H σ env S ∧ Post b E O F (f env S) fun d S' F' H' => ∀ p o, H' p = none → ObjD b.c F' d o → Q (.ref p) (upd H' p o)
def tAB (b : Bc) (E : XK) (f : MA) : TA := fun σ H Q => ∃ F0 O0 F O env S, Pre b F0 O0 F O H σ env S ∧ Post b E O F (f env S) fun ds S' F' H' => ∀ vs, Paired (fun d v => DenB b.c F' O d v) ds vs → Q vs H'
def nilA : MA := fun _ S => .ok ([], S)
def consA (f : ME) (g : MA) : MA := fun env S => bindM (f env S) fun d S1 => bindM (g env S1) fun ds S2 => .ok (d :: ds, S2)
section
variable {X : Cx} {b : Bc} {E : XK} {e e1 e2 : Expr} {es : List Expr} {f f1 f2 : ME} {g : MA} {pos : Pos}
theorem nE (h : PE X e (tN b E f)) : PE X e (tE b E f) := PE.imp h fun σ H Q ⟨F0, O0, F, O, env, S, P, h⟩ => ⟨F0, O0, F, O, env, S, P, by
  revert h
  cases hr : f env S with
  | ok r =>
    obtain ⟨d, S'⟩ := r
    intro h F' H' s fit I p o hp ho
    have nF := upd_none fit.f hp
    exact h (upd F' p o) (upd H' p o) (s.trans (same_upd nF)) (fit.new hp ho.ld.nt) (I.mono (same_upd nF)) _ (ho.den nF)
  | exc n f fs S' => exact fun h => h
  | bad => exact fun h => h⟩
theorem a_nil : PA X [] (tA b E nilA) := PA.imp pa_nil fun σ H Q ⟨F0, O0, F, O, env, S, P, h⟩ => h F H (Same.refl _) P.fit P.inv [] rfl
theorem a_cons (h : PE X e (tE b E f)) (hr : PA X es (tA b E g)) (hs : starEach (e :: es) X.env = (false, eval e X.env) :: starEach es X.env := by rfl) : PA X (e :: es) (tA b E (consA f g)) :=
  PA.imp (pa_cons h hr hs) fun σ H Q ⟨F0, O0, F, O, env, S, P, h⟩ => ⟨F0, O0, F, O, env, S, P, (Post.bind h).imp fun d S1 F1 H1 s1 fit1 I1 k v hv => ⟨F0, O0, F1, O, env, S1, P.grow s1 fit1 I1, (Post.bind k).imp fun ds S2 F2 H2 s2 fit2 I2 k vs hvs =>
    k F2 H2 (Same.refl _) fit2 I2 (v :: vs) (Dens.cons (Den.mono s2 _ _ hv) hvs)⟩⟩
theorem ab_nil : PA X [] (tAB b E nilA) := PA.imp pa_nil fun σ H Q ⟨F0, O0, F, O, env, S, P, h⟩ => h F H (Same.refl _) P.fit P.inv [] .nil
theorem ab_cons (h : PE X e (tB b E f)) (hr : PA X es (tAB b E g)) (hs : starEach (e :: es) X.env = (false, eval e X.env) :: starEach es X.env := by rfl) : PA X (e :: es) (tAB b E (consA f g)) :=
  PA.imp (pa_cons h hr hs) fun σ H Q ⟨F0, O0, F, O, env, S, P, h⟩ => ⟨F0, O0, F, O, env, S, P, (Post.bind h).imp fun d S1 F1 H1 s1 fit1 I1 k v hv => ⟨F0, O0, F1, O, env, S1, P.grow s1 fit1 I1, (Post.bind k).imp fun ds S2 F2 H2 s2 fit2 I2 k vs hvs =>
    k F2 H2 (Same.refl _) fit2 I2 (v :: vs) (.cons (hv.mono s2 (Same.refl _)) hvs)⟩⟩
def tupM (g : MA) : ME := fun env S => bindM (g env S) fun ds S1 => if ds.length ≤ 1000000 then .ok (.tup ds, S1) else .bad
def lstM (g : MA) : ME := fun env S => bindM (g env S) fun ds S1 => if ds.length ≤ 1000000 then .ok (.lst ds, S1) else .bad
theorem million : 1000000 ≤ sizeLine := by rw [sizeLine_eq]; decide
theorem e_tup {x1} (h : PA X es (tA b E g)) : PE X (.Tuple es x1 pos) (tE b E (tupM g)) := PE.imp (pe_tup h) fun σ H Q ⟨F0, O0, F, O, env, S, P, h⟩ => ⟨F0, O0, F, O, env, S, P, (Post.bind h).imp fun ds S1 F1 H1 s1 fit1 I1 k vs hv => by
  by_cases hz : ds.length ≤ 1000000
  · rw [if_pos hz] at k
    refine ⟨by rw [← hv.length]; exact Nat.le_trans hz million, fun p hp => ?_⟩
    have nF := upd_none fit1.f hp
    exact k (upd F1 p (.tup vs)) _ (same_upd nF) (fit1.new hp) (I1.mono (same_upd nF)) _ ⟨p, vs, rfl, SqT.of upd_same, Nat.le_trans hz million, Dens.mono (same_upd nF) _ _ hv⟩
  · rw [if_neg hz] at k
    exact False.elim k⟩
theorem n_lst (h : PA X es (tA b E g)) : PE X (.List es pos) (tN b E (lstM g)) := PE.imp (pe_lst h) fun σ H Q ⟨F0, O0, F, O, env, S, P, h⟩ => ⟨F0, O0, F, O, env, S, P, (Post.bind h).imp fun ds S1 F1 H1 s1 fit1 I1 k vs hv => by
  by_cases hz : ds.length ≤ 1000000
  · rw [if_pos hz] at k
    refine ⟨by rw [← hv.length]; exact Nat.le_trans hz million, fun p hp => ?_⟩
    exact k F1 H1 (Same.refl _) fit1 I1 p (.lst vs) hp ⟨vs, rfl, Nat.le_trans hz million, hv⟩
  · rw [if_neg hz] at k
    exact False.elim k⟩
def testM (f : ME) : MT := fun env S => bindM (f env S) fun d S1 => match d with | .bl k => .ok (k, S1) | _ => .bad
theorem t_val (h : PE X e (tE b E f)) (he : ∀ whole, isTrue e X.env whole = (do let v ← whole; standAt e.pos; holding [v] (truthy v)) := by intro _; rfl) : PT X e (tT b E (testM f)) :=
  PT.imp (pt_val h he) fun σ H Q ⟨F0, O0, F, O, env, S, P, h⟩ => ⟨F0, O0, F, O, env, S, P, (Post.bind h).imp fun d S1 F1 H1 s1 fit1 I1 k v hv => by
    cases d with
    | bl k' =>
      simp only [Den] at hv
      subst hv
      exact ⟨k', rfl, k F1 H1 (Same.refl _) fit1 I1⟩
    | _ => exact False.elim k⟩
theorem t_cmp {op : CmpOp} {r : R2} {gg : D → D → Option D} (hr : RuleB b.c r gg) (ho : OpR X (compareOp op) r) (h1 : PE X e1 (tB b E f1)) (h2 : PE X e2 (tB b E f2)) (hm : behindInMarks op e2 = false) : PT X (.Compare e1 [op] [e2] pos) (tT b E (testM (binM gg f1 f2))) :=
  PT.imp (pt_cmpR ho h1 h2 hm) fun σ H Q ⟨F0, O0, F, O, env, S, P, h⟩ => by
    refine ⟨F0, O0, F, O, env, S, P, ?_⟩
    have h := Post.bind h
    refine (Post.bind h).imp fun d S1 F1 H1 s1 fit1 I1 k v hv => ⟨F0, O0, F1, O, env, S1, P.grow s1 fit1 I1, (Post.bind k).imp fun d2 S2 F2 H2 s2 fit2 I2 k u hu => ?_⟩
    obtain ⟨d', e', k⟩ := Post.ofO k
    refine hr.run (b := b) F2 O _ H2 d d2 v u d' _ fit2 (hv.mono s2 (Same.refl _)) hu e' fun v' F' H' s f dv => ?_
    have k := k F' H' s f (I2.mono s)
    cases d' with
    | bl k' =>
      simp only [Den] at dv
      subst dv
      exact ⟨k', rfl, k F' H' (Same.refl _) f (I2.mono s)⟩
    | _ => exact False.elim k
def andT (f g : MT) : MT := fun env S => bindM (f env S) fun k S1 => if k = true then g env S1 else .ok (false, S1)
def orT (f g : MT) : MT := fun env S => bindM (f env S) fun k S1 => if k = true then .ok (true, S1) else g env S1
def notT (f : MT) : MT := fun env S => bindM (f env S) fun k S1 => .ok (!k, S1)
variable {t1 t2 : MT} {rest : List Expr}
theorem w_and1 (ha : PT X e (tT b E t1)) : PW X (.BoolOp .And [e] pos) (tT b E t1) := pw_and1 ha
theorem w_or1 (ha : PT X e (tT b E t1)) : PW X (.BoolOp .Or [e] pos) (tT b E t1) := pw_or1 ha
theorem w_and (ha : PT X e1 (tT b E t1)) (hb : PW X (.BoolOp .And (e2 :: rest) pos) (tT b E t2)) : PW X (.BoolOp .And (e1 :: e2 :: rest) pos) (tT b E (andT t1 t2)) :=
  PW.imp (pw_and ha hb) fun σ H Q ⟨F0, O0, F, O, env, S, P, h⟩ => ⟨F0, O0, F, O, env, S, P, (Post.bind h).imp fun d S1 F1 H1 s1 fit1 I1 k => by
    cases d with
    | true => exact iteT ⟨F0, O0, F1, O, env, S1, P.grow s1 fit1 I1, k⟩
    | false => exact iteF (k F1 H1 (Same.refl _) fit1 I1)⟩
theorem w_or (ha : PT X e1 (tT b E t1)) (hb : PW X (.BoolOp .Or (e2 :: rest) pos) (tT b E t2)) : PW X (.BoolOp .Or (e1 :: e2 :: rest) pos) (tT b E (orT t1 t2)) :=
  PW.imp (pw_or ha hb) fun σ H Q ⟨F0, O0, F, O, env, S, P, h⟩ => ⟨F0, O0, F, O, env, S, P, (Post.bind h).imp fun d S1 F1 H1 s1 fit1 I1 k => by
    cases d with
    | true => exact iteT (k F1 H1 (Same.refl _) fit1 I1)
    | false => exact iteF ⟨F0, O0, F1, O, env, S1, P.grow s1 fit1 I1, k⟩⟩
theorem t_not (ha : PT X e (tT b E t1)) : PT X (.UnaryOp .Not e pos) (tT b E (notT t1)) :=
  PT.imp (pt_not ha) fun σ H Q ⟨F0, O0, F, O, env, S, P, h⟩ => ⟨F0, O0, F, O, env, S, P, (Post.bind h).imp fun d S1 F1 H1 s1 fit1 I1 k => k F1 H1 (Same.refl _) fit1 I1⟩
def andV (f g : ME) : ME := fun env S => bindM (f env S) fun d S1 => match d with | .bl true => g env S1 | .bl false => .ok (.bl false, S1) | _ => .bad
def orV (f g : ME) : ME := fun env S => bindM (f env S) fun d S1 => match d with | .bl true => .ok (.bl true, S1) | .bl false => g env S1 | _ => .bad
theorem e_one {op} (h : PE X e (tE b E f)) : PE X (.BoolOp op [e] pos) (tE b E f) := pe_one h
theorem e_and (ha : PE X e1 (tE b E f1)) (hb : PE X (.BoolOp .And (e2 :: rest) pos) (tE b E f2)) : PE X (.BoolOp .And (e1 :: e2 :: rest) pos) (tE b E (andV f1 f2)) :=
  PE.imp (pe_and ha hb) fun σ H Q ⟨F0, O0, F, O, env, S, P, h⟩ => ⟨F0, O0, F, O, env, S, P, (Post.bind h).imp fun d S1 F1 H1 s1 fit1 I1 k v hv => by
    cases d with
    | bl k' =>
      simp only [Den] at hv
      subst hv
      refine ⟨k', rfl, ?_⟩
      cases k' with
      | true => exact iteT ⟨F0, O0, F1, O, env, S1, P.grow s1 fit1 I1, k⟩
      | false => exact iteF (k F1 H1 (Same.refl _) fit1 I1 _ rfl)
    | _ => exact False.elim k⟩
def notV (f : ME) : ME := fun env S => bindM (f env S) fun d S1 => match d with | .bl k => .ok (.bl (!k), S1) | _ => .bad
def ifM (t : MT) (f g : ME) : ME := fun env S => bindM (t env S) fun k S1 => if k = true then f env S1 else g env S1
theorem e_if (hc : PT X e (tT b E t1)) (ha : PE X e1 (tE b E f1)) (hb : PE X e2 (tE b E f2)) : PE X (.IfExp e e1 e2 pos) (tE b E (ifM t1 f1 f2)) :=
  PE.imp (pe_ifExp hc ha hb) fun σ H Q ⟨F0, O0, F, O, env, S, P, h⟩ => ⟨F0, O0, F, O, env, S, P, (Post.bind h).imp fun d S1 F1 H1 s1 fit1 I1 k => by
    cases d with
    | true => exact iteT ⟨F0, O0, F1, O, env, S1, P.grow s1 fit1 I1, k⟩
    | false => exact iteF ⟨F0, O0, F1, O, env, S1, P.grow s1 fit1 I1, k⟩⟩
def chM (g g' : D → D → Option D) (f1 f2 f3 : ME) : ME := fun env S => bindM (f1 env S) fun d S1 => bindM (f2 env S1) fun e S2 => bindM (ofO (g d e) S2) fun k S3 => match k with | .bl true => bindM (f3 env S3) fun h S4 => ofO (g' e h) S4 | .bl false => .ok (.bl false, S3) | _ => .bad
def cbM (gg : List D → Option D) (g : MA) : ME := fun env S => bindM (g env S) fun ds S1 => ofO (gg ds) S1
theorem e_cb {r : List V → Hp → VK → Prop} {gg : List D → Option D} (hr : RuleN b.c r gg) (h : ∀ t, PA X es t → PE X e (tCB r t)) (ha : PA X es (tAB b E g)) : PE X e (tE b E (cbM gg g)) :=
  PE.imp (h _ ha) fun σ H Q ⟨F0, O0, F, O, env, S, P, h⟩ => ⟨F0, O0, F, O, env, S, P, (Post.bind h).imp fun ds S1 F1 H1 s1 fit1 I1 k vs hv => by
    obtain ⟨d', e', k⟩ := Post.ofO k
    exact hr.run (b := b) F1 O _ H1 ds vs d' Q fit1 hv e' fun v' F' H' s f dv => k F' H' s f (I1.mono s) v' dv⟩
def RuleNN (c : Dc) (r : List V → Hp → VK → Prop) (g : List D → Option D) : Prop := ∀ F O T H ds vs d' Q, Fits F O T H → Paired (fun d v => DenB c F O d v) ds vs → g ds = some d' → (∀ F' H' p o, Same F F' → Fits F' O T H' → H' p = none → ObjD c F' d' o → Q (.ref p) (upd H' p o)) → r vs H Q
theorem RuleNN.run {b : Bc} {r : List V → Hp → VK → Prop} {g : List D → Option D} (hr : RuleNN b.c r g) : ∀ F O S H ds vs d' Q, FitB b F O S H → Paired (fun d v => DenB b.c F O d v) ds vs → g ds = some d' → (∀ F' H' p o, Same F F' → FitB b F' O S H' → H' p = none → ObjD b.c F' d' o → Q (.ref p) (upd H' p o)) → r vs H Q :=
  fun F O S H ds vs d' Q ⟨T0, tp, fit⟩ hv e' k => hr F O _ H ds vs d' Q fit hv e' fun F' H' p o s f => k F' H' p o s ⟨T0, b.TP.mono tp s, f⟩
end
end VS
namespace VS
open PySem PySem.Spec PyProof.Rows L2
inductive Fl where
  | nx (env : Env) | rt (d : D) | bk (env : Env) | ct (env : Env)
abbrev MS := Env → DS → Res (Fl × DS)
def PostS (b : Bc) (E : XK) (F0 O0 : Hp) (r : Res (Fl × DS)) (Dn : Ends) : Prop := match r with
  | .ok (.nx env', S') => ∀ σ' F' O' H', Pre b F0 O0 F' O' H' σ' env' S' → Dn.nx σ' H'
  | .ok (.bk env', S') => ∀ σ' F' O' H', Pre b F0 O0 F' O' H' σ' env' S' → Dn.bk σ' H'
  | .ok (.ct env', S') => ∀ σ' F' O' H', Pre b F0 O0 F' O' H' σ' env' S' → Dn.ct σ' H'
  | .ok (.rt d, S') => ∀ v F' O' H', Same F0 F' → Same O0 O' → FitB b F' O' S' H' → b.I S' F' → Den b.c F' d v → Dn.rt v H'
  | .exc n f fs S' => ∀ cls dd F' O' H', Same F0 F' → Same O0 O' → FitB b F' O' S' H' → b.I S' F' → ExcR b.c F' n f fs cls dd → E cls dd H'
  | .bad => False
def tS (b : Bc) (E : XK) (g : MS) : TS := fun Dn σ H => ∃ F0 O0 F O env S, Pre b F0 O0 F O H σ env S ∧ PostS b E F0 O0 (g env S) Dn
section
variable {α : Type} {b : Bc} {E : XK} {F0 O0 F O H : Hp} {σ : L2.St} {env : Env} {S : DS} {Dn Dn' : Ends}
theorem PostS.bind {x : Res (α × DS)} {k : α → DS → Res (Fl × DS)} (h : PostS b E F0 O0 (bindM x k) Dn) (s : Same F0 F) (o : Same O0 O) : Post b E O F x fun a S' F' H' => PostS b E F0 O0 (k a S') Dn := by
  cases x with
  | ok p => obtain ⟨a, S'⟩ := p; exact fun F2 H2 e2 _ _ => h
  | exc n f fs S' => exact fun cls dd F' H' e fit I r => h cls dd F' O H' (s.trans e) o fit I r
  | bad => exact h
theorem PostS.ends {r : Res (Fl × DS)} (h : PostS b E F0 O0 r Dn) (h1 : ∀ env' S', r = .ok (.nx env', S') → ∀ σ' F' O' H', Pre b F0 O0 F' O' H' σ' env' S' → Dn.nx σ' H' → Dn'.nx σ' H') (h2 : ∀ v H', Dn.rt v H' → Dn'.rt v H')
    (h3 : ∀ σ' H', Dn.bk σ' H' → Dn'.bk σ' H') (h4 : ∀ σ' H', Dn.ct σ' H' → Dn'.ct σ' H') : PostS b E F0 O0 r Dn' := by
  cases r with
  | ok p =>
    obtain ⟨a, S'⟩ := p
    cases a with
    | nx env' => exact fun σ' F' O' H' P => h1 env' S' rfl σ' F' O' H' P (h σ' F' O' H' P)
    | rt d => exact fun v F' O' H' a b c d e => h2 _ _ (h v F' O' H' a b c d e)
    | bk env' => exact fun σ' F' O' H' P => h3 _ _ (h σ' F' O' H' P)
    | ct env' => exact fun σ' F' O' H' P => h4 _ _ (h σ' F' O' H' P)
  | exc n f fs S' => exact h
  | bad => exact h
theorem Pre.base {F1 O1 : Hp} (P : Pre b F1 O1 F O H σ env S) (s : Same F0 F1) (o : Same O0 O1) : Pre b F0 O0 F O H σ env S :=
  ⟨P.fit, s.trans P.f0, o.trans P.o0, P.inv, P.slot, fun i d h n => let ⟨a, h1, h2, h3⟩ := P.slotO i d h n; ⟨a, h1, h2, upd_none o h3⟩, P.sep, P.len⟩
theorem PostS.base {F1 O1 : Hp} {r : Res (Fl × DS)} (h : PostS b E F0 O0 r Dn) (s : Same F0 F1) (o : Same O0 O1) : PostS b E F1 O1 r Dn := by
  cases r with
  | ok p =>
    obtain ⟨a, S'⟩ := p
    cases a with
    | nx env' => exact fun σ' F' O' H' P => h σ' F' O' H' (P.base s o)
    | rt d => exact fun v F' O' H' a b c d e => h v F' O' H' (s.trans a) (o.trans b) c d e
    | bk env' => exact fun σ' F' O' H' P => h σ' F' O' H' (P.base s o)
    | ct env' => exact fun σ' F' O' H' P => h σ' F' O' H' (P.base s o)
  | exc n f fs S' => exact fun cls dd F' O' H' a b => h cls dd F' O' H' (s.trans a) (o.trans b)
  | bad => exact h
end
def nextS : MS := fun env S => .ok (.nx env, S)
def seqS (g1 g2 : MS) : MS := fun env S => match g1 env S with
  | .ok (.nx env', S') => g2 env' S'
  | r => r
def ifS (t : MT) (g1 g2 : MS) : MS := fun env S => bindM (t env S) fun k S1 => if k = true then g1 env S1 else g2 env S1
def retS (f : ME) : MS := fun env S => bindM (f env S) fun d S1 => .ok (.rt d, S1)
def dropS (f : ME) : MS := fun env S => bindM (f env S) fun _ S1 => .ok (.nx env, S1)
def asgS (i : Nat) (f : ME) : MS := fun env S => bindM (f env S) fun d S1 => .ok (.nx (env.set i (some d)), S1)
section
variable {X : Cx} {b : Bc} {E : XK} {e : Expr} {st : Stmt} {rest sa sb : List Stmt} {f : ME} {g g1 g2 : MS} {t : MT} {pos : Pos}
theorem ss_nil : PSs X [] (tS b E nextS) := PSs.imp pss_nil fun Dn σ H ⟨F0, O0, F, O, env, S, P, h⟩ => h σ F O H P
theorem ss_cons (h1 : PS X st (tS b E g1)) (h2 : PSs X rest (tS b E g2)) : PSs X (st :: rest) (tS b E (seqS g1 g2)) := PSs.imp (pss_cons h1 h2) fun Dn σ H ⟨F0, O0, F, O, env, S, P, h⟩ => by
  refine ⟨F0, O0, F, O, env, S, P, ?_⟩
  unfold seqS at h
  cases hr : g1 env S with
  | ok p =>
    rw [hr] at h
    obtain ⟨a, S'⟩ := p
    cases a with
    | nx env' => exact fun σ' F' O' H' P' => ⟨F0, O0, F', O', env', S', P', h⟩
    | rt d => exact h
    | bk env' => exact h
    | ct env' => exact h
  | exc n f fs S' => rw [hr] at h; exact h
  | bad => rw [hr] at h; exact h
theorem ss_one (h1 : PS X st (tS b E g1)) : PSs X [st] (tS b E g1) := pss_one h1
theorem s_if {c : Expr} (hc : PT X c (tT b E t)) (ha : PSs X sa (tS b E g1)) (hb : PSs X sb (tS b E g2)) : PS X (.If c sa sb pos) (tS b E (ifS t g1 g2)) :=
  PS.imp (ps_if hc ha hb) fun Dn σ H ⟨F0, O0, F, O, env, S, P, h⟩ => ⟨F0, O0, F, O, env, S, P, (PostS.bind h P.f0 P.o0).imp fun d S1 F1 H1 s1 fit1 I1 k => by
    cases d with
    | true => exact iteT ⟨F0, O0, F1, O, env, S1, P.grow s1 fit1 I1, k⟩
    | false => exact iteF ⟨F0, O0, F1, O, env, S1, P.grow s1 fit1 I1, k⟩⟩
theorem s_ret (h : PE X e (tE b E f)) : PS X (.Return (some e) pos) (tS b E (retS f)) :=
  PS.imp (ps_ret h) fun Dn σ H ⟨F0, O0, F, O, env, S, P, h⟩ => ⟨F0, O0, F, O, env, S, P, (PostS.bind h P.f0 P.o0).imp fun d S1 F1 H1 s1 fit1 I1 k v hv => k v F1 O H1 (P.f0.trans s1) P.o0 fit1 I1 hv⟩
def retN : MS := fun _ S => .ok (.rt .non, S)
theorem get_set {α : Type} {l : List α} {i j : Nat} {a d : α} (h : (l.set i a)[j]? = some d) : (j = i ∧ d = a ∧ i < l.length) ∨ (j ≠ i ∧ l[j]? = some d) := by
  by_cases e : j = i
  · subst e
    by_cases q : j < l.length
    · rw [List.getElem?_set_self q] at h; cases h; exact .inl ⟨rfl, rfl, q⟩
    · rw [List.getElem?_eq_none (by simpa using q)] at h; cases h
  · rw [List.getElem?_set_ne (Ne.symm e)] at h
    exact .inr ⟨e, h⟩
theorem set_ne' {α : Type} {l : List α} {i j : Nat} {a : α} (h : j ≠ i) : (l.set i a)[j]? = l[j]? := List.getElem?_set_ne (Ne.symm h)
theorem Pre.set {F0 O0 F O H : Hp} {σ : L2.St} {env : Env} {S : DS} {i : Nat} {d : D} {v : V} (P : Pre b F0 O0 F O H σ env S) (ho : i ∉ b.own) (hv : Den b.c F d v) : Pre b F0 O0 F O H (σ.set i (some v)) (env.set i (some d)) S where
  fit := P.fit
  f0 := P.f0
  o0 := P.o0
  inv := P.inv
  slot := fun j d' h n => by
    rcases get_set h with ⟨rfl, e, hl⟩ | ⟨ne, h⟩
    · cases e
      exact ⟨v, List.getElem?_set_self (by rw [P.len]; exact hl), hv⟩
    · obtain ⟨u, h1, h2⟩ := P.slot j d' h n
      exact ⟨u, by rw [set_ne' ne]; exact h1, h2⟩
  slotO := fun j d' h n => by
    have ne : j ≠ i := fun z => ho (z ▸ n)
    rw [set_ne' ne] at h
    rw [set_ne' ne]
    exact P.slotO j d' h n
  sep := fun j k a hj hk e1 e2 h1 h2 => by
    have nj : j ≠ i := fun z => ho (z ▸ hj)
    have nk : k ≠ i := fun z => ho (z ▸ hk)
    rw [set_ne' nj] at e1 h1
    rw [set_ne' nk] at e2 h2
    exact P.sep j k a hj hk e1 e2 h1 h2
  len := by simp [P.len]
theorem s_asg (i : Nat) (ho : b.own.contains i = false) (hst : ∀ te, PE X e te → PS X st (tAsg te (gName i))) (h : PE X e (tE b E f)) : PS X st (tS b E (asgS i f)) :=
  PS.imp (hst _ h) fun Dn σ H ⟨F0, O0, F, O, env, S, P, h⟩ => ⟨F0, O0, F, O, env, S, P, (PostS.bind h P.f0 P.o0).imp fun d S1 F1 H1 s1 fit1 I1 k v hv => k _ F1 O H1 ((P.grow s1 fit1 I1).set (by simpa using ho) hv)⟩
theorem Pre.setO {F0 O0 F O H : Hp} {σ : L2.St} {env : Env} {S : DS} {i : Nat} {d : D} {p : Addr} {o : HO} (P : Pre b F0 O0 F O H σ env S) (ho : i ∈ b.own) (hp : H p = none) (hd : ObjD b.c F d o) :
    Pre b F0 O0 F (upd O p o) (upd H p o) (σ.set i (some (.ref p))) (env.set i (some d)) S := by
  have nO := upd_none P.fit.o hp
  have eO : Same O (upd O p o) := same_upd nO
  refine ⟨P.fit.newO hp hd.ld, P.f0, P.o0.trans eO, P.inv, fun j d' h n => ?_, fun j d' h n => ?_, fun j k a hj hk e1 e2 h1 h2 => ?_, by simp [P.len]⟩
  · have ne : j ≠ i := fun z => n (z ▸ ho)
    rw [set_ne' ne] at h ⊢
    exact P.slot j d' h n
  · rcases get_set h with ⟨rfl, e, hl⟩ | ⟨ne, h⟩
    · cases e
      exact ⟨p, List.getElem?_set_self (by rw [P.len]; exact hl), hd.own upd_same, upd_none P.o0 nO⟩
    · obtain ⟨a, h1, h2, h3⟩ := P.slotO j d' h n
      exact ⟨a, by rw [set_ne' ne]; exact h1, h2.mono (Same.refl _) (fun o q => eO _ _ q), h3⟩
  · have other : ∀ {m : Nat} {x : Addr}, m ∈ b.own → (∃ d, env[m]? = some (some d)) → σ[m]? = some (some (.ref x)) → x ≠ p := fun {m x} hm ⟨d, e⟩ hx z => by
      obtain ⟨y, h1, h2, _⟩ := P.slotO m d e hm
      rw [h1] at hx
      cases hx
      exact h2.some (z ▸ nO)
    obtain ⟨d1, e1⟩ := e1
    obtain ⟨d2, e2⟩ := e2
    rcases get_set h1 with ⟨z1, q1, l1⟩ | ⟨n1, h3⟩
    · rcases get_set h2 with ⟨z2, q2, l2⟩ | ⟨n2, h4⟩
      · rw [z1, z2]
      · cases q1
        rw [set_ne' n2] at e2
        exact absurd rfl (other hk ⟨d2, e2⟩ h4)
    · rcases get_set h2 with ⟨z2, q2, l2⟩ | ⟨n2, h4⟩
      · cases q2
        rw [set_ne' n1] at e1
        exact absurd rfl (other hj ⟨d1, e1⟩ h3)
      · rw [set_ne' n1] at e1
        rw [set_ne' n2] at e2
        exact P.sep j k a hj hk ⟨d1, e1⟩ ⟨d2, e2⟩ h3 h4
theorem s_asgO (i : Nat) (ho : b.own.contains i = true) (hst : ∀ te, PE X e te → PS X st (tAsg te (gName i))) (h : PE X e (tN b E f)) : PS X st (tS b E (asgS i f)) :=
  PS.imp (hst _ h) fun Dn σ H ⟨F0, O0, F, O, env, S, P, h⟩ => ⟨F0, O0, F, O, env, S, P, (PostS.bind h P.f0 P.o0).imp fun d S1 F1 H1 s1 fit1 I1 k p o hp hd => k _ F1 _ _ ((P.grow s1 fit1 I1).setO (by simpa using ho) hp hd)⟩
theorem s_retO (i : Nat) (hE : PE X e (tVar i)) (ho : b.own.contains i = true) : PS X (.Return (some e) pos) (tS b E (retS (varM i))) :=
  PS.imp (ps_ret hE) fun Dn σ H ⟨F0, O0, F, O, env, S, P, h⟩ => by
    unfold retS varM at h
    cases he : env[i]? with
    | none => rw [he] at h; exact False.elim h
    | some o =>
      cases o with
      | none => rw [he] at h; exact False.elim h
      | some d =>
        rw [he] at h
        obtain ⟨a, h1, h2, h3⟩ := P.slotO i d he (by simpa using ho)
        refine ⟨_, h1, ?_⟩
        have ex : ∃ o, O a = some o ∧ ObjD b.c F d o := by
          cases d with
          | lst ds => obtain ⟨vs, q, hz, r⟩ := h2; exact ⟨_, q, vs, rfl, hz, r⟩
          | dct ks ds => obtain ⟨kv, q, hz, r⟩ := h2; exact ⟨_, q, kv, rfl, hz, r⟩
          | _ => exact False.elim h2
        obtain ⟨o, ho', hd⟩ := ex
        have nF : F a = none := P.fit.fo a (by rw [ho']; simp)
        have fit := P.fit.freeze ho'
        have so : Same O0 (del O a) := fun c u q => by
          have ne : c ≠ a := fun z => by subst z; rw [h3] at q; cases q
          unfold del
          rw [if_neg ne]
          exact P.o0 c u q
        exact h (.ref a) (upd F a o) (del O a) H (P.f0.trans (same_upd nF)) so fit (P.inv.mono (same_upd nF)) (hd.den nF)
def setAll (env : Env) : List Nat → List D → Env
  | i :: is, d :: ds => setAll (env.set i (some d)) is ds
  | _, _ => env
def gNames : List Nat → TGs
  | [] => gNil
  | i :: is => gCons (gName i) (gNames is)
def unpS (is : List Nat) (f : ME) : MS := fun env S => bindM (f env S) fun d S1 => match d with | .tup ds => if ds.length = is.length then .ok (.nx (setAll env is ds), S1) else .bad | _ => .bad
def parS (i j : Nat) (g : MA) : MS := fun env S => bindM (g env S) fun ds S1 => match ds with | [d, e] => .ok (.nx ((env.set i (some d)).set j (some e)), S1) | _ => .bad
end
end VS
namespace VS
open PySem PySem.Spec PyProof.Rows L2
inductive RP where
  | ok (d : D) | exc (n f : Str) (fs : List D) | bad
def liftP (r : RP) (S : DS) : Res (D × DS) := match r with
  | .ok d => .ok (d, S) | .exc n f fs => .exc n f fs S | .bad => .bad
def S0 : DS := ⟨[], [], 0, 0⟩
def endP (r : Res (Fl × DS)) : RP := match r with
  | .ok (.rt d, _) => .ok d | .ok (.nx _, _) => .ok .non | .exc n f fs _ => .exc n f fs | _ => .bad
def endS (r : Res (Fl × DS)) : Res (D × DS) := match r with
  | .ok (.rt d, S) => .ok (d, S) | .ok (.nx _, S) => .ok (.non, S) | .exc n f fs S => .exc n f fs S | _ => .bad
def startE (n : Nat) (ds : List D) : Env := ds.map some ++ List.replicate (n - ds.length) none
def spP (K : PySem.W.Frag) (mg : Str → Option Value) (m : Nat) (G : List D → RP) : Sp := fun vs H Q E => vs.length = m ∧ ∃ (l : Lay) (F O T : Hp) (ds : List D), Fits F O T H ∧ Dens ⟨K, mg, l⟩ F ds vs ∧ match G ds with
  | .ok d => ∀ v F' H', Same F F' → Fits F' O T H' → Den ⟨K, mg, l⟩ F' d v → Q v H'
  | .exc n f fs => ∀ cls dd F' H', Same F F' → Fits F' O T H' → ExcR ⟨K, mg, l⟩ F' n f fs cls dd → E cls dd H'
  | .bad => False
def spS (K : PySem.W.Frag) (mg : Str → Option Value) (m : Nat) (G : List D → DS → Res (D × DS)) : Sp := fun vs H Q E => vs.length = m ∧ ∃ (l : Lay) (F O T0 : Hp) (ds : List D) (S : DS), Fits F O (stT l S T0) H ∧ stI ⟨K, mg, l⟩ S F ∧ Dens ⟨K, mg, l⟩ F ds vs ∧ match G ds S with
  | .ok (d, S') => ∀ v F' H', Same F F' → Fits F' O (stT l S' T0) H' → stI ⟨K, mg, l⟩ S' F' → Den ⟨K, mg, l⟩ F' d v → Q v H'
  | .exc n f fs S' => ∀ cls dd F' H', Same F F' → Fits F' O (stT l S' T0) H' → stI ⟨K, mg, l⟩ S' F' → ExcR ⟨K, mg, l⟩ F' n f fs cls dd → E cls dd H'
  | .bad => False
section
variable {P : Program} {w : World} {K : PySem.W.Frag} {mg : Str → Option Value} {base : Heap}
theorem start_get {N : List Str} {vs : List V} {i : Nat} {v : V} (h : vs[i]? = some v) : (L2.start N vs)[i]? = some (some v) := by
  unfold L2.start
  have hl := (List.getElem?_eq_some_iff.mp h).1
  rw [List.getElem?_append_left (by simpa using hl), List.getElem?_map, h]
  rfl
theorem startE_get {n : Nat} {ds : List D} {i : Nat} {d : D} (h : (startE n ds)[i]? = some (some d)) : ds[i]? = some d := by
  unfold startE at h
  by_cases hl : i < ds.length
  · rw [List.getElem?_append_left (by simpa using hl), List.getElem?_map] at h
    cases e : ds[i]? with
    | none => rw [e] at h; simp at h
    | some x => rw [e] at h; simp at h; rw [h]
  · rw [List.getElem?_append_right (by simpa using hl)] at h
    rw [List.getElem?_replicate] at h
    split at h <;> simp at h
theorem pre_start {b : Bc} {F O H : Hp} {S : DS} {ds : List D} {vs : List V} {N : List Str} (fit : FitB b F O S H) (I : b.I S F) (hd : Dens b.c F ds vs) (hl : vs.length ≤ N.length) (hown : b.own.all (fun i => decide (vs.length ≤ i)) = true) :
    Pre b F O F O H (L2.start N vs) (startE N.length ds) S where
  fit := fit
  f0 := Same.refl _
  o0 := Same.refl _
  inv := I
  slot := fun i d h _ => by
    obtain ⟨v, h1, h2⟩ := Dens.get' hd (startE_get h)
    exact ⟨v, start_get h1, h2⟩
  slotO := fun i d h n => by
    have h1 := (List.getElem?_eq_some_iff.mp (startE_get h)).1
    have h2 := of_decide_eq_true (List.all_eq_true.mp hown i n)
    rw [hd.length] at h1
    omega
  sep := fun i j a hi hj ⟨d, h⟩ _ _ _ => by
    have h1 := (List.getElem?_eq_some_iff.mp (startE_get h)).1
    have h2 := of_decide_eq_true (List.all_eq_true.mp hown i hi)
    rw [hd.length] at h1
    omega
  len := by
    unfold L2.start startE
    rw [List.length_append, List.length_append, List.length_map, List.length_map, List.length_replicate, List.length_replicate, hd.length]
abbrev bP (K : PySem.W.Frag) (mg : Str → Option Value) (l : Lay) (TP : TPr) (own : List Nat) : Bc := ⟨⟨K, mg, l⟩, false, TP, own⟩
abbrev bS (K : PySem.W.Frag) (mg : Str → Option Value) (l : Lay) (TP : TPr) (own : List Nat) : Bc := ⟨⟨K, mg, l⟩, true, TP, own⟩
theorem okP {x qual : Str} {st : Stmt} {f : Addr} {fd : FuncData} {N ps : List Str} {k : Nat} (own : List Nat) {g : MS} {G : List D → RP} (F : Fun K x qual st f fd) (S : FnScope N ps (defScope st)) (hown : own.all (fun i => decide (ps.length ≤ i)) = true) (hle : ps.length ≤ N.length)
    (hbody : ∀ (cdv : Value) (A : Around) (outer : List PySem.Env) (s : Shared) (H : Hp) (E : XK) (l : Lay) (TP : TPr), Room k (A.deeper (envOfC qual (defScope st) s.heap.objs.size f cdv)) →
      PSs (cxOf (L2.CX P w) P w K mg base N qual (defScope st) f cdv A outer s H E) (defBody st) (tS (bP K mg l TP own) E g))
    (hG : ∀ ds : List D, ds.length = ps.length → endP (g (startE N.length ds) S0) = G ds) : FnOk P w K mg base (L2.CX P w) (k + 1) f fd ps (spP K mg ps.length G) := by
  refine F.okX S (fun vs H Q E h => h.1) fun cdv A outer s H vs Q E hr h => ?_
  obtain ⟨hl, l, Fz, O, T, ds, fit, hd, h⟩ := h
  refine ⟨_, hbody cdv A outer s H E l (exT T) hr, Fz, O, Fz, O, startE N.length ds, S0, pre_start (b := bP K mg l (exT T) own) ⟨T, rfl, fit⟩ (fun q => absurd q Bool.false_ne_true) hd (by rw [hl]; exact hle) (by rw [hl]; exact hown), ?_⟩
  rw [← hG ds (by rw [hd.length]; exact hl)] at h
  revert h
  cases hr : g (startE N.length ds) S0 with
  | ok p =>
    obtain ⟨a, S'⟩ := p
    cases a with
    | nx env' => exact fun h σ' F' O' H' P' => by obtain ⟨_, rfl, q⟩ := P'.fit; exact h _ F' H' P'.f0 (q.less P'.o0) rfl
    | rt d => exact fun h v F' O' H' e1 e2 fit' I' hv => by obtain ⟨_, rfl, q⟩ := fit'; exact h v F' H' e1 (q.less e2) hv
    | bk env' => exact fun h => False.elim h
    | ct env' => exact fun h => False.elim h
  | exc n f fs S' => exact fun h cls dd F' O' H' e1 e2 fit' I' hx => by obtain ⟨_, rfl, q⟩ := fit'; exact h cls dd F' H' e1 (q.less e2) hx
  | bad => exact fun h => False.elim h
theorem okS {x qual : Str} {st : Stmt} {f : Addr} {fd : FuncData} {N ps : List Str} {k : Nat} (own : List Nat) {g : MS} {G : List D → DS → Res (D × DS)} (F : Fun K x qual st f fd) (S : FnScope N ps (defScope st)) (hown : own.all (fun i => decide (ps.length ≤ i)) = true) (hle : ps.length ≤ N.length)
    (hbody : ∀ (cdv : Value) (A : Around) (outer : List PySem.Env) (s : Shared) (H : Hp) (E : XK) (l : Lay) (TP : TPr), Room k (A.deeper (envOfC qual (defScope st) s.heap.objs.size f cdv)) →
      PSs (cxOf (L2.CX P w) P w K mg base N qual (defScope st) f cdv A outer s H E) (defBody st) (tS (bS K mg l TP own) E g))
    (hG : ∀ (ds : List D) (S : DS), ds.length = ps.length → endS (g (startE N.length ds) S) = G ds S) : FnOk P w K mg base (L2.CX P w) (k + 1) f fd ps (spS K mg ps.length G) := by
  refine F.okX S (fun vs H Q E h => h.1) fun cdv A outer s H vs Q E hr h => ?_
  obtain ⟨hl, l, Fz, O, T0, ds, Sd, fit, hI, hd, h⟩ := h
  refine ⟨_, hbody cdv A outer s H E l (exT T0) hr, Fz, O, Fz, O, startE N.length ds, Sd, pre_start (b := bS K mg l (exT T0) own) ⟨T0, rfl, fit⟩ (fun _ => hI) hd (by rw [hl]; exact hle) (by rw [hl]; exact hown), ?_⟩
  rw [← hG ds Sd (by rw [hd.length]; exact hl)] at h
  revert h
  cases hr : g (startE N.length ds) Sd with
  | ok p =>
    obtain ⟨a, S'⟩ := p
    cases a with
    | nx env' => exact fun h σ' F' O' H' P' => by obtain ⟨_, rfl, q⟩ := P'.fit; exact h _ F' H' P'.f0 (q.less P'.o0) (P'.inv rfl) rfl
    | rt d => exact fun h v F' O' H' e1 e2 fit' I' hv => by obtain ⟨_, rfl, q⟩ := fit'; exact h v F' H' e1 (q.less e2) (I' rfl) hv
    | bk env' => exact fun h => False.elim h
    | ct env' => exact fun h => False.elim h
  | exc n f fs S' => exact fun h cls dd F' O' H' e1 e2 fit' I' hx => by obtain ⟨_, rfl, q⟩ := fit'; exact h cls dd F' H' e1 (q.less e2) (I' rfl) hx
  | bad => exact fun h => False.elim h
end
def callP (G : List D → RP) (defs : List D) (g : MA) : ME := fun env S => bindM (g env S) fun ds S1 => liftP (G (ds ++ defs)) S1
def callS (G : List D → DS → Res (D × DS)) (g : MA) : ME := fun env S => bindM (g env S) fun ds S1 => G ds S1
section
variable {X : Cx} {b : Bc} {E : XK} {e : Expr} {es : List Expr} {g : MA} {m : Nat}
theorem e_callP {G : List D → RP} {dvs : List V} (defs : List D) (hc : b.c.K = X.K ∧ b.c.mg = X.mg) (hd : ∀ F, Dens b.c F defs dvs) (hm : es.length + defs.length = m) (h : ∀ t, PA X es t → PE X e (tCall (spP X.K X.mg m G) dvs E t)) (ha : PA X es (tA b E g)) (hlen : ∀ env S ds S', g env S = .ok (ds, S') → ds.length = es.length) :
    PE X e (tE b E (callP G defs g)) := PE.imp (h _ ha) fun σ H Q ⟨F0, O0, F, O, env, S, P, h⟩ => ⟨F0, O0, F, O, env, S, P, by
  have hb := Post.bind h
  revert hb
  cases hr : g env S with
  | ok p =>
    obtain ⟨ds, S1⟩ := p
    have hl := hlen env S ds S1 hr
    intro hb F1 H1 s1 fit1 I1 vs hvs
    have k := hb F1 H1 s1 fit1 I1
    obtain ⟨⟨K, mg, l⟩, stf, TP, own⟩ := b
    obtain ⟨T0, tp, fit1⟩ := fit1
    obtain ⟨h1, h2⟩ := hc
    cases h1
    cases h2
    have hv2 := Dens.append hvs (hd F1)
    refine ⟨by rw [← hv2.length, List.length_append, hl]; exact hm, l, F1, O, _, ds ++ defs, fit1, hv2, ?_⟩
    revert k
    cases hG : G (ds ++ defs) with
    | ok d => exact fun k v F' H' s f dv => k F' H' s ⟨T0, TP.mono tp s, f⟩ (I1.mono s) v dv
    | exc n f fs => exact fun k cls dd F' H' s f x => k cls dd F' H' s ⟨T0, TP.mono tp s, f⟩ (I1.mono s) x
    | bad => exact fun k => False.elim k
  | exc n f fs S' => exact fun h => h
  | bad => exact fun h => h⟩
theorem e_callS {G : List D → DS → Res (D × DS)} (hc : b.c.K = X.K ∧ b.c.mg = X.mg) (hs : b.stf = true) (hm : es.length = m) (h : ∀ t, PA X es t → PE X e (tCall (spS X.K X.mg m G) [] E t)) (ha : PA X es (tA b E g)) (hlen : ∀ env S ds S', g env S = .ok (ds, S') → ds.length = es.length) :
    PE X e (tE b E (callS G g)) := PE.imp (h _ ha) fun σ H Q ⟨F0, O0, F, O, env, S, P, h⟩ => ⟨F0, O0, F, O, env, S, P, by
  have hb := Post.bind h
  revert hb
  cases hr : g env S with
  | ok p =>
    obtain ⟨ds, S1⟩ := p
    have hl := hlen env S ds S1 hr
    intro hb F1 H1 s1 fit1 I1 vs hvs
    have k := hb F1 H1 s1 fit1 I1
    obtain ⟨⟨K, mg, l⟩, stf, TP, own⟩ := b
    obtain ⟨T0, tp, fit1⟩ := fit1
    obtain ⟨h1, h2⟩ := hc
    cases h1
    cases h2
    cases hs
    refine ⟨by rw [List.append_nil, ← hvs.length, hl]; exact hm, l, F1, O, T0, ds, S1, fit1, I1 rfl, by rw [List.append_nil]; exact hvs, ?_⟩
    revert k
    cases hG : G ds S1 with
    | ok q => obtain ⟨d, S2⟩ := q; exact fun k v F' H' s f i dv => k F' H' s ⟨T0, TP.mono tp s, f⟩ (fun _ => i) v dv
    | exc n f fs S2 => exact fun k cls dd F' H' s f i x => k cls dd F' H' s ⟨T0, TP.mono tp s, f⟩ (fun _ => i) x
    | bad => exact fun k => False.elim k
  | exc n f fs S' => exact fun h => h
  | bad => exact fun h => h⟩
theorem len_nil : ∀ (env : Env) S ds S', nilA env S = .ok (ds, S') → ds.length = ([] : List Expr).length := fun _ _ _ _ h => by cases h; rfl
theorem len_cons {e : Expr} {f : ME} (h : ∀ (env : Env) S ds S', g env S = .ok (ds, S') → ds.length = es.length) : ∀ (env : Env) S ds S', consA f g env S = .ok (ds, S') → ds.length = (e :: es).length := fun env S ds S' q => by
  unfold consA at q
  cases h1 : f env S with
  | ok p =>
    obtain ⟨d, S1⟩ := p
    rw [h1] at q
    cases h2 : g env S1 with
    | ok p =>
      obtain ⟨ds', S2⟩ := p
      simp only [bindM, h2] at q
      cases q
      simp [h env S1 ds' _ h2]
    | exc _ _ _ _ => simp only [bindM, h2] at q; cases q
    | bad => simp only [bindM, h2] at q; cases q
  | exc _ _ _ _ => rw [h1] at q; cases q
  | bad => rw [h1] at q; cases q
def raiseS (n : Str) : MS := fun _ S => .exc n "" [] S
end
end VS
namespace VS
open PySem PySem.Spec PyProof.Rows L2
section
variable {c : Dc}
def gII (k : Int → Int → D) : D → D → Option D
  | .int i, .int j => some (k i j)
  | _, _ => none
def gIC (C : Int → Int → Bool) (k : Int → Int → D) : D → D → Option D
  | .int i, .int j => if C i j = true then some (k i j) else none
  | _, _ => none
theorem rb_I0 {h : Int → Int → V} {k : Int → Int → D} (hk : ∀ i j F, Den c F (k i j) (h i j)) : RuleB c (rI0 h) (gII k) := by
  intro F O T H d e v u d' Q fit hv hu g q
  cases d <;> cases e <;> simp only [gII, reduceCtorEq, Option.some.injEq] at g
  rename_i i j
  subst g
  exact ⟨i, j, hv, hu, q _ F H (Same.refl _) fit (hk i j F)⟩
theorem rb_IC {Cp : Int → Int → Prop} {Cb : Int → Int → Bool} {h : Int → Int → V} {k : Int → Int → D} (hC : ∀ i j, Cb i j = true → Cp i j) (hk : ∀ i j F, Den c F (k i j) (h i j)) : RuleB c (rI Cp h) (gIC Cb k) := by
  intro F O T H d e v u d' Q fit hv hu g q
  cases d <;> cases e <;> simp only [gIC, reduceCtorEq] at g
  rename_i i j
  by_cases hc : Cb i j = true
  · rw [if_pos hc] at g
    cases g
    exact ⟨i, j, hv, hu, hC i j hc, q _ F H (Same.refl _) fit (hk i j F)⟩
  · rw [if_neg hc] at g
    cases g
abbrev gSub := gII fun i j => .int (i - j)
abbrev gGt := gII fun i j => .bl (decide (j < i))
abbrev gGe := gII fun i j => .bl (decide (j ≤ i))
abbrev gMod := gIC (fun _ j => decide (0 < j)) fun i j => .int (i % j)
abbrev gPow := gIC (fun i j => decide (0 ≤ j ∧ j ≤ 1000000 ∧ i.natAbs < 2 ^ 64)) fun i j => .int (i ^ j.toNat)
theorem r_sub : RuleB c (rI0 fun i j => .int (i - j)) gSub := rb_I0 fun _ _ _ => rfl
theorem r_gt : RuleB c (rI0 fun i j => .bl (decide (j < i))) gGt := rb_I0 fun _ _ _ => rfl
theorem r_ge : RuleB c (rI0 fun i j => .bl (decide (j ≤ i))) gGe := rb_I0 fun _ _ _ => rfl
theorem r_mod : RuleB c (rI (fun _ j => 0 < j) fun i j => .int (i % j)) gMod := rb_IC (fun _ _ h => of_decide_eq_true h) fun _ _ _ => rfl
theorem r_pow : RuleB c (rI CPow fun i j => .int (i ^ j.toNat)) gPow := rb_IC (fun i j h => (of_decide_eq_true h : 0 ≤ j ∧ j ≤ 1000000 ∧ i.natAbs < 2 ^ 64)) fun _ _ _ => rfl
def rAddA (K : PySem.W.Frag) : R2 := fun x y H Q => rI0 (fun i j => .int (i + j)) x y H Q ∨ rCatA K x y H Q ∨ rCat x y H Q ∨ ∃ i j, x = .str i ∧ y = .str j ∧ i.length + j.length ≤ sizeLine ∧ Q (.str (i ++ j)) H
theorem op_addA {X : Cx} : OpR X (binaryOp .Add) (rAddA X.K) := op_add.or (op_catA.or (op_cat.or op_add_str))
def gAdd : D → D → Option D
  | .int i, .int j => some (.int (i + j))
  | .tup a, .tup b => if a.length + b.length ≤ 1000000 then some (.tup (a ++ b)) else none
  | .lst a, .lst b => if a.length + b.length ≤ 1000000 then some (.lst (a ++ b)) else none
  | .str i, .str j => if i.length + j.length ≤ 1000000 then some (.str (i ++ j)) else none
  | _, _ => none
theorem lenTo {F : Hp} {ds : List D} {vs : List V} (h : Dens c F ds vs) : vs.length = ds.length := h.length.symm
theorem r_add : RuleB c (rAddA c.K) gAdd := by
  intro F O T H d e v u d' Q fit hv hu g q
  cases d <;> cases e <;> simp only [gAdd, reduceCtorEq, Option.some.injEq] at g
  · rename_i i j
    subst g
    exact .inl ⟨i, j, hv, hu, q _ F H (Same.refl _) fit rfl⟩
  · rename_i i j
    split at g <;> cases g
    rename_i hz
    exact .inr (.inr (.inr ⟨i, j, hv, hu, Nat.le_trans hz million, q _ F H (Same.refl _) fit rfl⟩))
  · rename_i a b
    split at g <;> cases g
    rename_i hz
    obtain ⟨p, xs, rfl, h1, z1, h2⟩ := hv
    obtain ⟨p', ys, rfl, h1', z1', h2'⟩ := hu
    refine .inr (.inl ⟨p, p', xs, ys, rfl, rfl, sqT_mono fit.f h1, sqT_mono fit.f h1', by rw [lenTo h2, lenTo h2']; exact Nat.le_trans hz million, fun hx => ?_, fun hx hy => ?_, fun hx hy r hr => ?_⟩)
    · subst hx
      have : a = [] := List.eq_nil_of_length_eq_zero (by rw [h2.length]; rfl)
      subst this
      exact q _ F H (Same.refl _) fit ⟨p', ys, rfl, h1', z1', h2'⟩
    · subst hy
      have : b = [] := List.eq_nil_of_length_eq_zero (by rw [h2'.length]; rfl)
      subst this
      exact q _ F H (Same.refl _) fit ⟨p, xs, rfl, h1, by rw [List.append_nil]; exact z1, by rw [List.append_nil]; exact h2⟩
    · have nF := upd_none fit.f hr
      exact q _ (upd F r _) _ (same_upd nF) (fit.new hr) ⟨r, _, rfl, SqT.of upd_same, by rw [List.length_append]; exact Nat.le_trans hz million, Dens.mono (same_upd nF) _ _ (h2.append h2')⟩
  · rename_i a b
    split at g <;> cases g
    rename_i hz
    obtain ⟨p, xs, rfl, h1, z1, h2⟩ := hv
    obtain ⟨p', ys, rfl, h1', z1', h2'⟩ := hu
    refine .inr (.inr (.inl ⟨p, p', xs, ys, rfl, rfl, h1.elim (fit.f _ _) (fit.o _ _), h1'.elim (fit.f _ _) (fit.o _ _), by rw [lenTo h2, lenTo h2']; exact Nat.le_trans hz million, fun r hr => ?_⟩))
    have nF := upd_none fit.f hr
    exact q _ (upd F r _) _ (same_upd nF) (fit.new hr) ⟨r, _, rfl, upd_same, by rw [List.length_append]; exact Nat.le_trans hz million, Dens.mono (same_upd nF) _ _ (h2.append h2')⟩
def gMul : D → D → Option D
  | .int i, .int j => if (-(2 ^ 64) < i ∧ i < 2 ^ 64) ∨ (-(2 ^ 64) < j ∧ j < 2 ^ 64) then some (.int (i * j)) else none
  | .lst a, .int k => if a.length * k.toNat ≤ 1000000 ∧ k < 1000000 ∧ -1000000 < k then some (.lst (List.replicate k.toNat a).flatten) else none
  | _, _ => none
def rMulA : R2 := fun x y H Q => rI CMul (fun i j => .int (i * j)) x y H Q ∨ rRep x y H Q
theorem op_mulA {X : Cx} : OpR X (binaryOp .Mult) rMulA := op_mul.or op_rep
theorem Dens.rep {F : Hp} {ds : List D} {vs : List V} (h : Dens c F ds vs) : ∀ k : Nat, Dens c F (List.replicate k ds).flatten (List.replicate k vs).flatten
  | 0 => rfl
  | k + 1 => by
    rw [List.replicate_succ, List.replicate_succ, List.flatten_cons, List.flatten_cons]
    exact h.append (Dens.rep h k)
theorem len_rep {α : Type} (l : List α) : ∀ k : Nat, (List.replicate k l).flatten.length = l.length * k
  | 0 => rfl
  | k + 1 => by rw [List.replicate_succ, List.flatten_cons, List.length_append, len_rep l k, Nat.mul_succ, Nat.add_comm]
theorem r_mul : RuleB c rMulA gMul := by
  intro F O T H d e v u d' Q fit hv hu g q
  cases d <;> cases e <;> simp only [gMul, reduceCtorEq] at g
  · rename_i i j
    split at g <;> cases g
    rename_i hz
    exact .inl ⟨i, j, hv, hu, hz, q _ F H (Same.refl _) fit rfl⟩
  · rename_i a k
    split at g <;> cases g
    rename_i hz
    obtain ⟨p, xs, rfl, h1, z1, h2⟩ := hv
    refine .inr ⟨p, k, xs, rfl, hu, h1.elim (fit.f _ _) (fit.o _ _), by omega, by omega, by rw [lenTo h2]; exact Nat.le_trans hz.1 million, fun r hr => ?_⟩
    have nF := upd_none fit.f hr
    exact q _ (upd F r _) _ (same_upd nF) (fit.new hr) ⟨r, _, rfl, upd_same, by rw [len_rep]; exact Nat.le_trans hz.1 million, Dens.mono (same_upd nF) _ _ (h2.rep _)⟩
mutual
def toPy : D → Option PyData
  | .non => some .none
  | .bl b => some (.bool b)
  | .int i => some (.int i)
  | .str x => some (.str x)
  | .tup ds => (toPyL ds).map .tuple
  | .lst ds => (toPyL ds).map .list
  | _ => none
def toPyL : List D → Option (List PyData)
  | [] => some []
  | d :: ds => match toPy d, toPyL ds with
    | some p, some ps => some (p :: ps)
    | _, _ => none
end
theorem SqL_of {K : PySem.W.Frag} {H : Hp} {a : Addr} {xs : List V} (h : H a = some (.lst xs)) : SqL K H a xs := .inl (.inl h)
mutual
theorem dp_of {F H : Hp} (s : Same F H) : ∀ (d : D) (v : V) (p : PyData), Den c F d v → toPy d = some p → Dp c.K H v p
  | .non, _, _, h, e => by cases e; simp only [Den] at h; subst h; exact .non
  | .bl _, _, _, h, e => by cases e; simp only [Den] at h; subst h; exact .bl _
  | .int _, _, _, h, e => by cases e; simp only [Den] at h; subst h; exact .int _
  | .str _, _, _, h, e => by cases e; simp only [Den] at h; subst h; exact .str _
  | .tup ds, _, _, h, e => by
    simp only [toPy, Option.map_eq_some_iff] at e
    obtain ⟨ps, e1, rfl⟩ := e
    simp only [Den] at h
    obtain ⟨a, vs, rfl, h1, _, h2⟩ := h
    exact .tup (sqT_mono s h1) (dpL_of s ds vs ps h2 e1)
  | .lst ds, _, _, h, e => by
    simp only [toPy, Option.map_eq_some_iff] at e
    obtain ⟨ps, e1, rfl⟩ := e
    simp only [Den] at h
    obtain ⟨a, vs, rfl, h1, _, h2⟩ := h
    exact .lst (SqL_of (s _ _ h1)) (dpL_of s ds vs ps h2 e1)
  | .dct _ _, _, _, _, e => by simp [toPy] at e
  | .exc _ _ _, _, _, _, e => by simp [toPy] at e
  | .cls _, _, _, _, e => by simp [toPy] at e
  | .st, _, _, _, e => by simp [toPy] at e
  | .opq _, _, _, _, e => by simp [toPy] at e
  | .odk _, _, _, _, e => by simp [toPy] at e
  | .dcT _ _, _, _, _, e => by simp [toPy] at e
  | .ins _ _ _, _, _, _, e => by simp [toPy] at e
  | .scr _, _, _, _, e => by simp [toPy] at e
theorem dpL_of {F H : Hp} (s : Same F H) : ∀ (ds : List D) (vs : List V) (ps : List PyData), Dens c F ds vs → toPyL ds = some ps → DpAll c.K H vs ps
  | [], _, _, h, e => by simp only [toPyL] at e; cases e; simp only [Dens] at h; subst h; exact .nil
  | d :: ds, _, _, h, e => by
    simp only [Dens] at h
    obtain ⟨v, r, rfl, h1, h2⟩ := h
    simp only [toPyL] at e
    split at e
    · rename_i p ps e1 e2
      cases e
      exact .cons (dp_of s d v p h1 e1) (dpL_of s ds r ps h2 e2)
    · cases e
end
theorem dpB_of {F O T H : Hp} (fit : Fits F O T H) {d : D} {v : V} {p : PyData} (h : DenB c F O d v) (e : toPy d = some p) : Dp c.K H v p := by
  cases d with
  | lst ds =>
    simp only [toPy, Option.map_eq_some_iff] at e
    obtain ⟨ps, e1, rfl⟩ := e
    obtain ⟨a, vs, rfl, h1, _, h2⟩ := h
    exact .lst (SqL_of (h1.elim (fit.f _ _) (fit.o _ _))) (dpL_of fit.f ds vs ps h2 e1)
  | dct ks ds => simp [toPy] at e
  | _ => exact dp_of fit.f _ _ _ h e
def eqD0 (d e : D) : Option Bool := match toPy d, toPy e with
  | some p, some q => if (SeqAt.shaped p && SeqAt.shaped q) = true then some (PyData.eqv p q) else none
  | _, _ => none
def eqS : D → D → Option Bool
  | .str x, .str y => some (x == y)
  | .str _, .int _ => some false
  | .int _, .str _ => some false
  | .str _, .bl _ => some false
  | .bl _, .str _ => some false
  | .str _, .non => some false
  | .non, .str _ => some false
  | _, _ => none
def eqD (d e : D) : Option Bool := match eqS d e with
  | some k => some k
  | none => eqD0 d e
def gEq (d e : D) : Option D := (eqD d e).map .bl
def gNe (d e : D) : Option D := (eqD d e).map fun k => .bl (!k)
theorem eqD_some {d e : D} {k : Bool} (h : eqD0 d e = some k) : ∃ p q, toPy d = some p ∧ toPy e = some q ∧ SeqAt.shaped p = true ∧ SeqAt.shaped q = true ∧ PyData.eqv p q = k := by
  unfold eqD0 at h
  split at h
  · rename_i p q e1 e2
    split at h <;> cases h
    rename_i hs
    rw [Bool.and_eq_true] at hs
    exact ⟨p, q, e1, e2, hs.1, hs.2, rfl⟩
  · cases h
theorem eqS_den {F O : Hp} {d e : D} {v u : V} {k : Bool} (hv : DenB c F O d v) (hu : DenB c F O e u) (h : eqS d e = some k) : scal v u = true ∧ decide (v = u) = k := by
  cases d <;> cases e <;> simp only [eqS, reduceCtorEq, Option.some.injEq] at h <;> subst h
  all_goals (have hv' := hv; have hu' := hu; simp only [DenB, Den] at hv' hu'; subst hv' hu')
  all_goals first
    | exact ⟨rfl, dec_str⟩
    | exact ⟨rfl, decide_eq_false (by intro z; cases z)⟩
abbrev rEqX (K : PySem.W.Frag) : R2 := fun x y H Q => rEqD K x y H Q ∨ rEq x y H Q
abbrev rNeX (K : PySem.W.Frag) : R2 := fun x y H Q => rNeD K x y H Q ∨ rNe x y H Q
theorem op_eqX {X : Cx} (hu : X.A.units + 64 < cLine) : OpR X (compareOp .Eq) (rEqX X.K) := (op_eqD hu).or op_eq
theorem op_neX {X : Cx} (hu : X.A.units + 64 < cLine) : OpR X (compareOp .NotEq) (rNeX X.K) := (op_neD hu).or op_ne
theorem r_eq : RuleB c (rEqX c.K) gEq := by
  intro F O T H d e v u d' Q fit hv hu g q
  simp only [gEq, Option.map_eq_some_iff] at g
  obtain ⟨k, e1, rfl⟩ := g
  cases hs : eqS d e with
  | some k' =>
    have : k' = k := by simp only [eqD, hs, Option.some.injEq] at e1; exact e1
    subst this
    obtain ⟨h1, h2⟩ := eqS_den hv hu hs
    exact .inr ⟨h1, by rw [h2]; exact q _ F H (Same.refl _) fit rfl⟩
  | none =>
    have e1 : eqD0 d e = some k := by simp only [eqD, hs] at e1; exact e1
    obtain ⟨p, p', h1, h2, h3, h4, rfl⟩ := eqD_some e1
    exact .inl ⟨p, p', dpB_of fit hv h1, dpB_of fit hu h2, h3, h4, q _ F H (Same.refl _) fit rfl⟩
theorem r_ne : RuleB c (rNeX c.K) gNe := by
  intro F O T H d e v u d' Q fit hv hu g q
  simp only [gNe, Option.map_eq_some_iff] at g
  obtain ⟨k, e1, rfl⟩ := g
  cases hs : eqS d e with
  | some k' =>
    have : k' = k := by simp only [eqD, hs, Option.some.injEq] at e1; exact e1
    subst this
    obtain ⟨h1, h2⟩ := eqS_den hv hu hs
    exact .inr ⟨h1, by rw [h2]; exact q _ F H (Same.refl _) fit rfl⟩
  | none =>
    have e1 : eqD0 d e = some k := by simp only [eqD, hs] at e1; exact e1
    obtain ⟨p, p', h1, h2, h3, h4, rfl⟩ := eqD_some e1
    exact .inl ⟨p, p', dpB_of fit hv h1, dpB_of fit hu h2, h3, h4, q _ F H (Same.refl _) fit rfl⟩
theorem paired1 {R : D → V → Prop} {d : D} {ds : List D} {vs : List V} (h : Paired R (d :: ds) vs) : ∃ v r, vs = v :: r ∧ R d v ∧ Paired R ds r := by
  cases h with
  | cons a b => exact ⟨_, _, rfl, a, b⟩
theorem paired0 {R : D → V → Prop} {vs : List V} (h : Paired R [] vs) : vs = [] := by cases h; rfl
def gLen : List D → Option D
  | [.lst xs] => some (.int xs.length)
  | [.tup xs] => some (.int xs.length)
  | [.str x] => if x.length ≤ 1000000 then some (.int x.length) else none
  | [.scr ns] => some (.int ns.length)
  | _ => none
theorem r_len : RuleN c (fun xs H Q => ∃ x n, xs = [x] ∧ LenV c.K x H n ∧ Q (.int n) H) gLen := by
  intro F O T H ds vs d' Q fit hv g q
  match ds, g with
  | [.lst xs], g =>
    cases g
    obtain ⟨v, r, rfl, ⟨a, us, rfl, h1, z, h2⟩, h⟩ := paired1 hv
    cases paired0 h
    exact ⟨_, _, rfl, .inl ⟨us, SqL_of (h1.elim (fit.f _ _) (fit.o _ _)), rfl⟩, q _ F H (Same.refl _) fit (by simp [Den, h2.length])⟩
  | [.tup xs], g =>
    cases g
    obtain ⟨v, r, rfl, ⟨a, us, rfl, h1, z, h2⟩, h⟩ := paired1 hv
    cases paired0 h
    exact ⟨_, _, rfl, .inr ⟨us, sqT_mono fit.f h1, rfl⟩, q _ F H (Same.refl _) fit (by simp [Den, h2.length])⟩
  | [.str x], g =>
    simp only [gLen] at g
    split at g <;> cases g
    rename_i hz
    obtain ⟨v, r, rfl, rfl, h⟩ := paired1 hv
    cases paired0 h
    exact ⟨_, _, rfl, ⟨Nat.le_trans hz million, rfl⟩, q _ F H (Same.refl _) fit rfl⟩
  | [.scr ns], g =>
    cases g
    obtain ⟨v, r, rfl, ⟨a, rfl, h1⟩, h⟩ := paired1 hv
    cases paired0 h
    exact ⟨_, _, rfl, .inl ⟨_, fit.f.seq h1, rfl⟩, q _ F H (Same.refl _) fit (by simp [Den])⟩
def gAbs : List D → Option D
  | [.int i] => some (.int (if i < 0 then -i else i))
  | _ => none
theorem r_abs : RuleN c (fun xs H Q => ∃ i, xs = [.int i] ∧ Q (.int (if i < 0 then -i else i)) H) gAbs := by
  intro F O T H ds vs d' Q fit hv g q
  match ds, g with
  | [.int i], g =>
    cases g
    obtain ⟨v, r, rfl, rfl, h⟩ := paired1 hv
    cases paired0 h
    exact ⟨i, rfl, q _ F H (Same.refl _) fit rfl⟩
def gInt : List D → Option D
  | [.int i] => some (.int i)
  | [.bl k] => some (.int (if k then 1 else 0))
  | _ => none
theorem r_int : RuleN c (fun xs H Q => (∃ i, xs = [.int i] ∧ Q (.int i) H) ∨ ∃ k, xs = [.bl k] ∧ Q (.int (if k then 1 else 0)) H) gInt := by
  intro F O T H ds vs d' Q fit hv g q
  match ds, g with
  | [.int i], g =>
    cases g
    obtain ⟨v, r, rfl, rfl, h⟩ := paired1 hv
    cases paired0 h
    exact .inl ⟨i, rfl, q _ F H (Same.refl _) fit rfl⟩
  | [.bl i], g =>
    cases g
    obtain ⟨v, r, rfl, rfl, h⟩ := paired1 hv
    cases paired0 h
    exact .inr ⟨i, rfl, q _ F H (Same.refl _) fit rfl⟩
def g2I (k : Int → Int → Int) : List D → Option D
  | [.int i, .int j] => some (.int (k i j))
  | _ => none
abbrev gMin := g2I fun i j => if j < i then j else i
theorem r_2I {k : Int → Int → Int} : RuleN c (fun xs H Q => ∃ i j, xs = [.int i, .int j] ∧ Q (.int (k i j)) H) (g2I k) := by
  intro F O T H ds vs d' Q fit hv g q
  match ds, g with
  | [.int i, .int j], g =>
    cases g
    obtain ⟨v, r, rfl, rfl, h⟩ := paired1 hv
    obtain ⟨v2, r2, e2, e3, h3⟩ := paired1 h
    cases paired0 h3
    subst e2
    cases e3
    exact ⟨i, j, rfl, q _ F H (Same.refl _) fit rfl⟩
def gIx : D → D → Option D
  | .lst xs, .int i => atI xs i
  | .tup xs, .int i => atI xs i
  | _, _ => none
theorem Dens.atI {F : Hp} {ds : List D} {vs : List V} {i : Int} {d : D} (h : Dens c F ds vs) (e : L2.atI ds i = some d) : ∃ v, L2.atI vs i = some v ∧ Den c F d v := by
  unfold L2.atI at e ⊢
  rw [← h.length]
  cases hi : ixN ds.length i with
  | none => rw [hi] at e; cases e
  | some j =>
    rw [hi] at e
    exact Dens.get' h e
theorem r_ix : RuleB c (rIx c.K) gIx := by
  intro F O T H d e v u d' Q fit hv hu g q
  cases d <;> cases e <;> simp only [gIx, reduceCtorEq] at g
  · rename_i xs i
    obtain ⟨a, us, rfl, h1, z, h2⟩ := hv
    obtain ⟨w, e1, e2⟩ := h2.atI g
    exact .inr (.inl ⟨a, us, i, w, rfl, hu, sqT_mono fit.f h1, e1, q _ F H (Same.refl _) fit e2⟩)
  · rename_i xs i
    obtain ⟨a, us, rfl, h1, z, h2⟩ := hv
    obtain ⟨w, e1, e2⟩ := h2.atI g
    exact .inl ⟨a, us, i, w, rfl, hu, SqL_of (h1.elim (fit.f _ _) (fit.o _ _)), e1, q _ F H (Same.refl _) fit e2⟩
end
end VS
namespace VS
open PySem PySem.Spec PyProof.Rows L2
def setN (i : Nat) : Env → D → Option Env := fun env d => some (env.set i (some d))
def setT (is : List Nat) : Env → D → Option Env := fun env d => match d with
  | .tup ds => if ds.length = is.length then some (setAll env is ds) else none
  | _ => none
structure Tgt (b : Bc) (K : PySem.W.Frag) (g : TG) (set : Env → D → Option Env) (js : List Nat) : Prop where
  run : ∀ F0 O0 F O H σ env S d v env' (Q : L2.St → Hp → Prop), Pre b F0 O0 F O H σ env S → Den b.c F d v → set env d = some env' → (∀ σ', Pre b F0 O0 F O H σ' env' S → (∀ k, k ∉ js → σ'[k]? = σ[k]?) → σ'.length = σ.length → Q σ' H) → g v σ H Q
section
variable {b : Bc}
theorem tg_name {K : PySem.W.Frag} (i : Nat) (ho : b.own.contains i = false) : Tgt b K (gName i) (setN i) [i] := ⟨fun F0 O0 F O H σ env S d v env' Q P hv e k => by
  cases e
  exact k _ (P.set (by simpa using ho) hv) (fun j hj => set_ne' (by simpa using hj)) (by simp)⟩
theorem names_set2 {F0 O0 F O H : Hp} {S : DS} {Q : L2.St → Hp → Prop} : ∀ (is : List Nat) (ds : List D) (vs : List V) (σ : L2.St) (env : Env), is.all (fun i => !b.own.contains i) = true → ds.length = is.length → Dens b.c F ds vs → Pre b F0 O0 F O H σ env S →
    (∀ σ', Pre b F0 O0 F O H σ' (setAll env is ds) S → (∀ k, k ∉ is → σ'[k]? = σ[k]?) → σ'.length = σ.length → Q σ' H) → gNames is vs σ H Q
  | [], [], vs, σ, env, _, _, hd, P, k => by simp only [Dens] at hd; subst hd; exact ⟨rfl, k σ P (fun _ _ => rfl) rfl⟩
  | i :: is, d :: ds, vs, σ, env, ho, hl, hd, P, k => by
    simp only [Dens] at hd
    obtain ⟨v, r, rfl, h1, h2⟩ := hd
    simp only [List.all_cons, Bool.and_eq_true] at ho
    refine ⟨v, r, rfl, names_set2 is ds r _ _ ho.2 (by simpa using hl) h2 (P.set (by simpa using ho.1) h1) fun σ' P' q ql => k σ' P' (fun j hj => ?_) (by rw [ql]; simp)⟩
    simp only [List.mem_cons, not_or] at hj
    rw [q j hj.2, set_ne' hj.1]
  | [], _ :: _, _, _, _, _, hl, _, _, _ => by simp at hl
  | _ :: _, [], _, _, _, _, hl, _, _, _ => by simp at hl
theorem tg_tup {K : PySem.W.Frag} (is : List Nat) (hK : b.c.K = K) (ho : is.all (fun i => !b.own.contains i) = true) : Tgt b K (gTup K is.length (gNames is)) (setT is) is := ⟨fun F0 O0 F O H σ env S d v env' Q P hv e k => by
  cases d with
  | tup ds =>
    simp only [setT] at e
    split at e <;> cases e
    rename_i hl
    simp only [Den] at hv
    obtain ⟨a, vs, rfl, hs, hz, hd⟩ := hv
    rw [hK] at hs
    exact ⟨a, vs, rfl, sqT_mono P.fit.f hs, by rw [← hd.length]; exact hl, names_set2 is ds vs σ env ho hl hd P k⟩
  | _ => simp [setT] at e⟩
end
def loopS (set : Env → D → Option Env) (g : MS) : List D → MS
  | [], env, S => .ok (.nx env, S)
  | d :: ds, env, S => match set env d with
    | none => .bad
    | some env1 => match g env1 S with
      | .ok (.nx env2, S2) => loopS set g ds env2 S2
      | .ok (.ct env2, S2) => loopS set g ds env2 S2
      | .ok (.bk env2, S2) => .ok (.nx env2, S2)
      | r => r
def forS (set : Env → D → Option Env) (f : ME) (g : MS) : MS := fun env S => bindM (f env S) fun d S1 => match d with
  | .lst ds => loopS set g ds env S1
  | .tup ds => loopS set g ds env S1
  | _ => .bad
section
variable {X : Cx} {b : Bc} {E : XK} {e tg iter : Expr} {body : List Stmt} {f : ME} {g : MS} {pos : Pos} {gt : TG} {set : Env → D → Option Env} {js : List Nat}
theorem loop_turn (ht : Tgt b X.K gt set js) {F1 O0 F' O' H' : Hp} {σ' : L2.St} {env' : Env} {S' : DS} {d : D} {ds : List D} {v : V} {Dn : Ends} {N : L2.St → Hp → Prop} (P : Pre b F1 O0 F' O' H' σ' env' S') (hv : Den b.c F' d v) (h : PostS b E F1 O0 (loopS set g (d :: ds) env' S') Dn)
    (hN : ∀ σ2 H2 F2 O2 env2 S2, Pre b F1 O0 F2 O2 H2 σ2 env2 S2 → PostS b E F1 O0 (loopS set g ds env2 S2) Dn → N σ2 H2) :
    gt v σ' H' fun σ2 H2 => tS b E g { Dn with nx := N, ct := N, bk := Dn.nx } σ2 H2 := by
  unfold loopS at h
  cases hs : set env' d with
  | none => rw [hs] at h; exact False.elim h
  | some env1 =>
    simp only [hs] at h
    refine ht.run F1 O0 F' O' H' σ' env' S' d v env1 _ P hv hs fun σ2 P2 _ _ => ⟨F1, O0, F', O', env1, S', P2, ?_⟩
    revert h
    cases hr : g env1 S' with
    | ok p =>
      obtain ⟨a, S2⟩ := p
      cases a with
      | nx env2 => exact fun h σ3 F3 O3 H3 P3 => hN σ3 H3 F3 O3 env2 S2 P3 h
      | rt d => exact fun h => h
      | bk env2 => exact fun h => h
      | ct env2 => exact fun h σ3 F3 O3 H3 P3 => hN σ3 H3 F3 O3 env2 S2 P3 h
    | exc n f fs S2 => exact fun h => h
    | bad => exact fun h => h
theorem PI.or {tgt l : Expr} {w1 w2 : TI} (h1 : PI X tgt l w1) (h2 : PI X tgt l w2) : PI X tgt l (fun σ H R => w1 σ H R ∨ w2 σ H R) := ⟨fun pins s σ H R I h => h.elim (h1.run pins s σ H R I) (h2.run pins s σ H R I)⟩
theorem drop_at {α : Type} {l : List α} {i : Nat} {d : α} (h : l[i]? = some d) : l.drop i = d :: l.drop (i + 1) := by
  obtain ⟨h1, h2⟩ := List.getElem?_eq_some_iff.mp h
  rw [← h2]
  exact List.drop_eq_getElem_cons h1
theorem s_for (hc : X.calm = true) (hK : b.c.K = X.K) (hp : PassesOwn (model X.prog X.w) X.A X.env X.xe) (hi : PE X iter (tE b E f)) (hg : PG X tg gt) (ht : Tgt b X.K gt set js) (hb : PSs X body (tS b E g))
    (hs : ∀ x, foldedSetIterable iter X.env x = pure x := by intro _; rfl) : PS X (.For tg iter body [] pos) (tS b E (forS set f g)) :=
  PS.imp (ps_for hp hc (PI.or (pi_list hi) (pi_tup hi)) hg hb hs) fun Dn σ H ⟨F0, O0, F, O, env, S, P, h⟩ => by
    have hb := PostS.bind h P.f0 P.o0
    cases hr : f env S with
    | bad => rw [hr] at hb; exact False.elim hb
    | exc n f' fs S' =>
      rw [hr] at hb
      refine .inl ⟨F0, O0, F, O, env, S, P, ?_⟩
      rw [hr]
      exact hb
    | ok p =>
      obtain ⟨d, S1⟩ := p
      cases d with
      | lst ds =>
        refine .inl ⟨F0, O0, F, O, env, S, P, ?_⟩
        rw [hr] at hb ⊢
        intro F1 H1 s1 fit1 I1 v hv
        have k := hb F1 H1 s1 fit1 I1
        obtain ⟨a, vs, rfl, h1, z, h2⟩ := hv
        refine ⟨a, rfl, ⟨vs, SqL_of (fit1.f _ _ h1)⟩, for_list (xs := vs) (fun i σ' H' => ∃ F' O' env' S', Pre b F1 O0 F' O' H' σ' env' S' ∧ PostS b E F1 O0 (loopS set g (ds.drop i) env' S') Dn) ?_ (fun i σ' H' _ ⟨F', O', env', S', P', _⟩ => SqL_of (P'.fit.f _ _ (P'.f0 _ _ h1))) ?_ ?_⟩
        · exact ⟨F1, O, env, S1, ⟨fit1, Same.refl _, P.o0, I1, (P.grow s1 fit1 I1).slot, (P.grow s1 fit1 I1).slotO, P.sep, P.len⟩, PostS.base k (P.f0.trans s1) (Same.refl _)⟩
        · rintro i x σ' H' hx ⟨F', O', env', S', P', k⟩
          obtain ⟨d, e1, e2⟩ := Dens.get h2 hx
          rw [drop_at e1] at k
          exact loop_turn ht P' (Den.mono P'.f0 _ _ e2) k fun σ2 H2 F2 O2 env2 S2 P2 k2 => ⟨F2, O2, env2, S2, P2, k2⟩
        · rintro σ' H' ⟨F', O', env', S', P', k⟩
          rw [← h2.length, List.drop_length] at k
          exact k σ' F' O' H' P'
      | tup ds =>
        refine .inr ⟨F0, O0, F, O, env, S, P, ?_⟩
        rw [hr] at hb ⊢
        intro F1 H1 s1 fit1 I1 v hv
        have k := hb F1 H1 s1 fit1 I1
        obtain ⟨a, vs, rfl, h1, z, h2⟩ := hv
        rw [hK] at h1
        refine ⟨a, rfl, ⟨vs, sqT_mono fit1.f h1⟩, for_tup (xs := vs) (fun i σ' H' => ∃ F' O' env' S', Pre b F1 O0 F' O' H' σ' env' S' ∧ PostS b E F1 O0 (loopS set g (ds.drop i) env' S') Dn) ?_ (fun i σ' H' _ ⟨F', O', env', S', P', _⟩ => sqT_mono P'.fit.f (sqT_mono P'.f0 h1)) ?_ ?_⟩
        · exact ⟨F1, O, env, S1, ⟨fit1, Same.refl _, P.o0, I1, (P.grow s1 fit1 I1).slot, (P.grow s1 fit1 I1).slotO, P.sep, P.len⟩, PostS.base k (P.f0.trans s1) (Same.refl _)⟩
        · rintro i x σ' H' hx ⟨F', O', env', S', P', k⟩
          obtain ⟨d, e1, e2⟩ := Dens.get h2 hx
          rw [drop_at e1] at k
          exact loop_turn ht P' (Den.mono P'.f0 _ _ e2) k fun σ2 H2 F2 O2 env2 S2 P2 k2 => ⟨F2, O2, env2, S2, P2, k2⟩
        · rintro σ' H' ⟨F', O', env', S', P', k⟩
          rw [← h2.length, List.drop_length] at k
          exact k σ' F' O' H' P'
      | _ =>
        refine .inl ⟨F0, O0, F, O, env, S, P, ?_⟩
        rw [hr] at hb ⊢
        exact fun F1 H1 s1 fit1 I1 v hv => False.elim (hb F1 H1 s1 fit1 I1)
def intsD (lo : Int) (n : Nat) : List D := (List.range n).map fun (i : Nat) => D.int (lo + (i : Int))
theorem intsD_at {lo : Int} {n i : Nat} (h : i < n) : (intsD lo n)[i]? = some (.int (lo + i)) := by simp [intsD, h]
def rangeOf : List D → Option (List D)
  | [.int j] => if -(2 ^ 62) ≤ j ∧ j < 2 ^ 62 then some (intsD 0 j.toNat) else none
  | [.int i, .int j] => if -(2 ^ 62) ≤ i ∧ i < 2 ^ 62 ∧ -(2 ^ 62) ≤ j ∧ j < 2 ^ 62 then some (intsD i (j - i).toNat) else none
  | _ => none
def forR (set : Env → D → Option Env) (fa : MA) (g : MS) : MS := fun env S => bindM (fa env S) fun ds S1 => match rangeOf ds with
  | some xs => loopS set g xs env S1
  | none => .bad
theorem range_go {lo : Int} {n : Nat} (ht : Tgt b X.K gt set js) {F1 O0 F O H : Hp} {σ : L2.St} {env : Env} {S : DS} {Dn : Ends} (P : Pre b F1 O0 F O H σ env S) (h : PostS b E F1 O0 (loopS set g (intsD lo n) env S) Dn) :
    ∃ W : Nat → Nat → L2.St → Hp → Prop, (∃ m, W 0 m σ H) ∧ ∀ i m σ H, W i m σ H →
      ((Itr lo n).stop i H ∧ Dn.nx σ H) ∨ ((Itr lo n).go i H ∧ ∃ N : L2.St → Hp → Prop, (∀ σ' H', N σ' H' → ∃ m', m' < m ∧ W (i + 1) m' σ' H') ∧ ∀ x H', (Itr lo n).yld i H x H' → gt x σ H' fun σ2 H2 => tS b E g { Dn with nx := N, ct := N, bk := Dn.nx } σ2 H2) := by
  refine for_range (fun i σ' H' => ∃ F' O' env' S', Pre b F1 O0 F' O' H' σ' env' S' ∧ PostS b E F1 O0 (loopS set g ((intsD lo n).drop i) env' S') Dn) ⟨F, O, env, S, P, h⟩ ?_ ?_
  · rintro i σ' H' hi ⟨F', O', env', S', P', k⟩
    rw [drop_at (intsD_at hi)] at k
    exact loop_turn ht P' (d := D.int (lo + i)) (v := .int (lo + i)) rfl k fun σ2 H2 F2 O2 env2 S2 P2 k2 => ⟨F2, O2, env2, S2, P2, k2⟩
  · rintro σ' H' ⟨F', O', env', S', P', k⟩
    have : (intsD lo n).drop n = [] := List.drop_eq_nil_of_le (by simp [intsD])
    rw [this] at k
    exact k σ' F' O' H' P'
theorem s_forR1 {e1 : Expr} {ga : MA} (hc : X.calm = true) (hp : PassesOwn (model X.prog X.w) X.A X.env X.xe) (hi : ∀ ta, PA X [e1] ta → PI X tg iter (iRng1 ta)) (ha : PA X [e1] (tA b E ga)) (hg : PG X tg gt) (ht : Tgt b X.K gt set js) (hb : PSs X body (tS b E g))
    (hl : ∀ env S ds S', ga env S = .ok (ds, S') → ds.length = [e1].length) (hs : ∀ x, foldedSetIterable iter X.env x = pure x := by intro _; rfl) : PS X (.For tg iter body [] pos) (tS b E (forR set ga g)) :=
  PS.imp (ps_for hp hc (hi _ ha) hg hb hs) fun Dn σ H ⟨F0, O0, F, O, env, S, P, h⟩ => by
    have hb := PostS.bind h P.f0 P.o0
    refine ⟨F0, O0, F, O, env, S, P, ?_⟩
    cases hr : ga env S with
    | bad => rw [hr] at hb; exact False.elim hb
    | exc n f' fs S' => rw [hr] at hb; exact hb
    | ok p =>
      obtain ⟨ds, S1⟩ := p
      have hlen := hl env S ds S1 hr
      rw [hr] at hb
      intro F1 H1 s1 fit1 I1 vs hv
      have k := hb F1 H1 s1 fit1 I1
      match ds, hlen, hv, k with
      | [d], _, hv, k =>
        simp only [Dens] at hv
        obtain ⟨v, r, rfl, h1, rfl⟩ := hv
        cases d with
        | int j =>
          simp only [Den] at h1
          subst h1
          simp only [rangeOf] at k
          by_cases hj : -(2 ^ 62) ≤ j ∧ j < 2 ^ 62
          · rw [if_pos hj] at k
            exact ⟨j, rfl, hj.1, hj.2, range_go ht ((P.grow s1 fit1 I1).base (Same.refl _) (Same.refl _)) k⟩
          · rw [if_neg hj] at k
            exact False.elim k
        | _ => exact False.elim k
end
end VS
namespace VS
open PySem PySem.Spec PyProof.Rows L2
def wipeE (env : Env) : List Nat → Env
  | [] => env
  | v :: vs => (wipeE env vs).set v none
def noX {α : Type} (r : Res α) : Res α := match r with | .exc _ _ _ _ => .bad | r => r
abbrev XF : XK := fun _ _ _ => False
section
variable {b : Bc}
theorem Pre.unset {F0 O0 F O H : Hp} {σ : L2.St} {env : Env} {S : DS} {i : Nat} (P : Pre b F0 O0 F O H σ env S) (ho : i ∉ b.own) : Pre b F0 O0 F O H (σ.set i none) (env.set i none) S where
  fit := P.fit
  f0 := P.f0
  o0 := P.o0
  inv := P.inv
  slot := fun j d' h n => by
    rcases get_set h with ⟨_, e, _⟩ | ⟨ne, h⟩
    · cases e
    · rw [set_ne' ne]; exact P.slot j d' h n
  slotO := fun j d' h n => by
    have ne : j ≠ i := fun z => ho (z ▸ n)
    rw [set_ne' ne] at h ⊢
    exact P.slotO j d' h n
  sep := fun j k a hj hk e1 e2 h1 h2 => by
    have nj : j ≠ i := fun z => ho (z ▸ hj)
    have nk : k ≠ i := fun z => ho (z ▸ hk)
    rw [set_ne' nj] at e1 h1
    rw [set_ne' nk] at e2 h2
    exact P.sep j k a hj hk e1 e2 h1 h2
  len := by simp [P.len]
theorem Pre.wipe {F0 O0 F O H : Hp} {σ : L2.St} {env : Env} {S : DS} (P : Pre b F0 O0 F O H σ env S) : ∀ vs : List Nat, vs.all (fun i => !b.own.contains i) = true → Pre b F0 O0 F O H (L2.wipe σ vs) (wipeE env vs) S
  | [], _ => P
  | v :: vs, h => by
    simp only [List.all_cons, Bool.and_eq_true] at h
    exact (P.wipe vs h.2).unset (by simpa using h.1)
theorem wipe_get {σ : L2.St} : ∀ {vs : List Nat} {k : Nat}, k ∉ vs → (L2.wipe σ vs)[k]? = σ[k]?
  | [], _, _ => rfl
  | v :: vs, k, h => by
    simp only [List.mem_cons, not_or] at h
    show ((L2.wipe σ vs).set v none)[k]? = _
    rw [set_ne' h.1]
    exact wipe_get h.2
theorem wipe_in {σ : L2.St} : ∀ {vs : List Nat} {k : Nat}, k ∈ vs → (L2.wipe σ vs)[k]? = if k < σ.length then some none else none
  | v :: vs, k, h => by
    show ((L2.wipe σ vs).set v none)[k]? = _
    by_cases e : k = v
    · subst e
      by_cases hl : k < σ.length
      · rw [if_pos hl, List.getElem?_set_self (by rw [L2.wipe_length]; exact hl)]
      · rw [if_neg hl, List.getElem?_eq_none (by rw [List.length_set, L2.wipe_length]; omega)]
    · rw [set_ne' e]
      exact wipe_in ((List.mem_cons.mp h).resolve_left e)
theorem wipe_eq {σ σ' : L2.St} {vs js : List Nat} (hl : σ'.length = σ.length) (h : ∀ k, k ∉ js → σ'[k]? = (L2.wipe σ vs)[k]?) (hs : js.all (fun j => vs.contains j) = true) : L2.wipe σ' vs = L2.wipe σ vs := by
  apply List.ext_getElem?
  intro k
  by_cases hk : k ∈ vs
  · rw [wipe_in hk, wipe_in hk, hl]
  · rw [wipe_get hk]
    exact h k fun hj => hk (by simpa using List.all_eq_true.mp hs k hj)
end
def compM (set : Env → D → Option Env) (test : MT) (elt : ME) (env0 : Env) : List D → DS → Res (List D × DS)
  | [], S => .ok ([], S)
  | d :: ds, S => match set env0 d with
    | none => .bad
    | some env1 => bindM (noX (test env1 S)) fun k S1 => if k = true then bindM (noX (elt env1 S1)) fun y S2 => bindM (compM set test elt env0 ds S2) fun ys S3 => .ok (y :: ys, S3) else compM set test elt env0 ds S1
def lcM (set : Env → D → Option Env) (f : ME) (test : MT) (elt : ME) (vs : List Nat) : ME := fun env S => bindM (f env S) fun d S1 => match d with
  | .lst ds => bindM (compM set test elt (wipeE env vs) ds S1) fun ys S2 => .ok (.lst ys, S2)
  | .tup ds => bindM (compM set test elt (wipeE env vs) ds S1) fun ys S2 => .ok (.lst ys, S2)
  | .scr ns => if ns.length ≤ 1000000 then bindM (compM set test elt (wipeE env vs) (ns.map D.int) S1) fun ys S2 => .ok (.lst ys, S2) else .bad
  | _ => .bad
section
variable {X : Cx} {b : Bc} {E : XK} {e tg iter elt : Expr} {ifs : List Expr} {f fe : ME} {test : MT} {pos : Pos} {gt : TG} {set : Env → D → Option Env} {js : List Nat}
theorem Post.noX {α : Type} {O F : Hp} {x : Res (α × DS)} {k : α → DS → Hp → Hp → Prop} (h : Post b E O F (noX x) k) : Post b XF O F x k := by
  cases x with
  | ok p => obtain ⟨a, S'⟩ := p; exact h
  | exc n f fs S' => exact False.elim h
  | bad => exact False.elim h
theorem tYes_ok {X : Cx} : PTs X [] (tT b XF (fun _ S => .ok (true, S))) := ⟨fun pins s σ H Q I ⟨F0, O0, F, O, env, S, P, h⟩ => pts_nil.run pins s σ H Q I (h F H (Same.refl _) P.fit P.inv)⟩
theorem tOne_ok {X : Cx} {c : Expr} (h : PT X c (tT b XF test)) : PTs X [c] (tT b XF test) := pts_one h
theorem bindM_assoc {α β γ : Type} (x : Res (α × DS)) (g : α → DS → Res (β × DS)) (k : β → DS → Res γ) : bindM (bindM x g) k = bindM x fun a S => bindM (g a S) k := by
  cases x with
  | ok p => rfl
  | exc _ _ _ _ => rfl
  | bad => rfl
theorem Post.moreO {α : Type} {O O' F : Hp} {x : Res (α × DS)} {k : α → DS → Hp → Hp → Prop} (h : Post b XF O F x k) (e : Same O O') : Post b XF O' F x k := by
  cases x with
  | ok p => obtain ⟨a, S'⟩ := p; exact fun F' H' s fit I => h F' H' s (fit.less e) I
  | exc n f fs S' => exact fun cls dd F' H' s fit I x => h cls dd F' H' s (fit.less e) I x
  | bad => exact h
theorem FitB.out {b : Bc} {F O H : Hp} {S : DS} {D0 : Addr} {u : HO} (h : FitB b F (upd O D0 u) S H) (hO : O D0 = none) : FitB b F O S (del H D0) := by
  obtain ⟨T0, tp, fit2⟩ := h
  have eO : Same O (upd O D0 u) := same_upd hO
  have n2 : F D0 = none := fit2.fo D0 (by rw [upd_same]; simp)
  have nT : (b.T S T0) D0 = none := by
    cases e : (b.T S T0) D0 with
    | none => rfl
    | some u => have := fit2.ot D0 (by rw [e]; simp); rw [upd_same] at this; cases this
  have ne : ∀ {G : Hp} {a : Addr} {u : HO}, G D0 = none → G a = some u → a ≠ D0 := fun {G a u} n h z => by subst z; rw [n] at h; cases h
  refine ⟨T0, tp, fun a u h => ?_, fun a u h => ?_, fun a u h => ?_, (fit2.less eO).fo, fit2.ft, (fit2.less eO).ot, fit2.nt, (fit2.less eO).ld⟩
  · unfold del; rw [if_neg (ne n2 h)]; exact fit2.f a u h
  · unfold del; rw [if_neg (ne hO h)]; exact fit2.o a u (eO a u h)
  · unfold del; rw [if_neg (ne nT h)]; exact fit2.t a u h
structure Cmp (b : Bc) (E : XK) (O F1 : Hp) (σ : L2.St) (env0 : Env) (K : D → DS → Hp → Hp → Prop) (rest : List D) (go : List D → DS → Res (List D × DS)) (D0 : Addr) (i : Nat) (H : Hp) : Prop where
  ex : ∃ F ys vs S, FitB b F (upd O D0 (.lst vs)) S H ∧ b.I S F ∧ Same F1 F ∧ Dens b.c F ys vs ∧ ys.length ≤ i ∧ Post b E O F (bindM (go rest S) fun zs S2 => .ok (D.lst (ys ++ zs), S2)) K
theorem lc_turn (ht : Tgt b X.K gt set js) {F0 O0 O F1 H H' : Hp} {σ : L2.St} {env : Env} {S : DS} {vs : List Nat} {K : D → DS → Hp → Hp → Prop} {d : D} {ds : List D} {D0 : Addr} {i : Nat} {v : V} (P : Pre b F0 O0 F1 O H σ env S) (hO : O D0 = none)
    (hv : Den b.c F1 d v) (hvs : vs.all (fun i => !b.own.contains i) = true) (hjs : js.all (fun j => vs.contains j) = true) (hi : i < sizeLine)
    (C : Cmp b E O F1 σ (wipeE env vs) K (d :: ds) (compM set test fe (wipeE env vs)) D0 i H') :
    gt v (L2.wipe σ vs) H' fun σ2 H2 => L2.wipe σ2 vs = L2.wipe σ vs ∧ tT b XF test σ2 H2 fun k H3 => if k = true then tE b XF fe σ2 H3 fun y H4 => ∃ acc, H4 D0 = some (.lst acc) ∧ acc.length < sizeLine ∧ Cmp b E O F1 σ (wipeE env vs) K ds (compM set test fe (wipeE env vs)) D0 (i + 1) (upd H4 D0 (.lst (acc ++ [y])))
      else Cmp b E O F1 σ (wipeE env vs) K ds (compM set test fe (wipeE env vs)) D0 (i + 1) H3 := by
  obtain ⟨F2, ys, us, S2, fit2, I2, s2, hd, hl, hp⟩ := C.ex
  have eO : Same O (upd O D0 (.lst us)) := same_upd hO
  have P2 : Pre b F0 O0 F2 (upd O D0 (.lst us)) H' σ env S2 := by
    refine ⟨fit2, P.f0.trans s2, P.o0.trans eO, I2, fun i d h n => ?_, fun i d h n => ?_, P.sep, P.len⟩
    · obtain ⟨v, h1, h2⟩ := P.slot i d h n; exact ⟨v, h1, Den.mono s2 _ _ h2⟩
    · obtain ⟨a, h1, h2, h3⟩ := P.slotO i d h n; exact ⟨a, h1, h2.mono s2 (fun o q => eO _ _ q), h3⟩
  have P3 := P2.wipe vs hvs
  unfold compM at hp
  cases hs : set (wipeE env vs) d with
  | none => simp only [hs] at hp; exact False.elim hp
  | some env1 =>
    simp only [hs] at hp
    rw [bindM_assoc] at hp
    refine ht.run F0 O0 F2 _ H' (L2.wipe σ vs) (wipeE env vs) S2 d v env1 _ P3 (Den.mono s2 _ _ hv) hs fun σ2 P4 q4 l4 => ⟨wipe_eq (by rw [l4, L2.wipe_length]) q4 hjs, F0, O0, F2, _, env1, S2, P4, ((Post.noX (Post.bind hp)).moreO eO).imp fun k S3 F3 H3 s3 fit3 I3 hp => ?_⟩
    cases k with
    | true =>
      refine iteT ⟨F0, O0, F3, _, env1, S3, P4.grow s3 fit3 I3, ?_⟩
      rw [if_pos rfl, bindM_assoc] at hp
      refine ((Post.noX (Post.bind hp)).moreO eO).imp fun y S4 F4 H4 s4 fit4 I4 hp w hw => ⟨us, fit4.o D0 _ upd_same, by rw [← hd.length]; omega, F4, ys ++ [y], us ++ [w], S4, ?_, I4, (s2.trans s3).trans s4, (Dens.mono (s3.trans s4) _ _ hd).append (Dens.one hw), by simp; omega, ?_⟩
      · have := fit4.setO (u' := .lst (us ++ [w])) (upd_same (H := O) (a := D0) (o := .lst us))
        rw [upd_upd] at this
        exact this
      · rw [bindM_assoc] at hp
        simpa [bindM, List.append_assoc] using hp
    | false =>
      rw [if_neg Bool.false_ne_true] at hp
      exact iteF ⟨F3, ys, us, S3, fit3, I3, s2.trans s3, Dens.mono s3 _ _ hd, by omega, hp⟩
theorem lc_end {O F1 H' : Hp} {σ : L2.St} {env : Env} {Q : VK} {vs : List Nat} {D0 : Addr} {i : Nat} (hO : O D0 = none) (hF : F1 D0 = none) (hz : i ≤ sizeLine)
    (C : Cmp b E O F1 σ (wipeE env vs) (fun d S' F' H' => ∀ p o, H' p = none → ObjD b.c F' d o → Q (.ref p) (upd H' p o)) [] (compM set test fe (wipeE env vs)) D0 i H') : Q (.ref D0) H' := by
  obtain ⟨F2, ys, us, S2, fit2, I2, s2, hd, hl, hp⟩ := C.ex
  have eO : Same O (upd O D0 (.lst us)) := same_upd hO
  have n2 : F2 D0 = none := fit2.fo D0 (by rw [upd_same]; simp)
  have hH : H' D0 = some (.lst us) := fit2.o D0 _ upd_same
  have e : upd (del H' D0) D0 (.lst us) = H' := by
    funext a
    by_cases h : a = D0
    · subst h; rw [upd_same, hH]
    · rw [upd_ne h]; unfold del; rw [if_neg h]
  have fit : FitB b F2 O S2 (del H' D0) := fit2.out hO
  have k := hp F2 (del H' D0) (Same.refl _) fit I2 D0 (.lst us) (by unfold del; rw [if_pos rfl]) ⟨us, rfl, by simp; omega, by simpa using hd⟩
  rw [e] at k
  exact k
theorem lc_begin {O F1 H1 : Hp} {σ : L2.St} {env : Env} {S1 : DS} {Q : VK} {vs : List Nat} {D0 : Addr} {ds : List D} (fit1 : FitB b F1 O S1 H1) (I1 : b.I S1 F1) (hD : H1 D0 = none)
    (k : Post b E O F1 (bindM (compM set test fe (wipeE env vs) ds S1) fun ys S2 => .ok (D.lst ys, S2)) (fun d S' F' H' => ∀ p o, H' p = none → ObjD b.c F' d o → Q (.ref p) (upd H' p o))) :
    Cmp b E O F1 σ (wipeE env vs) (fun d S' F' H' => ∀ p o, H' p = none → ObjD b.c F' d o → Q (.ref p) (upd H' p o)) ds (compM set test fe (wipeE env vs)) D0 0 (upd H1 D0 (.lst [])) :=
  ⟨F1, [], [], S1, fit1.newO hD, I1, Same.refl _, rfl, Nat.le_refl _, k⟩
theorem PE.or {t1 t2 : TE} (h1 : PE X e t1) (h2 : PE X e t2) : PE X e (fun σ H Q => t1 σ H Q ∨ t2 σ H Q) := ⟨fun pins s σ H Q I h => h.elim (h1.run pins s σ H Q I) (h2.run pins s σ H Q I)⟩
abbrev iSeqs (K : PySem.W.Frag) (t : TE) (k : TI → TE) : TE := fun σ H Q => k (iList K t) σ H Q ∨ k (iTup K t) σ H Q
theorem lc_imp {vs : List Nat} (hK : b.c.K = X.K) (ht : Tgt b X.K gt set js) (hvs : vs.all (fun i => !b.own.contains i) = true) (hjs : js.all (fun j => vs.contains j) = true) :
    ∀ σ H Q, tN b E (lcM set f test fe vs) σ H Q → iSeqs X.K (tB b E f) (fun wi => tLc wi gt (tT b XF test) (tE b XF fe) vs) σ H Q := fun σ H Q ⟨F0, O0, F, O, env, S, P, h⟩ => by
    have hb := Post.bind h
    cases hr : f env S with
    | bad => rw [hr] at hb; exact False.elim hb
    | exc n f' fs S' =>
      rw [hr] at hb
      refine .inl ⟨F0, O0, F, O, env, S, P, ?_⟩
      rw [hr]
      exact hb
    | ok p =>
      obtain ⟨d, S1⟩ := p
      cases d with
      | lst ds =>
        refine .inl ⟨F0, O0, F, O, env, S, P, ?_⟩
        rw [hr] at hb ⊢
        intro F1 H1 s1 fit1 I1 v hv
        have k := hb F1 H1 s1 fit1 I1
        obtain ⟨a, us, rfl, h1, z, h2⟩ := hv
        refine ⟨a, rfl, ⟨us, SqL_of (h1.elim (fit1.f _ _) (fit1.o _ _))⟩, fun D0 hD => ?_⟩
        have nO := upd_none fit1.o hD
        have nF := upd_none fit1.f hD
        have P1 := P.grow s1 fit1 I1
        refine lc_list (K := X.K) (xs := us) (fun i H' => Cmp b E O F1 σ (wipeE env vs) (fun d S' F' H' => ∀ p o, H' p = none → ObjD b.c F' d o → Q (.ref p) (upd H' p o)) (ds.drop i) (compM set test fe (wipeE env vs)) D0 i H')
          (lc_begin fit1 I1 hD k) (fun i H' _ C => ?_) (fun i x H' hx C => ?_) (fun H' C => ?_)
        · obtain ⟨F2, ys, ws, S2, fit2, _, s2, _⟩ := C.ex
          refine SqL_of (h1.elim (fun q => fit2.f _ _ (s2 _ _ q)) fun q => fit2.o _ _ (same_upd nO _ _ q))
        · obtain ⟨d, e1, e2⟩ := Dens.get h2 hx
          rw [drop_at e1] at C
          have hlt := (List.getElem?_eq_some_iff.mp e1).1
          exact lc_turn ht P1 nO e2 hvs hjs (by omega) C
        · rw [← h2.length, List.drop_length] at C
          exact lc_end nO nF z C
      | tup ds =>
        refine .inr ⟨F0, O0, F, O, env, S, P, ?_⟩
        rw [hr] at hb ⊢
        intro F1 H1 s1 fit1 I1 v hv
        have k := hb F1 H1 s1 fit1 I1
        obtain ⟨a, us, rfl, h1, z, h2⟩ := hv
        rw [hK] at h1
        refine ⟨a, rfl, ⟨us, sqT_mono fit1.f h1⟩, fun D0 hD => ?_⟩
        have nO := upd_none fit1.o hD
        have nF := upd_none fit1.f hD
        have P1 := P.grow s1 fit1 I1
        refine lc_tup (K := X.K) (xs := us) (fun i H' => Cmp b E O F1 σ (wipeE env vs) (fun d S' F' H' => ∀ p o, H' p = none → ObjD b.c F' d o → Q (.ref p) (upd H' p o)) (ds.drop i) (compM set test fe (wipeE env vs)) D0 i H')
          (lc_begin fit1 I1 hD k) (fun i H' _ C => ?_) (fun i x H' hx C => ?_) (fun H' C => ?_)
        · obtain ⟨F2, ys, ws, S2, fit2, _, s2, _⟩ := C.ex
          exact sqT_mono fit2.f (sqT_mono s2 h1)
        · obtain ⟨d, e1, e2⟩ := Dens.get h2 hx
          rw [drop_at e1] at C
          have hlt := (List.getElem?_eq_some_iff.mp e1).1
          exact lc_turn ht P1 nO e2 hvs hjs (by omega) C
        · rw [← h2.length, List.drop_length] at C
          exact lc_end nO nF z C
      | scr ns =>
        refine .inl ⟨F0, O0, F, O, env, S, P, ?_⟩
        rw [hr] at hb ⊢
        intro F1 H1 s1 fit1 I1 v hv
        have k := hb F1 H1 s1 fit1 I1
        by_cases hz : ns.length ≤ 1000000
        · simp only [if_pos hz] at k
          obtain ⟨a, rfl, h1⟩ := hv
          rw [hK] at h1
          have h2 : Dens b.c F1 (ns.map D.int) (ns.map V.int) := Dens.of_ints ns
          have z : (ns.map D.int).length ≤ sizeLine := by rw [List.length_map]; exact Nat.le_trans hz million
          refine ⟨a, rfl, ⟨_, fit1.f.seq h1⟩, fun D0 hD => ?_⟩
          have nO := upd_none fit1.o hD
          have nF := upd_none fit1.f hD
          have P1 := P.grow s1 fit1 I1
          refine lc_list (K := X.K) (xs := ns.map V.int) (fun i H' => Cmp b E O F1 σ (wipeE env vs) (fun d S' F' H' => ∀ p o, H' p = none → ObjD b.c F' d o → Q (.ref p) (upd H' p o)) ((ns.map D.int).drop i) (compM set test fe (wipeE env vs)) D0 i H')
            (lc_begin fit1 I1 hD k) (fun i H' _ C => ?_) (fun i x H' hx C => ?_) (fun H' C => ?_)
          · obtain ⟨F2, ys, ws, S2, fit2, _, s2, _⟩ := C.ex
            exact fit2.f.seq (s2.seq h1)
          · obtain ⟨d, e1, e2⟩ := Dens.get h2 hx
            rw [drop_at e1] at C
            have hlt := (List.getElem?_eq_some_iff.mp e1).1
            exact lc_turn ht P1 nO e2 hvs hjs (by omega) C
          · rw [← h2.length, List.drop_length] at C
            exact lc_end nO nF z C
        · simp only [if_neg hz] at k
          exact False.elim k
      | _ =>
        refine .inl ⟨F0, O0, F, O, env, S, P, ?_⟩
        rw [hr] at hb ⊢
        exact fun F1 H1 s1 fit1 I1 v hv => False.elim (hb F1 H1 s1 fit1 I1)
theorem n_lc {vs : List Nat} (hK : b.c.K = X.K) (ht : Tgt b X.K gt set js) (hvs : vs.all (fun i => !b.own.contains i) = true) (hjs : js.all (fun j => vs.contains j) = true)
    (h : ∀ wi, PI X tg iter wi → PE X e (tLc wi gt (tT b XF test) (tE b XF fe) vs)) (hi : PE X iter (tB b E f)) : PE X e (tN b E (lcM set f test fe vs)) :=
  PE.imp (PE.or (h _ (pi_list hi)) (h _ (pi_tup hi))) (lc_imp hK ht hvs hjs)
theorem PS.or {st : Stmt} {t1 t2 : TS} (h1 : PS X st t1) (h2 : PS X st t2) : PS X st (fun D σ H => t1 D σ H ∨ t2 D σ H) := ⟨fun pins s σ H D I h => h.elim (h1.run pins s σ H D I) (h2.run pins s σ H D I)⟩
theorem s_lcO {st : Stmt} {vs : List Nat} (i : Nat) (ho : b.own.contains i = true) (hK : b.c.K = X.K) (ht : Tgt b X.K gt set js) (hvs : vs.all (fun i => !b.own.contains i) = true) (hjs : js.all (fun j => vs.contains j) = true)
    (h : ∀ wi, PI X tg iter wi → PS X st (tAsg (tLc wi gt (tT b XF test) (tE b XF fe) vs) (gName i))) (hi : PE X iter (tB b E f)) : PS X st (tS b E (asgS i (lcM set f test fe vs))) :=
  PS.imp (PS.or (h _ (pi_list hi)) (h _ (pi_tup hi))) fun Dn σ H ⟨F0, O0, F, O, env, S, P, h⟩ => lc_imp hK ht hvs hjs σ H _ ⟨F0, O0, F, O, env, S, P, (PostS.bind h P.f0 P.o0).imp fun d S1 F1 H1 s1 fit1 I1 k p o hp hd => k _ F1 _ _ ((P.grow s1 fit1 I1).setO (by simpa using ho) hp hd)⟩
theorem nE_imp {g : ME} : ∀ σ H Q, tE b E g σ H Q → tN b E g σ H Q := fun σ H Q ⟨F0, O0, F, O, env, S, P, h⟩ => ⟨F0, O0, F, O, env, S, P, by
  revert h
  cases hr : g env S with
  | ok r =>
    obtain ⟨d, S'⟩ := r
    intro h F' H' s fit I p o hp ho
    have nF := upd_none fit.f hp
    exact h (upd F' p o) (upd H' p o) (s.trans (same_upd nF)) (fit.new hp ho.ld.nt) (I.mono (same_upd nF)) _ (ho.den nF)
  | exc n f fs S' => exact fun h => h
  | bad => exact fun h => h⟩
theorem s_lc {st : Stmt} {vs : List Nat} (i : Nat) (ho : b.own.contains i = false) (hK : b.c.K = X.K) (ht : Tgt b X.K gt set js) (hvs : vs.all (fun i => !b.own.contains i) = true) (hjs : js.all (fun j => vs.contains j) = true)
    (h : ∀ wi, PI X tg iter wi → PS X st (tAsg (tLc wi gt (tT b XF test) (tE b XF fe) vs) (gName i))) (hi : PE X iter (tB b E f)) : PS X st (tS b E (asgS i (lcM set f test fe vs))) :=
  PS.imp (PS.or (h _ (pi_list hi)) (h _ (pi_tup hi))) fun Dn σ H ⟨F0, O0, F, O, env, S, P, h⟩ => lc_imp hK ht hvs hjs σ H _ (nE_imp σ H _ ⟨F0, O0, F, O, env, S, P, (PostS.bind h P.f0 P.o0).imp fun d S1 F1 H1 s1 fit1 I1 k v hv => k _ F1 O H1 ((P.grow s1 fit1 I1).set (by simpa using ho) hv)⟩)
end
end VS
namespace VS
open PySem PySem.Spec PyProof.Rows L2
def keyD : D → Option Key
  | .int i => some (.inl i)
  | .str x => some (.inr x)
  | _ => none
def dlook : List Key → List D → Key → Option D
  | k' :: ks, x :: xs, k => if k' = k then some x else dlook ks xs k
  | _, _, _ => none
def drepl : List Key → List D → Key → D → List D
  | k' :: ks, x :: xs, k, d => (if k' = k then d else x) :: drepl ks xs k d
  | _, _, _, _ => []
def dhas (ks : List Key) (k : Key) : Bool := ks.any fun k' => decide (k' = k)
def dputK (ks : List Key) (k : Key) : List Key := if dhas ks k = true then ks else ks ++ [k]
def dputV (ks : List Key) (xs : List D) (k : Key) (d : D) : List D := if dhas ks k = true then drepl ks xs k d else xs ++ [d]
section
variable {c : Dc} {F : Hp}
theorem dlook_val : ∀ {kv : List (Key × V)} {ks : List Key} {xs : List D} {k : Key}, kv.map (·.1) = ks → Dens c F xs (kv.map (·.2)) → (∀ d, dlook ks xs k = some d → ∃ v, valV kv k = some v ∧ Den c F d v) ∧ (dlook ks xs k = none → valV kv k = none)
  | [], _, xs, k, h1, h2 => by
    cases h1
    exact ⟨fun d h => by simp [dlook] at h, fun _ => rfl⟩
  | (k0, v0) :: kv, _, [], k, h1, h2 => by simp [Dens] at h2
  | (k0, v0) :: kv, _, x :: xs, k, h1, h2 => by
    cases h1
    simp only [List.map_cons, Dens, List.cons.injEq] at h2
    obtain ⟨v, r, ⟨rfl, rfl⟩, h3, h4⟩ := h2
    have ih := dlook_val (kv := kv) (k := k) rfl h4
    simp only [dlook, List.map_cons]
    by_cases e : k0 = k
    · rw [if_pos e]
      exact ⟨fun d q => ⟨v0, valV_pos e, by cases q; exact h3⟩, fun q => by cases q⟩
    · rw [if_neg e, valV_neg e]
      exact ih
end
def gGet2 : D → D → D → Option D
  | .dct ks xs, k, x => (keyD k).map fun k => (dlook ks xs k).getD x
  | _, _, _ => none
def get2M (f1 f2 f3 : ME) : ME := fun env S => bindM (f1 env S) fun d S1 => match d with
  | .dct ks xs => bindM (f2 env S1) fun k S2 => bindM (f3 env S2) fun x S3 => ofO (gGet2 (.dct ks xs) k x) S3
  | _ => .bad
end VS
namespace VS
open PySem PySem.Spec PyProof.Rows L2
end VS
namespace VS
open PySem PySem.Spec PyProof.Rows L2
structure KlsAt (K : PySem.W.Frag) (mg : Str → Option Value) (n : Str) (C : Addr) : Prop where
  g : mg n = some (.ref C)
  x : PySem.W.excIn K C [.type "ValueError", .type "Exception", .type "BaseException", .type "object"] "ValueError.__new__" = true
  k : PySem.W.keepIn K (.ref C) = true
  b : PySem.W.subIn K (.ref C) (.type "BaseException") = some true
  t : PySem.W.typeIn K (.ref C) = some (.type "type")
end VS
namespace VS
open PySem PySem.Spec PyProof.Rows L2
section
variable {b : Bc} {F0 O0 F O H : Hp} {σ : L2.St} {env : Env} {S : DS}
theorem Pre.chg {i : Nat} {a : Addr} {d d' : D} {o o' : HO} (P : Pre b F0 O0 F O H σ env S) (hi : i ∈ b.own) (he : env[i]? = some (some d)) (ha : σ[i]? = some (some (.ref a))) (hO : O a = some o) (hd : ObjD b.c F d' o') :
    Pre b F0 O0 F (upd O a o') (upd H a o') σ (env.set i (some d')) S := by
  obtain ⟨a', h1, _, hO0⟩ := P.slotO i d he hi
  rw [ha] at h1
  cases h1
  refine ⟨P.fit.setO hO hd.ld, P.f0, fun c u q => ?_, P.inv, fun j e h n => ?_, fun j e h n => ?_, fun j k x hj hk e1 e2 h1 h2 => ?_, by simp [P.len]⟩
  · have ne : c ≠ a := fun z => by subst z; rw [hO0] at q; cases q
    rw [upd_ne ne]; exact P.o0 c u q
  · have ne : j ≠ i := fun z => n (z ▸ hi)
    rw [set_ne' ne] at h
    exact P.slot j e h n
  · rcases get_set h with ⟨rfl, q, _⟩ | ⟨ne, h⟩
    · cases q
      exact ⟨a, ha, hd.own upd_same, hO0⟩
    · obtain ⟨x, h1, h2, h3⟩ := P.slotO j e h n
      have nx : x ≠ a := fun z => ne (P.sep j i a n hi ⟨_, h⟩ ⟨_, he⟩ (z ▸ h1) ha)
      exact ⟨x, h1, h2.mono (Same.refl _) (fun u q => by rw [upd_ne nx]; exact q), h3⟩
  · have back : ∀ m, (∃ e : D, (env.set i (some d'))[m]? = some (some e)) → ∃ e : D, env[m]? = some (some e) := fun m h => by
      obtain ⟨e, q⟩ := h
      rcases get_set q with ⟨rfl, _, _⟩ | ⟨_, q⟩
      · exact ⟨d, he⟩
      · exact ⟨e, q⟩
    exact P.sep j k x hj hk (back j e1) (back k e2) h1 h2
theorem Pre.lstAt {i : Nat} {ds : List D} (P : Pre b F0 O0 F O H σ env S) (hi : i ∈ b.own) (he : env[i]? = some (some (.lst ds))) : ∃ a vs, σ[i]? = some (some (.ref a)) ∧ O a = some (.lst vs) ∧ H a = some (.lst vs) ∧ ds.length ≤ sizeLine ∧ Dens b.c F ds vs := by
  obtain ⟨a, h1, ⟨vs, h2, h3, h4⟩, _⟩ := P.slotO i _ he hi
  exact ⟨a, vs, h1, h2, P.fit.o _ _ h2, h3, h4⟩
end
section
variable {X : Cx} {b : Bc} {E : XK} {e e1 e2 : Expr} {es : List Expr} {st : Stmt} {f f1 f2 : ME} {pos : Pos}
def appS (i : Nat) (f : ME) : MS := fun env S => match env[i]? with
  | some (some (.lst ds)) => bindM (f env S) fun d S1 => if ds.length < 1000000 then .ok (.nx (env.set i (some (.lst (ds ++ [d])))), S1) else .bad
  | _ => .bad
theorem s_app (i : Nat) (ho : b.own.contains i = true) (h : ∀ te, PE X e te → PS X st (tDrop (tBM X.K "list" rAppend (tVar i) (tCons te tNil)))) (he : PE X e (tE b E f)) : PS X st (tS b E (appS i f)) :=
  PS.imp (h _ he) fun Dn σ H ⟨F0, O0, F, O, env, S, P, h⟩ => by
    have hi : i ∈ b.own := by simpa using ho
    unfold appS at h
    split at h
    · rename_i ds hg
      obtain ⟨a, vs, h1, h2, h3, hz, hd⟩ := P.lstAt hi hg
      refine ⟨_, h1, .inl ⟨rfl, vs, SqL_of h3⟩, F0, O0, F, O, env, S, P, (PostS.bind h P.f0 P.o0).imp fun d S1 F1 H1 s1 fit1 I1 k v hv => ?_⟩
      by_cases hz : ds.length < 1000000
      · rw [if_pos hz] at k
        have P1 := P.grow s1 fit1 I1
        have hd1 := Dens.mono s1 _ _ hd
        have hm := million
        refine ⟨a, vs, v, rfl, rfl, fit1.o _ _ h2, by rw [← hd1.length]; omega, ?_⟩
        refine k σ F1 _ _ (P1.chg hi hg h1 h2 (d' := .lst (ds ++ [d])) ⟨_, rfl, ?_, hd1.append (Dens.one hv)⟩)
        rw [List.length_append, List.length_singleton]
        omega
      · rw [if_neg hz] at k
        exact False.elim k
    · exact False.elim h
def popM (i : Nat) (fj : ME) (k : D → Env → DS → Res (Fl × DS)) : MS := fun env S => match env[i]? with
  | some (some (.lst ds)) => bindM (fj env S) fun j S1 => match j with
    | .int j => if -1000000 ≤ j ∧ j ≤ 1000000 then (match seqIndex? j ds.length with
      | some m => (match ds[m]? with
        | some d => k d (env.set i (some (.lst (ds.eraseIdx m)))) S1
        | none => .bad)
      | none => .bad) else .bad
    | _ => .bad
  | _ => .bad
def nxSet (j : Nat) : D → Env → DS → Res (Fl × DS) := fun d env S => .ok (.nx (env.set j (some d)), S)
def nxUnp (is : List Nat) : D → Env → DS → Res (Fl × DS) := fun d env S => match d with
  | .tup ds => if ds.length = is.length then .ok (.nx (setAll env is ds), S) else .bad
  | _ => .bad
def parOS (i j : Nat) (f1 f2 : ME) : MS := fun env S => bindM (f1 env S) fun d S1 => bindM (f2 env S1) fun e S2 => .ok (.nx ((env.set i (some d)).set j (some e)), S2)
theorem Pre.frz {F0 O0 F O H : Hp} {σ : L2.St} {env : Env} {S : DS} (i : Nat) (P : Pre b F0 O0 F O H σ env S) : ∃ F' O', Same F F' ∧ Pre { b with own := b.own.filter (· != i) } F0 O0 F' O' H σ env S := by
  have mem : ∀ {j}, j ∈ b.own.filter (· != i) ↔ j ∈ b.own ∧ j ≠ i := fun {j} => by simp
  by_cases hi : i ∈ b.own
  · cases he : env[i]? with
    | none =>
      refine ⟨F, O, Same.refl _, P.fit, P.f0, P.o0, P.inv, fun j d h n => P.slot j d h fun q => ?_, fun j d h n => P.slotO j d h (mem.mp n).1, fun j k a hj hk => P.sep j k a (mem.mp hj).1 (mem.mp hk).1, P.len⟩
      by_cases z : j = i
      · subst z; rw [he] at h; cases h
      · exact n (mem.mpr ⟨q, z⟩)
    | some od =>
      cases od with
      | none =>
        refine ⟨F, O, Same.refl _, P.fit, P.f0, P.o0, P.inv, fun j d h n => P.slot j d h fun q => ?_, fun j d h n => P.slotO j d h (mem.mp n).1, fun j k a hj hk => P.sep j k a (mem.mp hj).1 (mem.mp hk).1, P.len⟩
        by_cases z : j = i
        · subst z; rw [he] at h; cases h
        · exact n (mem.mpr ⟨q, z⟩)
      | some d =>
        obtain ⟨a, h1, h2, h3⟩ := P.slotO i d he hi
        have ex : ∃ o, O a = some o ∧ ObjD b.c F d o := by
          cases d with
          | lst ds => obtain ⟨vs, q, hz, r⟩ := h2; exact ⟨_, q, vs, rfl, hz, r⟩
          | dct ks ds => obtain ⟨kv, q, hz, r⟩ := h2; exact ⟨_, q, kv, rfl, hz, r⟩
          | _ => exact False.elim h2
        obtain ⟨o, ho', hd⟩ := ex
        have nF : F a = none := P.fit.fo a (by rw [ho']; simp)
        have sF : Same F (upd F a o) := same_upd nF
        refine ⟨upd F a o, del O a, sF, P.fit.freeze ho', P.f0.trans sF, fun c u q => ?_, P.inv.mono sF, fun j e h n => ?_, fun j e h n => ?_, fun j k x hj hk => P.sep j k x (mem.mp hj).1 (mem.mp hk).1, P.len⟩
        · have ne : c ≠ a := fun z => by subst z; rw [h3] at q; cases q
          unfold del
          rw [if_neg ne]
          exact P.o0 c u q
        · by_cases z : j = i
          · subst z
            rw [he] at h
            cases h
            exact ⟨_, h1, hd.den nF⟩
          · obtain ⟨v, q1, q2⟩ := P.slot j e h fun q => n (mem.mpr ⟨q, z⟩)
            exact ⟨v, q1, Den.mono sF _ _ q2⟩
        · obtain ⟨hj, z⟩ := mem.mp n
          obtain ⟨x, q1, q2, q3⟩ := P.slotO j e h hj
          have nx : x ≠ a := fun y => z (P.sep j i a hj hi ⟨_, h⟩ ⟨_, he⟩ (y ▸ q1) h1)
          exact ⟨x, q1, q2.mono sF (fun u q => by unfold del; rw [if_neg nx]; exact q), q3⟩
  · have e : b.own.filter (· != i) = b.own := by
      rw [List.filter_eq_self]
      intro j hj
      have : j ≠ i := fun z => hi (z ▸ hj)
      simpa using this
    refine ⟨F, O, Same.refl _, ?_⟩
    rw [e]
    exact P
end
end VS
namespace VS
open PySem PySem.Spec PyProof.Rows L2
section
variable {X : Cx} {b : Bc} {E : XK} {e e1 e2 : Expr} {es : List Expr} {st : Stmt} {f f1 f2 : ME} {pos : Pos} {c : Dc}
theorem n_d0 (h : PE X e tDNewK) : PE X e (tN b E (cM (.dct [] []))) := PE.imp h fun σ H Q ⟨F0, O0, F, O, env, S, P, h⟩ p hp => h F H (Same.refl _) P.fit P.inv p (.dK []) hp ⟨[], rfl, rfl, rfl⟩
end
end VS
namespace VS
open PySem PySem.Spec PyProof.Rows L2
abbrev kLarge : Key := Sum.inr "large"
abbrev kCells : Key := Sum.inr "cells"
abbrev kLeft : Key := Sum.inr "left"
abbrev kTurn : Key := Sum.inr "turn"
def stKV (l : Lay) (S : DS) : List (Key × V) := [(kLarge, .ref l.la), (kCells, .ref l.ca), (kLeft, .int S.left), (kTurn, .int S.turn)]
theorem kne : kLarge ≠ kCells ∧ kLarge ≠ kLeft ∧ kLarge ≠ kTurn ∧ kCells ≠ kLeft ∧ kCells ≠ kTurn ∧ kLeft ≠ kTurn := by decide +kernel
theorem val_large (l : Lay) (S : DS) : valV (stKV l S) kLarge = some (.ref l.la) := valV_pos rfl
theorem val_cells (l : Lay) (S : DS) : valV (stKV l S) kCells = some (.ref l.ca) := (valV_neg kne.1).trans (valV_pos rfl)
theorem val_left (l : Lay) (S : DS) : valV (stKV l S) kLeft = some (.int S.left) := (valV_neg kne.2.1).trans ((valV_neg kne.2.2.2.1).trans (valV_pos rfl))
theorem val_turn (l : Lay) (S : DS) : valV (stKV l S) kTurn = some (.int S.turn) := (valV_neg kne.2.2.1).trans ((valV_neg kne.2.2.2.2.1).trans ((valV_neg kne.2.2.2.2.2).trans (valV_pos rfl)))
theorem put_left (l : Lay) (S : DS) (n : Int) : putK (stKV l S) kLeft (.int n) = stKV l { S with left := n } := by
  unfold putK stKV
  rw [if_pos (by simp)]
  simp only [List.map_cons, List.map_nil, if_neg kne.2.1, if_neg kne.2.2.2.1, if_pos, if_neg (Ne.symm kne.2.2.2.2.2)]
theorem put_turn (l : Lay) (S : DS) (n : Int) : putK (stKV l S) kTurn (.int n) = stKV l { S with turn := n } := by
  unfold putK stKV
  rw [if_pos (by simp)]
  simp only [List.map_cons, List.map_nil, if_neg kne.2.2.1, if_neg kne.2.2.2.2.1, if_pos, if_neg kne.2.2.2.2.2]
theorem stT_sa {l : Lay} {S : DS} {T0 : Hp} : stT l S T0 l.sa = some (.dK (stKV l S)) := if_pos rfl
theorem stT_la {l : Lay} {S : DS} {T0 : Hp} (h : l.sa ≠ l.la) : stT l S T0 l.la = some (.lst (S.large.map V.int)) := (if_neg h.symm).trans (if_pos rfl)
theorem stT_putSa {l : Lay} {S S' : DS} {T0 : Hp} (h : l.sa ≠ l.la) (hl : S'.large = S.large) : upd (stT l S T0) l.sa (.dK (stKV l S')) = stT l S' T0 := by
  funext a
  by_cases e : a = l.sa
  · subst e; rw [upd_same, stT_sa]
  · rw [upd_ne e]; unfold stT; rw [if_neg e, if_neg e, hl]
theorem stT_putLa {l : Lay} {S S' : DS} {T0 : Hp} (h : l.sa ≠ l.la) (h1 : S'.left = S.left) (h2 : S'.turn = S.turn) : upd (stT l S T0) l.la (.lst (S'.large.map V.int)) = stT l S' T0 := by
  funext a
  by_cases e : a = l.la
  · subst e; rw [upd_same, stT_la h]
  · rw [upd_ne e]; unfold stT; rw [if_neg e, if_neg e, h1, h2]
theorem Fits.setT {F O T H : Hp} {p : Addr} {o o' : HO} (h : Fits F O T H) (n : T p = some o) : Fits F O (upd T p o') (upd H p o') where
  t := fun b u e => by
    by_cases hb : b = p
    · subst hb; rw [upd_same] at e ⊢; exact e
    · rw [upd_ne hb] at e ⊢; exact h.t b u e
  f := fun b u e => by
    have nb : b ≠ p := fun z => by subst z; rw [h.ft b (by rw [n]; simp)] at e; cases e
    rw [upd_ne nb]; exact h.f b u e
  o := fun b u e => by
    have nb : b ≠ p := fun z => by subst z; rw [h.ot b (by rw [n]; simp)] at e; cases e
    rw [upd_ne nb]; exact h.o b u e
  fo := h.fo
  ft := fun a q => by
    by_cases hb : a = p
    · subst hb; exact h.ft a (by rw [n]; simp)
    · rw [upd_ne hb] at q; exact h.ft a q
  ot := fun a q => by
    by_cases hb : a = p
    · subst hb; exact h.ot a (by rw [n]; simp)
    · rw [upd_ne hb] at q; exact h.ot a q
  nt := h.nt
  ld := h.ld
section
variable {b : Bc} {F0 O0 F O H : Hp} {σ : L2.St} {env : Env} {S : DS}
theorem Pre.atSa (P : Pre b F0 O0 F O H σ env S) (hs : b.stf = true) : H b.c.l.sa = some (.dK (stKV b.c.l S)) := by
  obtain ⟨T0, tp, fit⟩ := P.fit
  unfold Bc.T at fit
  rw [if_pos hs] at fit
  exact fit.t _ _ stT_sa
theorem Pre.atLa (P : Pre b F0 O0 F O H σ env S) (hs : b.stf = true) : H b.c.l.la = some (.lst (S.large.map V.int)) := by
  obtain ⟨T0, tp, fit⟩ := P.fit
  unfold Bc.T at fit
  rw [if_pos hs] at fit
  exact fit.t _ _ (stT_la (P.inv hs).1)
theorem Pre.setSa {S' : DS} (P : Pre b F0 O0 F O H σ env S) (hs : b.stf = true) (h1 : S'.large = S.large) (h2 : S'.cells = S.cells) : Pre b F0 O0 F O (upd H b.c.l.sa (.dK (stKV b.c.l S'))) σ env S' := by
  refine ⟨?_, P.f0, P.o0, fun q => by have := P.inv q; unfold stI at this ⊢; rw [h1, h2]; exact this, P.slot, P.slotO, P.sep, P.len⟩
  obtain ⟨T0, tp, fit⟩ := P.fit
  refine ⟨T0, tp, ?_⟩
  unfold Bc.T at fit ⊢
  rw [if_pos hs] at fit ⊢
  rw [← stT_putSa (P.inv hs).1 h1]
  exact fit.setT stT_sa
theorem Pre.setLa {S' : DS} (P : Pre b F0 O0 F O H σ env S) (hs : b.stf = true) (h1 : S'.left = S.left) (h2 : S'.turn = S.turn) (h3 : S'.cells = S.cells) (hl : S'.large.length ≤ S.large.length) : Pre b F0 O0 F O (upd H b.c.l.la (.lst (S'.large.map V.int))) σ env S' := by
  refine ⟨?_, P.f0, P.o0, fun q => by have := P.inv q; unfold stI at this ⊢; rw [h3]; exact ⟨this.1, this.2.1, this.2.2.1, Nat.le_trans hl this.2.2.2⟩, P.slot, P.slotO, P.sep, P.len⟩
  obtain ⟨T0, tp, fit⟩ := P.fit
  refine ⟨T0, tp, ?_⟩
  unfold Bc.T at fit ⊢
  rw [if_pos hs] at fit ⊢
  rw [← stT_putLa (P.inv hs).1 h1 h2]
  exact fit.setT (stT_la (P.inv hs).1)
theorem Pre.atSt {i : Nat} (P : Pre b F0 O0 F O H σ env S) (ho : b.own.contains i = false) (h : env[i]? = some (some .st)) : σ[i]? = some (some (.ref b.c.l.sa)) := by
  obtain ⟨v, h1, h2⟩ := P.slot i _ h (by simpa using ho)
  simp only [Den] at h2
  rw [h1, h2]
end
section
variable {X : Cx} {b : Bc} {E : XK} {e e1 e2 o : Expr} {es : List Expr} {st : Stmt} {f f1 f2 : ME} {pos : Pos} {c : Dc}
def stM (i : Nat) (k : DS → D) : ME := fun env S => match env[i]? with | some (some .st) => .ok (k S, S) | _ => .bad
theorem e_stI (i : Nat) (x : Str) (n : DS → Int) (hx : ∀ l S, valV (stKV l S) (Sum.inr x) = some (.int (n S))) (hs : b.stf = true) (ho : b.own.contains i = false) (h : PE X e (tDGet (tVar i) (tC (.str x)))) : PE X e (tE b E (stM i fun S => .int (n S))) := PE.imp h fun σ H Q ⟨F0, O0, F, O, env, S, P, h⟩ => by
  unfold stM at h
  split at h
  · rename_i hg
    exact ⟨_, P.atSt ho hg, _, _, rfl, by rw [← hx b.c.l S]; exact DGet.k (k := Sum.inr x) (P.atSa hs), h F H (Same.refl _) P.fit P.inv _ rfl⟩
  · exact False.elim h
theorem e_left (i : Nat) (hs : b.stf = true) (ho : b.own.contains i = false) (h : PE X e (tDGet (tVar i) (tC (.str "left")))) : PE X e (tE b E (stM i fun S => .int S.left)) := e_stI i "left" (·.left) val_left hs ho h
theorem e_turn (i : Nat) (hs : b.stf = true) (ho : b.own.contains i = false) (h : PE X e (tDGet (tVar i) (tC (.str "turn")))) : PE X e (tE b E (stM i fun S => .int S.turn)) := e_stI i "turn" (·.turn) val_turn hs ho h
theorem e_cells (i : Nat) (hs : b.stf = true) (ho : b.own.contains i = false) (h : PE X e (tDGet (tVar i) (tC (.str "cells")))) : PE X e (tE b E (stM i fun S => .lst (S.cells.map D.int))) := PE.imp h fun σ H Q ⟨F0, O0, F, O, env, S, P, h⟩ => by
  unfold stM at h
  split at h
  · rename_i hg
    have I := P.inv hs
    have hm := million
    exact ⟨_, P.atSt ho hg, _, _, rfl, by rw [← val_cells b.c.l S]; exact DGet.k (k := kCells) (P.atSa hs), h F H (Same.refl _) P.fit P.inv _ ⟨_, _, rfl, I.2.1, by rw [List.length_map]; exact Nat.le_trans I.2.2.1 (Nat.le_trans (by decide) hm), Dens.of_ints _⟩⟩
  · exact False.elim h
theorem shaped_ints (ns : List Int) : SeqAt.shaped (.list (ns.map PyData.int)) = true := by
  have h1 : ∀ ns : List Int, PyData.canLayAll0 (ns.map PyData.int) = true := fun ns => by induction ns with
    | nil => rfl
    | cons n ns ih => simp only [List.map_cons, PyData.canLayAll0, PyData.canLay0, ih, Bool.and_self]
  have h2 : ∀ ns : List Int, PyData.depthAll (ns.map PyData.int) = 0 := fun ns => by induction ns with
    | nil => rfl
    | cons n ns ih => simp only [List.map_cons, PyData.depthAll, PyData.depth, ih, Nat.max_self]
  unfold SeqAt.shaped
  simp only [PyData.canLay0, h1, PyData.depth, h2, Bool.true_and]
  decide
theorem dp_ints {K : PySem.W.Frag} {H : Hp} : ∀ ns : List Int, DpAll K H (ns.map V.int) (ns.map PyData.int)
  | [] => .nil
  | n :: ns => .cons (.int n) (dp_ints ns)
theorem pe_l0 : PE X (.List [] pos) (fun σ H Q => ∀ p, H p = none → Q (.ref p) (upd H p (.lst []))) := PE.imp (pe_lst pa_nil) fun σ H Q k => ⟨Nat.zero_le _, k⟩
def largeT (i : Nat) : MT := fun env S => match env[i]? with | some (some .st) => .ok (!S.large.isEmpty, S) | _ => .bad
theorem t_large (i : Nat) (hs : b.stf = true) (ho : b.own.contains i = false) (h : PT X e (tTest (tOp (rNeD b.c.K) (tDGet (tVar i) (tC (.str "large"))) (fun σ H Q => ∀ p, H p = none → Q (.ref p) (upd H p (.lst [])))))) : PT X e (tT b E (largeT i)) := PT.imp h fun σ H Q ⟨F0, O0, F, O, env, S, P, h⟩ => by
  unfold largeT at h
  split at h
  · rename_i hg
    refine ⟨_, P.atSt ho hg, _, _, rfl, by rw [← val_large b.c.l S]; exact DGet.k (k := kLarge) (P.atSa hs), fun p hp => ?_⟩
    have hla := P.atLa hs
    have np : b.c.l.la ≠ p := ne_of_none hla hp
    have nF := upd_none P.fit.f hp
    refine ⟨.list (S.large.map PyData.int), .list [], .lst (SqL_of (by rw [upd_ne np]; exact hla)) (dp_ints _), .lst (SqL_of upd_same) .nil, shaped_ints _, shaped_ints [], _, rfl, ?_⟩
    have e : (!PyData.eqv (.list (S.large.map PyData.int)) (.list [])) = !S.large.isEmpty := by cases S.large <;> rfl
    rw [e]
    exact h (upd F p (.lst [])) _ (same_upd nF) (P.fit.new hp) (P.inv.mono (same_upd nF))
  · exact False.elim h
def leftS (i : Nat) (f : ME) : MS := fun env S => bindM (f env S) fun d S1 => match d, env[i]? with | .int n, some (some .st) => .ok (.nx env, { S1 with left := n }) | _, _ => .bad
def turnS (i : Nat) (f : ME) : MS := fun env S => bindM (f env S) fun d S1 => match d, env[i]? with | .int n, some (some .st) => .ok (.nx env, { S1 with turn := n }) | _, _ => .bad
theorem stKV_len (l : Lay) (S : DS) : (stKV l S).length < sizeLine := Nat.lt_of_lt_of_le (by decide : 4 < 1000000) million
theorem s_left (i : Nat) (hs : b.stf = true) (ho : b.own.contains i = false) (h : ∀ te, PE X e te → PS X st (tAsg te (L2.gSub (tVar i) (tC (.str "left")) rSetD))) (he : PE X e (tE b E f)) : PS X st (tS b E (leftS i f)) :=
  PS.imp (h _ he) fun Dn σ H ⟨F0, O0, F, O, env, S, P, h⟩ => ⟨F0, O0, F, O, env, S, P, (PostS.bind h P.f0 P.o0).imp fun d S1 F1 H1 s1 fit1 I1 k v hv => by
    have P1 := P.grow s1 fit1 I1
    split at k
    · rename_i n hg
      simp only [Den] at hv
      subst hv
      refine ⟨_, P1.atSt ho hg, ?_⟩
      show rSetD _ _ _ _ _
      unfold rSetD
      refine ⟨_, _, rfl, DPut.k (k := kLeft) (P1.atSa hs) (stKV_len _ _), ?_⟩
      rw [put_left]
      exact k _ F1 O _ (P1.setSa hs rfl rfl)
    · exact False.elim k⟩
theorem s_turn (i : Nat) (hs : b.stf = true) (ho : b.own.contains i = false) (h : ∀ te, PE X e te → PS X st (tAsg te (L2.gSub (tVar i) (tC (.str "turn")) rSetD))) (he : PE X e (tE b E f)) : PS X st (tS b E (turnS i f)) :=
  PS.imp (h _ he) fun Dn σ H ⟨F0, O0, F, O, env, S, P, h⟩ => ⟨F0, O0, F, O, env, S, P, (PostS.bind h P.f0 P.o0).imp fun d S1 F1 H1 s1 fit1 I1 k v hv => by
    have P1 := P.grow s1 fit1 I1
    split at k
    · rename_i n hg
      simp only [Den] at hv
      subst hv
      refine ⟨_, P1.atSt ho hg, ?_⟩
      show rSetD _ _ _ _ _
      unfold rSetD
      refine ⟨_, _, rfl, DPut.k (k := kTurn) (P1.atSa hs) (stKV_len _ _), ?_⟩
      rw [put_turn]
      exact k _ F1 O _ (P1.setSa hs rfl rfl)
    · exact False.elim k⟩
def popLS (i : Nat) : MS := fun env S => match env[i]?, S.large with | some (some .st), n :: ns => .ok (.nx env, { S with left := n, large := ns }) | _, _ => .bad
theorem s_popL (i : Nat) (hs : b.stf = true) (ho : b.own.contains i = false) (h : PS X st (tAsg (tBM X.K "list" rPopAt (tDGet (tVar i) (tC (.str "large"))) (tCons (tC (.int 0)) tNil)) (L2.gSub (tVar i) (tC (.str "left")) rSetD))) : PS X st (tS b E (popLS i)) := PS.imp h fun Dn σ H ⟨F0, O0, F, O, env, S, P, h⟩ => by
  unfold popLS at h
  split at h
  · rename_i n ns hg hl
    have hla := P.atLa hs
    have hm := million
    refine ⟨_, P.atSt ho hg, _, _, rfl, by rw [← val_large b.c.l S]; exact DGet.k (k := kLarge) (P.atSa hs), (show tyV X.K "list" (.ref b.c.l.la) H from .inl ⟨rfl, _, SqL_of hla⟩), b.c.l.la, _, 0, 0, .int n, rfl, rfl, hla, by decide, by decide, ?_, by rw [hl]; rfl, ?_⟩
    · rw [hl]
      simp [seqIndex?]
    · have P1 : Pre b F0 O0 F O (upd H b.c.l.la (.lst (ns.map V.int))) σ env { S with large := ns } := P.setLa (S' := { S with large := ns }) hs rfl rfl rfl (by rw [hl]; simp)
      have e : (S.large.map V.int).eraseIdx 0 = ns.map V.int := by rw [hl]; rfl
      rw [e]
      refine ⟨_, P1.atSt ho hg, ?_⟩
      show rSetD _ _ _ _ _
      unfold rSetD
      refine ⟨_, _, rfl, DPut.k (k := kLeft) (P1.atSa hs) (stKV_len _ _), ?_⟩
      rw [put_left]
      exact h _ F O _ (P1.setSa hs rfl rfl)
  · exact False.elim h
def whileS (t : MT) (g : MS) : Nat → MS
  | 0 => fun _ _ => .bad
  | n + 1 => fun env S => bindM (t env S) fun k S1 => if k = true then (match g env S1 with
    | .ok (.nx env', S') => whileS t g n env' S'
    | .ok (.ct env', S') => whileS t g n env' S'
    | .ok (.bk env', S') => .ok (.nx env', S')
    | .ok (.rt d, S') => .ok (.rt d, S')
    | .exc a b c S' => .exc a b c S'
    | .bad => .bad) else .ok (.nx env, S1)
theorem s_while {body : List Stmt} {t : MT} {g : MS} (n : Nat) (hp : PassesOwn (model X.prog X.w) X.A X.env X.xe) (hc : PT X e (tT b E t)) (hb : PSs X body (tS b E g)) : PS X (.While e body [] pos) (tS b E (whileS t g n)) :=
  PS.imp (ps_while hp hc hb) fun Dn σ H ⟨F0, O0, F, O, env, S, P, h⟩ => by
    refine ⟨fun m σ H => ∃ F O env S, Pre b F0 O0 F O H σ env S ∧ PostS b E F0 O0 (whileS t g m env S) Dn, ⟨n, F, O, env, S, P, h⟩, ?_⟩
    rintro m σ H ⟨F, O, env, S, P, h⟩
    cases m with
    | zero => exact False.elim h
    | succ m =>
      refine ⟨F0, O0, F, O, env, S, P, (PostS.bind h P.f0 P.o0).imp fun k S1 F1 H1 s1 fit1 I1 q => ?_⟩
      have P1 := P.grow s1 fit1 I1
      cases k with
      | false => exact iteF (q _ F1 O H1 P1)
      | true =>
        rw [if_pos rfl] at q
        refine iteT ⟨fun σ' H' => ∃ F O env S, Pre b F0 O0 F O H' σ' env S ∧ PostS b E F0 O0 (whileS t g m env S) Dn, fun σ' H' z => ⟨m, Nat.lt_succ_self m, z⟩, F0, O0, F1, O, env, S1, P1, ?_⟩
        revert q
        cases g env S1 with
        | bad => exact fun q => q
        | exc n f fs S' => exact fun q => q
        | ok p =>
          obtain ⟨a, S'⟩ := p
          cases a with
          | nx env' => exact fun q σ' F' O' H' P' => ⟨F', O', env', S', P', q⟩
          | ct env' => exact fun q σ' F' O' H' P' => ⟨F', O', env', S', P', q⟩
          | bk env' => exact fun q => q
          | rt d => exact fun q => q
end
end VS
namespace VS
open PySem PySem.Spec PyProof.Rows L2
end VS
namespace VS
open PySem PySem.Spec PyProof.Rows L2
def reprOk (p : PyData) : Bool := p.showable && !p.hasDict && decide (p.depth ≤ 64) && decide (p.shown.length ≤ 1000000)
def gRepr : List D → Option D
  | [.lst ds] => (toPy (.lst ds)).bind fun p => if reprOk p = true then some (.str p.shown) else none
  | [.tup ds] => (toPy (.tup ds)).bind fun p => if reprOk p = true then some (.str p.shown) else none
  | _ => none
def rRepr (K : PySem.W.Frag) : List V → Hp → VK → Prop := fun vs H Q => ∃ a p, vs = [.ref a] ∧ Dp K H (.ref a) p ∧ reprOk p = true ∧ Q (.str p.shown) H
theorem cr_repr {X : Cx} (hg : X.A.guards = some []) (hu : X.A.units + 100 < cLine) : CallR X (.builtin "repr") (rRepr X.K) := by
  intro pins s σ H vs us Q I r h
  obtain ⟨a, p, rfl, hd, hok, q⟩ := h
  rw [Vals.ref1 r]
  simp only [reprOk, Bool.and_eq_true, Bool.not_eq_true', decide_eq_true_eq] at hok
  obtain ⟨⟨⟨h1, h2⟩, h3⟩, h4⟩ := hok
  obtain ⟨as, rd⟩ := Dp.reads I p (.ref a) (.ref a) hd rfl
  refine repr_of_reads' rd h1 (fun z => by rw [h2] at z; cases z) hg (by omega) (fun b o e => e) (fun h' u tk hk => ?_) (Nat.le_trans h4 million)
  exact ⟨.str p.shown, H, I.kept (t' := tk) hk, ⟨u, rfl⟩, q⟩
theorem r_repr {c : Dc} : RuleN c (rRepr c.K) gRepr := by
  intro F O T H ds vs d' Q fit hv g q
  match ds, g with
  | [.lst ds], g =>
    simp only [gRepr, Option.bind_eq_some_iff] at g
    obtain ⟨p, e, g⟩ := g
    split at g <;> cases g
    rename_i hok
    obtain ⟨v, r, rfl, hd, h⟩ := paired1 hv
    cases paired0 h
    have dp := dpB_of fit hd e
    obtain ⟨a, us, rfl, _⟩ := hd
    exact ⟨a, p, rfl, dp, hok, q _ F H (Same.refl _) fit rfl⟩
  | [.tup ds], g =>
    simp only [gRepr, Option.bind_eq_some_iff] at g
    obtain ⟨p, e, g⟩ := g
    split at g <;> cases g
    rename_i hok
    obtain ⟨v, r, rfl, hd, h⟩ := paired1 hv
    cases paired0 h
    have dp := dpB_of fit hd e
    obtain ⟨a, us, rfl, _⟩ := hd
    exact ⟨a, p, rfl, dp, hok, q _ F H (Same.refl _) fit rfl⟩
end VS
namespace VS
open PySem PySem.Spec PyProof.Rows L2
def pick {α : Type} (π : List Nat) (l : List α) : List α := π.filterMap fun j => l[j]?
theorem Vals.pick {vs : List V} {us : List Value} (h : Vals vs us) : ∀ π : List Nat, Vals (VS.pick π vs) (VS.pick π us)
  | [] => .nil
  | j :: π => by
    unfold VS.pick
    rw [List.filterMap_cons, List.filterMap_cons]
    cases hv : vs[j]? with
    | none =>
      have : us[j]? = none := by
        rw [List.getElem?_eq_none_iff] at hv ⊢
        rw [← h.length]; exact hv
      rw [this]
      exact Vals.pick h π
    | some v =>
      obtain ⟨u, hu, r⟩ := h.get hv
      rw [hu]
      exact .cons r (Vals.pick h π)
section
variable {X : Cx} {b : Bc} {E : XK} {e : Expr} {kws : List Keyword} {f : ME} {g : MA} {m n : Nat} {nm : Option Str} {kpos : Pos}
theorem PK.imp {t t' : TA} (h : PK X kws t) (i : ∀ σ H Q, t' σ H Q → t σ H Q) : PK X kws t' := ⟨fun p pins s σ H Q I q => h.run p pins s σ H Q I (i σ H Q q)⟩
theorem k_nil : PK X [] (tA b E nilA) := PK.imp pk_nil fun σ H Q ⟨F0, O0, F, O, env, S, P, h⟩ => h F H (Same.refl _) P.fit P.inv [] rfl
theorem k_cons (h : PE X e (tE b E f)) (hr : PK X kws (tA b E g)) : PK X (⟨nm, e, kpos⟩ :: kws) (tA b E (consA f g)) :=
  PK.imp (pk_cons h hr) fun σ H Q ⟨F0, O0, F, O, env, S, P, h⟩ => ⟨F0, O0, F, O, env, S, P, (Post.bind h).imp fun d S1 F1 H1 s1 fit1 I1 k v hv => ⟨F0, O0, F1, O, env, S1, P.grow s1 fit1 I1, (Post.bind k).imp fun ds S2 F2 H2 s2 fit2 I2 k vs hvs =>
    k F2 H2 (Same.refl _) fit2 I2 (v :: vs) (Dens.cons (Den.mono s2 _ _ hv) hvs)⟩⟩
end
end VS
namespace VS
open PySem PySem.Spec PyProof.Rows L2
end VS
namespace VS
open PySem PySem.Spec PyProof.Rows L2
def rIsX (K : PySem.W.Frag) : List V → Hp → VK → Prop := fun xs H Q => ∃ (a A C : Addr) (r : Bool), xs = [.ref a, .ref C] ∧ H a = some (ExO (.ref A) none a) ∧ ExcC K A ∧ PySem.W.kitOne K (.ref A) (.ref C) = some r ∧ Q (.bl r) H
def rIsC (K : PySem.W.Frag) : List V → Hp → VK → Prop := fun xs H Q => rIsi K xs H Q ∨ rIsX K xs H Q
theorem call_isC {X : Cx} : CallR X (.builtin "isinstance") (rIsC X.K) := fun pins s σ H xs us Q I r h => by
  rcases h with h | h
  · exact call_isi pins s σ H xs us Q I r h
  · obtain ⟨a, A, C, k, rfl, hH, hA, e, q⟩ := h
    obtain ⟨u1, u2, rfl, r1, r2⟩ := vals2 r
    obtain rfl : u1 = Value.ref a := r1
    obtain rfl : u2 = Value.ref C := r2
    obtain ⟨⟨oe, vs, g, z, d⟩, _⟩ := (show ObjOk X.prog X.w H s.heap a (ExO (.ref A) none a) from I.hok a _ hH)
    have J : PySem.W.InstAt s.heap a oe A none := by
      obtain ⟨oc, od, oda, osl⟩ := oe
      obtain ⟨z1, z2⟩ := z
      dsimp only at z1 z2 d
      subst z1 z2 d
      exact ⟨g, rfl, rfl, trivial⟩
    exact PySem.W.kia_one (PySem.W.handS_kitx_exc hA.hg hA.hk hA.hs hA.hd hA.ha hA.hn hA.ht hA.hm) I.kIn J e (fun z => nomatch z) fun tk => ⟨.bl k, H, I.kept (t' := tk) fun _ _ z => z, rfl, q⟩
end VS
namespace VS
open PySem PySem.Spec PyProof.Rows L2
theorem compM_eq {set : Env → D → Option Env} {test : MT} {elt : ME} {env0 : Env} {S : DS} (k : D → Bool) (y : D → D) : ∀ ds : List D, (∀ d ∈ ds, ∃ env1, set env0 d = some env1 ∧ test env1 S = .ok (k d, S) ∧ (k d = true → elt env1 S = .ok (y d, S))) →
    compM set test elt env0 ds S = .ok ((ds.filter k).map y, S)
  | [], _ => rfl
  | d :: ds, h => by
    obtain ⟨env1, h1, h2, h3⟩ := h d List.mem_cons_self
    have ih := compM_eq k y ds fun e he => h e (List.mem_cons_of_mem _ he)
    unfold compM
    simp only [h1, h2, noX, bindM]
    cases hk : k d with
    | true =>
      rw [if_pos rfl, h3 hk]
      simp only [bindM, ih, List.filter_cons_of_pos hk, List.map_cons]
    | false =>
      rw [if_neg Bool.false_ne_true, ih, List.filter_cons_of_neg (by simp [hk])]
def begun (ns : List Int) : DS := ⟨((ns.map fun i => (i.natAbs : Int)).filter fun i => decide (10 ^ 18 ≤ i)).map (· - 10 ^ 18), ns.map fun i => (i.natAbs : Int), 0, 0⟩
def spBegun (K : PySem.W.Frag) (mg : Str → Option Value) : Sp := fun vs H Q E => vs.length = 1 ∧ ∃ (l0 : Lay) (F O T : Hp) (ns : List Int), Fits F O T H ∧ Dens ⟨K, mg, l0⟩ F [.scr ns] vs ∧ ns.length ≤ 1000 ∧
  ∀ (l : Lay) F' H', Same F F' → T l.sa = none → T l.la = none → Fits F' O (stT l (begun ns) T) H' → stI ⟨K, mg, l⟩ (begun ns) F' → Q (.ref l.sa) H'
def begunTrs : List (TE × TE) := [(tC (.str "large"), tVar 3), (tC (.str "cells"), tVar 1), (tC (.str "left"), tC (.int 0)), (tC (.str "turn"), tC (.int 0))]
theorem stKV_merge (x y : V) : mergeK [] [(kLarge, x), (kCells, y), (kLeft, .int 0), (kTurn, .int 0)] = [(kLarge, x), (kCells, y), (kLeft, .int 0), (kTurn, .int 0)] := by
  have h := kne
  unfold mergeK
  simp only [List.foldl_cons, List.foldl_nil, putK, List.any_nil, List.any_cons, Bool.false_eq_true, if_false, List.nil_append, h.1, h.2.1, h.2.2.1, h.2.2.2.1, h.2.2.2.2.1, h.2.2.2.2.2, decide_false, Bool.or_self, List.cons_append]
theorem begun_read {b : Bc} {E : XK} {F O T H : Hp} {ns : List Int} {g1 g2 : MS} {σ : L2.St} {Q : VK} {bk ct : L2.St → Hp → Prop} (hown : b.own = [3]) (hst : b.stf = false) (hTP : b.TP = exT T) (P : Pre b F O F O H σ [some (.scr ns), none, none, none] S0)
    (hO : Fits F O T H) (hz : ns.length ≤ 1000)
    (h1 : g1 [some (.scr ns), none, none, none] S0 = .ok (.nx [some (.scr ns), some (.lst ((begun ns).cells.map D.int)), none, none], S0))
    (h2 : g2 [some (.scr ns), some (.lst ((begun ns).cells.map D.int)), none, none] S0 = .ok (.nx [some (.scr ns), some (.lst ((begun ns).cells.map D.int)), none, some (.lst ((begun ns).large.map D.int))], S0))
    (hQ : ∀ (l : Lay) F' H', Same F F' → T l.sa = none → T l.la = none → Fits F' O (stT l (begun ns) T) H' → stI ⟨b.c.K, b.c.mg, l⟩ (begun ns) F' → Q (.ref l.sa) H') :
    tS b E g1 { nx := fun σ1 H1 => tS b E g2 { nx := fun σ2 H2 => tDisp begunTrs σ2 H2 Q, rt := Q, bk := bk, ct := ct } σ1 H1, rt := Q, bk := bk, ct := ct } σ H := by
  refine ⟨F, O, F, O, _, S0, P, ?_⟩
  rw [h1]
  intro σ1 F1 O1 H1 P1
  refine ⟨F, O, F1, O1, _, S0, P1, ?_⟩
  rw [h2]
  intro σ2 F2 O2 H2 P2
  obtain ⟨cv, c1, c2⟩ := P2.slot 1 _ rfl (by rw [hown]; decide)
  obtain ⟨la, l1, ⟨lvs, l2, lz, l3⟩, l4⟩ := P2.slotO 3 _ rfl (by rw [hown]; decide)
  obtain ⟨ca, cvs, rfl, c3, cz, c4⟩ := c2
  have e1 := c4.ints
  have e2 := l3.ints
  subst e1 e2
  intro p hp
  obtain ⟨T0, tp, fit⟩ := P2.fit
  rw [hTP] at tp
  have tp : T0 = T := tp
  subst tp
  have eT : b.T S0 T0 = T0 := by unfold Bc.T; rw [hst]; rfl
  rw [eT] at fit
  have npl : la ≠ p := ne_of_none (fit.o _ _ l2) hp
  refine ⟨_, l1, _, c1, ?_⟩
  show upd H2 p (.dK []) p = some (.dK []) ∧ _
  refine ⟨upd_same, [(kLarge, .ref la), (kCells, .ref ca), (kLeft, .int 0), (kTurn, .int 0)], rfl, by simp, ?_⟩
  rw [stKV_merge, upd_upd]
  have nF2 : F2 la = none := fit.fo la (by rw [l2]; simp)
  have nT : T0 la = none := by
    cases q : T0 la with
    | none => rfl
    | some o => have := fit.ot la (by rw [q]; simp); rw [l2] at this; cases this
  have nTp : T0 p = none := upd_none fit.t hp
  refine hQ ⟨p, la, ca⟩ F2 _ P2.f0 nTp nT ⟨fun a o e => ?_, fun a o e => ?_, fun a o e => ?_, fun a q => ?_, fun a q => ?_, fun a q => ?_, fit.nt, fun a o e => hO.ld a o e⟩ ⟨npl.symm, c3, by simpa [begun] using hz, ?_⟩
  · rw [upd_ne (ne_of_none (fit.f _ _ e) hp)]; exact fit.f _ _ e
  · have e' := P2.o0 _ _ e
    rw [upd_ne (ne_of_none (fit.o _ _ e') hp)]; exact fit.o _ _ e'
  · unfold stT at e
    split at e
    · rename_i z; cases e; rw [z, upd_same]; rfl
    · rename_i z
      rw [upd_ne z]
      split at e
      · rename_i z2; cases e; rw [z2]; exact fit.o _ _ l2
      · exact fit.t _ _ e
  · cases q2 : O a with
    | none => exact absurd q2 q
    | some o => exact fit.fo a (by rw [P2.o0 _ _ q2]; simp)
  · unfold stT at q
    split at q
    · rename_i z; rw [z]; exact upd_none fit.f hp
    · split at q
      · rename_i z2; rw [z2]; exact nF2
      · exact fit.ft a q
  · unfold stT at q
    split at q
    · rename_i z; rw [z]; exact upd_none P2.o0 (upd_none fit.o hp)
    · split at q
      · rename_i z2; rw [z2]; exact l4
      · cases q2 : O a with
        | none => rfl
        | some o => have := fit.ot a q; rw [P2.o0 _ _ q2] at this; cases this
  · refine Nat.le_trans ?_ hz
    simp only [begun, List.length_map]
    exact Nat.le_trans (List.length_filter_le _ _) (by simp)
def begunG1 : MS := asgS 1 (lcM (setN 2) (varM 0) (fun _ S => .ok (true, S)) (cbM gAbs (consA (varM 2) nilA)) [2])
def begunG2 : MS := asgS 3 (lcM (setN 2) (varM 1) (testM (binM gGe (varM 2) (binM gPow (cM (.int 10)) (cM (.int 18))))) (binM gSub (varM 2) (binM gPow (cM (.int 10)) (cM (.int 18)))) [2])
theorem begun_g1 {ns : List Int} (hz : ns.length ≤ 1000) : begunG1 [some (.scr ns), none, none, none] S0 = .ok (.nx [some (.scr ns), some (.lst ((begun ns).cells.map D.int)), none, none], S0) := by
  have hz' : ns.length ≤ 1000000 := Nat.le_trans hz (by decide)
  have e := compM_eq (set := setN 2) (test := fun _ S => .ok (true, S)) (elt := cbM gAbs (consA (varM 2) nilA)) (env0 := wipeE [some (.scr ns), none, none, none] [2]) (S := S0) (fun _ => true) (fun d => match d with | .int i => .int (i.natAbs : Int) | _ => .non) (ns.map D.int) (fun d hd => by
    obtain ⟨i, _, rfl⟩ := List.mem_map.mp hd
    refine ⟨_, rfl, rfl, fun _ => ?_⟩
    have e2 : (if i < 0 then -i else i) = (i.natAbs : Int) := by split <;> omega
    show Res.ok (D.int (if i < 0 then -i else i), S0) = _
    rw [e2])
  unfold begunG1 asgS lcM
  have ft : ∀ l : List D, l.filter (fun _ => true) = l := fun l => List.filter_eq_self.mpr (by simp)
  simp only [varM, bindM, List.getElem?_cons_zero, if_pos hz', e, ft, List.map_map]
  simp only [begun, List.map_map]
  rfl
theorem begun_g2 {ns : List Int} : begunG2 [some (.scr ns), some (.lst ((begun ns).cells.map D.int)), none, none] S0 = .ok (.nx [some (.scr ns), some (.lst ((begun ns).cells.map D.int)), none, some (.lst ((begun ns).large.map D.int))], S0) := by
  have e := compM_eq (set := setN 2) (test := testM (binM gGe (varM 2) (binM gPow (cM (.int 10)) (cM (.int 18))))) (elt := binM gSub (varM 2) (binM gPow (cM (.int 10)) (cM (.int 18)))) (env0 := wipeE [some (.scr ns), some (.lst ((begun ns).cells.map D.int)), none, none] [2]) (S := S0)
    (fun d => match d with | .int i => decide (10 ^ 18 ≤ i) | _ => false) (fun d => match d with | .int i => .int (i - 10 ^ 18) | _ => .non) ((begun ns).cells.map D.int) (fun d hd => by
    obtain ⟨i, _, rfl⟩ := List.mem_map.mp hd
    exact ⟨_, rfl, rfl, fun _ => rfl⟩)
  unfold begunG2 asgS lcM
  simp only [varM, bindM, List.getElem?_cons_zero, List.getElem?_cons_succ, e]
  congr 3
  simp only [begun, List.filter_map, List.map_map]
  rfl
end VS
namespace VS
open PySem PySem.Spec PyProof.Rows L2
open Classical in
noncomputable def H0of (K : PySem.W.Frag) (tabs : List Addr) (a : Addr) (vs : List Value) (ns : List Int) : Hp := fun b =>
  if b ∈ tabs then some (.tbl #[]) else if b = a ∧ K.lookup a = none then some (.frz { cls := .type "list", data := .seq vs.toArray } (.lst (ns.map V.int))) else none
section
variable {P : Program} {w : World} {K : PySem.W.Frag} {mg mb : Str → Option Value} {a fa : Addr} {cs : List (Addr × Addr)} {s₁ : Shared} {vs : List Value} {ns : List Int}
theorem law_end (KX : K.In s₁.heap) (hns : s₁.heap.Ns mainGlobals mg) (hb : s₁.heap.Ns builtinsNs mb) (hbb : ∀ x : Str, x ≠ "__name__" → mb x = bootBuiltins x) (hlim : s₁.heap.NoLimit) (hg : s₁.gens = #[])
    (hT : ∀ p ∈ cs, s₁.heap.get? p.2 = some { cls := .none, data := .fields #[] }) (nT : ∀ p ∈ cs, K.lookup p.2 = none) (hcode : ∀ p ∈ cs, PySem.W.CodeHd s₁.heap p.1 p.2)
    (hbm : ∃ (bm : Addr) (ob : Obj), mg "__builtins__" = some (.ref bm) ∧ bm ≠ builtinsNs ∧ s₁.heap.get? bm = some ob ∧ ob.cls = .type "module" ∧ ob.dict = some builtinsNs ∧ ob.data = .plain)
    (ha : s₁.heap.get? a = some { cls := .type "list", data := .seq vs.toArray }) (hi : IntsAre vs ns) (hl : ns.length ≤ sizeLine)
    (run : ∀ (base : Heap) (H : Hp), K.In base → base.Ns mainGlobals mg → (∀ p ∈ cs, LamX.TabB base mg p.1 p.2) → Env0 P w K mg base callerA [] s₁ H → (∀ p ∈ cs, H p.2 = some (.tbl #[])) → SqL K H a (ns.map V.int) → (∀ b o, H b = some o → b ∈ cs.map Prod.snd ∨ NoTbl o) →
      codeAny (model P w) callerA (.call (.ref fa) ⟨[.ref a], []⟩) (CR (L2.CX P w) [] P w H s₁ (fun v _ => v = .bl true) fun _ _ _ => False) s₁) :
    codeAny (model P w) callerA (.call (.ref fa) ⟨[.ref a], []⟩) (fun r s' => r = .ok (.ret (.bool true)) ∧ OldK s₁.heap s'.heap ∧ s'.os = s₁.os ∧ AllBare s'.gens) s₁ := by
  generalize eH : H0of K (cs.map Prod.snd) a vs ns = H
  have atTab : ∀ b, b ∈ cs.map Prod.snd → s₁.heap.get? b = some { cls := .none, data := .fields #[] } ∧ K.lookup b = none := fun b hm => by
    obtain ⟨p, hp, e⟩ := List.mem_map.mp hm
    subst e
    exact ⟨hT p hp, nT p hp⟩
  have notA : a ∉ cs.map Prod.snd := fun z => by
    have q := (atTab a z).1
    rw [ha] at q
    cases congrArg Obj.data (Option.some.inj q)
  -- the three kinds of places
  have kind : ∀ b, (b ∈ cs.map Prod.snd ∧ H b = some (.tbl #[])) ∨ (b = a ∧ K.lookup a = none ∧ H b = some (.frz { cls := .type "list", data := .seq vs.toArray } (.lst (ns.map V.int)))) ∨ (H b = none ∧ b ∉ cs.map Prod.snd) := fun b => by
    rw [← eH]
    unfold H0of
    by_cases h1 : b ∈ cs.map Prod.snd
    · exact .inl ⟨h1, if_pos h1⟩
    · by_cases h2 : b = a ∧ K.lookup a = none
      · exact .inr (.inl ⟨h2.1, h2.2, by rw [if_neg h1, if_pos h2]⟩)
      · exact .inr (.inr ⟨by rw [if_neg h1, if_neg h2], h1⟩)
  have hTab : ∀ p ∈ cs, H p.2 = some (.tbl #[]) := fun p hp => by
    have hm : p.2 ∈ cs.map Prod.snd := List.mem_map.mpr ⟨p, hp, rfl⟩
    rcases kind p.2 with ⟨_, q⟩ | ⟨q, _⟩ | ⟨_, q⟩
    · exact q
    · exact absurd (q ▸ hm) notA
    · exact absurd hm q
  have hScr : SqL K H a (ns.map V.int) := by
    rcases kind a with ⟨q, _⟩ | ⟨_, _, q⟩ | ⟨q, _⟩
    · exact absurd q notA
    · exact .inl (.inr ⟨_, q⟩)
    · cases hk : K.lookup a with
      | none =>
        rw [← eH] at q
        unfold H0of at q
        rw [if_neg notA, if_pos ⟨rfl, hk⟩] at q
        cases q
      | some o =>
        have e := KX a o hk
        rw [ha] at e
        cases e
        exact .inr ⟨_, vs.toArray, _, hk, rfl, rfl, rfl, by rw [List.size_toArray, hi.length]; exact hl, by simpa using vals_ints hi⟩
  have hok : HOk P w H s₁.heap := fun b o e => by
    rcases kind b with ⟨hm, q⟩ | ⟨hm, _, q⟩ | ⟨q, _⟩
    · rw [q] at e; cases e; exact (atTab b hm).1
    · rw [q] at e; cases e; subst hm
      exact ⟨ha, by rw [List.length_map]; exact hl, vs, _, vals_ints hi, ha⟩
    · rw [q] at e; cases e
  -- what is no list of the script's form and no empty record is not tracked
  have free : ∀ {b : Addr} {o : Obj}, s₁.heap.get? b = some o → (∀ us n, o.data ≠ .seq us n) → o.data ≠ .fields #[] → H b = none := fun {b o} e n1 n2 => by
    rcases kind b with ⟨hm, _⟩ | ⟨hm, _, _⟩ | ⟨q, _⟩
    · have z := (atTab b hm).1
      rw [e] at z
      cases z
      exact absurd rfl n2
    · rw [hm, ha] at e
      cases e
      exact absurd rfl (n1 _ _)
    · exact q
  have nsOf : ∀ {b : Addr} {m : Str → Option Value}, s₁.heap.Ns b m → (hidT s₁.heap H).Ns b m := fun {b m} h => by
    obtain ⟨o, es, ep, e, hd, r⟩ := h
    exact ⟨o, es, ep, hidT_get e (free e (fun us n z => by rw [hd] at z; cases z) fun z => by rw [hd] at z; cases z), hd, r⟩
  have hK : K.In (hidT s₁.heap H) := fun b o e => hidT_get (KX b o e) (by
    rcases kind b with ⟨hm, _⟩ | ⟨hm, z, _⟩ | ⟨q, _⟩
    · rw [(atTab b hm).2] at e; cases e
    · rw [hm, z] at e; cases e
    · exact q)
  have TB : ∀ p ∈ cs, LamX.TabB (hidT s₁.heap H) mg p.1 p.2 := fun p hp => by
    constructor
    · obtain ⟨o, us, x1, x2, x3, x4, x5, x6, x7, e1, r1, r2, r3, rest⟩ := hcode p hp
      refine ⟨o, us, x1, x2, x3, x4, x5, x6, x7, hidT_get e1 (free e1 (fun ws n z => ?_) fun z => ?_), r1, r2, r3, rest⟩
      · rw [r2] at z; cases z
      · rw [r2] at z; cases z; simp at r3
    · obtain ⟨bm, ob, b1, b2, b3, b4, b5, b6⟩ := hbm
      have n1 : bm ≠ mainGlobals := fun z => by
        obtain ⟨o, es, ep, e, hd, _⟩ := hns
        rw [← z, b3] at e
        cases e
        rw [b6] at hd
        cases hd
      have n2 : bm ≠ p.2 := fun z => by
        have q := hT p hp
        rw [← z, b3] at q
        cases q
        cases b6
      exact ⟨bm, ob, b1, b2, n1, n2, hidT_get b3 (free b3 (fun us n z => by rw [b6] at z; cases z) fun z => by rw [b6] at z; cases z), b4, b5, b6⟩
    · intro z
      obtain ⟨o, es, ep, e, hd, _⟩ := hns
      have q := hT p hp
      rw [← z, e] at q
      cases q
      cases hd
  have hM : L2.Mod K mg (hidT s₁.heap H) := ⟨hK, nsOf hns, ⟨mb, nsOf hb, hbb⟩, by obtain ⟨mc, h1, h2⟩ := hlim; exact ⟨mc, nsOf h1, h2⟩⟩
  have e0 : Env0 P w K mg (hidT s₁.heap H) callerA [] s₁ H := ⟨rfl, hM, fun b o e => of_hidT e, Nat.le_of_eq (hidT_size _ _), trivial, fun b z => absurd (show b ∈ ([] : List Addr) from z) (by simp), hok, .of_eq hg⟩
  refine codeAny_mono (run _ H hK (nsOf hns) TB e0 hTab hScr fun b o e => ?_) fun r s' h => ?_
  · rcases kind b with ⟨hm, _⟩ | ⟨_, _, q⟩ | ⟨q, _⟩
    · exact .inl hm
    · rw [q] at e; cases e; exact .inr fun ps z => by cases z
    · rw [q] at e; cases e
  · cases r with
    | error e =>
      obtain ⟨_, _, _, _, _, _, _, _, _, _, _, _, z⟩ := h
      exact z.elim
    | ok fl =>
      cases fl with
      | next => exact False.elim h
      | brk => exact False.elim h
      | cont => exact False.elim h
      | ret u =>
        obtain ⟨v, H', os, bare, un, hok', rv, q⟩ := h
        obtain rfl : v = .bl true := q
        obtain rfl : u = Value.bool true := rv
        -- what stood there stands there; the tables have grown
        have old : ∀ b o, b ∉ cs.map Prod.snd → s₁.heap.get? b = some o → s'.heap.get? b = some o := fun b o nm e => by
          rcases kind b with ⟨hm, _⟩ | ⟨_, _, q⟩ | ⟨q, _⟩
          · exact absurd hm nm
          · obtain ⟨g1, _⟩ := hok b _ q
            obtain ⟨g2, _⟩ := hok' b _ (un.frzs b _ _ q)
            rw [e] at g1
            cases g1
            exact g2
          · exact un.keep b o e q (by show b ∉ ([] : List Addr); simp) (by simp)
        refine ⟨rfl, ⟨fun b o e => ?_, fun b o e => ?_⟩, os, bare⟩
        · by_cases hm : b ∈ cs.map Prod.snd
          · obtain ⟨p, hp, z⟩ := List.mem_map.mp hm
            subst z
            obtain ⟨more, g⟩ := un.tbls p.2 #[] (hTab p hp)
            have g' : s'.heap.get? p.2 = some { cls := .none, data := .fields (#[] ++ more) } := hok' p.2 _ g
            have e' := hT p hp
            rw [e] at e'
            cases e'
            exact .inr (.inl ⟨((hcode p hp).tab (hT p hp)).isCodeTable, rfl, #[], more, rfl, g'⟩)
          · exact .inl (old b o hm e)
        · by_cases hm : b ∈ cs.map Prod.snd
          · obtain ⟨p, hp, z⟩ := List.mem_map.mp hm
            subst z
            obtain ⟨more, g⟩ := un.tbls p.2 #[] (hTab p hp)
            exact ⟨_, hok' p.2 _ g⟩
          · exact ⟨o, old b o hm e⟩
end
def LawRun (P : Program) (w : World) (K : PySem.W.Frag) (n : Nat) (mg : Str → Option Value) (fa : Addr) (h : Heap) : Prop :=
  ∃ cs : List (Addr × Addr), (∀ p ∈ cs, h.get? p.2 = some { cls := .none, data := .fields #[] }) ∧ (∀ p ∈ cs, K.lookup p.2 = none) ∧ (∀ p ∈ cs, PySem.W.CodeHd h p.1 p.2) ∧
    ∀ (s₁ : Shared) (a : Addr) (ns : List Int) (base : Heap) (H : Hp), ns.length ≤ n → K.In base → base.Ns mainGlobals mg → (∀ p ∈ cs, LamX.TabB base mg p.1 p.2) → Env0 P w K mg base callerA [] s₁ H → (∀ p ∈ cs, H p.2 = some (.tbl #[])) → SqL K H a (ns.map V.int) → (∀ b o, H b = some o → b ∈ cs.map Prod.snd ∨ NoTbl o) →
      codeAny (model P w) callerA (.call (.ref fa) ⟨[.ref a], []⟩) (CR (L2.CX P w) [] P w H s₁ (fun v _ => v = .bl true) fun _ _ _ => False) s₁
theorem walk_G {l : PySem.W.OpenLaw} {n : Nat} {q : Program} {loose : List Str} {XP : (Str → Option Value) → Heap → Prop} {YP : World → Heap → Prop} {d : DefRec} {K : Params → PySem.W.Frag}
    (hn : l.most = some n) (hn2 : n ≤ sizeLine) (hdf : d.params.defaults = []) (hrec : ((recsOf q).any fun e => e.name == d.name) = true) (hY : ∀ (w : World) (h : Heap), YP w h → (K w.params).In h)
    (F : ∀ (w : World) (mg : Str → Option Value) (fa : Addr) (h : Heap), (K w.params).In h → h.Ns mainGlobals mg → mg d.name = some (.ref fa) → LamX.OwnTab (K w.params) fa h → LawRun l.prog w (K w.params) n mg fa h) :
    PySem.W.WalkO q loose XP YP l.row.toRowW d [] (fun f vs => PySem.call f vs) := by
  refine Att.attach_callB hn hdf fun w s₀ s₁ mg mb fa o pm cd doc a vs ns G Y ho hd hcd hmg hobj hints hlen hbits hg => ?_
  have KX := hY w _ Y
  have own : LamX.OwnTab (K w.params) fa s₁.heap := by
    intro c P o1 fd1 e dd vs1 sl k1 k2 k3 k4 k5
    obtain ⟨r, hm, hnm⟩ := List.any_eq_true.mp hrec
    have en : r.name = d.name := beq_iff_eq.mp hnm
    obtain ⟨a', o', fd', c', P', h1, h2, h3, h4, h5, h6⟩ := G.T.tab r hm
    rw [en, hmg] at h1
    cases h1
    have g1 := (KX _ _ k1).symm.trans h2
    cases g1
    have g2 := k2.symm.trans h3
    cases g2
    have g3 := k3.symm.trans h4
    cases g3
    obtain ⟨⟨oc, vc, e1, _, e3, e4⟩, hP⟩ := h6
    have g4 := (KX _ _ k4).symm.trans e1
    cases g4
    cases e3
    have g5 := k5.symm.trans e4
    cases g5
    exact hP
  obtain ⟨cs, hT, nT, hC, run⟩ := F w mg fa _ KX G.T.g hmg own
  exact law_end KX G.T.g G.T.b G.T.builtins G.T.nolimit hg hT nT hC G.T.bmain hobj hints (Nat.le_trans hlen hn2) fun base H hK hN hTB e0 hH hS hno => run s₁ a ns base H hlen hK hN hTB e0 hH hS hno
theorem PSs.ex {X : Cx} {ι : Type} {ss : List Stmt} {t : ι → TS} (h : ∀ i, PSs X ss (t i)) : PSs X ss (fun D σ H => ∃ i, t i D σ H) := ⟨fun pins s σ H D I ⟨i, k⟩ => (h i).run pins s σ H D I k⟩
def IscT (K : PySem.W.Frag) (mg : Str → Option Value) (C : Addr) (tab : List (Str × Bool)) : Prop := ∀ n r, tab.lookup n = some r → ∀ A, mg n = some (.ref A) → ExcC K A ∧ PySem.W.kitOne K (.ref A) (.ref C) = some r
def retE : Stmt → Expr
  | .Return (some e) _ => e
  | _ => .Constant .none 0 ⟨0, 0, 0, 0⟩
theorem kit_sub {K : PySem.W.Frag} {t : Value} {C : Addr} {r : Bool} (hne : (t == Value.ref C) = true → r = true) (hd : PySem.W.hasDictIn K C = true) (ht : PySem.W.typeIn K (.ref C) = some (.type "type")) (hs : PySem.W.subIn K t (.ref C) = some r) : PySem.W.kitOne K t (.ref C) = some r := by
  unfold PySem.W.kitOne
  by_cases h : (t == Value.ref C) = true
  · rw [if_pos h, hne h]
  · rw [if_neg h]
    obtain ⟨cd, hc, _⟩ := PySem.W.any_some hd
    have e : ((PySem.W.clsIn K C).isSome && PySem.W.typeIn K (.ref C) == some (.type "type")) = true := by rw [hc, ht]; rfl
    show (if ((PySem.W.clsIn K C).isSome && PySem.W.typeIn K (.ref C) == some (.type "type")) = true then PySem.W.subIn K t (.ref C) else none) = some r
    rw [if_pos e]
    exact hs
end VS
namespace VS
open PySem PySem.Spec PyProof.Rows L2
end VS
namespace VS
open PySem PySem.Spec PyProof.Rows L2
def lcR (set : Env → D → Option Env) (fa : MA) (test : MT) (elt : ME) (vs : List Nat) : ME := fun env S => bindM (fa env S) fun ds S1 => match rangeOf ds with
  | some xs => if xs.length ≤ 1000000 then bindM (compM set test elt (wipeE env vs) xs S1) fun ys S2 => .ok (.lst ys, S2) else .bad
  | none => .bad
theorem intsD_len (lo : Int) (n : Nat) : (intsD lo n).length = n := by simp [intsD]
section
variable {X : Cx} {b : Bc} {E : XK} {e tg iter elt : Expr} {ifs : List Expr} {fe : ME} {test : MT} {pos : Pos} {gt : TG} {set : Env → D → Option Env} {js : List Nat}
theorem lcR_go (ht : Tgt b X.K gt set js) {vs : List Nat} (hvs : vs.all (fun i => !b.own.contains i) = true) (hjs : js.all (fun j => vs.contains j) = true)
    {F0 O0 O F1 H1 : Hp} {σ : L2.St} {env : Env} {S1 : DS} {Q : VK} {lo : Int} {n : Nat} (P1 : Pre b F0 O0 F1 O H1 σ env S1) (hz : n ≤ 1000000)
    (k : Post b E O F1 (bindM (compM set test fe (wipeE env vs) (intsD lo n) S1) fun ys S2 => .ok (D.lst ys, S2)) (fun d S' F' H' => ∀ p o, H' p = none → ObjD b.c F' d o → Q (.ref p) (upd H' p o))) (D0 : Addr) (hD : H1 D0 = none) :
    ∃ W : Nat → Nat → Hp → Prop, (∃ m, W 0 m (upd H1 D0 (.lst []))) ∧ ∀ i m H, W i m H → ((Itr lo n).stop i H ∧ Q (.ref D0) H) ∨ ((Itr lo n).go i H ∧ ∃ Nx : Hp → Prop, (∀ H', Nx H' → ∃ m', m' < m ∧ W (i + 1) m' H') ∧ ∀ x H', (Itr lo n).yld i H x H' → gt x (L2.wipe σ vs) H' fun σ2 H2 => L2.wipe σ2 vs = L2.wipe σ vs ∧ tT b XF test σ2 H2 fun k H3 => if k = true then tE b XF fe σ2 H3 fun y H4 => ∃ acc, H4 D0 = some (.lst acc) ∧ acc.length < sizeLine ∧ Nx (upd H4 D0 (.lst (acc ++ [y]))) else Nx H3) := by
  have nO := upd_none P1.fit.o hD
  have nF := upd_none P1.fit.f hD
  refine lc_range (lo := lo) (n := n) (fun i H' => Cmp b E O F1 σ (wipeE env vs) (fun d S' F' H' => ∀ p o, H' p = none → ObjD b.c F' d o → Q (.ref p) (upd H' p o)) ((intsD lo n).drop i) (compM set test fe (wipeE env vs)) D0 i H')
    (lc_begin P1.fit P1.inv hD k) (fun i H' hi C => ?_) (fun H' C => ?_)
  · rw [drop_at (intsD_at hi)] at C
    exact lc_turn ht P1 nO (d := D.int (lo + i)) (v := .int (lo + i)) rfl hvs hjs (Nat.lt_of_lt_of_le (by omega) million) C
  · have : (intsD lo n).drop n = [] := List.drop_eq_nil_of_le (by rw [intsD_len]; exact Nat.le_refl _)
    rw [this] at C
    exact lc_end nO nF (Nat.le_trans hz million) C
theorem lcR_imp1 {ga : MA} {vs : List Nat} (ht : Tgt b X.K gt set js) (hvs : vs.all (fun i => !b.own.contains i) = true) (hjs : js.all (fun j => vs.contains j) = true)
    (hl : ∀ env S ds S', ga env S = .ok (ds, S') → ds.length = 1) :
    ∀ σ H Q, tN b E (lcR set ga test fe vs) σ H Q → tLc (iRng1 (tA b E ga)) gt (tT b XF test) (tE b XF fe) vs σ H Q := fun σ H Q ⟨F0, O0, F, O, env, S, P, h⟩ => by
    have hb := Post.bind h
    refine ⟨F0, O0, F, O, env, S, P, ?_⟩
    cases hr : ga env S with
    | bad => rw [hr] at hb; exact False.elim hb
    | exc n f' fs S' => rw [hr] at hb; exact hb
    | ok p =>
      obtain ⟨ds, S1⟩ := p
      have hlen := hl env S ds S1 hr
      rw [hr] at hb
      intro F1 H1 s1 fit1 I1 vs' hv
      have k := hb F1 H1 s1 fit1 I1
      match ds, hlen, hv, k with
      | [d], _, hv, k =>
        simp only [Dens] at hv
        obtain ⟨v, r, rfl, h1, rfl⟩ := hv
        cases d with
        | int j =>
          simp only [Den] at h1
          subst h1
          simp only [rangeOf] at k
          by_cases hj : -(2 ^ 62) ≤ j ∧ j < 2 ^ 62
          · rw [if_pos hj] at k
            simp only at k
            by_cases hz : (intsD 0 j.toNat).length ≤ 1000000
            · rw [if_pos hz] at k
              exact ⟨j, rfl, hj.1, hj.2, fun D0 hD => lcR_go ht hvs hjs (P.grow s1 fit1 I1) (by simpa [intsD_len] using hz) k D0 hD⟩
            · rw [if_neg hz] at k
              exact False.elim k
          · rw [if_neg hj] at k
            exact False.elim k
        | _ => exact False.elim k
theorem n_lcR1 {e1 : Expr} {ga : MA} {vs : List Nat} (ht : Tgt b X.K gt set js) (hvs : vs.all (fun i => !b.own.contains i) = true) (hjs : js.all (fun j => vs.contains j) = true)
    (h : ∀ wi, PI X tg iter wi → PE X e (tLc wi gt (tT b XF test) (tE b XF fe) vs)) (hi : ∀ ta, PA X [e1] ta → PI X tg iter (iRng1 ta)) (ha : PA X [e1] (tA b E ga))
    (hl : ∀ env S ds S', ga env S = .ok (ds, S') → ds.length = 1) : PE X e (tN b E (lcR set ga test fe vs)) :=
  PE.imp (h _ (hi _ ha)) (lcR_imp1 ht hvs hjs hl)
end
end VS
namespace VS
open PySem PySem.Spec PyProof.Rows L2
section
variable {X : Cx} {b : Bc} {E : XK} {e e1 e2 ee : Expr} {f f1 f2 : ME} {c : Dc} {pos : Pos}
theorem PO.imp {o : Option Expr} {t t' : TO} (h : PO X o t) (i : ∀ σ H Q, t' σ H Q → t σ H Q) : PO X o t' := ⟨fun pins s σ H Q I q => h.run pins s σ H Q I (i σ H Q q)⟩
theorem n_disp {trs : List (TE × TE)} (kvs : List (Key × V)) (ks : List Key) (xs : List D) (h : PE X e (tDisp trs)) (ht : ∀ σ H (Q : List (V × V) → Hp → Prop), Q (kvs.map fun kv => (kV kv.1, kv.2)) H → tPairs trs σ H Q) (hl : kvs.length ≤ 15) (hm : (mergeK [] kvs).map (·.1) = ks) (hd : ∀ F, Dens b.c F xs ((mergeK [] kvs).map (·.2))) : PE X e (tN b E (cM (.dct ks xs))) :=
  PE.imp h fun σ H Q ⟨F0, O0, F, O, env, S, P, h⟩ p hp => ht σ _ _ ⟨upd_same, kvs, rfl, hl, by
    rw [upd_upd]
    exact h F H (Same.refl _) P.fit P.inv p (.dK (mergeK [] kvs)) hp ⟨mergeK [] kvs, rfl, hm, hd F⟩⟩
end
end VS
namespace VS
open PySem PySem.Spec PyProof.Rows L2
section
variable {X : Cx} {b : Bc} {E : XK} {e e1 e2 : Expr} {st : Stmt} {f f1 f2 : ME} {pos : Pos}
def appPopM (i j : Nat) (fj : ME) : MS := fun env S => match env[i]?, env[j]? with
  | some (some (.lst xs)), some (some (.lst ds)) => bindM (fj env S) fun q S1 => match q with
    | .int q => if -1000000 ≤ q ∧ q ≤ 1000000 ∧ xs.length < 1000000 then (match seqIndex? q ds.length with
      | some m => (match ds[m]? with
        | some d => .ok (.nx ((env.set j (some (.lst (ds.eraseIdx m)))).set i (some (.lst (xs ++ [d])))), S1)
        | none => .bad)
      | none => .bad) else .bad
    | _ => .bad
  | _, _ => .bad
end
end VS
namespace VS
open PySem PySem.Spec PyProof.Rows L2
end VS
namespace VS
open PySem PySem.Spec PyProof.Rows L2
open AutoSeq1 (wpAny_loadPart')
end VS
namespace VS
open PySem PySem.Spec PyProof.Rows L2
end VS
namespace VS
open PySem PySem.Spec PyProof.Rows L2
def enumD : Nat → List D → List D
  | _, [] => []
  | i, d :: ds => .tup [.int i, d] :: enumD (i + 1) ds
def forE (set : Env → D → Option Env) (f : ME) (g : MS) : MS := fun env S => bindM (f env S) fun d S1 => match d with
  | .lst ds => loopS set g (enumD 0 ds) env S1
  | .tup ds => loopS set g (enumD 0 ds) env S1
  | _ => .bad
end VS
namespace VS
open PySem PySem.Spec PyProof.Rows L2 PpSet
end VS
namespace VS
open PySem PySem.Spec PyProof.Rows L2 PpSet
end VS
namespace VS
open PySem PySem.Spec PyProof.Rows L2
theorem law_start0 {K : PySem.W.Frag} {mg : Str → Option Value} {a : Addr} {own : List Nat} {ns : List Int} {H : Hp} {E : XK} {g : MS} {N : Nat} {σ : L2.St} {Q : VK} {nxx bk ct : L2.St → Hp → Prop} (hS : SqL K H a (ns.map V.int)) (hno : ∀ b o, H b = some o → b ∈ ([] : List Addr) ∨ NoTbl o) (hz : ns.length ≤ 1000)
    (hσ : σ = some (.ref a) :: List.replicate N none) (hown : own.all (fun i => decide (1 < i)) = true) (hg : ∃ S', g (some (.scr ns) :: some .st :: List.replicate (N - 1) none) (begun ns) = .ok (.rt (.bl true), S')) (hN : 1 ≤ N) (hQ : ∀ H', Q (.bl true) H') :
    spBegun K mg [.ref a] H (fun v H' => ∃ l : Lay, tS (bS K mg l (exT fun _ => none) own) E g { nx := nxx, rt := Q, bk := bk, ct := ct } (σ.set 1 (some v)) H') E := by
  have fit : Fits H (fun _ => none) (fun _ => none) H := by
    refine ⟨fun b o e => e, fun b o e => (by cases e), fun b o e => (by cases e), fun b e => absurd rfl e, fun b e => absurd rfl e, fun b e => rfl, fun b o e => ?_, fun b o e => (by cases e)⟩
    rcases hno b o e with z | z
    · simp at z
    · exact z
  refine ⟨rfl, ⟨0, 0, 0⟩, H, fun _ => none, fun _ => none, ns, fit, ⟨.ref a, [], rfl, ⟨a, rfl, hS⟩, rfl⟩, hz, fun l F' H' s hsa hla fit' I' => ⟨l, F', fun _ => none, F', fun _ => none, some (.scr ns) :: some .st :: List.replicate (N - 1) none, begun ns, ?_, ?_⟩⟩
  · have get2 : ∀ i d, (some (D.scr ns) :: some D.st :: List.replicate (N - 1) none)[i]? = some (some d) → (i = 0 ∧ d = .scr ns) ∨ (i = 1 ∧ d = .st) := fun i d h => by
      match i, h with
      | 0, h => simp at h; exact .inl ⟨rfl, h.symm⟩
      | 1, h => simp at h; exact .inr ⟨rfl, h.symm⟩
      | i + 2, h =>
        simp only [List.getElem?_cons_succ, List.getElem?_replicate] at h
        split at h <;> cases h
    obtain ⟨N, rfl⟩ : ∃ m, N = m + 1 := ⟨N - 1, by omega⟩
    refine ⟨⟨fun _ => none, rfl, fit'⟩, Same.refl _, Same.refl _, fun _ => I', fun i d h n => ?_, fun i d h n => ?_, fun i j x hi hj e1 e2 h1 h2 => ?_, ?_⟩
    · rw [hσ]
      rcases get2 i d h with ⟨rfl, rfl⟩ | ⟨rfl, rfl⟩
      · exact ⟨.ref a, rfl, a, rfl, s.seq hS⟩
      · exact ⟨.ref l.sa, by simp [List.replicate_succ], rfl⟩
    · have := of_decide_eq_true (List.all_eq_true.mp hown i n)
      rcases get2 i d h with ⟨rfl, _⟩ | ⟨rfl, _⟩ <;> omega
    · obtain ⟨d, e1⟩ := e1
      have := of_decide_eq_true (List.all_eq_true.mp hown i hi)
      rcases get2 i d e1 with ⟨rfl, _⟩ | ⟨rfl, _⟩ <;> omega
    · rw [hσ]
      simp
  · obtain ⟨S', hg⟩ := hg
    rw [hg]
    intro v F2 O2 H2 _ _ _ _ hv
    have hv : v = .bl true := hv
    subst hv
    exact hQ H2
end VS
namespace VS
open PySem PySem.Spec PyProof.Rows L2
def par3S (i j l : Nat) (g : MA) : MS := fun env S => bindM (g env S) fun ds S1 => match ds with | [d, e, f] => .ok (.nx (((env.set i (some d)).set j (some e)).set l (some f)), S1) | _ => .bad
theorem lenR1 {f : ME} : ∀ (env : Env) S ds S', consA f nilA env S = .ok (ds, S') → ds.length = 1 := len_cons (e := .Constant .none 0 ⟨0, 0, 0, 0⟩) (es := []) len_nil
end VS
namespace VS
open PySem PySem.Spec PyProof.Rows L2
def rDG : R2 := fun x y H Q => ∃ a v, x = .ref a ∧ DGet H a y (some v) ∧ Q v H
theorem ix_dict {X : Cx} (hu : X.A.units + 1 < cLine) : IxR X rDG := by
  intro value slice pins s σ H x y v u Q I rx ry h hs
  obtain ⟨a, w, rfl, g, q⟩ := h
  cases rx
  exact tail_any (dict_typeIs I g) PySem.F.slot_dict_getitem.lookup (d_getItem hu I g ry fun w' s3 I3 rw' => ⟨w, H, I3, rw', q⟩) hs
def rIxA (K : PySem.W.Frag) : R2 := fun x y H Q => rIx K x y H Q ∨ rDG x y H Q
theorem ix_all {X : Cx} (hu : X.A.units + 1 < cLine) : IxR X (rIxA X.K) := ix_seq.or (ix_dict hu)
def gIxA : D → D → Option D
  | .lst xs, .int i => atI xs i
  | .tup xs, .int i => atI xs i
  | .dct ks xs, .int i => dlook ks xs (.inl i)
  | .dct ks xs, .str z => dlook ks xs (.inr z)
  | _, _ => none
theorem r_ixA {c : Dc} : RuleB c (rIxA c.K) gIxA := by
  intro F O T H d e v u d' Q fit hv hu g q
  cases d <;> cases e <;> simp only [gIxA, reduceCtorEq] at g
  · rename_i xs i
    exact .inl (r_ix F O T H (.tup xs) (.int i) v u d' Q fit hv hu g q)
  · rename_i xs i
    exact .inl (r_ix F O T H (.lst xs) (.int i) v u d' Q fit hv hu g q)
  · rename_i ks xs i
    obtain ⟨a, kv, rfl, h1, h2, h3⟩ := hv
    obtain ⟨w, e1, e2⟩ := (dlook_val h2 h3).1 _ g
    refine .inr ⟨a, w, rfl, ?_, q _ F H (Same.refl _) fit e2⟩
    rw [show u = _ from hu, ← e1]
    exact DGet.k (k := .inl i) (h1.elim (fit.f _ _) (fit.o _ _))
  · rename_i ks xs i
    obtain ⟨a, kv, rfl, h1, h2, h3⟩ := hv
    obtain ⟨w, e1, e2⟩ := (dlook_val h2 h3).1 _ g
    refine .inr ⟨a, w, rfl, ?_, q _ F H (Same.refl _) fit e2⟩
    rw [show u = _ from hu, ← e1]
    exact DGet.k (k := .inr i) (h1.elim (fit.f _ _) (fit.o _ _))
def setA (i : Nat) (fj f : ME) : MS := fun env S => bindM (f env S) fun d S1 => match env[i]? with
  | some (some (.lst ds)) => bindM (fj env S1) fun k S2 => match k with
    | .int k => (match ixN ds.length k with
      | some j => .ok (.nx (env.set i (some (.lst (ds.set j d)))), S2)
      | none => .bad)
    | _ => .bad
  | some (some (.dct ks xs)) => bindM (fj env S1) fun k S2 => match keyD k with
    | some k => if ks.length < 1000000 then .ok (.nx (env.set i (some (.dct (dputK ks k) (dputV ks xs k d)))), S2) else .bad
    | none => .bad
  | _ => .bad
def gLenA : List D → Option D
  | [.lst xs] => some (.int xs.length)
  | [.tup xs] => some (.int xs.length)
  | [.dct ks _] => some (.int ks.length)
  | [.str x] => if x.length ≤ 1000000 then some (.int x.length) else none
  | [.scr ns] => some (.int ns.length)
  | _ => none
def rLenA (K : PySem.W.Frag) : List V → Hp → VK → Prop := fun xs H Q => (∃ x n, xs = [x] ∧ LenV K x H n ∧ Q (.int n) H) ∨ ∃ a kvs, xs = [V.ref a] ∧ H a = some (.dK kvs) ∧ Q (.int (kvs.length : Nat)) H
theorem cr_lenA {X : Cx} : CallR X (.builtin "len") (rLenA X.K) := call_len.or call_lenD
theorem r_lenA {c : Dc} : RuleN c (rLenA c.K) gLenA := by
  intro F O T H ds vs d' Q fit hv g q
  match ds, g with
  | [.lst xs], g => exact .inl (r_len F O T H [.lst xs] vs d' Q fit hv g q)
  | [.tup xs], g => exact .inl (r_len F O T H [.tup xs] vs d' Q fit hv g q)
  | [.str xs], g => exact .inl (r_len F O T H [.str xs] vs d' Q fit hv g q)
  | [.scr xs], g => exact .inl (r_len F O T H [.scr xs] vs d' Q fit hv g q)
  | [.dct ks xs], g =>
    cases g
    obtain ⟨v, r, rfl, ⟨a, kv, rfl, h1, h2, h3⟩, h⟩ := paired1 hv
    cases paired0 h
    refine .inr ⟨a, kv, rfl, h1.elim (fit.f _ _) (fit.o _ _), q _ F H (Same.refl _) fit ?_⟩
    rw [← h2, List.length_map]
    rfl
end VS
namespace VS
open PySem PySem.Spec PyProof.Rows L2
def CDivW (i j : Int) : Prop := 0 < j ∧ j.natAbs < 2 ^ 2000
theorem op_fdivW {X : Cx} : OpR X (binaryOp .FloorDiv) (rI CDivW fun i j => .int (i / j)) := opI fun i j _ _ _ _ _ hc q => floordiv_int (by have := hc.1; omega) (by rw [Int.fdiv_eq_ediv_of_nonneg _ (by have := hc.1; omega)]; exact q) (.inl (PyProof.noPylong_of_log2 (by
  have h := hc.2
  by_cases h0 : j.natAbs = 0
  · rw [h0]; decide
  · have := (Nat.log2_lt h0).mpr h; omega)))
abbrev gDivW := gIC (fun _ j => decide (0 < j ∧ j.natAbs < 2 ^ 2000)) fun i j => .int (i / j)
theorem r_divW {c : Dc} : RuleB c (rI CDivW fun i j => .int (i / j)) gDivW := rb_IC (fun _ j h => (of_decide_eq_true h : 0 < j ∧ j.natAbs < 2 ^ 2000)) fun _ _ _ => rfl
section
variable {X : Cx} {b : Bc} {E : XK} {e e1 : Expr} {es : List Expr} {st : Stmt} {rest : List Stmt} {f f1 : ME} {g : MS}
theorem PostS.own {F0 O0 : Hp} {r : Res (Fl × DS)} {Dn : Ends} (i : Nat) (hi : i ∉ b.own) (h : PostS b E F0 O0 r Dn) : PostS { b with own := i :: b.own } E F0 O0 r Dn := by
  have fr : ∀ {σ : L2.St} {F O H : Hp} {env : Env} {S : DS}, Pre { b with own := i :: b.own } F0 O0 F O H σ env S → ∃ F' O', Pre b F0 O0 F' O' H σ env S := fun {σ F O H env S} P => by
    obtain ⟨F', O', _, P'⟩ := P.frz i
    have e : (i :: b.own).filter (· != i) = b.own := by
      rw [List.filter_cons]
      simp only [bne_self_eq_false, Bool.false_eq_true, if_false]
      exact List.filter_eq_self.mpr fun x hx => by simpa using fun z : x = i => hi (z ▸ hx)
    refine ⟨F', O', ?_⟩
    have : ({ ({ b with own := i :: b.own } : Bc) with own := (i :: b.own).filter (· != i) } : Bc) = b := by rw [e]
    rw [← this]
    exact P'
  cases r with
  | ok p =>
    obtain ⟨a, S'⟩ := p
    cases a with
    | nx env' => exact fun σ' F' O' H' P => let ⟨F2, O2, P2⟩ := fr P; h σ' F2 O2 H' P2
    | rt d => exact h
    | bk env' => exact fun σ' F' O' H' P => let ⟨F2, O2, P2⟩ := fr P; h σ' F2 O2 H' P2
    | ct env' => exact fun σ' F' O' H' P => let ⟨F2, O2, P2⟩ := fr P; h σ' F2 O2 H' P2
  | exc n f fs S' => exact h
  | bad => exact h
theorem Pre.own {F0 O0 F O H : Hp} {σ : L2.St} {env : Env} {S : DS} {i : Nat} {d : D} {p : Addr} {o : HO} (P : Pre b F0 O0 F O H σ env S) (hi : i ∉ b.own) (hp : H p = none) (hd : ObjD b.c F d o) :
    Pre { b with own := i :: b.own } F0 O0 F (upd O p o) (upd H p o) (σ.set i (some (.ref p))) (env.set i (some d)) S := by
  have nO := upd_none P.fit.o hp
  have eO : Same O (upd O p o) := same_upd nO
  have other : ∀ {m : Nat} {x : Addr}, m ∈ b.own → (∃ d, env[m]? = some (some d)) → σ[m]? = some (some (.ref x)) → x ≠ p := fun {m x} hm ⟨d, e⟩ hx z => by
    obtain ⟨y, h1, h2, _⟩ := P.slotO m d e hm
    rw [h1] at hx
    cases hx
    exact h2.some (z ▸ nO)
  refine ⟨P.fit.newO hp hd.ld, P.f0, P.o0.trans eO, P.inv, fun j d' h n => ?_, fun j d' h n => ?_, fun j k a hj hk e1 e2 h1 h2 => ?_, by simp [P.len]⟩
  · simp only [List.mem_cons, not_or] at n
    rw [set_ne' n.1] at h ⊢
    exact P.slot j d' h n.2
  · rcases get_set h with ⟨rfl, e, hl⟩ | ⟨ne, h⟩
    · cases e
      exact ⟨p, List.getElem?_set_self (by rw [P.len]; exact hl), hd.own upd_same, upd_none P.o0 nO⟩
    · have hj : j ∈ b.own := (List.mem_cons.mp n).resolve_left ne
      obtain ⟨a, h1, h2, h3⟩ := P.slotO j d' h hj
      exact ⟨a, by rw [set_ne' ne]; exact h1, h2.mono (Same.refl _) (fun o q => eO _ _ q), h3⟩
  · obtain ⟨d1, e1⟩ := e1
    obtain ⟨d2, e2⟩ := e2
    rcases get_set h1 with ⟨z1, q1, l1⟩ | ⟨n1, h3⟩
    · rcases get_set h2 with ⟨z2, q2, l2⟩ | ⟨n2, h4⟩
      · rw [z1, z2]
      · cases q1
        rw [set_ne' n2] at e2
        exact absurd rfl (other ((List.mem_cons.mp hk).resolve_left n2) ⟨d2, e2⟩ h4)
    · rcases get_set h2 with ⟨z2, q2, l2⟩ | ⟨n2, h4⟩
      · cases q2
        rw [set_ne' n1] at e1
        exact absurd rfl (other ((List.mem_cons.mp hj).resolve_left n1) ⟨d1, e1⟩ h3)
      · rw [set_ne' n1] at e1
        rw [set_ne' n2] at e2
        exact P.sep j k a ((List.mem_cons.mp hj).resolve_left n1) ((List.mem_cons.mp hk).resolve_left n2) ⟨d1, e1⟩ ⟨d2, e2⟩ h3 h4
end
end VS
namespace VS
open PySem PySem.Spec PyProof.Rows L2
end VS
namespace VS
open PySem PySem.Spec PyProof.Rows L2
theorem tuple_mulSame (l : Addr) (its0 : Array Value) (n : Nat) (dn : Option Addr) (sn : Array (Option Value)) (x : Int) (u : Tok) (z0 : (decide (x < -(2 ^ 63)) || decide (x ≥ 2 ^ 63)) = false) (z1 : (its0.isEmpty || x == 1) = true) :
    Meets (Builtin.«tuple.__mul__» ⟨[.ref l, .int x u], []⟩) (fun _ Z s => s.heap.get? l = some { cls := .type "tuple", dict := dn, data := .seq its0 n, slots := sn } ∧ Z (.ok (.ret (.ref l))) s) :=
  .of_wp fun prog w A Z s h => by
    obtain ⟨hh, g, d, tt, oo⟩ := s
    obtain ⟨hat, h⟩ := h
    have f1 := AutoSeq1.idx_int
    wp_walk using wpAny_loadPart' hat
    repeat (first
      | (refine wpAny_ite_false (decide_eq_false (by rw [z0]; exact Bool.false_ne_true)) ?_; wp_walk using wpAny_loadPart' hat)
      | (refine wpAny_ite_true (decide_eq_true z1) ?_; wp_walk using wpAny_loadPart' hat))
    exact ⟨_, rfl, h⟩
theorem tuple_mulNone (l : Addr) (its0 : Array Value) (n : Nat) (dn : Option Addr) (sn : Array (Option Value)) (x : Int) (u : Tok) (z0 : (decide (x < -(2 ^ 63)) || decide (x ≥ 2 ^ 63)) = false) (z1 : (its0.isEmpty || x == 1) = false) (z2 : (decide (x ≤ 0) || its0.isEmpty) = true) :
    Meets (Builtin.«tuple.__mul__» ⟨[.ref l, .int x u], []⟩) (fun _ Z s => s.heap.get? l = some { cls := .type "tuple", dict := dn, data := .seq its0 n, slots := sn } ∧
      Z (.ok (.ret (Value.ref s.heap.objs.size))) { s with heap := s.heap.push { cls := Value.type "tuple", data := Data.seq #[] }, toks := s.toks }) :=
  .of_wp fun prog w A Z s h => by
    obtain ⟨hh, g, d, tt, oo⟩ := s
    obtain ⟨hat, h⟩ := h
    have f1 := AutoSeq1.idx_int
    wp_walk using wpAny_loadPart' hat
    repeat (first
      | (refine wpAny_ite_false (decide_eq_false (by rw [z0]; exact Bool.false_ne_true)) ?_; wp_walk using wpAny_loadPart' hat)
      | (refine wpAny_ite_false (decide_eq_false (by rw [z1]; exact Bool.false_ne_true)) ?_; wp_walk using wpAny_loadPart' hat)
      | (refine wpAny_ite_true (decide_eq_true z2) ?_; wp_walk using wpAny_loadPart' hat))
    exact ⟨_, rfl, h⟩
def rRepA (K : PySem.W.Frag) : R2 := fun x y H Q => ∃ l k ws, x = .ref l ∧ y = .int k ∧ SqT K H l ws ∧ -1000 ≤ k ∧ k ≤ 1000 ∧ ws.length ≤ 1000 ∧ (ws = [] ∨ k = 1 → Q (.ref l) H) ∧ (ws ≠ [] → k ≠ 1 → ∀ p, H p = none → Q (.ref p) (upd H p (.tup (List.replicate k.toNat ws).flatten)))
section
variable {X : Cx}
theorem op_repA : OpR X (binaryOp .Mult) (rRepA X.K) := by
  intro pn s σ H x y v u Q I rx ry h
  obtain ⟨l, k, ws, rfl, rfl, isT, h0, h1, hz, q1, q2⟩ := h
  by_cases hk : 2 ≤ k ∧ ws ≠ []
  · exact op_repT pn s σ H _ _ v u Q I rx ry ⟨l, k, ws, rfl, rfl, isT, hk.2, hk.1, h1, hz, q2 hk.2 (by omega)⟩
  cases rx
  obtain ⟨t, rfl⟩ := ry
  obtain ⟨el, r, ⟨⟨cq, dn, dq, sn⟩, obq, clq, n, dat⟩, szq⟩ := I.tuple isT
  simp only at clq dat
  subst clq dat
  have len0 : el.length = ws.length := r.length.symm
  have z0 : (decide (k < -(2 ^ 63)) || decide (k ≥ 2 ^ 63)) = false := by
    rw [decide_eq_false (by omega), decide_eq_false (by omega)] <;> rfl
  by_cases hs1 : ws = [] ∨ k = 1
  · have z1 : (el.toArray.isEmpty || k == 1) = true := by
      rcases hs1 with z | z
      · have : el = [] := List.eq_nil_of_length_eq_zero (by rw [len0, z]; rfl)
        subst this
        rfl
      · subst z
        rw [beq_self_eq_true, Bool.or_true]
    refine wpAny_binaryOp_repeat_ref (T := "tuple") (U := "int") (by decide) ⟨_, obq, rfl⟩ (fun s' => typeIs_int s' k t) noFill_tuple_mul F.fills_int_mul F.slot_int_rmul repeat_tuple F.slot_int_index.lookup
      (call_meets F.slot_int_rmul (typeIs_int s k t) F.entry_int_rmul (F.args_int_rmul_2 _ _) (int_rmul_tuple k t l el.toArray n dn sn)
        ⟨obq, rfl, ⟨_, obq, rfl⟩, call_meets F.slot_tuple_mul ⟨_, obq, rfl⟩ F.entry_tuple_mul (F.args_tuple_mul_2 _ _) (tuple_mulSame l el.toArray n dn sn k t z0 z1) ⟨obq, ?_⟩⟩)
    exact ⟨.ref l, H, I, rfl, q1 hs1⟩
  · have nn : ws ≠ [] := fun e => hs1 (.inl e)
    have hk1 : k ≠ 1 := fun e => hs1 (.inr e)
    have nil0 : el ≠ [] := fun e => nn (by
      rw [e] at len0
      exact List.eq_nil_of_length_eq_zero len0.symm)
    have emp0 : el.toArray.isEmpty = false := by
      cases el with
      | nil => exact absurd rfl nil0
      | cons a b => rfl
    have z1 : (el.toArray.isEmpty || k == 1) = false := by
      rw [emp0, Bool.false_or]
      exact beq_eq_false_iff_ne.mpr hk1
    have z2 : (decide (k ≤ 0) || el.toArray.isEmpty) = true := by
      have : k ≤ 0 := by
        have : ¬ 2 ≤ k := fun e => hk ⟨e, nn⟩
        omega
      rw [decide_eq_true this, Bool.true_or]
    have e0 : List.replicate k.toNat ws = [] := by
      have : k.toNat = 0 := by
        have : ¬ 2 ≤ k := fun e => hk ⟨e, nn⟩
        omega
      rw [this]; rfl
    refine wpAny_binaryOp_repeat_ref (T := "tuple") (U := "int") (by decide) ⟨_, obq, rfl⟩ (fun s' => typeIs_int s' k t) noFill_tuple_mul F.fills_int_mul F.slot_int_rmul repeat_tuple F.slot_int_index.lookup
      (call_meets F.slot_int_rmul (typeIs_int s k t) F.entry_int_rmul (F.args_int_rmul_2 _ _) (int_rmul_tuple k t l el.toArray n dn sn)
        ⟨obq, rfl, ⟨_, obq, rfl⟩, call_meets F.slot_tuple_mul ⟨_, obq, rfl⟩ F.entry_tuple_mul (F.args_tuple_mul_2 _ _) (tuple_mulNone l el.toArray n dn sn k t z0 z1 z2) ⟨obq, ?_⟩⟩)
    have q := fun p hh => q2 nn hk1 p hh
    rw [e0, List.flatten_nil] at q
    refine ⟨.ref s.heap.objs.size, _, I.laid (t' := s.toks) (o := .tup []) (fun b ob q => Heap.get?_push_of_some _ q) (Nat.le_refl _) ?_, rfl, q _ (I.hok.fresh (Nat.le_refl _))⟩
    exact ⟨by rw [sizeLine_eq]; decide, _, .nil, IsTup.new _ _⟩
theorem fold_size {α : Type} (b : Array α) : ∀ (k : Nat) (a : Array α), ((List.replicate k b).foldl (· ++ ·) a).size = a.size + k * b.size
  | 0, a => by simp
  | k + 1, a => by
    rw [List.replicate_succ, List.foldl_cons, fold_size b k, Array.size_append, Nat.succ_mul]
    omega
def repS (x : Str) (k : Int) : Str := if k < 1 then Str.empty else if (k == 1 || x.length == 0) = true then x else ⟨(List.replicate k.toNat x.cps).foldl (· ++ ·) #[]⟩
theorem op_repS : OpR X (binaryOp .Mult) (fun x y H Q => ∃ i k, x = .str i ∧ y = .int k ∧ -1000 ≤ k ∧ k ≤ 1000 ∧ i.length ≤ 1000 ∧ Q (.str (repS i k)) H) := by
  intro pn s σ H x y v u Q I rx ry h
  obtain ⟨i, k, rfl, rfl, h0, h1, hz, q⟩ := h
  obtain ⟨t, rfl⟩ := rx
  obtain ⟨t', rfl⟩ := ry
  have c0 : (decide (k < -(2 ^ 63 : Int)) || decide (k ≥ 2 ^ 63)) = false := by
    rw [decide_eq_false (by omega), decide_eq_false (by omega)] <;> rfl
  refine P.mul_str c0 (fun hk _ => ?_) (fun hk _ => ?_) ?_
  · have : (2 ^ 63 - 1) / k ≥ 1000 := by
      have h2 : (1000 : Int) * k ≤ 2 ^ 63 - 1 := by omega
      exact (Int.le_ediv_iff_mul_le (by omega)).mpr h2
    omega
  · unfold Builtin.Str.tooLong
    rw [sizeLine_eq]
    have : i.length * k.toNat ≤ 1000 * 1000 := Nat.mul_le_mul hz (by omega)
    exact decide_eq_false (by omega)
  · unfold repS at q
    by_cases hk : k < 1
    · rw [if_pos hk] at q ⊢
      exact ⟨by decide, .str Str.empty, H, I.tok _, ⟨_, rfl⟩, q⟩
    · rw [if_neg hk] at q ⊢
      by_cases hs : (k == 1 || i.length == 0) = true
      · rw [if_pos hs] at q ⊢
        exact ⟨.str i, H, I, ⟨t, rfl⟩, q⟩
      · rw [if_neg hs] at q ⊢
        refine ⟨?_, .str _, H, I.tok _, ⟨_, rfl⟩, q⟩
        show ((List.replicate k.toNat i.cps).foldl (· ++ ·) #[]).size ≤ sizeLine
        rw [fold_size, sizeLine_eq]
        have : k.toNat * i.cps.size ≤ 1000 * 1000 := Nat.mul_le_mul (by omega) hz
        simp
        omega
end
def gMulT : D → D → Option D
  | .tup a, .int k => if a.length ≤ 1000 ∧ -1000 ≤ k ∧ k ≤ 1000 then some (.tup (List.replicate k.toNat a).flatten) else none
  | .str x, .int k => if x.length ≤ 1000 ∧ -1000 ≤ k ∧ k ≤ 1000 then some (.str (repS x k)) else none
  | d, e => gMul d e
def rStrM : R2 := fun x y H Q => ∃ i k, x = .str i ∧ y = .int k ∧ -1000 ≤ k ∧ k ≤ 1000 ∧ i.length ≤ 1000 ∧ Q (.str (repS i k)) H
abbrev rMulT (K : PySem.W.Frag) : R2 := fun x y H Q => rMulA x y H Q ∨ rRepA K x y H Q ∨ rStrM x y H Q
theorem op_mulT {X : Cx} : OpR X (binaryOp .Mult) (rMulT X.K) := op_mulA.or (op_repA.or op_repS)
theorem r_mulT {c : Dc} : RuleB c (rMulT c.K) gMulT := by
  intro F O T H d e v u d' Q fit hv hu g q
  by_cases ht : ∃ a k, d = .tup a ∧ e = .int k
  · obtain ⟨a, k, rfl, rfl⟩ := ht
    simp only [gMulT] at g
    split at g <;> cases g
    rename_i hz
    obtain ⟨p, xs, rfl, h1, z1, h2⟩ := hv
    have hl := h2.length
    refine .inr (.inl ⟨p, k, xs, rfl, hu, sqT_mono fit.f h1, hz.2.1, hz.2.2, by omega, fun hs => ?_, fun hne hk r hr => ?_⟩)
    · have e1 : (List.replicate k.toNat a).flatten = a := by
        rcases hs with z | z
        · have : a = [] := List.eq_nil_of_length_eq_zero (by rw [hl, z]; rfl)
          subst this
          simp
        · subst z
          simp
      rw [e1] at q
      exact q _ F H (Same.refl _) fit ⟨p, xs, rfl, h1, z1, h2⟩
    · have nF := upd_none fit.f hr
      exact q _ (upd F r _) _ (same_upd nF) (fit.new hr) ⟨r, _, rfl, SqT.of upd_same, by
        rw [len_rep, sizeLine_eq]
        have : a.length * k.toNat ≤ 1000 * 1000 := Nat.mul_le_mul hz.1 (by omega)
        omega, Dens.mono (same_upd nF) _ _ (h2.rep _)⟩
  · by_cases hs : ∃ a k, d = .str a ∧ e = .int k
    · obtain ⟨a, k, rfl, rfl⟩ := hs
      simp only [gMulT] at g
      split at g <;> cases g
      rename_i hz
      exact .inr (.inr ⟨a, k, hv, hu, hz.2.1, hz.2.2, hz.1, q _ F H (Same.refl _) fit rfl⟩)
    · have g' : gMul d e = some d' := by
        cases d <;> cases e <;> first | exact g | exact absurd ⟨_, _, rfl, rfl⟩ ht | exact absurd ⟨_, _, rfl, rfl⟩ hs
      exact .inl (r_mul F O T H d e v u d' Q fit hv hu g' q)
end VS
namespace VS
open PySem PySem.Spec PyProof.Rows L2
end VS
namespace VS
open PySem PySem.Spec PyProof.Rows L2
end VS
namespace VS
open PySem PySem.Spec PyProof.Rows L2
end VS
namespace VS
open PySem PySem.Spec PyProof.Rows L2
section
variable {c : Dc} {F F' O T H H' : Hp}
theorem Paired.len {R : D → V → Prop} {ds : List D} {vs : List V} (h : Paired R ds vs) : ds.length = vs.length := by
  induction h with
  | nil => rfl
  | cons _ _ ih => simp [ih]
end
end VS
namespace VS
open PySem PySem.Spec PyProof.Rows L2
end VS
namespace VS
open PySem PySem.Spec PyProof.Rows L2
mutual
def noL : D → Bool
  | .lst _ => false | .scr _ => false | .exc _ _ _ => false | .tup xs => noLs xs | .dct _ xs => noLs xs | .dcT _ xs => noLs xs | .ins _ _ xs => noLs xs | _ => true
def noLs : List D → Bool
  | [] => true
  | d :: ds => noL d && noLs ds
end
section
variable {c : Dc} {F F' O T H H' : Hp} {a : Addr} {us : List V}
abbrev ButA (a : Addr) (F F' : Hp) : Prop := ∀ b o, b ≠ a → F b = some o → F' b = some o
mutual
theorem noL_den (ha : F a = some (.lst us)) (m : ButA a F F') : ∀ (d : D) (v : V), noL d = true → Den c F d v → Den c F' d v
  | .non, _, _, h => h
  | .bl _, _, _, h => h
  | .int _, _, _, h => h
  | .str _, _, _, h => h
  | .cls _, _, _, h => h
  | .st, _, _, h => h
  | .opq _, _, _, h => h
  | .tup ds, _, q, h => by
    simp only [Den] at h ⊢
    obtain ⟨x, vs, h1, h2, hz, h3⟩ := h
    refine ⟨x, vs, h1, ?_, hz, noLs_den ha m ds vs (by simpa only [noL] using q) h3⟩
    rcases h2 with (h | ⟨o, h⟩) | h
    · exact .inl (.inl (m _ _ (fun z => by rw [z, ha] at h; cases h) h))
    · exact .inl (.inr ⟨o, m _ _ (fun z => by rw [z, ha] at h; cases h) h⟩)
    · exact .inr h
  | .dct ks ds, _, q, h => by
    simp only [Den] at h ⊢
    obtain ⟨x, kv, h1, h2, h3, h4⟩ := h
    exact ⟨x, kv, h1, m _ _ (fun z => by rw [z, ha] at h2; cases h2) h2, h3, noLs_den ha m ds _ (by simpa only [noL] using q) h4⟩
  | .lst _, _, q, _ => by simp [noL] at q
  | .exc _ _ _, _, q, _ => by simp [noL] at q
  | .scr _, _, q, _ => by simp [noL] at q
  | .odk _, _, _, h => by
    obtain ⟨x, y, h1, h2, h3⟩ := h
    exact ⟨x, y, h1, m _ _ (fun z => by rw [z, ha] at h2; unfold OddO at h2; cases h2) h2, fun z => m _ _ (fun z' => by rw [z', ha] at h3; cases h3 z) (h3 z)⟩
  | .dcT ks ds, _, q, h => by
    simp only [Den] at h ⊢
    obtain ⟨x, kv, h1, h2, h3, h4⟩ := h
    exact ⟨x, kv, h1, m _ _ (fun z => by rw [z, ha] at h2; cases h2) h2, h3, noLs_den ha m ds _ (by simpa only [noL] using q) h4⟩
  | .ins n ns ds, _, q, h => by
    simp only [Den] at h ⊢
    obtain ⟨x, C, dx, fs, h1, h2, h3, h4, h5⟩ := h
    exact ⟨x, C, dx, fs, h1, h2, m _ _ (fun z => by rw [z, ha] at h3; cases h3) h3, h4, noLs_den ha m ds _ (by simpa only [noL] using q) h5⟩
theorem noLs_den (ha : F a = some (.lst us)) (m : ButA a F F') : ∀ (ds : List D) (vs : List V), noLs ds = true → Dens c F ds vs → Dens c F' ds vs
  | [], _, _, h => h
  | d :: ds, _, q, h => by
    simp only [Dens] at h ⊢
    simp only [noLs, Bool.and_eq_true] at q
    obtain ⟨v, r, h1, h2, h3⟩ := h
    exact ⟨v, r, h1, noL_den ha m d v q.1 h2, noLs_den ha m ds r q.2 h3⟩
end
theorem Fits.setF {us' : List V} (fit : Fits F O T H) (ha : F a = some (.lst us)) : Fits (upd F a (.lst us')) O T (upd H a (.lst us')) where
  f := fun b o e => by
    by_cases hb : b = a
    · subst hb; rw [upd_same] at e ⊢; exact e
    · rw [upd_ne hb] at e ⊢; exact fit.f b o e
  o := fun b o e => by
    have hb : b ≠ a := fun z => by
      subst z
      have := fit.fo b (by rw [e]; simp)
      rw [ha] at this; cases this
    rw [upd_ne hb]; exact fit.o b o e
  t := fun b o e => by
    have hb : b ≠ a := fun z => by
      subst z
      have := fit.ft b (by rw [e]; simp)
      rw [ha] at this; cases this
    rw [upd_ne hb]; exact fit.t b o e
  fo := fun b q => by
    have hb : b ≠ a := fun z => by
      subst z
      have := fit.fo b q
      rw [ha] at this; cases this
    rw [upd_ne hb]; exact fit.fo b q
  ft := fun b q => by
    have hb : b ≠ a := fun z => by
      subst z
      have := fit.ft b q
      rw [ha] at this; cases this
    rw [upd_ne hb]; exact fit.ft b q
  ot := fit.ot
  nt := fun b o e => by
    by_cases hb : b = a
    · subst hb; rw [upd_same] at e; cases e; exact fun _ q => by cases q
    · rw [upd_ne hb] at e; exact fit.nt b o e
  ld := fit.ld
end
def envOk (j : Nat) (env : Env) : Bool := (env.set j none).all fun o => match o with | some d => noL d | none => true
theorem envOk_at {j i : Nat} {env : Env} {d : D} (h : envOk j env = true) (n : i ≠ j) (e : env[i]? = some (some d)) : noL d = true := by
  unfold envOk at h
  have e2 : (env.set j none)[i]? = some (some d) := by rw [set_ne' n]; exact e
  exact List.all_eq_true.mp h _ (List.mem_of_getElem? e2)
structure MB where
  F : Hp
  O : Hp
  T : Hp
  a : Addr
def PostM (c : Dc) (m : MB) (r : Res (Fl × DS)) (Dn : Ends) : Prop := match r with
  | .ok (.rt (.tup [d, .lst xs]), _) => ∀ v F' H' us, Same m.F F' → Fits F' (upd m.O m.a (.lst us)) m.T H' → Dens c F' xs us → xs.length ≤ sizeLine → noLs xs = true → Den c F' d v → Dn.rt v H'
  | _ => False
structure MSt (b : Bc) (m : MB) (j : Nat) (F O H : Hp) (σ : L2.St) (env : Env) (S : DS) (us : List V) (xs : List D) : Prop where
  P : Pre b F O F O H σ env S
  tp : b.TP = exT m.T
  hf : b.stf = false
  hown : b.own = []
  fa : F m.a = some (.lst us)
  mf : Same m.F F
  ma : m.F m.a = none
  mo : Same (del m.O m.a) O
  ej : env[j]? = some (some (.lst xs))
  sj : σ[j]? = some (some (.ref m.a))
  dx : Dens b.c F xs us
  nx : noLs xs = true
  lx : xs.length ≤ sizeLine
section
variable {b : Bc} {m : MB} {j i : Nat} {F O H F1 H1 : Hp} {σ : L2.St} {env : Env} {S S1 : DS} {us us' : List V} {xs xs' : List D} {d : D} {v : V} {Dn : Ends}
theorem MSt.fit (M : MSt b m j F O H σ env S us xs) : Fits F O m.T H := by
  obtain ⟨T0, tp, fit⟩ := M.P.fit
  rw [M.tp] at tp
  cases (show T0 = m.T from tp)
  unfold Bc.T at fit
  rw [if_neg (by rw [M.hf]; exact Bool.false_ne_true)] at fit
  exact fit
theorem MSt.grow (M : MSt b m j F O H σ env S us xs) (s : Same F F1) (fit : FitB b F1 O S1 H1) (I : b.I S1 F1) : MSt b m j F1 O H1 σ env S1 us xs :=
  have P1 := M.P.grow s fit I
  ⟨⟨P1.fit, Same.refl _, Same.refl _, P1.inv, P1.slot, fun i d _ n => (by rw [M.hown] at n; cases n), P1.sep, P1.len⟩, M.tp, M.hf, M.hown, s _ _ M.fa, M.mf.trans s, M.ma, M.mo, M.ej, M.sj, Dens.mono s _ _ M.dx, M.nx, M.lx⟩
theorem MSt.chg (M : MSt b m j F O H σ env S us xs) (ok : envOk j env = true) (hd : Dens b.c F xs' us') (hn : noLs xs' = true) (hl : xs'.length ≤ sizeLine) : MSt b m j (upd F m.a (.lst us')) O (upd H m.a (.lst us')) σ (env.set j (some (.lst xs'))) S us' xs' := by
  have hb : ButA m.a F (upd F m.a (.lst us')) := fun x o n e => by rw [upd_ne n]; exact e
  have hd2 := noLs_den M.fa hb xs' us' hn hd
  have hlt : j < env.length := (List.getElem?_eq_some_iff.mp M.ej).1
  refine ⟨⟨⟨m.T, by rw [M.tp]; rfl, ?_⟩, Same.refl _, Same.refl _, fun q => absurd q (by rw [M.hf]; exact Bool.false_ne_true), fun i d h n => ?_, fun i d _ n => (by rw [M.hown] at n; cases n), fun i k x hi => (by rw [M.hown] at hi; cases hi), (by rw [M.P.len, List.length_set])⟩, M.tp, M.hf, M.hown, upd_same, fun x o e => hb x o (fun z => by rw [z, M.ma] at e; cases e) (M.mf x o e), M.ma, M.mo, ?_, M.sj, hd2, hn, hl⟩
  · unfold Bc.T
    rw [if_neg (by rw [M.hf]; exact Bool.false_ne_true)]
    exact M.fit.setF M.fa
  · rcases get_set h with ⟨rfl, e, _⟩ | ⟨ne, h⟩
    · cases e
      exact ⟨_, M.sj, m.a, us', rfl, upd_same, hl, hd2⟩
    · obtain ⟨v, h1, h2⟩ := M.P.slot i d h n
      exact ⟨v, h1, noL_den M.fa hb d v (envOk_at ok ne h) h2⟩
  · exact List.getElem?_set_self hlt
def tM1 (b : Bc) (_E : XK) (j : Nat) (g : MS) : TS := fun Dn σ H => ∃ (m : MB) (F O : Hp) (env : Env) (S : DS) (us : List V) (xs : List D), MSt b m j F O H σ env S us xs ∧ PostM b.c m (g env S) Dn
theorem PostM.bind {α : Type} {E : XK} {x : Res (α × DS)} {k : α → DS → Res (Fl × DS)} (h : PostM b.c m (bindM x k) Dn) : Post b E O F x fun a S' F' H' => PostM b.c m (k a S') Dn := by
  cases x with
  | ok p => obtain ⟨a, S'⟩ := p; exact fun F2 H2 e2 _ _ => h
  | exc n f fs S' => exact False.elim h
  | bad => exact False.elim h
end
end VS
namespace VS
open PySem PySem.Spec PyProof.Rows L2
def ArgP (R1 R2 : D → V → Prop) : List Bool → List D → List V → Prop
  | [], [], [] => True
  | k :: ks, d :: ds, v :: vs => (if k = true then R2 d v else R1 d v) ∧ ArgP R1 R2 ks ds vs
  | _, _, _ => False
theorem ArgP.len {R1 R2 : D → V → Prop} : ∀ {ks : List Bool} {ds : List D} {vs : List V}, ArgP R1 R2 ks ds vs → ds.length = ks.length ∧ vs.length = ks.length
  | [], [], [], _ => ⟨rfl, rfl⟩
  | k :: ks, d :: ds, v :: vs, h => by have := ArgP.len h.2; simp [this.1, this.2]
  | [], _ :: _, _, h => False.elim h
  | [], [], _ :: _, h => False.elim h
  | _ :: _, [], _, h => False.elim h
  | _ :: _, _ :: _, [], h => False.elim h
theorem ArgP.at {R1 R2 : D → V → Prop} : ∀ {ks : List Bool} {ds : List D} {vs : List V} {m : Nat}, ArgP R1 R2 ks ds vs → ks[m]? = some true → ∃ d v, ds[m]? = some d ∧ vs[m]? = some v ∧ R2 d v
  | k :: ks, d :: ds, v :: vs, 0, h, e => by
    have e : k = true := by simpa using e
    have h1 := h.1
    rw [if_pos e] at h1
    exact ⟨d, v, rfl, rfl, h1⟩
  | k :: ks, d :: ds, v :: vs, m + 1, h, e => by
    obtain ⟨d', v', h1, h2, h3⟩ := ArgP.at (m := m) h.2 (by simpa using e)
    exact ⟨d', v', by simpa using h1, by simpa using h2, h3⟩
  | [], _, _, _, _, e => by simp at e
  | _ :: _, [], _, _, h, _ => False.elim h
  | _ :: _, _ :: _, [], _, h, _ => False.elim h
theorem ArgP.imp {R1 R1' R2 : D → V → Prop} (f : ∀ d v, R1 d v → R1' d v) : ∀ {ks : List Bool} {ds : List D} {vs : List V}, ArgP R1 R2 ks ds vs → ArgP R1' R2 ks ds vs
  | [], [], [], h => h
  | k :: ks, d :: ds, v :: vs, h => ⟨by
    have h1 := h.1
    split at h1
    · rename_i e; rw [if_pos e]; exact h1
    · rename_i e; rw [if_neg e]; exact f d v h1, ArgP.imp f h.2⟩
  | [], _ :: _, _, h => False.elim h
  | [], [], _ :: _, h => False.elim h
  | _ :: _, [], _, h => False.elim h
  | _ :: _, _ :: _, [], h => False.elim h
end VS
namespace VS
open PySem PySem.Spec PyProof.Rows L2
def spIni (K : PySem.W.Frag) (fl : Str) : Sp := fun vs H Q E => vs.length = 2 ∧ ∃ (a C : Addr) (v : V), vs = [.ref a, v] ∧ OexC K C ∧ PySem.W.findIn K (.ref C) fl = some none ∧ H a = some (exo a C none) ∧
  ∀ dx, H dx = none → dx ≠ a → Q .non (upd (upd H dx (exd dx [(fl, v)])) a (exo a C (some dx)))
section
variable {P : Program} {w : World} {K : PySem.W.Frag} {mg : Str → Option Value} {base : Heap}
theorem okIni {x qual fl y : Str} {st : Stmt} {f : Addr} {fd : FuncData} {k : Nat} (F : Fun K x qual st f fd) (S : FnScope ["self", y] ["self", y] (defScope st)) {p1 p2 p3 p4 : Pos}
    (hb : defBody st = [.Assign [.Attribute (.Name "self" p1) fl p2] (.Name y p3) p4])
    (hv1 : ∀ (cdv : Value) (A : Around) (outer : List PySem.Env) (s : Shared) (H : Hp) (E : XK), Vis (cxOf (L2.CX P w) P w K mg base ["self", y] qual (defScope st) f cdv A outer s H E).env.scope "self")
    (hv2 : ∀ (cdv : Value) (A : Around) (outer : List PySem.Env) (s : Shared) (H : Hp) (E : XK), Vis (cxOf (L2.CX P w) P w K mg base ["self", y] qual (defScope st) f cdv A outer s H E).env.scope y)
    (hd : (y == ("__debug__" : Str)) = false) (hcd : (y == ("__classdict__" : Str)) = false) : FnOk P w K mg base (L2.CX P w) (k + 1) f fd ["self", y] (spIni K fl) := by
  refine F.okX S (fun vs H Q E h => h.1) fun cdv A outer s H vs Q E hr h => ?_
  obtain ⟨hl, a, C, v, rfl, T, hno, ha, h⟩ := h
  rw [hb]
  refine ⟨_, pss_one (ps_ost (pe_var (i := 0) rfl (hv1 cdv A outer s H E)) (pe_var (i := 1) rfl (hv2 cdv A outer s H E) hd hcd)), ?_⟩
  exact ⟨v, rfl, .ref a, rfl, a, C, rfl, T, hno, .inl ⟨ha, fun dx n ne => h dx n ne⟩⟩
end
def tXO (K : PySem.W.Frag) (n : Str) (te : TE) : TE := fun σ H Q => te σ H fun x H1 => ∃ (a C dd : Addr) (fs : List (Str × V)) (v : V), x = .ref a ∧ XfC K C ∧ PySem.W.findIn K (.ref C) n = some none ∧ H1 a = some (ExO (.ref C) (some dd) a) ∧ H1 dd = some (.xd fs) ∧ fs.lookup n = some v ∧ Q v H1
theorem pe_xo {X : Cx} {e : Expr} {te : TE} {pos : Pos} {n : Str} (he : PE X e te) (hb : attributeBase e n X.env (eval e X.env) = eval e X.env := by rfl) : PE X (.Attribute e n pos) (tXO X.K n te) := by
  refine ⟨fun pins s σ H Q I h => ?_⟩
  refine attr_of hb (thn (he.run pins s σ H _ I h) fun u s1 hh => ?_)
  obtain ⟨x, H1, I1, rx, a, C, dd, fs, v, ex, T, hno, ha, ea, l, q⟩ := hh
  subst ex
  obtain rfl : u = Value.ref a := rx
  have hz : ObjOk X.prog X.w H1 s1.heap a (ExO (.ref C) (some dd) a) := I1.hok a _ ha
  obtain ⟨⟨oe, vs, hg, z, hd⟩, _⟩ := hz
  have hx : ObjOk X.prog X.w H1 s1.heap dd (.xd fs) := I1.hok dd _ ea
  obtain ⟨mA, hns, hr⟩ := hx
  obtain ⟨od, ho, hl⟩ := lookIn_ns hns
  obtain ⟨u, hu, ru⟩ := RelO.some_of (v := v) (o := mA n) (by rw [← l]; exact hr n)
  have J : PySem.W.InstAt s1.heap a oe C (some od) := ⟨hg, z.1, by unfold PySem.W.notCls; rw [hd] <;> rfl, by rw [z.2]; exact ho⟩
  exact HandSPX.exc_get I1.kIn J T.ga T.gg T.exC (PySem.W.findObj_own T.hdC hno rfl (by rw [hl, hu])) (handed_of ru) ⟨v, H1, I1.tok _, ru, q⟩
def gFld (known : List Str) (fl : Str) : D → Option D
  | .exc n f [d] => if known.contains n = true ∧ f = fl then some d else none
  | _ => none
theorem e_fld {X : Cx} {b : Bc} {E : XK} {e : Expr} {f1 : ME} {pos : Pos} (known : List Str) (fl : Str) (hc : b.c.K = X.K ∧ b.c.mg = X.mg) (hk : ∀ n ∈ known, ∀ C, X.mg n = some (.ref C) → XfC X.K C ∧ PySem.W.findIn X.K (.ref C) fl = some none)
    (h : ∀ te, PE X e te → PE X (.Attribute e fl pos) (tXO X.K fl te)) (h1 : PE X e (tE b E f1)) : PE X (.Attribute e fl pos) (tE b E (unM (gFld known fl) f1)) :=
  PE.imp (h _ h1) fun σ H Q ⟨F0, O0, F, O, env, S, P, h⟩ => ⟨F0, O0, F, O, env, S, P, (Post.bind h).imp fun d S1 F1 H1 s1 fit1 I1 k' v hv => by
    obtain ⟨d', e', k2⟩ := Post.ofO k'
    cases d with
    | exc n f fs =>
      match fs with
      | [] => simp [gFld] at e'
      | _ :: _ :: _ => simp [gFld] at e'
      | [d] =>
        simp only [gFld] at e'
        split at e'
        · rename_i hh
          cases e'
          obtain ⟨a, C, dd, us, rfl, q1, q2, q3, q4⟩ := hv
          simp only [Dens] at q3
          obtain ⟨u, r, rfl, q5, rfl⟩ := q3
          obtain ⟨p, rfl, q6⟩ := q4
          obtain ⟨T, hno⟩ := hk n (by simpa using hh.1) C (by rw [← hc.2]; exact q1)
          rw [hh.2] at q6
          exact ⟨a, C, p, [(fl, u)], u, rfl, T, hno, fit1.f _ _ q2, fit1.f _ _ q6, by simp, k2 F1 H1 (Same.refl _) fit1 I1 _ q5⟩
        · cases e'
    | _ => simp [gFld] at e'⟩
end VS
namespace VS
open PySem PySem.Spec PyProof.Rows L2
end VS
namespace VS
open PySem PySem.Spec PyProof.Rows L2
end VS
namespace VS
open PySem PySem.Spec PyProof.Rows L2
open RZ (iZipA pi_zipA ItzT)
end VS
namespace VS
open PySem PySem.Spec PyProof.Rows L2
mutual
def flatP : PyData → Bool
  | .none => true
  | .bool _ => true
  | .int _ => true
  | .str _ => true
  | .tuple xs => flatPs xs
  | _ => false
def flatPs : List PyData → Bool
  | [] => true
  | x :: xs => flatP x && flatPs xs
end
section
variable {X : Cx} {pins : List (Addr × Obj)} {σ : L2.St} {H : Hp} {s : Shared}
mutual
theorem reads0 (I : Inv X pins σ H s) : ∀ (d : PyData) (v : V) (u : Value), Dp X.K H v d → flatP d = true → RelV v u → Reads s.heap u d []
  | .none, _, _, h, _, r => by cases h; cases r; exact Reads.none
  | .bool b, _, _, h, _, r => by cases h; cases r; exact Reads.bool b
  | .int i, _, _, h, _, r => by cases h; obtain ⟨t, rfl⟩ := r; exact Reads.int i t
  | .str x, _, _, h, _, r => by cases h; obtain ⟨t, rfl⟩ := r; exact Reads.str x t
  | .list ds, _, _, _, f, _ => by simp [flatP] at f
  | .tuple ds, _, _, h, f, r => by
    cases h with
    | tup hs ha =>
      cases r
      obtain ⟨its, rv, ⟨o, ho, hc, n, hd⟩, _⟩ := I.tuple hs
      exact Reads.tuple ho hc hd (reads0s I ds _ its ha (by simpa [flatP] using f) rv)
  | .dict _, _, _, h, _, _ => by cases h
theorem reads0s (I : Inv X pins σ H s) : ∀ (ds : List PyData) (vs : List V) (us : List Value), DpAll X.K H vs ds → flatPs ds = true → Vals vs us → ReadsAll s.heap us ds []
  | [], _, _, h, _, r => by cases h; cases r; exact ReadsAll.nil
  | d :: ds, _, _, h, f, r => by
    rw [flatPs, Bool.and_eq_true] at f
    cases h with
    | cons h1 h2 =>
      cases r with
      | cons r1 r2 => exact ReadsAll.cons (reads0 I d _ _ h1 f.1 r1) (reads0s I ds _ _ h2 f.2 r2)
end
end
def keyP : Key → PyData
  | .inl i => .int i
  | .inr x => .str x
def kvP (ks : List Key) (ps : List PyData) : PyData := .dict ((ks.map keyP).zip ps)
def reprOkK (p : PyData) : Bool := p.showable && decide (p.depth ≤ 64) && decide (p.shown.length ≤ 1000000)
def gReprA : List D → Option D
  | [.dct ks xs] => (toPyL xs).bind fun ps => if (ks.length == ps.length && flatPs ps && reprOkK (kvP ks ps)) = true then some (.str (kvP ks ps).shown) else none
  | ds => gRepr ds
def rReprD (K : PySem.W.Frag) : List V → Hp → VK → Prop := fun vs H Q => ∃ (a : Addr) (kv : List (Key × V)) (ps : List PyData), vs = [.ref a] ∧ H a = some (.dK kv) ∧ DpAll K H (kv.map (·.2)) ps ∧ flatPs ps = true ∧ reprOkK (kvP (kv.map (·.1)) ps) = true ∧ Q (.str (kvP (kv.map (·.1)) ps).shown) H
theorem keysRead {h : Heap} : ∀ (es : List DictEntry) (ks : List Key), es.length = ks.length → (∀ i (hi : i < es.length) k, ks[i]? = some k → keyIs k es[i].key = true) → ReadsAll h (es.map (·.key)) (ks.map keyP) []
  | [], [], _, _ => ReadsAll.nil
  | [], _ :: _, hl, _ => by simp at hl
  | _ :: _, [], hl, _ => by simp at hl
  | e :: es, k :: ks, hl, hk => by
    have h0 := hk 0 (by simp) k rfl
    have r0 : Reads h e.key (keyP k) [] := by
      rcases keyIs_shape h0 with ⟨i, t, rfl, e2⟩ | ⟨x, t, rfl, e2⟩
      · have e2 : e.key = _ := e2
        rw [e2]; exact Reads.int i t
      · have e2 : e.key = _ := e2
        rw [e2]; exact Reads.str x t
    exact ReadsAll.cons r0 (keysRead es ks (by simpa using hl) fun i hi k' e' => by
      have := hk (i + 1) (by simpa using hi) k' (by simpa using e')
      simpa using this)
theorem kv_vals : ∀ {kv : List (Key × V)} {vs : List (Key × Value)}, KV kv vs → Vals (kv.map (·.2)) (vs.map (·.2))
  | _, _, .nil => .nil
  | _, _, .cons h t => .cons h.2 (kv_vals t)
theorem dpAll_len {K : PySem.W.Frag} {H : Hp} : ∀ {vs : List V} {ps : List PyData}, DpAll K H vs ps → vs.length = ps.length
  | _, _, .nil => rfl
  | _, _, .cons _ t => by simp [dpAll_len t]
set_option maxHeartbeats 400000 in
theorem cr_reprA {X : Cx} (hg : X.A.guards = some []) (hu : X.A.units + 100 < cLine) : CallR X (.builtin "repr") (fun vs H Q => rRepr X.K vs H Q ∨ rReprD X.K vs H Q) := by
  intro pins s σ H vs us Q I r h
  rcases h with h | h
  · exact cr_repr hg hu pins s σ H vs us Q I r h
  obtain ⟨a, kv, ps, rfl, hd, hp, hf, hok, q⟩ := h
  rw [Vals.ref1 r]
  simp only [reprOkK, Bool.and_eq_true, decide_eq_true_eq] at hok
  obtain ⟨⟨h1, h3⟩, h4⟩ := hok
  obtain ⟨z, hm, vs, rel, dd⟩ := dk_of I.hok hd
  obtain ⟨es, ep, ⟨o, ho, hc, hdat⟩, hsz, hes⟩ := dd.raw
  have hkeys := rel.keys
  have hvl : kv.length = vs.length := rel.length
  have rk : ReadsAll s.heap (es.toList.map (·.key)) ((kv.map (·.1)).map keyP) [] := keysRead es.toList (kv.map (·.1)) (by rw [Array.length_toList, hsz, List.length_map, hvl]) fun i hi k hk => by
    rw [hkeys, List.getElem?_map, Option.map_eq_some_iff] at hk
    obtain ⟨⟨k', v'⟩, e1, e2⟩ := hk
    cases e2
    have q := (hes i (by simpa using hi) _ _ e1).1
    have q2 : keyIs k' es[i].key = true := q
    simpa using q2
  have ev : es.toList.map (·.val) = vs.map (·.2) := by
    refine List.ext_getElem (by simp [hsz]) fun i q1 q2 => ?_
    have hi : i < es.size := by simpa using q1
    have hv' : i < vs.length := by simpa using q2
    have := (hes i hi _ _ (List.getElem?_eq_getElem hv')).2
    simpa using this
  have rvv := kv_vals rel
  have rv : ReadsAll s.heap (es.toList.map (·.val)) ps [] := by rw [ev]; exact reads0s I ps _ _ hp hf rvv
  have hpl : (kv.map (·.1)).length = ps.length := by rw [← dpAll_len hp, List.length_map, List.length_map]
  have rd : Reads s.heap (.ref a) (kvP (kv.map (·.1)) ps) (a :: [] ++ []) := Reads.dict ho hc.1 hdat (by rw [List.map_fst_zip (by rw [List.length_map, hpl]; exact Nat.le_refl _)]; exact rk) (by rw [List.map_snd_zip (by rw [List.length_map, hpl]; exact Nat.le_refl _)]; exact rv)
  have hns : sysModules ∉ (a :: [] ++ [] : List Addr) := fun z => by
    have e : sysModules = a := List.mem_singleton.mp z
    rw [e, beq_self_eq_true] at hm
    cases hm
  clear rk rv
  generalize kvP (kv.map (·.1)) ps = p at rd h1 h3 h4 q
  have hu2 : X.A.units + (p.depth + 1) < cLine := by omega
  refine repr_of_reads' rd h1 (fun _ => hns) hg hu2 (fun b o e => e) (fun h' u tk hk => ?_) (Nat.le_trans h4 million)
  exact ⟨.str p.shown, H, I.kept (t' := tk) hk, ⟨u, rfl⟩, q⟩
theorem r_reprA {c : Dc} : RuleN c (fun vs H Q => rRepr c.K vs H Q ∨ rReprD c.K vs H Q) gReprA := by
  intro F O T H ds vs d' Q fit hv g q
  match ds, g with
  | [.dct ks xs], g =>
    simp only [gReprA, Option.bind_eq_some_iff] at g
    obtain ⟨ps, e, g⟩ := g
    split at g <;> cases g
    rename_i hok
    simp only [Bool.and_eq_true, beq_iff_eq] at hok
    obtain ⟨⟨h1, h2⟩, h3⟩ := hok
    obtain ⟨v, r, rfl, ⟨a, kv, rfl, q1, rfl, q3⟩, h⟩ := paired1 hv
    cases paired0 h
    exact .inr ⟨a, kv, ps, rfl, q1.elim (fit.f _ _) (fit.o _ _), dpL_of fit.f xs _ ps q3 e, h2, h3, q _ F H (Same.refl _) fit rfl⟩
  | [.lst xs], g => exact .inl (r_repr F O T H _ vs d' Q fit hv g q)
  | [.tup xs], g => exact .inl (r_repr F O T H _ vs d' Q fit hv g q)
end VS
namespace VS
open PySem PySem.Spec PyProof.Rows L2
structure KlsI (K : PySem.W.Frag) (mg : Str → Option Value) (n : Str) (C : Addr) : Prop where
  g : mg n = some (.ref C)
  k : PySem.W.keepIn K (.ref C) = true
  b : PySem.W.subIn K (.ref C) (.type "BaseException") = some true
  t : PySem.W.typeIn K (.ref C) = some (.type "type")
def inClass : Stmt → Stmt
  | .ClassDef _ _ _ (s :: _) _ _ _ _ _ _ _ => s
  | _ => .Pass ⟨0, 0, 0, 0⟩
def FldT (K : PySem.W.Frag) (mg : Str → Option Value) (known : List Str) (fl : Str) : Prop := ∀ n ∈ known, ∀ C, mg n = some (.ref C) → XfC K C ∧ PySem.W.findIn K (.ref C) fl = some none
section
variable {K : PySem.W.Frag} {mg : Str → Option Value} {fl n : Str} {C : Addr} {ns : List Str}
theorem fld_nil : FldT K mg [] fl := fun n hn => by cases hn
theorem fld_cons (g : mg n = some (.ref C)) (x : XfC K C) (no : PySem.W.findIn K (.ref C) fl = some none) (h : FldT K mg ns fl) : FldT K mg (n :: ns) fl := fun m hm D hD => by
  rcases List.mem_cons.mp hm with rfl | hm
  · rw [g] at hD
    cases hD
    exact ⟨x, no⟩
  · exact h m hm D hD
end
end VS
namespace VS
open PySem PySem.Spec PyProof.Rows L2
structure FunC (K : PySem.W.Frag) (x qual : Str) (st : Stmt) (f : Addr) (fd : FuncData) (c : Addr) : Prop where
  ex : ∃ (oc : Value) (od : Option Addr) (kV doc pm : Value) (an : Option Addr) (ct : Value) (osl : Array (Option Value)),
    fd = PySem.W.fnOf x qual (defArgs st) (defBody st) (defScope st) .none kV doc pm an (.ref c) ct ∧ K.lookup f = some ⟨oc, od, .func fd, osl⟩ ∧ PySem.W.codeIn K (.ref c) qual = true
  kp : PySem.W.keepIn K (.ref f) = true
section
variable {P : Program} {w : World} {K : PySem.W.Frag} {mg : Str → Option Value} {base : Heap} {x qual : Str} {st : Stmt} {f c : Addr} {fd : FuncData}
theorem FunC.okX {N ps : List Str} {k : Nat} {sp : Sp} (F : FunC K x qual st f fd c) (S : FnScope N ps (defScope st)) (len : ∀ vs H Q E, sp vs H Q E → vs.length = ps.length)
    (hbody : ∀ (A : Around) (outer : List PySem.Env) (s : Shared) (H : Hp) (vs : List V) (Q : VK) (E : XK), Room k (A.deeper (envOfC qual (defScope st) s.heap.objs.size f (.ref c))) → sp vs H Q E →
      ∃ t, PSs (cxOf (L2.CX P w) P w K mg base N qual (defScope st) f (.ref c) A outer s H E) (defBody st) t ∧ t { nx := fun _ H' => Q .non H', rt := Q } (L2.start N vs) H) : FnOk P w K mg base (L2.CX P w) (k + 1) f fd ps sp := by
  obtain ⟨oc, od, kV, doc, pm, an, ct, osl, rfl, lk, hcd⟩ := F.ex
  exact fn_of lk hcd S len fun A outer s H vs Q E hr hsp => hbody A outer s H vs Q E hr hsp
end
end VS
namespace VS
open PySem PySem.Spec PyProof.Rows L2
def rIsXd (K : PySem.W.Frag) : List V → Hp → VK → Prop := fun xs H Q => ∃ (a A C dd : Addr) (fs : List (Str × V)) (r : Bool), xs = [.ref a, .ref C] ∧ H a = some (ExO (.ref A) (some dd) a) ∧ H dd = some (.xd fs) ∧ ExcC K A ∧ PySem.W.kitOne K (.ref A) (.ref C) = some r ∧ Q (.bl r) H
def rIsD (K : PySem.W.Frag) : List V → Hp → VK → Prop := fun xs H Q => rIsC K xs H Q ∨ rIsXd K xs H Q
theorem call_isD {X : Cx} : CallR X (.builtin "isinstance") (rIsD X.K) := fun pins s σ H xs us Q I r h => by
  rcases h with h | h
  · exact call_isC pins s σ H xs us Q I r h
  · obtain ⟨a, A, C, dd, fs, k, rfl, hH, hD, hA, e, q⟩ := h
    obtain ⟨u1, u2, rfl, r1, r2⟩ := vals2 r
    obtain rfl : u1 = Value.ref a := r1
    obtain rfl : u2 = Value.ref C := r2
    obtain ⟨⟨oe, vs, g, z, d⟩, _⟩ := (show ObjOk X.prog X.w H s.heap a (ExO (.ref A) (some dd) a) from I.hok a _ hH)
    obtain ⟨mA, hns, _⟩ := (show ObjOk X.prog X.w H s.heap dd (.xd fs) from I.hok dd _ hD)
    obtain ⟨od, ho, _⟩ := lookIn_ns hns
    have J : PySem.W.InstAt s.heap a oe A (some od) := ⟨g, z.1, by unfold PySem.W.notCls; rw [d] <;> rfl, by rw [z.2]; exact ho⟩
    have hcl : (PySem.W.clsIn X.K A).isSome = true := by
      have hd := hA.hd
      unfold PySem.W.hasDictIn at hd
      cases hc : PySem.W.clsIn X.K A with
      | none => rw [hc] at hd; cases hd
      | some cd => rfl
    exact PySem.W.kia_one (PySem.W.kitx_exc hcl hA.hg hA.hk hA.hs hA.ha hA.hn hA.ht hA.hm) I.kIn J e (fun z => nomatch z) fun tk => ⟨.bl k, H, I.kept (t' := tk) fun _ _ z => z, rfl, q⟩
def gIsD (tab : List (Str × Bool)) : D → Option D
  | .non => some (.bl false)
  | .exc n _ _ => (tab.lookup n).map .bl
  | _ => none
theorem e_isd {X : Cx} {b : Bc} {E : XK} {e e1 : Expr} {f1 : ME} {C : Addr} (tab : List (Str × Bool)) (hc : b.c.K = X.K ∧ b.c.mg = X.mg) (hN : PySem.W.kitOne X.K (.type "NoneType") (.ref C) = some false)
    (ht : ∀ n r, tab.lookup n = some r → ∀ A, X.mg n = some (.ref A) → ExcC X.K A ∧ PySem.W.kitOne X.K (.ref A) (.ref C) = some r) (hcl : ClsV (.ref C) (.ref C))
    (h : ∀ te, PE X e1 te → PE X e (tCB (rIsD X.K) (tCons te (tCons (tC (.ref C)) tNil)))) (h1 : PE X e1 (tE b E f1)) : PE X e (tE b E (unM (gIsD tab) f1)) :=
  PE.imp (h _ h1) fun σ H Q ⟨F0, O0, F, O, env, S, P, h⟩ => ⟨F0, O0, F, O, env, S, P, (Post.bind h).imp fun d S1 F1 H1 s1 fit1 I1 k' v hv => by
    obtain ⟨d', e', k'⟩ := Post.ofO k'
    cases d with
    | non =>
      simp only [gIsD, Option.some.injEq] at e'
      subst e'
      simp only [Den] at hv
      subst hv
      exact .inl (.inl ⟨.non, .ref C, .type "NoneType", .ref C, false, rfl, hcl, .base .non, hN, k' F1 H1 (Same.refl _) fit1 I1 _ rfl⟩)
    | exc n fl fs =>
      simp only [gIsD, Option.map_eq_some_iff] at e'
      obtain ⟨r, e1, rfl⟩ := e'
      obtain ⟨a, A, dd, us, rfl, q1, q2, q3, q4⟩ := hv
      obtain ⟨hA, hk⟩ := ht n r e1 A (by rw [← hc.2]; exact q1)
      cases us with
      | nil =>
        have q4 : dd = none := q4
        subst q4
        exact .inl (.inr ⟨a, A, C, r, rfl, fit1.f _ _ q2, hA, hk, k' F1 H1 (Same.refl _) fit1 I1 _ rfl⟩)
      | cons u us =>
        obtain ⟨p, rfl, q5⟩ := q4
        exact .inr ⟨a, A, C, p, _, r, rfl, fit1.f _ _ q2, fit1.f _ _ q5, hA, hk, k' F1 H1 (Same.refl _) fit1 I1 _ rfl⟩
    | _ => simp [gIsD] at e'⟩
end VS
namespace VS
open PySem PySem.Spec PyProof.Rows L2
structure Lam where
  params : Arguments
  body : Expr
  scope : Scope
def LamO (qual : Str) (cells : List (Str × Addr)) (q : Lam) (f c' : Addr) : HO :=
  .ext fun h => ∃ (pm ctv : Value), h.get? f = some (PySem.W.kla_obj "<lambda>" (qual ++ "<lambda>") q.params q.body q.scope (cloFrom cells q.scope.names []) pm c' ctv)
abbrev lamN (qual : Str) : Str := qual ++ "<lambda>"
end VS
namespace VS
open PySem PySem.Spec PyProof.Rows L2
def LamsAt (qual : Str) (cells : List (Str × Addr)) (F : Hp) : List Lam → List (Addr × Addr) → Prop
  | [], [] => True
  | q :: qs, p :: fs => (F p.1 = some (LamO qual cells q p.1 p.2) ∧ F p.2 = some (LamX.CodeO p.2 (lamN qual))) ∧ LamsAt qual cells F qs fs
  | _, _ => False
section
variable {b : Bc} {qual : Str} {cells : List (Str × Addr)} {T : List (Addr × Str)} {F F' O H : Hp} {σ : L2.St} {S : DS} {a : Addr} {u : HO}
theorem LamsAt.mono (s : Same F F') : ∀ {qs : List Lam} {fs : List (Addr × Addr)}, LamsAt qual cells F qs fs → LamsAt qual cells F' qs fs
  | [], [], h => h
  | _ :: _, _ :: _, h => ⟨⟨s _ _ h.1.1, s _ _ h.1.2⟩, LamsAt.mono s h.2⟩
  | [], _ :: _, h => h
  | _ :: _, [], h => h
theorem LamsAt.len : ∀ {qs : List Lam} {fs : List (Addr × Addr)}, LamsAt qual cells F qs fs → fs.length = qs.length
  | [], [], _ => rfl
  | _ :: _, _ :: _, h => by simp [LamsAt.len h.2]
  | [], _ :: _, h => h.elim
  | _ :: _, [], h => h.elim
theorem LamsAt.drop : ∀ (j : Nat) {qs : List Lam} {fs : List (Addr × Addr)}, LamsAt qual cells F qs fs → LamsAt qual cells F (qs.drop j) (fs.drop j)
  | 0, _, _, h => h
  | _ + 1, [], [], h => h
  | j + 1, _ :: _, _ :: _, h => LamsAt.drop j h.2
  | _ + 1, [], _ :: _, h => h.elim
  | _ + 1, _ :: _, [], h => h.elim
end
end VS
namespace VS
open PySem PySem.Spec PyProof.Rows L2
end VS
namespace VS
open PySem PySem.Spec PyProof.Rows L2
def Qt {α : Type} (x : Res (α × DS)) : Prop := ∀ n f fs S, x ≠ .exc n f fs S
theorem Qt.bind {α β : Type} {x : Res (α × DS)} {k : α → DS → Res (β × DS)} (h : Qt x) (h2 : ∀ a S, Qt (k a S)) : Qt (bindM x k) := fun n f fs S e => by
  cases x with
  | ok p => exact h2 _ _ n f fs S e
  | exc n' f' fs' S' => exact h _ _ _ _ rfl
  | bad => cases e
theorem Qt.ok {α : Type} {p : α × DS} : Qt (Res.ok p) := fun _ _ _ _ h => nomatch h
theorem Qt.bad {α : Type} : Qt (Res.bad : Res (α × DS)) := fun _ _ _ _ h => nomatch h
end VS
namespace VS
open PySem PySem.Spec PyProof.Rows L2
def rIsTv (K : PySem.W.Frag) (n : String) : List V → Hp → VK → Prop := fun xs H Q =>
  (∃ (a A : Addr) (r : Bool), xs = [.ref a, .ty n] ∧ H a = some (ExO (.ref A) none a) ∧ ExcC K A ∧ PySem.W.kitOne K (.ref A) (.type n) = some r ∧ Q (.bl r) H) ∨
  (∃ (a A dd : Addr) (fs : List (Str × V)) (r : Bool), xs = [.ref a, .ty n] ∧ H a = some (ExO (.ref A) (some dd) a) ∧ H dd = some (.xd fs) ∧ ExcC K A ∧ PySem.W.kitOne K (.ref A) (.type n) = some r ∧ Q (.bl r) H) ∨ rIsi K xs H Q
theorem call_isTv {X : Cx} {n : String} : CallR X (.builtin "isinstance") (rIsTv X.K n) := fun pins s σ H xs us Q I r h => by
  rcases h with h | h | h
  · obtain ⟨a, A, k, rfl, hH, hA, e, q⟩ := h
    obtain ⟨u1, u2, rfl, r1, r2⟩ := vals2 r
    obtain rfl : u1 = Value.ref a := r1
    obtain rfl : u2 = Value.type n := r2
    obtain ⟨⟨oe, vs, g, z, d⟩, _⟩ := (show ObjOk X.prog X.w H s.heap a (ExO (.ref A) none a) from I.hok a _ hH)
    have J : PySem.W.InstAt s.heap a oe A none := by
      obtain ⟨oc, od, oda, osl⟩ := oe
      obtain ⟨z1, z2⟩ := z
      dsimp only at z1 z2 d
      subst z1 z2 d
      exact ⟨g, rfl, rfl, trivial⟩
    exact PySem.W.kia_one (PySem.W.handS_kitx_exc hA.hg hA.hk hA.hs hA.hd hA.ha hA.hn hA.ht hA.hm) I.kIn J e (fun z => nomatch z) fun tk => ⟨.bl k, H, I.kept (t' := tk) fun _ _ z => z, rfl, q⟩
  · obtain ⟨a, A, dd, fs, k, rfl, hH, hD, hA, e, q⟩ := h
    obtain ⟨u1, u2, rfl, r1, r2⟩ := vals2 r
    obtain rfl : u1 = Value.ref a := r1
    obtain rfl : u2 = Value.type n := r2
    obtain ⟨⟨oe, vs, g, z, d⟩, _⟩ := (show ObjOk X.prog X.w H s.heap a (ExO (.ref A) (some dd) a) from I.hok a _ hH)
    obtain ⟨mA, hns, _⟩ := (show ObjOk X.prog X.w H s.heap dd (.xd fs) from I.hok dd _ hD)
    obtain ⟨od, ho, _⟩ := lookIn_ns hns
    have J : PySem.W.InstAt s.heap a oe A (some od) := ⟨g, z.1, by unfold PySem.W.notCls; rw [d] <;> rfl, by rw [z.2]; exact ho⟩
    have hcl : (PySem.W.clsIn X.K A).isSome = true := by
      have hd := hA.hd
      unfold PySem.W.hasDictIn at hd
      cases hc : PySem.W.clsIn X.K A with
      | none => rw [hc] at hd; cases hd
      | some cd => rfl
    exact PySem.W.kia_one (PySem.W.kitx_exc hcl hA.hg hA.hk hA.hs hA.ha hA.hn hA.ht hA.hm) I.kIn J e (fun z => nomatch z) fun tk => ⟨.bl k, H, I.kept (t' := tk) fun _ _ z => z, rfl, q⟩
  · exact call_isi pins s σ H xs us Q I r h
theorem e_isv {X : Cx} {b : Bc} {E : XK} {e e1 : Expr} {f1 : ME} {n : String} (tab : List (Str × Bool)) (hc : b.c.K = X.K ∧ b.c.mg = X.mg) (hN : PySem.W.kitOne X.K (.type "NoneType") (.type n) = some false)
    (ht : ∀ m r, tab.lookup m = some r → ∀ A, X.mg m = some (.ref A) → ExcC X.K A ∧ PySem.W.kitOne X.K (.ref A) (.type n) = some r) (hcl : ClsV (.ty n) (.type n))
    (h : ∀ te, PE X e1 te → PE X e (tCB (rIsTv X.K n) (tCons te (tCons (tC (.ty n)) tNil)))) (h1 : PE X e1 (tE b E f1)) : PE X e (tE b E (unM (gIsD tab) f1)) :=
  PE.imp (h _ h1) fun σ H Q ⟨F0, O0, F, O, env, S, P, h⟩ => ⟨F0, O0, F, O, env, S, P, (Post.bind h).imp fun d S1 F1 H1 s1 fit1 I1 k' v hv => by
    obtain ⟨d', e', k'⟩ := Post.ofO k'
    cases d with
    | non =>
      simp only [gIsD, Option.some.injEq] at e'
      subst e'
      simp only [Den] at hv
      subst hv
      exact .inr (.inr ⟨.non, .ty n, .type "NoneType", .type n, false, rfl, hcl, .base .non, hN, k' F1 H1 (Same.refl _) fit1 I1 _ rfl⟩)
    | exc m fl fs =>
      simp only [gIsD, Option.map_eq_some_iff] at e'
      obtain ⟨r, e1, rfl⟩ := e'
      obtain ⟨a, A, dd, us, rfl, q1, q2, q3, q4⟩ := hv
      obtain ⟨hA, hk⟩ := ht m r e1 A (by rw [← hc.2]; exact q1)
      cases us with
      | nil =>
        have q4 : dd = none := q4
        subst q4
        exact .inl ⟨a, A, r, rfl, fit1.f _ _ q2, hA, hk, k' F1 H1 (Same.refl _) fit1 I1 _ rfl⟩
      | cons u us =>
        obtain ⟨p, rfl, q5⟩ := q4
        exact .inr (.inl ⟨a, A, p, _, r, rfl, fit1.f _ _ q2, fit1.f _ _ q5, hA, hk, k' F1 H1 (Same.refl _) fit1 I1 _ rfl⟩)
    | _ => simp [gIsD] at e'⟩
end VS
namespace VS
open PySem PySem.Spec PyProof.Rows L2
def PostSN (b : Bc) (E : XK) (F0 O0 : Hp) (r : Res (Fl × DS)) (Dn : Ends) : Prop := match r with
  | .ok (.rt d, S') => ∀ p o F' O' H', Same F0 F' → Same O0 O' → FitB b F' O' S' H' → b.I S' F' → H' p = none → ObjD b.c F' d o → Dn.rt (.ref p) (upd H' p o)
  | .exc n f fs S' => ∀ cls dd F' O' H', Same F0 F' → Same O0 O' → FitB b F' O' S' H' → b.I S' F' → ExcR b.c F' n f fs cls dd → E cls dd H'
  | _ => False
theorem PostSN.bind {α : Type} {b : Bc} {E : XK} {F0 O0 F O : Hp} {Dn : Ends} {x : Res (α × DS)} {k : α → DS → Res (Fl × DS)} (h : PostSN b E F0 O0 (bindM x k) Dn) (s : Same F0 F) (o : Same O0 O) : Post b E O F x fun a S' F' H' => PostSN b E F0 O0 (k a S') Dn := by
  cases x with
  | ok p => obtain ⟨a, S'⟩ := p; exact fun F2 H2 e2 _ _ => h
  | exc n f fs S' => exact fun cls dd F' H' e fit I r => h cls dd F' O H' (s.trans e) o fit I r
  | bad => exact h
end VS
namespace VS
open PySem PySem.Spec PyProof.Rows L2
end VS
namespace VS
open PySem PySem.Spec PyProof.Rows L2
end VS
namespace VS
open PySem PySem.Spec PyProof.Rows L2
section
variable {X : Cx}
theorem Inv.put {pins : List (Addr × Obj)} {σ : L2.St} {H : Hp} {s : Shared} {h' : Heap} {a : Addr} {o : HO} {t' : Nat} (I : Inv X pins σ H s) (k : ∀ b u, s.heap.get? b = some u → h'.get? b = some u) (hp : s.heap.get? a = none) (hn : H a = none) (new : ObjOk X.prog X.w (upd H a o) h' a o) :
    Inv X pins σ (upd H a o) { s with heap := h', toks := t' } := by
  have nb : ∀ b u, s.heap.get? b = some u → b ≠ a := fun b u e z => by subst z; rw [hp] at e; cases e
  refine I.un ⟨fun b u e _ _ _ => k b u e, fun b u e _ _ _ => ⟨u.slots, k b u e⟩, fun b u e n _ => by rw [upd_ne (nb b u e)]; exact n, fun b u e _ => ⟨u, k b u e⟩, fun b xs e => by rw [upd_ne (ne_of_none e hn)]; exact e, fun b u v e => by rw [upd_ne (ne_of_none e hn)]; exact e, fun b ps e => ⟨#[], by rw [upd_ne (ne_of_none e hn), e]; simp⟩⟩ fun b u e => ?_
  by_cases hb : b = a
  · subst hb
    rw [upd_same] at e
    cases e
    exact new
  · rw [upd_ne hb] at e
    exact (I.hok b u e).stay (fun c v _ q => k c v q) (fun c q => by rw [upd_ne (ne_of_none q hn)]; exact q) fun c xs q => by rw [upd_ne (ne_of_none q hn)]; exact q
theorem pe_of_mk {e : Expr} {t : L2.St → Hp → XK → Prop} (h : PMk X e t) : PE X e (fun σ H Q => t σ H fun cls d H' => ∀ a, H' a = none → Q (.ref a) (upd H' a (ExO cls d a))) := by
  refine ⟨fun pins s σ H Q I hq => ?_⟩
  refine wpAny_mono (h pins s σ H _ I hq) (fun u s' hm => ?_) fun _ _ x => x
  obtain ⟨a, oe, vs, sI, H', cls, d, rfl, J, k, hne, ha, hz, hd, _, na, os, ag, _, q⟩ := hm
  have J2 := VS.Inv.put (o := ExO cls d a) (t' := s'.toks) (h' := s'.heap) J k hne na ⟨⟨oe, vs, ha, hz, hd⟩, ⟨oe, ha⟩, fun _ _ ⟨o, w, e1, e2⟩ st => ⟨o, w, st _ e1, e2⟩⟩
  exact ⟨.ref a, _, ⟨J2.ok, os.trans J2.os, ag, J2.base, J2.loc, J2.cell, J2.free, J2.freeC, J2.pin, J2.hok, J2.len⟩, rfl, q a na⟩
end
def mkE (n : Str) (f : ME) : ME := fun env S => bindM (f env S) fun _ S1 => .ok (.exc n "" [], S1)
def mkF (n fl : Str) (g : MA) : ME := fun env S => bindM (g env S) fun ds S1 => match ds with
  | [d] => .ok (.exc n fl [d], S1)
  | _ => .bad
section
variable {X : Cx} {b : Bc} {E : XK} {e ee : Expr} {es : List Expr} {f : ME} {g : MA}
theorem e_mkE {n : Str} {C : Addr} (hmg : b.c.mg n = some (.ref C)) (h : ∀ te, PE X e te → PMk X ee (fun σ H Q => te σ H fun _ H1 => Q (.ref C) none H1)) (h1 : PE X e (tE b E f)) : PE X ee (tE b E (mkE n f)) :=
  PE.imp (pe_of_mk (h _ h1)) fun σ H Q ⟨F0, O0, F, O, env, S, P, h⟩ => ⟨F0, O0, F, O, env, S, P, (Post.bind h).imp fun d S1 F1 H1 s1 fit1 I1 k v hv a na => by
    have nF := upd_none fit1.f na
    have nt : NoTbl (ExO (.ref C) none a) := fun ps z => by unfold ExO at z; cases z
    have sF := same_upd (o := ExO (.ref C) none a) nF
    exact k (upd F1 a (ExO (.ref C) none a)) _ sF (fit1.new na nt) (I1.mono sF) _ ⟨a, C, none, [], rfl, hmg, upd_same, rfl, rfl⟩⟩
theorem e_mkF {n fl : Str} {C : Addr} (hmg : b.c.mg n = some (.ref C)) (T : OexC X.K C) (hno : PySem.W.findIn X.K (.ref C) fl = some none)
    (h : ∀ ta, PA X es ta → PMk X ee (tMkO C (spIni X.K fl) [] ta)) (ha : PA X es (tA b E g)) : PE X ee (tE b E (mkF n fl g)) :=
  PE.imp (pe_of_mk (h _ ha)) fun σ H Q ⟨F0, O0, F, O, env, S, P, h⟩ => ⟨F0, O0, F, O, env, S, P, (Post.bind h).imp fun ds S1 F1 H1 s1 fit1 I1 k vs hv => by
    match ds, k, hv with
    | [], k, _ => exact False.elim k
    | d :: d2 :: r, k, _ => exact False.elim k
    | [d], k, hv =>
      simp only [Dens] at hv
      obtain ⟨v, r, rfl, h1, rfl⟩ := hv
      refine ⟨by simp, fun a na => ⟨rfl, a, C, v, rfl, T, hno, upd_same, fun dx nd ne => ⟨rfl, dx, [(fl, v)], upd_same, ?_, ?_, ?_⟩⟩⟩
      · rw [upd_ne ne, upd_same]
      · rwa [upd_ne ne] at nd
      · have nd1 : H1 dx = none := by rwa [upd_ne ne] at nd
        have e : upd (L2.del (upd (upd (upd H1 a (exo a C none)) dx (exd dx [(fl, v)])) a (exo a C (some dx))) a) dx (.xd [(fl, v)]) = upd H1 dx (.xd [(fl, v)]) := by
          funext x
          by_cases z : x = dx
          · subst z; rw [upd_same, upd_same]
          · rw [upd_ne z, upd_ne z]
            by_cases q : x = a
            · subst q; rw [L2.del_same, na]
            · rw [L2.del_ne q, upd_ne q, upd_ne z, upd_ne q]
        rw [e]
        intro c nc
        have nF := upd_none fit1.f nd1
        have s2 := same_upd (o := HO.xd [(fl, v)]) nF
        have fit2 := fit1.new (u := HO.xd [(fl, v)]) nd1
        have nF2 := upd_none fit2.f nc
        have nt : NoTbl (ExO (.ref C) (some dx) c) := fun ps z => by unfold ExO at z; cases z
        have s3 := same_upd (o := ExO (.ref C) (some dx) c) nF2
        have k : Post b E O F1 (Res.ok (D.exc n fl [d], S1)) fun d S' F' H' => ∀ v, Den b.c F' d v → Q v H' := k
        exact k _ _ (s2.trans s3) (fit2.new nc nt) (I1.mono (s2.trans s3)) _ ⟨c, C, some dx, [v], rfl, hmg, upd_same, ⟨v, [], rfl, Den.mono (s2.trans s3) _ _ h1, rfl⟩, dx, rfl, s3 _ _ upd_same⟩⟩
end
end VS
namespace VS
open PySem PySem.Spec PyProof.Rows L2
def strsD : List D → Option (List Str)
  | [] => some []
  | .str x :: ds => (strsD ds).map (x :: ·)
  | _ => none
theorem strs_den {c : Dc} {F : Hp} : ∀ {ds : List D} {vs : List V} {ys : List Str}, Dens c F ds vs → strsD ds = some ys → vs = ys.map V.str
  | [], vs, ys, h, e => by
    cases e
    exact h
  | d :: ds, vs, ys, h, e => by
    obtain ⟨v, r, rfl, h1, h2⟩ := h
    cases d with
    | str x =>
      simp only [strsD, Option.map_eq_some_iff] at e
      obtain ⟨zs, e1, rfl⟩ := e
      have h1 : v = .str x := h1
      subst h1
      rw [strs_den h2 e1]
      rfl
    | _ => simp [strsD] at e
def joinM (fo fe : ME) : ME := fun env S => bindM (fo env S) fun d S1 => bindM (fe env S1) fun e S2 => match d, e with
  | .str a, .lst ds => match strsD ds with
    | some ys => if (ys.map (·.length)).sum + ys.length * a.length ≤ 16777216 then .ok (.str (Txt.join a ys), S2) else .bad
    | none => .bad
  | _, _ => .bad
section
variable {X : Cx} {b : Bc} {E : XK} {o e ee : Expr} {fo fe : ME}
theorem e_join (h : ∀ to te, PE X o to → PE X e te → PE X ee (L2.tM1 (fun x xs H Q => ∃ a p, ∃ ys : List Str, x = .str a ∧ xs = [.ref p] ∧ (SqL X.K H p (ys.map V.str) ∨ SqT X.K H p (ys.map V.str)) ∧
      (ys.map (·.length)).sum + ys.length * a.length ≤ 16777216 ∧ Q (.str (Txt.join a ys)) H) to te)) (h1 : PE X o (tE b E fo)) (h2 : PE X e (tE b E fe))
    (hs : ∀ env S, ∃ a, fo env S = .ok (.str a, S)) : PE X ee (tE b E (joinM fo fe)) :=
  PE.imp (h _ _ h1 h2) fun σ H Q ⟨F0, O0, F, O, env, S, P, h⟩ => by
    obtain ⟨a, ha⟩ := hs env S
    have h := Post.bind h
    rw [ha] at h
    refine ⟨F0, O0, F, O, env, S, P, ?_⟩
    rw [ha]
    intro F1 H1 s1 fit1 I1 v hv
    have hv : v = .str a := hv
    subst hv
    have k := h F1 H1 s1 fit1 I1
    refine ⟨⟨a, rfl⟩, F0, O0, F1, O, env, S, P.grow s1 fit1 I1, (Post.bind k).imp fun d S2 F2 H2 s2 fit2 I2 k w hw => ?_⟩
    cases d with
    | lst ds =>
      cases hz : strsD ds with
      | none => simp only [hz] at k; exact False.elim k
      | some ys =>
        simp only [hz] at k
        by_cases hl : (ys.map (·.length)).sum + ys.length * a.length ≤ 16777216
        · rw [if_pos hl] at k
          obtain ⟨p, vs, rfl, q1, _, q2⟩ := hw
          have e1 := strs_den q2 hz
          subst e1
          exact ⟨a, p, ys, rfl, rfl, .inl (SqL_of (fit2.f _ _ q1)), hl, k F2 H2 (Same.refl _) fit2 I2 _ rfl⟩
        · rw [if_neg hl] at k
          exact False.elim k
    | _ => exact False.elim k
end
end VS
namespace VS
open PySem PySem.Spec PyProof.Rows L2
def IscV (K : PySem.W.Frag) (mg : Str → Option Value) (T : String) (tab : List (Str × Bool)) : Prop := ∀ n r, tab.lookup n = some r → ∀ A, mg n = some (.ref A) → ExcC K A ∧ PySem.W.kitOne K (.ref A) (.type T) = some r
theorem kit_ty {K : PySem.W.Frag} {t : Value} {T : String} {r : Bool} (hne : (t == Value.type T) = false) (hm : PySem.W.kitMeta T = true) (hs : PySem.W.subIn K t (.type T) = some r) : PySem.W.kitOne K t (.type T) = some r := by
  unfold PySem.W.kitOne
  rw [if_neg (by rw [hne]; exact Bool.false_ne_true)]
  show (if PySem.W.kitMeta T = true then PySem.W.subIn K t (.type T) else none) = some r
  rw [if_pos hm]
  exact hs
theorem ty_ve : PySem.W.kitMeta "ValueError" = true := by first | rfl | decide +kernel
theorem ne_ve (A : Addr) : (Value.ref A == Value.type "ValueError") = false := by first | rfl | exact beq_eq_false_iff_ne.mpr (fun z => nomatch z)
theorem nn_ve : (Value.type "NoneType" == Value.type "ValueError") = false := by first | rfl | decide +kernel
end VS
namespace VS
open PySem PySem.Spec PyProof.Rows L2
end VS
namespace VS
open PySem PySem.Spec PyProof.Rows L2
end VS
namespace VS
open PySem PySem.Spec PyProof.Rows L2
end VS
namespace VS
open PySem PySem.Spec PyProof.Rows L2
inductive El where
  | df (n : Str) (a : Addr)
  | lm (q : Lam)
def ElAt (qual : Str) (cells : List (Str × Addr)) (mg : Str → Option Value) (F : Hp) : El → Addr × Addr → Prop
  | .df n a, p => p.1 = a ∧ mg n = some (.ref a)
  | .lm q, p => F p.1 = some (LamO qual cells q p.1 p.2) ∧ F p.2 = some (LamX.CodeO p.2 (lamN qual))
def ElsAt (qual : Str) (cells : List (Str × Addr)) (mg : Str → Option Value) (F : Hp) : List El → List (Addr × Addr) → Prop
  | [], [] => True
  | q :: qs, p :: fs => ElAt qual cells mg F q p ∧ ElsAt qual cells mg F qs fs
  | _, _ => False
section
variable {b : Bc} {qual : Str} {cells : List (Str × Addr)} {mg : Str → Option Value} {T : List (Addr × Str)} {F F' O H : Hp} {σ : L2.St} {S : DS} {a : Addr} {u : HO}
theorem ElAt.mono (s : Same F F') : ∀ {q : El} {p : Addr × Addr}, ElAt qual cells mg F q p → ElAt qual cells mg F' q p
  | .df _ _, _, h => h
  | .lm _, _, h => ⟨s _ _ h.1, s _ _ h.2⟩
theorem ElsAt.mono (s : Same F F') : ∀ {qs : List El} {fs : List (Addr × Addr)}, ElsAt qual cells mg F qs fs → ElsAt qual cells mg F' qs fs
  | [], [], h => h
  | _ :: _, _ :: _, h => ⟨h.1.mono s, ElsAt.mono s h.2⟩
  | [], _ :: _, h => h
  | _ :: _, [], h => h
theorem ElsAt.len : ∀ {qs : List El} {fs : List (Addr × Addr)}, ElsAt qual cells mg F qs fs → fs.length = qs.length
  | [], [], _ => rfl
  | _ :: _, _ :: _, h => by simp [ElsAt.len h.2]
  | [], _ :: _, h => h.elim
  | _ :: _, [], h => h.elim
theorem ElsAt.drop : ∀ (j : Nat) {qs : List El} {fs : List (Addr × Addr)}, ElsAt qual cells mg F qs fs → ElsAt qual cells mg F (qs.drop j) (fs.drop j)
  | 0, _, _, h => h
  | _ + 1, [], [], h => h
  | j + 1, _ :: _, _ :: _, h => ElsAt.drop j h.2
  | _ + 1, [], _ :: _, h => h.elim
  | _ + 1, _ :: _, [], h => h.elim
end
end VS
namespace VS
open PySem PySem.Spec PyProof.Rows L2
def rReprI : List V → Hp → VK → Prop := fun xs H Q => ∃ i : Int, xs = [.int i] ∧ i.natAbs.log2 < 1920 ∧ Q (.str (toString i)) H
def gReprI : List D → Option D
  | [.int i] => if i.natAbs.log2 < 1920 then some (.str (toString i)) else none
  | ds => gReprA ds
theorem cr_reprI {X : Cx} (hg : X.A.guards = some []) (hu : X.A.units + 100 < cLine) : CallR X (.builtin "repr") (fun vs H Q => (rRepr X.K vs H Q ∨ rReprD X.K vs H Q) ∨ rReprI vs H Q) := by
  intro pins s σ H vs us Q I r h
  rcases h with h | h
  · exact cr_reprA hg hu pins s σ H vs us Q I r h
  · exact SkE.call_repr_int pins s σ H vs us Q I r h
theorem r_reprI {c : Dc} : RuleN c (fun vs H Q => (rRepr c.K vs H Q ∨ rReprD c.K vs H Q) ∨ rReprI vs H Q) gReprI := by
  intro F O T H ds vs d' Q fit hv g q
  by_cases z : ∃ i, ds = [.int i]
  · obtain ⟨i, rfl⟩ := z
    obtain ⟨v, r, rfl, hd, h⟩ := paired1 hv
    cases paired0 h
    simp only [gReprI] at g
    split at g <;> cases g
    rename_i hok
    simp only [DenB, Den] at hd
    subst hd
    exact .inr ⟨i, rfl, hok, q _ F H (Same.refl _) fit rfl⟩
  · have e : gReprI ds = gReprA ds := by
      unfold gReprI
      split
      · exact absurd ⟨_, rfl⟩ z
      · rfl
    rw [e] at g
    exact .inl (r_reprA F O T H ds vs d' Q fit hv g q)
end VS
namespace VS
open PySem PySem.Spec PyProof.Rows L2
theorem repr_pair {prog : Program} {w : World} {h₀ : Heap} {a : Addr} {o : Obj} {vs : Array Value} {n : Nat} {u1 u2 : Value} {d1 d2 : PyData} {as1 as2 : List Addr} {A : Around} {E : Value → Shared → Prop} {s : Shared} {Q : Value → Shared → Prop}
    (h1 : h₀.get? a = some o) (h2 : o.cls = .type "tuple") (h3 : o.data = .seq vs n) (hv : vs.toList = [u1, u2]) (r1 : Reads h₀ u1 d1 as1) (r2 : Reads h₀ u2 d2 as2) (hs : (PyData.tuple [d1, d2]).showable = true) (hsm : sysModules ∉ as1) (hd : d2.hasDict = false)
    (hg : A.guards = some []) (hu : A.units + ((PyData.tuple [d1, d2]).depth + 1) < cLine) (hk0 : ∀ b o, h₀.get? b = some o → s.heap.get? b = some o)
    (hQ : ∀ h' u tk, (∀ b o, s.heap.get? b = some o → h'.get? b = some o) → Q (.str (PyData.tuple [d1, d2]).shown u) { s with heap := h', toks := tk })
    (hsz : (PyData.tuple [d1, d2]).shown.length ≤ sizeLine) : wpAny (model prog w) A (call (.builtin "repr") [.ref a]) Q E s := by
  have hz' : (tupleText (PyData.shownAll [d1, d2])).length ≤ sizeLine := by simpa only [PyData.shown] using hsz
  have hs2 : d1.showable = true ∧ d2.showable = true := by simpa [PyData.showable, PyData.showableAll] using hs
  have h4 : ReadsAll h₀ vs.toList [d1, d2] (as1 ++ (as2 ++ [])) := by rw [hv]; exact .cons r1 (.cons r2 .nil)
  have sz : ∀ t ∈ PyData.shownAll [d1, d2], t.length ≤ sizeLine := fun t ht => Nat.le_trans (tupleText_mem_le ht) hz'
  obtain ⟨b1, hb1, k1⟩ := ReprAllK.of_readsAll (prog := prog) (w := w) (ReadsAll.cons r1 .nil) (by simpa [PyData.showableAll] using hs2.1) (fun _ hm => hsm (by simpa using hm)) (fun t ht => sz t (by simp only [PyData.shownAll, List.mem_cons, List.not_mem_nil, or_false] at ht ⊢; exact .inl ht))
  obtain ⟨b2, hb2, k2⟩ := ReprAllK.of_readsAll (prog := prog) (w := w) (ReadsAll.cons r2 .nil) (by simpa [PyData.showableAll] using hs2.2) (fun hx => by simp [PyData.hasDictAll, hd] at hx) (fun t ht => sz t (by simp only [PyData.shownAll, List.mem_cons, List.not_mem_nil, or_false] at ht ⊢; exact .inr ht))
  have e1 : PyData.depthAll [d1] ≤ PyData.depthAll [d1, d2] := by simp only [PyData.depthAll]; omega
  have e2 : PyData.depthAll [d2] ≤ PyData.depthAll [d1, d2] := by simp only [PyData.depthAll]; omega
  have hb : ReadAtMost h₀ (PyData.depthAll [d1, d2]) (b1 ++ b2) := (hb1.mono e1).append (hb2.mono e2)
  have q1 := k1.more_le (fun b hb => List.mem_append_left b2 hb) e1
  have q2 := k2.more_le (fun b hb => List.mem_append_right b1 hb) e2
  have hk : ReprAllK prog w (b1 ++ b2) h₀ (PyData.depthAll [d1, d2]) vs.toList (PyData.shownAll [d1, d2]) := by
    rw [hv]
    cases q1 with
    | cons y _ => exact .cons y q2
  have hna : a ∉ b1 ++ b2 := not_mem_of_deeper (.tuple h1 h2 h3 h4) (by simp only [PyData.depth]; omega) hb
  have S : ShowsBy prog w h₀ a (.tuple [d1, d2]) "tuple" "tuple.__repr__" := ⟨F.slot_tuple_repr, F.slot_tuple_str, F.slot_tuple_format, fun s hk0 => ⟨o, hk0 _ _ h1, h2⟩, fun A E s Q hg hu hk0 hQ => by
    simp only [PyData.depth] at hu
    simp only [PyData.shown] at hQ
    exact call_tuple_reprK h1 h2 h3 hna hk hg (fun b _ => Clear.nil b) hu hk0 hQ hz'⟩
  exact call_repr_slot (by omega) (S.typeIs s hk0) S.slotRepr (S.call A.in1 E s _ hg (by show A.units + 1 + _ < cLine; omega) hk0 fun h' u tk hk => ⟨_, _, rfl, hQ h' u tk hk⟩)
theorem dk_reads {X : Cx} {pins : List (Addr × Obj)} {σ : L2.St} {H : Hp} {s : Shared} (I : L2.Inv X pins σ H s) {a : Addr} {kv : List (Key × V)} {ps : List PyData} (hd : H a = some (.dK kv)) (hp : DpAll X.K H (kv.map (·.2)) ps) (hf : flatPs ps = true) :
    ∃ as, Reads s.heap (.ref a) (kvP (kv.map (·.1)) ps) as ∧ sysModules ∉ as := by
  obtain ⟨z, hm, vs, rel, dd⟩ := dk_of I.hok hd
  obtain ⟨es, ep, ⟨o, ho, hc, hdat⟩, hsz, hes⟩ := dd.raw
  have hkeys := rel.keys
  have hvl : kv.length = vs.length := rel.length
  have rk : ReadsAll s.heap (es.toList.map (·.key)) ((kv.map (·.1)).map keyP) [] := keysRead es.toList (kv.map (·.1)) (by rw [Array.length_toList, hsz, List.length_map, hvl]) fun i hi k hk => by
    rw [hkeys, List.getElem?_map, Option.map_eq_some_iff] at hk
    obtain ⟨⟨k', v'⟩, e1, e2⟩ := hk
    cases e2
    have q := (hes i (by simpa using hi) _ _ e1).1
    have q2 : keyIs k' es[i].key = true := q
    simpa using q2
  have ev : es.toList.map (·.val) = vs.map (·.2) := by
    refine List.ext_getElem (by simp [hsz]) fun i q1 q2 => ?_
    have hi : i < es.size := by simpa using q1
    have hv' : i < vs.length := by simpa using q2
    have := (hes i hi _ _ (List.getElem?_eq_getElem hv')).2
    simpa using this
  have rvv := kv_vals rel
  have rv : ReadsAll s.heap (es.toList.map (·.val)) ps [] := by rw [ev]; exact reads0s I ps _ _ hp hf rvv
  have hpl : (kv.map (·.1)).length = ps.length := by rw [← dpAll_len hp, List.length_map, List.length_map]
  have rd : Reads s.heap (.ref a) (kvP (kv.map (·.1)) ps) (a :: [] ++ []) := Reads.dict ho hc.1 hdat (by rw [List.map_fst_zip (by rw [List.length_map, hpl]; exact Nat.le_refl _)]; exact rk) (by rw [List.map_snd_zip (by rw [List.length_map, hpl]; exact Nat.le_refl _)]; exact rv)
  refine ⟨_, rd, fun z => ?_⟩
  have e : sysModules = a := List.mem_singleton.mp z
  rw [e, beq_self_eq_true] at hm
  cases hm
def gReprT : List D → Option D
  | [.tup [.dct ks xs, e]] => (toPyL xs).bind fun ps => (toPy e).bind fun p => if (ks.length == ps.length && flatPs ps && !p.hasDict && reprOkK (.tuple [kvP ks ps, p])) = true then some (.str (PyData.tuple [kvP ks ps, p]).shown) else none
  | ds => gReprI ds
def rReprT (K : PySem.W.Frag) : List V → Hp → VK → Prop := fun vs H Q => ∃ (a b : Addr) (v2 : V) (kv : List (Key × V)) (ps : List PyData) (p : PyData), vs = [.ref a] ∧ SqT K H a [.ref b, v2] ∧ H b = some (.dK kv) ∧ DpAll K H (kv.map (·.2)) ps ∧ Dp K H v2 p ∧
  flatPs ps = true ∧ p.hasDict = false ∧ reprOkK (.tuple [kvP (kv.map (·.1)) ps, p]) = true ∧ Q (.str (PyData.tuple [kvP (kv.map (·.1)) ps, p]).shown) H
theorem cr_reprT {X : Cx} (hg : X.A.guards = some []) (hu : X.A.units + 100 < cLine) : CallR X (.builtin "repr") (fun vs H Q => ((rRepr X.K vs H Q ∨ rReprD X.K vs H Q) ∨ rReprI vs H Q) ∨ rReprT X.K vs H Q) := by
  intro pins s σ H vs us Q I r h
  rcases h with h | h
  · exact cr_reprI hg hu pins s σ H vs us Q I r h
  obtain ⟨a, b, v2, kv, ps, p, rfl, ht, hb, hp, h2, hf, hdp, hok, q⟩ := h
  rw [Vals.ref1 r]
  simp only [reprOkK, Bool.and_eq_true, decide_eq_true_eq] at hok
  obtain ⟨⟨k1, k3⟩, k4⟩ := hok
  obtain ⟨its, rv, ⟨o, ho, hc, n, hdd⟩, _⟩ := I.tuple ht
  obtain ⟨as1, r1, n1⟩ := dk_reads I hb hp hf
  cases rv with
  | cons ra rr =>
    cases rr with
    | cons rb rc =>
      cases rc
      cases ra
      obtain ⟨as2, r2⟩ := Dp.reads I p _ _ h2 rb
      have hu2 : X.A.units + ((PyData.tuple [kvP (kv.map (·.1)) ps, p]).depth + 1) < cLine := by omega
      refine repr_pair ho hc hdd rfl r1 r2 k1 n1 hdp hg hu2 (fun b o e => e) (fun h' u tk hk => ?_) (Nat.le_trans k4 million)
      exact ⟨.str _, H, I.kept (t' := tk) hk, ⟨u, rfl⟩, q⟩
theorem r_reprT {c : Dc} : RuleN c (fun vs H Q => ((rRepr c.K vs H Q ∨ rReprD c.K vs H Q) ∨ rReprI vs H Q) ∨ rReprT c.K vs H Q) gReprT := by
  intro F O T H ds vs d' Q fit hv g q
  by_cases z : ∃ ks xs e, ds = [.tup [.dct ks xs, e]]
  · obtain ⟨ks, xs, e, rfl⟩ := z
    simp only [gReprT, Option.bind_eq_some_iff] at g
    obtain ⟨ps, e1, p, e2, g⟩ := g
    split at g <;> cases g
    rename_i hok
    simp only [Bool.and_eq_true, beq_iff_eq, Bool.not_eq_true'] at hok
    obtain ⟨⟨⟨h1, h2⟩, h3⟩, h4⟩ := hok
    obtain ⟨v, r, rfl, hd, h⟩ := paired1 hv
    cases paired0 h
    obtain ⟨a, us, rfl, ht, _, hu⟩ := hd
    simp only [Dens] at hu
    obtain ⟨w1, rs, rfl, hw1, w2, rs2, rfl, hw2, rfl⟩ := hu
    simp only [Den] at hw1
    obtain ⟨b, kv, rfl, q1, rfl, q3⟩ := hw1
    exact .inr ⟨a, b, w2, kv, ps, p, rfl, sqT_mono fit.f ht, fit.f _ _ q1, dpL_of fit.f xs _ ps q3 e1, dp_of fit.f e _ _ hw2 e2, h2, h3, h4, q _ F H (Same.refl _) fit rfl⟩
  · have e : gReprT ds = gReprI ds := by
      unfold gReprT
      split
      · exact absurd ⟨_, _, _, rfl⟩ z
      · rfl
    rw [e] at g
    exact .inl (r_reprI F O T H ds vs d' Q fit hv g q)
end VS
namespace VS
open PySem PySem.Spec PyProof.Rows L2
end VS
namespace VS
open PySem PySem.Spec PyProof.Rows L2
end VS
namespace VS
open PySem PySem.Spec PyProof.Rows L2
end VS
namespace VS
open PySem PySem.Spec PyProof.Rows L2
end VS
namespace VS
open PySem PySem.Spec PyProof.Rows L2
end VS
namespace VS
open PySem PySem.Spec PyProof.Rows L2
end VS
namespace VS
open PySem PySem.Spec PyProof.Rows L2
def IMS : Type := Env → DS → List Str → List D → Res ((List Str × List D) × DS)
section
variable {X : Cx} {E : XK} {st : Stmt} {rest : List Stmt} {e : Expr} {f : ME} {k : IMS} {K : PySem.W.Frag} {mg : Str → Option Value} {l : Lay} {C x dx : Addr} {T F O H : Hp}
def tI (K : PySem.W.Frag) (mg : Str → Option Value) (l : Lay) (C x dx : Addr) (T : Hp) (E : XK) (k : IMS) : TS := fun Dn σ H => ∃ (F0 O0 F O : Hp) (env : Env) (S : DS) (ns : List Str) (ds : List D) (fs : List (Str × V)),
  Pre (bP K mg l (exT (upd T x (.ins C dx fs))) []) F0 O0 F O H σ env S ∧ env[0]? = some (some (.opq (.ref x))) ∧ fs.map (·.1) = ns ∧ Dens ⟨K, mg, l⟩ F ds (fs.map (·.2)) ∧
  match k env S ns ds with
  | .ok ((ns', ds'), _) => ∀ σ' F' H' fs', Same F0 F' → Fits F' O0 (upd T x (.ins C dx fs')) H' → fs'.map (·.1) = ns' → Dens ⟨K, mg, l⟩ F' ds' (fs'.map (·.2)) → Dn.nx σ' H'
  | .exc n f a _ => ∀ cls dd F' H' fs', Same F0 F' → Fits F' O0 (upd T x (.ins C dx fs')) H' → ExcR ⟨K, mg, l⟩ F' n f a cls dd → E cls dd H'
  | .bad => False
end
end VS
namespace VS
open PySem PySem.Spec PyProof.Rows L2
end VS
namespace VS
open PySem PySem.Spec PyProof.Rows L2
def pickI {α : Type} (m : Nat) (π : List Nat) (us ws : List α) : List α := if us.length = 1 ∧ ws.length = m then us ++ pick π ws else []
theorem kbI_of {K : PySem.W.Frag} {x qual : Str} {st : Stmt} {f : Addr} {fd : FuncData} (F : Fun K x qual st f fd) {ps ks : List Str} (π : List Nat)
    (h : ∀ (kV doc pm : Value) (an : Option Addr) (cdv ct u : Value) (ws : List Value), ws.length = ks.length → bindArgs (PySem.W.fnOf x qual (defArgs st) (defBody st) (defScope st) .none kV doc pm an cdv ct) ⟨[u], ks.zip ws⟩ = pure (ps.zip (u :: pick π ws))) :
    KBn K fd ps 1 ks (pickI ks.length π) (pickI ks.length π) where
  to := fun s us ws X l1 l2 => by
    obtain ⟨oc, od, kV, doc, pm, an, cdv, ct, osl, rfl, lk, hcd⟩ := F.ex
    unfold pickI
    rw [if_pos ⟨l1, l2⟩]
    obtain ⟨u, rfl⟩ := List.length_eq_one_iff.mp l1
    exact .of_eq (h kV doc pm an cdv ct u ws l2)
  rel := fun {vs us zs ws} r rz => by
    unfold pickI
    rw [r.length, rz.length]
    by_cases hc : us.length = 1 ∧ ws.length = ks.length
    · rw [if_pos hc, if_pos hc]; exact r.append (Vals.pick rz π)
    · rw [if_neg hc, if_neg hc]; exact .nil
end VS
namespace VS
open PySem PySem.Spec PyProof.Rows L2
def rReprF : List V → Hp → VK → Prop := fun xs H Q => (∃ a : Str, xs = [.str a] ∧ (reprText a).length ≤ 1000000 ∧ Q (.str (reprText a)) H) ∨ (∃ k : Bool, xs = [.bl k] ∧ Q (.str (if k then "True" else "False")) H) ∨ (xs = [.non] ∧ Q (.str "None") H)
def gReprF : List D → Option D
  | [.str x] => if (reprText x).length ≤ 1000000 then some (.str (reprText x)) else none
  | [.bl k] => some (.str (if k then "True" else "False"))
  | [.non] => some (.str "None")
  | ds => gReprT ds
abbrev rReprAll (K : PySem.W.Frag) : List V → Hp → VK → Prop := fun vs H Q => (((rRepr K vs H Q ∨ rReprD K vs H Q) ∨ rReprI vs H Q) ∨ rReprT K vs H Q) ∨ rReprF vs H Q
theorem cr_reprF {X : Cx} (hg : X.A.guards = some []) (hu : X.A.units + 100 < cLine) : CallR X (.builtin "repr") (rReprAll X.K) := by
  intro pins s σ H vs us Q I r h
  rcases h with h | h
  · exact cr_reprT hg hu pins s σ H vs us Q I r h
  rcases h with ⟨a, rfl, hz, q⟩ | ⟨k, rfl, q⟩ | ⟨rfl, q⟩
  · obtain ⟨u, rfl, t, rfl⟩ := vals1 r
    exact PySem.P.repr_of_str ⟨.str _, H, I.tok _, ⟨_, rfl⟩, q⟩ (Nat.le_trans hz million)
  · obtain ⟨u, rfl, e⟩ := vals1 r
    cases e
    exact PySem.P.repr_of_bool ⟨.str _, H, I.tok _, ⟨_, by cases k <;> rfl⟩, q⟩
  · obtain ⟨u, rfl, e⟩ := vals1 r
    cases e
    exact PySem.P.repr_of_none ⟨.str _, H, I.tok _, ⟨_, rfl⟩, q⟩
theorem r_reprF {c : Dc} : RuleN c (rReprAll c.K) gReprF := by
  intro F O T H ds vs d' Q fit hv g q
  by_cases z : ∃ d, ds = [d] ∧ ((∃ x, d = .str x) ∨ (∃ k, d = .bl k) ∨ d = .non)
  · obtain ⟨d, rfl, z⟩ := z
    obtain ⟨v, r, rfl, hd, h⟩ := paired1 hv
    cases paired0 h
    rcases z with ⟨x, rfl⟩ | ⟨k, rfl⟩ | rfl
    · simp only [gReprF] at g
      split at g <;> cases g
      rename_i hok
      obtain rfl : v = .str x := hd
      exact .inr (.inl ⟨x, rfl, hok, q _ F H (Same.refl _) fit rfl⟩)
    · cases g
      obtain rfl : v = .bl k := hd
      exact .inr (.inr (.inl ⟨k, rfl, q _ F H (Same.refl _) fit rfl⟩))
    · cases g
      obtain rfl : v = .non := hd
      exact .inr (.inr (.inr ⟨rfl, q _ F H (Same.refl _) fit rfl⟩))
  · have e : gReprF ds = gReprT ds := by
      unfold gReprF
      split
      · exact absurd ⟨_, rfl, .inl ⟨_, rfl⟩⟩ z
      · exact absurd ⟨_, rfl, .inr (.inl ⟨_, rfl⟩)⟩ z
      · exact absurd ⟨_, rfl, .inr (.inr rfl)⟩ z
      · rfl
    rw [e] at g
    exact .inl (r_reprT F O T H ds vs d' Q fit hv g q)
end VS
namespace VS
open PySem PySem.Spec PyProof.Rows PySem.HandSPX
section
variable {pr : Program} {w : World} {A : Around} {E : Value → Shared → Prop} {R : Result → Shared → Prop} {hp : Heap} {gs : Array GenState} {dr : Drawn} {tk : Nat} {os : OsState}
variable {nm q : Str} {C N : Addr} {bs bm bB : List Value} {hd : Bool} {sn : List Str} {sb : List Value} {ab : Bool} {cl : Option Bool} {dd : Option Addr} {k0 k1 k2 k3 k5 : Option Value} {B nw ni : String} {us : List Value} {ws : List (Str × Value)}
theorem look_new {M : Model} {Q : Unit → Shared → Prop} (F : ExcBaseFacts B nw ni bB) (hT : ∀ X : String, bm.contains (.type X) = bB.contains (.type X)) (hC : hp.get? C = some (excClassObj nm q C N bs bm hd sn sb ab cl dd k0 k1 k2 k3 k5 nw)) (hq : Q () ⟨hp, gs, dr, tk, os⟩) :
    wpAny M A (checkBuiltinCall nw ⟨.ref C :: us, ws⟩) Q E ⟨hp, gs, dr, tk, os⟩ := by
  have c1 : (Value.ref C :: bm).contains (.type B) = true := by { rw [List.contains_cons, hT, F.hasB, Bool.or_true] }
  have c2 := F.noStar; simp only [checkBuiltinCall, F.newKind, F.newSplit, F.newRow]
  repeat (first | refine wpAny_loadPart_at hC ?_ | (refine wpAny_isSubtype_exc hC ?_; rw [c1]) | refine wpAny_staticBase_exc hC ?_ | refine wpAny_madeBy_exc hC ?_ | simp only [bne_self_eq_false, Bool.false_eq_true, if_false] | wp_step)
  exact hq
theorem look_cls {M : Model} {Q : Unit → Shared → Prop} (hC : hp.get? C = some (excClassObj nm q C N bs bm hd sn sb ab cl dd k0 k1 k2 k3 k5 nw)) (hq : Q () ⟨hp, gs, dr, tk, os⟩) : wpAny M A (checkBuiltinCall "type.__call__" ⟨.ref C :: us, ws⟩) Q E ⟨hp, gs, dr, tk, os⟩ := by
  have c1 := tc_sub; have c2 : (⟨hp, gs, dr, tk, os⟩ : Shared).TypeIs (.ref C) "type" := ⟨_, hC, rfl⟩
  simp only [checkBuiltinCall, tc_kind, tc_split]; repeat (any_goals (first | assumption | with_reducible refine wpAny_loadPart_at hC ?_ | with_reducible refine wpAny_onRaise ?_ | with_reducible refine wpAny_map ?_ | wp_step))
theorem new_kw (F : ExcBaseFacts B nw ni bB) (hT : ∀ X : String, bm.contains (.type X) = bB.contains (.type X)) (hC : hp.get? C = some (excClassObj nm q C N bs bm hd sn sb ab cl dd k0 k1 k2 k3 k5 nw))
    (hq : R (.ok (.ret (.ref (hp.objs.size + 1)))) ⟨(hp.push (PySem.W.kdv_tup us)).push (excO C hp.objs.size), gs, dr, tk, os⟩) (hl : us.length ≤ sizeLine) : codeAny (model pr w) A (.builtin nw ⟨.ref C :: us, ws⟩) R ⟨hp, gs, dr, tk, os⟩ := by
  have e0 := F.ends; have e1 : (Value.ref C :: bm).contains (.type B) = true := by { rw [List.contains_cons, hT, F.hasB, Bool.or_true] }
  have e2 : (Value.ref C :: bm).contains (.type "AttributeError") = false := by { rw [List.contains_cons, hT, F.noAttr]; rfl }
  have e3 : (Value.ref C :: bm).contains (.type "NameError") = false := by { rw [List.contains_cons, hT, F.noName]; rfl }
  refine codeAny_builtinAt F.entry ?_; unfold Builtin.«BaseException.__new__»; refine PySem.wpAt_bind ?_; show PySem.wpAt _ _ _ (stack >>= _) _ _ _
  refine PySem.wpAt_bind (PySem.wpAt_stack fun p below => PySem.wpAt_of_wpAny ?_); wp_walk; refine PySem.wpAt_of_wpAny ?_; rw [F.owner]
  repeat (first | with_reducible refine wpAny_madeHere_exc F.canon hC ?_ | with_reducible refine wpAny_loadPart_at hC ?_ | (with_reducible refine wpAny_isSubtype_exc hC ?_; first | rw [e1] | rw [e2] | rw [e3]) | wp_step)
  show R _ _; rw [Heap.size_push]; exact hq
theorem cls_kw (F : ExcBaseFacts B nw ni bB) (hT : ∀ X : String, bm.contains (.type X) = bB.contains (.type X)) {f : Addr} {Q : Fin → Shared → Prop} (hC : hp.get? C = some (excClassObj nm q C N bs bm hd sn sb ab cl dd k0 k1 k2 k3 k5 nw))
    (hi : W.Looks (model pr w) hp (typeLookup (.ref C) "__init__") (some (.ref f))) (hb : ∀ x, W.Looks (model pr w) hp (bindSpecial (.ref f) x) (.ref f, [x])) (hl : us.length ≤ sizeLine)
    (hq : codeAny (model pr w) A (.call (.ref f) ⟨.ref (hp.objs.size + 1) :: us, ws⟩) (fun r s => match r with | .ok (.ret v) => v = .none ∧ Q (.done (.ret (.ref (hp.objs.size + 1)))) s | .ok _ => False | .error e => E e s) ⟨(hp.push (W.kdv_tup us)).push (excO C hp.objs.size), gs, dr, tk, os⟩) :
    wpAny (model pr w) A (Builtin.«type.__call__» ⟨.ref C :: us, ws⟩) Q E ⟨hp, gs, dr, tk, os⟩ := by
  repeat (first | with_reducible refine wpAny_loadPart_at hC ?_ | with_reducible refine wpAny_madeBy_exc hC ?_ | wp_step)
  refine codeAny_call_builtin_code (Code.quiet_builtin _ F.quiet) (look_new F hT hC ?_); refine new_kw F hT hC ?_ hl; show wpAny _ _ _ _ _ _
  have st : ∀ b o, hp.get? b = some o → ((hp.push (W.kdv_tup us)).push (excO C hp.objs.size)).get? b = some o := fun b o e => Heap.get?_push_of_some _ (Heap.get?_push_of_some _ e)
  have c1 := st _ _ hC; have c2 : ((hp.push (W.kdv_tup us)).push (excO C hp.objs.size)).get? (hp.objs.size + 1) = some (excO C hp.objs.size) := by heap_get
  have c3 : (Value.ref C :: bm).contains (.ref C) = true := by simp
  have i1 := hi.keeps st; have b1 := (hb (.ref (hp.objs.size + 1))).keeps st; unfold isInstance
  repeat (first | with_reducible refine wpAny_loadPart_at c2 ?_ | (with_reducible refine wpAny_isSubtype_exc c1 ?_; rw [c3]) | wp_step)
  show wpAny _ _ (typeLookup (.ref C) _) _ _ _; refine i1.at ?_; refine wpAny_holding (wpAny_bind (b1.at ?_)); refine wpAny_bind (wpAny_call (codeAny_mono hq fun r s z => ?_))
  rcases r with e | (v | _ | _ | _) <;> first | exact z | exact z.elim | skip
  obtain ⟨rfl, z⟩ := z; first | exact wpAny_pure (wpAny_pure z) | (wp_walk; exact z)
theorem call_kw (F : ExcBaseFacts B nw ni bB) (hT : ∀ X : String, bm.contains (.type X) = bB.contains (.type X)) {f : Addr} (hC : hp.get? C = some (excClassObj nm q C N bs bm hd sn sb ab cl dd k0 k1 k2 k3 k5 nw))
    (hi : W.Looks (model pr w) hp (typeLookup (.ref C) "__init__") (some (.ref f))) (hb : ∀ x, W.Looks (model pr w) hp (bindSpecial (.ref f) x) (.ref f, [x])) (hl : us.length ≤ sizeLine)
    (hq : codeAny (model pr w) (A.under (.builtin "type.__call__" ⟨.ref C :: us, ws⟩)) (.call (.ref f) ⟨.ref (hp.objs.size + 1) :: us, ws⟩) (W.InitBack (hp.objs.size + 1) R) ⟨(hp.push (W.kdv_tup us)).push (excO C hp.objs.size), gs, dr, tk, os⟩) :
    codeAny (model pr w) A (.call (.ref C) ⟨us, ws⟩) R ⟨hp, gs, dr, tk, os⟩ := by
  have c1 := tc_lookup; have c2 := tc_bind (.ref C)
  have c3 : (⟨hp, gs, dr, tk, os⟩ : Shared).TypeIs (.ref C) "type" := ⟨_, hC, rfl⟩
  refine codeAny_of_tree ?_; show wpAny _ _ (callAny (.ref C) _) _ _ _
  repeat (any_goals (first | assumption | with_reducible refine wpAny_loadPart_at hC ?_ | wp_step))
  refine ⟨rfl, ?_⟩; refine codeAny_call_builtin_at (Code.quiet_builtin _ (by decide +kernel)) entry_typeCall (look_cls hC (cls_kw F hT hC hi hb hl ?_)); refine codeAny_mono hq fun r s z => ?_
  rcases r with e | (v | _ | _ | _) <;> exact z
end
end VS
namespace VS
open PySem PySem.Spec PyProof.Rows L2
def tMkOK (C : Addr) (m : Nat) (sp : Sp) (gV : List V → List V → List V) (tk : TA) : L2.St → Hp → XK → Prop := fun σ H Q => tk σ H fun zs H1 => zs.length = m ∧ ∀ a, H1 a = none → sp (gV [.ref a] zs) (upd H1 a (exo a C none))
  (fun v H2 => v = .non ∧ ∃ (d : Addr) (fs : List (Str × V)), H2 a = some (exo a C (some d)) ∧ H2 d = some (exd d fs) ∧ H1 d = none ∧ Q (.ref C) (some d) (upd (L2.del H2 a) d (.xd fs))) (fun _ _ _ => False)
section
variable {X : Cx}
theorem pmk_oexK {CX : CXT} {x : Str} {C f : Addr} {k : Nat} {fd : FuncData} {ps ks : List Str} {sp : Sp} {kws : List Keyword} {tk : TA} {p pos : Pos} {g : List Value → List Value → List Value} {gV : List V → List V → List V} (T : OexC X.K C) (iC : PySem.W.findIn X.K (.ref C) "__init__" = some (some (.ref f))) (tI : PySem.W.typeIn X.K (.ref f) = some (.type "function"))
    (F1 : FnOk X.prog X.w X.K X.mg X.base CX k f fd ps sp) (hr : Room (k + 1) X.A) (hb : KBn X.K fd ps 1 ks g gV) (hx : Passes CX X (fun _ _ _ => False)) (hg : Gl X x) (hm : X.mg x = some (.ref C)) (hkw : PK X kws tk)
    (hall : (backToKw pos (keywordEach kws X.env)).all (·.1.isSome) = true := by rfl) (hks : (backToKw pos (keywordEach kws X.env)).filterMap (·.1) = ks := by rfl) (hdb : (x == ("__debug__" : Str)) = false := by decide)
    (hpl : ((backTo pos (starEach [] X.env)).any (·.1) || (backToKw pos (keywordEach kws X.env)).any (·.1.isNone)) = false := by rfl) :
    PMk X (.Call (.Name x p) [] kws pos) (tMkOK C ks.length sp gV tk) := by
  intro pins s σ H Q I h
  obtain ⟨nm, q, N, bs, bm, sn, sub, ab, col, dd, k0, k1, k2, k3, k5, hC, hbm⟩ := T.cls
  refine wpAny_Call_Name_kw (ld_glob I hg hm ?_ hdb)
  refine PySem.W.callWith_KW0 (h₀ := X.base) I.ok.mod.kin T.kC hall ?_ hpl
  refine thn (hkw.run pos pins s σ H _ I h) fun ws s1 ⟨zs, H1, I1, r1, hz, q1⟩ => ⟨I1.kIn, ?_⟩
  rw [hks]
  show wpAny _ _ (call (.ref C) [] (ks.zip ws)) _ _ _
  obtain ⟨hp, g', dr, tk', os⟩ := s1
  have hsz : hp.objs.size ≤ hp.objs.size + 1 := Nat.le_succ _
  have hn : H1 (hp.objs.size + 1) = none := I1.hok.fresh hsz
  have hq := q1 (hp.objs.size + 1) hn
  have kk : ∀ b o, hp.get? b = some o → ((hp.push (PySem.W.kdv_tup [])).push (PySem.HandSPX.excO C hp.objs.size)).get? b = some o := fun b o e => Heap.get?_push_of_some _ (Heap.get?_push_of_some _ e)
  have hget : ((hp.push (PySem.W.kdv_tup [])).push (PySem.HandSPX.excO C hp.objs.size)).get? (hp.objs.size + 1) = some (PySem.HandSPX.excO C hp.objs.size) := by heap_get
  have I2 : Inv X pins σ (upd H1 (hp.objs.size + 1) (exo (hp.objs.size + 1) C none)) ⟨(hp.push (PySem.W.kdv_tup [])).push (PySem.HandSPX.excO C hp.objs.size), g', dr, tk', os⟩ :=
    I1.laid (t' := tk') (a := hp.objs.size + 1) (o := exo (hp.objs.size + 1) C none) (h' := (hp.push (PySem.W.kdv_tup [])).push (PySem.HandSPX.excO C hp.objs.size)) kk hsz (exo_ok hget)
  have r0 : Vals [V.ref (hp.objs.size + 1)] [Value.ref (hp.objs.size + 1)] := .cons rfl .nil
  have r2 := hb.rel r0 r1
  have b2 := hb.to _ [Value.ref (hp.objs.size + 1)] ws I2.kIn rfl (r1.length.symm.trans hz)
  refine wpAny_call (call_kw F.excBase_ValueError (fun Y => PySem.HandSPX.refsVE_contains Y bm hbm) (I1.kIn _ _ hC) (PySem.W.looks_findIn I1.kIn iC) (fun self => PySem.W.bind_fn I1.kIn self tI) (Nat.zero_le _)
    (codeAny_mono (F1.run _ X.stack _ _ ⟨[Value.ref (hp.objs.size + 1)], ks.zip ws⟩ (g [Value.ref (hp.objs.size + 1)] ws) _ _ (fun _ _ _ => False) (hr.make C [] (ks.zip ws)) (I2.env0.make C [] (ks.zip ws)) b2 r2 hq) fun r s' hq' => ?_))
  cases r with
  | error er => exact hx pins σ _ _ er s' I2 hq'
  | ok fl =>
    cases fl with
    | ret u =>
      obtain ⟨v, H2, os2, bare2, un2, hok2, rv, ev, d, fs, ea, ed, hd1, q2⟩ := hq'
      subst ev
      obtain ⟨h2, g2, d2, t2, os'⟩ := s'
      exact ⟨rv, mk_end (raises_own T.exC T.tyC) I1 hsz kk un2 hok2 os2 bare2 ea ed hd1 q2⟩
    | next => exact False.elim hq'
    | brk => exact False.elim hq'
    | cont => exact False.elim hq'
end
section
variable {X : Cx} {b : Bc} {E : XK} {ee : Expr} {kws : List Keyword} {g : MA}
theorem e_mkFK {n fl : Str} {C : Addr} (hmg : b.c.mg n = some (.ref C)) (T : OexC X.K C) (hno : PySem.W.findIn X.K (.ref C) fl = some none)
    (h : ∀ tk, PK X kws tk → PMk X ee (tMkOK C 1 (spIni X.K fl) (pickI 1 [0]) tk)) (ha : PK X kws (tA b E g)) : PE X ee (tE b E (mkF n fl g)) :=
  PE.imp (pe_of_mk (h _ ha)) fun σ H Q ⟨F0, O0, F, O, env, S, P, h⟩ => ⟨F0, O0, F, O, env, S, P, (Post.bind h).imp fun ds S1 F1 H1 s1 fit1 I1 k vs hv => by
    match ds, k, hv with
    | [], k, _ => exact False.elim k
    | d :: d2 :: r, k, _ => exact False.elim k
    | [d], k, hv =>
      simp only [Dens] at hv
      obtain ⟨v, r, rfl, h1, rfl⟩ := hv
      refine ⟨rfl, fun a na => ⟨rfl, a, C, v, rfl, T, hno, upd_same, fun dx nd ne => ⟨rfl, dx, [(fl, v)], upd_same, ?_, ?_, ?_⟩⟩⟩
      · rw [upd_ne ne, upd_same]
      · rwa [upd_ne ne] at nd
      · have nd1 : H1 dx = none := by rwa [upd_ne ne] at nd
        have e : upd (L2.del (upd (upd (upd H1 a (exo a C none)) dx (exd dx [(fl, v)])) a (exo a C (some dx))) a) dx (.xd [(fl, v)]) = upd H1 dx (.xd [(fl, v)]) := by
          funext x
          by_cases z : x = dx
          · subst z; rw [upd_same, upd_same]
          · rw [upd_ne z, upd_ne z]
            by_cases q : x = a
            · subst q; rw [L2.del_same, na]
            · rw [L2.del_ne q, upd_ne q, upd_ne z, upd_ne q]
        rw [e]
        intro c nc
        have nF := upd_none fit1.f nd1
        have s2 := same_upd (o := HO.xd [(fl, v)]) nF
        have fit2 := fit1.new (u := HO.xd [(fl, v)]) nd1
        have nF2 := upd_none fit2.f nc
        have nt : NoTbl (ExO (.ref C) (some dx) c) := fun ps z => by unfold ExO at z; cases z
        have s3 := same_upd (o := ExO (.ref C) (some dx) c) nF2
        have k : Post b E O F1 (Res.ok (D.exc n fl [d], S1)) fun d S' F' H' => ∀ v, Den b.c F' d v → Q v H' := k
        exact k _ _ (s2.trans s3) (fit2.new nc nt) (I1.mono (s2.trans s3)) _ ⟨c, C, some dx, [v], rfl, hmg, upd_same, ⟨v, [], rfl, Den.mono (s2.trans s3) _ _ h1, rfl⟩, dx, rfl, s3 _ _ upd_same⟩⟩
end
def mroW (K : PySem.W.Frag) (W C : Addr) : Bool := (PySem.W.clsIn K C).any fun cd => cd.mro == [.ref C, .ref W, .type "ValueError", .type "Exception", .type "BaseException", .type "object"]
theorem mroW_sub {K : PySem.W.Frag} {W C : Addr} (h : mroW K W C = true) (v : Value) : PySem.W.subIn K (.ref C) v = some (([.ref C, .ref W, .type "ValueError", .type "Exception", .type "BaseException", .type "object"] : List Value).contains v) := by
  obtain ⟨cd, hc, e⟩ := PySem.W.any_some h
  have e := beq_iff_eq.mp e
  show PySem.W.mroIn K C v = _
  unfold PySem.W.mroIn
  rw [hc]
  show (if cd.mro.isEmpty = true then none else some (cd.mro.contains v)) = _
  rw [e]; first | done | rfl
structure LeafC (K : PySem.W.Frag) (W C : Addr) : Prop where
  m : mroW K W C = true
  x : ExcC K C
  t : PySem.W.typeIn K (.ref C) = some (.type "type")
structure Leafs (K : PySem.W.Frag) (mg : Str → Option Value) (W : Addr) (ps : List (Str × Addr)) : Prop where
  all : ∀ p ∈ ps, mg p.1 = some (.ref p.2) ∧ LeafC K W p.2
  nd : (W :: ps.map Prod.snd).Nodup
theorem lf_nil {K : PySem.W.Frag} {mg : Str → Option Value} {W : Addr} : ∀ p ∈ ([] : List (Str × Addr)), mg p.1 = some (.ref p.2) ∧ LeafC K W p.2 := fun p h => by cases h
theorem lf_cons {K : PySem.W.Frag} {mg : Str → Option Value} {W C : Addr} {n : Str} {ps : List (Str × Addr)} (hg : mg n = some (.ref C)) (h : LeafC K W C) (hr : ∀ p ∈ ps, mg p.1 = some (.ref p.2) ∧ LeafC K W p.2) : ∀ p ∈ (n, C) :: ps, mg p.1 = some (.ref p.2) ∧ LeafC K W p.2 := fun p hp => by
  rcases List.mem_cons.mp hp with rfl | hp
  · exact ⟨hg, h⟩
  · exact hr p hp
def leafT (ns : List Str) (c : Str) : List (Str × Bool) := ns.map fun n => (n, n == c)
def allT (ns : List Str) : List (Str × Bool) := ns.map fun n => (n, true)
theorem look_map {f : Str → Bool} {n : Str} {r : Bool} : ∀ {ns : List Str}, (ns.map fun n => (n, f n)).lookup n = some r → n ∈ ns ∧ r = f n
  | [], h => by cases h
  | m :: ns, h => by
    by_cases e : n = m
    · subst e
      rw [List.map_cons, List.lookup_cons_self] at h
      cases h
      exact ⟨List.mem_cons_self .., rfl⟩
    · have e2 : (n == m) = false := by simpa using e
      rw [List.map_cons, List.lookup_cons, e2] at h
      obtain ⟨a, b⟩ := look_map h
      exact ⟨List.mem_cons_of_mem _ a, b⟩
theorem map_look {f : Str → Bool} {n : Str} : ∀ {ns : List Str}, n ∈ ns → (ns.map fun n => (n, f n)).lookup n = some (f n)
  | m :: ns, h => by
    by_cases e : n = m
    · subst e
      rw [List.map_cons, List.lookup_cons_self]
    · have e2 : (n == m) = false := by simpa using e
      rw [List.map_cons, List.lookup_cons, e2]
      exact map_look ((List.mem_cons.mp h).resolve_left e)
section
variable {K : PySem.W.Frag} {mg : Str → Option Value} {W : Addr} {ps : List (Str × Addr)}
theorem Leafs.at (L : Leafs K mg W ps) {n : Str} (hn : n ∈ ps.map Prod.fst) {A : Addr} (hA : mg n = some (.ref A)) : (n, A) ∈ ps ∧ LeafC K W A := by
  obtain ⟨p, hp, rfl⟩ := List.mem_map.mp hn
  obtain ⟨e, l⟩ := L.all p hp
  rw [e] at hA
  cases hA
  exact ⟨hp, l⟩
theorem nd_fst {α β : Type} : ∀ {ps : List (α × β)} {a a' : α} {b : β}, (ps.map Prod.snd).Nodup → (a, b) ∈ ps → (a', b) ∈ ps → a = a'
  | p :: ps, a, a', b, nd, h1, h2 => by
    rw [List.map_cons, List.nodup_cons] at nd
    rcases List.mem_cons.mp h1 with e1 | h1 <;> rcases List.mem_cons.mp h2 with e2 | h2
    · rw [← e1] at e2; cases e2; rfl
    · exact absurd (List.mem_map.mpr ⟨(a', b), h2, by rw [← e1]⟩) nd.1
    · exact absurd (List.mem_map.mpr ⟨(a, b), h1, by rw [← e2]⟩) nd.1
    · exact nd_fst nd.2 h1 h2
theorem isc_leaf (L : Leafs K mg W ps) {c : Str} {C : Addr} (hc : (c, C) ∈ ps) : IscT K mg C (leafT (ps.map Prod.fst) c) := fun n r h A hA => by
  obtain ⟨hn, rfl⟩ := look_map h
  obtain ⟨hp, l⟩ := L.at hn hA
  obtain ⟨_, lC⟩ := L.all _ hc
  have nd := List.nodup_cons.mp L.nd
  refine ⟨l.x, kit_sub (fun z => ?_) lC.x.hd lC.t ?_⟩
  · have e := beq_iff_eq.mp z
    cases e
    exact beq_iff_eq.mpr (nd_fst nd.2 hp hc)
  · rw [mroW_sub l.m]
    congr 1
    have hCW : C ≠ W := fun z => nd.1 (z ▸ List.mem_map.mpr ⟨_, hc, rfl⟩)
    by_cases e : A = C
    · subst e
      have e2 : n = c := nd_fst nd.2 hp hc
      subst e2
      rw [beq_self_eq_true]
      exact List.contains_iff_mem.mpr (List.mem_cons_self ..)
    · have e2 : n ≠ c := fun z => by
        subst z
        obtain ⟨g, _⟩ := L.all _ hc
        rw [g] at hA
        cases hA
        exact e rfl
      rw [beq_eq_false_iff_ne.mpr e2]
      refine Bool.eq_false_iff.mpr fun z => ?_
      have z := List.contains_iff_mem.mp z
      simp only [List.mem_cons, Value.ref.injEq, List.not_mem_nil, or_false, reduceCtorEq] at z
      rcases z with z | z
      · exact e z.symm
      · exact hCW z
theorem isc_top (L : Leafs K mg W ps) (hd : PySem.W.hasDictIn K W = true) (ht : PySem.W.typeIn K (.ref W) = some (.type "type")) : IscT K mg W (allT (ps.map Prod.fst)) := fun n r h A hA => by
  obtain ⟨hn, rfl⟩ := look_map (f := fun _ => true) h
  obtain ⟨hp, l⟩ := L.at hn hA
  refine ⟨l.x, kit_sub (fun _ => rfl) hd ht ?_⟩
  rw [mroW_sub l.m]
  congr 1
  exact List.contains_iff_mem.mpr (List.mem_cons_of_mem _ (List.mem_cons_self ..))
theorem isv_top (L : Leafs K mg W ps) : IscV K mg "ValueError" (allT (ps.map Prod.fst)) := fun n r h A hA => by
  obtain ⟨hn, rfl⟩ := look_map (f := fun _ => true) h
  obtain ⟨hp, l⟩ := L.at hn hA
  refine ⟨l.x, kit_ty (ne_ve _) ty_ve ?_⟩
  rw [mroW_sub l.m]
  congr 1
  first | done | exact List.contains_iff_mem.mpr (by simp)
theorem nn_sub (C : Addr) : PySem.W.subIn K (.type "NoneType") (.ref C) = some false := by
  show (fastBuiltinMro "NoneType").map _ = _
  have e : fastBuiltinMro "NoneType" = some [.type "NoneType", .type "object"] := by first | rfl | decide +kernel
  rw [e]; first | done | rfl
theorem nn_leaf {C : Addr} (l : LeafC K W C) : PySem.W.kitOne K (.type "NoneType") (.ref C) = some false := kit_sub (fun z => by cases z) l.x.hd l.t (nn_sub C)
end
theorem nn_val {K : PySem.W.Frag} : PySem.W.kitOne K (.type "NoneType") (.type "ValueError") = some false := kit_ty nn_ve ty_ve (by first | rfl | decide +kernel)
def errs : List Str := (["BadBound", "BadChoices", "BadCount", "BadDerivation", "BadExchange", "BadExchanges", "BadFilling", "BadFillings", "BadGoal", "BadGroups", "BadGuide", "BadHands"] : List Str) ++ (["BadId", "BadJudge", "BadLeast", "BadLevel", "BadLiteral", "BadLiterals", "BadLoads", "BadLog", "BadLot", "BadMany", "BadMost", "BadNamed"] : List Str) ++ (["BadNumber", "BadOrder", "BadOther", "BadPaper", "BadPicks", "BadPlan", "BadPrice", "BadPrices", "BadProblem", "BadRow", "BadRows", "BadSpot"] : List Str) ++ (["BadStep", "BadSum", "BadTerms", "BadText", "BadTrail", "BadVariable", "BadWays", "BadWitness", "Clashes", "Closed", "IsAssumed", "IsReason"] : List Str) ++ (["NoClash", "NoLevel", "NotBySums", "NotClosed", "NotEliminated", "NotEqual", "NotFree", "NotLeaning", "NotShort", "NotSound", "NotWhole", "TooMany"] : List Str)
end VS
namespace My
open PySem PySem.Spec PyProof.Rows L2 VS
def t__law_draw_1 : MT := (andT (testM (binM gEq (stM 0 fun S => .int S.left) (cM (.int 0)))) (largeT 0))
def t__law_draw_2 : MT := (testM (binM gGt (stM 0 fun S => .int S.left) (cM (.int 0))))
def b__law_draw_3 : MS := (seqS (asgS 2 (binM gMod (cbM gInt (consA (stM 0 fun S => .int S.left) nilA)) (varM 1))) (seqS (leftS 0 (binM gDivW (stM 0 fun S => .int S.left) (varM 1))) (retS (varM 2))))
def g__law_draw : MS := (seqS (whileS t__law_draw_1 (popLS 0) 100000) (seqS (ifS t__law_draw_2 b__law_draw_3 nextS) (seqS (asgS 3 (binM gAdd (stM 0 fun S => .int S.turn) (cM (.int 1)))) (seqS (turnS 0 (varM 3)) (seqS (asgS 4 (ifM (testM (binM gNe (stM 0 fun S => .lst (S.cells.map D.int)) (lstM nilA))) (binM gIxA (stM 0 fun S => .lst (S.cells.map D.int)) (binM gMod (cbM gInt (consA (varM 3) nilA)) (cbM gLenA (consA (stM 0 fun S => .lst (S.cells.map D.int)) nilA)))) (cM (.int 0)))) (seqS (asgS 5 (binM gMod (cbM gInt (consA (binM gPow (binM gAdd (binM gAdd (binM gMod (cbM gInt (consA (varM 4) nilA)) (cM (.int 2147483563))) (binM gMulT (cM (.int 40692)) (varM 3))) (cM (.int 24681))) (cM (.int 3))) nilA)) (cM (.int 2147483629)))) (retS (binM gMod (cbM gInt (consA (binM gDivW (binM gMod (cbM gInt (consA (binM gPow (binM gAdd (varM 5) (binM gMulT (cM (.int 104917)) (varM 3))) (cM (.int 5))) nilA)) (cM (.int 2147483579))) (cM (.int 29))) nilA)) (varM 1)))))))))
def G__law_draw (ds : List D) (S : DS) : Res (D × DS) := endS (g__law_draw (startE 6 ds) S)
end My
namespace My
open PySem PySem.Spec PyProof.Rows L2 VS
def g__law_pick : MS := (retS (binM gIxA (varM 1) (callS G__law_draw (consA (varM 0) (consA (cbM gLenA (consA (varM 1) nilA)) nilA)))))
def G__law_pick (ds : List D) (S : DS) : Res (D × DS) := endS (g__law_pick (startE 2 ds) S)
end My
namespace My
open PySem PySem.Spec PyProof.Rows L2 VS
def g__law_odd : MS := (retS (callS G__law_pick (consA (varM 0) (consA (lstM (consA (cM .non) (consA (cM (.bl true)) (consA (cM (.bl false)) (consA (cM (.str "0")) (consA (cM (.str "")) (consA (lstM nilA) (consA (cM (.dct [] [])) (consA (tupM (consA (cM .non) nilA)) (consA (tupM (consA (cM (.str "a")) (consA (cM (.int 1)) nilA))) (consA (lstM (consA (lstM (consA (cM (.int 0)) nilA)) nilA)) (consA (cM (.dct [.inl 0] [.int 0])) (consA (tupM (consA (cM (.bl true)) nilA)) (consA (tupM (consA (tupM nilA) nilA)) nilA)))))))))))))) nilA))))
def G__law_odd (ds : List D) (S : DS) : Res (D × DS) := endS (g__law_odd (startE 1 ds) S)
end My
namespace My
open PySem PySem.Spec PyProof.Rows L2 VS
def g__law_kinds_a : MS := (seqS (asgS 1 (lstM nilA)) (seqS (appS 1 (ifM (testM (unM (gIsD (leafT errs "BadBound")) (varM 0))) (cM (.str "BadBound")) (cM (.str "")))) (seqS (appS 1 (ifM (testM (unM (gIsD (leafT errs "BadChoices")) (varM 0))) (cM (.str "BadChoices")) (cM (.str "")))) (seqS (appS 1 (ifM (testM (unM (gIsD (leafT errs "BadCount")) (varM 0))) (cM (.str "BadCount")) (cM (.str "")))) (seqS (appS 1 (ifM (testM (unM (gIsD (leafT errs "BadDerivation")) (varM 0))) (cM (.str "BadDerivation")) (cM (.str "")))) (seqS (appS 1 (ifM (testM (unM (gIsD (leafT errs "BadExchange")) (varM 0))) (cM (.str "BadExchange")) (cM (.str "")))) (seqS (appS 1 (ifM (testM (unM (gIsD (leafT errs "BadExchanges")) (varM 0))) (cM (.str "BadExchanges")) (cM (.str "")))) (seqS (appS 1 (ifM (testM (unM (gIsD (leafT errs "BadFilling")) (varM 0))) (cM (.str "BadFilling")) (cM (.str "")))) (seqS (appS 1 (ifM (testM (unM (gIsD (leafT errs "BadFillings")) (varM 0))) (cM (.str "BadFillings")) (cM (.str "")))) (seqS (appS 1 (ifM (testM (unM (gIsD (leafT errs "BadGoal")) (varM 0))) (cM (.str "BadGoal")) (cM (.str "")))) (seqS (appS 1 (ifM (testM (unM (gIsD (leafT errs "BadGroups")) (varM 0))) (cM (.str "BadGroups")) (cM (.str "")))) (seqS (appS 1 (ifM (testM (unM (gIsD (leafT errs "BadGuide")) (varM 0))) (cM (.str "BadGuide")) (cM (.str "")))) (seqS (appS 1 (ifM (testM (unM (gIsD (leafT errs "BadHands")) (varM 0))) (cM (.str "BadHands")) (cM (.str "")))) (seqS (appS 1 (ifM (testM (unM (gIsD (leafT errs "BadId")) (varM 0))) (cM (.str "BadId")) (cM (.str "")))) (seqS (appS 1 (ifM (testM (unM (gIsD (leafT errs "BadJudge")) (varM 0))) (cM (.str "BadJudge")) (cM (.str "")))) (seqS (appS 1 (ifM (testM (unM (gIsD (leafT errs "BadLeast")) (varM 0))) (cM (.str "BadLeast")) (cM (.str "")))) (seqS (appS 1 (ifM (testM (unM (gIsD (leafT errs "BadLevel")) (varM 0))) (cM (.str "BadLevel")) (cM (.str "")))) (seqS (appS 1 (ifM (testM (unM (gIsD (leafT errs "BadLiteral")) (varM 0))) (cM (.str "BadLiteral")) (cM (.str "")))) (seqS (appS 1 (ifM (testM (unM (gIsD (leafT errs "BadLiterals")) (varM 0))) (cM (.str "BadLiterals")) (cM (.str "")))) (seqS (appS 1 (ifM (testM (unM (gIsD (leafT errs "BadLoads")) (varM 0))) (cM (.str "BadLoads")) (cM (.str "")))) (seqS (appS 1 (ifM (testM (unM (gIsD (leafT errs "BadLog")) (varM 0))) (cM (.str "BadLog")) (cM (.str "")))) (seqS (appS 1 (ifM (testM (unM (gIsD (leafT errs "BadLot")) (varM 0))) (cM (.str "BadLot")) (cM (.str "")))) (seqS (appS 1 (ifM (testM (unM (gIsD (leafT errs "BadMany")) (varM 0))) (cM (.str "BadMany")) (cM (.str "")))) (seqS (appS 1 (ifM (testM (unM (gIsD (leafT errs "BadMost")) (varM 0))) (cM (.str "BadMost")) (cM (.str "")))) (seqS (appS 1 (ifM (testM (unM (gIsD (leafT errs "BadNamed")) (varM 0))) (cM (.str "BadNamed")) (cM (.str "")))) (retS (lcM (setN 2) (varM 1) (testM (binM gNe (varM 2) (cM (.str "")))) (varM 2) [2])))))))))))))))))))))))))))
def G__law_kinds_a (ds : List D) : RP := endP (g__law_kinds_a (startE 3 ds) S0)
end My
namespace My
open PySem PySem.Spec PyProof.Rows L2 VS
def g__law_kinds_b : MS := (seqS (asgS 1 (lstM nilA)) (seqS (appS 1 (ifM (testM (unM (gIsD (leafT errs "BadNumber")) (varM 0))) (cM (.str "BadNumber")) (cM (.str "")))) (seqS (appS 1 (ifM (testM (unM (gIsD (leafT errs "BadOrder")) (varM 0))) (cM (.str "BadOrder")) (cM (.str "")))) (seqS (appS 1 (ifM (testM (unM (gIsD (leafT errs "BadOther")) (varM 0))) (cM (.str "BadOther")) (cM (.str "")))) (seqS (appS 1 (ifM (testM (unM (gIsD (leafT errs "BadPaper")) (varM 0))) (cM (.str "BadPaper")) (cM (.str "")))) (seqS (appS 1 (ifM (testM (unM (gIsD (leafT errs "BadPicks")) (varM 0))) (cM (.str "BadPicks")) (cM (.str "")))) (seqS (appS 1 (ifM (testM (unM (gIsD (leafT errs "BadPlan")) (varM 0))) (cM (.str "BadPlan")) (cM (.str "")))) (seqS (appS 1 (ifM (testM (unM (gIsD (leafT errs "BadPrice")) (varM 0))) (cM (.str "BadPrice")) (cM (.str "")))) (seqS (appS 1 (ifM (testM (unM (gIsD (leafT errs "BadPrices")) (varM 0))) (cM (.str "BadPrices")) (cM (.str "")))) (seqS (appS 1 (ifM (testM (unM (gIsD (leafT errs "BadProblem")) (varM 0))) (cM (.str "BadProblem")) (cM (.str "")))) (seqS (appS 1 (ifM (testM (unM (gIsD (leafT errs "BadRow")) (varM 0))) (cM (.str "BadRow")) (cM (.str "")))) (seqS (appS 1 (ifM (testM (unM (gIsD (leafT errs "BadRows")) (varM 0))) (cM (.str "BadRows")) (cM (.str "")))) (seqS (appS 1 (ifM (testM (unM (gIsD (leafT errs "BadSpot")) (varM 0))) (cM (.str "BadSpot")) (cM (.str "")))) (seqS (appS 1 (ifM (testM (unM (gIsD (leafT errs "BadStep")) (varM 0))) (cM (.str "BadStep")) (cM (.str "")))) (seqS (appS 1 (ifM (testM (unM (gIsD (leafT errs "BadSum")) (varM 0))) (cM (.str "BadSum")) (cM (.str "")))) (seqS (appS 1 (ifM (testM (unM (gIsD (leafT errs "BadTerms")) (varM 0))) (cM (.str "BadTerms")) (cM (.str "")))) (seqS (appS 1 (ifM (testM (unM (gIsD (leafT errs "BadText")) (varM 0))) (cM (.str "BadText")) (cM (.str "")))) (seqS (appS 1 (ifM (testM (unM (gIsD (leafT errs "BadTrail")) (varM 0))) (cM (.str "BadTrail")) (cM (.str "")))) (seqS (appS 1 (ifM (testM (unM (gIsD (leafT errs "BadVariable")) (varM 0))) (cM (.str "BadVariable")) (cM (.str "")))) (seqS (appS 1 (ifM (testM (unM (gIsD (leafT errs "BadWays")) (varM 0))) (cM (.str "BadWays")) (cM (.str "")))) (seqS (appS 1 (ifM (testM (unM (gIsD (leafT errs "BadWitness")) (varM 0))) (cM (.str "BadWitness")) (cM (.str "")))) (seqS (appS 1 (ifM (testM (unM (gIsD (leafT errs "Clashes")) (varM 0))) (cM (.str "Clashes")) (cM (.str "")))) (seqS (appS 1 (ifM (testM (unM (gIsD (leafT errs "Closed")) (varM 0))) (cM (.str "Closed")) (cM (.str "")))) (seqS (appS 1 (ifM (testM (unM (gIsD (leafT errs "IsAssumed")) (varM 0))) (cM (.str "IsAssumed")) (cM (.str "")))) (seqS (appS 1 (ifM (testM (unM (gIsD (leafT errs "IsReason")) (varM 0))) (cM (.str "IsReason")) (cM (.str "")))) (retS (lcM (setN 2) (varM 1) (testM (binM gNe (varM 2) (cM (.str "")))) (varM 2) [2])))))))))))))))))))))))))))
def G__law_kinds_b (ds : List D) : RP := endP (g__law_kinds_b (startE 3 ds) S0)
end My
namespace My
open PySem PySem.Spec PyProof.Rows L2 VS
def g__law_kinds_c : MS := (seqS (asgS 1 (lstM nilA)) (seqS (appS 1 (ifM (testM (unM (gIsD (leafT errs "NoClash")) (varM 0))) (cM (.str "NoClash")) (cM (.str "")))) (seqS (appS 1 (ifM (testM (unM (gIsD (leafT errs "NoLevel")) (varM 0))) (cM (.str "NoLevel")) (cM (.str "")))) (seqS (appS 1 (ifM (testM (unM (gIsD (leafT errs "NotBySums")) (varM 0))) (cM (.str "NotBySums")) (cM (.str "")))) (seqS (appS 1 (ifM (testM (unM (gIsD (leafT errs "NotClosed")) (varM 0))) (cM (.str "NotClosed")) (cM (.str "")))) (seqS (appS 1 (ifM (testM (unM (gIsD (leafT errs "NotEliminated")) (varM 0))) (cM (.str "NotEliminated")) (cM (.str "")))) (seqS (appS 1 (ifM (testM (unM (gIsD (leafT errs "NotEqual")) (varM 0))) (cM (.str "NotEqual")) (cM (.str "")))) (seqS (appS 1 (ifM (testM (unM (gIsD (leafT errs "NotFree")) (varM 0))) (cM (.str "NotFree")) (cM (.str "")))) (seqS (appS 1 (ifM (testM (unM (gIsD (leafT errs "NotLeaning")) (varM 0))) (cM (.str "NotLeaning")) (cM (.str "")))) (seqS (appS 1 (ifM (testM (unM (gIsD (leafT errs "NotShort")) (varM 0))) (cM (.str "NotShort")) (cM (.str "")))) (seqS (appS 1 (ifM (testM (unM (gIsD (leafT errs "NotSound")) (varM 0))) (cM (.str "NotSound")) (cM (.str "")))) (seqS (appS 1 (ifM (testM (unM (gIsD (leafT errs "NotWhole")) (varM 0))) (cM (.str "NotWhole")) (cM (.str "")))) (seqS (appS 1 (ifM (testM (unM (gIsD (leafT errs "TooMany")) (varM 0))) (cM (.str "TooMany")) (cM (.str "")))) (retS (lcM (setN 2) (varM 1) (testM (binM gNe (varM 2) (cM (.str "")))) (varM 2) [2])))))))))))))))
def G__law_kinds_c (ds : List D) : RP := endP (g__law_kinds_c (startE 3 ds) S0)
end My
namespace My
open PySem PySem.Spec PyProof.Rows L2 VS
def g__law_plain_a : MS := (seqS (asgS 1 (lstM nilA)) (seqS (appS 1 (tupM (consA (cM (.str "BadBound")) (consA (mkE "BadBound" (varM 0)) nilA)))) (seqS (appS 1 (tupM (consA (cM (.str "BadChoices")) (consA (mkE "BadChoices" (varM 0)) nilA)))) (seqS (appS 1 (tupM (consA (cM (.str "BadCount")) (consA (mkE "BadCount" (varM 0)) nilA)))) (seqS (appS 1 (tupM (consA (cM (.str "BadExchange")) (consA (mkE "BadExchange" (varM 0)) nilA)))) (seqS (appS 1 (tupM (consA (cM (.str "BadExchanges")) (consA (mkE "BadExchanges" (varM 0)) nilA)))) (seqS (appS 1 (tupM (consA (cM (.str "BadFilling")) (consA (mkE "BadFilling" (varM 0)) nilA)))) (seqS (appS 1 (tupM (consA (cM (.str "BadFillings")) (consA (mkE "BadFillings" (varM 0)) nilA)))) (seqS (appS 1 (tupM (consA (cM (.str "BadGoal")) (consA (mkE "BadGoal" (varM 0)) nilA)))) (seqS (appS 1 (tupM (consA (cM (.str "BadGroups")) (consA (mkE "BadGroups" (varM 0)) nilA)))) (seqS (appS 1 (tupM (consA (cM (.str "BadGuide")) (consA (mkE "BadGuide" (varM 0)) nilA)))) (seqS (appS 1 (tupM (consA (cM (.str "BadHands")) (consA (mkE "BadHands" (varM 0)) nilA)))) (seqS (appS 1 (tupM (consA (cM (.str "BadId")) (consA (mkE "BadId" (varM 0)) nilA)))) (seqS (appS 1 (tupM (consA (cM (.str "BadJudge")) (consA (mkE "BadJudge" (varM 0)) nilA)))) (seqS (appS 1 (tupM (consA (cM (.str "BadLeast")) (consA (mkE "BadLeast" (varM 0)) nilA)))) (seqS (appS 1 (tupM (consA (cM (.str "BadLevel")) (consA (mkE "BadLevel" (varM 0)) nilA)))) (seqS (appS 1 (tupM (consA (cM (.str "BadLiteral")) (consA (mkE "BadLiteral" (varM 0)) nilA)))) (seqS (appS 1 (tupM (consA (cM (.str "BadLiterals")) (consA (mkE "BadLiterals" (varM 0)) nilA)))) (seqS (appS 1 (tupM (consA (cM (.str "BadLoads")) (consA (mkE "BadLoads" (varM 0)) nilA)))) (seqS (appS 1 (tupM (consA (cM (.str "BadLot")) (consA (mkE "BadLot" (varM 0)) nilA)))) (seqS (appS 1 (tupM (consA (cM (.str "BadMany")) (consA (mkE "BadMany" (varM 0)) nilA)))) (seqS (appS 1 (tupM (consA (cM (.str "BadMost")) (consA (mkE "BadMost" (varM 0)) nilA)))) (seqS (appS 1 (tupM (consA (cM (.str "BadNamed")) (consA (mkE "BadNamed" (varM 0)) nilA)))) (seqS (appS 1 (tupM (consA (cM (.str "BadNumber")) (consA (mkE "BadNumber" (varM 0)) nilA)))) (seqS (appS 1 (tupM (consA (cM (.str "BadOrder")) (consA (mkE "BadOrder" (varM 0)) nilA)))) (retS (varM 1)))))))))))))))))))))))))))
def G__law_plain_a (ds : List D) : RP := endP (g__law_plain_a (startE 2 ds) S0)
end My
namespace My
open PySem PySem.Spec PyProof.Rows L2 VS
def g__law_plain_b : MS := (seqS (asgS 1 (lstM nilA)) (seqS (appS 1 (tupM (consA (cM (.str "BadOther")) (consA (mkE "BadOther" (varM 0)) nilA)))) (seqS (appS 1 (tupM (consA (cM (.str "BadPicks")) (consA (mkE "BadPicks" (varM 0)) nilA)))) (seqS (appS 1 (tupM (consA (cM (.str "BadPlan")) (consA (mkE "BadPlan" (varM 0)) nilA)))) (seqS (appS 1 (tupM (consA (cM (.str "BadPrice")) (consA (mkE "BadPrice" (varM 0)) nilA)))) (seqS (appS 1 (tupM (consA (cM (.str "BadPrices")) (consA (mkE "BadPrices" (varM 0)) nilA)))) (seqS (appS 1 (tupM (consA (cM (.str "BadProblem")) (consA (mkE "BadProblem" (varM 0)) nilA)))) (seqS (appS 1 (tupM (consA (cM (.str "BadRow")) (consA (mkE "BadRow" (varM 0)) nilA)))) (seqS (appS 1 (tupM (consA (cM (.str "BadRows")) (consA (mkE "BadRows" (varM 0)) nilA)))) (seqS (appS 1 (tupM (consA (cM (.str "BadSpot")) (consA (mkE "BadSpot" (varM 0)) nilA)))) (seqS (appS 1 (tupM (consA (cM (.str "BadStep")) (consA (mkE "BadStep" (varM 0)) nilA)))) (seqS (appS 1 (tupM (consA (cM (.str "BadSum")) (consA (mkE "BadSum" (varM 0)) nilA)))) (seqS (appS 1 (tupM (consA (cM (.str "BadTerms")) (consA (mkE "BadTerms" (varM 0)) nilA)))) (seqS (appS 1 (tupM (consA (cM (.str "BadTrail")) (consA (mkE "BadTrail" (varM 0)) nilA)))) (seqS (appS 1 (tupM (consA (cM (.str "BadVariable")) (consA (mkE "BadVariable" (varM 0)) nilA)))) (seqS (appS 1 (tupM (consA (cM (.str "BadWays")) (consA (mkE "BadWays" (varM 0)) nilA)))) (seqS (appS 1 (tupM (consA (cM (.str "BadWitness")) (consA (mkE "BadWitness" (varM 0)) nilA)))) (seqS (appS 1 (tupM (consA (cM (.str "Closed")) (consA (mkE "Closed" (varM 0)) nilA)))) (seqS (appS 1 (tupM (consA (cM (.str "NoClash")) (consA (mkE "NoClash" (varM 0)) nilA)))) (seqS (appS 1 (tupM (consA (cM (.str "NoLevel")) (consA (mkE "NoLevel" (varM 0)) nilA)))) (seqS (appS 1 (tupM (consA (cM (.str "NotBySums")) (consA (mkE "NotBySums" (varM 0)) nilA)))) (seqS (appS 1 (tupM (consA (cM (.str "NotClosed")) (consA (mkE "NotClosed" (varM 0)) nilA)))) (seqS (appS 1 (tupM (consA (cM (.str "NotEliminated")) (consA (mkE "NotEliminated" (varM 0)) nilA)))) (seqS (appS 1 (tupM (consA (cM (.str "NotEqual")) (consA (mkE "NotEqual" (varM 0)) nilA)))) (seqS (appS 1 (tupM (consA (cM (.str "NotLeaning")) (consA (mkE "NotLeaning" (varM 0)) nilA)))) (retS (varM 1)))))))))))))))))))))))))))
def G__law_plain_b (ds : List D) : RP := endP (g__law_plain_b (startE 2 ds) S0)
end My
namespace My
open PySem PySem.Spec PyProof.Rows L2 VS
def g__law_plain_c : MS := (seqS (asgS 1 (lstM nilA)) (seqS (appS 1 (tupM (consA (cM (.str "NotShort")) (consA (mkE "NotShort" (varM 0)) nilA)))) (seqS (appS 1 (tupM (consA (cM (.str "NotSound")) (consA (mkE "NotSound" (varM 0)) nilA)))) (seqS (appS 1 (tupM (consA (cM (.str "NotWhole")) (consA (mkE "NotWhole" (varM 0)) nilA)))) (retS (varM 1))))))
def G__law_plain_c (ds : List D) : RP := endP (g__law_plain_c (startE 2 ds) S0)
end My
namespace My
open PySem PySem.Spec PyProof.Rows L2 VS
def g__law_held : MS := (seqS (asgS 1 (lstM nilA)) (seqS (asgS 2 (mkF "BadDerivation" "index" (consA (varM 0) nilA))) (seqS (appS 1 (tupM (consA (cM (.str "BadDerivation")) (consA (varM 2) (consA (unM (gFld ["BadDerivation", "BadLog", "BadPaper"] "index") (varM 2)) nilA))))) (seqS (asgS 2 (mkF "BadDerivation" "index" (consA (varM 0) nilA))) (seqS (appS 1 (tupM (consA (cM (.str "BadDerivation")) (consA (varM 2) (consA (unM (gFld ["BadDerivation", "BadLog", "BadPaper"] "index") (varM 2)) nilA))))) (seqS (asgS 2 (mkF "BadLog" "index" (consA (varM 0) nilA))) (seqS (appS 1 (tupM (consA (cM (.str "BadLog")) (consA (varM 2) (consA (unM (gFld ["BadDerivation", "BadLog", "BadPaper"] "index") (varM 2)) nilA))))) (seqS (asgS 2 (mkF "BadLog" "index" (consA (varM 0) nilA))) (seqS (appS 1 (tupM (consA (cM (.str "BadLog")) (consA (varM 2) (consA (unM (gFld ["BadDerivation", "BadLog", "BadPaper"] "index") (varM 2)) nilA))))) (seqS (asgS 2 (mkF "BadPaper" "index" (consA (varM 0) nilA))) (seqS (appS 1 (tupM (consA (cM (.str "BadPaper")) (consA (varM 2) (consA (unM (gFld ["BadDerivation", "BadLog", "BadPaper"] "index") (varM 2)) nilA))))) (seqS (asgS 2 (mkF "BadPaper" "index" (consA (varM 0) nilA))) (seqS (appS 1 (tupM (consA (cM (.str "BadPaper")) (consA (varM 2) (consA (unM (gFld ["BadDerivation", "BadLog", "BadPaper"] "index") (varM 2)) nilA))))) (seqS (asgS 2 (mkF "BadText" "line" (consA (varM 0) nilA))) (seqS (appS 1 (tupM (consA (cM (.str "BadText")) (consA (varM 2) (consA (unM (gFld ["BadText"] "line") (varM 2)) nilA))))) (seqS (asgS 2 (mkF "BadText" "line" (consA (varM 0) nilA))) (seqS (appS 1 (tupM (consA (cM (.str "BadText")) (consA (varM 2) (consA (unM (gFld ["BadText"] "line") (varM 2)) nilA))))) (seqS (asgS 2 (mkF "Clashes" "number" (consA (varM 0) nilA))) (seqS (appS 1 (tupM (consA (cM (.str "Clashes")) (consA (varM 2) (consA (unM (gFld ["Clashes", "IsReason"] "number") (varM 2)) nilA))))) (seqS (asgS 2 (mkF "Clashes" "number" (consA (varM 0) nilA))) (seqS (appS 1 (tupM (consA (cM (.str "Clashes")) (consA (varM 2) (consA (unM (gFld ["Clashes", "IsReason"] "number") (varM 2)) nilA))))) (seqS (asgS 2 (mkF "IsAssumed" "literal" (consA (varM 0) nilA))) (seqS (appS 1 (tupM (consA (cM (.str "IsAssumed")) (consA (varM 2) (consA (unM (gFld ["IsAssumed", "NotFree"] "literal") (varM 2)) nilA))))) (seqS (asgS 2 (mkF "IsAssumed" "literal" (consA (varM 0) nilA))) (seqS (appS 1 (tupM (consA (cM (.str "IsAssumed")) (consA (varM 2) (consA (unM (gFld ["IsAssumed", "NotFree"] "literal") (varM 2)) nilA))))) (seqS (asgS 2 (mkF "IsReason" "number" (consA (varM 0) nilA))) (seqS (appS 1 (tupM (consA (cM (.str "IsReason")) (consA (varM 2) (consA (unM (gFld ["Clashes", "IsReason"] "number") (varM 2)) nilA))))) (seqS (asgS 2 (mkF "IsReason" "number" (consA (varM 0) nilA))) (seqS (appS 1 (tupM (consA (cM (.str "IsReason")) (consA (varM 2) (consA (unM (gFld ["Clashes", "IsReason"] "number") (varM 2)) nilA))))) (seqS (asgS 2 (mkF "NotFree" "literal" (consA (varM 0) nilA))) (seqS (appS 1 (tupM (consA (cM (.str "NotFree")) (consA (varM 2) (consA (unM (gFld ["IsAssumed", "NotFree"] "literal") (varM 2)) nilA))))) (seqS (asgS 2 (mkF "NotFree" "literal" (consA (varM 0) nilA))) (seqS (appS 1 (tupM (consA (cM (.str "NotFree")) (consA (varM 2) (consA (unM (gFld ["IsAssumed", "NotFree"] "literal") (varM 2)) nilA))))) (seqS (asgS 2 (mkF "TooMany" "most" (consA (varM 0) nilA))) (seqS (appS 1 (tupM (consA (cM (.str "TooMany")) (consA (varM 2) (consA (unM (gFld ["TooMany"] "most") (varM 2)) nilA))))) (seqS (asgS 2 (mkF "TooMany" "most" (consA (varM 0) nilA))) (seqS (appS 1 (tupM (consA (cM (.str "TooMany")) (consA (varM 2) (consA (unM (gFld ["TooMany"] "most") (varM 2)) nilA))))) (retS (varM 1)))))))))))))))))))))))))))))))))))))))
def G__law_held (ds : List D) : RP := endP (g__law_held (startE 3 ds) S0)
end My
namespace My
open PySem PySem.Spec PyProof.Rows L2 VS
def g__law_is_alone : MS := (seqS (asgS 2 (binM gAdd (binM gAdd (callP G__law_kinds_a [] (consA (varM 0) nilA)) (callP G__law_kinds_b [] (consA (varM 0) nilA))) (callP G__law_kinds_c [] (consA (varM 0) nilA)))) (retS (andV (binM gEq (varM 2) (lstM (consA (varM 1) nilA))) (andV (unM (gIsD (allT errs)) (varM 0)) (unM (gIsD (allT errs)) (varM 0))))))
def G__law_is_alone (ds : List D) : RP := endP (g__law_is_alone (startE 3 ds) S0)
end My
namespace My
open PySem PySem.Spec PyProof.Rows L2 VS
def top (i : Nat) : Stmt := PySem.Challenge.pw_witnesslog_k00_errors_apart.main.body.getD i (.Pass ⟨0, 0, 0, 0⟩)
structure Adr where
  a__law_begun : Addr
  d__law_begun : FuncData
  a__law_draw : Addr
  d__law_draw : FuncData
  a__law_pick : Addr
  d__law_pick : FuncData
  a__law_odd : Addr
  d__law_odd : FuncData
  a__law_kinds_a : Addr
  d__law_kinds_a : FuncData
  a__law_kinds_b : Addr
  d__law_kinds_b : FuncData
  a__law_kinds_c : Addr
  d__law_kinds_c : FuncData
  a__law_plain_a : Addr
  d__law_plain_a : FuncData
  a__law_plain_b : Addr
  d__law_plain_b : FuncData
  a__law_plain_c : Addr
  d__law_plain_c : FuncData
  a__law_held : Addr
  d__law_held : FuncData
  a__law_is_alone : Addr
  d__law_is_alone : FuncData
  c_BadBound : Addr
  c_BadChoices : Addr
  c_BadCount : Addr
  c_BadDerivation : Addr
  c_BadExchange : Addr
  c_BadExchanges : Addr
  c_BadFilling : Addr
  c_BadFillings : Addr
  c_BadGoal : Addr
  c_BadGroups : Addr
  c_BadGuide : Addr
  c_BadHands : Addr
  c_BadId : Addr
  c_BadJudge : Addr
  c_BadLeast : Addr
  c_BadLevel : Addr
  c_BadLiteral : Addr
  c_BadLiterals : Addr
  c_BadLoads : Addr
  c_BadLog : Addr
  c_BadLot : Addr
  c_BadMany : Addr
  c_BadMost : Addr
  c_BadNamed : Addr
  c_BadNumber : Addr
  c_BadOrder : Addr
  c_BadOther : Addr
  c_BadPaper : Addr
  c_BadPicks : Addr
  c_BadPlan : Addr
  c_BadPrice : Addr
  c_BadPrices : Addr
  c_BadProblem : Addr
  c_BadRow : Addr
  c_BadRows : Addr
  c_BadSpot : Addr
  c_BadStep : Addr
  c_BadSum : Addr
  c_BadTerms : Addr
  c_BadText : Addr
  c_BadTrail : Addr
  c_BadVariable : Addr
  c_BadWays : Addr
  c_BadWitness : Addr
  c_Clashes : Addr
  c_Closed : Addr
  c_IsAssumed : Addr
  c_IsReason : Addr
  c_NoClash : Addr
  c_NoLevel : Addr
  c_NotBySums : Addr
  c_NotClosed : Addr
  c_NotEliminated : Addr
  c_NotEqual : Addr
  c_NotFree : Addr
  c_NotLeaning : Addr
  c_NotShort : Addr
  c_NotSound : Addr
  c_NotWhole : Addr
  c_TooMany : Addr
  c_WitnessError : Addr
  ai_BadDerivation : Addr
  di_BadDerivation : FuncData
  ai_BadLog : Addr
  di_BadLog : FuncData
  ai_BadPaper : Addr
  di_BadPaper : FuncData
  ai_BadText : Addr
  di_BadText : FuncData
  ai_Clashes : Addr
  di_Clashes : FuncData
  ai_IsAssumed : Addr
  di_IsAssumed : FuncData
  ai_IsReason : Addr
  di_IsReason : FuncData
  ai_NotFree : Addr
  di_NotFree : FuncData
  ai_TooMany : Addr
  di_TooMany : FuncData
structure Txt (K : PySem.W.Frag) (mg : Str → Option Value) (A : Adr) : Prop where
  m__law_begun : mg "_law_begun" = some (.ref A.a__law_begun)
  f__law_begun : Fun K "_law_begun" "_law_begun" (top 63) A.a__law_begun A.d__law_begun
  m__law_draw : mg "_law_draw" = some (.ref A.a__law_draw)
  f__law_draw : Fun K "_law_draw" "_law_draw" (top 64) A.a__law_draw A.d__law_draw
  m__law_pick : mg "_law_pick" = some (.ref A.a__law_pick)
  f__law_pick : Fun K "_law_pick" "_law_pick" (top 65) A.a__law_pick A.d__law_pick
  m__law_odd : mg "_law_odd" = some (.ref A.a__law_odd)
  f__law_odd : Fun K "_law_odd" "_law_odd" (top 66) A.a__law_odd A.d__law_odd
  m__law_kinds_a : mg "_law_kinds_a" = some (.ref A.a__law_kinds_a)
  f__law_kinds_a : Fun K "_law_kinds_a" "_law_kinds_a" (top 67) A.a__law_kinds_a A.d__law_kinds_a
  m__law_kinds_b : mg "_law_kinds_b" = some (.ref A.a__law_kinds_b)
  f__law_kinds_b : Fun K "_law_kinds_b" "_law_kinds_b" (top 68) A.a__law_kinds_b A.d__law_kinds_b
  m__law_kinds_c : mg "_law_kinds_c" = some (.ref A.a__law_kinds_c)
  f__law_kinds_c : Fun K "_law_kinds_c" "_law_kinds_c" (top 69) A.a__law_kinds_c A.d__law_kinds_c
  m__law_plain_a : mg "_law_plain_a" = some (.ref A.a__law_plain_a)
  f__law_plain_a : Fun K "_law_plain_a" "_law_plain_a" (top 70) A.a__law_plain_a A.d__law_plain_a
  m__law_plain_b : mg "_law_plain_b" = some (.ref A.a__law_plain_b)
  f__law_plain_b : Fun K "_law_plain_b" "_law_plain_b" (top 71) A.a__law_plain_b A.d__law_plain_b
  m__law_plain_c : mg "_law_plain_c" = some (.ref A.a__law_plain_c)
  f__law_plain_c : Fun K "_law_plain_c" "_law_plain_c" (top 72) A.a__law_plain_c A.d__law_plain_c
  m__law_held : mg "_law_held" = some (.ref A.a__law_held)
  f__law_held : Fun K "_law_held" "_law_held" (top 73) A.a__law_held A.d__law_held
  m__law_is_alone : mg "_law_is_alone" = some (.ref A.a__law_is_alone)
  f__law_is_alone : Fun K "_law_is_alone" "_law_is_alone" (top 74) A.a__law_is_alone A.d__law_is_alone
  k_BadBound : KlsAt K mg "BadBound" A.c_BadBound
  k_BadChoices : KlsAt K mg "BadChoices" A.c_BadChoices
  k_BadCount : KlsAt K mg "BadCount" A.c_BadCount
  k_BadDerivation : KlsI K mg "BadDerivation" A.c_BadDerivation
  fi_BadDerivation : Fun K "__init__" "BadDerivation.__init__" (inClass (top 5)) A.ai_BadDerivation A.di_BadDerivation
  oe_BadDerivation : OexC K A.c_BadDerivation
  xf_BadDerivation : XfC K A.c_BadDerivation
  nf_BadDerivation : PySem.W.findIn K (.ref A.c_BadDerivation) "index" = some none
  ii_BadDerivation : PySem.W.findIn K (.ref A.c_BadDerivation) "__init__" = some (some (.ref A.ai_BadDerivation))
  ti_BadDerivation : PySem.W.typeIn K (.ref A.ai_BadDerivation) = some (.type "function")
  k_BadExchange : KlsAt K mg "BadExchange" A.c_BadExchange
  k_BadExchanges : KlsAt K mg "BadExchanges" A.c_BadExchanges
  k_BadFilling : KlsAt K mg "BadFilling" A.c_BadFilling
  k_BadFillings : KlsAt K mg "BadFillings" A.c_BadFillings
  k_BadGoal : KlsAt K mg "BadGoal" A.c_BadGoal
  k_BadGroups : KlsAt K mg "BadGroups" A.c_BadGroups
  k_BadGuide : KlsAt K mg "BadGuide" A.c_BadGuide
  k_BadHands : KlsAt K mg "BadHands" A.c_BadHands
  k_BadId : KlsAt K mg "BadId" A.c_BadId
  k_BadJudge : KlsAt K mg "BadJudge" A.c_BadJudge
  k_BadLeast : KlsAt K mg "BadLeast" A.c_BadLeast
  k_BadLevel : KlsAt K mg "BadLevel" A.c_BadLevel
  k_BadLiteral : KlsAt K mg "BadLiteral" A.c_BadLiteral
  k_BadLiterals : KlsAt K mg "BadLiterals" A.c_BadLiterals
  k_BadLoads : KlsAt K mg "BadLoads" A.c_BadLoads
  k_BadLog : KlsI K mg "BadLog" A.c_BadLog
  fi_BadLog : Fun K "__init__" "BadLog.__init__" (inClass (top 21)) A.ai_BadLog A.di_BadLog
  oe_BadLog : OexC K A.c_BadLog
  xf_BadLog : XfC K A.c_BadLog
  nf_BadLog : PySem.W.findIn K (.ref A.c_BadLog) "index" = some none
  ii_BadLog : PySem.W.findIn K (.ref A.c_BadLog) "__init__" = some (some (.ref A.ai_BadLog))
  ti_BadLog : PySem.W.typeIn K (.ref A.ai_BadLog) = some (.type "function")
  k_BadLot : KlsAt K mg "BadLot" A.c_BadLot
  k_BadMany : KlsAt K mg "BadMany" A.c_BadMany
  k_BadMost : KlsAt K mg "BadMost" A.c_BadMost
  k_BadNamed : KlsAt K mg "BadNamed" A.c_BadNamed
  k_BadNumber : KlsAt K mg "BadNumber" A.c_BadNumber
  k_BadOrder : KlsAt K mg "BadOrder" A.c_BadOrder
  k_BadOther : KlsAt K mg "BadOther" A.c_BadOther
  k_BadPaper : KlsI K mg "BadPaper" A.c_BadPaper
  fi_BadPaper : Fun K "__init__" "BadPaper.__init__" (inClass (top 29)) A.ai_BadPaper A.di_BadPaper
  oe_BadPaper : OexC K A.c_BadPaper
  xf_BadPaper : XfC K A.c_BadPaper
  nf_BadPaper : PySem.W.findIn K (.ref A.c_BadPaper) "index" = some none
  ii_BadPaper : PySem.W.findIn K (.ref A.c_BadPaper) "__init__" = some (some (.ref A.ai_BadPaper))
  ti_BadPaper : PySem.W.typeIn K (.ref A.ai_BadPaper) = some (.type "function")
  k_BadPicks : KlsAt K mg "BadPicks" A.c_BadPicks
  k_BadPlan : KlsAt K mg "BadPlan" A.c_BadPlan
  k_BadPrice : KlsAt K mg "BadPrice" A.c_BadPrice
  k_BadPrices : KlsAt K mg "BadPrices" A.c_BadPrices
  k_BadProblem : KlsAt K mg "BadProblem" A.c_BadProblem
  k_BadRow : KlsAt K mg "BadRow" A.c_BadRow
  k_BadRows : KlsAt K mg "BadRows" A.c_BadRows
  k_BadSpot : KlsAt K mg "BadSpot" A.c_BadSpot
  k_BadStep : KlsAt K mg "BadStep" A.c_BadStep
  k_BadSum : KlsAt K mg "BadSum" A.c_BadSum
  k_BadTerms : KlsAt K mg "BadTerms" A.c_BadTerms
  k_BadText : KlsI K mg "BadText" A.c_BadText
  fi_BadText : Fun K "__init__" "BadText.__init__" (inClass (top 41)) A.ai_BadText A.di_BadText
  oe_BadText : OexC K A.c_BadText
  xf_BadText : XfC K A.c_BadText
  nf_BadText : PySem.W.findIn K (.ref A.c_BadText) "line" = some none
  ii_BadText : PySem.W.findIn K (.ref A.c_BadText) "__init__" = some (some (.ref A.ai_BadText))
  ti_BadText : PySem.W.typeIn K (.ref A.ai_BadText) = some (.type "function")
  k_BadTrail : KlsAt K mg "BadTrail" A.c_BadTrail
  k_BadVariable : KlsAt K mg "BadVariable" A.c_BadVariable
  k_BadWays : KlsAt K mg "BadWays" A.c_BadWays
  k_BadWitness : KlsAt K mg "BadWitness" A.c_BadWitness
  k_Clashes : KlsI K mg "Clashes" A.c_Clashes
  fi_Clashes : Fun K "__init__" "Clashes.__init__" (inClass (top 46)) A.ai_Clashes A.di_Clashes
  oe_Clashes : OexC K A.c_Clashes
  xf_Clashes : XfC K A.c_Clashes
  nf_Clashes : PySem.W.findIn K (.ref A.c_Clashes) "number" = some none
  ii_Clashes : PySem.W.findIn K (.ref A.c_Clashes) "__init__" = some (some (.ref A.ai_Clashes))
  ti_Clashes : PySem.W.typeIn K (.ref A.ai_Clashes) = some (.type "function")
  k_Closed : KlsAt K mg "Closed" A.c_Closed
  k_IsAssumed : KlsI K mg "IsAssumed" A.c_IsAssumed
  fi_IsAssumed : Fun K "__init__" "IsAssumed.__init__" (inClass (top 48)) A.ai_IsAssumed A.di_IsAssumed
  oe_IsAssumed : OexC K A.c_IsAssumed
  xf_IsAssumed : XfC K A.c_IsAssumed
  nf_IsAssumed : PySem.W.findIn K (.ref A.c_IsAssumed) "literal" = some none
  ii_IsAssumed : PySem.W.findIn K (.ref A.c_IsAssumed) "__init__" = some (some (.ref A.ai_IsAssumed))
  ti_IsAssumed : PySem.W.typeIn K (.ref A.ai_IsAssumed) = some (.type "function")
  k_IsReason : KlsI K mg "IsReason" A.c_IsReason
  fi_IsReason : Fun K "__init__" "IsReason.__init__" (inClass (top 49)) A.ai_IsReason A.di_IsReason
  oe_IsReason : OexC K A.c_IsReason
  xf_IsReason : XfC K A.c_IsReason
  nf_IsReason : PySem.W.findIn K (.ref A.c_IsReason) "number" = some none
  ii_IsReason : PySem.W.findIn K (.ref A.c_IsReason) "__init__" = some (some (.ref A.ai_IsReason))
  ti_IsReason : PySem.W.typeIn K (.ref A.ai_IsReason) = some (.type "function")
  k_NoClash : KlsAt K mg "NoClash" A.c_NoClash
  k_NoLevel : KlsAt K mg "NoLevel" A.c_NoLevel
  k_NotBySums : KlsAt K mg "NotBySums" A.c_NotBySums
  k_NotClosed : KlsAt K mg "NotClosed" A.c_NotClosed
  k_NotEliminated : KlsAt K mg "NotEliminated" A.c_NotEliminated
  k_NotEqual : KlsAt K mg "NotEqual" A.c_NotEqual
  k_NotFree : KlsI K mg "NotFree" A.c_NotFree
  fi_NotFree : Fun K "__init__" "NotFree.__init__" (inClass (top 56)) A.ai_NotFree A.di_NotFree
  oe_NotFree : OexC K A.c_NotFree
  xf_NotFree : XfC K A.c_NotFree
  nf_NotFree : PySem.W.findIn K (.ref A.c_NotFree) "literal" = some none
  ii_NotFree : PySem.W.findIn K (.ref A.c_NotFree) "__init__" = some (some (.ref A.ai_NotFree))
  ti_NotFree : PySem.W.typeIn K (.ref A.ai_NotFree) = some (.type "function")
  k_NotLeaning : KlsAt K mg "NotLeaning" A.c_NotLeaning
  k_NotShort : KlsAt K mg "NotShort" A.c_NotShort
  k_NotSound : KlsAt K mg "NotSound" A.c_NotSound
  k_NotWhole : KlsAt K mg "NotWhole" A.c_NotWhole
  k_TooMany : KlsI K mg "TooMany" A.c_TooMany
  fi_TooMany : Fun K "__init__" "TooMany.__init__" (inClass (top 61)) A.ai_TooMany A.di_TooMany
  oe_TooMany : OexC K A.c_TooMany
  xf_TooMany : XfC K A.c_TooMany
  nf_TooMany : PySem.W.findIn K (.ref A.c_TooMany) "most" = some none
  ii_TooMany : PySem.W.findIn K (.ref A.c_TooMany) "__init__" = some (some (.ref A.ai_TooMany))
  ti_TooMany : PySem.W.typeIn K (.ref A.ai_TooMany) = some (.type "function")
  k_WitnessError : KlsAt K mg "WitnessError" A.c_WitnessError
  lf_BadBound : LeafC K A.c_WitnessError A.c_BadBound
  lf_BadChoices : LeafC K A.c_WitnessError A.c_BadChoices
  lf_BadCount : LeafC K A.c_WitnessError A.c_BadCount
  lf_BadDerivation : LeafC K A.c_WitnessError A.c_BadDerivation
  lf_BadExchange : LeafC K A.c_WitnessError A.c_BadExchange
  lf_BadExchanges : LeafC K A.c_WitnessError A.c_BadExchanges
  lf_BadFilling : LeafC K A.c_WitnessError A.c_BadFilling
  lf_BadFillings : LeafC K A.c_WitnessError A.c_BadFillings
  lf_BadGoal : LeafC K A.c_WitnessError A.c_BadGoal
  lf_BadGroups : LeafC K A.c_WitnessError A.c_BadGroups
  lf_BadGuide : LeafC K A.c_WitnessError A.c_BadGuide
  lf_BadHands : LeafC K A.c_WitnessError A.c_BadHands
  lf_BadId : LeafC K A.c_WitnessError A.c_BadId
  lf_BadJudge : LeafC K A.c_WitnessError A.c_BadJudge
  lf_BadLeast : LeafC K A.c_WitnessError A.c_BadLeast
  lf_BadLevel : LeafC K A.c_WitnessError A.c_BadLevel
  lf_BadLiteral : LeafC K A.c_WitnessError A.c_BadLiteral
  lf_BadLiterals : LeafC K A.c_WitnessError A.c_BadLiterals
  lf_BadLoads : LeafC K A.c_WitnessError A.c_BadLoads
  lf_BadLog : LeafC K A.c_WitnessError A.c_BadLog
  lf_BadLot : LeafC K A.c_WitnessError A.c_BadLot
  lf_BadMany : LeafC K A.c_WitnessError A.c_BadMany
  lf_BadMost : LeafC K A.c_WitnessError A.c_BadMost
  lf_BadNamed : LeafC K A.c_WitnessError A.c_BadNamed
  lf_BadNumber : LeafC K A.c_WitnessError A.c_BadNumber
  lf_BadOrder : LeafC K A.c_WitnessError A.c_BadOrder
  lf_BadOther : LeafC K A.c_WitnessError A.c_BadOther
  lf_BadPaper : LeafC K A.c_WitnessError A.c_BadPaper
  lf_BadPicks : LeafC K A.c_WitnessError A.c_BadPicks
  lf_BadPlan : LeafC K A.c_WitnessError A.c_BadPlan
  lf_BadPrice : LeafC K A.c_WitnessError A.c_BadPrice
  lf_BadPrices : LeafC K A.c_WitnessError A.c_BadPrices
  lf_BadProblem : LeafC K A.c_WitnessError A.c_BadProblem
  lf_BadRow : LeafC K A.c_WitnessError A.c_BadRow
  lf_BadRows : LeafC K A.c_WitnessError A.c_BadRows
  lf_BadSpot : LeafC K A.c_WitnessError A.c_BadSpot
  lf_BadStep : LeafC K A.c_WitnessError A.c_BadStep
  lf_BadSum : LeafC K A.c_WitnessError A.c_BadSum
  lf_BadTerms : LeafC K A.c_WitnessError A.c_BadTerms
  lf_BadText : LeafC K A.c_WitnessError A.c_BadText
  lf_BadTrail : LeafC K A.c_WitnessError A.c_BadTrail
  lf_BadVariable : LeafC K A.c_WitnessError A.c_BadVariable
  lf_BadWays : LeafC K A.c_WitnessError A.c_BadWays
  lf_BadWitness : LeafC K A.c_WitnessError A.c_BadWitness
  lf_Clashes : LeafC K A.c_WitnessError A.c_Clashes
  lf_Closed : LeafC K A.c_WitnessError A.c_Closed
  lf_IsAssumed : LeafC K A.c_WitnessError A.c_IsAssumed
  lf_IsReason : LeafC K A.c_WitnessError A.c_IsReason
  lf_NoClash : LeafC K A.c_WitnessError A.c_NoClash
  lf_NoLevel : LeafC K A.c_WitnessError A.c_NoLevel
  lf_NotBySums : LeafC K A.c_WitnessError A.c_NotBySums
  lf_NotClosed : LeafC K A.c_WitnessError A.c_NotClosed
  lf_NotEliminated : LeafC K A.c_WitnessError A.c_NotEliminated
  lf_NotEqual : LeafC K A.c_WitnessError A.c_NotEqual
  lf_NotFree : LeafC K A.c_WitnessError A.c_NotFree
  lf_NotLeaning : LeafC K A.c_WitnessError A.c_NotLeaning
  lf_NotShort : LeafC K A.c_WitnessError A.c_NotShort
  lf_NotSound : LeafC K A.c_WitnessError A.c_NotSound
  lf_NotWhole : LeafC K A.c_WitnessError A.c_NotWhole
  lf_TooMany : LeafC K A.c_WitnessError A.c_TooMany
  lnd : ([A.c_WitnessError, A.c_BadBound, A.c_BadChoices, A.c_BadCount, A.c_BadDerivation, A.c_BadExchange, A.c_BadExchanges, A.c_BadFilling, A.c_BadFillings, A.c_BadGoal, A.c_BadGroups, A.c_BadGuide, A.c_BadHands, A.c_BadId, A.c_BadJudge, A.c_BadLeast, A.c_BadLevel, A.c_BadLiteral, A.c_BadLiterals, A.c_BadLoads, A.c_BadLog, A.c_BadLot, A.c_BadMany, A.c_BadMost, A.c_BadNamed, A.c_BadNumber, A.c_BadOrder, A.c_BadOther, A.c_BadPaper, A.c_BadPicks, A.c_BadPlan, A.c_BadPrice, A.c_BadPrices, A.c_BadProblem, A.c_BadRow, A.c_BadRows, A.c_BadSpot, A.c_BadStep, A.c_BadSum, A.c_BadTerms, A.c_BadText, A.c_BadTrail, A.c_BadVariable, A.c_BadWays, A.c_BadWitness, A.c_Clashes, A.c_Closed, A.c_IsAssumed, A.c_IsReason, A.c_NoClash, A.c_NoLevel, A.c_NotBySums, A.c_NotClosed, A.c_NotEliminated, A.c_NotEqual, A.c_NotFree, A.c_NotLeaning, A.c_NotShort, A.c_NotSound, A.c_NotWhole, A.c_TooMany] : List Addr).Nodup
  whd : PySem.W.hasDictIn K A.c_WitnessError = true
  g_ValueError : mg "ValueError" = none
  g_abs : mg "abs" = none
  g_int : mg "int" = none
  g_isinstance : mg "isinstance" = none
  g_len : mg "len" = none
  g_min : mg "min" = none
  g_range : mg "range" = none
  g_repr : mg "repr" = none
section
variable {P : Program} {w : World} {K : PySem.W.Frag} {mg : Str → Option Value} {base : Heap} {A : Adr}
theorem sc_ini_BadDerivation : FnScope ["self", "index"] ["self", "index"] (defScope (inClass (top 5))) := ⟨rfl, rfl, rfl, by decide +kernel, rfl, by decide +kernel, by decide +kernel⟩
theorem ok_ini_BadDerivation (T : Txt K mg A) : FnOk P w K mg base (L2.CX P w) 1 A.ai_BadDerivation A.di_BadDerivation ["self", "index"] (spIni K "index") := okIni (k := 0) T.fi_BadDerivation sc_ini_BadDerivation rfl (fun _ _ _ _ _ _ => Or.inl rfl) (fun _ _ _ _ _ _ => Or.inl rfl) (by decide) (by decide)
theorem b_ini_BadDerivation (T : Txt K mg A) : Binds K A.di_BadDerivation ["self", "index"] [] := T.fi_BadDerivation.binds (ps := ["self", "index"]) fun _ _ _ _ _ _ us hl => match us, hl with | [_, _], _ => rfl
theorem sc_ini_BadLog : FnScope ["self", "index"] ["self", "index"] (defScope (inClass (top 21))) := ⟨rfl, rfl, rfl, by decide +kernel, rfl, by decide +kernel, by decide +kernel⟩
theorem ok_ini_BadLog (T : Txt K mg A) : FnOk P w K mg base (L2.CX P w) 1 A.ai_BadLog A.di_BadLog ["self", "index"] (spIni K "index") := okIni (k := 0) T.fi_BadLog sc_ini_BadLog rfl (fun _ _ _ _ _ _ => Or.inl rfl) (fun _ _ _ _ _ _ => Or.inl rfl) (by decide) (by decide)
theorem b_ini_BadLog (T : Txt K mg A) : Binds K A.di_BadLog ["self", "index"] [] := T.fi_BadLog.binds (ps := ["self", "index"]) fun _ _ _ _ _ _ us hl => match us, hl with | [_, _], _ => rfl
theorem sc_ini_BadPaper : FnScope ["self", "index"] ["self", "index"] (defScope (inClass (top 29))) := ⟨rfl, rfl, rfl, by decide +kernel, rfl, by decide +kernel, by decide +kernel⟩
theorem ok_ini_BadPaper (T : Txt K mg A) : FnOk P w K mg base (L2.CX P w) 1 A.ai_BadPaper A.di_BadPaper ["self", "index"] (spIni K "index") := okIni (k := 0) T.fi_BadPaper sc_ini_BadPaper rfl (fun _ _ _ _ _ _ => Or.inl rfl) (fun _ _ _ _ _ _ => Or.inl rfl) (by decide) (by decide)
theorem b_ini_BadPaper (T : Txt K mg A) : Binds K A.di_BadPaper ["self", "index"] [] := T.fi_BadPaper.binds (ps := ["self", "index"]) fun _ _ _ _ _ _ us hl => match us, hl with | [_, _], _ => rfl
theorem sc_ini_BadText : FnScope ["self", "line"] ["self", "line"] (defScope (inClass (top 41))) := ⟨rfl, rfl, rfl, by decide +kernel, rfl, by decide +kernel, by decide +kernel⟩
theorem ok_ini_BadText (T : Txt K mg A) : FnOk P w K mg base (L2.CX P w) 1 A.ai_BadText A.di_BadText ["self", "line"] (spIni K "line") := okIni (k := 0) T.fi_BadText sc_ini_BadText rfl (fun _ _ _ _ _ _ => Or.inl rfl) (fun _ _ _ _ _ _ => Or.inl rfl) (by decide) (by decide)
theorem b_ini_BadText (T : Txt K mg A) : Binds K A.di_BadText ["self", "line"] [] := T.fi_BadText.binds (ps := ["self", "line"]) fun _ _ _ _ _ _ us hl => match us, hl with | [_, _], _ => rfl
theorem sc_ini_Clashes : FnScope ["self", "number"] ["self", "number"] (defScope (inClass (top 46))) := ⟨rfl, rfl, rfl, by decide +kernel, rfl, by decide +kernel, by decide +kernel⟩
theorem ok_ini_Clashes (T : Txt K mg A) : FnOk P w K mg base (L2.CX P w) 1 A.ai_Clashes A.di_Clashes ["self", "number"] (spIni K "number") := okIni (k := 0) T.fi_Clashes sc_ini_Clashes rfl (fun _ _ _ _ _ _ => Or.inl rfl) (fun _ _ _ _ _ _ => Or.inl rfl) (by decide) (by decide)
theorem b_ini_Clashes (T : Txt K mg A) : Binds K A.di_Clashes ["self", "number"] [] := T.fi_Clashes.binds (ps := ["self", "number"]) fun _ _ _ _ _ _ us hl => match us, hl with | [_, _], _ => rfl
theorem sc_ini_IsAssumed : FnScope ["self", "literal"] ["self", "literal"] (defScope (inClass (top 48))) := ⟨rfl, rfl, rfl, by decide +kernel, rfl, by decide +kernel, by decide +kernel⟩
theorem ok_ini_IsAssumed (T : Txt K mg A) : FnOk P w K mg base (L2.CX P w) 1 A.ai_IsAssumed A.di_IsAssumed ["self", "literal"] (spIni K "literal") := okIni (k := 0) T.fi_IsAssumed sc_ini_IsAssumed rfl (fun _ _ _ _ _ _ => Or.inl rfl) (fun _ _ _ _ _ _ => Or.inl rfl) (by decide) (by decide)
theorem b_ini_IsAssumed (T : Txt K mg A) : Binds K A.di_IsAssumed ["self", "literal"] [] := T.fi_IsAssumed.binds (ps := ["self", "literal"]) fun _ _ _ _ _ _ us hl => match us, hl with | [_, _], _ => rfl
theorem sc_ini_IsReason : FnScope ["self", "number"] ["self", "number"] (defScope (inClass (top 49))) := ⟨rfl, rfl, rfl, by decide +kernel, rfl, by decide +kernel, by decide +kernel⟩
theorem ok_ini_IsReason (T : Txt K mg A) : FnOk P w K mg base (L2.CX P w) 1 A.ai_IsReason A.di_IsReason ["self", "number"] (spIni K "number") := okIni (k := 0) T.fi_IsReason sc_ini_IsReason rfl (fun _ _ _ _ _ _ => Or.inl rfl) (fun _ _ _ _ _ _ => Or.inl rfl) (by decide) (by decide)
theorem b_ini_IsReason (T : Txt K mg A) : Binds K A.di_IsReason ["self", "number"] [] := T.fi_IsReason.binds (ps := ["self", "number"]) fun _ _ _ _ _ _ us hl => match us, hl with | [_, _], _ => rfl
theorem sc_ini_NotFree : FnScope ["self", "literal"] ["self", "literal"] (defScope (inClass (top 56))) := ⟨rfl, rfl, rfl, by decide +kernel, rfl, by decide +kernel, by decide +kernel⟩
theorem ok_ini_NotFree (T : Txt K mg A) : FnOk P w K mg base (L2.CX P w) 1 A.ai_NotFree A.di_NotFree ["self", "literal"] (spIni K "literal") := okIni (k := 0) T.fi_NotFree sc_ini_NotFree rfl (fun _ _ _ _ _ _ => Or.inl rfl) (fun _ _ _ _ _ _ => Or.inl rfl) (by decide) (by decide)
theorem b_ini_NotFree (T : Txt K mg A) : Binds K A.di_NotFree ["self", "literal"] [] := T.fi_NotFree.binds (ps := ["self", "literal"]) fun _ _ _ _ _ _ us hl => match us, hl with | [_, _], _ => rfl
theorem sc_ini_TooMany : FnScope ["self", "most"] ["self", "most"] (defScope (inClass (top 61))) := ⟨rfl, rfl, rfl, by decide +kernel, rfl, by decide +kernel, by decide +kernel⟩
theorem ok_ini_TooMany (T : Txt K mg A) : FnOk P w K mg base (L2.CX P w) 1 A.ai_TooMany A.di_TooMany ["self", "most"] (spIni K "most") := okIni (k := 0) T.fi_TooMany sc_ini_TooMany rfl (fun _ _ _ _ _ _ => Or.inl rfl) (fun _ _ _ _ _ _ => Or.inl rfl) (by decide) (by decide)
theorem b_ini_TooMany (T : Txt K mg A) : Binds K A.di_TooMany ["self", "most"] [] := T.fi_TooMany.binds (ps := ["self", "most"]) fun _ _ _ _ _ _ us hl => match us, hl with | [_, _], _ => rfl
def lps (A : Adr) : List (Str × Addr) := ([("BadBound", A.c_BadBound), ("BadChoices", A.c_BadChoices), ("BadCount", A.c_BadCount), ("BadDerivation", A.c_BadDerivation), ("BadExchange", A.c_BadExchange), ("BadExchanges", A.c_BadExchanges), ("BadFilling", A.c_BadFilling), ("BadFillings", A.c_BadFillings), ("BadGoal", A.c_BadGoal), ("BadGroups", A.c_BadGroups), ("BadGuide", A.c_BadGuide), ("BadHands", A.c_BadHands)] : List (Str × Addr)) ++ ([("BadId", A.c_BadId), ("BadJudge", A.c_BadJudge), ("BadLeast", A.c_BadLeast), ("BadLevel", A.c_BadLevel), ("BadLiteral", A.c_BadLiteral), ("BadLiterals", A.c_BadLiterals), ("BadLoads", A.c_BadLoads), ("BadLog", A.c_BadLog), ("BadLot", A.c_BadLot), ("BadMany", A.c_BadMany), ("BadMost", A.c_BadMost), ("BadNamed", A.c_BadNamed)] : List (Str × Addr)) ++ ([("BadNumber", A.c_BadNumber), ("BadOrder", A.c_BadOrder), ("BadOther", A.c_BadOther), ("BadPaper", A.c_BadPaper), ("BadPicks", A.c_BadPicks), ("BadPlan", A.c_BadPlan), ("BadPrice", A.c_BadPrice), ("BadPrices", A.c_BadPrices), ("BadProblem", A.c_BadProblem), ("BadRow", A.c_BadRow), ("BadRows", A.c_BadRows), ("BadSpot", A.c_BadSpot)] : List (Str × Addr)) ++ ([("BadStep", A.c_BadStep), ("BadSum", A.c_BadSum), ("BadTerms", A.c_BadTerms), ("BadText", A.c_BadText), ("BadTrail", A.c_BadTrail), ("BadVariable", A.c_BadVariable), ("BadWays", A.c_BadWays), ("BadWitness", A.c_BadWitness), ("Clashes", A.c_Clashes), ("Closed", A.c_Closed), ("IsAssumed", A.c_IsAssumed), ("IsReason", A.c_IsReason)] : List (Str × Addr)) ++ ([("NoClash", A.c_NoClash), ("NoLevel", A.c_NoLevel), ("NotBySums", A.c_NotBySums), ("NotClosed", A.c_NotClosed), ("NotEliminated", A.c_NotEliminated), ("NotEqual", A.c_NotEqual), ("NotFree", A.c_NotFree), ("NotLeaning", A.c_NotLeaning), ("NotShort", A.c_NotShort), ("NotSound", A.c_NotSound), ("NotWhole", A.c_NotWhole), ("TooMany", A.c_TooMany)] : List (Str × Addr))
theorem leafs (T : Txt K mg A) : Leafs K mg A.c_WitnessError (lps A) := ⟨(lf_cons T.k_BadBound.g T.lf_BadBound (lf_cons T.k_BadChoices.g T.lf_BadChoices (lf_cons T.k_BadCount.g T.lf_BadCount (lf_cons T.k_BadDerivation.g T.lf_BadDerivation (lf_cons T.k_BadExchange.g T.lf_BadExchange (lf_cons T.k_BadExchanges.g T.lf_BadExchanges (lf_cons T.k_BadFilling.g T.lf_BadFilling (lf_cons T.k_BadFillings.g T.lf_BadFillings (lf_cons T.k_BadGoal.g T.lf_BadGoal (lf_cons T.k_BadGroups.g T.lf_BadGroups (lf_cons T.k_BadGuide.g T.lf_BadGuide (lf_cons T.k_BadHands.g T.lf_BadHands (lf_cons T.k_BadId.g T.lf_BadId (lf_cons T.k_BadJudge.g T.lf_BadJudge (lf_cons T.k_BadLeast.g T.lf_BadLeast (lf_cons T.k_BadLevel.g T.lf_BadLevel (lf_cons T.k_BadLiteral.g T.lf_BadLiteral (lf_cons T.k_BadLiterals.g T.lf_BadLiterals (lf_cons T.k_BadLoads.g T.lf_BadLoads (lf_cons T.k_BadLog.g T.lf_BadLog (lf_cons T.k_BadLot.g T.lf_BadLot (lf_cons T.k_BadMany.g T.lf_BadMany (lf_cons T.k_BadMost.g T.lf_BadMost (lf_cons T.k_BadNamed.g T.lf_BadNamed (lf_cons T.k_BadNumber.g T.lf_BadNumber (lf_cons T.k_BadOrder.g T.lf_BadOrder (lf_cons T.k_BadOther.g T.lf_BadOther (lf_cons T.k_BadPaper.g T.lf_BadPaper (lf_cons T.k_BadPicks.g T.lf_BadPicks (lf_cons T.k_BadPlan.g T.lf_BadPlan (lf_cons T.k_BadPrice.g T.lf_BadPrice (lf_cons T.k_BadPrices.g T.lf_BadPrices (lf_cons T.k_BadProblem.g T.lf_BadProblem (lf_cons T.k_BadRow.g T.lf_BadRow (lf_cons T.k_BadRows.g T.lf_BadRows (lf_cons T.k_BadSpot.g T.lf_BadSpot (lf_cons T.k_BadStep.g T.lf_BadStep (lf_cons T.k_BadSum.g T.lf_BadSum (lf_cons T.k_BadTerms.g T.lf_BadTerms (lf_cons T.k_BadText.g T.lf_BadText (lf_cons T.k_BadTrail.g T.lf_BadTrail (lf_cons T.k_BadVariable.g T.lf_BadVariable (lf_cons T.k_BadWays.g T.lf_BadWays (lf_cons T.k_BadWitness.g T.lf_BadWitness (lf_cons T.k_Clashes.g T.lf_Clashes (lf_cons T.k_Closed.g T.lf_Closed (lf_cons T.k_IsAssumed.g T.lf_IsAssumed (lf_cons T.k_IsReason.g T.lf_IsReason (lf_cons T.k_NoClash.g T.lf_NoClash (lf_cons T.k_NoLevel.g T.lf_NoLevel (lf_cons T.k_NotBySums.g T.lf_NotBySums (lf_cons T.k_NotClosed.g T.lf_NotClosed (lf_cons T.k_NotEliminated.g T.lf_NotEliminated (lf_cons T.k_NotEqual.g T.lf_NotEqual (lf_cons T.k_NotFree.g T.lf_NotFree (lf_cons T.k_NotLeaning.g T.lf_NotLeaning (lf_cons T.k_NotShort.g T.lf_NotShort (lf_cons T.k_NotSound.g T.lf_NotSound (lf_cons T.k_NotWhole.g T.lf_NotWhole (lf_cons T.k_TooMany.g T.lf_TooMany lf_nil)))))))))))))))))))))))))))))))))))))))))))))))))))))))))))), T.lnd⟩
theorem isv_all (T : Txt K mg A) : IscV K mg "ValueError" (allT errs) := isv_top (leafs T)
theorem isc_WitnessError (T : Txt K mg A) : IscT K mg A.c_WitnessError (allT errs) := isc_top (leafs T) T.whd T.k_WitnessError.t
theorem nn_WitnessError (T : Txt K mg A) : PySem.W.kitOne K (.type "NoneType") (.ref A.c_WitnessError) = some false := kit_sub (fun z => by cases z) T.whd T.k_WitnessError.t (nn_sub _)
theorem isc_BadBound (T : Txt K mg A) : IscT K mg A.c_BadBound (leafT errs "BadBound") := isc_leaf (leafs T) (List.mem_of_getElem? (i := 0) rfl)
theorem nn_BadBound (T : Txt K mg A) : PySem.W.kitOne K (.type "NoneType") (.ref A.c_BadBound) = some false := nn_leaf T.lf_BadBound
theorem isc_BadChoices (T : Txt K mg A) : IscT K mg A.c_BadChoices (leafT errs "BadChoices") := isc_leaf (leafs T) (List.mem_of_getElem? (i := 1) rfl)
theorem nn_BadChoices (T : Txt K mg A) : PySem.W.kitOne K (.type "NoneType") (.ref A.c_BadChoices) = some false := nn_leaf T.lf_BadChoices
theorem isc_BadCount (T : Txt K mg A) : IscT K mg A.c_BadCount (leafT errs "BadCount") := isc_leaf (leafs T) (List.mem_of_getElem? (i := 2) rfl)
theorem nn_BadCount (T : Txt K mg A) : PySem.W.kitOne K (.type "NoneType") (.ref A.c_BadCount) = some false := nn_leaf T.lf_BadCount
theorem isc_BadDerivation (T : Txt K mg A) : IscT K mg A.c_BadDerivation (leafT errs "BadDerivation") := isc_leaf (leafs T) (List.mem_of_getElem? (i := 3) rfl)
theorem nn_BadDerivation (T : Txt K mg A) : PySem.W.kitOne K (.type "NoneType") (.ref A.c_BadDerivation) = some false := nn_leaf T.lf_BadDerivation
theorem isc_BadExchange (T : Txt K mg A) : IscT K mg A.c_BadExchange (leafT errs "BadExchange") := isc_leaf (leafs T) (List.mem_of_getElem? (i := 4) rfl)
theorem nn_BadExchange (T : Txt K mg A) : PySem.W.kitOne K (.type "NoneType") (.ref A.c_BadExchange) = some false := nn_leaf T.lf_BadExchange
theorem isc_BadExchanges (T : Txt K mg A) : IscT K mg A.c_BadExchanges (leafT errs "BadExchanges") := isc_leaf (leafs T) (List.mem_of_getElem? (i := 5) rfl)
theorem nn_BadExchanges (T : Txt K mg A) : PySem.W.kitOne K (.type "NoneType") (.ref A.c_BadExchanges) = some false := nn_leaf T.lf_BadExchanges
theorem isc_BadFilling (T : Txt K mg A) : IscT K mg A.c_BadFilling (leafT errs "BadFilling") := isc_leaf (leafs T) (List.mem_of_getElem? (i := 6) rfl)
theorem nn_BadFilling (T : Txt K mg A) : PySem.W.kitOne K (.type "NoneType") (.ref A.c_BadFilling) = some false := nn_leaf T.lf_BadFilling
theorem isc_BadFillings (T : Txt K mg A) : IscT K mg A.c_BadFillings (leafT errs "BadFillings") := isc_leaf (leafs T) (List.mem_of_getElem? (i := 7) rfl)
theorem nn_BadFillings (T : Txt K mg A) : PySem.W.kitOne K (.type "NoneType") (.ref A.c_BadFillings) = some false := nn_leaf T.lf_BadFillings
theorem isc_BadGoal (T : Txt K mg A) : IscT K mg A.c_BadGoal (leafT errs "BadGoal") := isc_leaf (leafs T) (List.mem_of_getElem? (i := 8) rfl)
theorem nn_BadGoal (T : Txt K mg A) : PySem.W.kitOne K (.type "NoneType") (.ref A.c_BadGoal) = some false := nn_leaf T.lf_BadGoal
theorem isc_BadGroups (T : Txt K mg A) : IscT K mg A.c_BadGroups (leafT errs "BadGroups") := isc_leaf (leafs T) (List.mem_of_getElem? (i := 9) rfl)
theorem nn_BadGroups (T : Txt K mg A) : PySem.W.kitOne K (.type "NoneType") (.ref A.c_BadGroups) = some false := nn_leaf T.lf_BadGroups
theorem isc_BadGuide (T : Txt K mg A) : IscT K mg A.c_BadGuide (leafT errs "BadGuide") := isc_leaf (leafs T) (List.mem_of_getElem? (i := 10) rfl)
theorem nn_BadGuide (T : Txt K mg A) : PySem.W.kitOne K (.type "NoneType") (.ref A.c_BadGuide) = some false := nn_leaf T.lf_BadGuide
theorem isc_BadHands (T : Txt K mg A) : IscT K mg A.c_BadHands (leafT errs "BadHands") := isc_leaf (leafs T) (List.mem_of_getElem? (i := 11) rfl)
theorem nn_BadHands (T : Txt K mg A) : PySem.W.kitOne K (.type "NoneType") (.ref A.c_BadHands) = some false := nn_leaf T.lf_BadHands
theorem isc_BadId (T : Txt K mg A) : IscT K mg A.c_BadId (leafT errs "BadId") := isc_leaf (leafs T) (List.mem_of_getElem? (i := 12) rfl)
theorem nn_BadId (T : Txt K mg A) : PySem.W.kitOne K (.type "NoneType") (.ref A.c_BadId) = some false := nn_leaf T.lf_BadId
theorem isc_BadJudge (T : Txt K mg A) : IscT K mg A.c_BadJudge (leafT errs "BadJudge") := isc_leaf (leafs T) (List.mem_of_getElem? (i := 13) rfl)
theorem nn_BadJudge (T : Txt K mg A) : PySem.W.kitOne K (.type "NoneType") (.ref A.c_BadJudge) = some false := nn_leaf T.lf_BadJudge
theorem isc_BadLeast (T : Txt K mg A) : IscT K mg A.c_BadLeast (leafT errs "BadLeast") := isc_leaf (leafs T) (List.mem_of_getElem? (i := 14) rfl)
theorem nn_BadLeast (T : Txt K mg A) : PySem.W.kitOne K (.type "NoneType") (.ref A.c_BadLeast) = some false := nn_leaf T.lf_BadLeast
theorem isc_BadLevel (T : Txt K mg A) : IscT K mg A.c_BadLevel (leafT errs "BadLevel") := isc_leaf (leafs T) (List.mem_of_getElem? (i := 15) rfl)
theorem nn_BadLevel (T : Txt K mg A) : PySem.W.kitOne K (.type "NoneType") (.ref A.c_BadLevel) = some false := nn_leaf T.lf_BadLevel
theorem isc_BadLiteral (T : Txt K mg A) : IscT K mg A.c_BadLiteral (leafT errs "BadLiteral") := isc_leaf (leafs T) (List.mem_of_getElem? (i := 16) rfl)
theorem nn_BadLiteral (T : Txt K mg A) : PySem.W.kitOne K (.type "NoneType") (.ref A.c_BadLiteral) = some false := nn_leaf T.lf_BadLiteral
theorem isc_BadLiterals (T : Txt K mg A) : IscT K mg A.c_BadLiterals (leafT errs "BadLiterals") := isc_leaf (leafs T) (List.mem_of_getElem? (i := 17) rfl)
theorem nn_BadLiterals (T : Txt K mg A) : PySem.W.kitOne K (.type "NoneType") (.ref A.c_BadLiterals) = some false := nn_leaf T.lf_BadLiterals
theorem isc_BadLoads (T : Txt K mg A) : IscT K mg A.c_BadLoads (leafT errs "BadLoads") := isc_leaf (leafs T) (List.mem_of_getElem? (i := 18) rfl)
theorem nn_BadLoads (T : Txt K mg A) : PySem.W.kitOne K (.type "NoneType") (.ref A.c_BadLoads) = some false := nn_leaf T.lf_BadLoads
theorem isc_BadLog (T : Txt K mg A) : IscT K mg A.c_BadLog (leafT errs "BadLog") := isc_leaf (leafs T) (List.mem_of_getElem? (i := 19) rfl)
theorem nn_BadLog (T : Txt K mg A) : PySem.W.kitOne K (.type "NoneType") (.ref A.c_BadLog) = some false := nn_leaf T.lf_BadLog
theorem isc_BadLot (T : Txt K mg A) : IscT K mg A.c_BadLot (leafT errs "BadLot") := isc_leaf (leafs T) (List.mem_of_getElem? (i := 20) rfl)
theorem nn_BadLot (T : Txt K mg A) : PySem.W.kitOne K (.type "NoneType") (.ref A.c_BadLot) = some false := nn_leaf T.lf_BadLot
theorem isc_BadMany (T : Txt K mg A) : IscT K mg A.c_BadMany (leafT errs "BadMany") := isc_leaf (leafs T) (List.mem_of_getElem? (i := 21) rfl)
theorem nn_BadMany (T : Txt K mg A) : PySem.W.kitOne K (.type "NoneType") (.ref A.c_BadMany) = some false := nn_leaf T.lf_BadMany
theorem isc_BadMost (T : Txt K mg A) : IscT K mg A.c_BadMost (leafT errs "BadMost") := isc_leaf (leafs T) (List.mem_of_getElem? (i := 22) rfl)
theorem nn_BadMost (T : Txt K mg A) : PySem.W.kitOne K (.type "NoneType") (.ref A.c_BadMost) = some false := nn_leaf T.lf_BadMost
theorem isc_BadNamed (T : Txt K mg A) : IscT K mg A.c_BadNamed (leafT errs "BadNamed") := isc_leaf (leafs T) (List.mem_of_getElem? (i := 23) rfl)
theorem nn_BadNamed (T : Txt K mg A) : PySem.W.kitOne K (.type "NoneType") (.ref A.c_BadNamed) = some false := nn_leaf T.lf_BadNamed
theorem isc_BadNumber (T : Txt K mg A) : IscT K mg A.c_BadNumber (leafT errs "BadNumber") := isc_leaf (leafs T) (List.mem_of_getElem? (i := 24) rfl)
theorem nn_BadNumber (T : Txt K mg A) : PySem.W.kitOne K (.type "NoneType") (.ref A.c_BadNumber) = some false := nn_leaf T.lf_BadNumber
theorem isc_BadOrder (T : Txt K mg A) : IscT K mg A.c_BadOrder (leafT errs "BadOrder") := isc_leaf (leafs T) (List.mem_of_getElem? (i := 25) rfl)
theorem nn_BadOrder (T : Txt K mg A) : PySem.W.kitOne K (.type "NoneType") (.ref A.c_BadOrder) = some false := nn_leaf T.lf_BadOrder
theorem isc_BadOther (T : Txt K mg A) : IscT K mg A.c_BadOther (leafT errs "BadOther") := isc_leaf (leafs T) (List.mem_of_getElem? (i := 26) rfl)
theorem nn_BadOther (T : Txt K mg A) : PySem.W.kitOne K (.type "NoneType") (.ref A.c_BadOther) = some false := nn_leaf T.lf_BadOther
theorem isc_BadPaper (T : Txt K mg A) : IscT K mg A.c_BadPaper (leafT errs "BadPaper") := isc_leaf (leafs T) (List.mem_of_getElem? (i := 27) rfl)
theorem nn_BadPaper (T : Txt K mg A) : PySem.W.kitOne K (.type "NoneType") (.ref A.c_BadPaper) = some false := nn_leaf T.lf_BadPaper
theorem isc_BadPicks (T : Txt K mg A) : IscT K mg A.c_BadPicks (leafT errs "BadPicks") := isc_leaf (leafs T) (List.mem_of_getElem? (i := 28) rfl)
theorem nn_BadPicks (T : Txt K mg A) : PySem.W.kitOne K (.type "NoneType") (.ref A.c_BadPicks) = some false := nn_leaf T.lf_BadPicks
theorem isc_BadPlan (T : Txt K mg A) : IscT K mg A.c_BadPlan (leafT errs "BadPlan") := isc_leaf (leafs T) (List.mem_of_getElem? (i := 29) rfl)
theorem nn_BadPlan (T : Txt K mg A) : PySem.W.kitOne K (.type "NoneType") (.ref A.c_BadPlan) = some false := nn_leaf T.lf_BadPlan
theorem isc_BadPrice (T : Txt K mg A) : IscT K mg A.c_BadPrice (leafT errs "BadPrice") := isc_leaf (leafs T) (List.mem_of_getElem? (i := 30) rfl)
theorem nn_BadPrice (T : Txt K mg A) : PySem.W.kitOne K (.type "NoneType") (.ref A.c_BadPrice) = some false := nn_leaf T.lf_BadPrice
theorem isc_BadPrices (T : Txt K mg A) : IscT K mg A.c_BadPrices (leafT errs "BadPrices") := isc_leaf (leafs T) (List.mem_of_getElem? (i := 31) rfl)
theorem nn_BadPrices (T : Txt K mg A) : PySem.W.kitOne K (.type "NoneType") (.ref A.c_BadPrices) = some false := nn_leaf T.lf_BadPrices
theorem isc_BadProblem (T : Txt K mg A) : IscT K mg A.c_BadProblem (leafT errs "BadProblem") := isc_leaf (leafs T) (List.mem_of_getElem? (i := 32) rfl)
theorem nn_BadProblem (T : Txt K mg A) : PySem.W.kitOne K (.type "NoneType") (.ref A.c_BadProblem) = some false := nn_leaf T.lf_BadProblem
theorem isc_BadRow (T : Txt K mg A) : IscT K mg A.c_BadRow (leafT errs "BadRow") := isc_leaf (leafs T) (List.mem_of_getElem? (i := 33) rfl)
theorem nn_BadRow (T : Txt K mg A) : PySem.W.kitOne K (.type "NoneType") (.ref A.c_BadRow) = some false := nn_leaf T.lf_BadRow
theorem isc_BadRows (T : Txt K mg A) : IscT K mg A.c_BadRows (leafT errs "BadRows") := isc_leaf (leafs T) (List.mem_of_getElem? (i := 34) rfl)
theorem nn_BadRows (T : Txt K mg A) : PySem.W.kitOne K (.type "NoneType") (.ref A.c_BadRows) = some false := nn_leaf T.lf_BadRows
theorem isc_BadSpot (T : Txt K mg A) : IscT K mg A.c_BadSpot (leafT errs "BadSpot") := isc_leaf (leafs T) (List.mem_of_getElem? (i := 35) rfl)
theorem nn_BadSpot (T : Txt K mg A) : PySem.W.kitOne K (.type "NoneType") (.ref A.c_BadSpot) = some false := nn_leaf T.lf_BadSpot
theorem isc_BadStep (T : Txt K mg A) : IscT K mg A.c_BadStep (leafT errs "BadStep") := isc_leaf (leafs T) (List.mem_of_getElem? (i := 36) rfl)
theorem nn_BadStep (T : Txt K mg A) : PySem.W.kitOne K (.type "NoneType") (.ref A.c_BadStep) = some false := nn_leaf T.lf_BadStep
theorem isc_BadSum (T : Txt K mg A) : IscT K mg A.c_BadSum (leafT errs "BadSum") := isc_leaf (leafs T) (List.mem_of_getElem? (i := 37) rfl)
theorem nn_BadSum (T : Txt K mg A) : PySem.W.kitOne K (.type "NoneType") (.ref A.c_BadSum) = some false := nn_leaf T.lf_BadSum
theorem isc_BadTerms (T : Txt K mg A) : IscT K mg A.c_BadTerms (leafT errs "BadTerms") := isc_leaf (leafs T) (List.mem_of_getElem? (i := 38) rfl)
theorem nn_BadTerms (T : Txt K mg A) : PySem.W.kitOne K (.type "NoneType") (.ref A.c_BadTerms) = some false := nn_leaf T.lf_BadTerms
theorem isc_BadText (T : Txt K mg A) : IscT K mg A.c_BadText (leafT errs "BadText") := isc_leaf (leafs T) (List.mem_of_getElem? (i := 39) rfl)
theorem nn_BadText (T : Txt K mg A) : PySem.W.kitOne K (.type "NoneType") (.ref A.c_BadText) = some false := nn_leaf T.lf_BadText
theorem isc_BadTrail (T : Txt K mg A) : IscT K mg A.c_BadTrail (leafT errs "BadTrail") := isc_leaf (leafs T) (List.mem_of_getElem? (i := 40) rfl)
theorem nn_BadTrail (T : Txt K mg A) : PySem.W.kitOne K (.type "NoneType") (.ref A.c_BadTrail) = some false := nn_leaf T.lf_BadTrail
theorem isc_BadVariable (T : Txt K mg A) : IscT K mg A.c_BadVariable (leafT errs "BadVariable") := isc_leaf (leafs T) (List.mem_of_getElem? (i := 41) rfl)
theorem nn_BadVariable (T : Txt K mg A) : PySem.W.kitOne K (.type "NoneType") (.ref A.c_BadVariable) = some false := nn_leaf T.lf_BadVariable
theorem isc_BadWays (T : Txt K mg A) : IscT K mg A.c_BadWays (leafT errs "BadWays") := isc_leaf (leafs T) (List.mem_of_getElem? (i := 42) rfl)
theorem nn_BadWays (T : Txt K mg A) : PySem.W.kitOne K (.type "NoneType") (.ref A.c_BadWays) = some false := nn_leaf T.lf_BadWays
theorem isc_BadWitness (T : Txt K mg A) : IscT K mg A.c_BadWitness (leafT errs "BadWitness") := isc_leaf (leafs T) (List.mem_of_getElem? (i := 43) rfl)
theorem nn_BadWitness (T : Txt K mg A) : PySem.W.kitOne K (.type "NoneType") (.ref A.c_BadWitness) = some false := nn_leaf T.lf_BadWitness
theorem isc_Clashes (T : Txt K mg A) : IscT K mg A.c_Clashes (leafT errs "Clashes") := isc_leaf (leafs T) (List.mem_of_getElem? (i := 44) rfl)
theorem nn_Clashes (T : Txt K mg A) : PySem.W.kitOne K (.type "NoneType") (.ref A.c_Clashes) = some false := nn_leaf T.lf_Clashes
theorem isc_Closed (T : Txt K mg A) : IscT K mg A.c_Closed (leafT errs "Closed") := isc_leaf (leafs T) (List.mem_of_getElem? (i := 45) rfl)
theorem nn_Closed (T : Txt K mg A) : PySem.W.kitOne K (.type "NoneType") (.ref A.c_Closed) = some false := nn_leaf T.lf_Closed
theorem isc_IsAssumed (T : Txt K mg A) : IscT K mg A.c_IsAssumed (leafT errs "IsAssumed") := isc_leaf (leafs T) (List.mem_of_getElem? (i := 46) rfl)
theorem nn_IsAssumed (T : Txt K mg A) : PySem.W.kitOne K (.type "NoneType") (.ref A.c_IsAssumed) = some false := nn_leaf T.lf_IsAssumed
theorem isc_IsReason (T : Txt K mg A) : IscT K mg A.c_IsReason (leafT errs "IsReason") := isc_leaf (leafs T) (List.mem_of_getElem? (i := 47) rfl)
theorem nn_IsReason (T : Txt K mg A) : PySem.W.kitOne K (.type "NoneType") (.ref A.c_IsReason) = some false := nn_leaf T.lf_IsReason
theorem isc_NoClash (T : Txt K mg A) : IscT K mg A.c_NoClash (leafT errs "NoClash") := isc_leaf (leafs T) (List.mem_of_getElem? (i := 48) rfl)
theorem nn_NoClash (T : Txt K mg A) : PySem.W.kitOne K (.type "NoneType") (.ref A.c_NoClash) = some false := nn_leaf T.lf_NoClash
theorem isc_NoLevel (T : Txt K mg A) : IscT K mg A.c_NoLevel (leafT errs "NoLevel") := isc_leaf (leafs T) (List.mem_of_getElem? (i := 49) rfl)
theorem nn_NoLevel (T : Txt K mg A) : PySem.W.kitOne K (.type "NoneType") (.ref A.c_NoLevel) = some false := nn_leaf T.lf_NoLevel
theorem isc_NotBySums (T : Txt K mg A) : IscT K mg A.c_NotBySums (leafT errs "NotBySums") := isc_leaf (leafs T) (List.mem_of_getElem? (i := 50) rfl)
theorem nn_NotBySums (T : Txt K mg A) : PySem.W.kitOne K (.type "NoneType") (.ref A.c_NotBySums) = some false := nn_leaf T.lf_NotBySums
theorem isc_NotClosed (T : Txt K mg A) : IscT K mg A.c_NotClosed (leafT errs "NotClosed") := isc_leaf (leafs T) (List.mem_of_getElem? (i := 51) rfl)
theorem nn_NotClosed (T : Txt K mg A) : PySem.W.kitOne K (.type "NoneType") (.ref A.c_NotClosed) = some false := nn_leaf T.lf_NotClosed
theorem isc_NotEliminated (T : Txt K mg A) : IscT K mg A.c_NotEliminated (leafT errs "NotEliminated") := isc_leaf (leafs T) (List.mem_of_getElem? (i := 52) rfl)
theorem nn_NotEliminated (T : Txt K mg A) : PySem.W.kitOne K (.type "NoneType") (.ref A.c_NotEliminated) = some false := nn_leaf T.lf_NotEliminated
theorem isc_NotEqual (T : Txt K mg A) : IscT K mg A.c_NotEqual (leafT errs "NotEqual") := isc_leaf (leafs T) (List.mem_of_getElem? (i := 53) rfl)
theorem nn_NotEqual (T : Txt K mg A) : PySem.W.kitOne K (.type "NoneType") (.ref A.c_NotEqual) = some false := nn_leaf T.lf_NotEqual
theorem isc_NotFree (T : Txt K mg A) : IscT K mg A.c_NotFree (leafT errs "NotFree") := isc_leaf (leafs T) (List.mem_of_getElem? (i := 54) rfl)
theorem nn_NotFree (T : Txt K mg A) : PySem.W.kitOne K (.type "NoneType") (.ref A.c_NotFree) = some false := nn_leaf T.lf_NotFree
theorem isc_NotLeaning (T : Txt K mg A) : IscT K mg A.c_NotLeaning (leafT errs "NotLeaning") := isc_leaf (leafs T) (List.mem_of_getElem? (i := 55) rfl)
theorem nn_NotLeaning (T : Txt K mg A) : PySem.W.kitOne K (.type "NoneType") (.ref A.c_NotLeaning) = some false := nn_leaf T.lf_NotLeaning
theorem isc_NotShort (T : Txt K mg A) : IscT K mg A.c_NotShort (leafT errs "NotShort") := isc_leaf (leafs T) (List.mem_of_getElem? (i := 56) rfl)
theorem nn_NotShort (T : Txt K mg A) : PySem.W.kitOne K (.type "NoneType") (.ref A.c_NotShort) = some false := nn_leaf T.lf_NotShort
theorem isc_NotSound (T : Txt K mg A) : IscT K mg A.c_NotSound (leafT errs "NotSound") := isc_leaf (leafs T) (List.mem_of_getElem? (i := 57) rfl)
theorem nn_NotSound (T : Txt K mg A) : PySem.W.kitOne K (.type "NoneType") (.ref A.c_NotSound) = some false := nn_leaf T.lf_NotSound
theorem isc_NotWhole (T : Txt K mg A) : IscT K mg A.c_NotWhole (leafT errs "NotWhole") := isc_leaf (leafs T) (List.mem_of_getElem? (i := 58) rfl)
theorem nn_NotWhole (T : Txt K mg A) : PySem.W.kitOne K (.type "NoneType") (.ref A.c_NotWhole) = some false := nn_leaf T.lf_NotWhole
theorem isc_TooMany (T : Txt K mg A) : IscT K mg A.c_TooMany (leafT errs "TooMany") := isc_leaf (leafs T) (List.mem_of_getElem? (i := 59) rfl)
theorem nn_TooMany (T : Txt K mg A) : PySem.W.kitOne K (.type "NoneType") (.ref A.c_TooMany) = some false := nn_leaf T.lf_TooMany
theorem kbi_BadDerivation (T : Txt K mg A) : KBn K A.di_BadDerivation ["self", "index"] 1 ["index"] (pickI 1 [0]) (pickI 1 [0]) := kbI_of T.fi_BadDerivation [0] fun _ _ _ _ _ _ _ ws hl => match ws, hl with | [_], _ => rfl
theorem kbi_BadLog (T : Txt K mg A) : KBn K A.di_BadLog ["self", "index"] 1 ["index"] (pickI 1 [0]) (pickI 1 [0]) := kbI_of T.fi_BadLog [0] fun _ _ _ _ _ _ _ ws hl => match ws, hl with | [_], _ => rfl
theorem kbi_BadPaper (T : Txt K mg A) : KBn K A.di_BadPaper ["self", "index"] 1 ["index"] (pickI 1 [0]) (pickI 1 [0]) := kbI_of T.fi_BadPaper [0] fun _ _ _ _ _ _ _ ws hl => match ws, hl with | [_], _ => rfl
theorem kbi_BadText (T : Txt K mg A) : KBn K A.di_BadText ["self", "line"] 1 ["line"] (pickI 1 [0]) (pickI 1 [0]) := kbI_of T.fi_BadText [0] fun _ _ _ _ _ _ _ ws hl => match ws, hl with | [_], _ => rfl
theorem kbi_Clashes (T : Txt K mg A) : KBn K A.di_Clashes ["self", "number"] 1 ["number"] (pickI 1 [0]) (pickI 1 [0]) := kbI_of T.fi_Clashes [0] fun _ _ _ _ _ _ _ ws hl => match ws, hl with | [_], _ => rfl
theorem kbi_IsAssumed (T : Txt K mg A) : KBn K A.di_IsAssumed ["self", "literal"] 1 ["literal"] (pickI 1 [0]) (pickI 1 [0]) := kbI_of T.fi_IsAssumed [0] fun _ _ _ _ _ _ _ ws hl => match ws, hl with | [_], _ => rfl
theorem kbi_IsReason (T : Txt K mg A) : KBn K A.di_IsReason ["self", "number"] 1 ["number"] (pickI 1 [0]) (pickI 1 [0]) := kbI_of T.fi_IsReason [0] fun _ _ _ _ _ _ _ ws hl => match ws, hl with | [_], _ => rfl
theorem kbi_NotFree (T : Txt K mg A) : KBn K A.di_NotFree ["self", "literal"] 1 ["literal"] (pickI 1 [0]) (pickI 1 [0]) := kbI_of T.fi_NotFree [0] fun _ _ _ _ _ _ _ ws hl => match ws, hl with | [_], _ => rfl
theorem kbi_TooMany (T : Txt K mg A) : KBn K A.di_TooMany ["self", "most"] 1 ["most"] (pickI 1 [0]) (pickI 1 [0]) := kbI_of T.fi_TooMany [0] fun _ _ _ _ _ _ _ ws hl => match ws, hl with | [_], _ => rfl
theorem fld_index (T : Txt K mg A) : FldT K mg ["BadDerivation", "BadLog", "BadPaper"] "index" := (fld_cons T.k_BadDerivation.g T.xf_BadDerivation T.nf_BadDerivation (fld_cons T.k_BadLog.g T.xf_BadLog T.nf_BadLog (fld_cons T.k_BadPaper.g T.xf_BadPaper T.nf_BadPaper fld_nil)))
theorem fld_line (T : Txt K mg A) : FldT K mg ["BadText"] "line" := (fld_cons T.k_BadText.g T.xf_BadText T.nf_BadText fld_nil)
theorem fld_literal (T : Txt K mg A) : FldT K mg ["IsAssumed", "NotFree"] "literal" := (fld_cons T.k_IsAssumed.g T.xf_IsAssumed T.nf_IsAssumed (fld_cons T.k_NotFree.g T.xf_NotFree T.nf_NotFree fld_nil))
theorem fld_most (T : Txt K mg A) : FldT K mg ["TooMany"] "most" := (fld_cons T.k_TooMany.g T.xf_TooMany T.nf_TooMany fld_nil)
theorem fld_number (T : Txt K mg A) : FldT K mg ["Clashes", "IsReason"] "number" := (fld_cons T.k_Clashes.g T.xf_Clashes T.nf_Clashes (fld_cons T.k_IsReason.g T.xf_IsReason T.nf_IsReason fld_nil))
theorem sc__law_begun : FnScope ["script", "cells_here", "cell", "large"] ["script"] (defScope (top 63)) := ⟨rfl, rfl, rfl, by decide +kernel, rfl, by decide +kernel, by decide +kernel⟩
theorem ok__law_begun (T : Txt K mg A) : FnOk P w K mg base (L2.CX P w) 1 A.a__law_begun A.d__law_begun ["script"] (spBegun K mg) := by
  refine T.f__law_begun.okX sc__law_begun (fun vs H Q E h => h.1) fun cdv A0 outer s H vs Q E hr h => ?_
  obtain ⟨hl, l0, F0, O0, T0, ns, fit, hd, hz, hQ⟩ := h
  have sc := sc__law_begun
  have D1 : PS (cxOf (L2.CX P w) P w K mg base ["script", "cells_here", "cell", "large"] "_law_begun" (defScope (top 63)) A.a__law_begun cdv A0 outer s H E) ((defBody (top 63)).getD 0 (.Pass ⟨0, 0, 0, 0⟩)) (tS (bP K mg l0 (exT T0) [3]) E begunG1) := (s_lc 1 rfl rfl (tg_name 2 rfl) rfl rfl (fun wi hi => ps_setLc (i := 1) (own := [("cell", 2)]) rfl sc.nd rfl rfl (sw_true rfl rfl (by decide +kernel) (by decide +kernel)) hi (blkOk_by (N := ["script", "cells_here", "cell", "large"]) (sc := defScope (top 63)) (by decide +kernel)) (fun _ _ _ _ _ => (pg_name (i := 2) sc.nd rfl (by first | exact Or.inl rfl | exact Or.inr rfl))) (fun _ _ _ _ _ => tYes_ok) (fun _ _ _ _ _ => (e_cb r_abs (fun t h => pe_callB call_abs (by rfl) T.g_abs (by decide +kernel) h) (ab_cons (bE (e_var 2 (pv 2) rfl)) ab_nil)))) (bE (e_var 0 (pv 0) rfl)))
  have D2 : PS (cxOf (L2.CX P w) P w K mg base ["script", "cells_here", "cell", "large"] "_law_begun" (defScope (top 63)) A.a__law_begun cdv A0 outer s H E) ((defBody (top 63)).getD 1 (.Pass ⟨0, 0, 0, 0⟩)) (tS (bP K mg l0 (exT T0) [3]) E begunG2) := (s_lcO 3 rfl rfl (tg_name 2 rfl) rfl rfl (fun wi hi => ps_setLc (i := 3) (own := [("cell", 2)]) rfl sc.nd rfl rfl (sw_true rfl rfl (by decide +kernel) (by decide +kernel)) hi (blkOk_by (N := ["script", "cells_here", "cell", "large"]) (sc := defScope (top 63)) (by decide +kernel)) (fun _ _ _ _ _ => (pg_name (i := 2) sc.nd rfl (by first | exact Or.inl rfl | exact Or.inr rfl))) (fun _ _ _ _ _ => (tOne_ok (t_cmp r_ge op_ge (bE (e_var 2 (pv 2) rfl)) (bE (e_bin r_pow (fun t u h1 h2 => pe_op op_pow h1 h2) (bE e_int) (bE e_int))) (nomark _)))) (fun _ _ _ _ _ => (e_bin r_sub (fun t u h1 h2 => pe_op op_sub h1 h2) (bE (e_var 2 (pv 2) rfl)) (bE (e_bin r_pow (fun t u h1 h2 => pe_op op_pow h1 h2) (bE e_int) (bE e_int)))))) (bE (e_var 1 (pv 1) rfl)))
  have D3 : PE (cxOf (L2.CX P w) P w K mg base ["script", "cells_here", "cell", "large"] "_law_begun" (defScope (top 63)) A.a__law_begun cdv A0 outer s H E) (retE ((defBody (top 63)).getD 2 (.Pass ⟨0, 0, 0, 0⟩))) (tDisp begunTrs) := pe_disp (pps_cons pe_str (pv 3) (pps_cons pe_str (pv 1) (pps_cons pe_str pe_int (pps_cons pe_str pe_int pps_nil)))) rfl rfl (by simp) (by decide)
  exact ⟨_, pss_cons D1 (pss_cons D2 (pss_one (ps_ret D3))), begun_read rfl rfl rfl (pre_start (b := bP K mg l0 (exT T0) [3]) ⟨T0, rfl, fit⟩ (fun q => absurd q Bool.false_ne_true) hd (by rw [hl]; decide) (by rw [hl]; rfl)) fit hz (begun_g1 hz) begun_g2 (fun l F' H' e1 e2 e3 e4 e5 => hQ l F' H' e1 e2 e3 e4 e5)⟩
theorem b__law_begun (T : Txt K mg A) : Binds K A.d__law_begun ["script"] [] := T.f__law_begun.binds (ps := ["script"]) fun _ _ _ _ _ _ us hl => match us, hl with | [_], _ => rfl
theorem sc__law_draw : FnScope ["state", "size_here", "found", "turn", "cell", "mixed"] ["state", "size_here"] (defScope (top 64)) := ⟨rfl, rfl, rfl, by decide +kernel, rfl, by decide +kernel, by decide +kernel⟩
theorem ok__law_draw (T : Txt K mg A) : FnOk P w K mg base (L2.CX P w) 1 A.a__law_draw A.d__law_draw ["state", "size_here"] (spS K mg 2 G__law_draw) := by
  refine okS [] (g := g__law_draw) T.f__law_draw sc__law_draw rfl (by decide) (fun cdv A outer s H E l TP hr => ?_) (fun _ _ _ => rfl)
  have sc := sc__law_draw
  exact (ss_cons (s_while 100000 (passes_of rfl) (PW.pt (w_and (t_cmp r_eq (op_eqX hr.units) (bE (e_left 0 rfl rfl (pe_dget (hu_of hr) (pv 0) pe_str (fun _ _ => rfl)))) (bE e_int) (nomark _)) (w_and1 (t_large 0 rfl rfl (pt_cmpR (op_neD hr.units) (pe_dget (hu_of hr) (pv 0) pe_str (fun _ _ => rfl)) pe_l0 (nomark _)))))) (ss_one (s_popL 0 rfl rfl (ps_asg (pe_bm PySem.F.plainAttrs_list PySem.F.slot_list_pop PySem.F.type_list_pop mt_popAt (pe_dget (hu_of hr) (pv 0) pe_str (fun _ _ => rfl)) (pa_cons pe_int pa_nil)) (pg_sub (pv 0) pe_str (set_dict (hu_of hr))))))) (ss_cons (s_if (t_cmp r_gt op_gt (bE (e_left 0 rfl rfl (pe_dget (hu_of hr) (pv 0) pe_str (fun _ _ => rfl)))) (bE e_int) (nomark _)) (ss_cons (s_asg 2 rfl (fun te h => ps_set (i := 2) sc.nd rfl (by first | exact Or.inl rfl | exact Or.inr rfl) h) (e_bin r_mod (fun t u h1 h2 => pe_op op_mod h1 h2) (bE (e_cb r_int (fun t h => pe_callTy call_int1 (by rfl) T.g_int (by decide +kernel) h) (ab_cons (bE (e_left 0 rfl rfl (pe_dget (hu_of hr) (pv 0) pe_str (fun _ _ => rfl)))) ab_nil))) (bE (e_var 1 (pv 1) rfl)))) (ss_cons (s_left 0 rfl rfl (fun te h => ps_asg h (pg_sub (pv 0) pe_str (set_dict (hu_of hr)))) (e_bin r_divW (fun t u h1 h2 => pe_op op_fdivW h1 h2) (bE (e_left 0 rfl rfl (pe_dget (hu_of hr) (pv 0) pe_str (fun _ _ => rfl)))) (bE (e_var 1 (pv 1) rfl)))) (ss_one (s_ret (e_var 2 (pv 2) rfl))))) ss_nil) (ss_cons (s_asg 3 rfl (fun te h => ps_set (i := 3) sc.nd rfl (by first | exact Or.inl rfl | exact Or.inr rfl) h) (e_bin r_add (fun t u h1 h2 => pe_op op_addA h1 h2) (bE (e_turn 0 rfl rfl (pe_dget (hu_of hr) (pv 0) pe_str (fun _ _ => rfl)))) (bE e_int))) (ss_cons (s_turn 0 rfl rfl (fun te h => ps_asg h (pg_sub (pv 0) pe_str (set_dict (hu_of hr)))) (e_var 3 (pv 3) rfl)) (ss_cons (s_asg 4 rfl (fun te h => ps_set (i := 4) sc.nd rfl (by first | exact Or.inl rfl | exact Or.inr rfl) h) (e_if (t_cmp r_ne (op_neX hr.units) (bE (e_cells 0 rfl rfl (pe_dget (hu_of hr) (pv 0) pe_str (fun _ _ => rfl)))) (bE (nE (n_lst a_nil))) (nomark _)) (e_bin r_ixA (fun t u h1 h2 => pe_ix (ix_all (hu_of hr)) h1 h2 (fun _ _ => rfl)) (bE (e_cells 0 rfl rfl (pe_dget (hu_of hr) (pv 0) pe_str (fun _ _ => rfl)))) (bE (e_bin r_mod (fun t u h1 h2 => pe_op op_mod h1 h2) (bE (e_cb r_int (fun t h => pe_callTy call_int1 (by rfl) T.g_int (by decide +kernel) h) (ab_cons (bE (e_var 3 (pv 3) rfl)) ab_nil))) (bE (e_cb r_lenA (fun t h => pe_callB cr_lenA (by rfl) T.g_len (by decide +kernel) h) (ab_cons (bE (e_cells 0 rfl rfl (pe_dget (hu_of hr) (pv 0) pe_str (fun _ _ => rfl)))) ab_nil)))))) e_int)) (ss_cons (s_asg 5 rfl (fun te h => ps_set (i := 5) sc.nd rfl (by first | exact Or.inl rfl | exact Or.inr rfl) h) (e_bin r_mod (fun t u h1 h2 => pe_op op_mod h1 h2) (bE (e_cb r_int (fun t h => pe_callTy call_int1 (by rfl) T.g_int (by decide +kernel) h) (ab_cons (bE (e_bin r_pow (fun t u h1 h2 => pe_op op_pow h1 h2) (bE (e_bin r_add (fun t u h1 h2 => pe_op op_addA h1 h2) (bE (e_bin r_add (fun t u h1 h2 => pe_op op_addA h1 h2) (bE (e_bin r_mod (fun t u h1 h2 => pe_op op_mod h1 h2) (bE (e_cb r_int (fun t h => pe_callTy call_int1 (by rfl) T.g_int (by decide +kernel) h) (ab_cons (bE (e_var 4 (pv 4) rfl)) ab_nil))) (bE e_int))) (bE (e_bin r_mulT (fun t u h1 h2 => pe_op op_mulT h1 h2) (bE e_int) (bE (e_var 3 (pv 3) rfl)))))) (bE e_int))) (bE e_int))) ab_nil))) (bE e_int))) (ss_one (s_ret (e_bin r_mod (fun t u h1 h2 => pe_op op_mod h1 h2) (bE (e_cb r_int (fun t h => pe_callTy call_int1 (by rfl) T.g_int (by decide +kernel) h) (ab_cons (bE (e_bin r_divW (fun t u h1 h2 => pe_op op_fdivW h1 h2) (bE (e_bin r_mod (fun t u h1 h2 => pe_op op_mod h1 h2) (bE (e_cb r_int (fun t h => pe_callTy call_int1 (by rfl) T.g_int (by decide +kernel) h) (ab_cons (bE (e_bin r_pow (fun t u h1 h2 => pe_op op_pow h1 h2) (bE (e_bin r_add (fun t u h1 h2 => pe_op op_addA h1 h2) (bE (e_var 5 (pv 5) rfl)) (bE (e_bin r_mulT (fun t u h1 h2 => pe_op op_mulT h1 h2) (bE e_int) (bE (e_var 3 (pv 3) rfl)))))) (bE e_int))) ab_nil))) (bE e_int))) (bE e_int))) ab_nil))) (bE (e_var 1 (pv 1) rfl)))))))))))
theorem b__law_draw (T : Txt K mg A) : Binds K A.d__law_draw ["state", "size_here"] [] := T.f__law_draw.binds (ps := ["state", "size_here"]) fun _ _ _ _ _ _ us hl => match us, hl with | [_, _], _ => rfl
theorem sc__law_pick : FnScope ["state", "several"] ["state", "several"] (defScope (top 65)) := ⟨rfl, rfl, rfl, by decide +kernel, rfl, by decide +kernel, by decide +kernel⟩
theorem ok__law_pick (T : Txt K mg A) : FnOk P w K mg base (L2.CX P w) 2 A.a__law_pick A.d__law_pick ["state", "several"] (spS K mg 2 G__law_pick) := by
  refine okS [] (g := g__law_pick) T.f__law_pick sc__law_pick rfl (by decide) (fun cdv A outer s H E l TP hr => ?_) (fun _ _ _ => rfl)
  have sc := sc__law_pick
  exact (ss_one (s_ret (e_bin r_ixA (fun t u h1 h2 => pe_ix (ix_all (hu_of hr)) h1 h2 (fun _ _ => rfl)) (bE (e_var 1 (pv 1) rfl)) (bE (e_callS ⟨rfl, rfl⟩ rfl rfl (fun t h => pe_call (ok__law_draw T) (hr.mono (by decide)) (by rfl) T.m__law_draw T.f__law_draw.kp (b__law_draw T) .nil (passes_call (takes_of rfl rfl rfl rfl) fun _ _ _ _ h => h) h) (a_cons (e_var 0 (pv 0) rfl) (a_cons (e_cb r_lenA (fun t h => pe_callB cr_lenA (by rfl) T.g_len (by decide +kernel) h) (ab_cons (bE (e_var 1 (pv 1) rfl)) ab_nil)) a_nil)) (by exact (len_cons (len_cons len_nil))))))))
theorem b__law_pick (T : Txt K mg A) : Binds K A.d__law_pick ["state", "several"] [] := T.f__law_pick.binds (ps := ["state", "several"]) fun _ _ _ _ _ _ us hl => match us, hl with | [_, _], _ => rfl
theorem sc__law_odd : FnScope ["state"] ["state"] (defScope (top 66)) := ⟨rfl, rfl, rfl, by decide +kernel, rfl, by decide +kernel, by decide +kernel⟩
theorem ok__law_odd (T : Txt K mg A) : FnOk P w K mg base (L2.CX P w) 3 A.a__law_odd A.d__law_odd ["state"] (spS K mg 1 G__law_odd) := by
  refine okS [] (g := g__law_odd) T.f__law_odd sc__law_odd rfl (by decide) (fun cdv A outer s H E l TP hr => ?_) (fun _ _ _ => rfl)
  have sc := sc__law_odd
  exact (ss_one (s_ret (e_callS ⟨rfl, rfl⟩ rfl rfl (fun t h => pe_call (ok__law_pick T) (hr.mono (by decide)) (by rfl) T.m__law_pick T.f__law_pick.kp (b__law_pick T) .nil (passes_call (takes_of rfl rfl rfl rfl) fun _ _ _ _ h => h) h) (a_cons (e_var 0 (pv 0) rfl) (a_cons (nE (n_lst (a_cons e_non (a_cons e_bl (a_cons e_bl (a_cons e_str (a_cons e_str (a_cons (nE (n_lst a_nil)) (a_cons (nE (n_d0 pe_dnewK)) (a_cons (e_tup (a_cons e_non a_nil)) (a_cons (e_tup (a_cons e_str (a_cons e_int a_nil))) (a_cons (nE (n_lst (a_cons (nE (n_lst (a_cons e_int a_nil))) a_nil))) (a_cons (nE (n_disp [(.inl 0, .int 0)] [.inl 0] [.int 0] (pe_disp (pps_cons pe_int pe_int pps_nil) rfl rfl (by simp) (by decide)) (fun _ _ _ h => h) (by decide) rfl (fun _ => by exact (Dens.cons rfl Dens.nil)))) (a_cons (e_tup (a_cons e_bl a_nil)) (a_cons (e_tup (a_cons (e_tup a_nil) a_nil)) a_nil))))))))))))))) a_nil)) (by exact (len_cons (len_cons len_nil))))))
theorem b__law_odd (T : Txt K mg A) : Binds K A.d__law_odd ["state"] [] := T.f__law_odd.binds (ps := ["state"]) fun _ _ _ _ _ _ us hl => match us, hl with | [_], _ => rfl
theorem sc__law_kinds_a : FnScope ["caught", "found", "each"] ["caught"] (defScope (top 67)) := ⟨rfl, rfl, rfl, by decide +kernel, rfl, by decide +kernel, by decide +kernel⟩
theorem ok__law_kinds_a (T : Txt K mg A) : FnOk P w K mg base (L2.CX P w) 1 A.a__law_kinds_a A.d__law_kinds_a ["caught"] (spP K mg 1 G__law_kinds_a) := by
  refine okP [1] (g := g__law_kinds_a) T.f__law_kinds_a sc__law_kinds_a rfl (by decide) (fun cdv A outer s H E l T0 hr => ?_) (fun _ _ => rfl)
  have sc := sc__law_kinds_a
  exact (ss_cons (s_asgO 1 rfl (fun te h => ps_set (i := 1) sc.nd rfl (by first | exact Or.inl rfl | exact Or.inr rfl) h) (n_lst a_nil)) (ss_cons (s_app 1 rfl (fun te h => ps_expr (pe_bm PySem.F.plainAttrs_list PySem.F.slot_list_append PySem.F.type_list_append mt_append (pv 1) (pa_cons h pa_nil))) (e_if (t_val (e_isd (leafT errs "BadBound") ⟨rfl, rfl⟩ (by exact nn_BadBound T) (by exact isc_BadBound T) (.own _) (fun te h => pe_callB call_isD (by rfl) T.g_isinstance (by decide +kernel) (pa_cons h (pa_cons (pe_glob (by rfl) T.k_BadBound.g rfl) pa_nil))) (e_var 0 (pv 0) rfl))) e_str e_str)) (ss_cons (s_app 1 rfl (fun te h => ps_expr (pe_bm PySem.F.plainAttrs_list PySem.F.slot_list_append PySem.F.type_list_append mt_append (pv 1) (pa_cons h pa_nil))) (e_if (t_val (e_isd (leafT errs "BadChoices") ⟨rfl, rfl⟩ (by exact nn_BadChoices T) (by exact isc_BadChoices T) (.own _) (fun te h => pe_callB call_isD (by rfl) T.g_isinstance (by decide +kernel) (pa_cons h (pa_cons (pe_glob (by rfl) T.k_BadChoices.g rfl) pa_nil))) (e_var 0 (pv 0) rfl))) e_str e_str)) (ss_cons (s_app 1 rfl (fun te h => ps_expr (pe_bm PySem.F.plainAttrs_list PySem.F.slot_list_append PySem.F.type_list_append mt_append (pv 1) (pa_cons h pa_nil))) (e_if (t_val (e_isd (leafT errs "BadCount") ⟨rfl, rfl⟩ (by exact nn_BadCount T) (by exact isc_BadCount T) (.own _) (fun te h => pe_callB call_isD (by rfl) T.g_isinstance (by decide +kernel) (pa_cons h (pa_cons (pe_glob (by rfl) T.k_BadCount.g rfl) pa_nil))) (e_var 0 (pv 0) rfl))) e_str e_str)) (ss_cons (s_app 1 rfl (fun te h => ps_expr (pe_bm PySem.F.plainAttrs_list PySem.F.slot_list_append PySem.F.type_list_append mt_append (pv 1) (pa_cons h pa_nil))) (e_if (t_val (e_isd (leafT errs "BadDerivation") ⟨rfl, rfl⟩ (by exact nn_BadDerivation T) (by exact isc_BadDerivation T) (.own _) (fun te h => pe_callB call_isD (by rfl) T.g_isinstance (by decide +kernel) (pa_cons h (pa_cons (pe_glob (by rfl) T.k_BadDerivation.g rfl) pa_nil))) (e_var 0 (pv 0) rfl))) e_str e_str)) (ss_cons (s_app 1 rfl (fun te h => ps_expr (pe_bm PySem.F.plainAttrs_list PySem.F.slot_list_append PySem.F.type_list_append mt_append (pv 1) (pa_cons h pa_nil))) (e_if (t_val (e_isd (leafT errs "BadExchange") ⟨rfl, rfl⟩ (by exact nn_BadExchange T) (by exact isc_BadExchange T) (.own _) (fun te h => pe_callB call_isD (by rfl) T.g_isinstance (by decide +kernel) (pa_cons h (pa_cons (pe_glob (by rfl) T.k_BadExchange.g rfl) pa_nil))) (e_var 0 (pv 0) rfl))) e_str e_str)) (ss_cons (s_app 1 rfl (fun te h => ps_expr (pe_bm PySem.F.plainAttrs_list PySem.F.slot_list_append PySem.F.type_list_append mt_append (pv 1) (pa_cons h pa_nil))) (e_if (t_val (e_isd (leafT errs "BadExchanges") ⟨rfl, rfl⟩ (by exact nn_BadExchanges T) (by exact isc_BadExchanges T) (.own _) (fun te h => pe_callB call_isD (by rfl) T.g_isinstance (by decide +kernel) (pa_cons h (pa_cons (pe_glob (by rfl) T.k_BadExchanges.g rfl) pa_nil))) (e_var 0 (pv 0) rfl))) e_str e_str)) (ss_cons (s_app 1 rfl (fun te h => ps_expr (pe_bm PySem.F.plainAttrs_list PySem.F.slot_list_append PySem.F.type_list_append mt_append (pv 1) (pa_cons h pa_nil))) (e_if (t_val (e_isd (leafT errs "BadFilling") ⟨rfl, rfl⟩ (by exact nn_BadFilling T) (by exact isc_BadFilling T) (.own _) (fun te h => pe_callB call_isD (by rfl) T.g_isinstance (by decide +kernel) (pa_cons h (pa_cons (pe_glob (by rfl) T.k_BadFilling.g rfl) pa_nil))) (e_var 0 (pv 0) rfl))) e_str e_str)) (ss_cons (s_app 1 rfl (fun te h => ps_expr (pe_bm PySem.F.plainAttrs_list PySem.F.slot_list_append PySem.F.type_list_append mt_append (pv 1) (pa_cons h pa_nil))) (e_if (t_val (e_isd (leafT errs "BadFillings") ⟨rfl, rfl⟩ (by exact nn_BadFillings T) (by exact isc_BadFillings T) (.own _) (fun te h => pe_callB call_isD (by rfl) T.g_isinstance (by decide +kernel) (pa_cons h (pa_cons (pe_glob (by rfl) T.k_BadFillings.g rfl) pa_nil))) (e_var 0 (pv 0) rfl))) e_str e_str)) (ss_cons (s_app 1 rfl (fun te h => ps_expr (pe_bm PySem.F.plainAttrs_list PySem.F.slot_list_append PySem.F.type_list_append mt_append (pv 1) (pa_cons h pa_nil))) (e_if (t_val (e_isd (leafT errs "BadGoal") ⟨rfl, rfl⟩ (by exact nn_BadGoal T) (by exact isc_BadGoal T) (.own _) (fun te h => pe_callB call_isD (by rfl) T.g_isinstance (by decide +kernel) (pa_cons h (pa_cons (pe_glob (by rfl) T.k_BadGoal.g rfl) pa_nil))) (e_var 0 (pv 0) rfl))) e_str e_str)) (ss_cons (s_app 1 rfl (fun te h => ps_expr (pe_bm PySem.F.plainAttrs_list PySem.F.slot_list_append PySem.F.type_list_append mt_append (pv 1) (pa_cons h pa_nil))) (e_if (t_val (e_isd (leafT errs "BadGroups") ⟨rfl, rfl⟩ (by exact nn_BadGroups T) (by exact isc_BadGroups T) (.own _) (fun te h => pe_callB call_isD (by rfl) T.g_isinstance (by decide +kernel) (pa_cons h (pa_cons (pe_glob (by rfl) T.k_BadGroups.g rfl) pa_nil))) (e_var 0 (pv 0) rfl))) e_str e_str)) (ss_cons (s_app 1 rfl (fun te h => ps_expr (pe_bm PySem.F.plainAttrs_list PySem.F.slot_list_append PySem.F.type_list_append mt_append (pv 1) (pa_cons h pa_nil))) (e_if (t_val (e_isd (leafT errs "BadGuide") ⟨rfl, rfl⟩ (by exact nn_BadGuide T) (by exact isc_BadGuide T) (.own _) (fun te h => pe_callB call_isD (by rfl) T.g_isinstance (by decide +kernel) (pa_cons h (pa_cons (pe_glob (by rfl) T.k_BadGuide.g rfl) pa_nil))) (e_var 0 (pv 0) rfl))) e_str e_str)) (ss_cons (s_app 1 rfl (fun te h => ps_expr (pe_bm PySem.F.plainAttrs_list PySem.F.slot_list_append PySem.F.type_list_append mt_append (pv 1) (pa_cons h pa_nil))) (e_if (t_val (e_isd (leafT errs "BadHands") ⟨rfl, rfl⟩ (by exact nn_BadHands T) (by exact isc_BadHands T) (.own _) (fun te h => pe_callB call_isD (by rfl) T.g_isinstance (by decide +kernel) (pa_cons h (pa_cons (pe_glob (by rfl) T.k_BadHands.g rfl) pa_nil))) (e_var 0 (pv 0) rfl))) e_str e_str)) (ss_cons (s_app 1 rfl (fun te h => ps_expr (pe_bm PySem.F.plainAttrs_list PySem.F.slot_list_append PySem.F.type_list_append mt_append (pv 1) (pa_cons h pa_nil))) (e_if (t_val (e_isd (leafT errs "BadId") ⟨rfl, rfl⟩ (by exact nn_BadId T) (by exact isc_BadId T) (.own _) (fun te h => pe_callB call_isD (by rfl) T.g_isinstance (by decide +kernel) (pa_cons h (pa_cons (pe_glob (by rfl) T.k_BadId.g rfl) pa_nil))) (e_var 0 (pv 0) rfl))) e_str e_str)) (ss_cons (s_app 1 rfl (fun te h => ps_expr (pe_bm PySem.F.plainAttrs_list PySem.F.slot_list_append PySem.F.type_list_append mt_append (pv 1) (pa_cons h pa_nil))) (e_if (t_val (e_isd (leafT errs "BadJudge") ⟨rfl, rfl⟩ (by exact nn_BadJudge T) (by exact isc_BadJudge T) (.own _) (fun te h => pe_callB call_isD (by rfl) T.g_isinstance (by decide +kernel) (pa_cons h (pa_cons (pe_glob (by rfl) T.k_BadJudge.g rfl) pa_nil))) (e_var 0 (pv 0) rfl))) e_str e_str)) (ss_cons (s_app 1 rfl (fun te h => ps_expr (pe_bm PySem.F.plainAttrs_list PySem.F.slot_list_append PySem.F.type_list_append mt_append (pv 1) (pa_cons h pa_nil))) (e_if (t_val (e_isd (leafT errs "BadLeast") ⟨rfl, rfl⟩ (by exact nn_BadLeast T) (by exact isc_BadLeast T) (.own _) (fun te h => pe_callB call_isD (by rfl) T.g_isinstance (by decide +kernel) (pa_cons h (pa_cons (pe_glob (by rfl) T.k_BadLeast.g rfl) pa_nil))) (e_var 0 (pv 0) rfl))) e_str e_str)) (ss_cons (s_app 1 rfl (fun te h => ps_expr (pe_bm PySem.F.plainAttrs_list PySem.F.slot_list_append PySem.F.type_list_append mt_append (pv 1) (pa_cons h pa_nil))) (e_if (t_val (e_isd (leafT errs "BadLevel") ⟨rfl, rfl⟩ (by exact nn_BadLevel T) (by exact isc_BadLevel T) (.own _) (fun te h => pe_callB call_isD (by rfl) T.g_isinstance (by decide +kernel) (pa_cons h (pa_cons (pe_glob (by rfl) T.k_BadLevel.g rfl) pa_nil))) (e_var 0 (pv 0) rfl))) e_str e_str)) (ss_cons (s_app 1 rfl (fun te h => ps_expr (pe_bm PySem.F.plainAttrs_list PySem.F.slot_list_append PySem.F.type_list_append mt_append (pv 1) (pa_cons h pa_nil))) (e_if (t_val (e_isd (leafT errs "BadLiteral") ⟨rfl, rfl⟩ (by exact nn_BadLiteral T) (by exact isc_BadLiteral T) (.own _) (fun te h => pe_callB call_isD (by rfl) T.g_isinstance (by decide +kernel) (pa_cons h (pa_cons (pe_glob (by rfl) T.k_BadLiteral.g rfl) pa_nil))) (e_var 0 (pv 0) rfl))) e_str e_str)) (ss_cons (s_app 1 rfl (fun te h => ps_expr (pe_bm PySem.F.plainAttrs_list PySem.F.slot_list_append PySem.F.type_list_append mt_append (pv 1) (pa_cons h pa_nil))) (e_if (t_val (e_isd (leafT errs "BadLiterals") ⟨rfl, rfl⟩ (by exact nn_BadLiterals T) (by exact isc_BadLiterals T) (.own _) (fun te h => pe_callB call_isD (by rfl) T.g_isinstance (by decide +kernel) (pa_cons h (pa_cons (pe_glob (by rfl) T.k_BadLiterals.g rfl) pa_nil))) (e_var 0 (pv 0) rfl))) e_str e_str)) (ss_cons (s_app 1 rfl (fun te h => ps_expr (pe_bm PySem.F.plainAttrs_list PySem.F.slot_list_append PySem.F.type_list_append mt_append (pv 1) (pa_cons h pa_nil))) (e_if (t_val (e_isd (leafT errs "BadLoads") ⟨rfl, rfl⟩ (by exact nn_BadLoads T) (by exact isc_BadLoads T) (.own _) (fun te h => pe_callB call_isD (by rfl) T.g_isinstance (by decide +kernel) (pa_cons h (pa_cons (pe_glob (by rfl) T.k_BadLoads.g rfl) pa_nil))) (e_var 0 (pv 0) rfl))) e_str e_str)) (ss_cons (s_app 1 rfl (fun te h => ps_expr (pe_bm PySem.F.plainAttrs_list PySem.F.slot_list_append PySem.F.type_list_append mt_append (pv 1) (pa_cons h pa_nil))) (e_if (t_val (e_isd (leafT errs "BadLog") ⟨rfl, rfl⟩ (by exact nn_BadLog T) (by exact isc_BadLog T) (.own _) (fun te h => pe_callB call_isD (by rfl) T.g_isinstance (by decide +kernel) (pa_cons h (pa_cons (pe_glob (by rfl) T.k_BadLog.g rfl) pa_nil))) (e_var 0 (pv 0) rfl))) e_str e_str)) (ss_cons (s_app 1 rfl (fun te h => ps_expr (pe_bm PySem.F.plainAttrs_list PySem.F.slot_list_append PySem.F.type_list_append mt_append (pv 1) (pa_cons h pa_nil))) (e_if (t_val (e_isd (leafT errs "BadLot") ⟨rfl, rfl⟩ (by exact nn_BadLot T) (by exact isc_BadLot T) (.own _) (fun te h => pe_callB call_isD (by rfl) T.g_isinstance (by decide +kernel) (pa_cons h (pa_cons (pe_glob (by rfl) T.k_BadLot.g rfl) pa_nil))) (e_var 0 (pv 0) rfl))) e_str e_str)) (ss_cons (s_app 1 rfl (fun te h => ps_expr (pe_bm PySem.F.plainAttrs_list PySem.F.slot_list_append PySem.F.type_list_append mt_append (pv 1) (pa_cons h pa_nil))) (e_if (t_val (e_isd (leafT errs "BadMany") ⟨rfl, rfl⟩ (by exact nn_BadMany T) (by exact isc_BadMany T) (.own _) (fun te h => pe_callB call_isD (by rfl) T.g_isinstance (by decide +kernel) (pa_cons h (pa_cons (pe_glob (by rfl) T.k_BadMany.g rfl) pa_nil))) (e_var 0 (pv 0) rfl))) e_str e_str)) (ss_cons (s_app 1 rfl (fun te h => ps_expr (pe_bm PySem.F.plainAttrs_list PySem.F.slot_list_append PySem.F.type_list_append mt_append (pv 1) (pa_cons h pa_nil))) (e_if (t_val (e_isd (leafT errs "BadMost") ⟨rfl, rfl⟩ (by exact nn_BadMost T) (by exact isc_BadMost T) (.own _) (fun te h => pe_callB call_isD (by rfl) T.g_isinstance (by decide +kernel) (pa_cons h (pa_cons (pe_glob (by rfl) T.k_BadMost.g rfl) pa_nil))) (e_var 0 (pv 0) rfl))) e_str e_str)) (ss_cons (s_app 1 rfl (fun te h => ps_expr (pe_bm PySem.F.plainAttrs_list PySem.F.slot_list_append PySem.F.type_list_append mt_append (pv 1) (pa_cons h pa_nil))) (e_if (t_val (e_isd (leafT errs "BadNamed") ⟨rfl, rfl⟩ (by exact nn_BadNamed T) (by exact isc_BadNamed T) (.own _) (fun te h => pe_callB call_isD (by rfl) T.g_isinstance (by decide +kernel) (pa_cons h (pa_cons (pe_glob (by rfl) T.k_BadNamed.g rfl) pa_nil))) (e_var 0 (pv 0) rfl))) e_str e_str)) (ss_one (s_ret (nE (n_lc rfl (tg_name 2 rfl) rfl rfl (fun wi hi => pe_lc (own := [("each", 2)]) rfl sc.nd hi (blkOk_by (N := ["caught", "found", "each"]) (sc := defScope (top 67)) (by decide +kernel)) (fun _ _ _ _ _ => (pg_name (i := 2) sc.nd rfl (by first | exact Or.inl rfl | exact Or.inr rfl))) (fun _ _ _ _ _ => (tOne_ok (t_cmp r_ne (op_neX hr.units) (bE (e_var 2 (pv 2) rfl)) (bE e_str) (nomark _)))) (fun _ _ _ _ _ => (e_var 2 (pv 2) rfl))) (b_var 1 (pv 1)))))))))))))))))))))))))))))))
theorem b__law_kinds_a (T : Txt K mg A) : Binds K A.d__law_kinds_a ["caught"] [] := T.f__law_kinds_a.binds (ps := ["caught"]) fun _ _ _ _ _ _ us hl => match us, hl with | [_], _ => rfl
theorem sc__law_kinds_b : FnScope ["caught", "found", "each"] ["caught"] (defScope (top 68)) := ⟨rfl, rfl, rfl, by decide +kernel, rfl, by decide +kernel, by decide +kernel⟩
theorem ok__law_kinds_b (T : Txt K mg A) : FnOk P w K mg base (L2.CX P w) 1 A.a__law_kinds_b A.d__law_kinds_b ["caught"] (spP K mg 1 G__law_kinds_b) := by
  refine okP [1] (g := g__law_kinds_b) T.f__law_kinds_b sc__law_kinds_b rfl (by decide) (fun cdv A outer s H E l T0 hr => ?_) (fun _ _ => rfl)
  have sc := sc__law_kinds_b
  exact (ss_cons (s_asgO 1 rfl (fun te h => ps_set (i := 1) sc.nd rfl (by first | exact Or.inl rfl | exact Or.inr rfl) h) (n_lst a_nil)) (ss_cons (s_app 1 rfl (fun te h => ps_expr (pe_bm PySem.F.plainAttrs_list PySem.F.slot_list_append PySem.F.type_list_append mt_append (pv 1) (pa_cons h pa_nil))) (e_if (t_val (e_isd (leafT errs "BadNumber") ⟨rfl, rfl⟩ (by exact nn_BadNumber T) (by exact isc_BadNumber T) (.own _) (fun te h => pe_callB call_isD (by rfl) T.g_isinstance (by decide +kernel) (pa_cons h (pa_cons (pe_glob (by rfl) T.k_BadNumber.g rfl) pa_nil))) (e_var 0 (pv 0) rfl))) e_str e_str)) (ss_cons (s_app 1 rfl (fun te h => ps_expr (pe_bm PySem.F.plainAttrs_list PySem.F.slot_list_append PySem.F.type_list_append mt_append (pv 1) (pa_cons h pa_nil))) (e_if (t_val (e_isd (leafT errs "BadOrder") ⟨rfl, rfl⟩ (by exact nn_BadOrder T) (by exact isc_BadOrder T) (.own _) (fun te h => pe_callB call_isD (by rfl) T.g_isinstance (by decide +kernel) (pa_cons h (pa_cons (pe_glob (by rfl) T.k_BadOrder.g rfl) pa_nil))) (e_var 0 (pv 0) rfl))) e_str e_str)) (ss_cons (s_app 1 rfl (fun te h => ps_expr (pe_bm PySem.F.plainAttrs_list PySem.F.slot_list_append PySem.F.type_list_append mt_append (pv 1) (pa_cons h pa_nil))) (e_if (t_val (e_isd (leafT errs "BadOther") ⟨rfl, rfl⟩ (by exact nn_BadOther T) (by exact isc_BadOther T) (.own _) (fun te h => pe_callB call_isD (by rfl) T.g_isinstance (by decide +kernel) (pa_cons h (pa_cons (pe_glob (by rfl) T.k_BadOther.g rfl) pa_nil))) (e_var 0 (pv 0) rfl))) e_str e_str)) (ss_cons (s_app 1 rfl (fun te h => ps_expr (pe_bm PySem.F.plainAttrs_list PySem.F.slot_list_append PySem.F.type_list_append mt_append (pv 1) (pa_cons h pa_nil))) (e_if (t_val (e_isd (leafT errs "BadPaper") ⟨rfl, rfl⟩ (by exact nn_BadPaper T) (by exact isc_BadPaper T) (.own _) (fun te h => pe_callB call_isD (by rfl) T.g_isinstance (by decide +kernel) (pa_cons h (pa_cons (pe_glob (by rfl) T.k_BadPaper.g rfl) pa_nil))) (e_var 0 (pv 0) rfl))) e_str e_str)) (ss_cons (s_app 1 rfl (fun te h => ps_expr (pe_bm PySem.F.plainAttrs_list PySem.F.slot_list_append PySem.F.type_list_append mt_append (pv 1) (pa_cons h pa_nil))) (e_if (t_val (e_isd (leafT errs "BadPicks") ⟨rfl, rfl⟩ (by exact nn_BadPicks T) (by exact isc_BadPicks T) (.own _) (fun te h => pe_callB call_isD (by rfl) T.g_isinstance (by decide +kernel) (pa_cons h (pa_cons (pe_glob (by rfl) T.k_BadPicks.g rfl) pa_nil))) (e_var 0 (pv 0) rfl))) e_str e_str)) (ss_cons (s_app 1 rfl (fun te h => ps_expr (pe_bm PySem.F.plainAttrs_list PySem.F.slot_list_append PySem.F.type_list_append mt_append (pv 1) (pa_cons h pa_nil))) (e_if (t_val (e_isd (leafT errs "BadPlan") ⟨rfl, rfl⟩ (by exact nn_BadPlan T) (by exact isc_BadPlan T) (.own _) (fun te h => pe_callB call_isD (by rfl) T.g_isinstance (by decide +kernel) (pa_cons h (pa_cons (pe_glob (by rfl) T.k_BadPlan.g rfl) pa_nil))) (e_var 0 (pv 0) rfl))) e_str e_str)) (ss_cons (s_app 1 rfl (fun te h => ps_expr (pe_bm PySem.F.plainAttrs_list PySem.F.slot_list_append PySem.F.type_list_append mt_append (pv 1) (pa_cons h pa_nil))) (e_if (t_val (e_isd (leafT errs "BadPrice") ⟨rfl, rfl⟩ (by exact nn_BadPrice T) (by exact isc_BadPrice T) (.own _) (fun te h => pe_callB call_isD (by rfl) T.g_isinstance (by decide +kernel) (pa_cons h (pa_cons (pe_glob (by rfl) T.k_BadPrice.g rfl) pa_nil))) (e_var 0 (pv 0) rfl))) e_str e_str)) (ss_cons (s_app 1 rfl (fun te h => ps_expr (pe_bm PySem.F.plainAttrs_list PySem.F.slot_list_append PySem.F.type_list_append mt_append (pv 1) (pa_cons h pa_nil))) (e_if (t_val (e_isd (leafT errs "BadPrices") ⟨rfl, rfl⟩ (by exact nn_BadPrices T) (by exact isc_BadPrices T) (.own _) (fun te h => pe_callB call_isD (by rfl) T.g_isinstance (by decide +kernel) (pa_cons h (pa_cons (pe_glob (by rfl) T.k_BadPrices.g rfl) pa_nil))) (e_var 0 (pv 0) rfl))) e_str e_str)) (ss_cons (s_app 1 rfl (fun te h => ps_expr (pe_bm PySem.F.plainAttrs_list PySem.F.slot_list_append PySem.F.type_list_append mt_append (pv 1) (pa_cons h pa_nil))) (e_if (t_val (e_isd (leafT errs "BadProblem") ⟨rfl, rfl⟩ (by exact nn_BadProblem T) (by exact isc_BadProblem T) (.own _) (fun te h => pe_callB call_isD (by rfl) T.g_isinstance (by decide +kernel) (pa_cons h (pa_cons (pe_glob (by rfl) T.k_BadProblem.g rfl) pa_nil))) (e_var 0 (pv 0) rfl))) e_str e_str)) (ss_cons (s_app 1 rfl (fun te h => ps_expr (pe_bm PySem.F.plainAttrs_list PySem.F.slot_list_append PySem.F.type_list_append mt_append (pv 1) (pa_cons h pa_nil))) (e_if (t_val (e_isd (leafT errs "BadRow") ⟨rfl, rfl⟩ (by exact nn_BadRow T) (by exact isc_BadRow T) (.own _) (fun te h => pe_callB call_isD (by rfl) T.g_isinstance (by decide +kernel) (pa_cons h (pa_cons (pe_glob (by rfl) T.k_BadRow.g rfl) pa_nil))) (e_var 0 (pv 0) rfl))) e_str e_str)) (ss_cons (s_app 1 rfl (fun te h => ps_expr (pe_bm PySem.F.plainAttrs_list PySem.F.slot_list_append PySem.F.type_list_append mt_append (pv 1) (pa_cons h pa_nil))) (e_if (t_val (e_isd (leafT errs "BadRows") ⟨rfl, rfl⟩ (by exact nn_BadRows T) (by exact isc_BadRows T) (.own _) (fun te h => pe_callB call_isD (by rfl) T.g_isinstance (by decide +kernel) (pa_cons h (pa_cons (pe_glob (by rfl) T.k_BadRows.g rfl) pa_nil))) (e_var 0 (pv 0) rfl))) e_str e_str)) (ss_cons (s_app 1 rfl (fun te h => ps_expr (pe_bm PySem.F.plainAttrs_list PySem.F.slot_list_append PySem.F.type_list_append mt_append (pv 1) (pa_cons h pa_nil))) (e_if (t_val (e_isd (leafT errs "BadSpot") ⟨rfl, rfl⟩ (by exact nn_BadSpot T) (by exact isc_BadSpot T) (.own _) (fun te h => pe_callB call_isD (by rfl) T.g_isinstance (by decide +kernel) (pa_cons h (pa_cons (pe_glob (by rfl) T.k_BadSpot.g rfl) pa_nil))) (e_var 0 (pv 0) rfl))) e_str e_str)) (ss_cons (s_app 1 rfl (fun te h => ps_expr (pe_bm PySem.F.plainAttrs_list PySem.F.slot_list_append PySem.F.type_list_append mt_append (pv 1) (pa_cons h pa_nil))) (e_if (t_val (e_isd (leafT errs "BadStep") ⟨rfl, rfl⟩ (by exact nn_BadStep T) (by exact isc_BadStep T) (.own _) (fun te h => pe_callB call_isD (by rfl) T.g_isinstance (by decide +kernel) (pa_cons h (pa_cons (pe_glob (by rfl) T.k_BadStep.g rfl) pa_nil))) (e_var 0 (pv 0) rfl))) e_str e_str)) (ss_cons (s_app 1 rfl (fun te h => ps_expr (pe_bm PySem.F.plainAttrs_list PySem.F.slot_list_append PySem.F.type_list_append mt_append (pv 1) (pa_cons h pa_nil))) (e_if (t_val (e_isd (leafT errs "BadSum") ⟨rfl, rfl⟩ (by exact nn_BadSum T) (by exact isc_BadSum T) (.own _) (fun te h => pe_callB call_isD (by rfl) T.g_isinstance (by decide +kernel) (pa_cons h (pa_cons (pe_glob (by rfl) T.k_BadSum.g rfl) pa_nil))) (e_var 0 (pv 0) rfl))) e_str e_str)) (ss_cons (s_app 1 rfl (fun te h => ps_expr (pe_bm PySem.F.plainAttrs_list PySem.F.slot_list_append PySem.F.type_list_append mt_append (pv 1) (pa_cons h pa_nil))) (e_if (t_val (e_isd (leafT errs "BadTerms") ⟨rfl, rfl⟩ (by exact nn_BadTerms T) (by exact isc_BadTerms T) (.own _) (fun te h => pe_callB call_isD (by rfl) T.g_isinstance (by decide +kernel) (pa_cons h (pa_cons (pe_glob (by rfl) T.k_BadTerms.g rfl) pa_nil))) (e_var 0 (pv 0) rfl))) e_str e_str)) (ss_cons (s_app 1 rfl (fun te h => ps_expr (pe_bm PySem.F.plainAttrs_list PySem.F.slot_list_append PySem.F.type_list_append mt_append (pv 1) (pa_cons h pa_nil))) (e_if (t_val (e_isd (leafT errs "BadText") ⟨rfl, rfl⟩ (by exact nn_BadText T) (by exact isc_BadText T) (.own _) (fun te h => pe_callB call_isD (by rfl) T.g_isinstance (by decide +kernel) (pa_cons h (pa_cons (pe_glob (by rfl) T.k_BadText.g rfl) pa_nil))) (e_var 0 (pv 0) rfl))) e_str e_str)) (ss_cons (s_app 1 rfl (fun te h => ps_expr (pe_bm PySem.F.plainAttrs_list PySem.F.slot_list_append PySem.F.type_list_append mt_append (pv 1) (pa_cons h pa_nil))) (e_if (t_val (e_isd (leafT errs "BadTrail") ⟨rfl, rfl⟩ (by exact nn_BadTrail T) (by exact isc_BadTrail T) (.own _) (fun te h => pe_callB call_isD (by rfl) T.g_isinstance (by decide +kernel) (pa_cons h (pa_cons (pe_glob (by rfl) T.k_BadTrail.g rfl) pa_nil))) (e_var 0 (pv 0) rfl))) e_str e_str)) (ss_cons (s_app 1 rfl (fun te h => ps_expr (pe_bm PySem.F.plainAttrs_list PySem.F.slot_list_append PySem.F.type_list_append mt_append (pv 1) (pa_cons h pa_nil))) (e_if (t_val (e_isd (leafT errs "BadVariable") ⟨rfl, rfl⟩ (by exact nn_BadVariable T) (by exact isc_BadVariable T) (.own _) (fun te h => pe_callB call_isD (by rfl) T.g_isinstance (by decide +kernel) (pa_cons h (pa_cons (pe_glob (by rfl) T.k_BadVariable.g rfl) pa_nil))) (e_var 0 (pv 0) rfl))) e_str e_str)) (ss_cons (s_app 1 rfl (fun te h => ps_expr (pe_bm PySem.F.plainAttrs_list PySem.F.slot_list_append PySem.F.type_list_append mt_append (pv 1) (pa_cons h pa_nil))) (e_if (t_val (e_isd (leafT errs "BadWays") ⟨rfl, rfl⟩ (by exact nn_BadWays T) (by exact isc_BadWays T) (.own _) (fun te h => pe_callB call_isD (by rfl) T.g_isinstance (by decide +kernel) (pa_cons h (pa_cons (pe_glob (by rfl) T.k_BadWays.g rfl) pa_nil))) (e_var 0 (pv 0) rfl))) e_str e_str)) (ss_cons (s_app 1 rfl (fun te h => ps_expr (pe_bm PySem.F.plainAttrs_list PySem.F.slot_list_append PySem.F.type_list_append mt_append (pv 1) (pa_cons h pa_nil))) (e_if (t_val (e_isd (leafT errs "BadWitness") ⟨rfl, rfl⟩ (by exact nn_BadWitness T) (by exact isc_BadWitness T) (.own _) (fun te h => pe_callB call_isD (by rfl) T.g_isinstance (by decide +kernel) (pa_cons h (pa_cons (pe_glob (by rfl) T.k_BadWitness.g rfl) pa_nil))) (e_var 0 (pv 0) rfl))) e_str e_str)) (ss_cons (s_app 1 rfl (fun te h => ps_expr (pe_bm PySem.F.plainAttrs_list PySem.F.slot_list_append PySem.F.type_list_append mt_append (pv 1) (pa_cons h pa_nil))) (e_if (t_val (e_isd (leafT errs "Clashes") ⟨rfl, rfl⟩ (by exact nn_Clashes T) (by exact isc_Clashes T) (.own _) (fun te h => pe_callB call_isD (by rfl) T.g_isinstance (by decide +kernel) (pa_cons h (pa_cons (pe_glob (by rfl) T.k_Clashes.g rfl) pa_nil))) (e_var 0 (pv 0) rfl))) e_str e_str)) (ss_cons (s_app 1 rfl (fun te h => ps_expr (pe_bm PySem.F.plainAttrs_list PySem.F.slot_list_append PySem.F.type_list_append mt_append (pv 1) (pa_cons h pa_nil))) (e_if (t_val (e_isd (leafT errs "Closed") ⟨rfl, rfl⟩ (by exact nn_Closed T) (by exact isc_Closed T) (.own _) (fun te h => pe_callB call_isD (by rfl) T.g_isinstance (by decide +kernel) (pa_cons h (pa_cons (pe_glob (by rfl) T.k_Closed.g rfl) pa_nil))) (e_var 0 (pv 0) rfl))) e_str e_str)) (ss_cons (s_app 1 rfl (fun te h => ps_expr (pe_bm PySem.F.plainAttrs_list PySem.F.slot_list_append PySem.F.type_list_append mt_append (pv 1) (pa_cons h pa_nil))) (e_if (t_val (e_isd (leafT errs "IsAssumed") ⟨rfl, rfl⟩ (by exact nn_IsAssumed T) (by exact isc_IsAssumed T) (.own _) (fun te h => pe_callB call_isD (by rfl) T.g_isinstance (by decide +kernel) (pa_cons h (pa_cons (pe_glob (by rfl) T.k_IsAssumed.g rfl) pa_nil))) (e_var 0 (pv 0) rfl))) e_str e_str)) (ss_cons (s_app 1 rfl (fun te h => ps_expr (pe_bm PySem.F.plainAttrs_list PySem.F.slot_list_append PySem.F.type_list_append mt_append (pv 1) (pa_cons h pa_nil))) (e_if (t_val (e_isd (leafT errs "IsReason") ⟨rfl, rfl⟩ (by exact nn_IsReason T) (by exact isc_IsReason T) (.own _) (fun te h => pe_callB call_isD (by rfl) T.g_isinstance (by decide +kernel) (pa_cons h (pa_cons (pe_glob (by rfl) T.k_IsReason.g rfl) pa_nil))) (e_var 0 (pv 0) rfl))) e_str e_str)) (ss_one (s_ret (nE (n_lc rfl (tg_name 2 rfl) rfl rfl (fun wi hi => pe_lc (own := [("each", 2)]) rfl sc.nd hi (blkOk_by (N := ["caught", "found", "each"]) (sc := defScope (top 68)) (by decide +kernel)) (fun _ _ _ _ _ => (pg_name (i := 2) sc.nd rfl (by first | exact Or.inl rfl | exact Or.inr rfl))) (fun _ _ _ _ _ => (tOne_ok (t_cmp r_ne (op_neX hr.units) (bE (e_var 2 (pv 2) rfl)) (bE e_str) (nomark _)))) (fun _ _ _ _ _ => (e_var 2 (pv 2) rfl))) (b_var 1 (pv 1)))))))))))))))))))))))))))))))
theorem b__law_kinds_b (T : Txt K mg A) : Binds K A.d__law_kinds_b ["caught"] [] := T.f__law_kinds_b.binds (ps := ["caught"]) fun _ _ _ _ _ _ us hl => match us, hl with | [_], _ => rfl
theorem sc__law_kinds_c : FnScope ["caught", "found", "each"] ["caught"] (defScope (top 69)) := ⟨rfl, rfl, rfl, by decide +kernel, rfl, by decide +kernel, by decide +kernel⟩
theorem ok__law_kinds_c (T : Txt K mg A) : FnOk P w K mg base (L2.CX P w) 1 A.a__law_kinds_c A.d__law_kinds_c ["caught"] (spP K mg 1 G__law_kinds_c) := by
  refine okP [1] (g := g__law_kinds_c) T.f__law_kinds_c sc__law_kinds_c rfl (by decide) (fun cdv A outer s H E l T0 hr => ?_) (fun _ _ => rfl)
  have sc := sc__law_kinds_c
  exact (ss_cons (s_asgO 1 rfl (fun te h => ps_set (i := 1) sc.nd rfl (by first | exact Or.inl rfl | exact Or.inr rfl) h) (n_lst a_nil)) (ss_cons (s_app 1 rfl (fun te h => ps_expr (pe_bm PySem.F.plainAttrs_list PySem.F.slot_list_append PySem.F.type_list_append mt_append (pv 1) (pa_cons h pa_nil))) (e_if (t_val (e_isd (leafT errs "NoClash") ⟨rfl, rfl⟩ (by exact nn_NoClash T) (by exact isc_NoClash T) (.own _) (fun te h => pe_callB call_isD (by rfl) T.g_isinstance (by decide +kernel) (pa_cons h (pa_cons (pe_glob (by rfl) T.k_NoClash.g rfl) pa_nil))) (e_var 0 (pv 0) rfl))) e_str e_str)) (ss_cons (s_app 1 rfl (fun te h => ps_expr (pe_bm PySem.F.plainAttrs_list PySem.F.slot_list_append PySem.F.type_list_append mt_append (pv 1) (pa_cons h pa_nil))) (e_if (t_val (e_isd (leafT errs "NoLevel") ⟨rfl, rfl⟩ (by exact nn_NoLevel T) (by exact isc_NoLevel T) (.own _) (fun te h => pe_callB call_isD (by rfl) T.g_isinstance (by decide +kernel) (pa_cons h (pa_cons (pe_glob (by rfl) T.k_NoLevel.g rfl) pa_nil))) (e_var 0 (pv 0) rfl))) e_str e_str)) (ss_cons (s_app 1 rfl (fun te h => ps_expr (pe_bm PySem.F.plainAttrs_list PySem.F.slot_list_append PySem.F.type_list_append mt_append (pv 1) (pa_cons h pa_nil))) (e_if (t_val (e_isd (leafT errs "NotBySums") ⟨rfl, rfl⟩ (by exact nn_NotBySums T) (by exact isc_NotBySums T) (.own _) (fun te h => pe_callB call_isD (by rfl) T.g_isinstance (by decide +kernel) (pa_cons h (pa_cons (pe_glob (by rfl) T.k_NotBySums.g rfl) pa_nil))) (e_var 0 (pv 0) rfl))) e_str e_str)) (ss_cons (s_app 1 rfl (fun te h => ps_expr (pe_bm PySem.F.plainAttrs_list PySem.F.slot_list_append PySem.F.type_list_append mt_append (pv 1) (pa_cons h pa_nil))) (e_if (t_val (e_isd (leafT errs "NotClosed") ⟨rfl, rfl⟩ (by exact nn_NotClosed T) (by exact isc_NotClosed T) (.own _) (fun te h => pe_callB call_isD (by rfl) T.g_isinstance (by decide +kernel) (pa_cons h (pa_cons (pe_glob (by rfl) T.k_NotClosed.g rfl) pa_nil))) (e_var 0 (pv 0) rfl))) e_str e_str)) (ss_cons (s_app 1 rfl (fun te h => ps_expr (pe_bm PySem.F.plainAttrs_list PySem.F.slot_list_append PySem.F.type_list_append mt_append (pv 1) (pa_cons h pa_nil))) (e_if (t_val (e_isd (leafT errs "NotEliminated") ⟨rfl, rfl⟩ (by exact nn_NotEliminated T) (by exact isc_NotEliminated T) (.own _) (fun te h => pe_callB call_isD (by rfl) T.g_isinstance (by decide +kernel) (pa_cons h (pa_cons (pe_glob (by rfl) T.k_NotEliminated.g rfl) pa_nil))) (e_var 0 (pv 0) rfl))) e_str e_str)) (ss_cons (s_app 1 rfl (fun te h => ps_expr (pe_bm PySem.F.plainAttrs_list PySem.F.slot_list_append PySem.F.type_list_append mt_append (pv 1) (pa_cons h pa_nil))) (e_if (t_val (e_isd (leafT errs "NotEqual") ⟨rfl, rfl⟩ (by exact nn_NotEqual T) (by exact isc_NotEqual T) (.own _) (fun te h => pe_callB call_isD (by rfl) T.g_isinstance (by decide +kernel) (pa_cons h (pa_cons (pe_glob (by rfl) T.k_NotEqual.g rfl) pa_nil))) (e_var 0 (pv 0) rfl))) e_str e_str)) (ss_cons (s_app 1 rfl (fun te h => ps_expr (pe_bm PySem.F.plainAttrs_list PySem.F.slot_list_append PySem.F.type_list_append mt_append (pv 1) (pa_cons h pa_nil))) (e_if (t_val (e_isd (leafT errs "NotFree") ⟨rfl, rfl⟩ (by exact nn_NotFree T) (by exact isc_NotFree T) (.own _) (fun te h => pe_callB call_isD (by rfl) T.g_isinstance (by decide +kernel) (pa_cons h (pa_cons (pe_glob (by rfl) T.k_NotFree.g rfl) pa_nil))) (e_var 0 (pv 0) rfl))) e_str e_str)) (ss_cons (s_app 1 rfl (fun te h => ps_expr (pe_bm PySem.F.plainAttrs_list PySem.F.slot_list_append PySem.F.type_list_append mt_append (pv 1) (pa_cons h pa_nil))) (e_if (t_val (e_isd (leafT errs "NotLeaning") ⟨rfl, rfl⟩ (by exact nn_NotLeaning T) (by exact isc_NotLeaning T) (.own _) (fun te h => pe_callB call_isD (by rfl) T.g_isinstance (by decide +kernel) (pa_cons h (pa_cons (pe_glob (by rfl) T.k_NotLeaning.g rfl) pa_nil))) (e_var 0 (pv 0) rfl))) e_str e_str)) (ss_cons (s_app 1 rfl (fun te h => ps_expr (pe_bm PySem.F.plainAttrs_list PySem.F.slot_list_append PySem.F.type_list_append mt_append (pv 1) (pa_cons h pa_nil))) (e_if (t_val (e_isd (leafT errs "NotShort") ⟨rfl, rfl⟩ (by exact nn_NotShort T) (by exact isc_NotShort T) (.own _) (fun te h => pe_callB call_isD (by rfl) T.g_isinstance (by decide +kernel) (pa_cons h (pa_cons (pe_glob (by rfl) T.k_NotShort.g rfl) pa_nil))) (e_var 0 (pv 0) rfl))) e_str e_str)) (ss_cons (s_app 1 rfl (fun te h => ps_expr (pe_bm PySem.F.plainAttrs_list PySem.F.slot_list_append PySem.F.type_list_append mt_append (pv 1) (pa_cons h pa_nil))) (e_if (t_val (e_isd (leafT errs "NotSound") ⟨rfl, rfl⟩ (by exact nn_NotSound T) (by exact isc_NotSound T) (.own _) (fun te h => pe_callB call_isD (by rfl) T.g_isinstance (by decide +kernel) (pa_cons h (pa_cons (pe_glob (by rfl) T.k_NotSound.g rfl) pa_nil))) (e_var 0 (pv 0) rfl))) e_str e_str)) (ss_cons (s_app 1 rfl (fun te h => ps_expr (pe_bm PySem.F.plainAttrs_list PySem.F.slot_list_append PySem.F.type_list_append mt_append (pv 1) (pa_cons h pa_nil))) (e_if (t_val (e_isd (leafT errs "NotWhole") ⟨rfl, rfl⟩ (by exact nn_NotWhole T) (by exact isc_NotWhole T) (.own _) (fun te h => pe_callB call_isD (by rfl) T.g_isinstance (by decide +kernel) (pa_cons h (pa_cons (pe_glob (by rfl) T.k_NotWhole.g rfl) pa_nil))) (e_var 0 (pv 0) rfl))) e_str e_str)) (ss_cons (s_app 1 rfl (fun te h => ps_expr (pe_bm PySem.F.plainAttrs_list PySem.F.slot_list_append PySem.F.type_list_append mt_append (pv 1) (pa_cons h pa_nil))) (e_if (t_val (e_isd (leafT errs "TooMany") ⟨rfl, rfl⟩ (by exact nn_TooMany T) (by exact isc_TooMany T) (.own _) (fun te h => pe_callB call_isD (by rfl) T.g_isinstance (by decide +kernel) (pa_cons h (pa_cons (pe_glob (by rfl) T.k_TooMany.g rfl) pa_nil))) (e_var 0 (pv 0) rfl))) e_str e_str)) (ss_one (s_ret (nE (n_lc rfl (tg_name 2 rfl) rfl rfl (fun wi hi => pe_lc (own := [("each", 2)]) rfl sc.nd hi (blkOk_by (N := ["caught", "found", "each"]) (sc := defScope (top 69)) (by decide +kernel)) (fun _ _ _ _ _ => (pg_name (i := 2) sc.nd rfl (by first | exact Or.inl rfl | exact Or.inr rfl))) (fun _ _ _ _ _ => (tOne_ok (t_cmp r_ne (op_neX hr.units) (bE (e_var 2 (pv 2) rfl)) (bE e_str) (nomark _)))) (fun _ _ _ _ _ => (e_var 2 (pv 2) rfl))) (b_var 1 (pv 1)))))))))))))))))))
theorem b__law_kinds_c (T : Txt K mg A) : Binds K A.d__law_kinds_c ["caught"] [] := T.f__law_kinds_c.binds (ps := ["caught"]) fun _ _ _ _ _ _ us hl => match us, hl with | [_], _ => rfl
theorem sc__law_plain_a : FnScope ["text_here", "found"] ["text_here"] (defScope (top 70)) := ⟨rfl, rfl, rfl, by decide +kernel, rfl, by decide +kernel, by decide +kernel⟩
theorem ok__law_plain_a (T : Txt K mg A) : FnOk P w K mg base (L2.CX P w) 1 A.a__law_plain_a A.d__law_plain_a ["text_here"] (spP K mg 1 G__law_plain_a) := by
  refine okP [1] (g := g__law_plain_a) T.f__law_plain_a sc__law_plain_a rfl (by decide) (fun cdv A outer s H E l T0 hr => ?_) (fun _ _ => rfl)
  have sc := sc__law_plain_a
  exact (ss_cons (s_asgO 1 rfl (fun te h => ps_set (i := 1) sc.nd rfl (by first | exact Or.inl rfl | exact Or.inr rfl) h) (n_lst a_nil)) (ss_cons (s_app 1 rfl (fun te h => ps_expr (pe_bm PySem.F.plainAttrs_list PySem.F.slot_list_append PySem.F.type_list_append mt_append (pv 1) (pa_cons h pa_nil))) (e_tup (a_cons e_str (a_cons (e_mkE T.k_BadBound.g (fun te h => SkE.pmk_own1 PySem.F.excBase_ValueError T.k_BadBound.x T.k_BadBound.g T.k_BadBound.k (raises_own T.k_BadBound.b T.k_BadBound.t) (by exact rfl) h) (e_var 0 (pv 0) rfl)) a_nil)))) (ss_cons (s_app 1 rfl (fun te h => ps_expr (pe_bm PySem.F.plainAttrs_list PySem.F.slot_list_append PySem.F.type_list_append mt_append (pv 1) (pa_cons h pa_nil))) (e_tup (a_cons e_str (a_cons (e_mkE T.k_BadChoices.g (fun te h => SkE.pmk_own1 PySem.F.excBase_ValueError T.k_BadChoices.x T.k_BadChoices.g T.k_BadChoices.k (raises_own T.k_BadChoices.b T.k_BadChoices.t) (by exact rfl) h) (e_var 0 (pv 0) rfl)) a_nil)))) (ss_cons (s_app 1 rfl (fun te h => ps_expr (pe_bm PySem.F.plainAttrs_list PySem.F.slot_list_append PySem.F.type_list_append mt_append (pv 1) (pa_cons h pa_nil))) (e_tup (a_cons e_str (a_cons (e_mkE T.k_BadCount.g (fun te h => SkE.pmk_own1 PySem.F.excBase_ValueError T.k_BadCount.x T.k_BadCount.g T.k_BadCount.k (raises_own T.k_BadCount.b T.k_BadCount.t) (by exact rfl) h) (e_var 0 (pv 0) rfl)) a_nil)))) (ss_cons (s_app 1 rfl (fun te h => ps_expr (pe_bm PySem.F.plainAttrs_list PySem.F.slot_list_append PySem.F.type_list_append mt_append (pv 1) (pa_cons h pa_nil))) (e_tup (a_cons e_str (a_cons (e_mkE T.k_BadExchange.g (fun te h => SkE.pmk_own1 PySem.F.excBase_ValueError T.k_BadExchange.x T.k_BadExchange.g T.k_BadExchange.k (raises_own T.k_BadExchange.b T.k_BadExchange.t) (by exact rfl) h) (e_var 0 (pv 0) rfl)) a_nil)))) (ss_cons (s_app 1 rfl (fun te h => ps_expr (pe_bm PySem.F.plainAttrs_list PySem.F.slot_list_append PySem.F.type_list_append mt_append (pv 1) (pa_cons h pa_nil))) (e_tup (a_cons e_str (a_cons (e_mkE T.k_BadExchanges.g (fun te h => SkE.pmk_own1 PySem.F.excBase_ValueError T.k_BadExchanges.x T.k_BadExchanges.g T.k_BadExchanges.k (raises_own T.k_BadExchanges.b T.k_BadExchanges.t) (by exact rfl) h) (e_var 0 (pv 0) rfl)) a_nil)))) (ss_cons (s_app 1 rfl (fun te h => ps_expr (pe_bm PySem.F.plainAttrs_list PySem.F.slot_list_append PySem.F.type_list_append mt_append (pv 1) (pa_cons h pa_nil))) (e_tup (a_cons e_str (a_cons (e_mkE T.k_BadFilling.g (fun te h => SkE.pmk_own1 PySem.F.excBase_ValueError T.k_BadFilling.x T.k_BadFilling.g T.k_BadFilling.k (raises_own T.k_BadFilling.b T.k_BadFilling.t) (by exact rfl) h) (e_var 0 (pv 0) rfl)) a_nil)))) (ss_cons (s_app 1 rfl (fun te h => ps_expr (pe_bm PySem.F.plainAttrs_list PySem.F.slot_list_append PySem.F.type_list_append mt_append (pv 1) (pa_cons h pa_nil))) (e_tup (a_cons e_str (a_cons (e_mkE T.k_BadFillings.g (fun te h => SkE.pmk_own1 PySem.F.excBase_ValueError T.k_BadFillings.x T.k_BadFillings.g T.k_BadFillings.k (raises_own T.k_BadFillings.b T.k_BadFillings.t) (by exact rfl) h) (e_var 0 (pv 0) rfl)) a_nil)))) (ss_cons (s_app 1 rfl (fun te h => ps_expr (pe_bm PySem.F.plainAttrs_list PySem.F.slot_list_append PySem.F.type_list_append mt_append (pv 1) (pa_cons h pa_nil))) (e_tup (a_cons e_str (a_cons (e_mkE T.k_BadGoal.g (fun te h => SkE.pmk_own1 PySem.F.excBase_ValueError T.k_BadGoal.x T.k_BadGoal.g T.k_BadGoal.k (raises_own T.k_BadGoal.b T.k_BadGoal.t) (by exact rfl) h) (e_var 0 (pv 0) rfl)) a_nil)))) (ss_cons (s_app 1 rfl (fun te h => ps_expr (pe_bm PySem.F.plainAttrs_list PySem.F.slot_list_append PySem.F.type_list_append mt_append (pv 1) (pa_cons h pa_nil))) (e_tup (a_cons e_str (a_cons (e_mkE T.k_BadGroups.g (fun te h => SkE.pmk_own1 PySem.F.excBase_ValueError T.k_BadGroups.x T.k_BadGroups.g T.k_BadGroups.k (raises_own T.k_BadGroups.b T.k_BadGroups.t) (by exact rfl) h) (e_var 0 (pv 0) rfl)) a_nil)))) (ss_cons (s_app 1 rfl (fun te h => ps_expr (pe_bm PySem.F.plainAttrs_list PySem.F.slot_list_append PySem.F.type_list_append mt_append (pv 1) (pa_cons h pa_nil))) (e_tup (a_cons e_str (a_cons (e_mkE T.k_BadGuide.g (fun te h => SkE.pmk_own1 PySem.F.excBase_ValueError T.k_BadGuide.x T.k_BadGuide.g T.k_BadGuide.k (raises_own T.k_BadGuide.b T.k_BadGuide.t) (by exact rfl) h) (e_var 0 (pv 0) rfl)) a_nil)))) (ss_cons (s_app 1 rfl (fun te h => ps_expr (pe_bm PySem.F.plainAttrs_list PySem.F.slot_list_append PySem.F.type_list_append mt_append (pv 1) (pa_cons h pa_nil))) (e_tup (a_cons e_str (a_cons (e_mkE T.k_BadHands.g (fun te h => SkE.pmk_own1 PySem.F.excBase_ValueError T.k_BadHands.x T.k_BadHands.g T.k_BadHands.k (raises_own T.k_BadHands.b T.k_BadHands.t) (by exact rfl) h) (e_var 0 (pv 0) rfl)) a_nil)))) (ss_cons (s_app 1 rfl (fun te h => ps_expr (pe_bm PySem.F.plainAttrs_list PySem.F.slot_list_append PySem.F.type_list_append mt_append (pv 1) (pa_cons h pa_nil))) (e_tup (a_cons e_str (a_cons (e_mkE T.k_BadId.g (fun te h => SkE.pmk_own1 PySem.F.excBase_ValueError T.k_BadId.x T.k_BadId.g T.k_BadId.k (raises_own T.k_BadId.b T.k_BadId.t) (by exact rfl) h) (e_var 0 (pv 0) rfl)) a_nil)))) (ss_cons (s_app 1 rfl (fun te h => ps_expr (pe_bm PySem.F.plainAttrs_list PySem.F.slot_list_append PySem.F.type_list_append mt_append (pv 1) (pa_cons h pa_nil))) (e_tup (a_cons e_str (a_cons (e_mkE T.k_BadJudge.g (fun te h => SkE.pmk_own1 PySem.F.excBase_ValueError T.k_BadJudge.x T.k_BadJudge.g T.k_BadJudge.k (raises_own T.k_BadJudge.b T.k_BadJudge.t) (by exact rfl) h) (e_var 0 (pv 0) rfl)) a_nil)))) (ss_cons (s_app 1 rfl (fun te h => ps_expr (pe_bm PySem.F.plainAttrs_list PySem.F.slot_list_append PySem.F.type_list_append mt_append (pv 1) (pa_cons h pa_nil))) (e_tup (a_cons e_str (a_cons (e_mkE T.k_BadLeast.g (fun te h => SkE.pmk_own1 PySem.F.excBase_ValueError T.k_BadLeast.x T.k_BadLeast.g T.k_BadLeast.k (raises_own T.k_BadLeast.b T.k_BadLeast.t) (by exact rfl) h) (e_var 0 (pv 0) rfl)) a_nil)))) (ss_cons (s_app 1 rfl (fun te h => ps_expr (pe_bm PySem.F.plainAttrs_list PySem.F.slot_list_append PySem.F.type_list_append mt_append (pv 1) (pa_cons h pa_nil))) (e_tup (a_cons e_str (a_cons (e_mkE T.k_BadLevel.g (fun te h => SkE.pmk_own1 PySem.F.excBase_ValueError T.k_BadLevel.x T.k_BadLevel.g T.k_BadLevel.k (raises_own T.k_BadLevel.b T.k_BadLevel.t) (by exact rfl) h) (e_var 0 (pv 0) rfl)) a_nil)))) (ss_cons (s_app 1 rfl (fun te h => ps_expr (pe_bm PySem.F.plainAttrs_list PySem.F.slot_list_append PySem.F.type_list_append mt_append (pv 1) (pa_cons h pa_nil))) (e_tup (a_cons e_str (a_cons (e_mkE T.k_BadLiteral.g (fun te h => SkE.pmk_own1 PySem.F.excBase_ValueError T.k_BadLiteral.x T.k_BadLiteral.g T.k_BadLiteral.k (raises_own T.k_BadLiteral.b T.k_BadLiteral.t) (by exact rfl) h) (e_var 0 (pv 0) rfl)) a_nil)))) (ss_cons (s_app 1 rfl (fun te h => ps_expr (pe_bm PySem.F.plainAttrs_list PySem.F.slot_list_append PySem.F.type_list_append mt_append (pv 1) (pa_cons h pa_nil))) (e_tup (a_cons e_str (a_cons (e_mkE T.k_BadLiterals.g (fun te h => SkE.pmk_own1 PySem.F.excBase_ValueError T.k_BadLiterals.x T.k_BadLiterals.g T.k_BadLiterals.k (raises_own T.k_BadLiterals.b T.k_BadLiterals.t) (by exact rfl) h) (e_var 0 (pv 0) rfl)) a_nil)))) (ss_cons (s_app 1 rfl (fun te h => ps_expr (pe_bm PySem.F.plainAttrs_list PySem.F.slot_list_append PySem.F.type_list_append mt_append (pv 1) (pa_cons h pa_nil))) (e_tup (a_cons e_str (a_cons (e_mkE T.k_BadLoads.g (fun te h => SkE.pmk_own1 PySem.F.excBase_ValueError T.k_BadLoads.x T.k_BadLoads.g T.k_BadLoads.k (raises_own T.k_BadLoads.b T.k_BadLoads.t) (by exact rfl) h) (e_var 0 (pv 0) rfl)) a_nil)))) (ss_cons (s_app 1 rfl (fun te h => ps_expr (pe_bm PySem.F.plainAttrs_list PySem.F.slot_list_append PySem.F.type_list_append mt_append (pv 1) (pa_cons h pa_nil))) (e_tup (a_cons e_str (a_cons (e_mkE T.k_BadLot.g (fun te h => SkE.pmk_own1 PySem.F.excBase_ValueError T.k_BadLot.x T.k_BadLot.g T.k_BadLot.k (raises_own T.k_BadLot.b T.k_BadLot.t) (by exact rfl) h) (e_var 0 (pv 0) rfl)) a_nil)))) (ss_cons (s_app 1 rfl (fun te h => ps_expr (pe_bm PySem.F.plainAttrs_list PySem.F.slot_list_append PySem.F.type_list_append mt_append (pv 1) (pa_cons h pa_nil))) (e_tup (a_cons e_str (a_cons (e_mkE T.k_BadMany.g (fun te h => SkE.pmk_own1 PySem.F.excBase_ValueError T.k_BadMany.x T.k_BadMany.g T.k_BadMany.k (raises_own T.k_BadMany.b T.k_BadMany.t) (by exact rfl) h) (e_var 0 (pv 0) rfl)) a_nil)))) (ss_cons (s_app 1 rfl (fun te h => ps_expr (pe_bm PySem.F.plainAttrs_list PySem.F.slot_list_append PySem.F.type_list_append mt_append (pv 1) (pa_cons h pa_nil))) (e_tup (a_cons e_str (a_cons (e_mkE T.k_BadMost.g (fun te h => SkE.pmk_own1 PySem.F.excBase_ValueError T.k_BadMost.x T.k_BadMost.g T.k_BadMost.k (raises_own T.k_BadMost.b T.k_BadMost.t) (by exact rfl) h) (e_var 0 (pv 0) rfl)) a_nil)))) (ss_cons (s_app 1 rfl (fun te h => ps_expr (pe_bm PySem.F.plainAttrs_list PySem.F.slot_list_append PySem.F.type_list_append mt_append (pv 1) (pa_cons h pa_nil))) (e_tup (a_cons e_str (a_cons (e_mkE T.k_BadNamed.g (fun te h => SkE.pmk_own1 PySem.F.excBase_ValueError T.k_BadNamed.x T.k_BadNamed.g T.k_BadNamed.k (raises_own T.k_BadNamed.b T.k_BadNamed.t) (by exact rfl) h) (e_var 0 (pv 0) rfl)) a_nil)))) (ss_cons (s_app 1 rfl (fun te h => ps_expr (pe_bm PySem.F.plainAttrs_list PySem.F.slot_list_append PySem.F.type_list_append mt_append (pv 1) (pa_cons h pa_nil))) (e_tup (a_cons e_str (a_cons (e_mkE T.k_BadNumber.g (fun te h => SkE.pmk_own1 PySem.F.excBase_ValueError T.k_BadNumber.x T.k_BadNumber.g T.k_BadNumber.k (raises_own T.k_BadNumber.b T.k_BadNumber.t) (by exact rfl) h) (e_var 0 (pv 0) rfl)) a_nil)))) (ss_cons (s_app 1 rfl (fun te h => ps_expr (pe_bm PySem.F.plainAttrs_list PySem.F.slot_list_append PySem.F.type_list_append mt_append (pv 1) (pa_cons h pa_nil))) (e_tup (a_cons e_str (a_cons (e_mkE T.k_BadOrder.g (fun te h => SkE.pmk_own1 PySem.F.excBase_ValueError T.k_BadOrder.x T.k_BadOrder.g T.k_BadOrder.k (raises_own T.k_BadOrder.b T.k_BadOrder.t) (by exact rfl) h) (e_var 0 (pv 0) rfl)) a_nil)))) (ss_one (s_retO 1 (pv 1) rfl)))))))))))))))))))))))))))
theorem b__law_plain_a (T : Txt K mg A) : Binds K A.d__law_plain_a ["text_here"] [] := T.f__law_plain_a.binds (ps := ["text_here"]) fun _ _ _ _ _ _ us hl => match us, hl with | [_], _ => rfl
theorem sc__law_plain_b : FnScope ["text_here", "found"] ["text_here"] (defScope (top 71)) := ⟨rfl, rfl, rfl, by decide +kernel, rfl, by decide +kernel, by decide +kernel⟩
theorem ok__law_plain_b (T : Txt K mg A) : FnOk P w K mg base (L2.CX P w) 1 A.a__law_plain_b A.d__law_plain_b ["text_here"] (spP K mg 1 G__law_plain_b) := by
  refine okP [1] (g := g__law_plain_b) T.f__law_plain_b sc__law_plain_b rfl (by decide) (fun cdv A outer s H E l T0 hr => ?_) (fun _ _ => rfl)
  have sc := sc__law_plain_b
  exact (ss_cons (s_asgO 1 rfl (fun te h => ps_set (i := 1) sc.nd rfl (by first | exact Or.inl rfl | exact Or.inr rfl) h) (n_lst a_nil)) (ss_cons (s_app 1 rfl (fun te h => ps_expr (pe_bm PySem.F.plainAttrs_list PySem.F.slot_list_append PySem.F.type_list_append mt_append (pv 1) (pa_cons h pa_nil))) (e_tup (a_cons e_str (a_cons (e_mkE T.k_BadOther.g (fun te h => SkE.pmk_own1 PySem.F.excBase_ValueError T.k_BadOther.x T.k_BadOther.g T.k_BadOther.k (raises_own T.k_BadOther.b T.k_BadOther.t) (by exact rfl) h) (e_var 0 (pv 0) rfl)) a_nil)))) (ss_cons (s_app 1 rfl (fun te h => ps_expr (pe_bm PySem.F.plainAttrs_list PySem.F.slot_list_append PySem.F.type_list_append mt_append (pv 1) (pa_cons h pa_nil))) (e_tup (a_cons e_str (a_cons (e_mkE T.k_BadPicks.g (fun te h => SkE.pmk_own1 PySem.F.excBase_ValueError T.k_BadPicks.x T.k_BadPicks.g T.k_BadPicks.k (raises_own T.k_BadPicks.b T.k_BadPicks.t) (by exact rfl) h) (e_var 0 (pv 0) rfl)) a_nil)))) (ss_cons (s_app 1 rfl (fun te h => ps_expr (pe_bm PySem.F.plainAttrs_list PySem.F.slot_list_append PySem.F.type_list_append mt_append (pv 1) (pa_cons h pa_nil))) (e_tup (a_cons e_str (a_cons (e_mkE T.k_BadPlan.g (fun te h => SkE.pmk_own1 PySem.F.excBase_ValueError T.k_BadPlan.x T.k_BadPlan.g T.k_BadPlan.k (raises_own T.k_BadPlan.b T.k_BadPlan.t) (by exact rfl) h) (e_var 0 (pv 0) rfl)) a_nil)))) (ss_cons (s_app 1 rfl (fun te h => ps_expr (pe_bm PySem.F.plainAttrs_list PySem.F.slot_list_append PySem.F.type_list_append mt_append (pv 1) (pa_cons h pa_nil))) (e_tup (a_cons e_str (a_cons (e_mkE T.k_BadPrice.g (fun te h => SkE.pmk_own1 PySem.F.excBase_ValueError T.k_BadPrice.x T.k_BadPrice.g T.k_BadPrice.k (raises_own T.k_BadPrice.b T.k_BadPrice.t) (by exact rfl) h) (e_var 0 (pv 0) rfl)) a_nil)))) (ss_cons (s_app 1 rfl (fun te h => ps_expr (pe_bm PySem.F.plainAttrs_list PySem.F.slot_list_append PySem.F.type_list_append mt_append (pv 1) (pa_cons h pa_nil))) (e_tup (a_cons e_str (a_cons (e_mkE T.k_BadPrices.g (fun te h => SkE.pmk_own1 PySem.F.excBase_ValueError T.k_BadPrices.x T.k_BadPrices.g T.k_BadPrices.k (raises_own T.k_BadPrices.b T.k_BadPrices.t) (by exact rfl) h) (e_var 0 (pv 0) rfl)) a_nil)))) (ss_cons (s_app 1 rfl (fun te h => ps_expr (pe_bm PySem.F.plainAttrs_list PySem.F.slot_list_append PySem.F.type_list_append mt_append (pv 1) (pa_cons h pa_nil))) (e_tup (a_cons e_str (a_cons (e_mkE T.k_BadProblem.g (fun te h => SkE.pmk_own1 PySem.F.excBase_ValueError T.k_BadProblem.x T.k_BadProblem.g T.k_BadProblem.k (raises_own T.k_BadProblem.b T.k_BadProblem.t) (by exact rfl) h) (e_var 0 (pv 0) rfl)) a_nil)))) (ss_cons (s_app 1 rfl (fun te h => ps_expr (pe_bm PySem.F.plainAttrs_list PySem.F.slot_list_append PySem.F.type_list_append mt_append (pv 1) (pa_cons h pa_nil))) (e_tup (a_cons e_str (a_cons (e_mkE T.k_BadRow.g (fun te h => SkE.pmk_own1 PySem.F.excBase_ValueError T.k_BadRow.x T.k_BadRow.g T.k_BadRow.k (raises_own T.k_BadRow.b T.k_BadRow.t) (by exact rfl) h) (e_var 0 (pv 0) rfl)) a_nil)))) (ss_cons (s_app 1 rfl (fun te h => ps_expr (pe_bm PySem.F.plainAttrs_list PySem.F.slot_list_append PySem.F.type_list_append mt_append (pv 1) (pa_cons h pa_nil))) (e_tup (a_cons e_str (a_cons (e_mkE T.k_BadRows.g (fun te h => SkE.pmk_own1 PySem.F.excBase_ValueError T.k_BadRows.x T.k_BadRows.g T.k_BadRows.k (raises_own T.k_BadRows.b T.k_BadRows.t) (by exact rfl) h) (e_var 0 (pv 0) rfl)) a_nil)))) (ss_cons (s_app 1 rfl (fun te h => ps_expr (pe_bm PySem.F.plainAttrs_list PySem.F.slot_list_append PySem.F.type_list_append mt_append (pv 1) (pa_cons h pa_nil))) (e_tup (a_cons e_str (a_cons (e_mkE T.k_BadSpot.g (fun te h => SkE.pmk_own1 PySem.F.excBase_ValueError T.k_BadSpot.x T.k_BadSpot.g T.k_BadSpot.k (raises_own T.k_BadSpot.b T.k_BadSpot.t) (by exact rfl) h) (e_var 0 (pv 0) rfl)) a_nil)))) (ss_cons (s_app 1 rfl (fun te h => ps_expr (pe_bm PySem.F.plainAttrs_list PySem.F.slot_list_append PySem.F.type_list_append mt_append (pv 1) (pa_cons h pa_nil))) (e_tup (a_cons e_str (a_cons (e_mkE T.k_BadStep.g (fun te h => SkE.pmk_own1 PySem.F.excBase_ValueError T.k_BadStep.x T.k_BadStep.g T.k_BadStep.k (raises_own T.k_BadStep.b T.k_BadStep.t) (by exact rfl) h) (e_var 0 (pv 0) rfl)) a_nil)))) (ss_cons (s_app 1 rfl (fun te h => ps_expr (pe_bm PySem.F.plainAttrs_list PySem.F.slot_list_append PySem.F.type_list_append mt_append (pv 1) (pa_cons h pa_nil))) (e_tup (a_cons e_str (a_cons (e_mkE T.k_BadSum.g (fun te h => SkE.pmk_own1 PySem.F.excBase_ValueError T.k_BadSum.x T.k_BadSum.g T.k_BadSum.k (raises_own T.k_BadSum.b T.k_BadSum.t) (by exact rfl) h) (e_var 0 (pv 0) rfl)) a_nil)))) (ss_cons (s_app 1 rfl (fun te h => ps_expr (pe_bm PySem.F.plainAttrs_list PySem.F.slot_list_append PySem.F.type_list_append mt_append (pv 1) (pa_cons h pa_nil))) (e_tup (a_cons e_str (a_cons (e_mkE T.k_BadTerms.g (fun te h => SkE.pmk_own1 PySem.F.excBase_ValueError T.k_BadTerms.x T.k_BadTerms.g T.k_BadTerms.k (raises_own T.k_BadTerms.b T.k_BadTerms.t) (by exact rfl) h) (e_var 0 (pv 0) rfl)) a_nil)))) (ss_cons (s_app 1 rfl (fun te h => ps_expr (pe_bm PySem.F.plainAttrs_list PySem.F.slot_list_append PySem.F.type_list_append mt_append (pv 1) (pa_cons h pa_nil))) (e_tup (a_cons e_str (a_cons (e_mkE T.k_BadTrail.g (fun te h => SkE.pmk_own1 PySem.F.excBase_ValueError T.k_BadTrail.x T.k_BadTrail.g T.k_BadTrail.k (raises_own T.k_BadTrail.b T.k_BadTrail.t) (by exact rfl) h) (e_var 0 (pv 0) rfl)) a_nil)))) (ss_cons (s_app 1 rfl (fun te h => ps_expr (pe_bm PySem.F.plainAttrs_list PySem.F.slot_list_append PySem.F.type_list_append mt_append (pv 1) (pa_cons h pa_nil))) (e_tup (a_cons e_str (a_cons (e_mkE T.k_BadVariable.g (fun te h => SkE.pmk_own1 PySem.F.excBase_ValueError T.k_BadVariable.x T.k_BadVariable.g T.k_BadVariable.k (raises_own T.k_BadVariable.b T.k_BadVariable.t) (by exact rfl) h) (e_var 0 (pv 0) rfl)) a_nil)))) (ss_cons (s_app 1 rfl (fun te h => ps_expr (pe_bm PySem.F.plainAttrs_list PySem.F.slot_list_append PySem.F.type_list_append mt_append (pv 1) (pa_cons h pa_nil))) (e_tup (a_cons e_str (a_cons (e_mkE T.k_BadWays.g (fun te h => SkE.pmk_own1 PySem.F.excBase_ValueError T.k_BadWays.x T.k_BadWays.g T.k_BadWays.k (raises_own T.k_BadWays.b T.k_BadWays.t) (by exact rfl) h) (e_var 0 (pv 0) rfl)) a_nil)))) (ss_cons (s_app 1 rfl (fun te h => ps_expr (pe_bm PySem.F.plainAttrs_list PySem.F.slot_list_append PySem.F.type_list_append mt_append (pv 1) (pa_cons h pa_nil))) (e_tup (a_cons e_str (a_cons (e_mkE T.k_BadWitness.g (fun te h => SkE.pmk_own1 PySem.F.excBase_ValueError T.k_BadWitness.x T.k_BadWitness.g T.k_BadWitness.k (raises_own T.k_BadWitness.b T.k_BadWitness.t) (by exact rfl) h) (e_var 0 (pv 0) rfl)) a_nil)))) (ss_cons (s_app 1 rfl (fun te h => ps_expr (pe_bm PySem.F.plainAttrs_list PySem.F.slot_list_append PySem.F.type_list_append mt_append (pv 1) (pa_cons h pa_nil))) (e_tup (a_cons e_str (a_cons (e_mkE T.k_Closed.g (fun te h => SkE.pmk_own1 PySem.F.excBase_ValueError T.k_Closed.x T.k_Closed.g T.k_Closed.k (raises_own T.k_Closed.b T.k_Closed.t) (by exact rfl) h) (e_var 0 (pv 0) rfl)) a_nil)))) (ss_cons (s_app 1 rfl (fun te h => ps_expr (pe_bm PySem.F.plainAttrs_list PySem.F.slot_list_append PySem.F.type_list_append mt_append (pv 1) (pa_cons h pa_nil))) (e_tup (a_cons e_str (a_cons (e_mkE T.k_NoClash.g (fun te h => SkE.pmk_own1 PySem.F.excBase_ValueError T.k_NoClash.x T.k_NoClash.g T.k_NoClash.k (raises_own T.k_NoClash.b T.k_NoClash.t) (by exact rfl) h) (e_var 0 (pv 0) rfl)) a_nil)))) (ss_cons (s_app 1 rfl (fun te h => ps_expr (pe_bm PySem.F.plainAttrs_list PySem.F.slot_list_append PySem.F.type_list_append mt_append (pv 1) (pa_cons h pa_nil))) (e_tup (a_cons e_str (a_cons (e_mkE T.k_NoLevel.g (fun te h => SkE.pmk_own1 PySem.F.excBase_ValueError T.k_NoLevel.x T.k_NoLevel.g T.k_NoLevel.k (raises_own T.k_NoLevel.b T.k_NoLevel.t) (by exact rfl) h) (e_var 0 (pv 0) rfl)) a_nil)))) (ss_cons (s_app 1 rfl (fun te h => ps_expr (pe_bm PySem.F.plainAttrs_list PySem.F.slot_list_append PySem.F.type_list_append mt_append (pv 1) (pa_cons h pa_nil))) (e_tup (a_cons e_str (a_cons (e_mkE T.k_NotBySums.g (fun te h => SkE.pmk_own1 PySem.F.excBase_ValueError T.k_NotBySums.x T.k_NotBySums.g T.k_NotBySums.k (raises_own T.k_NotBySums.b T.k_NotBySums.t) (by exact rfl) h) (e_var 0 (pv 0) rfl)) a_nil)))) (ss_cons (s_app 1 rfl (fun te h => ps_expr (pe_bm PySem.F.plainAttrs_list PySem.F.slot_list_append PySem.F.type_list_append mt_append (pv 1) (pa_cons h pa_nil))) (e_tup (a_cons e_str (a_cons (e_mkE T.k_NotClosed.g (fun te h => SkE.pmk_own1 PySem.F.excBase_ValueError T.k_NotClosed.x T.k_NotClosed.g T.k_NotClosed.k (raises_own T.k_NotClosed.b T.k_NotClosed.t) (by exact rfl) h) (e_var 0 (pv 0) rfl)) a_nil)))) (ss_cons (s_app 1 rfl (fun te h => ps_expr (pe_bm PySem.F.plainAttrs_list PySem.F.slot_list_append PySem.F.type_list_append mt_append (pv 1) (pa_cons h pa_nil))) (e_tup (a_cons e_str (a_cons (e_mkE T.k_NotEliminated.g (fun te h => SkE.pmk_own1 PySem.F.excBase_ValueError T.k_NotEliminated.x T.k_NotEliminated.g T.k_NotEliminated.k (raises_own T.k_NotEliminated.b T.k_NotEliminated.t) (by exact rfl) h) (e_var 0 (pv 0) rfl)) a_nil)))) (ss_cons (s_app 1 rfl (fun te h => ps_expr (pe_bm PySem.F.plainAttrs_list PySem.F.slot_list_append PySem.F.type_list_append mt_append (pv 1) (pa_cons h pa_nil))) (e_tup (a_cons e_str (a_cons (e_mkE T.k_NotEqual.g (fun te h => SkE.pmk_own1 PySem.F.excBase_ValueError T.k_NotEqual.x T.k_NotEqual.g T.k_NotEqual.k (raises_own T.k_NotEqual.b T.k_NotEqual.t) (by exact rfl) h) (e_var 0 (pv 0) rfl)) a_nil)))) (ss_cons (s_app 1 rfl (fun te h => ps_expr (pe_bm PySem.F.plainAttrs_list PySem.F.slot_list_append PySem.F.type_list_append mt_append (pv 1) (pa_cons h pa_nil))) (e_tup (a_cons e_str (a_cons (e_mkE T.k_NotLeaning.g (fun te h => SkE.pmk_own1 PySem.F.excBase_ValueError T.k_NotLeaning.x T.k_NotLeaning.g T.k_NotLeaning.k (raises_own T.k_NotLeaning.b T.k_NotLeaning.t) (by exact rfl) h) (e_var 0 (pv 0) rfl)) a_nil)))) (ss_one (s_retO 1 (pv 1) rfl)))))))))))))))))))))))))))
theorem b__law_plain_b (T : Txt K mg A) : Binds K A.d__law_plain_b ["text_here"] [] := T.f__law_plain_b.binds (ps := ["text_here"]) fun _ _ _ _ _ _ us hl => match us, hl with | [_], _ => rfl
theorem sc__law_plain_c : FnScope ["text_here", "found"] ["text_here"] (defScope (top 72)) := ⟨rfl, rfl, rfl, by decide +kernel, rfl, by decide +kernel, by decide +kernel⟩
theorem ok__law_plain_c (T : Txt K mg A) : FnOk P w K mg base (L2.CX P w) 1 A.a__law_plain_c A.d__law_plain_c ["text_here"] (spP K mg 1 G__law_plain_c) := by
  refine okP [1] (g := g__law_plain_c) T.f__law_plain_c sc__law_plain_c rfl (by decide) (fun cdv A outer s H E l T0 hr => ?_) (fun _ _ => rfl)
  have sc := sc__law_plain_c
  exact (ss_cons (s_asgO 1 rfl (fun te h => ps_set (i := 1) sc.nd rfl (by first | exact Or.inl rfl | exact Or.inr rfl) h) (n_lst a_nil)) (ss_cons (s_app 1 rfl (fun te h => ps_expr (pe_bm PySem.F.plainAttrs_list PySem.F.slot_list_append PySem.F.type_list_append mt_append (pv 1) (pa_cons h pa_nil))) (e_tup (a_cons e_str (a_cons (e_mkE T.k_NotShort.g (fun te h => SkE.pmk_own1 PySem.F.excBase_ValueError T.k_NotShort.x T.k_NotShort.g T.k_NotShort.k (raises_own T.k_NotShort.b T.k_NotShort.t) (by exact rfl) h) (e_var 0 (pv 0) rfl)) a_nil)))) (ss_cons (s_app 1 rfl (fun te h => ps_expr (pe_bm PySem.F.plainAttrs_list PySem.F.slot_list_append PySem.F.type_list_append mt_append (pv 1) (pa_cons h pa_nil))) (e_tup (a_cons e_str (a_cons (e_mkE T.k_NotSound.g (fun te h => SkE.pmk_own1 PySem.F.excBase_ValueError T.k_NotSound.x T.k_NotSound.g T.k_NotSound.k (raises_own T.k_NotSound.b T.k_NotSound.t) (by exact rfl) h) (e_var 0 (pv 0) rfl)) a_nil)))) (ss_cons (s_app 1 rfl (fun te h => ps_expr (pe_bm PySem.F.plainAttrs_list PySem.F.slot_list_append PySem.F.type_list_append mt_append (pv 1) (pa_cons h pa_nil))) (e_tup (a_cons e_str (a_cons (e_mkE T.k_NotWhole.g (fun te h => SkE.pmk_own1 PySem.F.excBase_ValueError T.k_NotWhole.x T.k_NotWhole.g T.k_NotWhole.k (raises_own T.k_NotWhole.b T.k_NotWhole.t) (by exact rfl) h) (e_var 0 (pv 0) rfl)) a_nil)))) (ss_one (s_retO 1 (pv 1) rfl))))))
theorem b__law_plain_c (T : Txt K mg A) : Binds K A.d__law_plain_c ["text_here"] [] := T.f__law_plain_c.binds (ps := ["text_here"]) fun _ _ _ _ _ _ us hl => match us, hl with | [_], _ => rfl
theorem sc__law_held : FnScope ["item", "found", "caught"] ["item"] (defScope (top 73)) := ⟨rfl, rfl, rfl, by decide +kernel, rfl, by decide +kernel, by decide +kernel⟩
theorem ok__law_held (T : Txt K mg A) : FnOk P w K mg base (L2.CX P w) 3 A.a__law_held A.d__law_held ["item"] (spP K mg 1 G__law_held) := by
  refine okP [1] (g := g__law_held) T.f__law_held sc__law_held rfl (by decide) (fun cdv A outer s H E l T0 hr => ?_) (fun _ _ => rfl)
  have sc := sc__law_held
  exact (ss_cons (s_asgO 1 rfl (fun te h => ps_set (i := 1) sc.nd rfl (by first | exact Or.inl rfl | exact Or.inr rfl) h) (n_lst a_nil)) (ss_cons (s_asg 2 rfl (fun te h => ps_set (i := 2) sc.nd rfl (by first | exact Or.inl rfl | exact Or.inr rfl) h) (e_mkF T.k_BadDerivation.g (by exact T.oe_BadDerivation) (by exact T.nf_BadDerivation) (fun ta h => pmk_oex T.oe_BadDerivation T.ii_BadDerivation T.ti_BadDerivation (ok_ini_BadDerivation T) (hr.mono (by decide)) (b_ini_BadDerivation T) .nil (passes_call (takes_of rfl rfl rfl rfl) fun _ _ _ _ h => h.elim) (by rfl) T.k_BadDerivation.g h) (a_cons (e_var 0 (pv 0) rfl) a_nil))) (ss_cons (s_app 1 rfl (fun te h => ps_expr (pe_bm PySem.F.plainAttrs_list PySem.F.slot_list_append PySem.F.type_list_append mt_append (pv 1) (pa_cons h pa_nil))) (e_tup (a_cons e_str (a_cons (e_var 2 (pv 2) rfl) (a_cons (e_fld ["BadDerivation", "BadLog", "BadPaper"] "index" ⟨rfl, rfl⟩ (by exact fld_index T) (fun te h => pe_xo h) (e_var 2 (pv 2) rfl)) a_nil))))) (ss_cons (s_asg 2 rfl (fun te h => ps_set (i := 2) sc.nd rfl (by first | exact Or.inl rfl | exact Or.inr rfl) h) (e_mkFK T.k_BadDerivation.g (by exact T.oe_BadDerivation) (by exact T.nf_BadDerivation) (fun tk h => pmk_oexK T.oe_BadDerivation T.ii_BadDerivation T.ti_BadDerivation (ok_ini_BadDerivation T) (hr.mono (by decide)) (kbi_BadDerivation T) (passes_call (takes_of rfl rfl rfl rfl) fun _ _ _ _ h => h.elim) (by rfl) T.k_BadDerivation.g h) (k_cons (e_var 0 (pv 0) rfl) k_nil))) (ss_cons (s_app 1 rfl (fun te h => ps_expr (pe_bm PySem.F.plainAttrs_list PySem.F.slot_list_append PySem.F.type_list_append mt_append (pv 1) (pa_cons h pa_nil))) (e_tup (a_cons e_str (a_cons (e_var 2 (pv 2) rfl) (a_cons (e_fld ["BadDerivation", "BadLog", "BadPaper"] "index" ⟨rfl, rfl⟩ (by exact fld_index T) (fun te h => pe_xo h) (e_var 2 (pv 2) rfl)) a_nil))))) (ss_cons (s_asg 2 rfl (fun te h => ps_set (i := 2) sc.nd rfl (by first | exact Or.inl rfl | exact Or.inr rfl) h) (e_mkF T.k_BadLog.g (by exact T.oe_BadLog) (by exact T.nf_BadLog) (fun ta h => pmk_oex T.oe_BadLog T.ii_BadLog T.ti_BadLog (ok_ini_BadLog T) (hr.mono (by decide)) (b_ini_BadLog T) .nil (passes_call (takes_of rfl rfl rfl rfl) fun _ _ _ _ h => h.elim) (by rfl) T.k_BadLog.g h) (a_cons (e_var 0 (pv 0) rfl) a_nil))) (ss_cons (s_app 1 rfl (fun te h => ps_expr (pe_bm PySem.F.plainAttrs_list PySem.F.slot_list_append PySem.F.type_list_append mt_append (pv 1) (pa_cons h pa_nil))) (e_tup (a_cons e_str (a_cons (e_var 2 (pv 2) rfl) (a_cons (e_fld ["BadDerivation", "BadLog", "BadPaper"] "index" ⟨rfl, rfl⟩ (by exact fld_index T) (fun te h => pe_xo h) (e_var 2 (pv 2) rfl)) a_nil))))) (ss_cons (s_asg 2 rfl (fun te h => ps_set (i := 2) sc.nd rfl (by first | exact Or.inl rfl | exact Or.inr rfl) h) (e_mkFK T.k_BadLog.g (by exact T.oe_BadLog) (by exact T.nf_BadLog) (fun tk h => pmk_oexK T.oe_BadLog T.ii_BadLog T.ti_BadLog (ok_ini_BadLog T) (hr.mono (by decide)) (kbi_BadLog T) (passes_call (takes_of rfl rfl rfl rfl) fun _ _ _ _ h => h.elim) (by rfl) T.k_BadLog.g h) (k_cons (e_var 0 (pv 0) rfl) k_nil))) (ss_cons (s_app 1 rfl (fun te h => ps_expr (pe_bm PySem.F.plainAttrs_list PySem.F.slot_list_append PySem.F.type_list_append mt_append (pv 1) (pa_cons h pa_nil))) (e_tup (a_cons e_str (a_cons (e_var 2 (pv 2) rfl) (a_cons (e_fld ["BadDerivation", "BadLog", "BadPaper"] "index" ⟨rfl, rfl⟩ (by exact fld_index T) (fun te h => pe_xo h) (e_var 2 (pv 2) rfl)) a_nil))))) (ss_cons (s_asg 2 rfl (fun te h => ps_set (i := 2) sc.nd rfl (by first | exact Or.inl rfl | exact Or.inr rfl) h) (e_mkF T.k_BadPaper.g (by exact T.oe_BadPaper) (by exact T.nf_BadPaper) (fun ta h => pmk_oex T.oe_BadPaper T.ii_BadPaper T.ti_BadPaper (ok_ini_BadPaper T) (hr.mono (by decide)) (b_ini_BadPaper T) .nil (passes_call (takes_of rfl rfl rfl rfl) fun _ _ _ _ h => h.elim) (by rfl) T.k_BadPaper.g h) (a_cons (e_var 0 (pv 0) rfl) a_nil))) (ss_cons (s_app 1 rfl (fun te h => ps_expr (pe_bm PySem.F.plainAttrs_list PySem.F.slot_list_append PySem.F.type_list_append mt_append (pv 1) (pa_cons h pa_nil))) (e_tup (a_cons e_str (a_cons (e_var 2 (pv 2) rfl) (a_cons (e_fld ["BadDerivation", "BadLog", "BadPaper"] "index" ⟨rfl, rfl⟩ (by exact fld_index T) (fun te h => pe_xo h) (e_var 2 (pv 2) rfl)) a_nil))))) (ss_cons (s_asg 2 rfl (fun te h => ps_set (i := 2) sc.nd rfl (by first | exact Or.inl rfl | exact Or.inr rfl) h) (e_mkFK T.k_BadPaper.g (by exact T.oe_BadPaper) (by exact T.nf_BadPaper) (fun tk h => pmk_oexK T.oe_BadPaper T.ii_BadPaper T.ti_BadPaper (ok_ini_BadPaper T) (hr.mono (by decide)) (kbi_BadPaper T) (passes_call (takes_of rfl rfl rfl rfl) fun _ _ _ _ h => h.elim) (by rfl) T.k_BadPaper.g h) (k_cons (e_var 0 (pv 0) rfl) k_nil))) (ss_cons (s_app 1 rfl (fun te h => ps_expr (pe_bm PySem.F.plainAttrs_list PySem.F.slot_list_append PySem.F.type_list_append mt_append (pv 1) (pa_cons h pa_nil))) (e_tup (a_cons e_str (a_cons (e_var 2 (pv 2) rfl) (a_cons (e_fld ["BadDerivation", "BadLog", "BadPaper"] "index" ⟨rfl, rfl⟩ (by exact fld_index T) (fun te h => pe_xo h) (e_var 2 (pv 2) rfl)) a_nil))))) (ss_cons (s_asg 2 rfl (fun te h => ps_set (i := 2) sc.nd rfl (by first | exact Or.inl rfl | exact Or.inr rfl) h) (e_mkF T.k_BadText.g (by exact T.oe_BadText) (by exact T.nf_BadText) (fun ta h => pmk_oex T.oe_BadText T.ii_BadText T.ti_BadText (ok_ini_BadText T) (hr.mono (by decide)) (b_ini_BadText T) .nil (passes_call (takes_of rfl rfl rfl rfl) fun _ _ _ _ h => h.elim) (by rfl) T.k_BadText.g h) (a_cons (e_var 0 (pv 0) rfl) a_nil))) (ss_cons (s_app 1 rfl (fun te h => ps_expr (pe_bm PySem.F.plainAttrs_list PySem.F.slot_list_append PySem.F.type_list_append mt_append (pv 1) (pa_cons h pa_nil))) (e_tup (a_cons e_str (a_cons (e_var 2 (pv 2) rfl) (a_cons (e_fld ["BadText"] "line" ⟨rfl, rfl⟩ (by exact fld_line T) (fun te h => pe_xo h) (e_var 2 (pv 2) rfl)) a_nil))))) (ss_cons (s_asg 2 rfl (fun te h => ps_set (i := 2) sc.nd rfl (by first | exact Or.inl rfl | exact Or.inr rfl) h) (e_mkFK T.k_BadText.g (by exact T.oe_BadText) (by exact T.nf_BadText) (fun tk h => pmk_oexK T.oe_BadText T.ii_BadText T.ti_BadText (ok_ini_BadText T) (hr.mono (by decide)) (kbi_BadText T) (passes_call (takes_of rfl rfl rfl rfl) fun _ _ _ _ h => h.elim) (by rfl) T.k_BadText.g h) (k_cons (e_var 0 (pv 0) rfl) k_nil))) (ss_cons (s_app 1 rfl (fun te h => ps_expr (pe_bm PySem.F.plainAttrs_list PySem.F.slot_list_append PySem.F.type_list_append mt_append (pv 1) (pa_cons h pa_nil))) (e_tup (a_cons e_str (a_cons (e_var 2 (pv 2) rfl) (a_cons (e_fld ["BadText"] "line" ⟨rfl, rfl⟩ (by exact fld_line T) (fun te h => pe_xo h) (e_var 2 (pv 2) rfl)) a_nil))))) (ss_cons (s_asg 2 rfl (fun te h => ps_set (i := 2) sc.nd rfl (by first | exact Or.inl rfl | exact Or.inr rfl) h) (e_mkF T.k_Clashes.g (by exact T.oe_Clashes) (by exact T.nf_Clashes) (fun ta h => pmk_oex T.oe_Clashes T.ii_Clashes T.ti_Clashes (ok_ini_Clashes T) (hr.mono (by decide)) (b_ini_Clashes T) .nil (passes_call (takes_of rfl rfl rfl rfl) fun _ _ _ _ h => h.elim) (by rfl) T.k_Clashes.g h) (a_cons (e_var 0 (pv 0) rfl) a_nil))) (ss_cons (s_app 1 rfl (fun te h => ps_expr (pe_bm PySem.F.plainAttrs_list PySem.F.slot_list_append PySem.F.type_list_append mt_append (pv 1) (pa_cons h pa_nil))) (e_tup (a_cons e_str (a_cons (e_var 2 (pv 2) rfl) (a_cons (e_fld ["Clashes", "IsReason"] "number" ⟨rfl, rfl⟩ (by exact fld_number T) (fun te h => pe_xo h) (e_var 2 (pv 2) rfl)) a_nil))))) (ss_cons (s_asg 2 rfl (fun te h => ps_set (i := 2) sc.nd rfl (by first | exact Or.inl rfl | exact Or.inr rfl) h) (e_mkFK T.k_Clashes.g (by exact T.oe_Clashes) (by exact T.nf_Clashes) (fun tk h => pmk_oexK T.oe_Clashes T.ii_Clashes T.ti_Clashes (ok_ini_Clashes T) (hr.mono (by decide)) (kbi_Clashes T) (passes_call (takes_of rfl rfl rfl rfl) fun _ _ _ _ h => h.elim) (by rfl) T.k_Clashes.g h) (k_cons (e_var 0 (pv 0) rfl) k_nil))) (ss_cons (s_app 1 rfl (fun te h => ps_expr (pe_bm PySem.F.plainAttrs_list PySem.F.slot_list_append PySem.F.type_list_append mt_append (pv 1) (pa_cons h pa_nil))) (e_tup (a_cons e_str (a_cons (e_var 2 (pv 2) rfl) (a_cons (e_fld ["Clashes", "IsReason"] "number" ⟨rfl, rfl⟩ (by exact fld_number T) (fun te h => pe_xo h) (e_var 2 (pv 2) rfl)) a_nil))))) (ss_cons (s_asg 2 rfl (fun te h => ps_set (i := 2) sc.nd rfl (by first | exact Or.inl rfl | exact Or.inr rfl) h) (e_mkF T.k_IsAssumed.g (by exact T.oe_IsAssumed) (by exact T.nf_IsAssumed) (fun ta h => pmk_oex T.oe_IsAssumed T.ii_IsAssumed T.ti_IsAssumed (ok_ini_IsAssumed T) (hr.mono (by decide)) (b_ini_IsAssumed T) .nil (passes_call (takes_of rfl rfl rfl rfl) fun _ _ _ _ h => h.elim) (by rfl) T.k_IsAssumed.g h) (a_cons (e_var 0 (pv 0) rfl) a_nil))) (ss_cons (s_app 1 rfl (fun te h => ps_expr (pe_bm PySem.F.plainAttrs_list PySem.F.slot_list_append PySem.F.type_list_append mt_append (pv 1) (pa_cons h pa_nil))) (e_tup (a_cons e_str (a_cons (e_var 2 (pv 2) rfl) (a_cons (e_fld ["IsAssumed", "NotFree"] "literal" ⟨rfl, rfl⟩ (by exact fld_literal T) (fun te h => pe_xo h) (e_var 2 (pv 2) rfl)) a_nil))))) (ss_cons (s_asg 2 rfl (fun te h => ps_set (i := 2) sc.nd rfl (by first | exact Or.inl rfl | exact Or.inr rfl) h) (e_mkFK T.k_IsAssumed.g (by exact T.oe_IsAssumed) (by exact T.nf_IsAssumed) (fun tk h => pmk_oexK T.oe_IsAssumed T.ii_IsAssumed T.ti_IsAssumed (ok_ini_IsAssumed T) (hr.mono (by decide)) (kbi_IsAssumed T) (passes_call (takes_of rfl rfl rfl rfl) fun _ _ _ _ h => h.elim) (by rfl) T.k_IsAssumed.g h) (k_cons (e_var 0 (pv 0) rfl) k_nil))) (ss_cons (s_app 1 rfl (fun te h => ps_expr (pe_bm PySem.F.plainAttrs_list PySem.F.slot_list_append PySem.F.type_list_append mt_append (pv 1) (pa_cons h pa_nil))) (e_tup (a_cons e_str (a_cons (e_var 2 (pv 2) rfl) (a_cons (e_fld ["IsAssumed", "NotFree"] "literal" ⟨rfl, rfl⟩ (by exact fld_literal T) (fun te h => pe_xo h) (e_var 2 (pv 2) rfl)) a_nil))))) (ss_cons (s_asg 2 rfl (fun te h => ps_set (i := 2) sc.nd rfl (by first | exact Or.inl rfl | exact Or.inr rfl) h) (e_mkF T.k_IsReason.g (by exact T.oe_IsReason) (by exact T.nf_IsReason) (fun ta h => pmk_oex T.oe_IsReason T.ii_IsReason T.ti_IsReason (ok_ini_IsReason T) (hr.mono (by decide)) (b_ini_IsReason T) .nil (passes_call (takes_of rfl rfl rfl rfl) fun _ _ _ _ h => h.elim) (by rfl) T.k_IsReason.g h) (a_cons (e_var 0 (pv 0) rfl) a_nil))) (ss_cons (s_app 1 rfl (fun te h => ps_expr (pe_bm PySem.F.plainAttrs_list PySem.F.slot_list_append PySem.F.type_list_append mt_append (pv 1) (pa_cons h pa_nil))) (e_tup (a_cons e_str (a_cons (e_var 2 (pv 2) rfl) (a_cons (e_fld ["Clashes", "IsReason"] "number" ⟨rfl, rfl⟩ (by exact fld_number T) (fun te h => pe_xo h) (e_var 2 (pv 2) rfl)) a_nil))))) (ss_cons (s_asg 2 rfl (fun te h => ps_set (i := 2) sc.nd rfl (by first | exact Or.inl rfl | exact Or.inr rfl) h) (e_mkFK T.k_IsReason.g (by exact T.oe_IsReason) (by exact T.nf_IsReason) (fun tk h => pmk_oexK T.oe_IsReason T.ii_IsReason T.ti_IsReason (ok_ini_IsReason T) (hr.mono (by decide)) (kbi_IsReason T) (passes_call (takes_of rfl rfl rfl rfl) fun _ _ _ _ h => h.elim) (by rfl) T.k_IsReason.g h) (k_cons (e_var 0 (pv 0) rfl) k_nil))) (ss_cons (s_app 1 rfl (fun te h => ps_expr (pe_bm PySem.F.plainAttrs_list PySem.F.slot_list_append PySem.F.type_list_append mt_append (pv 1) (pa_cons h pa_nil))) (e_tup (a_cons e_str (a_cons (e_var 2 (pv 2) rfl) (a_cons (e_fld ["Clashes", "IsReason"] "number" ⟨rfl, rfl⟩ (by exact fld_number T) (fun te h => pe_xo h) (e_var 2 (pv 2) rfl)) a_nil))))) (ss_cons (s_asg 2 rfl (fun te h => ps_set (i := 2) sc.nd rfl (by first | exact Or.inl rfl | exact Or.inr rfl) h) (e_mkF T.k_NotFree.g (by exact T.oe_NotFree) (by exact T.nf_NotFree) (fun ta h => pmk_oex T.oe_NotFree T.ii_NotFree T.ti_NotFree (ok_ini_NotFree T) (hr.mono (by decide)) (b_ini_NotFree T) .nil (passes_call (takes_of rfl rfl rfl rfl) fun _ _ _ _ h => h.elim) (by rfl) T.k_NotFree.g h) (a_cons (e_var 0 (pv 0) rfl) a_nil))) (ss_cons (s_app 1 rfl (fun te h => ps_expr (pe_bm PySem.F.plainAttrs_list PySem.F.slot_list_append PySem.F.type_list_append mt_append (pv 1) (pa_cons h pa_nil))) (e_tup (a_cons e_str (a_cons (e_var 2 (pv 2) rfl) (a_cons (e_fld ["IsAssumed", "NotFree"] "literal" ⟨rfl, rfl⟩ (by exact fld_literal T) (fun te h => pe_xo h) (e_var 2 (pv 2) rfl)) a_nil))))) (ss_cons (s_asg 2 rfl (fun te h => ps_set (i := 2) sc.nd rfl (by first | exact Or.inl rfl | exact Or.inr rfl) h) (e_mkFK T.k_NotFree.g (by exact T.oe_NotFree) (by exact T.nf_NotFree) (fun tk h => pmk_oexK T.oe_NotFree T.ii_NotFree T.ti_NotFree (ok_ini_NotFree T) (hr.mono (by decide)) (kbi_NotFree T) (passes_call (takes_of rfl rfl rfl rfl) fun _ _ _ _ h => h.elim) (by rfl) T.k_NotFree.g h) (k_cons (e_var 0 (pv 0) rfl) k_nil))) (ss_cons (s_app 1 rfl (fun te h => ps_expr (pe_bm PySem.F.plainAttrs_list PySem.F.slot_list_append PySem.F.type_list_append mt_append (pv 1) (pa_cons h pa_nil))) (e_tup (a_cons e_str (a_cons (e_var 2 (pv 2) rfl) (a_cons (e_fld ["IsAssumed", "NotFree"] "literal" ⟨rfl, rfl⟩ (by exact fld_literal T) (fun te h => pe_xo h) (e_var 2 (pv 2) rfl)) a_nil))))) (ss_cons (s_asg 2 rfl (fun te h => ps_set (i := 2) sc.nd rfl (by first | exact Or.inl rfl | exact Or.inr rfl) h) (e_mkF T.k_TooMany.g (by exact T.oe_TooMany) (by exact T.nf_TooMany) (fun ta h => pmk_oex T.oe_TooMany T.ii_TooMany T.ti_TooMany (ok_ini_TooMany T) (hr.mono (by decide)) (b_ini_TooMany T) .nil (passes_call (takes_of rfl rfl rfl rfl) fun _ _ _ _ h => h.elim) (by rfl) T.k_TooMany.g h) (a_cons (e_var 0 (pv 0) rfl) a_nil))) (ss_cons (s_app 1 rfl (fun te h => ps_expr (pe_bm PySem.F.plainAttrs_list PySem.F.slot_list_append PySem.F.type_list_append mt_append (pv 1) (pa_cons h pa_nil))) (e_tup (a_cons e_str (a_cons (e_var 2 (pv 2) rfl) (a_cons (e_fld ["TooMany"] "most" ⟨rfl, rfl⟩ (by exact fld_most T) (fun te h => pe_xo h) (e_var 2 (pv 2) rfl)) a_nil))))) (ss_cons (s_asg 2 rfl (fun te h => ps_set (i := 2) sc.nd rfl (by first | exact Or.inl rfl | exact Or.inr rfl) h) (e_mkFK T.k_TooMany.g (by exact T.oe_TooMany) (by exact T.nf_TooMany) (fun tk h => pmk_oexK T.oe_TooMany T.ii_TooMany T.ti_TooMany (ok_ini_TooMany T) (hr.mono (by decide)) (kbi_TooMany T) (passes_call (takes_of rfl rfl rfl rfl) fun _ _ _ _ h => h.elim) (by rfl) T.k_TooMany.g h) (k_cons (e_var 0 (pv 0) rfl) k_nil))) (ss_cons (s_app 1 rfl (fun te h => ps_expr (pe_bm PySem.F.plainAttrs_list PySem.F.slot_list_append PySem.F.type_list_append mt_append (pv 1) (pa_cons h pa_nil))) (e_tup (a_cons e_str (a_cons (e_var 2 (pv 2) rfl) (a_cons (e_fld ["TooMany"] "most" ⟨rfl, rfl⟩ (by exact fld_most T) (fun te h => pe_xo h) (e_var 2 (pv 2) rfl)) a_nil))))) (ss_one (s_retO 1 (pv 1) rfl)))))))))))))))))))))))))))))))))))))))
theorem b__law_held (T : Txt K mg A) : Binds K A.d__law_held ["item"] [] := T.f__law_held.binds (ps := ["item"]) fun _ _ _ _ _ _ us hl => match us, hl with | [_], _ => rfl
theorem sc__law_is_alone : FnScope ["caught", "name_here", "kinds_here"] ["caught", "name_here"] (defScope (top 74)) := ⟨rfl, rfl, rfl, by decide +kernel, rfl, by decide +kernel, by decide +kernel⟩
theorem ok__law_is_alone (T : Txt K mg A) : FnOk P w K mg base (L2.CX P w) 2 A.a__law_is_alone A.d__law_is_alone ["caught", "name_here"] (spP K mg 2 G__law_is_alone) := by
  refine okP [] (g := g__law_is_alone) T.f__law_is_alone sc__law_is_alone rfl (by decide) (fun cdv A outer s H E l T0 hr => ?_) (fun _ _ => rfl)
  have sc := sc__law_is_alone
  exact (ss_cons (s_asg 2 rfl (fun te h => ps_set (i := 2) sc.nd rfl (by first | exact Or.inl rfl | exact Or.inr rfl) h) (e_bin r_add (fun t u h1 h2 => pe_op op_addA h1 h2) (bE (e_bin r_add (fun t u h1 h2 => pe_op op_addA h1 h2) (bE (e_callP [] ⟨rfl, rfl⟩ (fun _ => Dens.nil) rfl (fun t h => pe_call (ok__law_kinds_a T) (hr.mono (by decide)) (by rfl) T.m__law_kinds_a T.f__law_kinds_a.kp (b__law_kinds_a T) .nil (passes_call (takes_of rfl rfl rfl rfl) fun _ _ _ _ h => h) h) (a_cons (e_var 0 (pv 0) rfl) a_nil) (by exact (len_cons len_nil)))) (bE (e_callP [] ⟨rfl, rfl⟩ (fun _ => Dens.nil) rfl (fun t h => pe_call (ok__law_kinds_b T) (hr.mono (by decide)) (by rfl) T.m__law_kinds_b T.f__law_kinds_b.kp (b__law_kinds_b T) .nil (passes_call (takes_of rfl rfl rfl rfl) fun _ _ _ _ h => h) h) (a_cons (e_var 0 (pv 0) rfl) a_nil) (by exact (len_cons len_nil)))))) (bE (e_callP [] ⟨rfl, rfl⟩ (fun _ => Dens.nil) rfl (fun t h => pe_call (ok__law_kinds_c T) (hr.mono (by decide)) (by rfl) T.m__law_kinds_c T.f__law_kinds_c.kp (b__law_kinds_c T) .nil (passes_call (takes_of rfl rfl rfl rfl) fun _ _ _ _ h => h) h) (a_cons (e_var 0 (pv 0) rfl) a_nil) (by exact (len_cons len_nil)))))) (ss_one (s_ret (e_and (e_bin r_eq (fun t u h1 h2 => pe_cmpR (op_eqX hr.units) h1 h2 (nomark _)) (bE (e_var 2 (pv 2) rfl)) (bE (nE (n_lst (a_cons (e_var 1 (pv 1) rfl) a_nil))))) (e_and (e_isd (allT errs) ⟨rfl, rfl⟩ (by exact nn_WitnessError T) (by exact isc_WitnessError T) (.own _) (fun te h => pe_callB call_isD (by rfl) T.g_isinstance (by decide +kernel) (pa_cons h (pa_cons (pe_glob (by rfl) T.k_WitnessError.g rfl) pa_nil))) (e_var 0 (pv 0) rfl)) (e_one (e_isv (allT errs) ⟨rfl, rfl⟩ nn_val (by exact isv_all T) (.ty _) (fun te h => pe_callB call_isTv (by rfl) T.g_isinstance (by decide +kernel) (pa_cons h (pa_cons (pe_bltn (by rfl) T.g_ValueError (by decide +kernel) rfl) pa_nil))) (e_var 0 (pv 0) rfl))))))))
theorem b__law_is_alone (T : Txt K mg A) : Binds K A.d__law_is_alone ["caught", "name_here"] [] := T.f__law_is_alone.binds (ps := ["caught", "name_here"]) fun _ _ _ _ _ _ us hl => match us, hl with | [_, _], _ => rfl
end
end My
namespace My
open PySem PySem.Spec PyProof.Rows L2 VS
def e_law_k00_1 : ME := (callS G__law_pick (consA (varM 1) (consA (lstM (consA (cM (.str "a")) (consA (cM (.str "b")) (consA (cM (.str " ")) (consA (cM (.str "0")) (consA (cM (.str "-")) nilA)))))) nilA)))
def s_law_k00_2 : MS := (asgS 3 (joinM (cM (.str "")) (lcR (setN 4) (consA (callS G__law_draw (consA (varM 1) (consA (cM (.int 9)) nilA))) nilA) (fun _ S => .ok (true, S)) e_law_k00_1 [4])))
def s_law_k00_3 : MS := (asgS 5 (callS G__law_pick (consA (varM 1) (consA (lstM (consA (callS G__law_odd (consA (varM 1) nilA)) (consA (binM gSub (callS G__law_draw (consA (varM 1) (consA (cM (.int 41)) nilA))) (cM (.int 20))) (consA (tupM (consA (cM (.int 0)) (consA (cM (.int 1)) nilA))) (consA (cM (.str "row")) (consA (binM gPow (cM (.int 10)) (cM (.int 8))) nilA)))))) nilA))))
def s_law_k00_4 : MS := (asgS 6 (binM gAdd (binM gAdd (callP G__law_plain_a [] (consA (varM 3) nilA)) (callP G__law_plain_b [] (consA (varM 3) nilA))) (callP G__law_plain_c [] (consA (varM 3) nilA))))
def t_law_k00_5 : MT := (notT (testM (callP G__law_is_alone [] (consA (varM 8) (consA (varM 7) nilA)))))
def t_law_k00_6 : MT := (testM (binM gNe (lcM (setT [7, 8]) (varM 6) t_law_k00_5 (cM (.int 1)) [7, 8]) (lstM nilA)))
def t_law_k00_7 : MT := (orT (notT (testM (callP G__law_is_alone [] (consA (varM 8) (consA (varM 7) nilA))))) (testM (binM gNe (cbM gReprF (consA (varM 9) nilA)) (cbM gReprF (consA (varM 5) nilA)))))
def s_law_k00_8 : MS := (forS (setT [7, 8, 9]) (callP G__law_held [] (consA (varM 5) nilA)) (ifS t_law_k00_7 (retS (cM (.bl false))) nextS))
def b_law_k00_9 : MS := (seqS s_law_k00_2 (seqS s_law_k00_3 (seqS s_law_k00_4 (seqS (ifS t_law_k00_6 (retS (cM (.bl false))) nextS) s_law_k00_8))))
def s_law_k00_10 : MS := (forR (setN 2) (consA (binM gAdd (cM (.int 1)) (cbM gMin (consA (cbM gLenA (consA (varM 0) nilA)) (consA (cM (.int 3)) nilA)))) nilA) b_law_k00_9)
def g_law_k00 : MS := (seqS s_law_k00_10 (retS (cM (.bl true))))
end My
namespace My
open PySem PySem.Spec PyProof.Rows L2 VS
section
variable {P : Program} {w : World} {K : PySem.W.Frag} {mg : Str → Option Value} {base : Heap} {A : Adr}
theorem sc_law : FnScope ["script", "state", "turn", "text_here", "spot", "item", "some", "name_here", "caught", "told"] ["script"] (defScope (top 75)) := ⟨rfl, rfl, rfl, by decide +kernel, rfl, by decide +kernel, by decide +kernel⟩
abbrev g_law : MS := g_law_k00
def lawRest : List Stmt := (defBody (top 75)).drop 1
theorem law_rest (T : Txt K mg A) {TP : TPr} {f : Addr} {cdv : Value} {A0 : Around} {outer : List PySem.Env} {s : Shared} {H : Hp} {E : XK} (hgd : A0.guards = some []) (hr : Room 6 (A0.deeper (envOfC "law" (defScope (top 75)) s.heap.objs.size f cdv))) (l : Lay) :
    PSs (cxOf (L2.CX P w) P w K mg base ["script", "state", "turn", "text_here", "spot", "item", "some", "name_here", "caught", "told"] "law" (defScope (top 75)) f cdv A0 outer s H E) lawRest (tS (bS K mg l TP []) E g_law) := by
  have sc := sc_law
  have hgu : (A0.deeper (envOfC "law" (defScope (top 75)) s.heap.objs.size f cdv)).units + 100 < cLine := by have := hr.un; omega
  exact (ss_cons (s_forR1 rfl (passes_of rfl) (fun ta h => pi_range1 (by rfl) T.g_range h) (a_cons (e_bin r_add (fun t u h1 h2 => pe_op op_addA h1 h2) (bE e_int) (bE (e_cb r_2I (fun t h => pe_callB (call_min2 rfl) (by rfl) T.g_min (by decide +kernel) h) (ab_cons (bE (e_cb r_lenA (fun t h => pe_callB cr_lenA (by rfl) T.g_len (by decide +kernel) h) (ab_cons (bE (e_var 0 (pv 0) rfl)) ab_nil))) (ab_cons (bE e_int) ab_nil))))) a_nil) (pg_name (i := 2) sc.nd rfl (by first | exact Or.inl rfl | exact Or.inr rfl)) (tg_name 2 rfl) (ss_cons (s_asg 3 rfl (fun te h => ps_set (i := 3) sc.nd rfl (by first | exact Or.inl rfl | exact Or.inr rfl) h) (e_join (fun to te ho he => pe_join ho he) e_str (nE (n_lcR1 (tg_name 4 rfl) rfl rfl (fun wi hi => pe_lc (own := [("spot", 4)]) rfl sc.nd hi (blkOk_by (N := ["script", "state", "turn", "text_here", "spot", "item", "some", "name_here", "caught", "told"]) (sc := defScope (top 75)) (by decide +kernel)) (fun _ _ _ _ _ => (pg_name (i := 4) sc.nd rfl (by first | exact Or.inl rfl | exact Or.inr rfl))) (fun _ _ _ _ _ => tYes_ok) (fun _ _ _ _ _ => (e_callS ⟨rfl, rfl⟩ rfl rfl (fun t h => pe_call (ok__law_pick T) (hr.mono (by decide)) (by rfl) T.m__law_pick T.f__law_pick.kp (b__law_pick T) .nil passL h) (a_cons (e_var 1 (pv 1) rfl) (a_cons (nE (n_lst (a_cons e_str (a_cons e_str (a_cons e_str (a_cons e_str (a_cons e_str a_nil))))))) a_nil)) (by exact (len_cons (len_cons len_nil)))))) (fun ta h => pi_range1 (by rfl) T.g_range h) (a_cons (e_callS ⟨rfl, rfl⟩ rfl rfl (fun t h => pe_call (ok__law_draw T) (hr.mono (by decide)) (by rfl) T.m__law_draw T.f__law_draw.kp (b__law_draw T) .nil (passes_call (takes_of rfl rfl rfl rfl) fun _ _ _ _ h => h) h) (a_cons (e_var 1 (pv 1) rfl) (a_cons e_int a_nil)) (by exact (len_cons (len_cons len_nil)))) a_nil) lenR1)) (fun _ _ => ⟨_, rfl⟩))) (ss_cons (s_asg 5 rfl (fun te h => ps_set (i := 5) sc.nd rfl (by first | exact Or.inl rfl | exact Or.inr rfl) h) (e_callS ⟨rfl, rfl⟩ rfl rfl (fun t h => pe_call (ok__law_pick T) (hr.mono (by decide)) (by rfl) T.m__law_pick T.f__law_pick.kp (b__law_pick T) .nil (passes_call (takes_of rfl rfl rfl rfl) fun _ _ _ _ h => h) h) (a_cons (e_var 1 (pv 1) rfl) (a_cons (nE (n_lst (a_cons (e_callS ⟨rfl, rfl⟩ rfl rfl (fun t h => pe_call (ok__law_odd T) (hr.mono (by decide)) (by rfl) T.m__law_odd T.f__law_odd.kp (b__law_odd T) .nil (passes_call (takes_of rfl rfl rfl rfl) fun _ _ _ _ h => h) h) (a_cons (e_var 1 (pv 1) rfl) a_nil) (by exact (len_cons len_nil))) (a_cons (e_bin r_sub (fun t u h1 h2 => pe_op op_sub h1 h2) (bE (e_callS ⟨rfl, rfl⟩ rfl rfl (fun t h => pe_call (ok__law_draw T) (hr.mono (by decide)) (by rfl) T.m__law_draw T.f__law_draw.kp (b__law_draw T) .nil (passes_call (takes_of rfl rfl rfl rfl) fun _ _ _ _ h => h) h) (a_cons (e_var 1 (pv 1) rfl) (a_cons e_int a_nil)) (by exact (len_cons (len_cons len_nil))))) (bE e_int)) (a_cons (e_tup (a_cons e_int (a_cons e_int a_nil))) (a_cons e_str (a_cons (e_bin r_pow (fun t u h1 h2 => pe_op op_pow h1 h2) (bE e_int) (bE e_int)) a_nil))))))) a_nil)) (by exact (len_cons (len_cons len_nil))))) (ss_cons (s_asg 6 rfl (fun te h => ps_set (i := 6) sc.nd rfl (by first | exact Or.inl rfl | exact Or.inr rfl) h) (e_bin r_add (fun t u h1 h2 => pe_op op_addA h1 h2) (bE (e_bin r_add (fun t u h1 h2 => pe_op op_addA h1 h2) (bE (e_callP [] ⟨rfl, rfl⟩ (fun _ => Dens.nil) rfl (fun t h => pe_call (ok__law_plain_a T) (hr.mono (by decide)) (by rfl) T.m__law_plain_a T.f__law_plain_a.kp (b__law_plain_a T) .nil (passes_call (takes_of rfl rfl rfl rfl) fun _ _ _ _ h => h) h) (a_cons (e_var 3 (pv 3) rfl) a_nil) (by exact (len_cons len_nil)))) (bE (e_callP [] ⟨rfl, rfl⟩ (fun _ => Dens.nil) rfl (fun t h => pe_call (ok__law_plain_b T) (hr.mono (by decide)) (by rfl) T.m__law_plain_b T.f__law_plain_b.kp (b__law_plain_b T) .nil (passes_call (takes_of rfl rfl rfl rfl) fun _ _ _ _ h => h) h) (a_cons (e_var 3 (pv 3) rfl) a_nil) (by exact (len_cons len_nil)))))) (bE (e_callP [] ⟨rfl, rfl⟩ (fun _ => Dens.nil) rfl (fun t h => pe_call (ok__law_plain_c T) (hr.mono (by decide)) (by rfl) T.m__law_plain_c T.f__law_plain_c.kp (b__law_plain_c T) .nil (passes_call (takes_of rfl rfl rfl rfl) fun _ _ _ _ h => h) h) (a_cons (e_var 3 (pv 3) rfl) a_nil) (by exact (len_cons len_nil)))))) (ss_cons (s_if (t_cmp r_ne (op_neX hr.units) (bE (nE (n_lc rfl (tg_tup [7, 8] rfl rfl) rfl rfl (fun wi hi => pe_lc (own := [("name_here", 7), ("caught", 8)]) rfl sc.nd hi (blkOk_by (N := ["script", "state", "turn", "text_here", "spot", "item", "some", "name_here", "caught", "told"]) (sc := defScope (top 75)) (by decide +kernel)) (fun _ _ _ _ _ => (pg_tup rfl (pgs_cons (pg_name (i := 7) sc.nd rfl (by first | exact Or.inl rfl | exact Or.inr rfl)) (pgs_cons (pg_name (i := 8) sc.nd rfl (by first | exact Or.inl rfl | exact Or.inr rfl)) pgs_nil)))) (fun _ _ _ _ _ => (tOne_ok (t_not (t_val (e_callP [] ⟨rfl, rfl⟩ (fun _ => Dens.nil) rfl (fun t h => pe_call (ok__law_is_alone T) (hr.mono (by decide)) (by rfl) T.m__law_is_alone T.f__law_is_alone.kp (b__law_is_alone T) .nil passL h) (a_cons (e_var 8 (pv 8) rfl) (a_cons (e_var 7 (pv 7) rfl) a_nil)) (by exact (len_cons (len_cons len_nil)))))))) (fun _ _ _ _ _ => e_int)) (bE (e_var 6 (pv 6) rfl))))) (bE (nE (n_lst a_nil))) (nomark _)) (ss_one (s_ret e_bl)) ss_nil) (ss_one (s_for rfl rfl (passes_of rfl) (e_callP [] ⟨rfl, rfl⟩ (fun _ => Dens.nil) rfl (fun t h => pe_call (ok__law_held T) (hr.mono (by decide)) (by rfl) T.m__law_held T.f__law_held.kp (b__law_held T) .nil (passes_call (takes_of rfl rfl rfl rfl) fun _ _ _ _ h => h) h) (a_cons (e_var 5 (pv 5) rfl) a_nil) (by exact (len_cons len_nil))) (pg_tup rfl (pgs_cons (pg_name (i := 7) sc.nd rfl (by first | exact Or.inl rfl | exact Or.inr rfl)) (pgs_cons (pg_name (i := 8) sc.nd rfl (by first | exact Or.inl rfl | exact Or.inr rfl)) (pgs_cons (pg_name (i := 9) sc.nd rfl (by first | exact Or.inl rfl | exact Or.inr rfl)) pgs_nil)))) (tg_tup [7, 8, 9] rfl rfl) (ss_one (s_if (PW.pt (w_or (t_not (t_val (e_callP [] ⟨rfl, rfl⟩ (fun _ => Dens.nil) rfl (fun t h => pe_call (ok__law_is_alone T) (hr.mono (by decide)) (by rfl) T.m__law_is_alone T.f__law_is_alone.kp (b__law_is_alone T) .nil (passes_call (takes_of rfl rfl rfl rfl) fun _ _ _ _ h => h) h) (a_cons (e_var 8 (pv 8) rfl) (a_cons (e_var 7 (pv 7) rfl) a_nil)) (by exact (len_cons (len_cons len_nil)))))) (w_or1 (t_cmp r_ne (op_neX hr.units) (bE (e_cb r_reprF (fun t h => pe_callB (cr_reprF hgd hgu) (by rfl) T.g_repr (by decide +kernel) h) (ab_cons (bE (e_var 9 (pv 9) rfl)) ab_nil))) (bE (e_cb r_reprF (fun t h => pe_callB (cr_reprF hgd hgu) (by rfl) T.g_repr (by decide +kernel) h) (ab_cons (bE (e_var 5 (pv 5) rfl)) ab_nil))) (nomark _))))) (ss_one (s_ret e_bl)) ss_nil)))))))) (by exact (len_cons len_nil))) (ss_one (s_ret e_bl)))
end
end My
namespace My
open PySem PySem.Spec L2 VS
theorem gEq_int (a b : Int) : gEq (.int a) (.int b) = some (.bl (a == b)) := rfl
theorem gNe_int (a b : Int) : gNe (.int a) (.int b) = some (.bl (!(a == b))) := rfl
structure Good (k : Nat) (S : DS) : Prop where
  lg : ∀ x ∈ S.large, 0 ≤ x
  ll : S.large.length ≤ 1000
  cl : S.cells.length ≤ 1000
  c0 : ∀ x ∈ S.cells, 0 ≤ x
  l0 : 0 ≤ S.left
  t0 : 0 ≤ S.turn
  t1 : S.turn + k ≤ 1000000000
theorem Good.mono {k j : Nat} {S : DS} (h : Good k S) (l : j ≤ k) : Good j S := ⟨h.lg, h.ll, h.cl, h.c0, h.l0, h.t0, by have := h.t1; omega⟩
abbrev drawW : Nat → MS := whileS (andT (testM (binM gEq (VS.stM 0 fun S => .int S.left) (cM (.int 0)))) (largeT 0)) (popLS 0)
theorem draw_while {env : VS.Env} (he : env[0]? = some (some .st)) : ∀ (n : Nat) (L : List Int) (S : DS) (k : Nat), S.large = L → L.length < n → Good k S → ∃ S', drawW n env S = .ok (.nx env, S') ∧ Good k S'
  | 0, _, _, _, _, h, _ => by omega
  | n + 1, L, S, k, hL, hn, g => by
    have st : VS.stM 0 (fun S => .int S.left) env S = .ok (.int S.left, S) := by simp only [VS.stM, he]
    by_cases h0 : S.left = 0
    · cases hl : S.large with
      | nil =>
        refine ⟨S, ?_, g⟩
        simp only [drawW, whileS, andT, testM, binM, bindM, st, cM, ofO, gEq_int, h0, beq_self_eq_true, if_true, largeT, he, hl, List.isEmpty_nil, Bool.not_true, Bool.false_eq_true, if_false]
      | cons x xs =>
        have g' : Good k { S with left := x, large := xs } := ⟨fun y hy => g.lg y (by rw [hl]; exact List.mem_cons_of_mem _ hy), by have := g.ll; rw [hl] at this; simp at this; show xs.length ≤ 1000; omega, g.cl, g.c0, g.lg x (by rw [hl]; simp), g.t0, g.t1⟩
        obtain ⟨S', h1, h2⟩ := draw_while he n xs { S with left := x, large := xs } k rfl (by rw [← hL, hl] at hn; simp at hn; exact hn) g'
        refine ⟨S', ?_, h2⟩
        have h1' := h1
        unfold drawW at h1'
        simp only [drawW, whileS, andT, testM, binM, bindM, st, cM, ofO, gEq_int, h0, beq_self_eq_true, if_true, largeT, he, hl, List.isEmpty_cons, Bool.not_false, popLS]
        exact h1'
    · refine ⟨S, ?_, g⟩
      have e : (S.left == 0) = false := by simpa using h0
      simp only [drawW, whileS, andT, testM, binM, bindM, st, cM, ofO, gEq_int, e, Bool.false_eq_true, if_false]
theorem lst_ne (ns : List Int) : gNe (.lst (ns.map D.int)) (.lst []) = some (.bl (!ns.isEmpty)) := by
  have h : toPy (.lst (ns.map D.int)) = some (.list (ns.map PyData.int)) := by
    have : ∀ ns : List Int, toPyL (ns.map D.int) = some (ns.map PyData.int) := fun ns => by
      induction ns with
      | nil => rfl
      | cons n ns ih => simp only [List.map_cons, toPyL, toPy, ih]
    simp only [toPy, this, Option.map_some]
  unfold gNe eqD eqD0
  rw [h]
  have e : toPy (.lst []) = some (.list []) := rfl
  rw [e]
  simp only [shaped_ints ns, show SeqAt.shaped (.list []) = true from shaped_ints [], Bool.and_self, if_true, Option.map_some]
  cases ns <;> rfl
theorem divW_lt {x n : Int} (h0 : 0 < n) (h1 : n.natAbs < 2 ^ 2000) : gDivW (.int x) (.int n) = some (.int (x / n)) := by
  have : decide (0 < n ∧ n.natAbs < 2 ^ 2000) = true := decide_eq_true ⟨h0, h1⟩
  simp only [gDivW, gIC, this, if_true]
theorem divW_small {x n : Int} (h0 : 0 < n) (h1 : n < 1073741824) : gDivW (.int x) (.int n) = some (.int (x / n)) := divW_lt h0 (Nat.lt_of_lt_of_le (m := 2 ^ 30) (by omega) (Nat.pow_le_pow_right (by decide) (by decide)))
theorem draw_ok {n : Int} {k : Nat} {S : DS} (h0 : 0 < n) (h1 : n < 1073741824) (g : Good (k + 1) S) : ∃ r S', G__law_draw [.st, .int n] S = .ok (.int r, S') ∧ 0 ≤ r ∧ r < n ∧ Good k S' := by
  obtain ⟨S1, w, g1⟩ := draw_while (env := startE 6 [.st, .int n]) rfl 100000 S.large S (k + 1) rfl (Nat.lt_of_le_of_lt g.ll (by decide)) g
  unfold G__law_draw g__law_draw t__law_draw_1 t__law_draw_2 b__law_draw_3
  have w' : whileS (andT (testM (binM gEq (VS.stM 0 fun S => .int S.left) (cM (.int 0)))) (largeT 0)) (popLS 0) 100000 (startE 6 [.st, .int n]) S = .ok (.nx (startE 6 [.st, .int n]), S1) := w
  simp only [seqS, w']
  by_cases hl : 0 < S1.left
  · refine ⟨S1.left % n, { S1 with left := S1.left / n }, ?_, Int.emod_nonneg _ (by omega), Int.emod_lt_of_pos _ h0, ⟨g1.lg, g1.ll, g1.cl, g1.c0, Int.ediv_nonneg g1.l0 (by omega), g1.t0, by have := g1.t1; show S1.turn + k ≤ _; omega⟩⟩
    have s1 : startE 6 [.st, .int n] = [some .st, some (.int n), none, none, none, none] := rfl
    have d5 : ∀ x, gMod (.int x) (.int n) = some (.int (x % n)) := fun x => by simp only [gIC, h0, decide_true, if_true]
    have d6 : ∀ x, gDivW (.int x) (.int n) = some (.int (x / n)) := fun x => divW_small h0 h1
    simp only [s1, ifS, testM, binM, bindM, VS.stM, List.getElem?_cons_zero, cM, ofO, gII, hl, decide_true, if_true, seqS, asgS, cbM, consA, nilA, gInt, varM, List.getElem?_cons_succ, d5, d6, List.set_cons_succ, List.set_cons_zero, leftS, retS, endS]
  · have hl0 : S1.left = 0 := by have := g1.l0; omega
    have ht := g1.t0
    have ht1 := g1.t1
    generalize et : S1.turn + 1 = t
    have hcell : ∃ c : Int, 0 ≤ c ∧ (ifM (testM (binM gNe (VS.stM 0 fun S => .lst (S.cells.map D.int)) (lstM nilA))) (binM gIxA (VS.stM 0 fun S => .lst (S.cells.map D.int)) (binM gMod (cbM gInt (consA (varM 3) nilA)) (cbM gLenA (consA (VS.stM 0 fun S => .lst (S.cells.map D.int)) nilA)))) (cM (.int 0))) [some .st, some (.int n), none, some (.int t), none, none] { S1 with turn := t } = .ok (.int c, { S1 with turn := t }) := by
      cases hc : S1.cells with
      | nil =>
        refine ⟨0, by omega, ?_⟩
        have e := lst_ne []
        simp only [List.map_nil] at e
        simp [ifM, testM, binM, bindM, VS.stM, lstM, nilA, ofO, hc, e, cM]
      | cons x xs =>
        have hpos : (0 : Int) < ((x :: xs).length : Int) := by simp only [List.length_cons]; omega
        have h1 := Int.emod_nonneg t (Int.ne_of_gt hpos)
        have h2 := Int.emod_lt_of_pos t hpos
        obtain ⟨y, hy⟩ : ∃ y, (x :: xs)[(t % ((x :: xs).length : Int)).toNat]? = some y := ⟨_, List.getElem?_eq_getElem (by omega)⟩
        refine ⟨y, g1.c0 y (by rw [hc]; exact List.mem_of_getElem? hy), ?_⟩
        have e := lst_ne (x :: xs)
        have ix : gIxA (.lst ((x :: xs).map D.int)) (.int (t % ((x :: xs).length : Int))) = some (.int y) := by
          simp only [gIxA, atI, ixN, if_pos h1, List.length_map, if_pos h2, Option.bind_some, List.getElem?_map, hy, Option.map_some]
        simp only [ifM, testM, binM, bindM, VS.stM, List.getElem?_cons_zero, lstM, nilA, List.length_nil, Nat.zero_le, if_true, ofO, hc, e, List.isEmpty_cons, Bool.not_false, cbM, consA, varM, List.getElem?_cons_succ, gInt, gLenA, List.length_map, gMod, gIC, hpos, decide_true, ix]
    obtain ⟨c, c0, hcell⟩ := hcell
    have m0 : 0 ≤ c % 2147483563 := Int.emod_nonneg _ (by omega)
    have m1 : c % 2147483563 < 2147483563 := Int.emod_lt_of_pos _ (by omega)
    have p3 : gPow (.int (c % 2147483563 + 40692 * t + 24681)) (.int 3) = some (.int ((c % 2147483563 + 40692 * t + 24681) ^ 3)) := by
      have : decide (0 ≤ (3 : Int) ∧ (3 : Int) ≤ 1000000 ∧ (c % 2147483563 + 40692 * t + 24681).natAbs < 2 ^ 64) = true := decide_eq_true ⟨by omega, by omega, by omega⟩
      simp only [gPow, gIC, this, if_true]
      rfl
    generalize em : (c % 2147483563 + 40692 * t + 24681) ^ 3 % 2147483629 = m at *
    have q0 : 0 ≤ m := by rw [← em]; exact Int.emod_nonneg _ (by omega)
    have q1 : m < 2147483629 := by rw [← em]; exact Int.emod_lt_of_pos _ (by omega)
    have p5 : gPow (.int (m + 104917 * t)) (.int 5) = some (.int ((m + 104917 * t) ^ 5)) := by
      have : decide (0 ≤ (5 : Int) ∧ (5 : Int) ≤ 1000000 ∧ (m + 104917 * t).natAbs < 2 ^ 64) = true := decide_eq_true ⟨by omega, by omega, by omega⟩
      simp only [gPow, gIC, this, if_true]
      rfl
    refine ⟨(m + 104917 * t) ^ 5 % 2147483579 / 29 % n, { S1 with turn := t }, ?_, Int.emod_nonneg _ (by omega), Int.emod_lt_of_pos _ h0, ⟨g1.lg, g1.ll, g1.cl, g1.c0, g1.l0, by show 0 ≤ t; omega, by show t + k ≤ _; omega⟩⟩
    have mul1 : gMulT (.int 40692) (.int t) = some (.int (40692 * t)) := by simp only [gMulT, gMul]; rw [if_pos (by omega)]
    have mul2 : gMulT (.int 104917) (.int t) = some (.int (104917 * t)) := by simp only [gMulT, gMul]; rw [if_pos (by omega)]
    have d1 : gMod (.int c) (.int 2147483563) = some (.int (c % 2147483563)) := by simp [gIC]
    have d2 : ∀ x, gMod (.int x) (.int 2147483629) = some (.int (x % 2147483629)) := fun x => by simp [gIC]
    have d3 : ∀ x, gMod (.int x) (.int 2147483579) = some (.int (x % 2147483579)) := fun x => by simp [gIC]
    have d4 : ∀ x, gDivW (.int x) (.int 29) = some (.int (x / 29)) := fun x => divW_small (by decide) (by decide)
    have d5 : ∀ x, gMod (.int x) (.int n) = some (.int (x % n)) := fun x => by simp [gIC, h0]
    have s1 : startE 6 [.st, .int n] = [some .st, some (.int n), none, none, none, none] := rfl
    have hlf : decide (0 < S1.left) = false := decide_eq_false hl
    simp only [s1, ifS, testM, binM, bindM, VS.stM, List.getElem?_cons_zero, cM, ofO, gII, hlf, Bool.false_eq_true, if_false, nextS, seqS, asgS, gAdd, et, List.set_cons_succ, List.set_cons_zero, turnS, varM, List.getElem?_cons_succ, hcell, cbM, consA, nilA, gInt, d1, mul1, p3, d2, em, mul2, p5, d3, d4, d5, retS, endS]
end My
namespace My
open PySem PySem.Spec L2 VS
abbrev Trm := List (Int × Int)
structure OkT (many : Int) (ts : Trm) : Prop where
  w : ∀ p ∈ ts, 1 ≤ p.1
  l : ∀ p ∈ ts, 1 ≤ p.2.natAbs ∧ (p.2.natAbs : Int) ≤ many
  inc : (ts.map fun p => p.2.natAbs).Pairwise (· < ·)
theorem atI_nat {α : Type} (xs : List α) (i : Int) (h0 : 0 ≤ i) (h1 : i < xs.length) : ∃ x, xs[i.toNat]? = some x ∧ atI xs i = some x := by
  refine ⟨xs[i.toNat], List.getElem?_eq_getElem (by omega), ?_⟩
  simp only [atI, ixN, if_pos h0, if_pos h1, Option.bind_some]
  exact List.getElem?_eq_getElem (by omega)
theorem pick_ok {ds : List D} {k : Nat} {S : DS} (h : 0 < ds.length) (h1 : ds.length < 1073741824) (g : Good (k + 1) S) : ∃ d S', G__law_pick [.st, .lst ds] S = .ok (d, S') ∧ d ∈ ds ∧ Good k S' := by
  obtain ⟨r, S', e, r0, r1, g'⟩ := draw_ok (n := (ds.length : Int)) (by omega) (by omega) g
  obtain ⟨d, e1, e2⟩ := atI_nat ds r r0 r1
  refine ⟨d, S', ?_, List.mem_of_getElem? e1, g'⟩
  unfold G__law_pick g__law_pick
  simp only [startE, List.map_cons, List.map_nil, List.cons_append, List.nil_append, retS, binM, bindM, varM, List.getElem?_cons_succ, List.getElem?_cons_zero, callS, consA, cbM, nilA, gLenA, ofO, e, gIxA, e2, endS]
theorem loop_inv {set : VS.Env → D → Option VS.Env} {g : MS} (I : Nat → VS.Env → DS → Prop) : ∀ (ds : List D) (i : Nat) (env : VS.Env) (S : DS), I i env S →
    (∀ j d env S, ds[j]? = some d → I (i + j) env S → ∃ env1 env2 S2, set env d = some env1 ∧ g env1 S = .ok (.nx env2, S2) ∧ I (i + j + 1) env2 S2) → ∃ env' S', loopS set g ds env S = .ok (.nx env', S') ∧ I (i + ds.length) env' S'
  | [], i, env, S, h, _ => ⟨env, S, rfl, h⟩
  | d :: ds, i, env, S, h, step => by
    obtain ⟨env1, env2, S2, h1, h2, h3⟩ := step 0 d env S rfl h
    obtain ⟨env', S', h4, h5⟩ := loop_inv I ds (i + 1) env2 S2 h3 fun j d env S hj hi => by
      have e : i + 1 + j = i + (j + 1) := by omega
      rw [e] at hi ⊢
      exact step (j + 1) d env S (by simpa using hj) hi
    refine ⟨env', S', ?_, by rw [List.length_cons, ← Nat.add_assoc, Nat.add_right_comm]; exact h5⟩
    simp only [loopS, h1, h2]
    exact h4
theorem OkT.nil {many : Int} : OkT many [] := ⟨fun p h => (by cases h), fun p h => (by cases h), List.Pairwise.nil⟩
end My
namespace My
open PySem PySem.Spec L2 VS
section
variable {α β : Type} {S : DS}
theorem comp_map {set : VS.Env → D → Option VS.Env} {test : MT} {elt : ME} {env0 : VS.Env} (enc : α → D) (k : α → Bool) (y : α → D) (xs : List α)
    (h : ∀ x ∈ xs, ∃ env1, set env0 (enc x) = some env1 ∧ test env1 S = .ok (k x, S) ∧ (k x = true → elt env1 S = .ok (y x, S))) : compM set test elt env0 (xs.map enc) S = .ok ((xs.filter k).map y, S) := by
  induction xs with
  | nil => rfl
  | cons x xs ih =>
    obtain ⟨env1, h1, h2, h3⟩ := h x List.mem_cons_self
    have ih := ih fun z hz => h z (List.mem_cons_of_mem _ hz)
    simp only [List.map_cons, compM, h1, h2, noX, bindM]
    cases hk : k x with
    | true => simp only [if_true, h3 hk, noX, bindM, ih, List.filter_cons, hk, List.map_cons]
    | false => simp only [Bool.false_eq_true, if_false, ih, List.filter_cons, hk]
end
theorem seq_nx {g1 g2 : MS} {env env' : VS.Env} {S S' : DS} (h : g1 env S = .ok (.nx env', S')) : seqS g1 g2 env S = g2 env' S' := by simp only [seqS, h]
theorem if_no {t : MT} {g1 : MS} {env : VS.Env} {S S' : DS} (h : t env S = .ok (false, S')) : ifS t g1 nextS env S = .ok (.nx env, S') := by simp only [ifS, h, bindM, Bool.false_eq_true, if_false, nextS]
end My
namespace My
open PySem PySem.Spec L2 VS
def ka : List Str := (["BadBound", "BadChoices", "BadCount", "BadDerivation", "BadExchange", "BadExchanges", "BadFilling", "BadFillings"] : List Str) ++ (["BadGoal", "BadGroups", "BadGuide", "BadHands", "BadId", "BadJudge", "BadLeast", "BadLevel"] : List Str) ++ (["BadLiteral", "BadLiterals", "BadLoads", "BadLog", "BadLot", "BadMany", "BadMost", "BadNamed"] : List Str)
def pa : List Str := (["BadBound", "BadChoices", "BadCount", "BadExchange", "BadExchanges", "BadFilling", "BadFillings", "BadGoal"] : List Str) ++ (["BadGroups", "BadGuide", "BadHands", "BadId", "BadJudge", "BadLeast", "BadLevel", "BadLiteral"] : List Str) ++ (["BadLiterals", "BadLoads", "BadLot", "BadMany", "BadMost", "BadNamed", "BadNumber", "BadOrder"] : List Str)
def kb : List Str := (["BadNumber", "BadOrder", "BadOther", "BadPaper", "BadPicks", "BadPlan", "BadPrice", "BadPrices"] : List Str) ++ (["BadProblem", "BadRow", "BadRows", "BadSpot", "BadStep", "BadSum", "BadTerms", "BadText"] : List Str) ++ (["BadTrail", "BadVariable", "BadWays", "BadWitness", "Clashes", "Closed", "IsAssumed", "IsReason"] : List Str)
def pb : List Str := (["BadOther", "BadPicks", "BadPlan", "BadPrice", "BadPrices", "BadProblem", "BadRow", "BadRows"] : List Str) ++ (["BadSpot", "BadStep", "BadSum", "BadTerms", "BadTrail", "BadVariable", "BadWays", "BadWitness"] : List Str) ++ (["Closed", "NoClash", "NoLevel", "NotBySums", "NotClosed", "NotEliminated", "NotEqual", "NotLeaning"] : List Str)
def kc : List Str := (["NoClash", "NoLevel", "NotBySums", "NotClosed", "NotEliminated", "NotEqual", "NotFree", "NotLeaning"] : List Str) ++ (["NotShort", "NotSound", "NotWhole", "TooMany"] : List Str)
def pc : List Str := (["NotShort", "NotSound", "NotWhole"] : List Str)
def hl : List (Str × Str × List Str) := ([("BadDerivation", "index", ["BadDerivation", "BadLog", "BadPaper"]), ("BadDerivation", "index", ["BadDerivation", "BadLog", "BadPaper"]), ("BadLog", "index", ["BadDerivation", "BadLog", "BadPaper"]), ("BadLog", "index", ["BadDerivation", "BadLog", "BadPaper"]), ("BadPaper", "index", ["BadDerivation", "BadLog", "BadPaper"]), ("BadPaper", "index", ["BadDerivation", "BadLog", "BadPaper"])] : List (Str × Str × List Str)) ++ ([("BadText", "line", ["BadText"]), ("BadText", "line", ["BadText"]), ("Clashes", "number", ["Clashes", "IsReason"]), ("Clashes", "number", ["Clashes", "IsReason"]), ("IsAssumed", "literal", ["IsAssumed", "NotFree"]), ("IsAssumed", "literal", ["IsAssumed", "NotFree"])] : List (Str × Str × List Str)) ++ ([("IsReason", "number", ["Clashes", "IsReason"]), ("IsReason", "number", ["Clashes", "IsReason"]), ("NotFree", "literal", ["IsAssumed", "NotFree"]), ("NotFree", "literal", ["IsAssumed", "NotFree"]), ("TooMany", "most", ["TooMany"]), ("TooMany", "most", ["TooMany"])] : List (Str × Str × List Str))
def kS (c : Str) (r : MS) : MS := seqS (appS 1 (ifM (testM (unM (gIsD (leafT errs c)) (varM 0))) (cM (.str c)) (cM (.str "")))) r
def kEnd : MS := retS (lcM (setN 2) (varM 1) (testM (binM gNe (varM 2) (cM (.str "")))) (varM 2) [2])
def pS (c : Str) (r : MS) : MS := seqS (appS 1 (tupM (consA (cM (.str c)) (consA (mkE c (varM 0)) nilA)))) r
def hS (p : Str × Str × List Str) (r : MS) : MS := seqS (asgS 2 (mkF p.1 p.2.1 (consA (varM 0) nilA))) (seqS (appS 1 (tupM (consA (cM (.str p.1)) (consA (varM 2) (consA (unM (gFld p.2.2 p.2.1) (varM 2)) nilA))))) r)
theorem ka_eq : g__law_kinds_a = seqS (asgS 1 (lstM nilA)) (ka.foldr kS kEnd) := rfl
theorem kb_eq : g__law_kinds_b = seqS (asgS 1 (lstM nilA)) (kb.foldr kS kEnd) := rfl
theorem kc_eq : g__law_kinds_c = seqS (asgS 1 (lstM nilA)) (kc.foldr kS kEnd) := rfl
theorem pa_eq : g__law_plain_a = seqS (asgS 1 (lstM nilA)) (pa.foldr pS (retS (varM 1))) := rfl
theorem pb_eq : g__law_plain_b = seqS (asgS 1 (lstM nilA)) (pb.foldr pS (retS (varM 1))) := rfl
theorem pc_eq : g__law_plain_c = seqS (asgS 1 (lstM nilA)) (pc.foldr pS (retS (varM 1))) := rfl
theorem hl_eq : g__law_held = seqS (asgS 1 (lstM nilA)) (hl.foldr hS (retS (varM 1))) := rfl
section
variable {n fl : Str} {ds xs : List D} {y : Option D} {S : DS}
theorem leaf_is {c : Str} (hn : n ∈ errs) : gIsD (leafT errs c) (.exc n fl ds) = some (.bl (n == c)) := by
  show (List.lookup n (leafT errs c)).map _ = _
  unfold leafT
  rw [map_look (f := fun n => n == c) hn]
  rfl
theorem all_is (hn : n ∈ errs) : gIsD (allT errs) (.exc n fl ds) = some (.bl true) := by
  show (List.lookup n (allT errs)).map _ = _
  unfold allT
  rw [map_look (f := fun _ => true) hn]
  rfl
def kf (n c : Str) : Str := if (n == c) = true then c else ""
theorem kS_steps (hn : n ∈ errs) {r : MS} : ∀ (cs : List Str) (xs : List D), xs.length + cs.length ≤ 1000 → (cs.foldr kS r) [some (.exc n fl ds), some (.lst xs), y] S = r [some (.exc n fl ds), some (.lst (xs ++ cs.map fun c => D.str (kf n c))), y] S
  | [], xs, _ => by rw [List.map_nil, List.append_nil]; rfl
  | c :: cs, xs, hl => by
    rw [List.length_cons] at hl
    have e : ifM (testM (unM (gIsD (leafT errs c)) (varM 0))) (cM (.str c)) (cM (.str "")) [some (.exc n fl ds), some (.lst xs), y] S = .ok (.str (kf n c), S) := by
      simp only [ifM, testM, unM, varM, List.getElem?_cons_zero, bindM, ofO, leaf_is hn]
      unfold kf
      cases h : n == c <;> simp [cM]
    have a : appS 1 (ifM (testM (unM (gIsD (leafT errs c)) (varM 0))) (cM (.str c)) (cM (.str ""))) [some (.exc n fl ds), some (.lst xs), y] S = .ok (.nx [some (.exc n fl ds), some (.lst (xs ++ [.str (kf n c)])), y], S) := by
      simp only [appS, List.getElem?_cons_succ, List.getElem?_cons_zero, e, bindM]
      rw [if_pos (by omega)]
      rfl
    show seqS (appS 1 (ifM (testM (unM (gIsD (leafT errs c)) (varM 0))) (cM (.str c)) (cM (.str "")))) (cs.foldr kS r) _ S = _
    rw [seq_nx a, kS_steps hn cs _ (by rw [List.length_append, List.length_singleton]; omega), List.map_cons, List.append_assoc, List.singleton_append]
theorem kEnd_ok {x : Option D} (cs : List Str) (hc : ∀ c ∈ cs, (c == ("" : Str)) = false) : kEnd [x, some (.lst (cs.map fun c => D.str (kf n c))), y] S = .ok (.rt (.lst ((cs.filter (n == ·)).map D.str)), S) := by
  have cl := comp_map (set := setN 2) (test := testM (binM gNe (varM 2) (cM (.str "")))) (elt := varM 2) (env0 := [x, some (.lst (cs.map fun c => D.str (kf n c))), none]) (S := S) (fun c => D.str (kf n c)) (fun c => n == c) (fun c => D.str c) cs fun c hcs => by
    refine ⟨[x, some (.lst (cs.map fun c => D.str (kf n c))), some (.str (kf n c))], rfl, ?_, fun h => ?_⟩
    · have e : gNe (.str (kf n c)) (.str "") = some (.bl (!(kf n c == ("" : Str)))) := rfl
      simp only [testM, binM, varM, cM, List.getElem?_cons_succ, List.getElem?_cons_zero, bindM, ofO, e]
      unfold kf
      cases h : n == c
      · rfl
      · simp only [if_true, hc c hcs, Bool.not_false]
    · simp only [varM, List.getElem?_cons_succ, List.getElem?_cons_zero]
      unfold kf
      rw [if_pos h]
  have hw : wipeE [x, some (.lst (cs.map fun c => D.str (kf n c))), y] [2] = [x, some (.lst (cs.map fun c => D.str (kf n c))), none] := rfl
  unfold kEnd
  simp only [retS, lcM, varM, List.getElem?_cons_succ, List.getElem?_cons_zero, bindM, hw, cl]
theorem kinds_ok {g : MS} {cs : List Str} (hg : g = seqS (asgS 1 (lstM nilA)) (cs.foldr kS kEnd)) (hn : n ∈ errs) (hl : cs.length ≤ 1000) (hc : ∀ c ∈ cs, (c == ("" : Str)) = false) : endP (g (startE 3 [.exc n fl ds]) S0) = .ok (.lst ((cs.filter (n == ·)).map D.str)) := by
  have s : startE 3 [.exc n fl ds] = [some (.exc n fl ds), none, none] := rfl
  have a : asgS 1 (lstM nilA) [some (.exc n fl ds), none, none] S0 = .ok (.nx [some (.exc n fl ds), some (.lst []), none], S0) := rfl
  rw [hg, s, seq_nx a, kS_steps hn cs [] (by simpa using hl), List.nil_append, kEnd_ok cs hc]
  rfl
theorem ne_ka : ∀ c ∈ ka, (c == ("" : Str)) = false := by decide +kernel
theorem ne_kb : ∀ c ∈ kb, (c == ("" : Str)) = false := by decide +kernel
theorem ne_kc : ∀ c ∈ kc, (c == ("" : Str)) = false := by decide +kernel
theorem all_kinds : ∀ n ∈ errs, (ka.filter (n == ·) ++ kb.filter (n == ·)) ++ kc.filter (n == ·) = [n] := by decide +kernel
theorem one_eq : ∀ n ∈ errs, eqD (.lst [.str n]) (.lst [.str n]) = some true := by decide +kernel
theorem add_l {a b : List D} (h : a.length + b.length ≤ 1000000) : gAdd (.lst a) (.lst b) = some (.lst (a ++ b)) := if_pos h
theorem fl_len (cs : List Str) : ((cs.filter (n == ·)).map D.str).length ≤ cs.length := by rw [List.length_map]; exact List.length_filter_le _ _
theorem alone_ok (hn : n ∈ errs) : G__law_is_alone [.exc n fl ds, .str n] = .ok (.bl true) := by
  have s : startE 3 [.exc n fl ds, .str n] = [some (.exc n fl ds), some (.str n), none] := rfl
  have e1 : G__law_kinds_a [.exc n fl ds] = .ok (.lst ((ka.filter (n == ·)).map D.str)) := kinds_ok ka_eq hn (by decide) ne_ka
  have e2 : G__law_kinds_b [.exc n fl ds] = .ok (.lst ((kb.filter (n == ·)).map D.str)) := kinds_ok kb_eq hn (by decide) ne_kb
  have e3 : G__law_kinds_c [.exc n fl ds] = .ok (.lst ((kc.filter (n == ·)).map D.str)) := kinds_ok kc_eq hn (by decide) ne_kc
  have l1 := fl_len (n := n) ka
  have l2 := fl_len (n := n) kb
  have l3 := fl_len (n := n) kc
  have m1 : ka.length = 24 := rfl
  have m2 : kb.length = 24 := rfl
  have m3 : kc.length = 12 := rfl
  have a1 := add_l (a := (ka.filter (n == ·)).map D.str) (b := (kb.filter (n == ·)).map D.str) (by omega)
  have a2 := add_l (a := (ka.filter (n == ·)).map D.str ++ (kb.filter (n == ·)).map D.str) (b := (kc.filter (n == ·)).map D.str) (by rw [List.length_append]; omega)
  have a3 : ((ka.filter (n == ·)).map D.str ++ (kb.filter (n == ·)).map D.str) ++ (kc.filter (n == ·)).map D.str = [.str n] := by
    rw [← List.map_append, ← List.map_append, all_kinds n hn]; rfl
  rw [a3] at a2
  have a4 : gEq (.lst [.str n]) (.lst [.str n]) = some (.bl true) := by unfold gEq; rw [one_eq n hn]; rfl
  have x1 : asgS 2 (binM gAdd (binM gAdd (callP G__law_kinds_a [] (consA (varM 0) nilA)) (callP G__law_kinds_b [] (consA (varM 0) nilA))) (callP G__law_kinds_c [] (consA (varM 0) nilA))) [some (.exc n fl ds), some (.str n), none] S0 = .ok (.nx [some (.exc n fl ds), some (.str n), some (.lst [.str n])], S0) := by
    simp only [asgS, binM, callP, consA, nilA, varM, List.getElem?_cons_succ, List.getElem?_cons_zero, bindM, List.append_nil, e1, e2, e3, liftP, ofO, a1, a2]
    rfl
  have x2 : retS (andV (binM gEq (varM 2) (lstM (consA (varM 1) nilA))) (andV (unM (gIsD (allT errs)) (varM 0)) (unM (gIsD (allT errs)) (varM 0)))) [some (.exc n fl ds), some (.str n), some (.lst [.str n])] S0 = .ok (.rt (.bl true), S0) := by
    have c1 : lstM (consA (varM 1) nilA) [some (.exc n fl ds), some (.str n), some (.lst [.str n])] S0 = .ok (.lst [.str n], S0) := rfl
    simp only [retS, andV, binM, c1, unM, varM, List.getElem?_cons_succ, List.getElem?_cons_zero, bindM, ofO, a4, all_is hn, if_true]
  unfold G__law_is_alone g__law_is_alone
  rw [s, seq_nx x1, x2]
  rfl
def pD (c : Str) : D := .tup [.str c, .exc c "" []]
theorem pS_steps {x : D} {r : MS} : ∀ (cs : List Str) (xs : List D), xs.length + cs.length ≤ 1000 → (cs.foldr pS r) [some x, some (.lst xs)] S = r [some x, some (.lst (xs ++ cs.map pD))] S
  | [], xs, _ => by rw [List.map_nil, List.append_nil]; rfl
  | c :: cs, xs, hl => by
    rw [List.length_cons] at hl
    have a : appS 1 (tupM (consA (cM (.str c)) (consA (mkE c (varM 0)) nilA))) [some x, some (.lst xs)] S = .ok (.nx [some x, some (.lst (xs ++ [pD c]))], S) := by
      have e : tupM (consA (cM (.str c)) (consA (mkE c (varM 0)) nilA)) [some x, some (.lst xs)] S = .ok (pD c, S) := rfl
      simp only [appS, List.getElem?_cons_succ, List.getElem?_cons_zero, e, bindM]
      rw [if_pos (by omega)]
      rfl
    show seqS (appS 1 (tupM (consA (cM (.str c)) (consA (mkE c (varM 0)) nilA)))) (cs.foldr pS r) _ S = _
    rw [seq_nx a, pS_steps cs _ (by rw [List.length_append, List.length_singleton]; omega), List.map_cons, List.append_assoc, List.singleton_append]
theorem plain_ok {g : MS} {x : D} {cs : List Str} (hg : g = seqS (asgS 1 (lstM nilA)) (cs.foldr pS (retS (varM 1)))) (hl : cs.length ≤ 1000) : endP (g (startE 2 [x]) S0) = .ok (.lst (cs.map pD)) := by
  have s : startE 2 [x] = [some x, none] := rfl
  have a : asgS 1 (lstM nilA) [some x, none] S0 = .ok (.nx [some x, some (.lst [])], S0) := rfl
  rw [hg, s, seq_nx a, pS_steps cs [] (by simpa using hl), List.nil_append]
  rfl
theorem pl_a {x : D} : G__law_plain_a [x] = .ok (.lst (pa.map pD)) := plain_ok pa_eq (by decide)
theorem pl_b {x : D} : G__law_plain_b [x] = .ok (.lst (pb.map pD)) := plain_ok pb_eq (by decide)
theorem pl_c {x : D} : G__law_plain_c [x] = .ok (.lst (pc.map pD)) := plain_ok pc_eq (by decide)
theorem pl_errs : ∀ c ∈ (pa ++ pb) ++ pc, c ∈ errs := by decide +kernel
def hD (x : D) (p : Str × Str × List Str) : D := .tup [.str p.1, .exc p.1 p.2.1 [x], x]
theorem hS_steps {x : D} {r : MS} : ∀ (cs : List (Str × Str × List Str)) (xs : List D) (y : Option D), (∀ p ∈ cs, p.2.2.contains p.1 = true) → xs.length + cs.length ≤ 1000 → ∃ y', (cs.foldr hS r) [some x, some (.lst xs), y] S = r [some x, some (.lst (xs ++ cs.map (hD x))), y'] S
  | [], xs, y, _, _ => ⟨y, by rw [List.map_nil, List.append_nil]; rfl⟩
  | p :: cs, xs, y, hk, hl => by
    rw [List.length_cons] at hl
    have a1 : asgS 2 (mkF p.1 p.2.1 (consA (varM 0) nilA)) [some x, some (.lst xs), y] S = .ok (.nx [some x, some (.lst xs), some (.exc p.1 p.2.1 [x])], S) := rfl
    have g1 : gFld p.2.2 p.2.1 (.exc p.1 p.2.1 [x]) = some x := if_pos ⟨hk p (List.mem_cons_self ..), rfl⟩
    have e : tupM (consA (cM (.str p.1)) (consA (varM 2) (consA (unM (gFld p.2.2 p.2.1) (varM 2)) nilA))) [some x, some (.lst xs), some (.exc p.1 p.2.1 [x])] S = .ok (hD x p, S) := by
      simp only [tupM, consA, cM, varM, unM, nilA, List.getElem?_cons_succ, List.getElem?_cons_zero, bindM, ofO, g1]
      rfl
    have a2 : appS 1 (tupM (consA (cM (.str p.1)) (consA (varM 2) (consA (unM (gFld p.2.2 p.2.1) (varM 2)) nilA)))) [some x, some (.lst xs), some (.exc p.1 p.2.1 [x])] S = .ok (.nx [some x, some (.lst (xs ++ [hD x p])), some (.exc p.1 p.2.1 [x])], S) := by
      simp only [appS, List.getElem?_cons_succ, List.getElem?_cons_zero, e, bindM]
      rw [if_pos (by omega)]
      rfl
    obtain ⟨y', h⟩ := hS_steps (x := x) (r := r) cs (xs ++ [hD x p]) (some (.exc p.1 p.2.1 [x])) (fun q hq => hk q (List.mem_cons_of_mem _ hq)) (by rw [List.length_append, List.length_singleton]; omega)
    refine ⟨y', ?_⟩
    rw [List.foldr_cons]
    rw [show hS p (cs.foldr hS r) = seqS (asgS 2 (mkF p.1 p.2.1 (consA (varM 0) nilA))) (seqS (appS 1 (tupM (consA (cM (.str p.1)) (consA (varM 2) (consA (unM (gFld p.2.2 p.2.1) (varM 2)) nilA))))) (cs.foldr hS r)) from rfl]
    rw [seq_nx a1, seq_nx a2, h, List.map_cons, List.append_assoc, List.singleton_append]
theorem hl_known : ∀ p ∈ hl, p.2.2.contains p.1 = true := by decide +kernel
theorem hl_errs : ∀ p ∈ hl, p.1 ∈ errs := by decide +kernel
theorem held_ok {x : D} : G__law_held [x] = .ok (.lst (hl.map (hD x))) := by
  have s : startE 3 [x] = [some x, none, none] := rfl
  have a : asgS 1 (lstM nilA) [some x, none, none] S0 = .ok (.nx [some x, some (.lst []), none], S0) := rfl
  obtain ⟨y', h⟩ := hS_steps (S := S0) (x := x) (r := retS (varM 1)) hl [] none hl_known (by decide)
  unfold G__law_held
  rw [hl_eq, s, seq_nx a, h, List.nil_append]
  rfl
end
end My
namespace My
open PySem PySem.Spec L2 VS
theorem begun_good (ns : List Int) (hn : ns.length ≤ 63) : Good 100000 (begun ns) := by
  refine ⟨fun x hx => ?_, ?_, ?_, fun x hx => ?_, by show (0 : Int) ≤ 0; omega, by show (0 : Int) ≤ 0; omega, by show (0 : Int) + 100000 ≤ 1000000000; omega⟩
  · simp only [begun, List.mem_map, List.mem_filter] at hx
    obtain ⟨y, ⟨_, h⟩, rfl⟩ := hx
    have := of_decide_eq_true h
    omega
  · have : (begun ns).large.length ≤ ns.length := by
      simp only [begun, List.length_map]
      exact Nat.le_trans (List.length_filter_le _ _) (by simp)
    omega
  · simp only [begun, List.length_map]; omega
  · simp only [begun, List.mem_map] at hx
    obtain ⟨y, _, rfl⟩ := hx
    omega
theorem range_m (a b : Int) (ns : List Int) (h0 : 0 ≤ a) (h1 : 0 ≤ b) (h2 : a + b ≤ 1000) : ∃ m : Nat, (m : Int) ≤ a + b ∧ rangeOf [.int (a + (if (b : Int) < (ns.length : Int) then b else (ns.length : Int)))] = some (intsD 0 m) := by
  refine ⟨(a + (if (b : Int) < (ns.length : Int) then b else (ns.length : Int))).toNat, by split <;> omega, ?_⟩
  simp only [rangeOf]
  rw [if_pos (by split <;> omega)]
theorem lcR_ok {set : VS.Env → D → Option VS.Env} {f : ME} {test : MT} {elt : ME} {vs : List Nat} {env : VS.Env} {S S1 : DS} {d : D} {xs : List D} (h1 : f env S = .ok (d, S1)) (hr : rangeOf [d] = some xs) (hz : xs.length ≤ 1000000) : lcR set (consA f nilA) test elt vs env S = bindM (compM set test elt (wipeE env vs) xs S1) fun ys S2 => .ok (.lst ys, S2) := by
  simp only [lcR, consA, h1, nilA, bindM, hr]
  rw [if_pos hz]
theorem forR_ok {set : VS.Env → D → Option VS.Env} {f : ME} {g : MS} {env : VS.Env} {S S1 : DS} {d : D} {xs : List D} {R : Res (Fl × DS)} (h : f env S = .ok (d, S1)) (hr : rangeOf [d] = some xs) (hl : loopS set g xs env S1 = R) : forR set (consA f nilA) g env S = R := by
  simp only [forR, consA, h, nilA, bindM, hr, hl]
theorem comp_str {set : VS.Env → D → Option VS.Env} {elt : ME} {env0 : VS.Env} {P : Str → Prop} : ∀ (xs : List D) (k : Nat) (S : DS), Good (xs.length + k) S →
    (∀ x ∈ xs, ∀ (k : Nat) (S : DS), Good (1 + k) S → ∃ env1 y S', set env0 x = some env1 ∧ elt env1 S = .ok (.str y, S') ∧ P y ∧ Good k S') → ∃ (ys : List Str) (S' : DS), compM set (fun _ S => .ok (true, S)) elt env0 xs S = .ok (ys.map D.str, S') ∧ ys.length = xs.length ∧ (∀ y ∈ ys, P y) ∧ Good k S'
  | [], k, S, g, _ => ⟨[], S, rfl, rfl, fun y h => (by cases h), g.mono (by simp)⟩
  | x :: xs, k, S, g, h => by
    obtain ⟨env1, y, S1, h1, h2, h3, g1⟩ := h x (List.mem_cons_self ..) (xs.length + k) S (g.mono (by rw [List.length_cons]; omega))
    obtain ⟨ys, S2, h4, h5, h6, g2⟩ := comp_str xs k S1 g1 fun z hz => h z (List.mem_cons_of_mem _ hz)
    refine ⟨y :: ys, S2, ?_, by rw [List.length_cons, List.length_cons, h5], fun z hz => ?_, g2⟩
    · simp only [List.map_cons, compM, h1, noX, bindM, if_true, h2, h4]
    · rcases List.mem_cons.mp hz with rfl | hz
      · exact h3
      · exact h6 z hz
theorem strs_map : ∀ ys : List Str, strsD (ys.map D.str) = some ys
  | [] => rfl
  | y :: ys => by
    show (strsD (ys.map D.str)).map (y :: ·) = _
    rw [strs_map ys]
    rfl
theorem sum_one : ∀ {ys : List Str}, (∀ y ∈ ys, y.length = 1) → (ys.map fun (y : Str) => y.length).sum = ys.length
  | [], _ => rfl
  | y :: ys, h => by
    rw [List.map_cons, List.sum_cons, sum_one fun z hz => h z (List.mem_cons_of_mem _ hz), h y (List.mem_cons_self ..), List.length_cons, Nat.add_comm]
def chL : List D := [.str "a", .str "b", .str " ", .str "0", .str "-"]
def chS : List Str := ["a", "b", " ", "0", "-"]
theorem ch_one : ∀ x ∈ chS, x.length = 1 := by decide +kernel
theorem ch_str : ∀ d ∈ chL, ∃ x, d = .str x ∧ x.length = 1 := fun d hd => by
  have e : chL = chS.map D.str := rfl
  rw [e] at hd
  obtain ⟨x, hx, rfl⟩ := List.mem_map.mp hd
  exact ⟨x, rfl, ch_one x hx⟩
def oddL : List D := [.non, .bl true, .bl false, .str "0", .str "", .lst [], .dct [] [], .tup [.non], .tup [.str "a", .int 1], .lst [.lst [.int 0]], .dct [.inl 0] [.int 0], .tup [.bl true], .tup [.tup []]]
section
variable {S : DS} {k : Nat} {scr : D} {x2 x3 x4 x5 x6 x7 x8 x9 : Option D}
abbrev eK (scr : D) (x2 x3 x4 x5 x6 x7 x8 x9 : Option D) : VS.Env := [some scr, some .st, x2, x3, x4, x5, x6, x7, x8, x9]
theorem odd_ok (g : Good (k + 1) S) : ∃ d S', G__law_odd [.st] S = .ok (d, S') ∧ d ∈ oddL ∧ Good k S' := by
  obtain ⟨d, S', e, hd, g'⟩ := pick_ok (ds := oddL) (k := k) (by decide) (by decide) g
  refine ⟨d, S', ?_, hd, g'⟩
  have s1 : startE 1 [.st] = [some .st] := rfl
  have l : ∀ env S, (lstM (consA (cM .non) (consA (cM (.bl true)) (consA (cM (.bl false)) (consA (cM (.str "0")) (consA (cM (.str "")) (consA (lstM nilA) (consA (cM (.dct [] [])) (consA (tupM (consA (cM .non) nilA)) (consA (tupM (consA (cM (.str "a")) (consA (cM (.int 1)) nilA))) (consA (lstM (consA (lstM (consA (cM (.int 0)) nilA)) nilA)) (consA (cM (.dct [.inl 0] [.int 0])) (consA (tupM (consA (cM (.bl true)) nilA)) (consA (tupM (consA (tupM nilA) nilA)) nilA)))))))))))))) env S = .ok (.lst oddL, S) := fun _ _ => rfl
  unfold G__law_odd g__law_odd
  generalize hX : (lstM (consA (cM .non) (consA (cM (.bl true)) (consA (cM (.bl false)) (consA (cM (.str "0")) (consA (cM (.str "")) (consA (lstM nilA) (consA (cM (.dct [] [])) (consA (tupM (consA (cM .non) nilA)) (consA (tupM (consA (cM (.str "a")) (consA (cM (.int 1)) nilA))) (consA (lstM (consA (lstM (consA (cM (.int 0)) nilA)) nilA)) (consA (cM (.dct [.inl 0] [.int 0])) (consA (tupM (consA (cM (.bl true)) nilA)) (consA (tupM (consA (tupM nilA) nilA)) nilA)))))))))))))) = X at l ⊢
  simp only [startE, List.map_cons, List.map_nil, Nat.reduceSub, List.replicate_succ, List.replicate_zero, seqS, ifS, retS, asgS, dropS, nextS, retN, unpS, parS, par3S, parOS, appS, setA, popM, nxSet, nxUnp, appPopM, forS, forR, forE, raiseS, varM, cM, unM, binM, chM, tupM, lstM, nilA, consA, testM, andT, orT, notT, andV, orV, notV, ifM, cbM, callP, callS, bindM, ofO, liftP, endP, endS, get2M, gGet2, VS.keyD, setAll, setN, setT, wipeE, List.getElem?_cons_zero, List.getElem?_cons_succ, List.set_cons_zero, List.set_cons_succ, List.append_nil, List.cons_append, List.nil_append, List.length_cons, List.length_nil, Nat.zero_add, Nat.reduceAdd, Nat.reduceLeDiff, Nat.zero_le, if_true, if_false, Bool.false_eq_true, Bool.not_true, Bool.not_false, gII, gAdd, gEq_int, gNe_int, reduceCtorEq, s1, l, e]
theorem s2_ok (g : Good (9 + k) S) : ∃ x S', s_law_k00_2 (eK scr x2 x3 x4 x5 x6 x7 x8 x9) S = .ok (.nx (eK scr x2 (some (.str x)) x4 x5 x6 x7 x8 x9), S') ∧ Good k S' := by
  obtain ⟨r, S1, e1, r0, r1, g1⟩ := draw_ok (n := 9) (k := 8 + k) (by omega) (by omega) (g.mono (by omega))
  have c1 : callS G__law_draw (consA (varM 1) (consA (cM (.int 9)) nilA)) (eK scr x2 x3 x4 x5 x6 x7 x8 x9) S = .ok (.int r, S1) := by
    simp only [startE, List.map_cons, List.map_nil, Nat.reduceSub, List.replicate_succ, List.replicate_zero, seqS, ifS, retS, asgS, dropS, nextS, retN, unpS, parS, par3S, parOS, appS, setA, popM, nxSet, nxUnp, appPopM, forS, forR, forE, raiseS, varM, cM, unM, binM, chM, tupM, lstM, nilA, consA, testM, andT, orT, notT, andV, orV, notV, ifM, cbM, callP, callS, bindM, ofO, liftP, endP, endS, get2M, gGet2, VS.keyD, setAll, setN, setT, wipeE, List.getElem?_cons_zero, List.getElem?_cons_succ, List.set_cons_zero, List.set_cons_succ, List.append_nil, List.cons_append, List.nil_append, List.length_cons, List.length_nil, Nat.zero_add, Nat.reduceAdd, Nat.reduceLeDiff, Nat.zero_le, if_true, if_false, Bool.false_eq_true, Bool.not_true, Bool.not_false, gII, gAdd, gEq_int, gNe_int, reduceCtorEq, e1]
  have hr : rangeOf [.int r] = some (intsD 0 r.toNat) := by
    simp only [rangeOf]
    rw [if_pos (by omega)]
  have hl : (intsD 0 r.toNat).length = r.toNat := intsD_len _ _
  obtain ⟨ys, S2, h1, h2, h3, g2⟩ := comp_str (set := setN 4) (elt := e_law_k00_1) (env0 := eK scr x2 x3 none x5 x6 x7 x8 x9) (P := fun y => y.length = 1) (intsD 0 r.toNat) k S1 (g1.mono (by omega)) fun x _ k S g => by
    obtain ⟨d, S', e, hd, g'⟩ := pick_ok (ds := chL) (k := k) (by decide) (by decide) (g.mono (by omega))
    obtain ⟨y, rfl, hy⟩ := ch_str d hd
    refine ⟨eK scr x2 x3 (some x) x5 x6 x7 x8 x9, y, S', rfl, ?_, hy, g'⟩
    have l : lstM (consA (cM (.str "a")) (consA (cM (.str "b")) (consA (cM (.str " ")) (consA (cM (.str "0")) (consA (cM (.str "-")) nilA))))) (eK scr x2 x3 (some x) x5 x6 x7 x8 x9) S = .ok (.lst chL, S) := rfl
    unfold e_law_k00_1
    generalize (lstM (consA (cM (.str "a")) (consA (cM (.str "b")) (consA (cM (.str " ")) (consA (cM (.str "0")) (consA (cM (.str "-")) nilA)))))) = Y at l ⊢
    simp only [callS, consA, varM, nilA, List.getElem?_cons_succ, List.getElem?_cons_zero, bindM, l, e]
  have c2 := lcR_ok (set := setN 4) (test := fun _ S => .ok (true, S)) (elt := e_law_k00_1) (vs := [4]) c1 hr (by omega)
  have hw : wipeE (eK scr x2 x3 x4 x5 x6 x7 x8 x9) [4] = eK scr x2 x3 none x5 x6 x7 x8 x9 := rfl
  rw [hw, h1] at c2
  refine ⟨Txt.join "" ys, S2, ?_, g2⟩
  have hs := sum_one h3
  have z : (ys.map fun (y : Str) => y.length).sum + ys.length * (("" : Str).length) ≤ 16777216 := by
    have : ("" : Str).length = 0 := rfl
    rw [hs, this]; omega
  have j : joinM (cM (.str "")) (lcR (setN 4) (consA (callS G__law_draw (consA (varM 1) (consA (cM (.int 9)) nilA))) nilA) (fun _ S => .ok (true, S)) e_law_k00_1 [4]) (eK scr x2 x3 x4 x5 x6 x7 x8 x9) S = .ok (.str (Txt.join "" ys), S2) := by
    unfold joinM
    simp only [cM, bindM, c2, strs_map]
    rw [if_pos z]
  unfold s_law_k00_2
  simp only [asgS, j, bindM]
  rfl
def Tell (d : D) : Prop := ∃ r, gReprF [d] = some (.str r)
theorem tell_str {x : Str} (h : (reprText x).length ≤ 1000000) : Tell (.str x) := ⟨reprText x, show (if (reprText x).length ≤ 1000000 then some (D.str (reprText x)) else none) = _ from if_pos h⟩
theorem tell_odd : ∀ d ∈ oddL, Tell d := fun d hd => by
  simp only [oddL, List.mem_cons, List.not_mem_nil, or_false] at hd
  rcases hd with rfl | rfl | rfl | rfl | rfl | rfl | rfl | rfl | rfl | rfl | rfl | rfl | rfl
  · exact ⟨_, rfl⟩
  · exact ⟨_, rfl⟩
  · exact ⟨_, rfl⟩
  · exact tell_str (by decide +kernel)
  · exact tell_str (by decide +kernel)
  · exact ⟨_, rfl⟩
  · exact ⟨_, rfl⟩
  · exact ⟨_, rfl⟩
  · exact ⟨(PyData.tuple [.str "a", .int 1]).shown, show (if reprOk (PyData.tuple [.str "a", .int 1]) = true then some (D.str (PyData.tuple [.str "a", .int 1]).shown) else none) = _ from if_pos (by decide +kernel)⟩
  all_goals exact ⟨_, rfl⟩
theorem tell_int {i : Int} (h : i.natAbs < 2 ^ 200) : Tell (.int i) := by
  refine ⟨toString i, ?_⟩
  have e : i.natAbs.log2 < 1920 := by
    by_cases z : i.natAbs = 0
    · rw [z]; decide
    · exact Nat.lt_of_lt_of_le ((Nat.log2_lt z).mpr h) (by decide)
  show (if i.natAbs.log2 < 1920 then some (D.str (toString i)) else none) = _
  rw [if_pos e]
theorem s3_ok (g : Good (3 + k) S) : ∃ x S', s_law_k00_3 (eK scr x2 x3 x4 x5 x6 x7 x8 x9) S = .ok (.nx (eK scr x2 x3 x4 (some x) x6 x7 x8 x9), S') ∧ Tell x ∧ Good k S' := by
  obtain ⟨o, S1, e1, ho, g1⟩ := odd_ok (k := 2 + k) (g.mono (by omega))
  obtain ⟨r, S2, e2, r0, r1, g2⟩ := draw_ok (n := 41) (k := 1 + k) (by omega) (by omega) (g1.mono (by omega))
  obtain ⟨d, S3, e3, hd, g3⟩ := pick_ok (ds := [o, .int (r - 20), .tup [.int 0, .int 1], .str "row", .int (10 ^ 8)]) (k := k) (by simp) (by simp) (g2.mono (by omega))
  refine ⟨d, S3, ?_, ?_, g3⟩
  · have c1 : callS G__law_odd (consA (varM 1) nilA) (eK scr x2 x3 x4 x5 x6 x7 x8 x9) S = .ok (o, S1) := by
      simp only [startE, List.map_cons, List.map_nil, Nat.reduceSub, List.replicate_succ, List.replicate_zero, seqS, ifS, retS, asgS, dropS, nextS, retN, unpS, parS, par3S, parOS, appS, setA, popM, nxSet, nxUnp, appPopM, forS, forR, forE, raiseS, varM, cM, unM, binM, chM, tupM, lstM, nilA, consA, testM, andT, orT, notT, andV, orV, notV, ifM, cbM, callP, callS, bindM, ofO, liftP, endP, endS, get2M, gGet2, VS.keyD, setAll, setN, setT, wipeE, List.getElem?_cons_zero, List.getElem?_cons_succ, List.set_cons_zero, List.set_cons_succ, List.append_nil, List.cons_append, List.nil_append, List.length_cons, List.length_nil, Nat.zero_add, Nat.reduceAdd, Nat.reduceLeDiff, Nat.zero_le, if_true, if_false, Bool.false_eq_true, Bool.not_true, Bool.not_false, gII, gAdd, gEq_int, gNe_int, reduceCtorEq, e1]
    have c2 : binM gSub (callS G__law_draw (consA (varM 1) (consA (cM (.int 41)) nilA))) (cM (.int 20)) (eK scr x2 x3 x4 x5 x6 x7 x8 x9) S1 = .ok (.int (r - 20), S2) := by
      have q : gSub (.int r) (.int 20) = some (.int (r - 20)) := rfl
      simp only [startE, List.map_cons, List.map_nil, Nat.reduceSub, List.replicate_succ, List.replicate_zero, seqS, ifS, retS, asgS, dropS, nextS, retN, unpS, parS, par3S, parOS, appS, setA, popM, nxSet, nxUnp, appPopM, forS, forR, forE, raiseS, varM, cM, unM, binM, chM, tupM, lstM, nilA, consA, testM, andT, orT, notT, andV, orV, notV, ifM, cbM, callP, callS, bindM, ofO, liftP, endP, endS, get2M, gGet2, VS.keyD, setAll, setN, setT, wipeE, List.getElem?_cons_zero, List.getElem?_cons_succ, List.set_cons_zero, List.set_cons_succ, List.append_nil, List.cons_append, List.nil_append, List.length_cons, List.length_nil, Nat.zero_add, Nat.reduceAdd, Nat.reduceLeDiff, Nat.zero_le, if_true, if_false, Bool.false_eq_true, Bool.not_true, Bool.not_false, gII, gAdd, gEq_int, gNe_int, reduceCtorEq, e2, q]
    have c3 : consA (tupM (consA (cM (.int 0)) (consA (cM (.int 1)) nilA))) (consA (cM (.str "row")) (consA (binM gPow (cM (.int 10)) (cM (.int 8))) nilA)) (eK scr x2 x3 x4 x5 x6 x7 x8 x9) S2 = .ok ([.tup [.int 0, .int 1], .str "row", .int (10 ^ 8)], S2) := rfl
    have l : lstM (consA (callS G__law_odd (consA (varM 1) nilA)) (consA (binM gSub (callS G__law_draw (consA (varM 1) (consA (cM (.int 41)) nilA))) (cM (.int 20))) (consA (tupM (consA (cM (.int 0)) (consA (cM (.int 1)) nilA))) (consA (cM (.str "row")) (consA (binM gPow (cM (.int 10)) (cM (.int 8))) nilA))))) (eK scr x2 x3 x4 x5 x6 x7 x8 x9) S = .ok (.lst [o, .int (r - 20), .tup [.int 0, .int 1], .str "row", .int (10 ^ 8)], S2) := by
      generalize (consA (tupM (consA (cM (.int 0)) (consA (cM (.int 1)) nilA))) (consA (cM (.str "row")) (consA (binM gPow (cM (.int 10)) (cM (.int 8))) nilA))) = Y at c3 ⊢
      generalize callS G__law_odd (consA (varM 1) nilA) = Y1 at c1 ⊢
      generalize binM gSub (callS G__law_draw (consA (varM 1) (consA (cM (.int 41)) nilA))) (cM (.int 20)) = Y2 at c2 ⊢
      simp only [lstM, consA, bindM, c1, c2, c3]
      rfl
    unfold s_law_k00_3
    generalize lstM (consA (callS G__law_odd (consA (varM 1) nilA)) (consA (binM gSub (callS G__law_draw (consA (varM 1) (consA (cM (.int 41)) nilA))) (cM (.int 20))) (consA (tupM (consA (cM (.int 0)) (consA (cM (.int 1)) nilA))) (consA (cM (.str "row")) (consA (binM gPow (cM (.int 10)) (cM (.int 8))) nilA))))) = Y at l ⊢
    simp only [asgS, callS, consA, varM, nilA, List.getElem?_cons_succ, List.getElem?_cons_zero, bindM, l, e3]
    rfl
  · simp only [List.mem_cons, List.not_mem_nil, or_false] at hd
    rcases hd with rfl | rfl | rfl | rfl | rfl
    · exact tell_odd _ ho
    · exact tell_int (Nat.lt_of_lt_of_le (show (r - 20).natAbs < 2 ^ 5 by omega) (Nat.pow_le_pow_right (by omega) (by omega)))
    · exact ⟨_, rfl⟩
    · exact tell_str (by decide +kernel)
    · exact tell_int (Nat.lt_of_lt_of_le (show ((10 : Int) ^ 8).natAbs < 2 ^ 27 by decide) (Nat.pow_le_pow_right (by omega) (by omega)))
def someL : List D := ((pa ++ pb) ++ pc).map pD
theorem s4_ok : s_law_k00_4 (eK scr x2 (some x) x4 x5 x6 x7 x8 x9) S = .ok (.nx (eK scr x2 (some x) x4 x5 (some (.lst someL)) x7 x8 x9), S) := by
  have a1 := add_l (a := pa.map pD) (b := pb.map pD) (by rw [List.length_map, List.length_map]; decide)
  have a2 := add_l (a := pa.map pD ++ pb.map pD) (b := pc.map pD) (by rw [List.length_append, List.length_map, List.length_map, List.length_map]; decide)
  have e : someL = (pa.map pD ++ pb.map pD) ++ pc.map pD := by unfold someL; rw [List.map_append, List.map_append]
  rw [← e] at a2
  unfold s_law_k00_4
  simp only [asgS, binM, callP, consA, nilA, varM, List.getElem?_cons_succ, List.getElem?_cons_zero, bindM, List.append_nil, pl_a, pl_b, pl_c, liftP, ofO, a1, a2]
  rfl
theorem t6_ok : t_law_k00_6 (eK scr x2 x3 x4 x5 (some (.lst someL)) x7 x8 x9) S = .ok (false, S) := by
  have cl := comp_map (set := setT [7, 8]) (test := t_law_k00_5) (elt := cM (.int 1)) (env0 := eK scr x2 x3 x4 x5 (some (.lst someL)) none none x9) (S := S) pD (fun _ => false) (fun _ => .int 1) ((pa ++ pb) ++ pc) fun c hc => by
    refine ⟨eK scr x2 x3 x4 x5 (some (.lst someL)) (some (.str c)) (some (.exc c "" [])) x9, rfl, ?_, fun h => (by cases h)⟩
    have e := alone_ok (fl := "") (ds := []) (pl_errs c hc)
    unfold t_law_k00_5
    simp only [startE, List.map_cons, List.map_nil, Nat.reduceSub, List.replicate_succ, List.replicate_zero, seqS, ifS, retS, asgS, dropS, nextS, retN, unpS, parS, par3S, parOS, appS, setA, popM, nxSet, nxUnp, appPopM, forS, forR, forE, raiseS, varM, cM, unM, binM, chM, tupM, lstM, nilA, consA, testM, andT, orT, notT, andV, orV, notV, ifM, cbM, callP, callS, bindM, ofO, liftP, endP, endS, get2M, gGet2, VS.keyD, setAll, setN, setT, wipeE, List.getElem?_cons_zero, List.getElem?_cons_succ, List.set_cons_zero, List.set_cons_succ, List.append_nil, List.cons_append, List.nil_append, List.length_cons, List.length_nil, Nat.zero_add, Nat.reduceAdd, Nat.reduceLeDiff, Nat.zero_le, if_true, if_false, Bool.false_eq_true, Bool.not_true, Bool.not_false, gII, gAdd, gEq_int, gNe_int, reduceCtorEq, e]
  have hf : (((pa ++ pb) ++ pc).filter fun _ => false) = [] := List.filter_eq_nil_iff.mpr fun _ _ => Bool.false_ne_true
  rw [hf] at cl
  have hs : ((pa ++ pb) ++ pc).map pD = someL := rfl
  rw [hs] at cl
  have hw : wipeE (eK scr x2 x3 x4 x5 (some (.lst someL)) x7 x8 x9) [7, 8] = eK scr x2 x3 x4 x5 (some (.lst someL)) none none x9 := rfl
  have l : lcM (setT [7, 8]) (varM 6) t_law_k00_5 (cM (.int 1)) [7, 8] (eK scr x2 x3 x4 x5 (some (.lst someL)) x7 x8 x9) S = .ok (.lst [], S) := by
    simp only [lcM, varM, List.getElem?_cons_succ, List.getElem?_cons_zero, bindM, hw, cl, List.map_nil]
  have n : gNe (.lst []) (.lst []) = some (.bl false) := rfl
  have l2 : lstM nilA (eK scr x2 x3 x4 x5 (some (.lst someL)) x7 x8 x9) S = .ok (.lst [], S) := rfl
  unfold t_law_k00_6
  simp only [testM, binM, bindM, l, l2, ofO, n]
theorem ne_str (r : Str) : gNe (.str r) (.str r) = some (.bl false) := by
  show some (D.bl (!(r == r))) = _
  rw [beq_self_eq_true]
  rfl
theorem s8_ok {x : D} (hx : Tell x) : ∃ y7 y8 y9, s_law_k00_8 (eK scr x2 x3 x4 (some x) x6 x7 x8 x9) S = .ok (.nx (eK scr x2 x3 x4 (some x) x6 y7 y8 y9), S) := by
  obtain ⟨r, hr⟩ := hx
  obtain ⟨env', S', h1, y7, y8, y9, rfl, rfl⟩ := loop_inv (set := setT [7, 8, 9]) (g := ifS t_law_k00_7 (retS (cM (.bl false))) nextS) (fun _ env S1 => ∃ y7 y8 y9, env = eK scr x2 x3 x4 (some x) x6 y7 y8 y9 ∧ S1 = S) (hl.map (hD x)) 0 (eK scr x2 x3 x4 (some x) x6 x7 x8 x9) S ⟨x7, x8, x9, rfl, rfl⟩ (fun j d env S1 hj ⟨y7, y8, y9, he, hS⟩ => by
    subst he hS
    obtain ⟨p, hp, rfl⟩ := List.mem_map.mp (List.mem_of_getElem? hj)
    refine ⟨eK scr x2 x3 x4 (some x) x6 (some (.str p.1)) (some (.exc p.1 p.2.1 [x])) (some x), eK scr x2 x3 x4 (some x) x6 (some (.str p.1)) (some (.exc p.1 p.2.1 [x])) (some x), S1, rfl, ?_, _, _, _, rfl, rfl⟩
    refine if_no ?_
    have e := alone_ok (fl := p.2.1) (ds := [x]) (hl_errs p hp)
    have n := ne_str r
    unfold t_law_k00_7
    simp only [startE, List.map_cons, List.map_nil, Nat.reduceSub, List.replicate_succ, List.replicate_zero, seqS, ifS, retS, asgS, dropS, nextS, retN, unpS, parS, par3S, parOS, appS, setA, popM, nxSet, nxUnp, appPopM, forS, forR, forE, raiseS, varM, cM, unM, binM, chM, tupM, lstM, nilA, consA, testM, andT, orT, notT, andV, orV, notV, ifM, cbM, callP, callS, bindM, ofO, liftP, endP, endS, get2M, gGet2, VS.keyD, setAll, setN, setT, wipeE, List.getElem?_cons_zero, List.getElem?_cons_succ, List.set_cons_zero, List.set_cons_succ, List.append_nil, List.cons_append, List.nil_append, List.length_cons, List.length_nil, Nat.zero_add, Nat.reduceAdd, Nat.reduceLeDiff, Nat.zero_le, if_true, if_false, Bool.false_eq_true, Bool.not_true, Bool.not_false, gII, gAdd, gEq_int, gNe_int, reduceCtorEq, e, hr, n])
  refine ⟨y7, y8, y9, ?_⟩
  have c : callP G__law_held [] (consA (varM 5) nilA) (eK scr x2 x3 x4 (some x) x6 x7 x8 x9) S' = .ok (.lst (hl.map (hD x)), S') := by
    simp only [callP, consA, nilA, varM, List.getElem?_cons_succ, List.getElem?_cons_zero, bindM, List.append_nil, held_ok, liftP]
  unfold s_law_k00_8
  simp only [forS, c, bindM]
  exact h1
theorem body_ok (g : Good (20 + k) S) : ∃ y3 y4 y5 y6 y7 y8 y9 S', b_law_k00_9 (eK scr x2 x3 x4 x5 x6 x7 x8 x9) S = .ok (.nx (eK scr x2 y3 y4 y5 y6 y7 y8 y9), S') ∧ Good k S' := by
  obtain ⟨x, S1, a1, g1⟩ := s2_ok (scr := scr) (x2 := x2) (x3 := x3) (x4 := x4) (x5 := x5) (x6 := x6) (x7 := x7) (x8 := x8) (x9 := x9) (k := 3 + k) (g.mono (by omega))
  obtain ⟨d, S2, a2, hd, g2⟩ := s3_ok (scr := scr) (x2 := x2) (x3 := some (.str x)) (x4 := x4) (x5 := x5) (x6 := x6) (x7 := x7) (x8 := x8) (x9 := x9) g1
  have a3 := s4_ok (scr := scr) (x2 := x2) (x := .str x) (x4 := x4) (x5 := some d) (x6 := x6) (x7 := x7) (x8 := x8) (x9 := x9) (S := S2)
  have a4 := t6_ok (scr := scr) (x2 := x2) (x3 := some (.str x)) (x4 := x4) (x5 := some d) (x7 := x7) (x8 := x8) (x9 := x9) (S := S2)
  obtain ⟨y7, y8, y9, a5⟩ := s8_ok (scr := scr) (x2 := x2) (x3 := some (.str x)) (x4 := x4) (x6 := some (.lst someL)) (x7 := x7) (x8 := x8) (x9 := x9) (S := S2) hd
  refine ⟨some (.str x), x4, some d, some (.lst someL), y7, y8, y9, S2, ?_, g2⟩
  unfold b_law_k00_9
  rw [seq_nx a1, seq_nx a2, seq_nx a3, seq_nx (if_no a4), a5]
end
abbrev lI (ns : List Int) : Nat → VS.Env → DS → Prop := fun i env S => ∃ x2 x3 x4 x5 x6 x7 x8 x9, env = eK (.scr ns) x2 x3 x4 x5 x6 x7 x8 x9 ∧ Good (20 * (10 - i)) S
theorem law_loop (ns : List Int) (m : Nat) (hm : m ≤ 10) {S : DS} (hg : Good 200 S) : ∃ env' S', loopS (setN 2) b_law_k00_9 (intsD 0 m) (eK (.scr ns) none none none none none none none none) S = .ok (.nx env', S') := by
  obtain ⟨env', S', h, _⟩ := loop_inv (set := setN 2) (g := b_law_k00_9) (lI ns) (intsD 0 m) 0 _ S ⟨none, none, none, none, none, none, none, none, rfl, hg.mono (by omega)⟩ (fun j d env S hj hI => by
    rw [Nat.zero_add] at hI ⊢
    have hlt : j < m := by have := (List.getElem?_eq_some_iff.mp hj).1; simpa [intsD] using this
    obtain ⟨x2, x3, x4, x5, x6, x7, x8, x9, rfl, g⟩ := hI
    obtain ⟨z3, z4, z5, z6, z7, z8, z9, S', h, g'⟩ := body_ok (scr := .scr ns) (x2 := some d) (x3 := x3) (x4 := x4) (x5 := x5) (x6 := x6) (x7 := x7) (x8 := x8) (x9 := x9) (k := 20 * (10 - (j + 1))) (S := S) (g.mono (by omega))
    exact ⟨_, _, S', rfl, h, _, _, _, _, _, _, _, _, rfl, g'⟩)
  exact ⟨env', S', h⟩
theorem law_true' (ns : List Int) (hn : ns.length ≤ 63) : ∃ S', g_law_k00 (some (.scr ns) :: some .st :: List.replicate 8 none) (begun ns) = .ok (.rt (.bl true), S') := by
  obtain ⟨m, hm, hr⟩ := range_m 1 3 ns (by omega) (by omega) (by omega)
  obtain ⟨env', S', h⟩ := law_loop ns m (by omega) ((begun_good ns hn).mono (by omega))
  refine ⟨S', ?_⟩
  have hE : (some (D.scr ns) :: some D.st :: List.replicate 8 none) = eK (.scr ns) none none none none none none none none := rfl
  have hA : binM gAdd (cM (.int 1)) (cbM gMin (consA (cbM gLenA (consA (varM 0) nilA)) (consA (cM (.int 3)) nilA))) (eK (.scr ns) none none none none none none none none) (begun ns) = .ok (.int (1 + (if (3 : Int) < (ns.length : Int) then 3 else (ns.length : Int))), begun ns) := rfl
  have h1 : s_law_k00_10 (eK (.scr ns) none none none none none none none none) (begun ns) = .ok (.nx env', S') := by
    unfold s_law_k00_10
    exact forR_ok hA hr h
  rw [hE]
  unfold g_law_k00
  rw [seq_nx h1]
  rfl
end My
namespace My
open PySem PySem.Spec PyProof.Rows L2 VS
section
variable {P : Program} {w : World} {K : PySem.W.Frag} {mg : Str → Option Value} {base : Heap} {A : Adr}
theorem law_done (T : Txt K mg A) {fa : Addr} {oc dc pm ct kV : Value} {od an : Option Addr} {cc : Value} {osl : Array (Option Value)} {w : World} (lk : K.lookup fa = some ⟨oc, od, .func (PySem.W.fnOf "law" "law" (defArgs (top 75)) (defBody (top 75)) (defScope (top 75)) .none kV dc pm an cc ct), osl⟩) (hcd : PySem.W.codeIn K cc "law" = true)
    (hb : ∀ (s : Shared) (u : Value), BindsTo s (PySem.W.fnOf "law" "law" (defArgs (top 75)) (defBody (top 75)) (defScope (top 75)) .none kV dc pm an cc ct) ⟨[u], []⟩ ((["script"] : List Str).zip [u]))
    (math : ∀ ns : List Int, ns.length ≤ 63 → ∃ S', g_law (some (.scr ns) :: some .st :: List.replicate 8 none) (begun ns) = .ok (.rt (.bl true), S'))
    {s₁ : Shared} {a : Addr} {ns : List Int} {base : Heap} {H : Hp} (hl : ns.length ≤ 63) (e0 : Env0 P w K mg base callerA [] s₁ H) (hS : SqL K H a (ns.map V.int)) (hno : ∀ b o, H b = some o → b ∈ ([] : List Addr) ∨ NoTbl o) :
    codeAny (model P w) callerA (.call (.ref fa) ⟨[.ref a], []⟩) (CR (L2.CX P w) [] P w H s₁ (fun v _ => v = .bl true) fun _ _ _ => False) s₁ := by
  have sc := sc_law
  have hgd : callerA.guards = some [] := rfl
  have hr0 : Room 7 callerA := ⟨rfl, by decide, by decide⟩
  refine LamX.run_ofS (k := 6) (N := ["script", "state", "turn", "text_here", "spot", "item", "some", "name_here", "caught", "told"]) (ps := ["script"]) (us := [.ref a]) (vs := [.ref a]) lk hcd sc hr0 e0 (hb s₁ (.ref a)) (.cons rfl .nil) rfl fun hr => ?_
  refine ⟨_, pss_cons (ps_set (i := 1) sc.nd rfl (by first | exact Or.inl rfl | exact Or.inr rfl) (pe_call (ok__law_begun T) (hr.mono (by decide)) (by rfl) T.m__law_begun T.f__law_begun.kp (b__law_begun T) .nil (passes_call (takes_of rfl rfl rfl rfl) fun _ _ _ _ h => h) (pa_cons (pv 0) pa_nil))) (PSs.ex fun l => law_rest T (TP := exT fun _ => none) hgd hr l), ?_⟩
  exact ⟨_, rfl, law_start0 (N := 9) hS hno (Nat.le_trans hl (by decide)) rfl rfl (math ns hl) (by decide) (fun _ => rfl)⟩
theorem all_mk {P : Program} {w : World} {h : Heap} {fa : Addr} (X : K.In h) (G : h.Ns mainGlobals mg) (hfa : mg "law" = some (.ref fa)) (own : LamX.OwnTab K fa h) (math : ∀ ns : List Int, ns.length ≤ 63 → ∃ S', g_law (some (.scr ns) :: some .st :: List.replicate 8 none) (begun ns) = .ok (.rt (.bl true), S'))
    {C_BadBound : Addr}
    {C_BadChoices : Addr}
    {C_BadCount : Addr}
    {C_BadDerivation : Addr}
    {C_BadExchange : Addr}
    {C_BadExchanges : Addr}
    {C_BadFilling : Addr}
    {C_BadFillings : Addr}
    {C_BadGoal : Addr}
    {C_BadGroups : Addr}
    {C_BadGuide : Addr}
    {C_BadHands : Addr}
    {C_BadId : Addr}
    {C_BadJudge : Addr}
    {C_BadLeast : Addr}
    {C_BadLevel : Addr}
    {C_BadLiteral : Addr}
    {C_BadLiterals : Addr}
    {C_BadLoads : Addr}
    {C_BadLog : Addr}
    {C_BadLot : Addr}
    {C_BadMany : Addr}
    {C_BadMost : Addr}
    {C_BadNamed : Addr}
    {C_BadNumber : Addr}
    {C_BadOrder : Addr}
    {C_BadOther : Addr}
    {C_BadPaper : Addr}
    {C_BadPicks : Addr}
    {C_BadPlan : Addr}
    {C_BadPrice : Addr}
    {C_BadPrices : Addr}
    {C_BadProblem : Addr}
    {C_BadRow : Addr}
    {C_BadRows : Addr}
    {C_BadSpot : Addr}
    {C_BadStep : Addr}
    {C_BadSum : Addr}
    {C_BadTerms : Addr}
    {C_BadText : Addr}
    {C_BadTrail : Addr}
    {C_BadVariable : Addr}
    {C_BadWays : Addr}
    {C_BadWitness : Addr}
    {C_Clashes : Addr}
    {C_Closed : Addr}
    {C_IsAssumed : Addr}
    {C_IsReason : Addr}
    {C_NoClash : Addr}
    {C_NoLevel : Addr}
    {C_NotBySums : Addr}
    {C_NotClosed : Addr}
    {C_NotEliminated : Addr}
    {C_NotEqual : Addr}
    {C_NotFree : Addr}
    {C_NotLeaning : Addr}
    {C_NotShort : Addr}
    {C_NotSound : Addr}
    {C_NotWhole : Addr}
    {C_TooMany : Addr}
    {C_WitnessError : Addr}
    {f__law_begun : Addr} {od__law_begun an__law_begun : Option Addr} {sl__law_begun : Array (Option Value)} {oc__law_begun kV__law_begun dc__law_begun pm__law_begun cd__law_begun ct__law_begun : Value}
    {f__law_draw : Addr} {od__law_draw an__law_draw : Option Addr} {sl__law_draw : Array (Option Value)} {oc__law_draw kV__law_draw dc__law_draw pm__law_draw cd__law_draw ct__law_draw : Value}
    {f__law_pick : Addr} {od__law_pick an__law_pick : Option Addr} {sl__law_pick : Array (Option Value)} {oc__law_pick kV__law_pick dc__law_pick pm__law_pick cd__law_pick ct__law_pick : Value}
    {f__law_odd : Addr} {od__law_odd an__law_odd : Option Addr} {sl__law_odd : Array (Option Value)} {oc__law_odd kV__law_odd dc__law_odd pm__law_odd cd__law_odd ct__law_odd : Value}
    {f__law_kinds_a : Addr} {od__law_kinds_a an__law_kinds_a : Option Addr} {sl__law_kinds_a : Array (Option Value)} {oc__law_kinds_a kV__law_kinds_a dc__law_kinds_a pm__law_kinds_a cd__law_kinds_a ct__law_kinds_a : Value}
    {f__law_kinds_b : Addr} {od__law_kinds_b an__law_kinds_b : Option Addr} {sl__law_kinds_b : Array (Option Value)} {oc__law_kinds_b kV__law_kinds_b dc__law_kinds_b pm__law_kinds_b cd__law_kinds_b ct__law_kinds_b : Value}
    {f__law_kinds_c : Addr} {od__law_kinds_c an__law_kinds_c : Option Addr} {sl__law_kinds_c : Array (Option Value)} {oc__law_kinds_c kV__law_kinds_c dc__law_kinds_c pm__law_kinds_c cd__law_kinds_c ct__law_kinds_c : Value}
    {f__law_plain_a : Addr} {od__law_plain_a an__law_plain_a : Option Addr} {sl__law_plain_a : Array (Option Value)} {oc__law_plain_a kV__law_plain_a dc__law_plain_a pm__law_plain_a cd__law_plain_a ct__law_plain_a : Value}
    {f__law_plain_b : Addr} {od__law_plain_b an__law_plain_b : Option Addr} {sl__law_plain_b : Array (Option Value)} {oc__law_plain_b kV__law_plain_b dc__law_plain_b pm__law_plain_b cd__law_plain_b ct__law_plain_b : Value}
    {f__law_plain_c : Addr} {od__law_plain_c an__law_plain_c : Option Addr} {sl__law_plain_c : Array (Option Value)} {oc__law_plain_c kV__law_plain_c dc__law_plain_c pm__law_plain_c cd__law_plain_c ct__law_plain_c : Value}
    {f__law_held : Addr} {od__law_held an__law_held : Option Addr} {sl__law_held : Array (Option Value)} {oc__law_held kV__law_held dc__law_held pm__law_held cd__law_held ct__law_held : Value}
    {f__law_is_alone : Addr} {od__law_is_alone an__law_is_alone : Option Addr} {sl__law_is_alone : Array (Option Value)} {oc__law_is_alone kV__law_is_alone dc__law_is_alone pm__law_is_alone cd__law_is_alone ct__law_is_alone : Value}
    {nm_BadDerivation q_BadDerivation : Str} {N_BadDerivation : Addr} {bs_BadDerivation bm_BadDerivation : List Value} {sn_BadDerivation : List Str} {sub_BadDerivation : List Value} {ab_BadDerivation : Bool} {col_BadDerivation : Option Bool} {dd_BadDerivation : Option Addr} {m0_BadDerivation m1_BadDerivation m2_BadDerivation m3_BadDerivation m5_BadDerivation : Option Value}
    {fi_BadDerivation : Addr} {odi_BadDerivation ani_BadDerivation : Option Addr} {sli_BadDerivation : Array (Option Value)} {oci_BadDerivation kVi_BadDerivation dci_BadDerivation pmi_BadDerivation cdi_BadDerivation cti_BadDerivation : Value}
    {nm_BadLog q_BadLog : Str} {N_BadLog : Addr} {bs_BadLog bm_BadLog : List Value} {sn_BadLog : List Str} {sub_BadLog : List Value} {ab_BadLog : Bool} {col_BadLog : Option Bool} {dd_BadLog : Option Addr} {m0_BadLog m1_BadLog m2_BadLog m3_BadLog m5_BadLog : Option Value}
    {fi_BadLog : Addr} {odi_BadLog ani_BadLog : Option Addr} {sli_BadLog : Array (Option Value)} {oci_BadLog kVi_BadLog dci_BadLog pmi_BadLog cdi_BadLog cti_BadLog : Value}
    {nm_BadPaper q_BadPaper : Str} {N_BadPaper : Addr} {bs_BadPaper bm_BadPaper : List Value} {sn_BadPaper : List Str} {sub_BadPaper : List Value} {ab_BadPaper : Bool} {col_BadPaper : Option Bool} {dd_BadPaper : Option Addr} {m0_BadPaper m1_BadPaper m2_BadPaper m3_BadPaper m5_BadPaper : Option Value}
    {fi_BadPaper : Addr} {odi_BadPaper ani_BadPaper : Option Addr} {sli_BadPaper : Array (Option Value)} {oci_BadPaper kVi_BadPaper dci_BadPaper pmi_BadPaper cdi_BadPaper cti_BadPaper : Value}
    {nm_BadText q_BadText : Str} {N_BadText : Addr} {bs_BadText bm_BadText : List Value} {sn_BadText : List Str} {sub_BadText : List Value} {ab_BadText : Bool} {col_BadText : Option Bool} {dd_BadText : Option Addr} {m0_BadText m1_BadText m2_BadText m3_BadText m5_BadText : Option Value}
    {fi_BadText : Addr} {odi_BadText ani_BadText : Option Addr} {sli_BadText : Array (Option Value)} {oci_BadText kVi_BadText dci_BadText pmi_BadText cdi_BadText cti_BadText : Value}
    {nm_Clashes q_Clashes : Str} {N_Clashes : Addr} {bs_Clashes bm_Clashes : List Value} {sn_Clashes : List Str} {sub_Clashes : List Value} {ab_Clashes : Bool} {col_Clashes : Option Bool} {dd_Clashes : Option Addr} {m0_Clashes m1_Clashes m2_Clashes m3_Clashes m5_Clashes : Option Value}
    {fi_Clashes : Addr} {odi_Clashes ani_Clashes : Option Addr} {sli_Clashes : Array (Option Value)} {oci_Clashes kVi_Clashes dci_Clashes pmi_Clashes cdi_Clashes cti_Clashes : Value}
    {nm_IsAssumed q_IsAssumed : Str} {N_IsAssumed : Addr} {bs_IsAssumed bm_IsAssumed : List Value} {sn_IsAssumed : List Str} {sub_IsAssumed : List Value} {ab_IsAssumed : Bool} {col_IsAssumed : Option Bool} {dd_IsAssumed : Option Addr} {m0_IsAssumed m1_IsAssumed m2_IsAssumed m3_IsAssumed m5_IsAssumed : Option Value}
    {fi_IsAssumed : Addr} {odi_IsAssumed ani_IsAssumed : Option Addr} {sli_IsAssumed : Array (Option Value)} {oci_IsAssumed kVi_IsAssumed dci_IsAssumed pmi_IsAssumed cdi_IsAssumed cti_IsAssumed : Value}
    {nm_IsReason q_IsReason : Str} {N_IsReason : Addr} {bs_IsReason bm_IsReason : List Value} {sn_IsReason : List Str} {sub_IsReason : List Value} {ab_IsReason : Bool} {col_IsReason : Option Bool} {dd_IsReason : Option Addr} {m0_IsReason m1_IsReason m2_IsReason m3_IsReason m5_IsReason : Option Value}
    {fi_IsReason : Addr} {odi_IsReason ani_IsReason : Option Addr} {sli_IsReason : Array (Option Value)} {oci_IsReason kVi_IsReason dci_IsReason pmi_IsReason cdi_IsReason cti_IsReason : Value}
    {nm_NotFree q_NotFree : Str} {N_NotFree : Addr} {bs_NotFree bm_NotFree : List Value} {sn_NotFree : List Str} {sub_NotFree : List Value} {ab_NotFree : Bool} {col_NotFree : Option Bool} {dd_NotFree : Option Addr} {m0_NotFree m1_NotFree m2_NotFree m3_NotFree m5_NotFree : Option Value}
    {fi_NotFree : Addr} {odi_NotFree ani_NotFree : Option Addr} {sli_NotFree : Array (Option Value)} {oci_NotFree kVi_NotFree dci_NotFree pmi_NotFree cdi_NotFree cti_NotFree : Value}
    {nm_TooMany q_TooMany : Str} {N_TooMany : Addr} {bs_TooMany bm_TooMany : List Value} {sn_TooMany : List Str} {sub_TooMany : List Value} {ab_TooMany : Bool} {col_TooMany : Option Bool} {dd_TooMany : Option Addr} {m0_TooMany m1_TooMany m2_TooMany m3_TooMany m5_TooMany : Option Value}
    {fi_TooMany : Addr} {odi_TooMany ani_TooMany : Option Addr} {sli_TooMany : Array (Option Value)} {oci_TooMany kVi_TooMany dci_TooMany pmi_TooMany cdi_TooMany cti_TooMany : Value}
    {f_law cA : Addr} {oc_law dc_law pm_law ct_law kV_law : Value} {od_law an_law : Option Addr} {sl_law : Array (Option Value)}
    (ac_BadBound : PySem.W.nsIn K mainGlobals "BadBound" = some (some (.ref C_BadBound)))
    (ac_BadChoices : PySem.W.nsIn K mainGlobals "BadChoices" = some (some (.ref C_BadChoices)))
    (ac_BadCount : PySem.W.nsIn K mainGlobals "BadCount" = some (some (.ref C_BadCount)))
    (ac_BadDerivation : PySem.W.nsIn K mainGlobals "BadDerivation" = some (some (.ref C_BadDerivation)))
    (ac_BadExchange : PySem.W.nsIn K mainGlobals "BadExchange" = some (some (.ref C_BadExchange)))
    (ac_BadExchanges : PySem.W.nsIn K mainGlobals "BadExchanges" = some (some (.ref C_BadExchanges)))
    (ac_BadFilling : PySem.W.nsIn K mainGlobals "BadFilling" = some (some (.ref C_BadFilling)))
    (ac_BadFillings : PySem.W.nsIn K mainGlobals "BadFillings" = some (some (.ref C_BadFillings)))
    (ac_BadGoal : PySem.W.nsIn K mainGlobals "BadGoal" = some (some (.ref C_BadGoal)))
    (ac_BadGroups : PySem.W.nsIn K mainGlobals "BadGroups" = some (some (.ref C_BadGroups)))
    (ac_BadGuide : PySem.W.nsIn K mainGlobals "BadGuide" = some (some (.ref C_BadGuide)))
    (ac_BadHands : PySem.W.nsIn K mainGlobals "BadHands" = some (some (.ref C_BadHands)))
    (ac_BadId : PySem.W.nsIn K mainGlobals "BadId" = some (some (.ref C_BadId)))
    (ac_BadJudge : PySem.W.nsIn K mainGlobals "BadJudge" = some (some (.ref C_BadJudge)))
    (ac_BadLeast : PySem.W.nsIn K mainGlobals "BadLeast" = some (some (.ref C_BadLeast)))
    (ac_BadLevel : PySem.W.nsIn K mainGlobals "BadLevel" = some (some (.ref C_BadLevel)))
    (ac_BadLiteral : PySem.W.nsIn K mainGlobals "BadLiteral" = some (some (.ref C_BadLiteral)))
    (ac_BadLiterals : PySem.W.nsIn K mainGlobals "BadLiterals" = some (some (.ref C_BadLiterals)))
    (ac_BadLoads : PySem.W.nsIn K mainGlobals "BadLoads" = some (some (.ref C_BadLoads)))
    (ac_BadLog : PySem.W.nsIn K mainGlobals "BadLog" = some (some (.ref C_BadLog)))
    (ac_BadLot : PySem.W.nsIn K mainGlobals "BadLot" = some (some (.ref C_BadLot)))
    (ac_BadMany : PySem.W.nsIn K mainGlobals "BadMany" = some (some (.ref C_BadMany)))
    (ac_BadMost : PySem.W.nsIn K mainGlobals "BadMost" = some (some (.ref C_BadMost)))
    (ac_BadNamed : PySem.W.nsIn K mainGlobals "BadNamed" = some (some (.ref C_BadNamed)))
    (ac_BadNumber : PySem.W.nsIn K mainGlobals "BadNumber" = some (some (.ref C_BadNumber)))
    (ac_BadOrder : PySem.W.nsIn K mainGlobals "BadOrder" = some (some (.ref C_BadOrder)))
    (ac_BadOther : PySem.W.nsIn K mainGlobals "BadOther" = some (some (.ref C_BadOther)))
    (ac_BadPaper : PySem.W.nsIn K mainGlobals "BadPaper" = some (some (.ref C_BadPaper)))
    (ac_BadPicks : PySem.W.nsIn K mainGlobals "BadPicks" = some (some (.ref C_BadPicks)))
    (ac_BadPlan : PySem.W.nsIn K mainGlobals "BadPlan" = some (some (.ref C_BadPlan)))
    (ac_BadPrice : PySem.W.nsIn K mainGlobals "BadPrice" = some (some (.ref C_BadPrice)))
    (ac_BadPrices : PySem.W.nsIn K mainGlobals "BadPrices" = some (some (.ref C_BadPrices)))
    (ac_BadProblem : PySem.W.nsIn K mainGlobals "BadProblem" = some (some (.ref C_BadProblem)))
    (ac_BadRow : PySem.W.nsIn K mainGlobals "BadRow" = some (some (.ref C_BadRow)))
    (ac_BadRows : PySem.W.nsIn K mainGlobals "BadRows" = some (some (.ref C_BadRows)))
    (ac_BadSpot : PySem.W.nsIn K mainGlobals "BadSpot" = some (some (.ref C_BadSpot)))
    (ac_BadStep : PySem.W.nsIn K mainGlobals "BadStep" = some (some (.ref C_BadStep)))
    (ac_BadSum : PySem.W.nsIn K mainGlobals "BadSum" = some (some (.ref C_BadSum)))
    (ac_BadTerms : PySem.W.nsIn K mainGlobals "BadTerms" = some (some (.ref C_BadTerms)))
    (ac_BadText : PySem.W.nsIn K mainGlobals "BadText" = some (some (.ref C_BadText)))
    (ac_BadTrail : PySem.W.nsIn K mainGlobals "BadTrail" = some (some (.ref C_BadTrail)))
    (ac_BadVariable : PySem.W.nsIn K mainGlobals "BadVariable" = some (some (.ref C_BadVariable)))
    (ac_BadWays : PySem.W.nsIn K mainGlobals "BadWays" = some (some (.ref C_BadWays)))
    (ac_BadWitness : PySem.W.nsIn K mainGlobals "BadWitness" = some (some (.ref C_BadWitness)))
    (ac_Clashes : PySem.W.nsIn K mainGlobals "Clashes" = some (some (.ref C_Clashes)))
    (ac_Closed : PySem.W.nsIn K mainGlobals "Closed" = some (some (.ref C_Closed)))
    (ac_IsAssumed : PySem.W.nsIn K mainGlobals "IsAssumed" = some (some (.ref C_IsAssumed)))
    (ac_IsReason : PySem.W.nsIn K mainGlobals "IsReason" = some (some (.ref C_IsReason)))
    (ac_NoClash : PySem.W.nsIn K mainGlobals "NoClash" = some (some (.ref C_NoClash)))
    (ac_NoLevel : PySem.W.nsIn K mainGlobals "NoLevel" = some (some (.ref C_NoLevel)))
    (ac_NotBySums : PySem.W.nsIn K mainGlobals "NotBySums" = some (some (.ref C_NotBySums)))
    (ac_NotClosed : PySem.W.nsIn K mainGlobals "NotClosed" = some (some (.ref C_NotClosed)))
    (ac_NotEliminated : PySem.W.nsIn K mainGlobals "NotEliminated" = some (some (.ref C_NotEliminated)))
    (ac_NotEqual : PySem.W.nsIn K mainGlobals "NotEqual" = some (some (.ref C_NotEqual)))
    (ac_NotFree : PySem.W.nsIn K mainGlobals "NotFree" = some (some (.ref C_NotFree)))
    (ac_NotLeaning : PySem.W.nsIn K mainGlobals "NotLeaning" = some (some (.ref C_NotLeaning)))
    (ac_NotShort : PySem.W.nsIn K mainGlobals "NotShort" = some (some (.ref C_NotShort)))
    (ac_NotSound : PySem.W.nsIn K mainGlobals "NotSound" = some (some (.ref C_NotSound)))
    (ac_NotWhole : PySem.W.nsIn K mainGlobals "NotWhole" = some (some (.ref C_NotWhole)))
    (ac_TooMany : PySem.W.nsIn K mainGlobals "TooMany" = some (some (.ref C_TooMany)))
    (ac_WitnessError : PySem.W.nsIn K mainGlobals "WitnessError" = some (some (.ref C_WitnessError)))
    (a__law_begun : PySem.W.nsIn K mainGlobals "_law_begun" = some (some (.ref f__law_begun)))
    (l__law_begun : K.lookup f__law_begun = some ⟨oc__law_begun, od__law_begun, .func (PySem.W.fnOf "_law_begun" "_law_begun" (defArgs (top 63)) (defBody (top 63)) (defScope (top 63)) .none kV__law_begun dc__law_begun pm__law_begun an__law_begun cd__law_begun ct__law_begun), sl__law_begun⟩)
    (c__law_begun : PySem.W.codeIn K cd__law_begun "_law_begun" = true)
    (k__law_begun : PySem.W.keepIn K (.ref f__law_begun) = true)
    (a__law_draw : PySem.W.nsIn K mainGlobals "_law_draw" = some (some (.ref f__law_draw)))
    (l__law_draw : K.lookup f__law_draw = some ⟨oc__law_draw, od__law_draw, .func (PySem.W.fnOf "_law_draw" "_law_draw" (defArgs (top 64)) (defBody (top 64)) (defScope (top 64)) .none kV__law_draw dc__law_draw pm__law_draw an__law_draw cd__law_draw ct__law_draw), sl__law_draw⟩)
    (c__law_draw : PySem.W.codeIn K cd__law_draw "_law_draw" = true)
    (k__law_draw : PySem.W.keepIn K (.ref f__law_draw) = true)
    (a__law_pick : PySem.W.nsIn K mainGlobals "_law_pick" = some (some (.ref f__law_pick)))
    (l__law_pick : K.lookup f__law_pick = some ⟨oc__law_pick, od__law_pick, .func (PySem.W.fnOf "_law_pick" "_law_pick" (defArgs (top 65)) (defBody (top 65)) (defScope (top 65)) .none kV__law_pick dc__law_pick pm__law_pick an__law_pick cd__law_pick ct__law_pick), sl__law_pick⟩)
    (c__law_pick : PySem.W.codeIn K cd__law_pick "_law_pick" = true)
    (k__law_pick : PySem.W.keepIn K (.ref f__law_pick) = true)
    (a__law_odd : PySem.W.nsIn K mainGlobals "_law_odd" = some (some (.ref f__law_odd)))
    (l__law_odd : K.lookup f__law_odd = some ⟨oc__law_odd, od__law_odd, .func (PySem.W.fnOf "_law_odd" "_law_odd" (defArgs (top 66)) (defBody (top 66)) (defScope (top 66)) .none kV__law_odd dc__law_odd pm__law_odd an__law_odd cd__law_odd ct__law_odd), sl__law_odd⟩)
    (c__law_odd : PySem.W.codeIn K cd__law_odd "_law_odd" = true)
    (k__law_odd : PySem.W.keepIn K (.ref f__law_odd) = true)
    (a__law_kinds_a : PySem.W.nsIn K mainGlobals "_law_kinds_a" = some (some (.ref f__law_kinds_a)))
    (l__law_kinds_a : K.lookup f__law_kinds_a = some ⟨oc__law_kinds_a, od__law_kinds_a, .func (PySem.W.fnOf "_law_kinds_a" "_law_kinds_a" (defArgs (top 67)) (defBody (top 67)) (defScope (top 67)) .none kV__law_kinds_a dc__law_kinds_a pm__law_kinds_a an__law_kinds_a cd__law_kinds_a ct__law_kinds_a), sl__law_kinds_a⟩)
    (c__law_kinds_a : PySem.W.codeIn K cd__law_kinds_a "_law_kinds_a" = true)
    (k__law_kinds_a : PySem.W.keepIn K (.ref f__law_kinds_a) = true)
    (a__law_kinds_b : PySem.W.nsIn K mainGlobals "_law_kinds_b" = some (some (.ref f__law_kinds_b)))
    (l__law_kinds_b : K.lookup f__law_kinds_b = some ⟨oc__law_kinds_b, od__law_kinds_b, .func (PySem.W.fnOf "_law_kinds_b" "_law_kinds_b" (defArgs (top 68)) (defBody (top 68)) (defScope (top 68)) .none kV__law_kinds_b dc__law_kinds_b pm__law_kinds_b an__law_kinds_b cd__law_kinds_b ct__law_kinds_b), sl__law_kinds_b⟩)
    (c__law_kinds_b : PySem.W.codeIn K cd__law_kinds_b "_law_kinds_b" = true)
    (k__law_kinds_b : PySem.W.keepIn K (.ref f__law_kinds_b) = true)
    (a__law_kinds_c : PySem.W.nsIn K mainGlobals "_law_kinds_c" = some (some (.ref f__law_kinds_c)))
    (l__law_kinds_c : K.lookup f__law_kinds_c = some ⟨oc__law_kinds_c, od__law_kinds_c, .func (PySem.W.fnOf "_law_kinds_c" "_law_kinds_c" (defArgs (top 69)) (defBody (top 69)) (defScope (top 69)) .none kV__law_kinds_c dc__law_kinds_c pm__law_kinds_c an__law_kinds_c cd__law_kinds_c ct__law_kinds_c), sl__law_kinds_c⟩)
    (c__law_kinds_c : PySem.W.codeIn K cd__law_kinds_c "_law_kinds_c" = true)
    (k__law_kinds_c : PySem.W.keepIn K (.ref f__law_kinds_c) = true)
    (a__law_plain_a : PySem.W.nsIn K mainGlobals "_law_plain_a" = some (some (.ref f__law_plain_a)))
    (l__law_plain_a : K.lookup f__law_plain_a = some ⟨oc__law_plain_a, od__law_plain_a, .func (PySem.W.fnOf "_law_plain_a" "_law_plain_a" (defArgs (top 70)) (defBody (top 70)) (defScope (top 70)) .none kV__law_plain_a dc__law_plain_a pm__law_plain_a an__law_plain_a cd__law_plain_a ct__law_plain_a), sl__law_plain_a⟩)
    (c__law_plain_a : PySem.W.codeIn K cd__law_plain_a "_law_plain_a" = true)
    (k__law_plain_a : PySem.W.keepIn K (.ref f__law_plain_a) = true)
    (a__law_plain_b : PySem.W.nsIn K mainGlobals "_law_plain_b" = some (some (.ref f__law_plain_b)))
    (l__law_plain_b : K.lookup f__law_plain_b = some ⟨oc__law_plain_b, od__law_plain_b, .func (PySem.W.fnOf "_law_plain_b" "_law_plain_b" (defArgs (top 71)) (defBody (top 71)) (defScope (top 71)) .none kV__law_plain_b dc__law_plain_b pm__law_plain_b an__law_plain_b cd__law_plain_b ct__law_plain_b), sl__law_plain_b⟩)
    (c__law_plain_b : PySem.W.codeIn K cd__law_plain_b "_law_plain_b" = true)
    (k__law_plain_b : PySem.W.keepIn K (.ref f__law_plain_b) = true)
    (a__law_plain_c : PySem.W.nsIn K mainGlobals "_law_plain_c" = some (some (.ref f__law_plain_c)))
    (l__law_plain_c : K.lookup f__law_plain_c = some ⟨oc__law_plain_c, od__law_plain_c, .func (PySem.W.fnOf "_law_plain_c" "_law_plain_c" (defArgs (top 72)) (defBody (top 72)) (defScope (top 72)) .none kV__law_plain_c dc__law_plain_c pm__law_plain_c an__law_plain_c cd__law_plain_c ct__law_plain_c), sl__law_plain_c⟩)
    (c__law_plain_c : PySem.W.codeIn K cd__law_plain_c "_law_plain_c" = true)
    (k__law_plain_c : PySem.W.keepIn K (.ref f__law_plain_c) = true)
    (a__law_held : PySem.W.nsIn K mainGlobals "_law_held" = some (some (.ref f__law_held)))
    (l__law_held : K.lookup f__law_held = some ⟨oc__law_held, od__law_held, .func (PySem.W.fnOf "_law_held" "_law_held" (defArgs (top 73)) (defBody (top 73)) (defScope (top 73)) .none kV__law_held dc__law_held pm__law_held an__law_held cd__law_held ct__law_held), sl__law_held⟩)
    (c__law_held : PySem.W.codeIn K cd__law_held "_law_held" = true)
    (k__law_held : PySem.W.keepIn K (.ref f__law_held) = true)
    (a__law_is_alone : PySem.W.nsIn K mainGlobals "_law_is_alone" = some (some (.ref f__law_is_alone)))
    (l__law_is_alone : K.lookup f__law_is_alone = some ⟨oc__law_is_alone, od__law_is_alone, .func (PySem.W.fnOf "_law_is_alone" "_law_is_alone" (defArgs (top 74)) (defBody (top 74)) (defScope (top 74)) .none kV__law_is_alone dc__law_is_alone pm__law_is_alone an__law_is_alone cd__law_is_alone ct__law_is_alone), sl__law_is_alone⟩)
    (c__law_is_alone : PySem.W.codeIn K cd__law_is_alone "_law_is_alone" = true)
    (k__law_is_alone : PySem.W.keepIn K (.ref f__law_is_alone) = true)
    (xL_BadDerivation : K.lookup C_BadDerivation = some (excClassObj nm_BadDerivation q_BadDerivation C_BadDerivation N_BadDerivation bs_BadDerivation bm_BadDerivation true sn_BadDerivation sub_BadDerivation ab_BadDerivation col_BadDerivation dd_BadDerivation m0_BadDerivation m1_BadDerivation m2_BadDerivation m3_BadDerivation m5_BadDerivation "ValueError.__new__"))
    (xr_BadDerivation : PySem.HandSPX.refsVE bm_BadDerivation = true)
    (sa_BadDerivation : PySem.W.findIn K (.ref C_BadDerivation) "__setattr__" = some (some (.builtin "object.__setattr__")))
    (nf_BadDerivation : PySem.W.findIn K (.ref C_BadDerivation) "index" = some none)
    (ii_BadDerivation : PySem.W.findIn K (.ref C_BadDerivation) "__init__" = some (some (.ref fi_BadDerivation)))
    (ti_BadDerivation : PySem.W.typeIn K (.ref fi_BadDerivation) = some (.type "function"))
    (li_BadDerivation : K.lookup fi_BadDerivation = some ⟨oci_BadDerivation, odi_BadDerivation, .func (PySem.W.fnOf "__init__" "BadDerivation.__init__" (defArgs (inClass (top 5))) (defBody (inClass (top 5))) (defScope (inClass (top 5))) .none kVi_BadDerivation dci_BadDerivation pmi_BadDerivation ani_BadDerivation cdi_BadDerivation cti_BadDerivation), sli_BadDerivation⟩)
    (ci_BadDerivation : PySem.W.codeIn K cdi_BadDerivation "BadDerivation.__init__" = true)
    (ki_BadDerivation : PySem.W.keepIn K (.ref fi_BadDerivation) = true)
    (xL_BadLog : K.lookup C_BadLog = some (excClassObj nm_BadLog q_BadLog C_BadLog N_BadLog bs_BadLog bm_BadLog true sn_BadLog sub_BadLog ab_BadLog col_BadLog dd_BadLog m0_BadLog m1_BadLog m2_BadLog m3_BadLog m5_BadLog "ValueError.__new__"))
    (xr_BadLog : PySem.HandSPX.refsVE bm_BadLog = true)
    (sa_BadLog : PySem.W.findIn K (.ref C_BadLog) "__setattr__" = some (some (.builtin "object.__setattr__")))
    (nf_BadLog : PySem.W.findIn K (.ref C_BadLog) "index" = some none)
    (ii_BadLog : PySem.W.findIn K (.ref C_BadLog) "__init__" = some (some (.ref fi_BadLog)))
    (ti_BadLog : PySem.W.typeIn K (.ref fi_BadLog) = some (.type "function"))
    (li_BadLog : K.lookup fi_BadLog = some ⟨oci_BadLog, odi_BadLog, .func (PySem.W.fnOf "__init__" "BadLog.__init__" (defArgs (inClass (top 21))) (defBody (inClass (top 21))) (defScope (inClass (top 21))) .none kVi_BadLog dci_BadLog pmi_BadLog ani_BadLog cdi_BadLog cti_BadLog), sli_BadLog⟩)
    (ci_BadLog : PySem.W.codeIn K cdi_BadLog "BadLog.__init__" = true)
    (ki_BadLog : PySem.W.keepIn K (.ref fi_BadLog) = true)
    (xL_BadPaper : K.lookup C_BadPaper = some (excClassObj nm_BadPaper q_BadPaper C_BadPaper N_BadPaper bs_BadPaper bm_BadPaper true sn_BadPaper sub_BadPaper ab_BadPaper col_BadPaper dd_BadPaper m0_BadPaper m1_BadPaper m2_BadPaper m3_BadPaper m5_BadPaper "ValueError.__new__"))
    (xr_BadPaper : PySem.HandSPX.refsVE bm_BadPaper = true)
    (sa_BadPaper : PySem.W.findIn K (.ref C_BadPaper) "__setattr__" = some (some (.builtin "object.__setattr__")))
    (nf_BadPaper : PySem.W.findIn K (.ref C_BadPaper) "index" = some none)
    (ii_BadPaper : PySem.W.findIn K (.ref C_BadPaper) "__init__" = some (some (.ref fi_BadPaper)))
    (ti_BadPaper : PySem.W.typeIn K (.ref fi_BadPaper) = some (.type "function"))
    (li_BadPaper : K.lookup fi_BadPaper = some ⟨oci_BadPaper, odi_BadPaper, .func (PySem.W.fnOf "__init__" "BadPaper.__init__" (defArgs (inClass (top 29))) (defBody (inClass (top 29))) (defScope (inClass (top 29))) .none kVi_BadPaper dci_BadPaper pmi_BadPaper ani_BadPaper cdi_BadPaper cti_BadPaper), sli_BadPaper⟩)
    (ci_BadPaper : PySem.W.codeIn K cdi_BadPaper "BadPaper.__init__" = true)
    (ki_BadPaper : PySem.W.keepIn K (.ref fi_BadPaper) = true)
    (xL_BadText : K.lookup C_BadText = some (excClassObj nm_BadText q_BadText C_BadText N_BadText bs_BadText bm_BadText true sn_BadText sub_BadText ab_BadText col_BadText dd_BadText m0_BadText m1_BadText m2_BadText m3_BadText m5_BadText "ValueError.__new__"))
    (xr_BadText : PySem.HandSPX.refsVE bm_BadText = true)
    (sa_BadText : PySem.W.findIn K (.ref C_BadText) "__setattr__" = some (some (.builtin "object.__setattr__")))
    (nf_BadText : PySem.W.findIn K (.ref C_BadText) "line" = some none)
    (ii_BadText : PySem.W.findIn K (.ref C_BadText) "__init__" = some (some (.ref fi_BadText)))
    (ti_BadText : PySem.W.typeIn K (.ref fi_BadText) = some (.type "function"))
    (li_BadText : K.lookup fi_BadText = some ⟨oci_BadText, odi_BadText, .func (PySem.W.fnOf "__init__" "BadText.__init__" (defArgs (inClass (top 41))) (defBody (inClass (top 41))) (defScope (inClass (top 41))) .none kVi_BadText dci_BadText pmi_BadText ani_BadText cdi_BadText cti_BadText), sli_BadText⟩)
    (ci_BadText : PySem.W.codeIn K cdi_BadText "BadText.__init__" = true)
    (ki_BadText : PySem.W.keepIn K (.ref fi_BadText) = true)
    (xL_Clashes : K.lookup C_Clashes = some (excClassObj nm_Clashes q_Clashes C_Clashes N_Clashes bs_Clashes bm_Clashes true sn_Clashes sub_Clashes ab_Clashes col_Clashes dd_Clashes m0_Clashes m1_Clashes m2_Clashes m3_Clashes m5_Clashes "ValueError.__new__"))
    (xr_Clashes : PySem.HandSPX.refsVE bm_Clashes = true)
    (sa_Clashes : PySem.W.findIn K (.ref C_Clashes) "__setattr__" = some (some (.builtin "object.__setattr__")))
    (nf_Clashes : PySem.W.findIn K (.ref C_Clashes) "number" = some none)
    (ii_Clashes : PySem.W.findIn K (.ref C_Clashes) "__init__" = some (some (.ref fi_Clashes)))
    (ti_Clashes : PySem.W.typeIn K (.ref fi_Clashes) = some (.type "function"))
    (li_Clashes : K.lookup fi_Clashes = some ⟨oci_Clashes, odi_Clashes, .func (PySem.W.fnOf "__init__" "Clashes.__init__" (defArgs (inClass (top 46))) (defBody (inClass (top 46))) (defScope (inClass (top 46))) .none kVi_Clashes dci_Clashes pmi_Clashes ani_Clashes cdi_Clashes cti_Clashes), sli_Clashes⟩)
    (ci_Clashes : PySem.W.codeIn K cdi_Clashes "Clashes.__init__" = true)
    (ki_Clashes : PySem.W.keepIn K (.ref fi_Clashes) = true)
    (xL_IsAssumed : K.lookup C_IsAssumed = some (excClassObj nm_IsAssumed q_IsAssumed C_IsAssumed N_IsAssumed bs_IsAssumed bm_IsAssumed true sn_IsAssumed sub_IsAssumed ab_IsAssumed col_IsAssumed dd_IsAssumed m0_IsAssumed m1_IsAssumed m2_IsAssumed m3_IsAssumed m5_IsAssumed "ValueError.__new__"))
    (xr_IsAssumed : PySem.HandSPX.refsVE bm_IsAssumed = true)
    (sa_IsAssumed : PySem.W.findIn K (.ref C_IsAssumed) "__setattr__" = some (some (.builtin "object.__setattr__")))
    (nf_IsAssumed : PySem.W.findIn K (.ref C_IsAssumed) "literal" = some none)
    (ii_IsAssumed : PySem.W.findIn K (.ref C_IsAssumed) "__init__" = some (some (.ref fi_IsAssumed)))
    (ti_IsAssumed : PySem.W.typeIn K (.ref fi_IsAssumed) = some (.type "function"))
    (li_IsAssumed : K.lookup fi_IsAssumed = some ⟨oci_IsAssumed, odi_IsAssumed, .func (PySem.W.fnOf "__init__" "IsAssumed.__init__" (defArgs (inClass (top 48))) (defBody (inClass (top 48))) (defScope (inClass (top 48))) .none kVi_IsAssumed dci_IsAssumed pmi_IsAssumed ani_IsAssumed cdi_IsAssumed cti_IsAssumed), sli_IsAssumed⟩)
    (ci_IsAssumed : PySem.W.codeIn K cdi_IsAssumed "IsAssumed.__init__" = true)
    (ki_IsAssumed : PySem.W.keepIn K (.ref fi_IsAssumed) = true)
    (xL_IsReason : K.lookup C_IsReason = some (excClassObj nm_IsReason q_IsReason C_IsReason N_IsReason bs_IsReason bm_IsReason true sn_IsReason sub_IsReason ab_IsReason col_IsReason dd_IsReason m0_IsReason m1_IsReason m2_IsReason m3_IsReason m5_IsReason "ValueError.__new__"))
    (xr_IsReason : PySem.HandSPX.refsVE bm_IsReason = true)
    (sa_IsReason : PySem.W.findIn K (.ref C_IsReason) "__setattr__" = some (some (.builtin "object.__setattr__")))
    (nf_IsReason : PySem.W.findIn K (.ref C_IsReason) "number" = some none)
    (ii_IsReason : PySem.W.findIn K (.ref C_IsReason) "__init__" = some (some (.ref fi_IsReason)))
    (ti_IsReason : PySem.W.typeIn K (.ref fi_IsReason) = some (.type "function"))
    (li_IsReason : K.lookup fi_IsReason = some ⟨oci_IsReason, odi_IsReason, .func (PySem.W.fnOf "__init__" "IsReason.__init__" (defArgs (inClass (top 49))) (defBody (inClass (top 49))) (defScope (inClass (top 49))) .none kVi_IsReason dci_IsReason pmi_IsReason ani_IsReason cdi_IsReason cti_IsReason), sli_IsReason⟩)
    (ci_IsReason : PySem.W.codeIn K cdi_IsReason "IsReason.__init__" = true)
    (ki_IsReason : PySem.W.keepIn K (.ref fi_IsReason) = true)
    (xL_NotFree : K.lookup C_NotFree = some (excClassObj nm_NotFree q_NotFree C_NotFree N_NotFree bs_NotFree bm_NotFree true sn_NotFree sub_NotFree ab_NotFree col_NotFree dd_NotFree m0_NotFree m1_NotFree m2_NotFree m3_NotFree m5_NotFree "ValueError.__new__"))
    (xr_NotFree : PySem.HandSPX.refsVE bm_NotFree = true)
    (sa_NotFree : PySem.W.findIn K (.ref C_NotFree) "__setattr__" = some (some (.builtin "object.__setattr__")))
    (nf_NotFree : PySem.W.findIn K (.ref C_NotFree) "literal" = some none)
    (ii_NotFree : PySem.W.findIn K (.ref C_NotFree) "__init__" = some (some (.ref fi_NotFree)))
    (ti_NotFree : PySem.W.typeIn K (.ref fi_NotFree) = some (.type "function"))
    (li_NotFree : K.lookup fi_NotFree = some ⟨oci_NotFree, odi_NotFree, .func (PySem.W.fnOf "__init__" "NotFree.__init__" (defArgs (inClass (top 56))) (defBody (inClass (top 56))) (defScope (inClass (top 56))) .none kVi_NotFree dci_NotFree pmi_NotFree ani_NotFree cdi_NotFree cti_NotFree), sli_NotFree⟩)
    (ci_NotFree : PySem.W.codeIn K cdi_NotFree "NotFree.__init__" = true)
    (ki_NotFree : PySem.W.keepIn K (.ref fi_NotFree) = true)
    (xL_TooMany : K.lookup C_TooMany = some (excClassObj nm_TooMany q_TooMany C_TooMany N_TooMany bs_TooMany bm_TooMany true sn_TooMany sub_TooMany ab_TooMany col_TooMany dd_TooMany m0_TooMany m1_TooMany m2_TooMany m3_TooMany m5_TooMany "ValueError.__new__"))
    (xr_TooMany : PySem.HandSPX.refsVE bm_TooMany = true)
    (sa_TooMany : PySem.W.findIn K (.ref C_TooMany) "__setattr__" = some (some (.builtin "object.__setattr__")))
    (nf_TooMany : PySem.W.findIn K (.ref C_TooMany) "most" = some none)
    (ii_TooMany : PySem.W.findIn K (.ref C_TooMany) "__init__" = some (some (.ref fi_TooMany)))
    (ti_TooMany : PySem.W.typeIn K (.ref fi_TooMany) = some (.type "function"))
    (li_TooMany : K.lookup fi_TooMany = some ⟨oci_TooMany, odi_TooMany, .func (PySem.W.fnOf "__init__" "TooMany.__init__" (defArgs (inClass (top 61))) (defBody (inClass (top 61))) (defScope (inClass (top 61))) .none kVi_TooMany dci_TooMany pmi_TooMany ani_TooMany cdi_TooMany cti_TooMany), sli_TooMany⟩)
    (ci_TooMany : PySem.W.codeIn K cdi_TooMany "TooMany.__init__" = true)
    (ki_TooMany : PySem.W.keepIn K (.ref fi_TooMany) = true)
    (cx_BadBound : PySem.W.excIn K C_BadBound [.type "ValueError", .type "Exception", .type "BaseException", .type "object"] "ValueError.__new__" = true)
    (ck_BadBound : PySem.W.keepIn K (.ref C_BadBound) = true)
    (cb_BadBound : PySem.W.subIn K (.ref C_BadBound) (.type "BaseException") = some true)
    (ct_BadBound_ : PySem.W.typeIn K (.ref C_BadBound) = some (.type "type"))
    (cx_BadChoices : PySem.W.excIn K C_BadChoices [.type "ValueError", .type "Exception", .type "BaseException", .type "object"] "ValueError.__new__" = true)
    (ck_BadChoices : PySem.W.keepIn K (.ref C_BadChoices) = true)
    (cb_BadChoices : PySem.W.subIn K (.ref C_BadChoices) (.type "BaseException") = some true)
    (ct_BadChoices_ : PySem.W.typeIn K (.ref C_BadChoices) = some (.type "type"))
    (cx_BadCount : PySem.W.excIn K C_BadCount [.type "ValueError", .type "Exception", .type "BaseException", .type "object"] "ValueError.__new__" = true)
    (ck_BadCount : PySem.W.keepIn K (.ref C_BadCount) = true)
    (cb_BadCount : PySem.W.subIn K (.ref C_BadCount) (.type "BaseException") = some true)
    (ct_BadCount_ : PySem.W.typeIn K (.ref C_BadCount) = some (.type "type"))
    (ck_BadDerivation : PySem.W.keepIn K (.ref C_BadDerivation) = true)
    (cb_BadDerivation : PySem.W.subIn K (.ref C_BadDerivation) (.type "BaseException") = some true)
    (ct_BadDerivation_ : PySem.W.typeIn K (.ref C_BadDerivation) = some (.type "type"))
    (cx_BadExchange : PySem.W.excIn K C_BadExchange [.type "ValueError", .type "Exception", .type "BaseException", .type "object"] "ValueError.__new__" = true)
    (ck_BadExchange : PySem.W.keepIn K (.ref C_BadExchange) = true)
    (cb_BadExchange : PySem.W.subIn K (.ref C_BadExchange) (.type "BaseException") = some true)
    (ct_BadExchange_ : PySem.W.typeIn K (.ref C_BadExchange) = some (.type "type"))
    (cx_BadExchanges : PySem.W.excIn K C_BadExchanges [.type "ValueError", .type "Exception", .type "BaseException", .type "object"] "ValueError.__new__" = true)
    (ck_BadExchanges : PySem.W.keepIn K (.ref C_BadExchanges) = true)
    (cb_BadExchanges : PySem.W.subIn K (.ref C_BadExchanges) (.type "BaseException") = some true)
    (ct_BadExchanges_ : PySem.W.typeIn K (.ref C_BadExchanges) = some (.type "type"))
    (cx_BadFilling : PySem.W.excIn K C_BadFilling [.type "ValueError", .type "Exception", .type "BaseException", .type "object"] "ValueError.__new__" = true)
    (ck_BadFilling : PySem.W.keepIn K (.ref C_BadFilling) = true)
    (cb_BadFilling : PySem.W.subIn K (.ref C_BadFilling) (.type "BaseException") = some true)
    (ct_BadFilling_ : PySem.W.typeIn K (.ref C_BadFilling) = some (.type "type"))
    (cx_BadFillings : PySem.W.excIn K C_BadFillings [.type "ValueError", .type "Exception", .type "BaseException", .type "object"] "ValueError.__new__" = true)
    (ck_BadFillings : PySem.W.keepIn K (.ref C_BadFillings) = true)
    (cb_BadFillings : PySem.W.subIn K (.ref C_BadFillings) (.type "BaseException") = some true)
    (ct_BadFillings_ : PySem.W.typeIn K (.ref C_BadFillings) = some (.type "type"))
    (cx_BadGoal : PySem.W.excIn K C_BadGoal [.type "ValueError", .type "Exception", .type "BaseException", .type "object"] "ValueError.__new__" = true)
    (ck_BadGoal : PySem.W.keepIn K (.ref C_BadGoal) = true)
    (cb_BadGoal : PySem.W.subIn K (.ref C_BadGoal) (.type "BaseException") = some true)
    (ct_BadGoal_ : PySem.W.typeIn K (.ref C_BadGoal) = some (.type "type"))
    (cx_BadGroups : PySem.W.excIn K C_BadGroups [.type "ValueError", .type "Exception", .type "BaseException", .type "object"] "ValueError.__new__" = true)
    (ck_BadGroups : PySem.W.keepIn K (.ref C_BadGroups) = true)
    (cb_BadGroups : PySem.W.subIn K (.ref C_BadGroups) (.type "BaseException") = some true)
    (ct_BadGroups_ : PySem.W.typeIn K (.ref C_BadGroups) = some (.type "type"))
    (cx_BadGuide : PySem.W.excIn K C_BadGuide [.type "ValueError", .type "Exception", .type "BaseException", .type "object"] "ValueError.__new__" = true)
    (ck_BadGuide : PySem.W.keepIn K (.ref C_BadGuide) = true)
    (cb_BadGuide : PySem.W.subIn K (.ref C_BadGuide) (.type "BaseException") = some true)
    (ct_BadGuide_ : PySem.W.typeIn K (.ref C_BadGuide) = some (.type "type"))
    (cx_BadHands : PySem.W.excIn K C_BadHands [.type "ValueError", .type "Exception", .type "BaseException", .type "object"] "ValueError.__new__" = true)
    (ck_BadHands : PySem.W.keepIn K (.ref C_BadHands) = true)
    (cb_BadHands : PySem.W.subIn K (.ref C_BadHands) (.type "BaseException") = some true)
    (ct_BadHands_ : PySem.W.typeIn K (.ref C_BadHands) = some (.type "type"))
    (cx_BadId : PySem.W.excIn K C_BadId [.type "ValueError", .type "Exception", .type "BaseException", .type "object"] "ValueError.__new__" = true)
    (ck_BadId : PySem.W.keepIn K (.ref C_BadId) = true)
    (cb_BadId : PySem.W.subIn K (.ref C_BadId) (.type "BaseException") = some true)
    (ct_BadId_ : PySem.W.typeIn K (.ref C_BadId) = some (.type "type"))
    (cx_BadJudge : PySem.W.excIn K C_BadJudge [.type "ValueError", .type "Exception", .type "BaseException", .type "object"] "ValueError.__new__" = true)
    (ck_BadJudge : PySem.W.keepIn K (.ref C_BadJudge) = true)
    (cb_BadJudge : PySem.W.subIn K (.ref C_BadJudge) (.type "BaseException") = some true)
    (ct_BadJudge_ : PySem.W.typeIn K (.ref C_BadJudge) = some (.type "type"))
    (cx_BadLeast : PySem.W.excIn K C_BadLeast [.type "ValueError", .type "Exception", .type "BaseException", .type "object"] "ValueError.__new__" = true)
    (ck_BadLeast : PySem.W.keepIn K (.ref C_BadLeast) = true)
    (cb_BadLeast : PySem.W.subIn K (.ref C_BadLeast) (.type "BaseException") = some true)
    (ct_BadLeast_ : PySem.W.typeIn K (.ref C_BadLeast) = some (.type "type"))
    (cx_BadLevel : PySem.W.excIn K C_BadLevel [.type "ValueError", .type "Exception", .type "BaseException", .type "object"] "ValueError.__new__" = true)
    (ck_BadLevel : PySem.W.keepIn K (.ref C_BadLevel) = true)
    (cb_BadLevel : PySem.W.subIn K (.ref C_BadLevel) (.type "BaseException") = some true)
    (ct_BadLevel_ : PySem.W.typeIn K (.ref C_BadLevel) = some (.type "type"))
    (cx_BadLiteral : PySem.W.excIn K C_BadLiteral [.type "ValueError", .type "Exception", .type "BaseException", .type "object"] "ValueError.__new__" = true)
    (ck_BadLiteral : PySem.W.keepIn K (.ref C_BadLiteral) = true)
    (cb_BadLiteral : PySem.W.subIn K (.ref C_BadLiteral) (.type "BaseException") = some true)
    (ct_BadLiteral_ : PySem.W.typeIn K (.ref C_BadLiteral) = some (.type "type"))
    (cx_BadLiterals : PySem.W.excIn K C_BadLiterals [.type "ValueError", .type "Exception", .type "BaseException", .type "object"] "ValueError.__new__" = true)
    (ck_BadLiterals : PySem.W.keepIn K (.ref C_BadLiterals) = true)
    (cb_BadLiterals : PySem.W.subIn K (.ref C_BadLiterals) (.type "BaseException") = some true)
    (ct_BadLiterals_ : PySem.W.typeIn K (.ref C_BadLiterals) = some (.type "type"))
    (cx_BadLoads : PySem.W.excIn K C_BadLoads [.type "ValueError", .type "Exception", .type "BaseException", .type "object"] "ValueError.__new__" = true)
    (ck_BadLoads : PySem.W.keepIn K (.ref C_BadLoads) = true)
    (cb_BadLoads : PySem.W.subIn K (.ref C_BadLoads) (.type "BaseException") = some true)
    (ct_BadLoads_ : PySem.W.typeIn K (.ref C_BadLoads) = some (.type "type"))
    (ck_BadLog : PySem.W.keepIn K (.ref C_BadLog) = true)
    (cb_BadLog : PySem.W.subIn K (.ref C_BadLog) (.type "BaseException") = some true)
    (ct_BadLog_ : PySem.W.typeIn K (.ref C_BadLog) = some (.type "type"))
    (cx_BadLot : PySem.W.excIn K C_BadLot [.type "ValueError", .type "Exception", .type "BaseException", .type "object"] "ValueError.__new__" = true)
    (ck_BadLot : PySem.W.keepIn K (.ref C_BadLot) = true)
    (cb_BadLot : PySem.W.subIn K (.ref C_BadLot) (.type "BaseException") = some true)
    (ct_BadLot_ : PySem.W.typeIn K (.ref C_BadLot) = some (.type "type"))
    (cx_BadMany : PySem.W.excIn K C_BadMany [.type "ValueError", .type "Exception", .type "BaseException", .type "object"] "ValueError.__new__" = true)
    (ck_BadMany : PySem.W.keepIn K (.ref C_BadMany) = true)
    (cb_BadMany : PySem.W.subIn K (.ref C_BadMany) (.type "BaseException") = some true)
    (ct_BadMany_ : PySem.W.typeIn K (.ref C_BadMany) = some (.type "type"))
    (cx_BadMost : PySem.W.excIn K C_BadMost [.type "ValueError", .type "Exception", .type "BaseException", .type "object"] "ValueError.__new__" = true)
    (ck_BadMost : PySem.W.keepIn K (.ref C_BadMost) = true)
    (cb_BadMost : PySem.W.subIn K (.ref C_BadMost) (.type "BaseException") = some true)
    (ct_BadMost_ : PySem.W.typeIn K (.ref C_BadMost) = some (.type "type"))
    (cx_BadNamed : PySem.W.excIn K C_BadNamed [.type "ValueError", .type "Exception", .type "BaseException", .type "object"] "ValueError.__new__" = true)
    (ck_BadNamed : PySem.W.keepIn K (.ref C_BadNamed) = true)
    (cb_BadNamed : PySem.W.subIn K (.ref C_BadNamed) (.type "BaseException") = some true)
    (ct_BadNamed_ : PySem.W.typeIn K (.ref C_BadNamed) = some (.type "type"))
    (cx_BadNumber : PySem.W.excIn K C_BadNumber [.type "ValueError", .type "Exception", .type "BaseException", .type "object"] "ValueError.__new__" = true)
    (ck_BadNumber : PySem.W.keepIn K (.ref C_BadNumber) = true)
    (cb_BadNumber : PySem.W.subIn K (.ref C_BadNumber) (.type "BaseException") = some true)
    (ct_BadNumber_ : PySem.W.typeIn K (.ref C_BadNumber) = some (.type "type"))
    (cx_BadOrder : PySem.W.excIn K C_BadOrder [.type "ValueError", .type "Exception", .type "BaseException", .type "object"] "ValueError.__new__" = true)
    (ck_BadOrder : PySem.W.keepIn K (.ref C_BadOrder) = true)
    (cb_BadOrder : PySem.W.subIn K (.ref C_BadOrder) (.type "BaseException") = some true)
    (ct_BadOrder_ : PySem.W.typeIn K (.ref C_BadOrder) = some (.type "type"))
    (cx_BadOther : PySem.W.excIn K C_BadOther [.type "ValueError", .type "Exception", .type "BaseException", .type "object"] "ValueError.__new__" = true)
    (ck_BadOther : PySem.W.keepIn K (.ref C_BadOther) = true)
    (cb_BadOther : PySem.W.subIn K (.ref C_BadOther) (.type "BaseException") = some true)
    (ct_BadOther_ : PySem.W.typeIn K (.ref C_BadOther) = some (.type "type"))
    (ck_BadPaper : PySem.W.keepIn K (.ref C_BadPaper) = true)
    (cb_BadPaper : PySem.W.subIn K (.ref C_BadPaper) (.type "BaseException") = some true)
    (ct_BadPaper_ : PySem.W.typeIn K (.ref C_BadPaper) = some (.type "type"))
    (cx_BadPicks : PySem.W.excIn K C_BadPicks [.type "ValueError", .type "Exception", .type "BaseException", .type "object"] "ValueError.__new__" = true)
    (ck_BadPicks : PySem.W.keepIn K (.ref C_BadPicks) = true)
    (cb_BadPicks : PySem.W.subIn K (.ref C_BadPicks) (.type "BaseException") = some true)
    (ct_BadPicks_ : PySem.W.typeIn K (.ref C_BadPicks) = some (.type "type"))
    (cx_BadPlan : PySem.W.excIn K C_BadPlan [.type "ValueError", .type "Exception", .type "BaseException", .type "object"] "ValueError.__new__" = true)
    (ck_BadPlan : PySem.W.keepIn K (.ref C_BadPlan) = true)
    (cb_BadPlan : PySem.W.subIn K (.ref C_BadPlan) (.type "BaseException") = some true)
    (ct_BadPlan_ : PySem.W.typeIn K (.ref C_BadPlan) = some (.type "type"))
    (cx_BadPrice : PySem.W.excIn K C_BadPrice [.type "ValueError", .type "Exception", .type "BaseException", .type "object"] "ValueError.__new__" = true)
    (ck_BadPrice : PySem.W.keepIn K (.ref C_BadPrice) = true)
    (cb_BadPrice : PySem.W.subIn K (.ref C_BadPrice) (.type "BaseException") = some true)
    (ct_BadPrice_ : PySem.W.typeIn K (.ref C_BadPrice) = some (.type "type"))
    (cx_BadPrices : PySem.W.excIn K C_BadPrices [.type "ValueError", .type "Exception", .type "BaseException", .type "object"] "ValueError.__new__" = true)
    (ck_BadPrices : PySem.W.keepIn K (.ref C_BadPrices) = true)
    (cb_BadPrices : PySem.W.subIn K (.ref C_BadPrices) (.type "BaseException") = some true)
    (ct_BadPrices_ : PySem.W.typeIn K (.ref C_BadPrices) = some (.type "type"))
    (cx_BadProblem : PySem.W.excIn K C_BadProblem [.type "ValueError", .type "Exception", .type "BaseException", .type "object"] "ValueError.__new__" = true)
    (ck_BadProblem : PySem.W.keepIn K (.ref C_BadProblem) = true)
    (cb_BadProblem : PySem.W.subIn K (.ref C_BadProblem) (.type "BaseException") = some true)
    (ct_BadProblem_ : PySem.W.typeIn K (.ref C_BadProblem) = some (.type "type"))
    (cx_BadRow : PySem.W.excIn K C_BadRow [.type "ValueError", .type "Exception", .type "BaseException", .type "object"] "ValueError.__new__" = true)
    (ck_BadRow : PySem.W.keepIn K (.ref C_BadRow) = true)
    (cb_BadRow : PySem.W.subIn K (.ref C_BadRow) (.type "BaseException") = some true)
    (ct_BadRow_ : PySem.W.typeIn K (.ref C_BadRow) = some (.type "type"))
    (cx_BadRows : PySem.W.excIn K C_BadRows [.type "ValueError", .type "Exception", .type "BaseException", .type "object"] "ValueError.__new__" = true)
    (ck_BadRows : PySem.W.keepIn K (.ref C_BadRows) = true)
    (cb_BadRows : PySem.W.subIn K (.ref C_BadRows) (.type "BaseException") = some true)
    (ct_BadRows_ : PySem.W.typeIn K (.ref C_BadRows) = some (.type "type"))
    (cx_BadSpot : PySem.W.excIn K C_BadSpot [.type "ValueError", .type "Exception", .type "BaseException", .type "object"] "ValueError.__new__" = true)
    (ck_BadSpot : PySem.W.keepIn K (.ref C_BadSpot) = true)
    (cb_BadSpot : PySem.W.subIn K (.ref C_BadSpot) (.type "BaseException") = some true)
    (ct_BadSpot_ : PySem.W.typeIn K (.ref C_BadSpot) = some (.type "type"))
    (cx_BadStep : PySem.W.excIn K C_BadStep [.type "ValueError", .type "Exception", .type "BaseException", .type "object"] "ValueError.__new__" = true)
    (ck_BadStep : PySem.W.keepIn K (.ref C_BadStep) = true)
    (cb_BadStep : PySem.W.subIn K (.ref C_BadStep) (.type "BaseException") = some true)
    (ct_BadStep_ : PySem.W.typeIn K (.ref C_BadStep) = some (.type "type"))
    (cx_BadSum : PySem.W.excIn K C_BadSum [.type "ValueError", .type "Exception", .type "BaseException", .type "object"] "ValueError.__new__" = true)
    (ck_BadSum : PySem.W.keepIn K (.ref C_BadSum) = true)
    (cb_BadSum : PySem.W.subIn K (.ref C_BadSum) (.type "BaseException") = some true)
    (ct_BadSum_ : PySem.W.typeIn K (.ref C_BadSum) = some (.type "type"))
    (cx_BadTerms : PySem.W.excIn K C_BadTerms [.type "ValueError", .type "Exception", .type "BaseException", .type "object"] "ValueError.__new__" = true)
    (ck_BadTerms : PySem.W.keepIn K (.ref C_BadTerms) = true)
    (cb_BadTerms : PySem.W.subIn K (.ref C_BadTerms) (.type "BaseException") = some true)
    (ct_BadTerms_ : PySem.W.typeIn K (.ref C_BadTerms) = some (.type "type"))
    (ck_BadText : PySem.W.keepIn K (.ref C_BadText) = true)
    (cb_BadText : PySem.W.subIn K (.ref C_BadText) (.type "BaseException") = some true)
    (ct_BadText_ : PySem.W.typeIn K (.ref C_BadText) = some (.type "type"))
    (cx_BadTrail : PySem.W.excIn K C_BadTrail [.type "ValueError", .type "Exception", .type "BaseException", .type "object"] "ValueError.__new__" = true)
    (ck_BadTrail : PySem.W.keepIn K (.ref C_BadTrail) = true)
    (cb_BadTrail : PySem.W.subIn K (.ref C_BadTrail) (.type "BaseException") = some true)
    (ct_BadTrail_ : PySem.W.typeIn K (.ref C_BadTrail) = some (.type "type"))
    (cx_BadVariable : PySem.W.excIn K C_BadVariable [.type "ValueError", .type "Exception", .type "BaseException", .type "object"] "ValueError.__new__" = true)
    (ck_BadVariable : PySem.W.keepIn K (.ref C_BadVariable) = true)
    (cb_BadVariable : PySem.W.subIn K (.ref C_BadVariable) (.type "BaseException") = some true)
    (ct_BadVariable_ : PySem.W.typeIn K (.ref C_BadVariable) = some (.type "type"))
    (cx_BadWays : PySem.W.excIn K C_BadWays [.type "ValueError", .type "Exception", .type "BaseException", .type "object"] "ValueError.__new__" = true)
    (ck_BadWays : PySem.W.keepIn K (.ref C_BadWays) = true)
    (cb_BadWays : PySem.W.subIn K (.ref C_BadWays) (.type "BaseException") = some true)
    (ct_BadWays_ : PySem.W.typeIn K (.ref C_BadWays) = some (.type "type"))
    (cx_BadWitness : PySem.W.excIn K C_BadWitness [.type "ValueError", .type "Exception", .type "BaseException", .type "object"] "ValueError.__new__" = true)
    (ck_BadWitness : PySem.W.keepIn K (.ref C_BadWitness) = true)
    (cb_BadWitness : PySem.W.subIn K (.ref C_BadWitness) (.type "BaseException") = some true)
    (ct_BadWitness_ : PySem.W.typeIn K (.ref C_BadWitness) = some (.type "type"))
    (ck_Clashes : PySem.W.keepIn K (.ref C_Clashes) = true)
    (cb_Clashes : PySem.W.subIn K (.ref C_Clashes) (.type "BaseException") = some true)
    (ct_Clashes_ : PySem.W.typeIn K (.ref C_Clashes) = some (.type "type"))
    (cx_Closed : PySem.W.excIn K C_Closed [.type "ValueError", .type "Exception", .type "BaseException", .type "object"] "ValueError.__new__" = true)
    (ck_Closed : PySem.W.keepIn K (.ref C_Closed) = true)
    (cb_Closed : PySem.W.subIn K (.ref C_Closed) (.type "BaseException") = some true)
    (ct_Closed_ : PySem.W.typeIn K (.ref C_Closed) = some (.type "type"))
    (ck_IsAssumed : PySem.W.keepIn K (.ref C_IsAssumed) = true)
    (cb_IsAssumed : PySem.W.subIn K (.ref C_IsAssumed) (.type "BaseException") = some true)
    (ct_IsAssumed_ : PySem.W.typeIn K (.ref C_IsAssumed) = some (.type "type"))
    (ck_IsReason : PySem.W.keepIn K (.ref C_IsReason) = true)
    (cb_IsReason : PySem.W.subIn K (.ref C_IsReason) (.type "BaseException") = some true)
    (ct_IsReason_ : PySem.W.typeIn K (.ref C_IsReason) = some (.type "type"))
    (cx_NoClash : PySem.W.excIn K C_NoClash [.type "ValueError", .type "Exception", .type "BaseException", .type "object"] "ValueError.__new__" = true)
    (ck_NoClash : PySem.W.keepIn K (.ref C_NoClash) = true)
    (cb_NoClash : PySem.W.subIn K (.ref C_NoClash) (.type "BaseException") = some true)
    (ct_NoClash_ : PySem.W.typeIn K (.ref C_NoClash) = some (.type "type"))
    (cx_NoLevel : PySem.W.excIn K C_NoLevel [.type "ValueError", .type "Exception", .type "BaseException", .type "object"] "ValueError.__new__" = true)
    (ck_NoLevel : PySem.W.keepIn K (.ref C_NoLevel) = true)
    (cb_NoLevel : PySem.W.subIn K (.ref C_NoLevel) (.type "BaseException") = some true)
    (ct_NoLevel_ : PySem.W.typeIn K (.ref C_NoLevel) = some (.type "type"))
    (cx_NotBySums : PySem.W.excIn K C_NotBySums [.type "ValueError", .type "Exception", .type "BaseException", .type "object"] "ValueError.__new__" = true)
    (ck_NotBySums : PySem.W.keepIn K (.ref C_NotBySums) = true)
    (cb_NotBySums : PySem.W.subIn K (.ref C_NotBySums) (.type "BaseException") = some true)
    (ct_NotBySums_ : PySem.W.typeIn K (.ref C_NotBySums) = some (.type "type"))
    (cx_NotClosed : PySem.W.excIn K C_NotClosed [.type "ValueError", .type "Exception", .type "BaseException", .type "object"] "ValueError.__new__" = true)
    (ck_NotClosed : PySem.W.keepIn K (.ref C_NotClosed) = true)
    (cb_NotClosed : PySem.W.subIn K (.ref C_NotClosed) (.type "BaseException") = some true)
    (ct_NotClosed_ : PySem.W.typeIn K (.ref C_NotClosed) = some (.type "type"))
    (cx_NotEliminated : PySem.W.excIn K C_NotEliminated [.type "ValueError", .type "Exception", .type "BaseException", .type "object"] "ValueError.__new__" = true)
    (ck_NotEliminated : PySem.W.keepIn K (.ref C_NotEliminated) = true)
    (cb_NotEliminated : PySem.W.subIn K (.ref C_NotEliminated) (.type "BaseException") = some true)
    (ct_NotEliminated_ : PySem.W.typeIn K (.ref C_NotEliminated) = some (.type "type"))
    (cx_NotEqual : PySem.W.excIn K C_NotEqual [.type "ValueError", .type "Exception", .type "BaseException", .type "object"] "ValueError.__new__" = true)
    (ck_NotEqual : PySem.W.keepIn K (.ref C_NotEqual) = true)
    (cb_NotEqual : PySem.W.subIn K (.ref C_NotEqual) (.type "BaseException") = some true)
    (ct_NotEqual_ : PySem.W.typeIn K (.ref C_NotEqual) = some (.type "type"))
    (ck_NotFree : PySem.W.keepIn K (.ref C_NotFree) = true)
    (cb_NotFree : PySem.W.subIn K (.ref C_NotFree) (.type "BaseException") = some true)
    (ct_NotFree_ : PySem.W.typeIn K (.ref C_NotFree) = some (.type "type"))
    (cx_NotLeaning : PySem.W.excIn K C_NotLeaning [.type "ValueError", .type "Exception", .type "BaseException", .type "object"] "ValueError.__new__" = true)
    (ck_NotLeaning : PySem.W.keepIn K (.ref C_NotLeaning) = true)
    (cb_NotLeaning : PySem.W.subIn K (.ref C_NotLeaning) (.type "BaseException") = some true)
    (ct_NotLeaning_ : PySem.W.typeIn K (.ref C_NotLeaning) = some (.type "type"))
    (cx_NotShort : PySem.W.excIn K C_NotShort [.type "ValueError", .type "Exception", .type "BaseException", .type "object"] "ValueError.__new__" = true)
    (ck_NotShort : PySem.W.keepIn K (.ref C_NotShort) = true)
    (cb_NotShort : PySem.W.subIn K (.ref C_NotShort) (.type "BaseException") = some true)
    (ct_NotShort_ : PySem.W.typeIn K (.ref C_NotShort) = some (.type "type"))
    (cx_NotSound : PySem.W.excIn K C_NotSound [.type "ValueError", .type "Exception", .type "BaseException", .type "object"] "ValueError.__new__" = true)
    (ck_NotSound : PySem.W.keepIn K (.ref C_NotSound) = true)
    (cb_NotSound : PySem.W.subIn K (.ref C_NotSound) (.type "BaseException") = some true)
    (ct_NotSound_ : PySem.W.typeIn K (.ref C_NotSound) = some (.type "type"))
    (cx_NotWhole : PySem.W.excIn K C_NotWhole [.type "ValueError", .type "Exception", .type "BaseException", .type "object"] "ValueError.__new__" = true)
    (ck_NotWhole : PySem.W.keepIn K (.ref C_NotWhole) = true)
    (cb_NotWhole : PySem.W.subIn K (.ref C_NotWhole) (.type "BaseException") = some true)
    (ct_NotWhole_ : PySem.W.typeIn K (.ref C_NotWhole) = some (.type "type"))
    (ck_TooMany : PySem.W.keepIn K (.ref C_TooMany) = true)
    (cb_TooMany : PySem.W.subIn K (.ref C_TooMany) (.type "BaseException") = some true)
    (ct_TooMany_ : PySem.W.typeIn K (.ref C_TooMany) = some (.type "type"))
    (cx_WitnessError : PySem.W.excIn K C_WitnessError [.type "ValueError", .type "Exception", .type "BaseException", .type "object"] "ValueError.__new__" = true)
    (ck_WitnessError : PySem.W.keepIn K (.ref C_WitnessError) = true)
    (cb_WitnessError : PySem.W.subIn K (.ref C_WitnessError) (.type "BaseException") = some true)
    (ct_WitnessError_ : PySem.W.typeIn K (.ref C_WitnessError) = some (.type "type"))
    (lm_BadBound : mroW K C_WitnessError C_BadBound = true)
    (lm_BadChoices : mroW K C_WitnessError C_BadChoices = true)
    (lm_BadCount : mroW K C_WitnessError C_BadCount = true)
    (lm_BadDerivation : mroW K C_WitnessError C_BadDerivation = true)
    (lm_BadExchange : mroW K C_WitnessError C_BadExchange = true)
    (lm_BadExchanges : mroW K C_WitnessError C_BadExchanges = true)
    (lm_BadFilling : mroW K C_WitnessError C_BadFilling = true)
    (lm_BadFillings : mroW K C_WitnessError C_BadFillings = true)
    (lm_BadGoal : mroW K C_WitnessError C_BadGoal = true)
    (lm_BadGroups : mroW K C_WitnessError C_BadGroups = true)
    (lm_BadGuide : mroW K C_WitnessError C_BadGuide = true)
    (lm_BadHands : mroW K C_WitnessError C_BadHands = true)
    (lm_BadId : mroW K C_WitnessError C_BadId = true)
    (lm_BadJudge : mroW K C_WitnessError C_BadJudge = true)
    (lm_BadLeast : mroW K C_WitnessError C_BadLeast = true)
    (lm_BadLevel : mroW K C_WitnessError C_BadLevel = true)
    (lm_BadLiteral : mroW K C_WitnessError C_BadLiteral = true)
    (lm_BadLiterals : mroW K C_WitnessError C_BadLiterals = true)
    (lm_BadLoads : mroW K C_WitnessError C_BadLoads = true)
    (lm_BadLog : mroW K C_WitnessError C_BadLog = true)
    (lm_BadLot : mroW K C_WitnessError C_BadLot = true)
    (lm_BadMany : mroW K C_WitnessError C_BadMany = true)
    (lm_BadMost : mroW K C_WitnessError C_BadMost = true)
    (lm_BadNamed : mroW K C_WitnessError C_BadNamed = true)
    (lm_BadNumber : mroW K C_WitnessError C_BadNumber = true)
    (lm_BadOrder : mroW K C_WitnessError C_BadOrder = true)
    (lm_BadOther : mroW K C_WitnessError C_BadOther = true)
    (lm_BadPaper : mroW K C_WitnessError C_BadPaper = true)
    (lm_BadPicks : mroW K C_WitnessError C_BadPicks = true)
    (lm_BadPlan : mroW K C_WitnessError C_BadPlan = true)
    (lm_BadPrice : mroW K C_WitnessError C_BadPrice = true)
    (lm_BadPrices : mroW K C_WitnessError C_BadPrices = true)
    (lm_BadProblem : mroW K C_WitnessError C_BadProblem = true)
    (lm_BadRow : mroW K C_WitnessError C_BadRow = true)
    (lm_BadRows : mroW K C_WitnessError C_BadRows = true)
    (lm_BadSpot : mroW K C_WitnessError C_BadSpot = true)
    (lm_BadStep : mroW K C_WitnessError C_BadStep = true)
    (lm_BadSum : mroW K C_WitnessError C_BadSum = true)
    (lm_BadTerms : mroW K C_WitnessError C_BadTerms = true)
    (lm_BadText : mroW K C_WitnessError C_BadText = true)
    (lm_BadTrail : mroW K C_WitnessError C_BadTrail = true)
    (lm_BadVariable : mroW K C_WitnessError C_BadVariable = true)
    (lm_BadWays : mroW K C_WitnessError C_BadWays = true)
    (lm_BadWitness : mroW K C_WitnessError C_BadWitness = true)
    (lm_Clashes : mroW K C_WitnessError C_Clashes = true)
    (lm_Closed : mroW K C_WitnessError C_Closed = true)
    (lm_IsAssumed : mroW K C_WitnessError C_IsAssumed = true)
    (lm_IsReason : mroW K C_WitnessError C_IsReason = true)
    (lm_NoClash : mroW K C_WitnessError C_NoClash = true)
    (lm_NoLevel : mroW K C_WitnessError C_NoLevel = true)
    (lm_NotBySums : mroW K C_WitnessError C_NotBySums = true)
    (lm_NotClosed : mroW K C_WitnessError C_NotClosed = true)
    (lm_NotEliminated : mroW K C_WitnessError C_NotEliminated = true)
    (lm_NotEqual : mroW K C_WitnessError C_NotEqual = true)
    (lm_NotFree : mroW K C_WitnessError C_NotFree = true)
    (lm_NotLeaning : mroW K C_WitnessError C_NotLeaning = true)
    (lm_NotShort : mroW K C_WitnessError C_NotShort = true)
    (lm_NotSound : mroW K C_WitnessError C_NotSound = true)
    (lm_NotWhole : mroW K C_WitnessError C_NotWhole = true)
    (lm_TooMany : mroW K C_WitnessError C_TooMany = true)
    (lnd : ([C_WitnessError, C_BadBound, C_BadChoices, C_BadCount, C_BadDerivation, C_BadExchange, C_BadExchanges, C_BadFilling, C_BadFillings, C_BadGoal, C_BadGroups, C_BadGuide, C_BadHands, C_BadId, C_BadJudge, C_BadLeast, C_BadLevel, C_BadLiteral, C_BadLiterals, C_BadLoads, C_BadLog, C_BadLot, C_BadMany, C_BadMost, C_BadNamed, C_BadNumber, C_BadOrder, C_BadOther, C_BadPaper, C_BadPicks, C_BadPlan, C_BadPrice, C_BadPrices, C_BadProblem, C_BadRow, C_BadRows, C_BadSpot, C_BadStep, C_BadSum, C_BadTerms, C_BadText, C_BadTrail, C_BadVariable, C_BadWays, C_BadWitness, C_Clashes, C_Closed, C_IsAssumed, C_IsReason, C_NoClash, C_NoLevel, C_NotBySums, C_NotClosed, C_NotEliminated, C_NotEqual, C_NotFree, C_NotLeaning, C_NotShort, C_NotSound, C_NotWhole, C_TooMany] : List Addr).Nodup)
    (xd_WitnessError : PySem.W.hasDictIn K C_WitnessError = true)
    (xg_BadBound : PySem.W.findIn K (.ref C_BadBound) "__getattribute__" = some (some (.builtin "BaseException.__getattribute__")))
    (xk_BadBound : PySem.W.findIn K (.ref C_BadBound) "__getattr__" = some none)
    (xd_BadBound : PySem.W.hasDictIn K C_BadBound = true)
    (xa_BadBound : PySem.W.findIn K (.ref C_BadBound) "__class__" = some (some (.builtin "object.__class__")))
    (xm_BadBound : PySem.W.mroIn K C_BadBound (.type "object") = some true)
    (xg_BadChoices : PySem.W.findIn K (.ref C_BadChoices) "__getattribute__" = some (some (.builtin "BaseException.__getattribute__")))
    (xk_BadChoices : PySem.W.findIn K (.ref C_BadChoices) "__getattr__" = some none)
    (xd_BadChoices : PySem.W.hasDictIn K C_BadChoices = true)
    (xa_BadChoices : PySem.W.findIn K (.ref C_BadChoices) "__class__" = some (some (.builtin "object.__class__")))
    (xm_BadChoices : PySem.W.mroIn K C_BadChoices (.type "object") = some true)
    (xg_BadCount : PySem.W.findIn K (.ref C_BadCount) "__getattribute__" = some (some (.builtin "BaseException.__getattribute__")))
    (xk_BadCount : PySem.W.findIn K (.ref C_BadCount) "__getattr__" = some none)
    (xd_BadCount : PySem.W.hasDictIn K C_BadCount = true)
    (xa_BadCount : PySem.W.findIn K (.ref C_BadCount) "__class__" = some (some (.builtin "object.__class__")))
    (xm_BadCount : PySem.W.mroIn K C_BadCount (.type "object") = some true)
    (xg_BadDerivation : PySem.W.findIn K (.ref C_BadDerivation) "__getattribute__" = some (some (.builtin "BaseException.__getattribute__")))
    (xk_BadDerivation : PySem.W.findIn K (.ref C_BadDerivation) "__getattr__" = some none)
    (xd_BadDerivation : PySem.W.hasDictIn K C_BadDerivation = true)
    (xa_BadDerivation : PySem.W.findIn K (.ref C_BadDerivation) "__class__" = some (some (.builtin "object.__class__")))
    (xm_BadDerivation : PySem.W.mroIn K C_BadDerivation (.type "object") = some true)
    (xg_BadExchange : PySem.W.findIn K (.ref C_BadExchange) "__getattribute__" = some (some (.builtin "BaseException.__getattribute__")))
    (xk_BadExchange : PySem.W.findIn K (.ref C_BadExchange) "__getattr__" = some none)
    (xd_BadExchange : PySem.W.hasDictIn K C_BadExchange = true)
    (xa_BadExchange : PySem.W.findIn K (.ref C_BadExchange) "__class__" = some (some (.builtin "object.__class__")))
    (xm_BadExchange : PySem.W.mroIn K C_BadExchange (.type "object") = some true)
    (xg_BadExchanges : PySem.W.findIn K (.ref C_BadExchanges) "__getattribute__" = some (some (.builtin "BaseException.__getattribute__")))
    (xk_BadExchanges : PySem.W.findIn K (.ref C_BadExchanges) "__getattr__" = some none)
    (xd_BadExchanges : PySem.W.hasDictIn K C_BadExchanges = true)
    (xa_BadExchanges : PySem.W.findIn K (.ref C_BadExchanges) "__class__" = some (some (.builtin "object.__class__")))
    (xm_BadExchanges : PySem.W.mroIn K C_BadExchanges (.type "object") = some true)
    (xg_BadFilling : PySem.W.findIn K (.ref C_BadFilling) "__getattribute__" = some (some (.builtin "BaseException.__getattribute__")))
    (xk_BadFilling : PySem.W.findIn K (.ref C_BadFilling) "__getattr__" = some none)
    (xd_BadFilling : PySem.W.hasDictIn K C_BadFilling = true)
    (xa_BadFilling : PySem.W.findIn K (.ref C_BadFilling) "__class__" = some (some (.builtin "object.__class__")))
    (xm_BadFilling : PySem.W.mroIn K C_BadFilling (.type "object") = some true)
    (xg_BadFillings : PySem.W.findIn K (.ref C_BadFillings) "__getattribute__" = some (some (.builtin "BaseException.__getattribute__")))
    (xk_BadFillings : PySem.W.findIn K (.ref C_BadFillings) "__getattr__" = some none)
    (xd_BadFillings : PySem.W.hasDictIn K C_BadFillings = true)
    (xa_BadFillings : PySem.W.findIn K (.ref C_BadFillings) "__class__" = some (some (.builtin "object.__class__")))
    (xm_BadFillings : PySem.W.mroIn K C_BadFillings (.type "object") = some true)
    (xg_BadGoal : PySem.W.findIn K (.ref C_BadGoal) "__getattribute__" = some (some (.builtin "BaseException.__getattribute__")))
    (xk_BadGoal : PySem.W.findIn K (.ref C_BadGoal) "__getattr__" = some none)
    (xd_BadGoal : PySem.W.hasDictIn K C_BadGoal = true)
    (xa_BadGoal : PySem.W.findIn K (.ref C_BadGoal) "__class__" = some (some (.builtin "object.__class__")))
    (xm_BadGoal : PySem.W.mroIn K C_BadGoal (.type "object") = some true)
    (xg_BadGroups : PySem.W.findIn K (.ref C_BadGroups) "__getattribute__" = some (some (.builtin "BaseException.__getattribute__")))
    (xk_BadGroups : PySem.W.findIn K (.ref C_BadGroups) "__getattr__" = some none)
    (xd_BadGroups : PySem.W.hasDictIn K C_BadGroups = true)
    (xa_BadGroups : PySem.W.findIn K (.ref C_BadGroups) "__class__" = some (some (.builtin "object.__class__")))
    (xm_BadGroups : PySem.W.mroIn K C_BadGroups (.type "object") = some true)
    (xg_BadGuide : PySem.W.findIn K (.ref C_BadGuide) "__getattribute__" = some (some (.builtin "BaseException.__getattribute__")))
    (xk_BadGuide : PySem.W.findIn K (.ref C_BadGuide) "__getattr__" = some none)
    (xd_BadGuide : PySem.W.hasDictIn K C_BadGuide = true)
    (xa_BadGuide : PySem.W.findIn K (.ref C_BadGuide) "__class__" = some (some (.builtin "object.__class__")))
    (xm_BadGuide : PySem.W.mroIn K C_BadGuide (.type "object") = some true)
    (xg_BadHands : PySem.W.findIn K (.ref C_BadHands) "__getattribute__" = some (some (.builtin "BaseException.__getattribute__")))
    (xk_BadHands : PySem.W.findIn K (.ref C_BadHands) "__getattr__" = some none)
    (xd_BadHands : PySem.W.hasDictIn K C_BadHands = true)
    (xa_BadHands : PySem.W.findIn K (.ref C_BadHands) "__class__" = some (some (.builtin "object.__class__")))
    (xm_BadHands : PySem.W.mroIn K C_BadHands (.type "object") = some true)
    (xg_BadId : PySem.W.findIn K (.ref C_BadId) "__getattribute__" = some (some (.builtin "BaseException.__getattribute__")))
    (xk_BadId : PySem.W.findIn K (.ref C_BadId) "__getattr__" = some none)
    (xd_BadId : PySem.W.hasDictIn K C_BadId = true)
    (xa_BadId : PySem.W.findIn K (.ref C_BadId) "__class__" = some (some (.builtin "object.__class__")))
    (xm_BadId : PySem.W.mroIn K C_BadId (.type "object") = some true)
    (xg_BadJudge : PySem.W.findIn K (.ref C_BadJudge) "__getattribute__" = some (some (.builtin "BaseException.__getattribute__")))
    (xk_BadJudge : PySem.W.findIn K (.ref C_BadJudge) "__getattr__" = some none)
    (xd_BadJudge : PySem.W.hasDictIn K C_BadJudge = true)
    (xa_BadJudge : PySem.W.findIn K (.ref C_BadJudge) "__class__" = some (some (.builtin "object.__class__")))
    (xm_BadJudge : PySem.W.mroIn K C_BadJudge (.type "object") = some true)
    (xg_BadLeast : PySem.W.findIn K (.ref C_BadLeast) "__getattribute__" = some (some (.builtin "BaseException.__getattribute__")))
    (xk_BadLeast : PySem.W.findIn K (.ref C_BadLeast) "__getattr__" = some none)
    (xd_BadLeast : PySem.W.hasDictIn K C_BadLeast = true)
    (xa_BadLeast : PySem.W.findIn K (.ref C_BadLeast) "__class__" = some (some (.builtin "object.__class__")))
    (xm_BadLeast : PySem.W.mroIn K C_BadLeast (.type "object") = some true)
    (xg_BadLevel : PySem.W.findIn K (.ref C_BadLevel) "__getattribute__" = some (some (.builtin "BaseException.__getattribute__")))
    (xk_BadLevel : PySem.W.findIn K (.ref C_BadLevel) "__getattr__" = some none)
    (xd_BadLevel : PySem.W.hasDictIn K C_BadLevel = true)
    (xa_BadLevel : PySem.W.findIn K (.ref C_BadLevel) "__class__" = some (some (.builtin "object.__class__")))
    (xm_BadLevel : PySem.W.mroIn K C_BadLevel (.type "object") = some true)
    (xg_BadLiteral : PySem.W.findIn K (.ref C_BadLiteral) "__getattribute__" = some (some (.builtin "BaseException.__getattribute__")))
    (xk_BadLiteral : PySem.W.findIn K (.ref C_BadLiteral) "__getattr__" = some none)
    (xd_BadLiteral : PySem.W.hasDictIn K C_BadLiteral = true)
    (xa_BadLiteral : PySem.W.findIn K (.ref C_BadLiteral) "__class__" = some (some (.builtin "object.__class__")))
    (xm_BadLiteral : PySem.W.mroIn K C_BadLiteral (.type "object") = some true)
    (xg_BadLiterals : PySem.W.findIn K (.ref C_BadLiterals) "__getattribute__" = some (some (.builtin "BaseException.__getattribute__")))
    (xk_BadLiterals : PySem.W.findIn K (.ref C_BadLiterals) "__getattr__" = some none)
    (xd_BadLiterals : PySem.W.hasDictIn K C_BadLiterals = true)
    (xa_BadLiterals : PySem.W.findIn K (.ref C_BadLiterals) "__class__" = some (some (.builtin "object.__class__")))
    (xm_BadLiterals : PySem.W.mroIn K C_BadLiterals (.type "object") = some true)
    (xg_BadLoads : PySem.W.findIn K (.ref C_BadLoads) "__getattribute__" = some (some (.builtin "BaseException.__getattribute__")))
    (xk_BadLoads : PySem.W.findIn K (.ref C_BadLoads) "__getattr__" = some none)
    (xd_BadLoads : PySem.W.hasDictIn K C_BadLoads = true)
    (xa_BadLoads : PySem.W.findIn K (.ref C_BadLoads) "__class__" = some (some (.builtin "object.__class__")))
    (xm_BadLoads : PySem.W.mroIn K C_BadLoads (.type "object") = some true)
    (xg_BadLog : PySem.W.findIn K (.ref C_BadLog) "__getattribute__" = some (some (.builtin "BaseException.__getattribute__")))
    (xk_BadLog : PySem.W.findIn K (.ref C_BadLog) "__getattr__" = some none)
    (xd_BadLog : PySem.W.hasDictIn K C_BadLog = true)
    (xa_BadLog : PySem.W.findIn K (.ref C_BadLog) "__class__" = some (some (.builtin "object.__class__")))
    (xm_BadLog : PySem.W.mroIn K C_BadLog (.type "object") = some true)
    (xg_BadLot : PySem.W.findIn K (.ref C_BadLot) "__getattribute__" = some (some (.builtin "BaseException.__getattribute__")))
    (xk_BadLot : PySem.W.findIn K (.ref C_BadLot) "__getattr__" = some none)
    (xd_BadLot : PySem.W.hasDictIn K C_BadLot = true)
    (xa_BadLot : PySem.W.findIn K (.ref C_BadLot) "__class__" = some (some (.builtin "object.__class__")))
    (xm_BadLot : PySem.W.mroIn K C_BadLot (.type "object") = some true)
    (xg_BadMany : PySem.W.findIn K (.ref C_BadMany) "__getattribute__" = some (some (.builtin "BaseException.__getattribute__")))
    (xk_BadMany : PySem.W.findIn K (.ref C_BadMany) "__getattr__" = some none)
    (xd_BadMany : PySem.W.hasDictIn K C_BadMany = true)
    (xa_BadMany : PySem.W.findIn K (.ref C_BadMany) "__class__" = some (some (.builtin "object.__class__")))
    (xm_BadMany : PySem.W.mroIn K C_BadMany (.type "object") = some true)
    (xg_BadMost : PySem.W.findIn K (.ref C_BadMost) "__getattribute__" = some (some (.builtin "BaseException.__getattribute__")))
    (xk_BadMost : PySem.W.findIn K (.ref C_BadMost) "__getattr__" = some none)
    (xd_BadMost : PySem.W.hasDictIn K C_BadMost = true)
    (xa_BadMost : PySem.W.findIn K (.ref C_BadMost) "__class__" = some (some (.builtin "object.__class__")))
    (xm_BadMost : PySem.W.mroIn K C_BadMost (.type "object") = some true)
    (xg_BadNamed : PySem.W.findIn K (.ref C_BadNamed) "__getattribute__" = some (some (.builtin "BaseException.__getattribute__")))
    (xk_BadNamed : PySem.W.findIn K (.ref C_BadNamed) "__getattr__" = some none)
    (xd_BadNamed : PySem.W.hasDictIn K C_BadNamed = true)
    (xa_BadNamed : PySem.W.findIn K (.ref C_BadNamed) "__class__" = some (some (.builtin "object.__class__")))
    (xm_BadNamed : PySem.W.mroIn K C_BadNamed (.type "object") = some true)
    (xg_BadNumber : PySem.W.findIn K (.ref C_BadNumber) "__getattribute__" = some (some (.builtin "BaseException.__getattribute__")))
    (xk_BadNumber : PySem.W.findIn K (.ref C_BadNumber) "__getattr__" = some none)
    (xd_BadNumber : PySem.W.hasDictIn K C_BadNumber = true)
    (xa_BadNumber : PySem.W.findIn K (.ref C_BadNumber) "__class__" = some (some (.builtin "object.__class__")))
    (xm_BadNumber : PySem.W.mroIn K C_BadNumber (.type "object") = some true)
    (xg_BadOrder : PySem.W.findIn K (.ref C_BadOrder) "__getattribute__" = some (some (.builtin "BaseException.__getattribute__")))
    (xk_BadOrder : PySem.W.findIn K (.ref C_BadOrder) "__getattr__" = some none)
    (xd_BadOrder : PySem.W.hasDictIn K C_BadOrder = true)
    (xa_BadOrder : PySem.W.findIn K (.ref C_BadOrder) "__class__" = some (some (.builtin "object.__class__")))
    (xm_BadOrder : PySem.W.mroIn K C_BadOrder (.type "object") = some true)
    (xg_BadOther : PySem.W.findIn K (.ref C_BadOther) "__getattribute__" = some (some (.builtin "BaseException.__getattribute__")))
    (xk_BadOther : PySem.W.findIn K (.ref C_BadOther) "__getattr__" = some none)
    (xd_BadOther : PySem.W.hasDictIn K C_BadOther = true)
    (xa_BadOther : PySem.W.findIn K (.ref C_BadOther) "__class__" = some (some (.builtin "object.__class__")))
    (xm_BadOther : PySem.W.mroIn K C_BadOther (.type "object") = some true)
    (xg_BadPaper : PySem.W.findIn K (.ref C_BadPaper) "__getattribute__" = some (some (.builtin "BaseException.__getattribute__")))
    (xk_BadPaper : PySem.W.findIn K (.ref C_BadPaper) "__getattr__" = some none)
    (xd_BadPaper : PySem.W.hasDictIn K C_BadPaper = true)
    (xa_BadPaper : PySem.W.findIn K (.ref C_BadPaper) "__class__" = some (some (.builtin "object.__class__")))
    (xm_BadPaper : PySem.W.mroIn K C_BadPaper (.type "object") = some true)
    (xg_BadPicks : PySem.W.findIn K (.ref C_BadPicks) "__getattribute__" = some (some (.builtin "BaseException.__getattribute__")))
    (xk_BadPicks : PySem.W.findIn K (.ref C_BadPicks) "__getattr__" = some none)
    (xd_BadPicks : PySem.W.hasDictIn K C_BadPicks = true)
    (xa_BadPicks : PySem.W.findIn K (.ref C_BadPicks) "__class__" = some (some (.builtin "object.__class__")))
    (xm_BadPicks : PySem.W.mroIn K C_BadPicks (.type "object") = some true)
    (xg_BadPlan : PySem.W.findIn K (.ref C_BadPlan) "__getattribute__" = some (some (.builtin "BaseException.__getattribute__")))
    (xk_BadPlan : PySem.W.findIn K (.ref C_BadPlan) "__getattr__" = some none)
    (xd_BadPlan : PySem.W.hasDictIn K C_BadPlan = true)
    (xa_BadPlan : PySem.W.findIn K (.ref C_BadPlan) "__class__" = some (some (.builtin "object.__class__")))
    (xm_BadPlan : PySem.W.mroIn K C_BadPlan (.type "object") = some true)
    (xg_BadPrice : PySem.W.findIn K (.ref C_BadPrice) "__getattribute__" = some (some (.builtin "BaseException.__getattribute__")))
    (xk_BadPrice : PySem.W.findIn K (.ref C_BadPrice) "__getattr__" = some none)
    (xd_BadPrice : PySem.W.hasDictIn K C_BadPrice = true)
    (xa_BadPrice : PySem.W.findIn K (.ref C_BadPrice) "__class__" = some (some (.builtin "object.__class__")))
    (xm_BadPrice : PySem.W.mroIn K C_BadPrice (.type "object") = some true)
    (xg_BadPrices : PySem.W.findIn K (.ref C_BadPrices) "__getattribute__" = some (some (.builtin "BaseException.__getattribute__")))
    (xk_BadPrices : PySem.W.findIn K (.ref C_BadPrices) "__getattr__" = some none)
    (xd_BadPrices : PySem.W.hasDictIn K C_BadPrices = true)
    (xa_BadPrices : PySem.W.findIn K (.ref C_BadPrices) "__class__" = some (some (.builtin "object.__class__")))
    (xm_BadPrices : PySem.W.mroIn K C_BadPrices (.type "object") = some true)
    (xg_BadProblem : PySem.W.findIn K (.ref C_BadProblem) "__getattribute__" = some (some (.builtin "BaseException.__getattribute__")))
    (xk_BadProblem : PySem.W.findIn K (.ref C_BadProblem) "__getattr__" = some none)
    (xd_BadProblem : PySem.W.hasDictIn K C_BadProblem = true)
    (xa_BadProblem : PySem.W.findIn K (.ref C_BadProblem) "__class__" = some (some (.builtin "object.__class__")))
    (xm_BadProblem : PySem.W.mroIn K C_BadProblem (.type "object") = some true)
    (xg_BadRow : PySem.W.findIn K (.ref C_BadRow) "__getattribute__" = some (some (.builtin "BaseException.__getattribute__")))
    (xk_BadRow : PySem.W.findIn K (.ref C_BadRow) "__getattr__" = some none)
    (xd_BadRow : PySem.W.hasDictIn K C_BadRow = true)
    (xa_BadRow : PySem.W.findIn K (.ref C_BadRow) "__class__" = some (some (.builtin "object.__class__")))
    (xm_BadRow : PySem.W.mroIn K C_BadRow (.type "object") = some true)
    (xg_BadRows : PySem.W.findIn K (.ref C_BadRows) "__getattribute__" = some (some (.builtin "BaseException.__getattribute__")))
    (xk_BadRows : PySem.W.findIn K (.ref C_BadRows) "__getattr__" = some none)
    (xd_BadRows : PySem.W.hasDictIn K C_BadRows = true)
    (xa_BadRows : PySem.W.findIn K (.ref C_BadRows) "__class__" = some (some (.builtin "object.__class__")))
    (xm_BadRows : PySem.W.mroIn K C_BadRows (.type "object") = some true)
    (xg_BadSpot : PySem.W.findIn K (.ref C_BadSpot) "__getattribute__" = some (some (.builtin "BaseException.__getattribute__")))
    (xk_BadSpot : PySem.W.findIn K (.ref C_BadSpot) "__getattr__" = some none)
    (xd_BadSpot : PySem.W.hasDictIn K C_BadSpot = true)
    (xa_BadSpot : PySem.W.findIn K (.ref C_BadSpot) "__class__" = some (some (.builtin "object.__class__")))
    (xm_BadSpot : PySem.W.mroIn K C_BadSpot (.type "object") = some true)
    (xg_BadStep : PySem.W.findIn K (.ref C_BadStep) "__getattribute__" = some (some (.builtin "BaseException.__getattribute__")))
    (xk_BadStep : PySem.W.findIn K (.ref C_BadStep) "__getattr__" = some none)
    (xd_BadStep : PySem.W.hasDictIn K C_BadStep = true)
    (xa_BadStep : PySem.W.findIn K (.ref C_BadStep) "__class__" = some (some (.builtin "object.__class__")))
    (xm_BadStep : PySem.W.mroIn K C_BadStep (.type "object") = some true)
    (xg_BadSum : PySem.W.findIn K (.ref C_BadSum) "__getattribute__" = some (some (.builtin "BaseException.__getattribute__")))
    (xk_BadSum : PySem.W.findIn K (.ref C_BadSum) "__getattr__" = some none)
    (xd_BadSum : PySem.W.hasDictIn K C_BadSum = true)
    (xa_BadSum : PySem.W.findIn K (.ref C_BadSum) "__class__" = some (some (.builtin "object.__class__")))
    (xm_BadSum : PySem.W.mroIn K C_BadSum (.type "object") = some true)
    (xg_BadTerms : PySem.W.findIn K (.ref C_BadTerms) "__getattribute__" = some (some (.builtin "BaseException.__getattribute__")))
    (xk_BadTerms : PySem.W.findIn K (.ref C_BadTerms) "__getattr__" = some none)
    (xd_BadTerms : PySem.W.hasDictIn K C_BadTerms = true)
    (xa_BadTerms : PySem.W.findIn K (.ref C_BadTerms) "__class__" = some (some (.builtin "object.__class__")))
    (xm_BadTerms : PySem.W.mroIn K C_BadTerms (.type "object") = some true)
    (xg_BadText : PySem.W.findIn K (.ref C_BadText) "__getattribute__" = some (some (.builtin "BaseException.__getattribute__")))
    (xk_BadText : PySem.W.findIn K (.ref C_BadText) "__getattr__" = some none)
    (xd_BadText : PySem.W.hasDictIn K C_BadText = true)
    (xa_BadText : PySem.W.findIn K (.ref C_BadText) "__class__" = some (some (.builtin "object.__class__")))
    (xm_BadText : PySem.W.mroIn K C_BadText (.type "object") = some true)
    (xg_BadTrail : PySem.W.findIn K (.ref C_BadTrail) "__getattribute__" = some (some (.builtin "BaseException.__getattribute__")))
    (xk_BadTrail : PySem.W.findIn K (.ref C_BadTrail) "__getattr__" = some none)
    (xd_BadTrail : PySem.W.hasDictIn K C_BadTrail = true)
    (xa_BadTrail : PySem.W.findIn K (.ref C_BadTrail) "__class__" = some (some (.builtin "object.__class__")))
    (xm_BadTrail : PySem.W.mroIn K C_BadTrail (.type "object") = some true)
    (xg_BadVariable : PySem.W.findIn K (.ref C_BadVariable) "__getattribute__" = some (some (.builtin "BaseException.__getattribute__")))
    (xk_BadVariable : PySem.W.findIn K (.ref C_BadVariable) "__getattr__" = some none)
    (xd_BadVariable : PySem.W.hasDictIn K C_BadVariable = true)
    (xa_BadVariable : PySem.W.findIn K (.ref C_BadVariable) "__class__" = some (some (.builtin "object.__class__")))
    (xm_BadVariable : PySem.W.mroIn K C_BadVariable (.type "object") = some true)
    (xg_BadWays : PySem.W.findIn K (.ref C_BadWays) "__getattribute__" = some (some (.builtin "BaseException.__getattribute__")))
    (xk_BadWays : PySem.W.findIn K (.ref C_BadWays) "__getattr__" = some none)
    (xd_BadWays : PySem.W.hasDictIn K C_BadWays = true)
    (xa_BadWays : PySem.W.findIn K (.ref C_BadWays) "__class__" = some (some (.builtin "object.__class__")))
    (xm_BadWays : PySem.W.mroIn K C_BadWays (.type "object") = some true)
    (xg_BadWitness : PySem.W.findIn K (.ref C_BadWitness) "__getattribute__" = some (some (.builtin "BaseException.__getattribute__")))
    (xk_BadWitness : PySem.W.findIn K (.ref C_BadWitness) "__getattr__" = some none)
    (xd_BadWitness : PySem.W.hasDictIn K C_BadWitness = true)
    (xa_BadWitness : PySem.W.findIn K (.ref C_BadWitness) "__class__" = some (some (.builtin "object.__class__")))
    (xm_BadWitness : PySem.W.mroIn K C_BadWitness (.type "object") = some true)
    (xg_Clashes : PySem.W.findIn K (.ref C_Clashes) "__getattribute__" = some (some (.builtin "BaseException.__getattribute__")))
    (xk_Clashes : PySem.W.findIn K (.ref C_Clashes) "__getattr__" = some none)
    (xd_Clashes : PySem.W.hasDictIn K C_Clashes = true)
    (xa_Clashes : PySem.W.findIn K (.ref C_Clashes) "__class__" = some (some (.builtin "object.__class__")))
    (xm_Clashes : PySem.W.mroIn K C_Clashes (.type "object") = some true)
    (xg_Closed : PySem.W.findIn K (.ref C_Closed) "__getattribute__" = some (some (.builtin "BaseException.__getattribute__")))
    (xk_Closed : PySem.W.findIn K (.ref C_Closed) "__getattr__" = some none)
    (xd_Closed : PySem.W.hasDictIn K C_Closed = true)
    (xa_Closed : PySem.W.findIn K (.ref C_Closed) "__class__" = some (some (.builtin "object.__class__")))
    (xm_Closed : PySem.W.mroIn K C_Closed (.type "object") = some true)
    (xg_IsAssumed : PySem.W.findIn K (.ref C_IsAssumed) "__getattribute__" = some (some (.builtin "BaseException.__getattribute__")))
    (xk_IsAssumed : PySem.W.findIn K (.ref C_IsAssumed) "__getattr__" = some none)
    (xd_IsAssumed : PySem.W.hasDictIn K C_IsAssumed = true)
    (xa_IsAssumed : PySem.W.findIn K (.ref C_IsAssumed) "__class__" = some (some (.builtin "object.__class__")))
    (xm_IsAssumed : PySem.W.mroIn K C_IsAssumed (.type "object") = some true)
    (xg_IsReason : PySem.W.findIn K (.ref C_IsReason) "__getattribute__" = some (some (.builtin "BaseException.__getattribute__")))
    (xk_IsReason : PySem.W.findIn K (.ref C_IsReason) "__getattr__" = some none)
    (xd_IsReason : PySem.W.hasDictIn K C_IsReason = true)
    (xa_IsReason : PySem.W.findIn K (.ref C_IsReason) "__class__" = some (some (.builtin "object.__class__")))
    (xm_IsReason : PySem.W.mroIn K C_IsReason (.type "object") = some true)
    (xg_NoClash : PySem.W.findIn K (.ref C_NoClash) "__getattribute__" = some (some (.builtin "BaseException.__getattribute__")))
    (xk_NoClash : PySem.W.findIn K (.ref C_NoClash) "__getattr__" = some none)
    (xd_NoClash : PySem.W.hasDictIn K C_NoClash = true)
    (xa_NoClash : PySem.W.findIn K (.ref C_NoClash) "__class__" = some (some (.builtin "object.__class__")))
    (xm_NoClash : PySem.W.mroIn K C_NoClash (.type "object") = some true)
    (xg_NoLevel : PySem.W.findIn K (.ref C_NoLevel) "__getattribute__" = some (some (.builtin "BaseException.__getattribute__")))
    (xk_NoLevel : PySem.W.findIn K (.ref C_NoLevel) "__getattr__" = some none)
    (xd_NoLevel : PySem.W.hasDictIn K C_NoLevel = true)
    (xa_NoLevel : PySem.W.findIn K (.ref C_NoLevel) "__class__" = some (some (.builtin "object.__class__")))
    (xm_NoLevel : PySem.W.mroIn K C_NoLevel (.type "object") = some true)
    (xg_NotBySums : PySem.W.findIn K (.ref C_NotBySums) "__getattribute__" = some (some (.builtin "BaseException.__getattribute__")))
    (xk_NotBySums : PySem.W.findIn K (.ref C_NotBySums) "__getattr__" = some none)
    (xd_NotBySums : PySem.W.hasDictIn K C_NotBySums = true)
    (xa_NotBySums : PySem.W.findIn K (.ref C_NotBySums) "__class__" = some (some (.builtin "object.__class__")))
    (xm_NotBySums : PySem.W.mroIn K C_NotBySums (.type "object") = some true)
    (xg_NotClosed : PySem.W.findIn K (.ref C_NotClosed) "__getattribute__" = some (some (.builtin "BaseException.__getattribute__")))
    (xk_NotClosed : PySem.W.findIn K (.ref C_NotClosed) "__getattr__" = some none)
    (xd_NotClosed : PySem.W.hasDictIn K C_NotClosed = true)
    (xa_NotClosed : PySem.W.findIn K (.ref C_NotClosed) "__class__" = some (some (.builtin "object.__class__")))
    (xm_NotClosed : PySem.W.mroIn K C_NotClosed (.type "object") = some true)
    (xg_NotEliminated : PySem.W.findIn K (.ref C_NotEliminated) "__getattribute__" = some (some (.builtin "BaseException.__getattribute__")))
    (xk_NotEliminated : PySem.W.findIn K (.ref C_NotEliminated) "__getattr__" = some none)
    (xd_NotEliminated : PySem.W.hasDictIn K C_NotEliminated = true)
    (xa_NotEliminated : PySem.W.findIn K (.ref C_NotEliminated) "__class__" = some (some (.builtin "object.__class__")))
    (xm_NotEliminated : PySem.W.mroIn K C_NotEliminated (.type "object") = some true)
    (xg_NotEqual : PySem.W.findIn K (.ref C_NotEqual) "__getattribute__" = some (some (.builtin "BaseException.__getattribute__")))
    (xk_NotEqual : PySem.W.findIn K (.ref C_NotEqual) "__getattr__" = some none)
    (xd_NotEqual : PySem.W.hasDictIn K C_NotEqual = true)
    (xa_NotEqual : PySem.W.findIn K (.ref C_NotEqual) "__class__" = some (some (.builtin "object.__class__")))
    (xm_NotEqual : PySem.W.mroIn K C_NotEqual (.type "object") = some true)
    (xg_NotFree : PySem.W.findIn K (.ref C_NotFree) "__getattribute__" = some (some (.builtin "BaseException.__getattribute__")))
    (xk_NotFree : PySem.W.findIn K (.ref C_NotFree) "__getattr__" = some none)
    (xd_NotFree : PySem.W.hasDictIn K C_NotFree = true)
    (xa_NotFree : PySem.W.findIn K (.ref C_NotFree) "__class__" = some (some (.builtin "object.__class__")))
    (xm_NotFree : PySem.W.mroIn K C_NotFree (.type "object") = some true)
    (xg_NotLeaning : PySem.W.findIn K (.ref C_NotLeaning) "__getattribute__" = some (some (.builtin "BaseException.__getattribute__")))
    (xk_NotLeaning : PySem.W.findIn K (.ref C_NotLeaning) "__getattr__" = some none)
    (xd_NotLeaning : PySem.W.hasDictIn K C_NotLeaning = true)
    (xa_NotLeaning : PySem.W.findIn K (.ref C_NotLeaning) "__class__" = some (some (.builtin "object.__class__")))
    (xm_NotLeaning : PySem.W.mroIn K C_NotLeaning (.type "object") = some true)
    (xg_NotShort : PySem.W.findIn K (.ref C_NotShort) "__getattribute__" = some (some (.builtin "BaseException.__getattribute__")))
    (xk_NotShort : PySem.W.findIn K (.ref C_NotShort) "__getattr__" = some none)
    (xd_NotShort : PySem.W.hasDictIn K C_NotShort = true)
    (xa_NotShort : PySem.W.findIn K (.ref C_NotShort) "__class__" = some (some (.builtin "object.__class__")))
    (xm_NotShort : PySem.W.mroIn K C_NotShort (.type "object") = some true)
    (xg_NotSound : PySem.W.findIn K (.ref C_NotSound) "__getattribute__" = some (some (.builtin "BaseException.__getattribute__")))
    (xk_NotSound : PySem.W.findIn K (.ref C_NotSound) "__getattr__" = some none)
    (xd_NotSound : PySem.W.hasDictIn K C_NotSound = true)
    (xa_NotSound : PySem.W.findIn K (.ref C_NotSound) "__class__" = some (some (.builtin "object.__class__")))
    (xm_NotSound : PySem.W.mroIn K C_NotSound (.type "object") = some true)
    (xg_NotWhole : PySem.W.findIn K (.ref C_NotWhole) "__getattribute__" = some (some (.builtin "BaseException.__getattribute__")))
    (xk_NotWhole : PySem.W.findIn K (.ref C_NotWhole) "__getattr__" = some none)
    (xd_NotWhole : PySem.W.hasDictIn K C_NotWhole = true)
    (xa_NotWhole : PySem.W.findIn K (.ref C_NotWhole) "__class__" = some (some (.builtin "object.__class__")))
    (xm_NotWhole : PySem.W.mroIn K C_NotWhole (.type "object") = some true)
    (xg_TooMany : PySem.W.findIn K (.ref C_TooMany) "__getattribute__" = some (some (.builtin "BaseException.__getattribute__")))
    (xk_TooMany : PySem.W.findIn K (.ref C_TooMany) "__getattr__" = some none)
    (xd_TooMany : PySem.W.hasDictIn K C_TooMany = true)
    (xa_TooMany : PySem.W.findIn K (.ref C_TooMany) "__class__" = some (some (.builtin "object.__class__")))
    (xm_TooMany : PySem.W.mroIn K C_TooMany (.type "object") = some true)
    (xn : PySem.W.specialIn K (.builtin "object.__class__") "__get__" = some (some (.builtin "getset_descriptor.__get__")))
    (xt : PySem.W.takesIn K (.builtin "object.__class__") = some true)
    (z_ValueError : PySem.W.nsIn K mainGlobals "ValueError" = some none)
    (z_abs : PySem.W.nsIn K mainGlobals "abs" = some none)
    (z_int : PySem.W.nsIn K mainGlobals "int" = some none)
    (z_isinstance : PySem.W.nsIn K mainGlobals "isinstance" = some none)
    (z_len : PySem.W.nsIn K mainGlobals "len" = some none)
    (z_min : PySem.W.nsIn K mainGlobals "min" = some none)
    (z_range : PySem.W.nsIn K mainGlobals "range" = some none)
    (z_repr : PySem.W.nsIn K mainGlobals "repr" = some none)
    (a_law : PySem.W.nsIn K mainGlobals "law" = some (some (.ref f_law)))
    (l_law : K.lookup f_law = some ⟨oc_law, od_law, .func (PySem.W.fnOf "law" "law" (defArgs (top 75)) (defBody (top 75)) (defScope (top 75)) .none kV_law dc_law pm_law an_law (.ref cA) ct_law), sl_law⟩)
    (c_law : PySem.W.codeIn K (.ref cA) "law" = true) : LawRun P w K 63 mg fa h := by
  have e := hfa.symm.trans (PySem.W.mg_of X G a_law)
  cases e
  have T : Txt K mg ⟨f__law_begun, PySem.W.fnOf "_law_begun" "_law_begun" (defArgs (top 63)) (defBody (top 63)) (defScope (top 63)) .none kV__law_begun dc__law_begun pm__law_begun an__law_begun cd__law_begun ct__law_begun, f__law_draw, PySem.W.fnOf "_law_draw" "_law_draw" (defArgs (top 64)) (defBody (top 64)) (defScope (top 64)) .none kV__law_draw dc__law_draw pm__law_draw an__law_draw cd__law_draw ct__law_draw, f__law_pick, PySem.W.fnOf "_law_pick" "_law_pick" (defArgs (top 65)) (defBody (top 65)) (defScope (top 65)) .none kV__law_pick dc__law_pick pm__law_pick an__law_pick cd__law_pick ct__law_pick, f__law_odd, PySem.W.fnOf "_law_odd" "_law_odd" (defArgs (top 66)) (defBody (top 66)) (defScope (top 66)) .none kV__law_odd dc__law_odd pm__law_odd an__law_odd cd__law_odd ct__law_odd, f__law_kinds_a, PySem.W.fnOf "_law_kinds_a" "_law_kinds_a" (defArgs (top 67)) (defBody (top 67)) (defScope (top 67)) .none kV__law_kinds_a dc__law_kinds_a pm__law_kinds_a an__law_kinds_a cd__law_kinds_a ct__law_kinds_a, f__law_kinds_b, PySem.W.fnOf "_law_kinds_b" "_law_kinds_b" (defArgs (top 68)) (defBody (top 68)) (defScope (top 68)) .none kV__law_kinds_b dc__law_kinds_b pm__law_kinds_b an__law_kinds_b cd__law_kinds_b ct__law_kinds_b, f__law_kinds_c, PySem.W.fnOf "_law_kinds_c" "_law_kinds_c" (defArgs (top 69)) (defBody (top 69)) (defScope (top 69)) .none kV__law_kinds_c dc__law_kinds_c pm__law_kinds_c an__law_kinds_c cd__law_kinds_c ct__law_kinds_c, f__law_plain_a, PySem.W.fnOf "_law_plain_a" "_law_plain_a" (defArgs (top 70)) (defBody (top 70)) (defScope (top 70)) .none kV__law_plain_a dc__law_plain_a pm__law_plain_a an__law_plain_a cd__law_plain_a ct__law_plain_a, f__law_plain_b, PySem.W.fnOf "_law_plain_b" "_law_plain_b" (defArgs (top 71)) (defBody (top 71)) (defScope (top 71)) .none kV__law_plain_b dc__law_plain_b pm__law_plain_b an__law_plain_b cd__law_plain_b ct__law_plain_b, f__law_plain_c, PySem.W.fnOf "_law_plain_c" "_law_plain_c" (defArgs (top 72)) (defBody (top 72)) (defScope (top 72)) .none kV__law_plain_c dc__law_plain_c pm__law_plain_c an__law_plain_c cd__law_plain_c ct__law_plain_c, f__law_held, PySem.W.fnOf "_law_held" "_law_held" (defArgs (top 73)) (defBody (top 73)) (defScope (top 73)) .none kV__law_held dc__law_held pm__law_held an__law_held cd__law_held ct__law_held, f__law_is_alone, PySem.W.fnOf "_law_is_alone" "_law_is_alone" (defArgs (top 74)) (defBody (top 74)) (defScope (top 74)) .none kV__law_is_alone dc__law_is_alone pm__law_is_alone an__law_is_alone cd__law_is_alone ct__law_is_alone, C_BadBound, C_BadChoices, C_BadCount, C_BadDerivation, C_BadExchange, C_BadExchanges, C_BadFilling, C_BadFillings, C_BadGoal, C_BadGroups, C_BadGuide, C_BadHands, C_BadId, C_BadJudge, C_BadLeast, C_BadLevel, C_BadLiteral, C_BadLiterals, C_BadLoads, C_BadLog, C_BadLot, C_BadMany, C_BadMost, C_BadNamed, C_BadNumber, C_BadOrder, C_BadOther, C_BadPaper, C_BadPicks, C_BadPlan, C_BadPrice, C_BadPrices, C_BadProblem, C_BadRow, C_BadRows, C_BadSpot, C_BadStep, C_BadSum, C_BadTerms, C_BadText, C_BadTrail, C_BadVariable, C_BadWays, C_BadWitness, C_Clashes, C_Closed, C_IsAssumed, C_IsReason, C_NoClash, C_NoLevel, C_NotBySums, C_NotClosed, C_NotEliminated, C_NotEqual, C_NotFree, C_NotLeaning, C_NotShort, C_NotSound, C_NotWhole, C_TooMany, C_WitnessError, fi_BadDerivation, PySem.W.fnOf "__init__" "BadDerivation.__init__" (defArgs (inClass (top 5))) (defBody (inClass (top 5))) (defScope (inClass (top 5))) .none kVi_BadDerivation dci_BadDerivation pmi_BadDerivation ani_BadDerivation cdi_BadDerivation cti_BadDerivation, fi_BadLog, PySem.W.fnOf "__init__" "BadLog.__init__" (defArgs (inClass (top 21))) (defBody (inClass (top 21))) (defScope (inClass (top 21))) .none kVi_BadLog dci_BadLog pmi_BadLog ani_BadLog cdi_BadLog cti_BadLog, fi_BadPaper, PySem.W.fnOf "__init__" "BadPaper.__init__" (defArgs (inClass (top 29))) (defBody (inClass (top 29))) (defScope (inClass (top 29))) .none kVi_BadPaper dci_BadPaper pmi_BadPaper ani_BadPaper cdi_BadPaper cti_BadPaper, fi_BadText, PySem.W.fnOf "__init__" "BadText.__init__" (defArgs (inClass (top 41))) (defBody (inClass (top 41))) (defScope (inClass (top 41))) .none kVi_BadText dci_BadText pmi_BadText ani_BadText cdi_BadText cti_BadText, fi_Clashes, PySem.W.fnOf "__init__" "Clashes.__init__" (defArgs (inClass (top 46))) (defBody (inClass (top 46))) (defScope (inClass (top 46))) .none kVi_Clashes dci_Clashes pmi_Clashes ani_Clashes cdi_Clashes cti_Clashes, fi_IsAssumed, PySem.W.fnOf "__init__" "IsAssumed.__init__" (defArgs (inClass (top 48))) (defBody (inClass (top 48))) (defScope (inClass (top 48))) .none kVi_IsAssumed dci_IsAssumed pmi_IsAssumed ani_IsAssumed cdi_IsAssumed cti_IsAssumed, fi_IsReason, PySem.W.fnOf "__init__" "IsReason.__init__" (defArgs (inClass (top 49))) (defBody (inClass (top 49))) (defScope (inClass (top 49))) .none kVi_IsReason dci_IsReason pmi_IsReason ani_IsReason cdi_IsReason cti_IsReason, fi_NotFree, PySem.W.fnOf "__init__" "NotFree.__init__" (defArgs (inClass (top 56))) (defBody (inClass (top 56))) (defScope (inClass (top 56))) .none kVi_NotFree dci_NotFree pmi_NotFree ani_NotFree cdi_NotFree cti_NotFree, fi_TooMany, PySem.W.fnOf "__init__" "TooMany.__init__" (defArgs (inClass (top 61))) (defBody (inClass (top 61))) (defScope (inClass (top 61))) .none kVi_TooMany dci_TooMany pmi_TooMany ani_TooMany cdi_TooMany cti_TooMany⟩ := {
    m__law_begun := PySem.W.mg_of X G a__law_begun
    f__law_begun := fun_mk (st := top 63) l__law_begun c__law_begun k__law_begun
    m__law_draw := PySem.W.mg_of X G a__law_draw
    f__law_draw := fun_mk (st := top 64) l__law_draw c__law_draw k__law_draw
    m__law_pick := PySem.W.mg_of X G a__law_pick
    f__law_pick := fun_mk (st := top 65) l__law_pick c__law_pick k__law_pick
    m__law_odd := PySem.W.mg_of X G a__law_odd
    f__law_odd := fun_mk (st := top 66) l__law_odd c__law_odd k__law_odd
    m__law_kinds_a := PySem.W.mg_of X G a__law_kinds_a
    f__law_kinds_a := fun_mk (st := top 67) l__law_kinds_a c__law_kinds_a k__law_kinds_a
    m__law_kinds_b := PySem.W.mg_of X G a__law_kinds_b
    f__law_kinds_b := fun_mk (st := top 68) l__law_kinds_b c__law_kinds_b k__law_kinds_b
    m__law_kinds_c := PySem.W.mg_of X G a__law_kinds_c
    f__law_kinds_c := fun_mk (st := top 69) l__law_kinds_c c__law_kinds_c k__law_kinds_c
    m__law_plain_a := PySem.W.mg_of X G a__law_plain_a
    f__law_plain_a := fun_mk (st := top 70) l__law_plain_a c__law_plain_a k__law_plain_a
    m__law_plain_b := PySem.W.mg_of X G a__law_plain_b
    f__law_plain_b := fun_mk (st := top 71) l__law_plain_b c__law_plain_b k__law_plain_b
    m__law_plain_c := PySem.W.mg_of X G a__law_plain_c
    f__law_plain_c := fun_mk (st := top 72) l__law_plain_c c__law_plain_c k__law_plain_c
    m__law_held := PySem.W.mg_of X G a__law_held
    f__law_held := fun_mk (st := top 73) l__law_held c__law_held k__law_held
    m__law_is_alone := PySem.W.mg_of X G a__law_is_alone
    f__law_is_alone := fun_mk (st := top 74) l__law_is_alone c__law_is_alone k__law_is_alone
    k_BadBound := ⟨PySem.W.mg_of X G ac_BadBound, cx_BadBound, ck_BadBound, cb_BadBound, ct_BadBound_⟩
    k_BadChoices := ⟨PySem.W.mg_of X G ac_BadChoices, cx_BadChoices, ck_BadChoices, cb_BadChoices, ct_BadChoices_⟩
    k_BadCount := ⟨PySem.W.mg_of X G ac_BadCount, cx_BadCount, ck_BadCount, cb_BadCount, ct_BadCount_⟩
    k_BadDerivation := ⟨PySem.W.mg_of X G ac_BadDerivation, ck_BadDerivation, cb_BadDerivation, ct_BadDerivation_⟩
    fi_BadDerivation := fun_mk (st := inClass (top 5)) li_BadDerivation ci_BadDerivation ki_BadDerivation
    oe_BadDerivation := ⟨⟨_, _, _, _, _, _, _, _, _, _, _, _, _, _, _, xL_BadDerivation, xr_BadDerivation⟩, sa_BadDerivation, cb_BadDerivation, ct_BadDerivation_, ck_BadDerivation⟩
    xf_BadDerivation := ⟨xg_BadDerivation, xk_BadDerivation, cb_BadDerivation, xd_BadDerivation⟩
    nf_BadDerivation := nf_BadDerivation
    ii_BadDerivation := ii_BadDerivation
    ti_BadDerivation := ti_BadDerivation
    k_BadExchange := ⟨PySem.W.mg_of X G ac_BadExchange, cx_BadExchange, ck_BadExchange, cb_BadExchange, ct_BadExchange_⟩
    k_BadExchanges := ⟨PySem.W.mg_of X G ac_BadExchanges, cx_BadExchanges, ck_BadExchanges, cb_BadExchanges, ct_BadExchanges_⟩
    k_BadFilling := ⟨PySem.W.mg_of X G ac_BadFilling, cx_BadFilling, ck_BadFilling, cb_BadFilling, ct_BadFilling_⟩
    k_BadFillings := ⟨PySem.W.mg_of X G ac_BadFillings, cx_BadFillings, ck_BadFillings, cb_BadFillings, ct_BadFillings_⟩
    k_BadGoal := ⟨PySem.W.mg_of X G ac_BadGoal, cx_BadGoal, ck_BadGoal, cb_BadGoal, ct_BadGoal_⟩
    k_BadGroups := ⟨PySem.W.mg_of X G ac_BadGroups, cx_BadGroups, ck_BadGroups, cb_BadGroups, ct_BadGroups_⟩
    k_BadGuide := ⟨PySem.W.mg_of X G ac_BadGuide, cx_BadGuide, ck_BadGuide, cb_BadGuide, ct_BadGuide_⟩
    k_BadHands := ⟨PySem.W.mg_of X G ac_BadHands, cx_BadHands, ck_BadHands, cb_BadHands, ct_BadHands_⟩
    k_BadId := ⟨PySem.W.mg_of X G ac_BadId, cx_BadId, ck_BadId, cb_BadId, ct_BadId_⟩
    k_BadJudge := ⟨PySem.W.mg_of X G ac_BadJudge, cx_BadJudge, ck_BadJudge, cb_BadJudge, ct_BadJudge_⟩
    k_BadLeast := ⟨PySem.W.mg_of X G ac_BadLeast, cx_BadLeast, ck_BadLeast, cb_BadLeast, ct_BadLeast_⟩
    k_BadLevel := ⟨PySem.W.mg_of X G ac_BadLevel, cx_BadLevel, ck_BadLevel, cb_BadLevel, ct_BadLevel_⟩
    k_BadLiteral := ⟨PySem.W.mg_of X G ac_BadLiteral, cx_BadLiteral, ck_BadLiteral, cb_BadLiteral, ct_BadLiteral_⟩
    k_BadLiterals := ⟨PySem.W.mg_of X G ac_BadLiterals, cx_BadLiterals, ck_BadLiterals, cb_BadLiterals, ct_BadLiterals_⟩
    k_BadLoads := ⟨PySem.W.mg_of X G ac_BadLoads, cx_BadLoads, ck_BadLoads, cb_BadLoads, ct_BadLoads_⟩
    k_BadLog := ⟨PySem.W.mg_of X G ac_BadLog, ck_BadLog, cb_BadLog, ct_BadLog_⟩
    fi_BadLog := fun_mk (st := inClass (top 21)) li_BadLog ci_BadLog ki_BadLog
    oe_BadLog := ⟨⟨_, _, _, _, _, _, _, _, _, _, _, _, _, _, _, xL_BadLog, xr_BadLog⟩, sa_BadLog, cb_BadLog, ct_BadLog_, ck_BadLog⟩
    xf_BadLog := ⟨xg_BadLog, xk_BadLog, cb_BadLog, xd_BadLog⟩
    nf_BadLog := nf_BadLog
    ii_BadLog := ii_BadLog
    ti_BadLog := ti_BadLog
    k_BadLot := ⟨PySem.W.mg_of X G ac_BadLot, cx_BadLot, ck_BadLot, cb_BadLot, ct_BadLot_⟩
    k_BadMany := ⟨PySem.W.mg_of X G ac_BadMany, cx_BadMany, ck_BadMany, cb_BadMany, ct_BadMany_⟩
    k_BadMost := ⟨PySem.W.mg_of X G ac_BadMost, cx_BadMost, ck_BadMost, cb_BadMost, ct_BadMost_⟩
    k_BadNamed := ⟨PySem.W.mg_of X G ac_BadNamed, cx_BadNamed, ck_BadNamed, cb_BadNamed, ct_BadNamed_⟩
    k_BadNumber := ⟨PySem.W.mg_of X G ac_BadNumber, cx_BadNumber, ck_BadNumber, cb_BadNumber, ct_BadNumber_⟩
    k_BadOrder := ⟨PySem.W.mg_of X G ac_BadOrder, cx_BadOrder, ck_BadOrder, cb_BadOrder, ct_BadOrder_⟩
    k_BadOther := ⟨PySem.W.mg_of X G ac_BadOther, cx_BadOther, ck_BadOther, cb_BadOther, ct_BadOther_⟩
    k_BadPaper := ⟨PySem.W.mg_of X G ac_BadPaper, ck_BadPaper, cb_BadPaper, ct_BadPaper_⟩
    fi_BadPaper := fun_mk (st := inClass (top 29)) li_BadPaper ci_BadPaper ki_BadPaper
    oe_BadPaper := ⟨⟨_, _, _, _, _, _, _, _, _, _, _, _, _, _, _, xL_BadPaper, xr_BadPaper⟩, sa_BadPaper, cb_BadPaper, ct_BadPaper_, ck_BadPaper⟩
    xf_BadPaper := ⟨xg_BadPaper, xk_BadPaper, cb_BadPaper, xd_BadPaper⟩
    nf_BadPaper := nf_BadPaper
    ii_BadPaper := ii_BadPaper
    ti_BadPaper := ti_BadPaper
    k_BadPicks := ⟨PySem.W.mg_of X G ac_BadPicks, cx_BadPicks, ck_BadPicks, cb_BadPicks, ct_BadPicks_⟩
    k_BadPlan := ⟨PySem.W.mg_of X G ac_BadPlan, cx_BadPlan, ck_BadPlan, cb_BadPlan, ct_BadPlan_⟩
    k_BadPrice := ⟨PySem.W.mg_of X G ac_BadPrice, cx_BadPrice, ck_BadPrice, cb_BadPrice, ct_BadPrice_⟩
    k_BadPrices := ⟨PySem.W.mg_of X G ac_BadPrices, cx_BadPrices, ck_BadPrices, cb_BadPrices, ct_BadPrices_⟩
    k_BadProblem := ⟨PySem.W.mg_of X G ac_BadProblem, cx_BadProblem, ck_BadProblem, cb_BadProblem, ct_BadProblem_⟩
    k_BadRow := ⟨PySem.W.mg_of X G ac_BadRow, cx_BadRow, ck_BadRow, cb_BadRow, ct_BadRow_⟩
    k_BadRows := ⟨PySem.W.mg_of X G ac_BadRows, cx_BadRows, ck_BadRows, cb_BadRows, ct_BadRows_⟩
    k_BadSpot := ⟨PySem.W.mg_of X G ac_BadSpot, cx_BadSpot, ck_BadSpot, cb_BadSpot, ct_BadSpot_⟩
    k_BadStep := ⟨PySem.W.mg_of X G ac_BadStep, cx_BadStep, ck_BadStep, cb_BadStep, ct_BadStep_⟩
    k_BadSum := ⟨PySem.W.mg_of X G ac_BadSum, cx_BadSum, ck_BadSum, cb_BadSum, ct_BadSum_⟩
    k_BadTerms := ⟨PySem.W.mg_of X G ac_BadTerms, cx_BadTerms, ck_BadTerms, cb_BadTerms, ct_BadTerms_⟩
    k_BadText := ⟨PySem.W.mg_of X G ac_BadText, ck_BadText, cb_BadText, ct_BadText_⟩
    fi_BadText := fun_mk (st := inClass (top 41)) li_BadText ci_BadText ki_BadText
    oe_BadText := ⟨⟨_, _, _, _, _, _, _, _, _, _, _, _, _, _, _, xL_BadText, xr_BadText⟩, sa_BadText, cb_BadText, ct_BadText_, ck_BadText⟩
    xf_BadText := ⟨xg_BadText, xk_BadText, cb_BadText, xd_BadText⟩
    nf_BadText := nf_BadText
    ii_BadText := ii_BadText
    ti_BadText := ti_BadText
    k_BadTrail := ⟨PySem.W.mg_of X G ac_BadTrail, cx_BadTrail, ck_BadTrail, cb_BadTrail, ct_BadTrail_⟩
    k_BadVariable := ⟨PySem.W.mg_of X G ac_BadVariable, cx_BadVariable, ck_BadVariable, cb_BadVariable, ct_BadVariable_⟩
    k_BadWays := ⟨PySem.W.mg_of X G ac_BadWays, cx_BadWays, ck_BadWays, cb_BadWays, ct_BadWays_⟩
    k_BadWitness := ⟨PySem.W.mg_of X G ac_BadWitness, cx_BadWitness, ck_BadWitness, cb_BadWitness, ct_BadWitness_⟩
    k_Clashes := ⟨PySem.W.mg_of X G ac_Clashes, ck_Clashes, cb_Clashes, ct_Clashes_⟩
    fi_Clashes := fun_mk (st := inClass (top 46)) li_Clashes ci_Clashes ki_Clashes
    oe_Clashes := ⟨⟨_, _, _, _, _, _, _, _, _, _, _, _, _, _, _, xL_Clashes, xr_Clashes⟩, sa_Clashes, cb_Clashes, ct_Clashes_, ck_Clashes⟩
    xf_Clashes := ⟨xg_Clashes, xk_Clashes, cb_Clashes, xd_Clashes⟩
    nf_Clashes := nf_Clashes
    ii_Clashes := ii_Clashes
    ti_Clashes := ti_Clashes
    k_Closed := ⟨PySem.W.mg_of X G ac_Closed, cx_Closed, ck_Closed, cb_Closed, ct_Closed_⟩
    k_IsAssumed := ⟨PySem.W.mg_of X G ac_IsAssumed, ck_IsAssumed, cb_IsAssumed, ct_IsAssumed_⟩
    fi_IsAssumed := fun_mk (st := inClass (top 48)) li_IsAssumed ci_IsAssumed ki_IsAssumed
    oe_IsAssumed := ⟨⟨_, _, _, _, _, _, _, _, _, _, _, _, _, _, _, xL_IsAssumed, xr_IsAssumed⟩, sa_IsAssumed, cb_IsAssumed, ct_IsAssumed_, ck_IsAssumed⟩
    xf_IsAssumed := ⟨xg_IsAssumed, xk_IsAssumed, cb_IsAssumed, xd_IsAssumed⟩
    nf_IsAssumed := nf_IsAssumed
    ii_IsAssumed := ii_IsAssumed
    ti_IsAssumed := ti_IsAssumed
    k_IsReason := ⟨PySem.W.mg_of X G ac_IsReason, ck_IsReason, cb_IsReason, ct_IsReason_⟩
    fi_IsReason := fun_mk (st := inClass (top 49)) li_IsReason ci_IsReason ki_IsReason
    oe_IsReason := ⟨⟨_, _, _, _, _, _, _, _, _, _, _, _, _, _, _, xL_IsReason, xr_IsReason⟩, sa_IsReason, cb_IsReason, ct_IsReason_, ck_IsReason⟩
    xf_IsReason := ⟨xg_IsReason, xk_IsReason, cb_IsReason, xd_IsReason⟩
    nf_IsReason := nf_IsReason
    ii_IsReason := ii_IsReason
    ti_IsReason := ti_IsReason
    k_NoClash := ⟨PySem.W.mg_of X G ac_NoClash, cx_NoClash, ck_NoClash, cb_NoClash, ct_NoClash_⟩
    k_NoLevel := ⟨PySem.W.mg_of X G ac_NoLevel, cx_NoLevel, ck_NoLevel, cb_NoLevel, ct_NoLevel_⟩
    k_NotBySums := ⟨PySem.W.mg_of X G ac_NotBySums, cx_NotBySums, ck_NotBySums, cb_NotBySums, ct_NotBySums_⟩
    k_NotClosed := ⟨PySem.W.mg_of X G ac_NotClosed, cx_NotClosed, ck_NotClosed, cb_NotClosed, ct_NotClosed_⟩
    k_NotEliminated := ⟨PySem.W.mg_of X G ac_NotEliminated, cx_NotEliminated, ck_NotEliminated, cb_NotEliminated, ct_NotEliminated_⟩
    k_NotEqual := ⟨PySem.W.mg_of X G ac_NotEqual, cx_NotEqual, ck_NotEqual, cb_NotEqual, ct_NotEqual_⟩
    k_NotFree := ⟨PySem.W.mg_of X G ac_NotFree, ck_NotFree, cb_NotFree, ct_NotFree_⟩
    fi_NotFree := fun_mk (st := inClass (top 56)) li_NotFree ci_NotFree ki_NotFree
    oe_NotFree := ⟨⟨_, _, _, _, _, _, _, _, _, _, _, _, _, _, _, xL_NotFree, xr_NotFree⟩, sa_NotFree, cb_NotFree, ct_NotFree_, ck_NotFree⟩
    xf_NotFree := ⟨xg_NotFree, xk_NotFree, cb_NotFree, xd_NotFree⟩
    nf_NotFree := nf_NotFree
    ii_NotFree := ii_NotFree
    ti_NotFree := ti_NotFree
    k_NotLeaning := ⟨PySem.W.mg_of X G ac_NotLeaning, cx_NotLeaning, ck_NotLeaning, cb_NotLeaning, ct_NotLeaning_⟩
    k_NotShort := ⟨PySem.W.mg_of X G ac_NotShort, cx_NotShort, ck_NotShort, cb_NotShort, ct_NotShort_⟩
    k_NotSound := ⟨PySem.W.mg_of X G ac_NotSound, cx_NotSound, ck_NotSound, cb_NotSound, ct_NotSound_⟩
    k_NotWhole := ⟨PySem.W.mg_of X G ac_NotWhole, cx_NotWhole, ck_NotWhole, cb_NotWhole, ct_NotWhole_⟩
    k_TooMany := ⟨PySem.W.mg_of X G ac_TooMany, ck_TooMany, cb_TooMany, ct_TooMany_⟩
    fi_TooMany := fun_mk (st := inClass (top 61)) li_TooMany ci_TooMany ki_TooMany
    oe_TooMany := ⟨⟨_, _, _, _, _, _, _, _, _, _, _, _, _, _, _, xL_TooMany, xr_TooMany⟩, sa_TooMany, cb_TooMany, ct_TooMany_, ck_TooMany⟩
    xf_TooMany := ⟨xg_TooMany, xk_TooMany, cb_TooMany, xd_TooMany⟩
    nf_TooMany := nf_TooMany
    ii_TooMany := ii_TooMany
    ti_TooMany := ti_TooMany
    k_WitnessError := ⟨PySem.W.mg_of X G ac_WitnessError, cx_WitnessError, ck_WitnessError, cb_WitnessError, ct_WitnessError_⟩
    lf_BadBound := ⟨lm_BadBound, ⟨xg_BadBound, xk_BadBound, cb_BadBound, xd_BadBound, xa_BadBound, xn, xt, xm_BadBound⟩, ct_BadBound_⟩
    lf_BadChoices := ⟨lm_BadChoices, ⟨xg_BadChoices, xk_BadChoices, cb_BadChoices, xd_BadChoices, xa_BadChoices, xn, xt, xm_BadChoices⟩, ct_BadChoices_⟩
    lf_BadCount := ⟨lm_BadCount, ⟨xg_BadCount, xk_BadCount, cb_BadCount, xd_BadCount, xa_BadCount, xn, xt, xm_BadCount⟩, ct_BadCount_⟩
    lf_BadDerivation := ⟨lm_BadDerivation, ⟨xg_BadDerivation, xk_BadDerivation, cb_BadDerivation, xd_BadDerivation, xa_BadDerivation, xn, xt, xm_BadDerivation⟩, ct_BadDerivation_⟩
    lf_BadExchange := ⟨lm_BadExchange, ⟨xg_BadExchange, xk_BadExchange, cb_BadExchange, xd_BadExchange, xa_BadExchange, xn, xt, xm_BadExchange⟩, ct_BadExchange_⟩
    lf_BadExchanges := ⟨lm_BadExchanges, ⟨xg_BadExchanges, xk_BadExchanges, cb_BadExchanges, xd_BadExchanges, xa_BadExchanges, xn, xt, xm_BadExchanges⟩, ct_BadExchanges_⟩
    lf_BadFilling := ⟨lm_BadFilling, ⟨xg_BadFilling, xk_BadFilling, cb_BadFilling, xd_BadFilling, xa_BadFilling, xn, xt, xm_BadFilling⟩, ct_BadFilling_⟩
    lf_BadFillings := ⟨lm_BadFillings, ⟨xg_BadFillings, xk_BadFillings, cb_BadFillings, xd_BadFillings, xa_BadFillings, xn, xt, xm_BadFillings⟩, ct_BadFillings_⟩
    lf_BadGoal := ⟨lm_BadGoal, ⟨xg_BadGoal, xk_BadGoal, cb_BadGoal, xd_BadGoal, xa_BadGoal, xn, xt, xm_BadGoal⟩, ct_BadGoal_⟩
    lf_BadGroups := ⟨lm_BadGroups, ⟨xg_BadGroups, xk_BadGroups, cb_BadGroups, xd_BadGroups, xa_BadGroups, xn, xt, xm_BadGroups⟩, ct_BadGroups_⟩
    lf_BadGuide := ⟨lm_BadGuide, ⟨xg_BadGuide, xk_BadGuide, cb_BadGuide, xd_BadGuide, xa_BadGuide, xn, xt, xm_BadGuide⟩, ct_BadGuide_⟩
    lf_BadHands := ⟨lm_BadHands, ⟨xg_BadHands, xk_BadHands, cb_BadHands, xd_BadHands, xa_BadHands, xn, xt, xm_BadHands⟩, ct_BadHands_⟩
    lf_BadId := ⟨lm_BadId, ⟨xg_BadId, xk_BadId, cb_BadId, xd_BadId, xa_BadId, xn, xt, xm_BadId⟩, ct_BadId_⟩
    lf_BadJudge := ⟨lm_BadJudge, ⟨xg_BadJudge, xk_BadJudge, cb_BadJudge, xd_BadJudge, xa_BadJudge, xn, xt, xm_BadJudge⟩, ct_BadJudge_⟩
    lf_BadLeast := ⟨lm_BadLeast, ⟨xg_BadLeast, xk_BadLeast, cb_BadLeast, xd_BadLeast, xa_BadLeast, xn, xt, xm_BadLeast⟩, ct_BadLeast_⟩
    lf_BadLevel := ⟨lm_BadLevel, ⟨xg_BadLevel, xk_BadLevel, cb_BadLevel, xd_BadLevel, xa_BadLevel, xn, xt, xm_BadLevel⟩, ct_BadLevel_⟩
    lf_BadLiteral := ⟨lm_BadLiteral, ⟨xg_BadLiteral, xk_BadLiteral, cb_BadLiteral, xd_BadLiteral, xa_BadLiteral, xn, xt, xm_BadLiteral⟩, ct_BadLiteral_⟩
    lf_BadLiterals := ⟨lm_BadLiterals, ⟨xg_BadLiterals, xk_BadLiterals, cb_BadLiterals, xd_BadLiterals, xa_BadLiterals, xn, xt, xm_BadLiterals⟩, ct_BadLiterals_⟩
    lf_BadLoads := ⟨lm_BadLoads, ⟨xg_BadLoads, xk_BadLoads, cb_BadLoads, xd_BadLoads, xa_BadLoads, xn, xt, xm_BadLoads⟩, ct_BadLoads_⟩
    lf_BadLog := ⟨lm_BadLog, ⟨xg_BadLog, xk_BadLog, cb_BadLog, xd_BadLog, xa_BadLog, xn, xt, xm_BadLog⟩, ct_BadLog_⟩
    lf_BadLot := ⟨lm_BadLot, ⟨xg_BadLot, xk_BadLot, cb_BadLot, xd_BadLot, xa_BadLot, xn, xt, xm_BadLot⟩, ct_BadLot_⟩
    lf_BadMany := ⟨lm_BadMany, ⟨xg_BadMany, xk_BadMany, cb_BadMany, xd_BadMany, xa_BadMany, xn, xt, xm_BadMany⟩, ct_BadMany_⟩
    lf_BadMost := ⟨lm_BadMost, ⟨xg_BadMost, xk_BadMost, cb_BadMost, xd_BadMost, xa_BadMost, xn, xt, xm_BadMost⟩, ct_BadMost_⟩
    lf_BadNamed := ⟨lm_BadNamed, ⟨xg_BadNamed, xk_BadNamed, cb_BadNamed, xd_BadNamed, xa_BadNamed, xn, xt, xm_BadNamed⟩, ct_BadNamed_⟩
    lf_BadNumber := ⟨lm_BadNumber, ⟨xg_BadNumber, xk_BadNumber, cb_BadNumber, xd_BadNumber, xa_BadNumber, xn, xt, xm_BadNumber⟩, ct_BadNumber_⟩
    lf_BadOrder := ⟨lm_BadOrder, ⟨xg_BadOrder, xk_BadOrder, cb_BadOrder, xd_BadOrder, xa_BadOrder, xn, xt, xm_BadOrder⟩, ct_BadOrder_⟩
    lf_BadOther := ⟨lm_BadOther, ⟨xg_BadOther, xk_BadOther, cb_BadOther, xd_BadOther, xa_BadOther, xn, xt, xm_BadOther⟩, ct_BadOther_⟩
    lf_BadPaper := ⟨lm_BadPaper, ⟨xg_BadPaper, xk_BadPaper, cb_BadPaper, xd_BadPaper, xa_BadPaper, xn, xt, xm_BadPaper⟩, ct_BadPaper_⟩
    lf_BadPicks := ⟨lm_BadPicks, ⟨xg_BadPicks, xk_BadPicks, cb_BadPicks, xd_BadPicks, xa_BadPicks, xn, xt, xm_BadPicks⟩, ct_BadPicks_⟩
    lf_BadPlan := ⟨lm_BadPlan, ⟨xg_BadPlan, xk_BadPlan, cb_BadPlan, xd_BadPlan, xa_BadPlan, xn, xt, xm_BadPlan⟩, ct_BadPlan_⟩
    lf_BadPrice := ⟨lm_BadPrice, ⟨xg_BadPrice, xk_BadPrice, cb_BadPrice, xd_BadPrice, xa_BadPrice, xn, xt, xm_BadPrice⟩, ct_BadPrice_⟩
    lf_BadPrices := ⟨lm_BadPrices, ⟨xg_BadPrices, xk_BadPrices, cb_BadPrices, xd_BadPrices, xa_BadPrices, xn, xt, xm_BadPrices⟩, ct_BadPrices_⟩
    lf_BadProblem := ⟨lm_BadProblem, ⟨xg_BadProblem, xk_BadProblem, cb_BadProblem, xd_BadProblem, xa_BadProblem, xn, xt, xm_BadProblem⟩, ct_BadProblem_⟩
    lf_BadRow := ⟨lm_BadRow, ⟨xg_BadRow, xk_BadRow, cb_BadRow, xd_BadRow, xa_BadRow, xn, xt, xm_BadRow⟩, ct_BadRow_⟩
    lf_BadRows := ⟨lm_BadRows, ⟨xg_BadRows, xk_BadRows, cb_BadRows, xd_BadRows, xa_BadRows, xn, xt, xm_BadRows⟩, ct_BadRows_⟩
    lf_BadSpot := ⟨lm_BadSpot, ⟨xg_BadSpot, xk_BadSpot, cb_BadSpot, xd_BadSpot, xa_BadSpot, xn, xt, xm_BadSpot⟩, ct_BadSpot_⟩
    lf_BadStep := ⟨lm_BadStep, ⟨xg_BadStep, xk_BadStep, cb_BadStep, xd_BadStep, xa_BadStep, xn, xt, xm_BadStep⟩, ct_BadStep_⟩
    lf_BadSum := ⟨lm_BadSum, ⟨xg_BadSum, xk_BadSum, cb_BadSum, xd_BadSum, xa_BadSum, xn, xt, xm_BadSum⟩, ct_BadSum_⟩
    lf_BadTerms := ⟨lm_BadTerms, ⟨xg_BadTerms, xk_BadTerms, cb_BadTerms, xd_BadTerms, xa_BadTerms, xn, xt, xm_BadTerms⟩, ct_BadTerms_⟩
    lf_BadText := ⟨lm_BadText, ⟨xg_BadText, xk_BadText, cb_BadText, xd_BadText, xa_BadText, xn, xt, xm_BadText⟩, ct_BadText_⟩
    lf_BadTrail := ⟨lm_BadTrail, ⟨xg_BadTrail, xk_BadTrail, cb_BadTrail, xd_BadTrail, xa_BadTrail, xn, xt, xm_BadTrail⟩, ct_BadTrail_⟩
    lf_BadVariable := ⟨lm_BadVariable, ⟨xg_BadVariable, xk_BadVariable, cb_BadVariable, xd_BadVariable, xa_BadVariable, xn, xt, xm_BadVariable⟩, ct_BadVariable_⟩
    lf_BadWays := ⟨lm_BadWays, ⟨xg_BadWays, xk_BadWays, cb_BadWays, xd_BadWays, xa_BadWays, xn, xt, xm_BadWays⟩, ct_BadWays_⟩
    lf_BadWitness := ⟨lm_BadWitness, ⟨xg_BadWitness, xk_BadWitness, cb_BadWitness, xd_BadWitness, xa_BadWitness, xn, xt, xm_BadWitness⟩, ct_BadWitness_⟩
    lf_Clashes := ⟨lm_Clashes, ⟨xg_Clashes, xk_Clashes, cb_Clashes, xd_Clashes, xa_Clashes, xn, xt, xm_Clashes⟩, ct_Clashes_⟩
    lf_Closed := ⟨lm_Closed, ⟨xg_Closed, xk_Closed, cb_Closed, xd_Closed, xa_Closed, xn, xt, xm_Closed⟩, ct_Closed_⟩
    lf_IsAssumed := ⟨lm_IsAssumed, ⟨xg_IsAssumed, xk_IsAssumed, cb_IsAssumed, xd_IsAssumed, xa_IsAssumed, xn, xt, xm_IsAssumed⟩, ct_IsAssumed_⟩
    lf_IsReason := ⟨lm_IsReason, ⟨xg_IsReason, xk_IsReason, cb_IsReason, xd_IsReason, xa_IsReason, xn, xt, xm_IsReason⟩, ct_IsReason_⟩
    lf_NoClash := ⟨lm_NoClash, ⟨xg_NoClash, xk_NoClash, cb_NoClash, xd_NoClash, xa_NoClash, xn, xt, xm_NoClash⟩, ct_NoClash_⟩
    lf_NoLevel := ⟨lm_NoLevel, ⟨xg_NoLevel, xk_NoLevel, cb_NoLevel, xd_NoLevel, xa_NoLevel, xn, xt, xm_NoLevel⟩, ct_NoLevel_⟩
    lf_NotBySums := ⟨lm_NotBySums, ⟨xg_NotBySums, xk_NotBySums, cb_NotBySums, xd_NotBySums, xa_NotBySums, xn, xt, xm_NotBySums⟩, ct_NotBySums_⟩
    lf_NotClosed := ⟨lm_NotClosed, ⟨xg_NotClosed, xk_NotClosed, cb_NotClosed, xd_NotClosed, xa_NotClosed, xn, xt, xm_NotClosed⟩, ct_NotClosed_⟩
    lf_NotEliminated := ⟨lm_NotEliminated, ⟨xg_NotEliminated, xk_NotEliminated, cb_NotEliminated, xd_NotEliminated, xa_NotEliminated, xn, xt, xm_NotEliminated⟩, ct_NotEliminated_⟩
    lf_NotEqual := ⟨lm_NotEqual, ⟨xg_NotEqual, xk_NotEqual, cb_NotEqual, xd_NotEqual, xa_NotEqual, xn, xt, xm_NotEqual⟩, ct_NotEqual_⟩
    lf_NotFree := ⟨lm_NotFree, ⟨xg_NotFree, xk_NotFree, cb_NotFree, xd_NotFree, xa_NotFree, xn, xt, xm_NotFree⟩, ct_NotFree_⟩
    lf_NotLeaning := ⟨lm_NotLeaning, ⟨xg_NotLeaning, xk_NotLeaning, cb_NotLeaning, xd_NotLeaning, xa_NotLeaning, xn, xt, xm_NotLeaning⟩, ct_NotLeaning_⟩
    lf_NotShort := ⟨lm_NotShort, ⟨xg_NotShort, xk_NotShort, cb_NotShort, xd_NotShort, xa_NotShort, xn, xt, xm_NotShort⟩, ct_NotShort_⟩
    lf_NotSound := ⟨lm_NotSound, ⟨xg_NotSound, xk_NotSound, cb_NotSound, xd_NotSound, xa_NotSound, xn, xt, xm_NotSound⟩, ct_NotSound_⟩
    lf_NotWhole := ⟨lm_NotWhole, ⟨xg_NotWhole, xk_NotWhole, cb_NotWhole, xd_NotWhole, xa_NotWhole, xn, xt, xm_NotWhole⟩, ct_NotWhole_⟩
    lf_TooMany := ⟨lm_TooMany, ⟨xg_TooMany, xk_TooMany, cb_TooMany, xd_TooMany, xa_TooMany, xn, xt, xm_TooMany⟩, ct_TooMany_⟩
    lnd := lnd
    whd := xd_WitnessError
    g_ValueError := PySem.W.mg_none_of X G z_ValueError
    g_abs := PySem.W.mg_none_of X G z_abs
    g_int := PySem.W.mg_none_of X G z_int
    g_isinstance := PySem.W.mg_none_of X G z_isinstance
    g_len := PySem.W.mg_none_of X G z_len
    g_min := PySem.W.mg_none_of X G z_min
    g_range := PySem.W.mg_none_of X G z_range
    g_repr := PySem.W.mg_none_of X G z_repr }
  refine ⟨[], fun p hp => (by simp at hp), fun p hp => (by simp at hp), fun p hp => (by simp at hp), fun s₁ a ns base H hl hK hN hTB e0 hH hS hno => ?_⟩
  exact law_done T l_law c_law (fun s u => .of_eq rfl) math hl e0 hS hno
theorem law_true (ns : List Int) (hn : ns.length ≤ 63) : ∃ S', g_law (some (.scr ns) :: some .st :: List.replicate 8 none) (begun ns) = .ok (.rt (.bl true), S') := law_true' ns hn
end
end My
def PySem.W.Fast.tw2022519744056226364 : Nat := 0
def PySem.W.Fast.tw13842433208690076247 : Nat := 0
def PySem.W.Fast.tw16274659557846250850 : Nat := 0
def PySem.W.Fast.tw16397943905717313638 : Nat := 0
def PySem.W.Fast.tw15330589201111580637 : Nat := 0
def PySem.W.Fast.tw4260129876249470621 : Nat := 0
def PySem.W.Fast.tw6302175139935969154 : Nat := 0
def PySem.W.Fast.tw8854296194084371099 : Nat := 0
def PySem.W.Fast.tw3015192065642192474 : Nat := 0
def PySem.W.Fast.tw16287380951808784797 : Nat := 0
def PySem.W.Fast.tw15718117640988805802 : Nat := 0
def PySem.W.Fast.tw17639689658866033057 : Nat := 0
def PySem.W.Fast.tw10251253022450044248 : Nat := 0
def PySem.W.Fast.tw5940254961464174764 : Nat := 0
def PySem.W.Fast.tw2616919400462675491 : Nat := 0
def PySem.W.Fast.tw11641828316428859548 : Nat := 0
def PySem.W.Fast.tw13378986775868912919 : Nat := 0
def PySem.W.Fast.tw4107596079049656064 : Nat := 0
def PySem.W.Fast.tw1392476017070814124 : Nat := 0
def PySem.W.Fast.tw3835624985132360809 : Nat := 0
def PySem.W.Fast.tw5991217715275598071 : Nat := 0
def PySem.W.Fast.tw8712406188390172136 : Nat := 0
def PySem.W.Fast.tw16820999201162394814 : Nat := 0
def PySem.W.Fast.tw13863028567478038985 : Nat := 0
def PySem.W.Fast.tw7023205156984839355 : Nat := 0
def PySem.W.Fast.tw7667690318300082046 : Nat := 0
def PySem.W.Fast.tw2561301816092848144 : Nat := 0
def PySem.W.Fast.tw7417816545706441812 : Nat := 0
def PySem.W.Fast.tw4513339485164856422 : Nat := 0
def PySem.W.Fast.tw2749858234393389635 : Nat := 0
def PySem.W.Fast.tw11637223447017342977 : Nat := 0
def PySem.W.Fast.tw13050650254826582540 : Nat := 0
def PySem.W.Fast.tw16031478385086339097 : Nat := 0
def PySem.W.Fast.tw6444219425760040212 : Nat := 0
def PySem.W.Fast.tw8776700414289961432 : Nat := 0
def PySem.W.Fast.tw599148534328231652 : Nat := 0
def PySem.W.Fast.tw17251153201652533250 : Nat := 0
def PySem.W.Fast.tw298977862235617030 : Nat := 0
def PySem.W.Fast.tw4371418138258042958 : Nat := 0
open PySem PySem.W PyProof.Rows in
set_option maxRecDepth 100000 in
set_option maxHeartbeats 0 in
theorem PySem.Challenge.cw_witnesslog_k00_errors_apart_holds : PySem.Challenge.rw_witnesslog_k00_errors_apart.Holds := by
  w_on; o_law; k_head; (case hw => w_witness2)
  k_fill
  refine VS.walk_G (l := PySem.Challenge.rw_witnesslog_k00_errors_apart) (n := 63) rfl (by decide) rfl (by decide +kernel) (fun w h Y => by first | exact PySem.W.km_in_of Y | exact PySem.W.kIn_of Y) ?F
  case F =>
    intro w mg fa h KX G hmg own
    refine' My.all_mk  KX G hmg own (fun ns hn => My.law_true ns hn) ?ac_BadBound ?ac_BadChoices ?ac_BadCount ?ac_BadDerivation ?ac_BadExchange ?ac_BadExchanges ?ac_BadFilling ?ac_BadFillings ?ac_BadGoal ?ac_BadGroups ?ac_BadGuide ?ac_BadHands ?ac_BadId ?ac_BadJudge ?ac_BadLeast ?ac_BadLevel ?ac_BadLiteral ?ac_BadLiterals ?ac_BadLoads ?ac_BadLog ?ac_BadLot ?ac_BadMany ?ac_BadMost ?ac_BadNamed ?ac_BadNumber ?ac_BadOrder ?ac_BadOther ?ac_BadPaper ?ac_BadPicks ?ac_BadPlan ?ac_BadPrice ?ac_BadPrices ?ac_BadProblem ?ac_BadRow ?ac_BadRows ?ac_BadSpot ?ac_BadStep ?ac_BadSum ?ac_BadTerms ?ac_BadText ?ac_BadTrail ?ac_BadVariable ?ac_BadWays ?ac_BadWitness ?ac_Clashes ?ac_Closed ?ac_IsAssumed ?ac_IsReason ?ac_NoClash ?ac_NoLevel ?ac_NotBySums ?ac_NotClosed ?ac_NotEliminated ?ac_NotEqual ?ac_NotFree ?ac_NotLeaning ?ac_NotShort ?ac_NotSound ?ac_NotWhole ?ac_TooMany ?ac_WitnessError ?a__law_begun ?l__law_begun ?c__law_begun ?k__law_begun ?a__law_draw ?l__law_draw ?c__law_draw ?k__law_draw ?a__law_pick ?l__law_pick ?c__law_pick ?k__law_pick ?a__law_odd ?l__law_odd ?c__law_odd ?k__law_odd ?a__law_kinds_a ?l__law_kinds_a ?c__law_kinds_a ?k__law_kinds_a ?a__law_kinds_b ?l__law_kinds_b ?c__law_kinds_b ?k__law_kinds_b ?a__law_kinds_c ?l__law_kinds_c ?c__law_kinds_c ?k__law_kinds_c ?a__law_plain_a ?l__law_plain_a ?c__law_plain_a ?k__law_plain_a ?a__law_plain_b ?l__law_plain_b ?c__law_plain_b ?k__law_plain_b ?a__law_plain_c ?l__law_plain_c ?c__law_plain_c ?k__law_plain_c ?a__law_held ?l__law_held ?c__law_held ?k__law_held ?a__law_is_alone ?l__law_is_alone ?c__law_is_alone ?k__law_is_alone ?xL_BadDerivation ?xr_BadDerivation ?sa_BadDerivation ?nf_BadDerivation ?ii_BadDerivation ?ti_BadDerivation ?li_BadDerivation ?ci_BadDerivation ?ki_BadDerivation ?xL_BadLog ?xr_BadLog ?sa_BadLog ?nf_BadLog ?ii_BadLog ?ti_BadLog ?li_BadLog ?ci_BadLog ?ki_BadLog ?xL_BadPaper ?xr_BadPaper ?sa_BadPaper ?nf_BadPaper ?ii_BadPaper ?ti_BadPaper ?li_BadPaper ?ci_BadPaper ?ki_BadPaper ?xL_BadText ?xr_BadText ?sa_BadText ?nf_BadText ?ii_BadText ?ti_BadText ?li_BadText ?ci_BadText ?ki_BadText ?xL_Clashes ?xr_Clashes ?sa_Clashes ?nf_Clashes ?ii_Clashes ?ti_Clashes ?li_Clashes ?ci_Clashes ?ki_Clashes ?xL_IsAssumed ?xr_IsAssumed ?sa_IsAssumed ?nf_IsAssumed ?ii_IsAssumed ?ti_IsAssumed ?li_IsAssumed ?ci_IsAssumed ?ki_IsAssumed ?xL_IsReason ?xr_IsReason ?sa_IsReason ?nf_IsReason ?ii_IsReason ?ti_IsReason ?li_IsReason ?ci_IsReason ?ki_IsReason ?xL_NotFree ?xr_NotFree ?sa_NotFree ?nf_NotFree ?ii_NotFree ?ti_NotFree ?li_NotFree ?ci_NotFree ?ki_NotFree ?xL_TooMany ?xr_TooMany ?sa_TooMany ?nf_TooMany ?ii_TooMany ?ti_TooMany ?li_TooMany ?ci_TooMany ?ki_TooMany ?cx_BadBound ?ck_BadBound ?cb_BadBound ?ct_BadBound_ ?cx_BadChoices ?ck_BadChoices ?cb_BadChoices ?ct_BadChoices_ ?cx_BadCount ?ck_BadCount ?cb_BadCount ?ct_BadCount_ ?ck_BadDerivation ?cb_BadDerivation ?ct_BadDerivation_ ?cx_BadExchange ?ck_BadExchange ?cb_BadExchange ?ct_BadExchange_ ?cx_BadExchanges ?ck_BadExchanges ?cb_BadExchanges ?ct_BadExchanges_ ?cx_BadFilling ?ck_BadFilling ?cb_BadFilling ?ct_BadFilling_ ?cx_BadFillings ?ck_BadFillings ?cb_BadFillings ?ct_BadFillings_ ?cx_BadGoal ?ck_BadGoal ?cb_BadGoal ?ct_BadGoal_ ?cx_BadGroups ?ck_BadGroups ?cb_BadGroups ?ct_BadGroups_ ?cx_BadGuide ?ck_BadGuide ?cb_BadGuide ?ct_BadGuide_ ?cx_BadHands ?ck_BadHands ?cb_BadHands ?ct_BadHands_ ?cx_BadId ?ck_BadId ?cb_BadId ?ct_BadId_ ?cx_BadJudge ?ck_BadJudge ?cb_BadJudge ?ct_BadJudge_ ?cx_BadLeast ?ck_BadLeast ?cb_BadLeast ?ct_BadLeast_ ?cx_BadLevel ?ck_BadLevel ?cb_BadLevel ?ct_BadLevel_ ?cx_BadLiteral ?ck_BadLiteral ?cb_BadLiteral ?ct_BadLiteral_ ?cx_BadLiterals ?ck_BadLiterals ?cb_BadLiterals ?ct_BadLiterals_ ?cx_BadLoads ?ck_BadLoads ?cb_BadLoads ?ct_BadLoads_ ?ck_BadLog ?cb_BadLog ?ct_BadLog_ ?cx_BadLot ?ck_BadLot ?cb_BadLot ?ct_BadLot_ ?cx_BadMany ?ck_BadMany ?cb_BadMany ?ct_BadMany_ ?cx_BadMost ?ck_BadMost ?cb_BadMost ?ct_BadMost_ ?cx_BadNamed ?ck_BadNamed ?cb_BadNamed ?ct_BadNamed_ ?cx_BadNumber ?ck_BadNumber ?cb_BadNumber ?ct_BadNumber_ ?cx_BadOrder ?ck_BadOrder ?cb_BadOrder ?ct_BadOrder_ ?cx_BadOther ?ck_BadOther ?cb_BadOther ?ct_BadOther_ ?ck_BadPaper ?cb_BadPaper ?ct_BadPaper_ ?cx_BadPicks ?ck_BadPicks ?cb_BadPicks ?ct_BadPicks_ ?cx_BadPlan ?ck_BadPlan ?cb_BadPlan ?ct_BadPlan_ ?cx_BadPrice ?ck_BadPrice ?cb_BadPrice ?ct_BadPrice_ ?cx_BadPrices ?ck_BadPrices ?cb_BadPrices ?ct_BadPrices_ ?cx_BadProblem ?ck_BadProblem ?cb_BadProblem ?ct_BadProblem_ ?cx_BadRow ?ck_BadRow ?cb_BadRow ?ct_BadRow_ ?cx_BadRows ?ck_BadRows ?cb_BadRows ?ct_BadRows_ ?cx_BadSpot ?ck_BadSpot ?cb_BadSpot ?ct_BadSpot_ ?cx_BadStep ?ck_BadStep ?cb_BadStep ?ct_BadStep_ ?cx_BadSum ?ck_BadSum ?cb_BadSum ?ct_BadSum_ ?cx_BadTerms ?ck_BadTerms ?cb_BadTerms ?ct_BadTerms_ ?ck_BadText ?cb_BadText ?ct_BadText_ ?cx_BadTrail ?ck_BadTrail ?cb_BadTrail ?ct_BadTrail_ ?cx_BadVariable ?ck_BadVariable ?cb_BadVariable ?ct_BadVariable_ ?cx_BadWays ?ck_BadWays ?cb_BadWays ?ct_BadWays_ ?cx_BadWitness ?ck_BadWitness ?cb_BadWitness ?ct_BadWitness_ ?ck_Clashes ?cb_Clashes ?ct_Clashes_ ?cx_Closed ?ck_Closed ?cb_Closed ?ct_Closed_ ?ck_IsAssumed ?cb_IsAssumed ?ct_IsAssumed_ ?ck_IsReason ?cb_IsReason ?ct_IsReason_ ?cx_NoClash ?ck_NoClash ?cb_NoClash ?ct_NoClash_ ?cx_NoLevel ?ck_NoLevel ?cb_NoLevel ?ct_NoLevel_ ?cx_NotBySums ?ck_NotBySums ?cb_NotBySums ?ct_NotBySums_ ?cx_NotClosed ?ck_NotClosed ?cb_NotClosed ?ct_NotClosed_ ?cx_NotEliminated ?ck_NotEliminated ?cb_NotEliminated ?ct_NotEliminated_ ?cx_NotEqual ?ck_NotEqual ?cb_NotEqual ?ct_NotEqual_ ?ck_NotFree ?cb_NotFree ?ct_NotFree_ ?cx_NotLeaning ?ck_NotLeaning ?cb_NotLeaning ?ct_NotLeaning_ ?cx_NotShort ?ck_NotShort ?cb_NotShort ?ct_NotShort_ ?cx_NotSound ?ck_NotSound ?cb_NotSound ?ct_NotSound_ ?cx_NotWhole ?ck_NotWhole ?cb_NotWhole ?ct_NotWhole_ ?ck_TooMany ?cb_TooMany ?ct_TooMany_ ?cx_WitnessError ?ck_WitnessError ?cb_WitnessError ?ct_WitnessError_ ?lm_BadBound ?lm_BadChoices ?lm_BadCount ?lm_BadDerivation ?lm_BadExchange ?lm_BadExchanges ?lm_BadFilling ?lm_BadFillings ?lm_BadGoal ?lm_BadGroups ?lm_BadGuide ?lm_BadHands ?lm_BadId ?lm_BadJudge ?lm_BadLeast ?lm_BadLevel ?lm_BadLiteral ?lm_BadLiterals ?lm_BadLoads ?lm_BadLog ?lm_BadLot ?lm_BadMany ?lm_BadMost ?lm_BadNamed ?lm_BadNumber ?lm_BadOrder ?lm_BadOther ?lm_BadPaper ?lm_BadPicks ?lm_BadPlan ?lm_BadPrice ?lm_BadPrices ?lm_BadProblem ?lm_BadRow ?lm_BadRows ?lm_BadSpot ?lm_BadStep ?lm_BadSum ?lm_BadTerms ?lm_BadText ?lm_BadTrail ?lm_BadVariable ?lm_BadWays ?lm_BadWitness ?lm_Clashes ?lm_Closed ?lm_IsAssumed ?lm_IsReason ?lm_NoClash ?lm_NoLevel ?lm_NotBySums ?lm_NotClosed ?lm_NotEliminated ?lm_NotEqual ?lm_NotFree ?lm_NotLeaning ?lm_NotShort ?lm_NotSound ?lm_NotWhole ?lm_TooMany ?lnd ?xd_WitnessError ?xg_BadBound ?xk_BadBound ?xd_BadBound ?xa_BadBound ?xm_BadBound ?xg_BadChoices ?xk_BadChoices ?xd_BadChoices ?xa_BadChoices ?xm_BadChoices ?xg_BadCount ?xk_BadCount ?xd_BadCount ?xa_BadCount ?xm_BadCount ?xg_BadDerivation ?xk_BadDerivation ?xd_BadDerivation ?xa_BadDerivation ?xm_BadDerivation ?xg_BadExchange ?xk_BadExchange ?xd_BadExchange ?xa_BadExchange ?xm_BadExchange ?xg_BadExchanges ?xk_BadExchanges ?xd_BadExchanges ?xa_BadExchanges ?xm_BadExchanges ?xg_BadFilling ?xk_BadFilling ?xd_BadFilling ?xa_BadFilling ?xm_BadFilling ?xg_BadFillings ?xk_BadFillings ?xd_BadFillings ?xa_BadFillings ?xm_BadFillings ?xg_BadGoal ?xk_BadGoal ?xd_BadGoal ?xa_BadGoal ?xm_BadGoal ?xg_BadGroups ?xk_BadGroups ?xd_BadGroups ?xa_BadGroups ?xm_BadGroups ?xg_BadGuide ?xk_BadGuide ?xd_BadGuide ?xa_BadGuide ?xm_BadGuide ?xg_BadHands ?xk_BadHands ?xd_BadHands ?xa_BadHands ?xm_BadHands ?xg_BadId ?xk_BadId ?xd_BadId ?xa_BadId ?xm_BadId ?xg_BadJudge ?xk_BadJudge ?xd_BadJudge ?xa_BadJudge ?xm_BadJudge ?xg_BadLeast ?xk_BadLeast ?xd_BadLeast ?xa_BadLeast ?xm_BadLeast ?xg_BadLevel ?xk_BadLevel ?xd_BadLevel ?xa_BadLevel ?xm_BadLevel ?xg_BadLiteral ?xk_BadLiteral ?xd_BadLiteral ?xa_BadLiteral ?xm_BadLiteral ?xg_BadLiterals ?xk_BadLiterals ?xd_BadLiterals ?xa_BadLiterals ?xm_BadLiterals ?xg_BadLoads ?xk_BadLoads ?xd_BadLoads ?xa_BadLoads ?xm_BadLoads ?xg_BadLog ?xk_BadLog ?xd_BadLog ?xa_BadLog ?xm_BadLog ?xg_BadLot ?xk_BadLot ?xd_BadLot ?xa_BadLot ?xm_BadLot ?xg_BadMany ?xk_BadMany ?xd_BadMany ?xa_BadMany ?xm_BadMany ?xg_BadMost ?xk_BadMost ?xd_BadMost ?xa_BadMost ?xm_BadMost ?xg_BadNamed ?xk_BadNamed ?xd_BadNamed ?xa_BadNamed ?xm_BadNamed ?xg_BadNumber ?xk_BadNumber ?xd_BadNumber ?xa_BadNumber ?xm_BadNumber ?xg_BadOrder ?xk_BadOrder ?xd_BadOrder ?xa_BadOrder ?xm_BadOrder ?xg_BadOther ?xk_BadOther ?xd_BadOther ?xa_BadOther ?xm_BadOther ?xg_BadPaper ?xk_BadPaper ?xd_BadPaper ?xa_BadPaper ?xm_BadPaper ?xg_BadPicks ?xk_BadPicks ?xd_BadPicks ?xa_BadPicks ?xm_BadPicks ?xg_BadPlan ?xk_BadPlan ?xd_BadPlan ?xa_BadPlan ?xm_BadPlan ?xg_BadPrice ?xk_BadPrice ?xd_BadPrice ?xa_BadPrice ?xm_BadPrice ?xg_BadPrices ?xk_BadPrices ?xd_BadPrices ?xa_BadPrices ?xm_BadPrices ?xg_BadProblem ?xk_BadProblem ?xd_BadProblem ?xa_BadProblem ?xm_BadProblem ?xg_BadRow ?xk_BadRow ?xd_BadRow ?xa_BadRow ?xm_BadRow ?xg_BadRows ?xk_BadRows ?xd_BadRows ?xa_BadRows ?xm_BadRows ?xg_BadSpot ?xk_BadSpot ?xd_BadSpot ?xa_BadSpot ?xm_BadSpot ?xg_BadStep ?xk_BadStep ?xd_BadStep ?xa_BadStep ?xm_BadStep ?xg_BadSum ?xk_BadSum ?xd_BadSum ?xa_BadSum ?xm_BadSum ?xg_BadTerms ?xk_BadTerms ?xd_BadTerms ?xa_BadTerms ?xm_BadTerms ?xg_BadText ?xk_BadText ?xd_BadText ?xa_BadText ?xm_BadText ?xg_BadTrail ?xk_BadTrail ?xd_BadTrail ?xa_BadTrail ?xm_BadTrail ?xg_BadVariable ?xk_BadVariable ?xd_BadVariable ?xa_BadVariable ?xm_BadVariable ?xg_BadWays ?xk_BadWays ?xd_BadWays ?xa_BadWays ?xm_BadWays ?xg_BadWitness ?xk_BadWitness ?xd_BadWitness ?xa_BadWitness ?xm_BadWitness ?xg_Clashes ?xk_Clashes ?xd_Clashes ?xa_Clashes ?xm_Clashes ?xg_Closed ?xk_Closed ?xd_Closed ?xa_Closed ?xm_Closed ?xg_IsAssumed ?xk_IsAssumed ?xd_IsAssumed ?xa_IsAssumed ?xm_IsAssumed ?xg_IsReason ?xk_IsReason ?xd_IsReason ?xa_IsReason ?xm_IsReason ?xg_NoClash ?xk_NoClash ?xd_NoClash ?xa_NoClash ?xm_NoClash ?xg_NoLevel ?xk_NoLevel ?xd_NoLevel ?xa_NoLevel ?xm_NoLevel ?xg_NotBySums ?xk_NotBySums ?xd_NotBySums ?xa_NotBySums ?xm_NotBySums ?xg_NotClosed ?xk_NotClosed ?xd_NotClosed ?xa_NotClosed ?xm_NotClosed ?xg_NotEliminated ?xk_NotEliminated ?xd_NotEliminated ?xa_NotEliminated ?xm_NotEliminated ?xg_NotEqual ?xk_NotEqual ?xd_NotEqual ?xa_NotEqual ?xm_NotEqual ?xg_NotFree ?xk_NotFree ?xd_NotFree ?xa_NotFree ?xm_NotFree ?xg_NotLeaning ?xk_NotLeaning ?xd_NotLeaning ?xa_NotLeaning ?xm_NotLeaning ?xg_NotShort ?xk_NotShort ?xd_NotShort ?xa_NotShort ?xm_NotShort ?xg_NotSound ?xk_NotSound ?xd_NotSound ?xa_NotSound ?xm_NotSound ?xg_NotWhole ?xk_NotWhole ?xd_NotWhole ?xa_NotWhole ?xm_NotWhole ?xg_TooMany ?xk_TooMany ?xd_TooMany ?xa_TooMany ?xm_TooMany ?xn ?xt ?z_ValueError ?z_abs ?z_int ?z_isinstance ?z_len ?z_min ?z_range ?z_repr ?a_law ?l_law ?c_law
    (case ac_BadBound => k_is)
    (case ac_BadChoices => k_is)
    (case ac_BadCount => k_is)
    (case ac_BadDerivation => k_is)
    (case ac_BadExchange => k_is)
    (case ac_BadExchanges => k_is)
    (case ac_BadFilling => k_is)
    (case ac_BadFillings => k_is)
    (case ac_BadGoal => k_is)
    (case ac_BadGroups => k_is)
    (case ac_BadGuide => k_is)
    (case ac_BadHands => k_is)
    (case ac_BadId => k_is)
    (case ac_BadJudge => k_is)
    (case ac_BadLeast => k_is)
    (case ac_BadLevel => k_is)
    (case ac_BadLiteral => k_is)
    (case ac_BadLiterals => k_is)
    (case ac_BadLoads => k_is)
    (case ac_BadLog => k_is)
    (case ac_BadLot => k_is)
    (case ac_BadMany => k_is)
    (case ac_BadMost => k_is)
    (case ac_BadNamed => k_is)
    (case ac_BadNumber => k_is)
    (case ac_BadOrder => k_is)
    (case ac_BadOther => k_is)
    (case ac_BadPaper => k_is)
    (case ac_BadPicks => k_is)
    (case ac_BadPlan => k_is)
    (case ac_BadPrice => k_is)
    (case ac_BadPrices => k_is)
    (case ac_BadProblem => k_is)
    (case ac_BadRow => k_is)
    (case ac_BadRows => k_is)
    (case ac_BadSpot => k_is)
    (case ac_BadStep => k_is)
    (case ac_BadSum => k_is)
    (case ac_BadTerms => k_is)
    (case ac_BadText => k_is)
    (case ac_BadTrail => k_is)
    (case ac_BadVariable => k_is)
    (case ac_BadWays => k_is)
    (case ac_BadWitness => k_is)
    (case ac_Clashes => k_is)
    (case ac_Closed => k_is)
    (case ac_IsAssumed => k_is)
    (case ac_IsReason => k_is)
    (case ac_NoClash => k_is)
    (case ac_NoLevel => k_is)
    (case ac_NotBySums => k_is)
    (case ac_NotClosed => k_is)
    (case ac_NotEliminated => k_is)
    (case ac_NotEqual => k_is)
    (case ac_NotFree => k_is)
    (case ac_NotLeaning => k_is)
    (case ac_NotShort => k_is)
    (case ac_NotSound => k_is)
    (case ac_NotWhole => k_is)
    (case ac_TooMany => k_is)
    (case ac_WitnessError => k_is)
    (case a__law_begun => k_is)
    (case l__law_begun => k_is)
    (case c__law_begun => k_is)
    (case k__law_begun => k_is)
    (case a__law_draw => k_is)
    (case l__law_draw => k_is)
    (case c__law_draw => k_is)
    (case k__law_draw => k_is)
    (case a__law_pick => k_is)
    (case l__law_pick => k_is)
    (case c__law_pick => k_is)
    (case k__law_pick => k_is)
    (case a__law_odd => k_is)
    (case l__law_odd => k_is)
    (case c__law_odd => k_is)
    (case k__law_odd => k_is)
    (case a__law_kinds_a => k_is)
    (case l__law_kinds_a => k_is)
    (case c__law_kinds_a => k_is)
    (case k__law_kinds_a => k_is)
    (case a__law_kinds_b => k_is)
    (case l__law_kinds_b => k_is)
    (case c__law_kinds_b => k_is)
    (case k__law_kinds_b => k_is)
    (case a__law_kinds_c => k_is)
    (case l__law_kinds_c => k_is)
    (case c__law_kinds_c => k_is)
    (case k__law_kinds_c => k_is)
    (case a__law_plain_a => k_is)
    (case l__law_plain_a => k_is)
    (case c__law_plain_a => k_is)
    (case k__law_plain_a => k_is)
    (case a__law_plain_b => k_is)
    (case l__law_plain_b => k_is)
    (case c__law_plain_b => k_is)
    (case k__law_plain_b => k_is)
    (case a__law_plain_c => k_is)
    (case l__law_plain_c => k_is)
    (case c__law_plain_c => k_is)
    (case k__law_plain_c => k_is)
    (case a__law_held => k_is)
    (case l__law_held => k_is)
    (case c__law_held => k_is)
    (case k__law_held => k_is)
    (case a__law_is_alone => k_is)
    (case l__law_is_alone => k_is)
    (case c__law_is_alone => k_is)
    (case k__law_is_alone => k_is)
    (case xL_BadDerivation => k_is)
    (case xr_BadDerivation => decide +kernel)
    (case sa_BadDerivation => k_is)
    (case nf_BadDerivation => k_is)
    (case ii_BadDerivation => k_is)
    (case ti_BadDerivation => k_is)
    (case li_BadDerivation => k_is)
    (case ci_BadDerivation => k_is)
    (case ki_BadDerivation => k_is)
    (case xL_BadLog => k_is)
    (case xr_BadLog => decide +kernel)
    (case sa_BadLog => k_is)
    (case nf_BadLog => k_is)
    (case ii_BadLog => k_is)
    (case ti_BadLog => k_is)
    (case li_BadLog => k_is)
    (case ci_BadLog => k_is)
    (case ki_BadLog => k_is)
    (case xL_BadPaper => k_is)
    (case xr_BadPaper => decide +kernel)
    (case sa_BadPaper => k_is)
    (case nf_BadPaper => k_is)
    (case ii_BadPaper => k_is)
    (case ti_BadPaper => k_is)
    (case li_BadPaper => k_is)
    (case ci_BadPaper => k_is)
    (case ki_BadPaper => k_is)
    (case xL_BadText => k_is)
    (case xr_BadText => decide +kernel)
    (case sa_BadText => k_is)
    (case nf_BadText => k_is)
    (case ii_BadText => k_is)
    (case ti_BadText => k_is)
    (case li_BadText => k_is)
    (case ci_BadText => k_is)
    (case ki_BadText => k_is)
    (case xL_Clashes => k_is)
    (case xr_Clashes => decide +kernel)
    (case sa_Clashes => k_is)
    (case nf_Clashes => k_is)
    (case ii_Clashes => k_is)
    (case ti_Clashes => k_is)
    (case li_Clashes => k_is)
    (case ci_Clashes => k_is)
    (case ki_Clashes => k_is)
    (case xL_IsAssumed => k_is)
    (case xr_IsAssumed => decide +kernel)
    (case sa_IsAssumed => k_is)
    (case nf_IsAssumed => k_is)
    (case ii_IsAssumed => k_is)
    (case ti_IsAssumed => k_is)
    (case li_IsAssumed => k_is)
    (case ci_IsAssumed => k_is)
    (case ki_IsAssumed => k_is)
    (case xL_IsReason => k_is)
    (case xr_IsReason => decide +kernel)
    (case sa_IsReason => k_is)
    (case nf_IsReason => k_is)
    (case ii_IsReason => k_is)
    (case ti_IsReason => k_is)
    (case li_IsReason => k_is)
    (case ci_IsReason => k_is)
    (case ki_IsReason => k_is)
    (case xL_NotFree => k_is)
    (case xr_NotFree => decide +kernel)
    (case sa_NotFree => k_is)
    (case nf_NotFree => k_is)
    (case ii_NotFree => k_is)
    (case ti_NotFree => k_is)
    (case li_NotFree => k_is)
    (case ci_NotFree => k_is)
    (case ki_NotFree => k_is)
    (case xL_TooMany => k_is)
    (case xr_TooMany => decide +kernel)
    (case sa_TooMany => k_is)
    (case nf_TooMany => k_is)
    (case ii_TooMany => k_is)
    (case ti_TooMany => k_is)
    (case li_TooMany => k_is)
    (case ci_TooMany => k_is)
    (case ki_TooMany => k_is)
    (case cx_BadBound => k_exc)
    (case ck_BadBound => k_is)
    (case cb_BadBound => k_is)
    (case ct_BadBound_ => k_is)
    (case cx_BadChoices => k_exc)
    (case ck_BadChoices => k_is)
    (case cb_BadChoices => k_is)
    (case ct_BadChoices_ => k_is)
    (case cx_BadCount => k_exc)
    (case ck_BadCount => k_is)
    (case cb_BadCount => k_is)
    (case ct_BadCount_ => k_is)
    (case ck_BadDerivation => k_is)
    (case cb_BadDerivation => k_is)
    (case ct_BadDerivation_ => k_is)
    (case cx_BadExchange => k_exc)
    (case ck_BadExchange => k_is)
    (case cb_BadExchange => k_is)
    (case ct_BadExchange_ => k_is)
    (case cx_BadExchanges => k_exc)
    (case ck_BadExchanges => k_is)
    (case cb_BadExchanges => k_is)
    (case ct_BadExchanges_ => k_is)
    (case cx_BadFilling => k_exc)
    (case ck_BadFilling => k_is)
    (case cb_BadFilling => k_is)
    (case ct_BadFilling_ => k_is)
    (case cx_BadFillings => k_exc)
    (case ck_BadFillings => k_is)
    (case cb_BadFillings => k_is)
    (case ct_BadFillings_ => k_is)
    (case cx_BadGoal => k_exc)
    (case ck_BadGoal => k_is)
    (case cb_BadGoal => k_is)
    (case ct_BadGoal_ => k_is)
    (case cx_BadGroups => k_exc)
    (case ck_BadGroups => k_is)
    (case cb_BadGroups => k_is)
    (case ct_BadGroups_ => k_is)
    (case cx_BadGuide => k_exc)
    (case ck_BadGuide => k_is)
    (case cb_BadGuide => k_is)
    (case ct_BadGuide_ => k_is)
    (case cx_BadHands => k_exc)
    (case ck_BadHands => k_is)
    (case cb_BadHands => k_is)
    (case ct_BadHands_ => k_is)
    (case cx_BadId => k_exc)
    (case ck_BadId => k_is)
    (case cb_BadId => k_is)
    (case ct_BadId_ => k_is)
    (case cx_BadJudge => k_exc)
    (case ck_BadJudge => k_is)
    (case cb_BadJudge => k_is)
    (case ct_BadJudge_ => k_is)
    (case cx_BadLeast => k_exc)
    (case ck_BadLeast => k_is)
    (case cb_BadLeast => k_is)
    (case ct_BadLeast_ => k_is)
    (case cx_BadLevel => k_exc)
    (case ck_BadLevel => k_is)
    (case cb_BadLevel => k_is)
    (case ct_BadLevel_ => k_is)
    (case cx_BadLiteral => k_exc)
    (case ck_BadLiteral => k_is)
    (case cb_BadLiteral => k_is)
    (case ct_BadLiteral_ => k_is)
    (case cx_BadLiterals => k_exc)
    (case ck_BadLiterals => k_is)
    (case cb_BadLiterals => k_is)
    (case ct_BadLiterals_ => k_is)
    (case cx_BadLoads => k_exc)
    (case ck_BadLoads => k_is)
    (case cb_BadLoads => k_is)
    (case ct_BadLoads_ => k_is)
    (case ck_BadLog => k_is)
    (case cb_BadLog => k_is)
    (case ct_BadLog_ => k_is)
    (case cx_BadLot => k_exc)
    (case ck_BadLot => k_is)
    (case cb_BadLot => k_is)
    (case ct_BadLot_ => k_is)
    (case cx_BadMany => k_exc)
    (case ck_BadMany => k_is)
    (case cb_BadMany => k_is)
    (case ct_BadMany_ => k_is)
    (case cx_BadMost => k_exc)
    (case ck_BadMost => k_is)
    (case cb_BadMost => k_is)
    (case ct_BadMost_ => k_is)
    (case cx_BadNamed => k_exc)
    (case ck_BadNamed => k_is)
    (case cb_BadNamed => k_is)
    (case ct_BadNamed_ => k_is)
    (case cx_BadNumber => k_exc)
    (case ck_BadNumber => k_is)
    (case cb_BadNumber => k_is)
    (case ct_BadNumber_ => k_is)
    (case cx_BadOrder => k_exc)
    (case ck_BadOrder => k_is)
    (case cb_BadOrder => k_is)
    (case ct_BadOrder_ => k_is)
    (case cx_BadOther => k_exc)
    (case ck_BadOther => k_is)
    (case cb_BadOther => k_is)
    (case ct_BadOther_ => k_is)
    (case ck_BadPaper => k_is)
    (case cb_BadPaper => k_is)
    (case ct_BadPaper_ => k_is)
    (case cx_BadPicks => k_exc)
    (case ck_BadPicks => k_is)
    (case cb_BadPicks => k_is)
    (case ct_BadPicks_ => k_is)
    (case cx_BadPlan => k_exc)
    (case ck_BadPlan => k_is)
    (case cb_BadPlan => k_is)
    (case ct_BadPlan_ => k_is)
    (case cx_BadPrice => k_exc)
    (case ck_BadPrice => k_is)
    (case cb_BadPrice => k_is)
    (case ct_BadPrice_ => k_is)
    (case cx_BadPrices => k_exc)
    (case ck_BadPrices => k_is)
    (case cb_BadPrices => k_is)
    (case ct_BadPrices_ => k_is)
    (case cx_BadProblem => k_exc)
    (case ck_BadProblem => k_is)
    (case cb_BadProblem => k_is)
    (case ct_BadProblem_ => k_is)
    (case cx_BadRow => k_exc)
    (case ck_BadRow => k_is)
    (case cb_BadRow => k_is)
    (case ct_BadRow_ => k_is)
    (case cx_BadRows => k_exc)
    (case ck_BadRows => k_is)
    (case cb_BadRows => k_is)
    (case ct_BadRows_ => k_is)
    (case cx_BadSpot => k_exc)
    (case ck_BadSpot => k_is)
    (case cb_BadSpot => k_is)
    (case ct_BadSpot_ => k_is)
    (case cx_BadStep => k_exc)
    (case ck_BadStep => k_is)
    (case cb_BadStep => k_is)
    (case ct_BadStep_ => k_is)
    (case cx_BadSum => k_exc)
    (case ck_BadSum => k_is)
    (case cb_BadSum => k_is)
    (case ct_BadSum_ => k_is)
    (case cx_BadTerms => k_exc)
    (case ck_BadTerms => k_is)
    (case cb_BadTerms => k_is)
    (case ct_BadTerms_ => k_is)
    (case ck_BadText => k_is)
    (case cb_BadText => k_is)
    (case ct_BadText_ => k_is)
    (case cx_BadTrail => k_exc)
    (case ck_BadTrail => k_is)
    (case cb_BadTrail => k_is)
    (case ct_BadTrail_ => k_is)
    (case cx_BadVariable => k_exc)
    (case ck_BadVariable => k_is)
    (case cb_BadVariable => k_is)
    (case ct_BadVariable_ => k_is)
    (case cx_BadWays => k_exc)
    (case ck_BadWays => k_is)
    (case cb_BadWays => k_is)
    (case ct_BadWays_ => k_is)
    (case cx_BadWitness => k_exc)
    (case ck_BadWitness => k_is)
    (case cb_BadWitness => k_is)
    (case ct_BadWitness_ => k_is)
    (case ck_Clashes => k_is)
    (case cb_Clashes => k_is)
    (case ct_Clashes_ => k_is)
    (case cx_Closed => k_exc)
    (case ck_Closed => k_is)
    (case cb_Closed => k_is)
    (case ct_Closed_ => k_is)
    (case ck_IsAssumed => k_is)
    (case cb_IsAssumed => k_is)
    (case ct_IsAssumed_ => k_is)
    (case ck_IsReason => k_is)
    (case cb_IsReason => k_is)
    (case ct_IsReason_ => k_is)
    (case cx_NoClash => k_exc)
    (case ck_NoClash => k_is)
    (case cb_NoClash => k_is)
    (case ct_NoClash_ => k_is)
    (case cx_NoLevel => k_exc)
    (case ck_NoLevel => k_is)
    (case cb_NoLevel => k_is)
    (case ct_NoLevel_ => k_is)
    (case cx_NotBySums => k_exc)
    (case ck_NotBySums => k_is)
    (case cb_NotBySums => k_is)
    (case ct_NotBySums_ => k_is)
    (case cx_NotClosed => k_exc)
    (case ck_NotClosed => k_is)
    (case cb_NotClosed => k_is)
    (case ct_NotClosed_ => k_is)
    (case cx_NotEliminated => k_exc)
    (case ck_NotEliminated => k_is)
    (case cb_NotEliminated => k_is)
    (case ct_NotEliminated_ => k_is)
    (case cx_NotEqual => k_exc)
    (case ck_NotEqual => k_is)
    (case cb_NotEqual => k_is)
    (case ct_NotEqual_ => k_is)
    (case ck_NotFree => k_is)
    (case cb_NotFree => k_is)
    (case ct_NotFree_ => k_is)
    (case cx_NotLeaning => k_exc)
    (case ck_NotLeaning => k_is)
    (case cb_NotLeaning => k_is)
    (case ct_NotLeaning_ => k_is)
    (case cx_NotShort => k_exc)
    (case ck_NotShort => k_is)
    (case cb_NotShort => k_is)
    (case ct_NotShort_ => k_is)
    (case cx_NotSound => k_exc)
    (case ck_NotSound => k_is)
    (case cb_NotSound => k_is)
    (case ct_NotSound_ => k_is)
    (case cx_NotWhole => k_exc)
    (case ck_NotWhole => k_is)
    (case cb_NotWhole => k_is)
    (case ct_NotWhole_ => k_is)
    (case ck_TooMany => k_is)
    (case cb_TooMany => k_is)
    (case ct_TooMany_ => k_is)
    (case cx_WitnessError => k_exc)
    (case ck_WitnessError => k_is)
    (case cb_WitnessError => k_is)
    (case ct_WitnessError_ => k_is)
    (case lm_BadBound => kernel_rfl)
    (case lm_BadChoices => kernel_rfl)
    (case lm_BadCount => kernel_rfl)
    (case lm_BadDerivation => kernel_rfl)
    (case lm_BadExchange => kernel_rfl)
    (case lm_BadExchanges => kernel_rfl)
    (case lm_BadFilling => kernel_rfl)
    (case lm_BadFillings => kernel_rfl)
    (case lm_BadGoal => kernel_rfl)
    (case lm_BadGroups => kernel_rfl)
    (case lm_BadGuide => kernel_rfl)
    (case lm_BadHands => kernel_rfl)
    (case lm_BadId => kernel_rfl)
    (case lm_BadJudge => kernel_rfl)
    (case lm_BadLeast => kernel_rfl)
    (case lm_BadLevel => kernel_rfl)
    (case lm_BadLiteral => kernel_rfl)
    (case lm_BadLiterals => kernel_rfl)
    (case lm_BadLoads => kernel_rfl)
    (case lm_BadLog => kernel_rfl)
    (case lm_BadLot => kernel_rfl)
    (case lm_BadMany => kernel_rfl)
    (case lm_BadMost => kernel_rfl)
    (case lm_BadNamed => kernel_rfl)
    (case lm_BadNumber => kernel_rfl)
    (case lm_BadOrder => kernel_rfl)
    (case lm_BadOther => kernel_rfl)
    (case lm_BadPaper => kernel_rfl)
    (case lm_BadPicks => kernel_rfl)
    (case lm_BadPlan => kernel_rfl)
    (case lm_BadPrice => kernel_rfl)
    (case lm_BadPrices => kernel_rfl)
    (case lm_BadProblem => kernel_rfl)
    (case lm_BadRow => kernel_rfl)
    (case lm_BadRows => kernel_rfl)
    (case lm_BadSpot => kernel_rfl)
    (case lm_BadStep => kernel_rfl)
    (case lm_BadSum => kernel_rfl)
    (case lm_BadTerms => kernel_rfl)
    (case lm_BadText => kernel_rfl)
    (case lm_BadTrail => kernel_rfl)
    (case lm_BadVariable => kernel_rfl)
    (case lm_BadWays => kernel_rfl)
    (case lm_BadWitness => kernel_rfl)
    (case lm_Clashes => kernel_rfl)
    (case lm_Closed => kernel_rfl)
    (case lm_IsAssumed => kernel_rfl)
    (case lm_IsReason => kernel_rfl)
    (case lm_NoClash => kernel_rfl)
    (case lm_NoLevel => kernel_rfl)
    (case lm_NotBySums => kernel_rfl)
    (case lm_NotClosed => kernel_rfl)
    (case lm_NotEliminated => kernel_rfl)
    (case lm_NotEqual => kernel_rfl)
    (case lm_NotFree => kernel_rfl)
    (case lm_NotLeaning => kernel_rfl)
    (case lm_NotShort => kernel_rfl)
    (case lm_NotSound => kernel_rfl)
    (case lm_NotWhole => kernel_rfl)
    (case lm_TooMany => kernel_rfl)
    (case lnd => decide +kernel)
    (case xd_WitnessError => k_is)
    (case xg_BadBound => k_is)
    (case xk_BadBound => k_is)
    (case xd_BadBound => k_is)
    (case xa_BadBound => k_is)
    (case xm_BadBound => k_is)
    (case xg_BadChoices => k_is)
    (case xk_BadChoices => k_is)
    (case xd_BadChoices => k_is)
    (case xa_BadChoices => k_is)
    (case xm_BadChoices => k_is)
    (case xg_BadCount => k_is)
    (case xk_BadCount => k_is)
    (case xd_BadCount => k_is)
    (case xa_BadCount => k_is)
    (case xm_BadCount => k_is)
    (case xg_BadDerivation => k_is)
    (case xk_BadDerivation => k_is)
    (case xd_BadDerivation => k_is)
    (case xa_BadDerivation => k_is)
    (case xm_BadDerivation => k_is)
    (case xg_BadExchange => k_is)
    (case xk_BadExchange => k_is)
    (case xd_BadExchange => k_is)
    (case xa_BadExchange => k_is)
    (case xm_BadExchange => k_is)
    (case xg_BadExchanges => k_is)
    (case xk_BadExchanges => k_is)
    (case xd_BadExchanges => k_is)
    (case xa_BadExchanges => k_is)
    (case xm_BadExchanges => k_is)
    (case xg_BadFilling => k_is)
    (case xk_BadFilling => k_is)
    (case xd_BadFilling => k_is)
    (case xa_BadFilling => k_is)
    (case xm_BadFilling => k_is)
    (case xg_BadFillings => k_is)
    (case xk_BadFillings => k_is)
    (case xd_BadFillings => k_is)
    (case xa_BadFillings => k_is)
    (case xm_BadFillings => k_is)
    (case xg_BadGoal => k_is)
    (case xk_BadGoal => k_is)
    (case xd_BadGoal => k_is)
    (case xa_BadGoal => k_is)
    (case xm_BadGoal => k_is)
    (case xg_BadGroups => k_is)
    (case xk_BadGroups => k_is)
    (case xd_BadGroups => k_is)
    (case xa_BadGroups => k_is)
    (case xm_BadGroups => k_is)
    (case xg_BadGuide => k_is)
    (case xk_BadGuide => k_is)
    (case xd_BadGuide => k_is)
    (case xa_BadGuide => k_is)
    (case xm_BadGuide => k_is)
    (case xg_BadHands => k_is)
    (case xk_BadHands => k_is)
    (case xd_BadHands => k_is)
    (case xa_BadHands => k_is)
    (case xm_BadHands => k_is)
    (case xg_BadId => k_is)
    (case xk_BadId => k_is)
    (case xd_BadId => k_is)
    (case xa_BadId => k_is)
    (case xm_BadId => k_is)
    (case xg_BadJudge => k_is)
    (case xk_BadJudge => k_is)
    (case xd_BadJudge => k_is)
    (case xa_BadJudge => k_is)
    (case xm_BadJudge => k_is)
    (case xg_BadLeast => k_is)
    (case xk_BadLeast => k_is)
    (case xd_BadLeast => k_is)
    (case xa_BadLeast => k_is)
    (case xm_BadLeast => k_is)
    (case xg_BadLevel => k_is)
    (case xk_BadLevel => k_is)
    (case xd_BadLevel => k_is)
    (case xa_BadLevel => k_is)
    (case xm_BadLevel => k_is)
    (case xg_BadLiteral => k_is)
    (case xk_BadLiteral => k_is)
    (case xd_BadLiteral => k_is)
    (case xa_BadLiteral => k_is)
    (case xm_BadLiteral => k_is)
    (case xg_BadLiterals => k_is)
    (case xk_BadLiterals => k_is)
    (case xd_BadLiterals => k_is)
    (case xa_BadLiterals => k_is)
    (case xm_BadLiterals => k_is)
    (case xg_BadLoads => k_is)
    (case xk_BadLoads => k_is)
    (case xd_BadLoads => k_is)
    (case xa_BadLoads => k_is)
    (case xm_BadLoads => k_is)
    (case xg_BadLog => k_is)
    (case xk_BadLog => k_is)
    (case xd_BadLog => k_is)
    (case xa_BadLog => k_is)
    (case xm_BadLog => k_is)
    (case xg_BadLot => k_is)
    (case xk_BadLot => k_is)
    (case xd_BadLot => k_is)
    (case xa_BadLot => k_is)
    (case xm_BadLot => k_is)
    (case xg_BadMany => k_is)
    (case xk_BadMany => k_is)
    (case xd_BadMany => k_is)
    (case xa_BadMany => k_is)
    (case xm_BadMany => k_is)
    (case xg_BadMost => k_is)
    (case xk_BadMost => k_is)
    (case xd_BadMost => k_is)
    (case xa_BadMost => k_is)
    (case xm_BadMost => k_is)
    (case xg_BadNamed => k_is)
    (case xk_BadNamed => k_is)
    (case xd_BadNamed => k_is)
    (case xa_BadNamed => k_is)
    (case xm_BadNamed => k_is)
    (case xg_BadNumber => k_is)
    (case xk_BadNumber => k_is)
    (case xd_BadNumber => k_is)
    (case xa_BadNumber => k_is)
    (case xm_BadNumber => k_is)
    (case xg_BadOrder => k_is)
    (case xk_BadOrder => k_is)
    (case xd_BadOrder => k_is)
    (case xa_BadOrder => k_is)
    (case xm_BadOrder => k_is)
    (case xg_BadOther => k_is)
    (case xk_BadOther => k_is)
    (case xd_BadOther => k_is)
    (case xa_BadOther => k_is)
    (case xm_BadOther => k_is)
    (case xg_BadPaper => k_is)
    (case xk_BadPaper => k_is)
    (case xd_BadPaper => k_is)
    (case xa_BadPaper => k_is)
    (case xm_BadPaper => k_is)
    (case xg_BadPicks => k_is)
    (case xk_BadPicks => k_is)
    (case xd_BadPicks => k_is)
    (case xa_BadPicks => k_is)
    (case xm_BadPicks => k_is)
    (case xg_BadPlan => k_is)
    (case xk_BadPlan => k_is)
    (case xd_BadPlan => k_is)
    (case xa_BadPlan => k_is)
    (case xm_BadPlan => k_is)
    (case xg_BadPrice => k_is)
    (case xk_BadPrice => k_is)
    (case xd_BadPrice => k_is)
    (case xa_BadPrice => k_is)
    (case xm_BadPrice => k_is)
    (case xg_BadPrices => k_is)
    (case xk_BadPrices => k_is)
    (case xd_BadPrices => k_is)
    (case xa_BadPrices => k_is)
    (case xm_BadPrices => k_is)
    (case xg_BadProblem => k_is)
    (case xk_BadProblem => k_is)
    (case xd_BadProblem => k_is)
    (case xa_BadProblem => k_is)
    (case xm_BadProblem => k_is)
    (case xg_BadRow => k_is)
    (case xk_BadRow => k_is)
    (case xd_BadRow => k_is)
    (case xa_BadRow => k_is)
    (case xm_BadRow => k_is)
    (case xg_BadRows => k_is)
    (case xk_BadRows => k_is)
    (case xd_BadRows => k_is)
    (case xa_BadRows => k_is)
    (case xm_BadRows => k_is)
    (case xg_BadSpot => k_is)
    (case xk_BadSpot => k_is)
    (case xd_BadSpot => k_is)
    (case xa_BadSpot => k_is)
    (case xm_BadSpot => k_is)
    (case xg_BadStep => k_is)
    (case xk_BadStep => k_is)
    (case xd_BadStep => k_is)
    (case xa_BadStep => k_is)
    (case xm_BadStep => k_is)
    (case xg_BadSum => k_is)
    (case xk_BadSum => k_is)
    (case xd_BadSum => k_is)
    (case xa_BadSum => k_is)
    (case xm_BadSum => k_is)
    (case xg_BadTerms => k_is)
    (case xk_BadTerms => k_is)
    (case xd_BadTerms => k_is)
    (case xa_BadTerms => k_is)
    (case xm_BadTerms => k_is)
    (case xg_BadText => k_is)
    (case xk_BadText => k_is)
    (case xd_BadText => k_is)
    (case xa_BadText => k_is)
    (case xm_BadText => k_is)
    (case xg_BadTrail => k_is)
    (case xk_BadTrail => k_is)
    (case xd_BadTrail => k_is)
    (case xa_BadTrail => k_is)
    (case xm_BadTrail => k_is)
    (case xg_BadVariable => k_is)
    (case xk_BadVariable => k_is)
    (case xd_BadVariable => k_is)
    (case xa_BadVariable => k_is)
    (case xm_BadVariable => k_is)
    (case xg_BadWays => k_is)
    (case xk_BadWays => k_is)
    (case xd_BadWays => k_is)
    (case xa_BadWays => k_is)
    (case xm_BadWays => k_is)
    (case xg_BadWitness => k_is)
    (case xk_BadWitness => k_is)
    (case xd_BadWitness => k_is)
    (case xa_BadWitness => k_is)
    (case xm_BadWitness => k_is)
    (case xg_Clashes => k_is)
    (case xk_Clashes => k_is)
    (case xd_Clashes => k_is)
    (case xa_Clashes => k_is)
    (case xm_Clashes => k_is)
    (case xg_Closed => k_is)
    (case xk_Closed => k_is)
    (case xd_Closed => k_is)
    (case xa_Closed => k_is)
    (case xm_Closed => k_is)
    (case xg_IsAssumed => k_is)
    (case xk_IsAssumed => k_is)
    (case xd_IsAssumed => k_is)
    (case xa_IsAssumed => k_is)
    (case xm_IsAssumed => k_is)
    (case xg_IsReason => k_is)
    (case xk_IsReason => k_is)
    (case xd_IsReason => k_is)
    (case xa_IsReason => k_is)
    (case xm_IsReason => k_is)
    (case xg_NoClash => k_is)
    (case xk_NoClash => k_is)
    (case xd_NoClash => k_is)
    (case xa_NoClash => k_is)
    (case xm_NoClash => k_is)
    (case xg_NoLevel => k_is)
    (case xk_NoLevel => k_is)
    (case xd_NoLevel => k_is)
    (case xa_NoLevel => k_is)
    (case xm_NoLevel => k_is)
    (case xg_NotBySums => k_is)
    (case xk_NotBySums => k_is)
    (case xd_NotBySums => k_is)
    (case xa_NotBySums => k_is)
    (case xm_NotBySums => k_is)
    (case xg_NotClosed => k_is)
    (case xk_NotClosed => k_is)
    (case xd_NotClosed => k_is)
    (case xa_NotClosed => k_is)
    (case xm_NotClosed => k_is)
    (case xg_NotEliminated => k_is)
    (case xk_NotEliminated => k_is)
    (case xd_NotEliminated => k_is)
    (case xa_NotEliminated => k_is)
    (case xm_NotEliminated => k_is)
    (case xg_NotEqual => k_is)
    (case xk_NotEqual => k_is)
    (case xd_NotEqual => k_is)
    (case xa_NotEqual => k_is)
    (case xm_NotEqual => k_is)
    (case xg_NotFree => k_is)
    (case xk_NotFree => k_is)
    (case xd_NotFree => k_is)
    (case xa_NotFree => k_is)
    (case xm_NotFree => k_is)
    (case xg_NotLeaning => k_is)
    (case xk_NotLeaning => k_is)
    (case xd_NotLeaning => k_is)
    (case xa_NotLeaning => k_is)
    (case xm_NotLeaning => k_is)
    (case xg_NotShort => k_is)
    (case xk_NotShort => k_is)
    (case xd_NotShort => k_is)
    (case xa_NotShort => k_is)
    (case xm_NotShort => k_is)
    (case xg_NotSound => k_is)
    (case xk_NotSound => k_is)
    (case xd_NotSound => k_is)
    (case xa_NotSound => k_is)
    (case xm_NotSound => k_is)
    (case xg_NotWhole => k_is)
    (case xk_NotWhole => k_is)
    (case xd_NotWhole => k_is)
    (case xa_NotWhole => k_is)
    (case xm_NotWhole => k_is)
    (case xg_TooMany => k_is)
    (case xk_TooMany => k_is)
    (case xd_TooMany => k_is)
    (case xa_TooMany => k_is)
    (case xm_TooMany => k_is)
    (case xn => k_is)
    (case xt => k_is)
    (case z_ValueError => k_is)
    (case z_abs => k_is)
    (case z_int => k_is)
    (case z_isinstance => k_is)
    (case z_len => k_is)
    (case z_min => k_is)
    (case z_range => k_is)
    (case z_repr => k_is)
    (case a_law => k_is)
    (case l_law => k_is)
    (case c_law => k_is)
