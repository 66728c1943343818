import PyProof.Rows.All
import Wide.All
import OpenK.AllK
import Wide.FinOn
import HandS.ForMost
import HandS.ForExc
import HandS.IsInst
import HandS.Wide
import HandS.Strs
import HandS.TupAny
import HandS.DictComp
import HandS.Defaults
import HandS.Style
import HandS.Small
import KE.KSortTupG
import HandS.TupSets
import HandS.SortInts
import PyProof.ReprRoads
import HandS.EndOwn
import HandS.ExcIs
import HandS.Conv
import KE.GoesMore
import HandS.SetBool
import HandS.More
import HandS.WordsDict
import HandS.CallLocal
import HandS.TupMul
import PyProof.StrOps2
import HandS.Deep
import PySem.Challenge.RW_witnesslog_k05_whole_led_rows_and_led_fi
set_option Elab.async false
set_option linter.all false
set_option maxRecDepth 100000
set_option maxHeartbeats 4000000
namespace VS
open PySem PySem.Spec PyProof.Rows L2
inductive D where
  | non | bl (b : Bool) | int (i : Int) | str (x : Str) | tup (xs : List D) | lst (xs : List D) | dct (ks : List Key) (xs : List D)
  | exc (n f : Str) (fs : List D) | cls (n : Str) | st | opq (v : V) | scr (ns : List Int)
structure Lay where
  sa : Addr
  la : Addr
  ca : Addr
structure Dc where
  K : PySem.W.Frag
  mg : Str → Option Value
  l : Lay
structure DS where
  large : List Int
  cells : List Int
  left : Int
  turn : Int
def ExO (cls : Value) (dd : Option Addr) (a : Addr) : HO := .ext fun h => ∃ (oe : Obj) (vs : Array Value), h.get? a = some oe ∧ Zc cls dd oe ∧ oe.data = .fields vs
mutual
def Den (c : Dc) (F : Hp) : D → V → Prop
  | .non, v => v = .non
  | .bl b, v => v = .bl b
  | .int i, v => v = .int i
  | .str x, v => v = .str x
  | .tup ds, v => ∃ a vs, v = .ref a ∧ SqT c.K F a vs ∧ ds.length ≤ sizeLine ∧ Dens c F ds vs
  | .lst ds, v => ∃ a vs, v = .ref a ∧ F a = some (.lst vs) ∧ ds.length ≤ sizeLine ∧ Dens c F ds vs
  | .dct ks ds, v => ∃ a kv, v = .ref a ∧ F a = some (.dK kv) ∧ kv.map (·.1) = ks ∧ Dens c F ds (kv.map (·.2))
  | .exc n f fs, v => ∃ a C dd us, v = .ref a ∧ c.mg n = some (.ref C) ∧ F a = some (ExO (.ref C) dd a) ∧ Dens c F fs us ∧ (match us with | [] => dd = none | u :: _ => ∃ p, dd = some p ∧ F p = some (.xd [(f, u)]))
  | .cls n, v => ∃ C, v = .ref C ∧ c.mg n = some (.ref C)
  | .st, v => v = .ref c.l.sa
  | .opq w, v => v = w
  | .scr ns, v => ∃ a, v = .ref a ∧ SqL c.K F a (ns.map V.int)
def Dens (c : Dc) (F : Hp) : List D → List V → Prop
  | [], vs => vs = []
  | d :: ds, vs => ∃ v r, vs = v :: r ∧ Den c F d v ∧ Dens c F ds r
end
section
variable {c : Dc} {F F' : Hp}
theorem sqT_mono {K : PySem.W.Frag} {a : Addr} {vs : List V} (e : Same F F') (h : SqT K F a vs) : SqT K F' a vs := by
  rcases h with (h | ⟨o, h⟩) | h
  · exact .inl (.inl (e _ _ h))
  · exact .inl (.inr ⟨o, e _ _ h⟩)
  · exact .inr h
mutual
theorem Den.mono (e : Same F F') : ∀ (d : D) (v : V), Den c F d v → Den c F' d v
  | .non, _, h => h
  | .bl _, _, h => h
  | .int _, _, h => h
  | .str _, _, h => h
  | .tup ds, _, h => by
    simp only [Den] at h ⊢
    obtain ⟨a, vs, h1, h2, hz, h3⟩ := h
    exact ⟨a, vs, h1, sqT_mono e h2, hz, Dens.mono e ds vs h3⟩
  | .lst ds, _, h => by
    simp only [Den] at h ⊢
    obtain ⟨a, vs, h1, h2, hz, h3⟩ := h
    exact ⟨a, vs, h1, e _ _ h2, hz, Dens.mono e ds vs h3⟩
  | .dct ks ds, _, h => by
    simp only [Den] at h ⊢
    obtain ⟨a, kv, h1, h2, h3, h4⟩ := h
    exact ⟨a, kv, h1, e _ _ h2, h3, Dens.mono e ds _ h4⟩
  | .exc n f fs, _, h => by
    simp only [Den] at h ⊢
    obtain ⟨a, C, dd, us, h1, h2, h3, h4, h5⟩ := h
    refine ⟨a, C, dd, us, h1, h2, e _ _ h3, Dens.mono e fs us h4, ?_⟩
    cases us with
    | nil => exact h5
    | cons u r =>
      obtain ⟨p, q1, q2⟩ := h5
      exact ⟨p, q1, e _ _ q2⟩
  | .cls _, _, h => h
  | .st, _, h => h
  | .opq _, _, h => h
  | .scr _, _, h => by
    simp only [Den] at h ⊢
    obtain ⟨a, h1, h2⟩ := h
    exact ⟨a, h1, e.seq h2⟩
theorem Dens.mono (e : Same F F') : ∀ (ds : List D) (vs : List V), Dens c F ds vs → Dens c F' ds vs
  | [], _, h => h
  | d :: ds, _, h => by
    simp only [Dens] at h ⊢
    obtain ⟨v, r, h1, h2, h3⟩ := h
    exact ⟨v, r, h1, Den.mono e d v h2, Dens.mono e ds r h3⟩
end
theorem Dens.length : ∀ {ds : List D} {vs : List V}, Dens c F ds vs → ds.length = vs.length
  | [], _, h => by simp only [Dens] at h; subst h; rfl
  | d :: ds, _, h => by
    simp only [Dens] at h
    obtain ⟨v, r, rfl, _, h3⟩ := h
    simp [Dens.length h3]
theorem Dens.get : ∀ {ds : List D} {vs : List V} {i : Nat} {v : V}, Dens c F ds vs → vs[i]? = some v → ∃ d, ds[i]? = some d ∧ Den c F d v
  | [], _, i, v, h, e => by simp only [Dens] at h; subst h; simp at e
  | d :: ds, _, i, v, h, e => by
    simp only [Dens] at h
    obtain ⟨w, r, rfl, h2, h3⟩ := h
    cases i with
    | zero => simp at e; subst e; exact ⟨d, rfl, h2⟩
    | succ i => simpa using Dens.get h3 (by simpa using e)
theorem Dens.get' : ∀ {ds : List D} {vs : List V} {i : Nat} {d : D}, Dens c F ds vs → ds[i]? = some d → ∃ v, vs[i]? = some v ∧ Den c F d v
  | [], _, i, v, h, e => by simp at e
  | d :: ds, _, i, v, h, e => by
    simp only [Dens] at h
    obtain ⟨w, r, rfl, h2, h3⟩ := h
    cases i with
    | zero => simp at e; subst e; exact ⟨w, rfl, h2⟩
    | succ i => simpa using Dens.get' h3 (by simpa using e)
theorem Dens.append : ∀ {ds es : List D} {vs ws : List V}, Dens c F ds vs → Dens c F es ws → Dens c F (ds ++ es) (vs ++ ws)
  | [], _, _, _, h, h' => by simp only [Dens] at h; subst h; exact h'
  | d :: ds, _, _, _, h, h' => by
    simp only [Dens] at h
    obtain ⟨w, r, rfl, h2, h3⟩ := h
    exact ⟨w, r ++ _, rfl, h2, Dens.append h3 h'⟩
theorem Dens.one {d : D} {v : V} (h : Den c F d v) : Dens c F [d] [v] := ⟨v, [], rfl, h, rfl⟩
theorem Dens.cons {d : D} {v : V} {ds : List D} {vs : List V} (h : Den c F d v) (h' : Dens c F ds vs) : Dens c F (d :: ds) (v :: vs) := ⟨v, vs, rfl, h, h'⟩
theorem Dens.nil : Dens c F [] [] := rfl
theorem Dens.take : ∀ {ds : List D} {vs : List V} (n : Nat), Dens c F ds vs → Dens c F (ds.take n) (vs.take n)
  | _, _, 0, _ => by simp [Dens]
  | [], _, n + 1, h => by simp only [Dens] at h; subst h; simp [Dens]
  | d :: ds, _, n + 1, h => by
    simp only [Dens] at h
    obtain ⟨w, r, rfl, h2, h3⟩ := h
    exact ⟨w, _, rfl, h2, Dens.take n h3⟩
theorem Dens.drop : ∀ {ds : List D} {vs : List V} (n : Nat), Dens c F ds vs → Dens c F (ds.drop n) (vs.drop n)
  | _, _, 0, h => h
  | [], _, n + 1, h => by simp only [Dens] at h; subst h; simp [Dens]
  | d :: ds, _, n + 1, h => by
    simp only [Dens] at h
    obtain ⟨w, r, rfl, h2, h3⟩ := h
    exact Dens.drop n h3
theorem Dens.set {e : D} {u : V} (q : Den c F e u) : ∀ {ds : List D} {vs : List V} (n : Nat), Dens c F ds vs → Dens c F (ds.set n e) (vs.set n u)
  | [], _, n, h => by simp only [Dens] at h; subst h; simp [Dens]
  | d :: ds, _, 0, h => by
    simp only [Dens] at h
    obtain ⟨w, r, rfl, h2, h3⟩ := h
    exact ⟨u, r, rfl, q, h3⟩
  | d :: ds, _, n + 1, h => by
    simp only [Dens] at h
    obtain ⟨w, r, rfl, h2, h3⟩ := h
    exact ⟨w, _, rfl, h2, Dens.set q n h3⟩
theorem Dens.erase : ∀ {ds : List D} {vs : List V} (n : Nat), Dens c F ds vs → Dens c F (ds.eraseIdx n) (vs.eraseIdx n)
  | [], _, n, h => by simp only [Dens] at h; subst h; simp [Dens]
  | d :: ds, _, 0, h => by
    simp only [Dens] at h
    obtain ⟨w, r, rfl, h2, h3⟩ := h
    exact h3
  | d :: ds, _, n + 1, h => by
    simp only [Dens] at h
    obtain ⟨w, r, rfl, h2, h3⟩ := h
    exact ⟨w, _, rfl, h2, Dens.erase n h3⟩
theorem Dens.reverse : ∀ {ds : List D} {vs : List V}, Dens c F ds vs → Dens c F ds.reverse vs.reverse
  | [], _, h => by simp only [Dens] at h; subst h; rfl
  | d :: ds, _, h => by
    simp only [Dens] at h
    obtain ⟨w, r, rfl, h2, h3⟩ := h
    rw [List.reverse_cons, List.reverse_cons]
    exact Dens.append (Dens.reverse h3) (Dens.one h2)
theorem Dens.ints : ∀ {ns : List Int} {vs : List V}, Dens c F (ns.map D.int) vs → vs = ns.map V.int
  | [], _, h => h
  | n :: ns, _, h => by
    simp only [List.map_cons, Dens] at h
    obtain ⟨w, r, rfl, h2, h3⟩ := h
    simp only [Den] at h2
    rw [h2, Dens.ints h3] <;> rfl
theorem Dens.of_ints : ∀ (ns : List Int), Dens c F (ns.map D.int) (ns.map V.int)
  | [] => rfl
  | n :: ns => ⟨_, _, rfl, rfl, Dens.of_ints ns⟩
theorem Dens.bls : ∀ {ns : List Bool} {vs : List V}, Dens c F (ns.map D.bl) vs → vs = ns.map V.bl
  | [], _, h => h
  | n :: ns, _, h => by
    simp only [List.map_cons, Dens] at h
    obtain ⟨w, r, rfl, h2, h3⟩ := h
    simp only [Den] at h2
    rw [h2, Dens.bls h3] <;> rfl
end
def NoTbl (o : HO) : Prop := ∀ ps, o ≠ .tbl ps
def LD (o : HO) : Prop := (∃ vs, o = .lst vs) ∨ (∃ kv, o = .dK kv) ∨ ∃ w a S n, o = L2.SetO w a S n
theorem LD.nt {o : HO} (h : LD o) : NoTbl o := by
  rcases h with ⟨_, rfl⟩ | ⟨_, rfl⟩ | ⟨_, _, _, _, rfl⟩
  · exact fun _ q => by cases q
  · exact fun _ q => by cases q
  · exact fun _ q => by unfold L2.SetO at q; cases q
structure Fits (F O T H : Hp) : Prop where
  f : Same F H
  o : Same O H
  t : Same T H
  fo : ∀ a, O a ≠ none → F a = none
  ft : ∀ a, T a ≠ none → F a = none
  ot : ∀ a, T a ≠ none → O a = none
  nt : ∀ a o, F a = some o → NoTbl o
  ld : ∀ a o, O a = some o → LD o
section
variable {F O T H : Hp}
theorem upd_none {H : Hp} {p : Addr} (e : Same F H) (h : H p = none) : F p = none := e.free h
theorem same_upd {p : Addr} {o : HO} (h : F p = none) : Same F (upd F p o) := fun b u e => by rw [upd_ne (ne_of_none e h)]; exact e
theorem Fits.new {p : Addr} {o : HO} (h : Fits F O T H) (n : H p = none) (nt : NoTbl o := by intro _ q; cases q) : Fits (upd F p o) O T (upd H p o) where
  f := fun b u e => by
    by_cases hb : b = p
    · subst hb; rw [upd_same] at e ⊢; exact e
    · rw [upd_ne hb] at e ⊢; exact h.f b u e
  o := fun b u e => by
    have := h.o b u e
    rw [upd_ne (ne_of_none this n)]; exact this
  t := fun b u e => by
    have := h.t b u e
    rw [upd_ne (ne_of_none this n)]; exact this
  fo := fun a q => by
    have : a ≠ p := fun z => by subst z; exact q (upd_none h.o n)
    rw [upd_ne this]; exact h.fo a q
  ft := fun a q => by
    have : a ≠ p := fun z => by subst z; exact q (upd_none h.t n)
    rw [upd_ne this]; exact h.ft a q
  ot := h.ot
  nt := fun a u q => by
    by_cases hb : a = p
    · subst hb; rw [upd_same] at q; cases q; exact nt
    · rw [upd_ne hb] at q; exact h.nt a u q
  ld := h.ld
theorem Fits.newO {p : Addr} {o : HO} (h : Fits F O T H) (n : H p = none) (ld : LD o := by first | exact .inl ⟨_, rfl⟩ | exact .inr (.inl ⟨_, rfl⟩)) : Fits F (upd O p o) T (upd H p o) where
  o := fun b u e => by
    by_cases hb : b = p
    · subst hb; rw [upd_same] at e ⊢; exact e
    · rw [upd_ne hb] at e ⊢; exact h.o b u e
  f := fun b u e => by
    have := h.f b u e
    rw [upd_ne (ne_of_none this n)]; exact this
  t := fun b u e => by
    have := h.t b u e
    rw [upd_ne (ne_of_none this n)]; exact this
  fo := fun a q => by
    by_cases hb : a = p
    · subst hb; exact upd_none h.f n
    · rw [upd_ne hb] at q; exact h.fo a q
  ft := h.ft
  ot := fun a q => by
    have : a ≠ p := fun z => by subst z; exact q (upd_none h.t n)
    rw [upd_ne this]; exact h.ot a q
  nt := h.nt
  ld := fun a u q => by
    by_cases hb : a = p
    · subst hb; rw [upd_same] at q; cases q; exact ld
    · rw [upd_ne hb] at q; exact h.ld a u q
theorem Fits.setO {p : Addr} {o o' : HO} (h : Fits F O T H) (n : O p = some o) (ld : LD o' := by first | exact .inl ⟨_, rfl⟩ | exact .inr (.inl ⟨_, rfl⟩)) : Fits F (upd O p o') T (upd H p o') where
  o := fun b u e => by
    by_cases hb : b = p
    · subst hb; rw [upd_same] at e ⊢; exact e
    · rw [upd_ne hb] at e ⊢; exact h.o b u e
  f := fun b u e => by
    have nb : b ≠ p := fun z => by subst z; rw [h.fo b (by rw [n]; simp)] at e; cases e
    rw [upd_ne nb]; exact h.f b u e
  t := fun b u e => by
    have nb : b ≠ p := fun z => by subst z; rw [h.ot b (by rw [e]; simp)] at n; cases n
    rw [upd_ne nb]; exact h.t b u e
  fo := fun a q => by
    by_cases hb : a = p
    · subst hb; exact h.fo a (by rw [n]; simp)
    · rw [upd_ne hb] at q; exact h.fo a q
  ft := h.ft
  ot := fun a q => by
    have : a ≠ p := fun z => by subst z; rw [h.ot a q] at n; cases n
    rw [upd_ne this]; exact h.ot a q
  nt := h.nt
  ld := fun a u q => by
    by_cases hb : a = p
    · subst hb; rw [upd_same] at q; cases q; exact ld
    · rw [upd_ne hb] at q; exact h.ld a u q
theorem Fits.less {O' : Hp} (h : Fits F O T H) (s : Same O' O) : Fits F O' T H where
  f := h.f
  o := s.trans h.o
  t := h.t
  fo := fun a q => h.fo a (by
    cases e : O' a with
    | none => exact absurd e q
    | some u => rw [s a u e]; simp)
  ft := h.ft
  ot := fun a q => by
    cases e : O' a with
    | none => rfl
    | some u => have := h.ot a q; rw [s a u e] at this; cases this
  nt := h.nt
  ld := fun a u q => h.ld a u (s a u q)
def del (O : Hp) (p : Addr) : Hp := fun b => if b = p then none else O b
theorem Fits.freeze {p : Addr} {o : HO} (h : Fits F O T H) (n : O p = some o) : Fits (upd F p o) (del O p) T H where
  f := fun b u e => by
    by_cases hb : b = p
    · subst hb; rw [upd_same] at e; rw [← e]; exact h.o _ _ n
    · rw [upd_ne hb] at e; exact h.f b u e
  o := fun b u e => by
    unfold del at e
    split at e
    · cases e
    · exact h.o b u e
  t := h.t
  fo := fun a q => by
    have : a ≠ p := fun z => by subst z; unfold del at q; rw [if_pos rfl] at q; exact q rfl
    rw [upd_ne this]
    unfold del at q
    rw [if_neg this] at q
    exact h.fo a q
  ft := fun a q => by
    have : a ≠ p := fun z => by subst z; rw [h.ot a q] at n; cases n
    rw [upd_ne this]; exact h.ft a q
  ot := fun a q => by
    unfold del
    split
    · rfl
    · exact h.ot a q
  nt := fun a u q => by
    by_cases hb : a = p
    · subst hb; rw [upd_same] at q; cases q; exact (h.ld _ _ n).nt
    · rw [upd_ne hb] at q; exact h.nt a u q
  ld := fun a u q => by
    unfold del at q
    split at q
    · cases q
    · exact h.ld a u q
end
end VS
namespace VS
open PySem PySem.Spec PyProof.Rows L2
abbrev Env := List (Option D)
inductive Res (α : Type) where
  | ok (a : α)
  | exc (n f : Str) (fs : List D) (S : DS)
  | bad
abbrev ME := Env → DS → Res (D × DS)
abbrev MT := Env → DS → Res (Bool × DS)
abbrev MA := Env → DS → Res (List D × DS)
def bindM {α β : Type} (x : Res (α × DS)) (k : α → DS → Res β) : Res β := match x with
  | .ok (a, S) => k a S
  | .exc n f fs S => .exc n f fs S
  | .bad => .bad
def ofO {α : Type} (x : Option α) (S : DS) : Res (α × DS) := match x with
  | some a => .ok (a, S)
  | none => .bad
def stT (l : Lay) (S : DS) (T0 : Hp) : Hp := fun a => if a = l.sa then some (.dK [(Sum.inr "large", .ref l.la), (Sum.inr "cells", .ref l.ca), (Sum.inr "left", .int S.left), (Sum.inr "turn", .int S.turn)])
  else if a = l.la then some (.lst (S.large.map V.int)) else T0 a
def stI (c : Dc) (S : DS) (F : Hp) : Prop := c.l.sa ≠ c.l.la ∧ F c.l.ca = some (.lst (S.cells.map V.int)) ∧ S.cells.length ≤ 1000 ∧ S.large.length ≤ 1000
structure TPr where
  P : Hp → Hp → Prop
  mono : ∀ {T0 F F' : Hp}, P T0 F → Same F F' → P T0 F'
def exT (T : Hp) : TPr := ⟨fun T0 _ => T0 = T, fun h _ => h⟩
structure Bc where
  c : Dc
  stf : Bool
  TP : TPr
  own : List Nat
def Bc.T (b : Bc) (S : DS) (T0 : Hp) : Hp := if b.stf = true then stT b.c.l S T0 else T0
def FitB (b : Bc) (F O : Hp) (S : DS) (H : Hp) : Prop := ∃ T0, b.TP.P T0 F ∧ Fits F O (b.T S T0) H
section
variable {b : Bc} {F O H : Hp} {S : DS} {p : Addr} {u u' : HO}
theorem FitB.f (h : FitB b F O S H) : Same F H := h.choose_spec.2.f
theorem FitB.o (h : FitB b F O S H) : Same O H := h.choose_spec.2.o
theorem FitB.fo (h : FitB b F O S H) : ∀ a, O a ≠ none → F a = none := h.choose_spec.2.fo
theorem FitB.new (h : FitB b F O S H) (n : H p = none) (nt : NoTbl u := by intro _ q; cases q) : FitB b (upd F p u) O S (upd H p u) := let ⟨T0, tp, fit⟩ := h; ⟨T0, b.TP.mono tp (same_upd (upd_none fit.f n)), fit.new n nt⟩
theorem FitB.newO (h : FitB b F O S H) (n : H p = none) (ld : LD u := by first | exact .inl ⟨_, rfl⟩ | exact .inr (.inl ⟨_, rfl⟩)) : FitB b F (upd O p u) S (upd H p u) := let ⟨T0, tp, fit⟩ := h; ⟨T0, tp, fit.newO n ld⟩
theorem FitB.setO (h : FitB b F O S H) (n : O p = some u) (ld : LD u' := by first | exact .inl ⟨_, rfl⟩ | exact .inr (.inl ⟨_, rfl⟩)) : FitB b F (upd O p u') S (upd H p u') := let ⟨T0, tp, fit⟩ := h; ⟨T0, tp, fit.setO n ld⟩
theorem FitB.freeze (h : FitB b F O S H) (n : O p = some u) : FitB b (upd F p u) (del O p) S H := let ⟨T0, tp, fit⟩ := h; ⟨T0, b.TP.mono tp (same_upd (fit.fo p (by rw [n]; simp))), fit.freeze n⟩
theorem FitB.less {O' : Hp} (h : FitB b F O S H) (s : Same O' O) : FitB b F O' S H := let ⟨T0, tp, fit⟩ := h; ⟨T0, tp, fit.less s⟩
end
def Bc.I (b : Bc) (S : DS) (F : Hp) : Prop := b.stf = true → stI b.c S F
theorem Bc.I.mono {b : Bc} {S : DS} {F F' : Hp} (h : b.I S F) (e : Same F F') : b.I S F' := fun q => ⟨(h q).1, e _ _ (h q).2.1, (h q).2.2⟩
def DenB (c : Dc) (F O : Hp) : D → V → Prop
  | .lst ds, v => ∃ a vs, v = .ref a ∧ (F a = some (.lst vs) ∨ O a = some (.lst vs)) ∧ ds.length ≤ sizeLine ∧ Dens c F ds vs
  | .dct ks ds, v => ∃ a kv, v = .ref a ∧ (F a = some (.dK kv) ∨ O a = some (.dK kv)) ∧ kv.map (·.1) = ks ∧ Dens c F ds (kv.map (·.2))
  | d, v => Den c F d v
def OwnD (c : Dc) (F O : Hp) (a : Addr) : D → Prop
  | .lst ds => ∃ vs, O a = some (.lst vs) ∧ ds.length ≤ sizeLine ∧ Dens c F ds vs
  | .dct ks ds => ∃ kv, O a = some (.dK kv) ∧ kv.map (·.1) = ks ∧ Dens c F ds (kv.map (·.2))
  | _ => False
section
variable {c : Dc} {F F' O O' : Hp}
theorem Den.toB {d : D} {v : V} (h : Den c F d v) : DenB c F O d v := by
  cases d with
  | lst ds => simp only [Den] at h; obtain ⟨a, vs, h1, h2, h3⟩ := h; exact ⟨a, vs, h1, .inl h2, h3⟩
  | dct ks ds => simp only [Den] at h; obtain ⟨a, kv, h1, h2, h3⟩ := h; exact ⟨a, kv, h1, .inl h2, h3⟩
  | _ => exact h
theorem DenB.mono (e : Same F F') (eo : Same O O') {d : D} {v : V} (h : DenB c F O d v) : DenB c F' O' d v := by
  cases d with
  | lst ds => obtain ⟨a, vs, h1, h2, hz, h3⟩ := h; exact ⟨a, vs, h1, h2.imp (e _ _) (eo _ _), hz, Dens.mono e _ _ h3⟩
  | dct ks ds => obtain ⟨a, kv, h1, h2, h3⟩ := h; exact ⟨a, kv, h1, h2.imp (e _ _) (eo _ _), h3.1, Dens.mono e _ _ h3.2⟩
  | non => exact Den.mono e _ _ h
  | bl _ => exact Den.mono e _ _ h
  | int _ => exact Den.mono e _ _ h
  | str _ => exact Den.mono e _ _ h
  | tup _ => exact Den.mono e _ _ h
  | exc _ _ _ => exact Den.mono e _ _ h
  | cls _ => exact Den.mono e _ _ h
  | st => exact Den.mono e _ _ h
  | opq _ => exact Den.mono e _ _ h
  | scr _ => exact Den.mono e _ _ h
theorem OwnD.toB {a : Addr} {d : D} (h : OwnD c F O a d) : DenB c F O d (.ref a) := by
  cases d with
  | lst ds => obtain ⟨vs, h1, h2⟩ := h; exact ⟨a, vs, rfl, .inr h1, h2⟩
  | dct ks ds => obtain ⟨vs, h1, h2⟩ := h; exact ⟨a, vs, rfl, .inr h1, h2⟩
  | _ => exact False.elim h
theorem OwnD.mono (e : Same F F') (eo : ∀ o, O a = some o → O' a = some o) {d : D} (h : OwnD c F O a d) : OwnD c F' O' a d := by
  cases d with
  | lst ds => obtain ⟨vs, h1, hz, h2⟩ := h; exact ⟨vs, eo _ h1, hz, Dens.mono e _ _ h2⟩
  | dct ks ds => obtain ⟨vs, h1, h2, h3⟩ := h; exact ⟨vs, eo _ h1, h2, Dens.mono e _ _ h3⟩
  | _ => exact False.elim h
theorem OwnD.some {a : Addr} {d : D} (h : OwnD c F O a d) : O a ≠ none := by
  cases d with
  | lst ds => obtain ⟨vs, h1, _⟩ := h; rw [h1]; simp
  | dct ks ds => obtain ⟨vs, h1, _⟩ := h; rw [h1]; simp
  | _ => exact False.elim h
end
structure Pre (b : Bc) (F0 O0 F O H : Hp) (σ : L2.St) (env : Env) (S : DS) : Prop where
  fit : FitB b F O S H
  f0 : Same F0 F
  o0 : Same O0 O
  inv : b.I S F
  slot : ∀ i d, env[i]? = some (some d) → i ∉ b.own → ∃ v, σ[i]? = some (some v) ∧ Den b.c F d v
  slotO : ∀ i d, env[i]? = some (some d) → i ∈ b.own → ∃ a, σ[i]? = some (some (.ref a)) ∧ OwnD b.c F O a d ∧ O0 a = none
  sep : ∀ i j a, i ∈ b.own → j ∈ b.own → (∃ d, env[i]? = some (some d)) → (∃ d, env[j]? = some (some d)) → σ[i]? = some (some (.ref a)) → σ[j]? = some (some (.ref a)) → i = j
  len : σ.length = env.length
section
variable {b : Bc} {F0 O0 F O H F' O' H' : Hp} {σ : L2.St} {env : Env} {S S' : DS}
theorem Pre.grow (P : Pre b F0 O0 F O H σ env S) (e : Same F F') (fit : FitB b F' O S' H') (I : b.I S' F') : Pre b F0 O0 F' O H' σ env S' :=
  ⟨fit, P.f0.trans e, P.o0, I, fun i d h n => let ⟨v, h1, h2⟩ := P.slot i d h n; ⟨v, h1, Den.mono e _ _ h2⟩,
    fun i d h n => let ⟨a, h1, h2, h3⟩ := P.slotO i d h n; ⟨a, h1, h2.mono e (fun _ q => q), h3⟩, P.sep, P.len⟩
theorem Pre.moreO (P : Pre b F0 O0 F O H σ env S) (eo : Same O O') (fit : FitB b F O' S H') : Pre b F0 O0 F O' H' σ env S :=
  ⟨fit, P.f0, P.o0.trans eo, P.inv, P.slot, fun i d h n => let ⟨a, h1, h2, h3⟩ := P.slotO i d h n; ⟨a, h1, h2.mono (Same.refl _) (eo _), h3⟩, P.sep, P.len⟩
end
def ExcR (c : Dc) (F : Hp) (n f : Str) (fs : List D) (cls : Value) (dd : Option Addr) : Prop :=
  ∃ C us, c.mg n = some (.ref C) ∧ cls = .ref C ∧ Dens c F fs us ∧ (match us with | [] => dd = none | u :: _ => ∃ p, dd = some p ∧ F p = some (.xd [(f, u)]))
def PostX (b : Bc) (E : XK) (O F : Hp) (n f : Str) (fs : List D) (S' : DS) : Prop :=
  ∀ cls dd F' H', Same F F' → FitB b F' O S' H' → b.I S' F' → ExcR b.c F' n f fs cls dd → E cls dd H'
def Post {α : Type} (b : Bc) (E : XK) (O F : Hp) (r : Res (α × DS)) (k : α → DS → Hp → Hp → Prop) : Prop := match r with
  | .ok (a, S') => ∀ F' H', Same F F' → FitB b F' O S' H' → b.I S' F' → k a S' F' H'
  | .exc n f fs S' => PostX b E O F n f fs S'
  | .bad => False
section
variable {α β : Type} {b : Bc} {E : XK} {O F F' H : Hp} {S : DS}
theorem Post.mono {r : Res (α × DS)} {k : α → DS → Hp → Hp → Prop} (h : Post b E O F r k) (e : Same F F') : Post b E O F' r k := by
  cases r with
  | ok p => obtain ⟨a, S'⟩ := p; exact fun F2 H2 e2 => h F2 H2 (e.trans e2)
  | exc n f fs S' => exact fun cls dd F2 H2 e2 => h cls dd F2 H2 (e.trans e2)
  | bad => exact h
theorem Post.imp {r : Res (α × DS)} {k k' : α → DS → Hp → Hp → Prop} (h : Post b E O F r k) (f : ∀ a S' F' H', Same F F' → FitB b F' O S' H' → b.I S' F' → k a S' F' H' → k' a S' F' H') : Post b E O F r k' := by
  cases r with
  | ok p => obtain ⟨a, S'⟩ := p; exact fun F2 H2 e2 fit I => f a S' F2 H2 e2 fit I (h F2 H2 e2 fit I)
  | exc n f fs S' => exact h
  | bad => exact h
theorem Post.bind {x : Res (α × DS)} {g : α → DS → Res (β × DS)} {k : β → DS → Hp → Hp → Prop} (h : Post b E O F (bindM x g) k) : Post b E O F x (fun a S' F' H' => Post b E O F' (g a S') k) := by
  cases x with
  | ok p => obtain ⟨a, S'⟩ := p; exact fun F2 H2 e2 _ _ => Post.mono (show Post b E O F (g a S') k from h) e2
  | exc n f fs S' => exact h
  | bad => exact h
theorem Post.ofO {x : Option α} {k : α → DS → Hp → Hp → Prop} (h : Post b E O F (ofO x S) k) : ∃ a, x = some a ∧ ∀ F' H', Same F F' → FitB b F' O S H' → b.I S F' → k a S F' H' := by
  cases x with
  | none => exact False.elim h
  | some a => exact ⟨a, rfl, h⟩
end
def tE (b : Bc) (E : XK) (f : ME) : TE := fun σ H Q => ∃ F0 O0 F O env S, Pre b F0 O0 F O H σ env S ∧ Post b E O F (f env S) fun d S' F' H' => ∀ v, Den b.c F' d v → Q v H'
def tB (b : Bc) (E : XK) (f : ME) : TE := fun σ H Q => ∃ F0 O0 F O env S, Pre b F0 O0 F O H σ env S ∧ Post b E O F (f env S) fun d S' F' H' => ∀ v, DenB b.c F' O d v → Q v H'
def tT (b : Bc) (E : XK) (f : MT) : TT := fun σ H Q => ∃ F0 O0 F O env S, Pre b F0 O0 F O H σ env S ∧ Post b E O F (f env S) fun d S' F' H' => Q d H'
def tA (b : Bc) (E : XK) (f : MA) : TA := fun σ H Q => ∃ F0 O0 F O env S, Pre b F0 O0 F O H σ env S ∧ Post b E O F (f env S) fun ds S' F' H' => ∀ vs, Dens b.c F' ds vs → Q vs H'
theorem PE.imp {X : Cx} {e : Expr} {t t' : TE} (h : PE X e t) (i : ∀ σ H Q, t' σ H Q → t σ H Q) : PE X e t' := ⟨fun pins s σ H Q I q => h.run pins s σ H Q I (i σ H Q q)⟩
theorem PT.imp {X : Cx} {e : Expr} {t t' : TT} (h : PT X e t) (i : ∀ σ H Q, t' σ H Q → t σ H Q) : PT X e t' := ⟨fun pins s σ H Q I q => h.run pins s σ H Q I (i σ H Q q)⟩
theorem PW.imp {X : Cx} {e : Expr} {t t' : TT} (h : PW X e t) (i : ∀ σ H Q, t' σ H Q → t σ H Q) : PW X e t' := ⟨fun w pins s σ H Q I q => h.run w pins s σ H Q I (i σ H Q q)⟩
theorem PA.imp {X : Cx} {e : List Expr} {t t' : TA} (h : PA X e t) (i : ∀ σ H Q, t' σ H Q → t σ H Q) : PA X e t' := ⟨fun p pins s σ H Q I q => h.run p pins s σ H Q I (i σ H Q q)⟩
theorem PS.imp {X : Cx} {e : Stmt} {t t' : TS} (h : PS X e t) (i : ∀ D σ H, t' D σ H → t D σ H) : PS X e t' := ⟨fun pins s σ H D I q => h.run pins s σ H D I (i D σ H q)⟩
theorem PSs.imp {X : Cx} {e : List Stmt} {t t' : TS} (h : PSs X e t) (i : ∀ D σ H, t' D σ H → t D σ H) : PSs X e t' := ⟨fun pins s σ H D I q => h.run pins s σ H D I (i D σ H q)⟩
section
variable {X : Cx} {b : Bc} {E : XK} {e e1 e2 : Expr} {es : List Expr} {f f1 f2 : ME} {pos : Pos}
theorem toB (h : PE X e (tB b E f)) : PE X e (tE b E f) ∨ True := .inr trivial
theorem eB (h : PE X e (tB b E f)) : PE X e (tB b E f) := h
theorem bE (h : PE X e (tE b E f)) : PE X e (tB b E f) := PE.imp h fun σ H Q ⟨F0, O0, F, O, env, S, P, h⟩ => ⟨F0, O0, F, O, env, S, P, h.imp fun d S' F' H' _ _ _ k v hv => k v hv.toB⟩
def varM (i : Nat) : ME := fun env S => match env[i]? with | some (some d) => .ok (d, S) | _ => .bad
def cM (d : D) : ME := fun _ S => .ok (d, S)
theorem e_var (i : Nat) (hE : PE X e (tVar i)) (ho : b.own.contains i = false) : PE X e (tE b E (varM i)) := PE.imp hE fun σ H Q ⟨F0, O0, F, O, env, S, P, h⟩ => by
  unfold varM at h
  cases he : env[i]? with
  | none => rw [he] at h; exact False.elim h
  | some o =>
    cases o with
    | none => rw [he] at h; exact False.elim h
    | some d =>
      rw [he] at h
      obtain ⟨v, h1, h2⟩ := P.slot i d he (by simpa using ho)
      exact ⟨v, h1, h F H (Same.refl _) P.fit P.inv v h2⟩
theorem b_var (i : Nat) (hE : PE X e (tVar i)) : PE X e (tB b E (varM i)) := PE.imp hE fun σ H Q ⟨F0, O0, F, O, env, S, P, h⟩ => by
  unfold varM at h
  cases he : env[i]? with
  | none => rw [he] at h; exact False.elim h
  | some o =>
    cases o with
    | none => rw [he] at h; exact False.elim h
    | some d =>
      rw [he] at h
      by_cases ho : i ∈ b.own
      · obtain ⟨a, h1, h2, _⟩ := P.slotO i d he ho
        exact ⟨_, h1, h F H (Same.refl _) P.fit P.inv _ h2.toB⟩
      · obtain ⟨v, h1, h2⟩ := P.slot i d he ho
        exact ⟨v, h1, h F H (Same.refl _) P.fit P.inv v h2.toB⟩
theorem e_c {v : V} {d : D} (hE : PE X e (tC v)) (hd : ∀ F, Den b.c F d v) : PE X e (tE b E (cM d)) := PE.imp hE fun σ H Q ⟨F0, O0, F, O, env, S, P, h⟩ => h F H (Same.refl _) P.fit P.inv v (hd F)
theorem e_int {i : Int} {j p} : PE X (.Constant (.int i) j p) (tE b E (cM (.int i))) := e_c pe_int fun _ => rfl
theorem e_bl {i : Bool} {j p} : PE X (.Constant (.bool i) j p) (tE b E (cM (.bl i))) := e_c pe_bl fun _ => rfl
theorem e_non {j p} : PE X (.Constant .none j p) (tE b E (cM .non)) := e_c pe_non fun _ => rfl
theorem e_str {x : Str} {j p} : PE X (.Constant (.str x) j p) (tE b E (cM (.str x))) := e_c pe_str fun _ => rfl
def RuleU (c : Dc) (r : V → Hp → VK → Prop) (g : D → Option D) : Prop := ∀ F O T H d v d' Q, Fits F O T H → DenB c F O d v → g d = some d' → (∀ v' F' H', Same F F' → Fits F' O T H' → Den c F' d' v' → Q v' H') → r v H Q
def RuleB (c : Dc) (r : R2) (g : D → D → Option D) : Prop := ∀ F O T H d e v u d' Q, Fits F O T H → DenB c F O d v → DenB c F O e u → g d e = some d' → (∀ v' F' H', Same F F' → Fits F' O T H' → Den c F' d' v' → Q v' H') → r v u H Q
def RuleN (c : Dc) (r : List V → Hp → VK → Prop) (g : List D → Option D) : Prop := ∀ F O T H ds vs d' Q, Fits F O T H → Paired (fun d v => DenB c F O d v) ds vs → g ds = some d' → (∀ v' F' H', Same F F' → Fits F' O T H' → Den c F' d' v' → Q v' H') → r vs H Q
theorem RuleU.run {b : Bc} {r : V → Hp → VK → Prop} {g : D → Option D} (hr : RuleU b.c r g) : ∀ F O S H d v d' Q, FitB b F O S H → DenB b.c F O d v → g d = some d' → (∀ v' F' H', Same F F' → FitB b F' O S H' → Den b.c F' d' v' → Q v' H') → r v H Q :=
  fun F O S H d v d' Q ⟨T0, tp, fit⟩ hv e k => hr F O _ H d v d' Q fit hv e fun v' F' H' s f => k v' F' H' s ⟨T0, b.TP.mono tp s, f⟩
theorem RuleB.run {b : Bc} {r : R2} {g : D → D → Option D} (hr : RuleB b.c r g) : ∀ F O S H d e v u d' Q, FitB b F O S H → DenB b.c F O d v → DenB b.c F O e u → g d e = some d' → (∀ v' F' H', Same F F' → FitB b F' O S H' → Den b.c F' d' v' → Q v' H') → r v u H Q :=
  fun F O S H d e v u d' Q ⟨T0, tp, fit⟩ hv hu e' k => hr F O _ H d e v u d' Q fit hv hu e' fun v' F' H' s f => k v' F' H' s ⟨T0, b.TP.mono tp s, f⟩
theorem RuleN.run {b : Bc} {r : List V → Hp → VK → Prop} {g : List D → Option D} (hr : RuleN b.c r g) : ∀ F O S H ds vs d' Q, FitB b F O S H → Paired (fun d v => DenB b.c F O d v) ds vs → g ds = some d' → (∀ v' F' H', Same F F' → FitB b F' O S H' → Den b.c F' d' v' → Q v' H') → r vs H Q :=
  fun F O S H ds vs d' Q ⟨T0, tp, fit⟩ hv e' k => hr F O _ H ds vs d' Q fit hv e' fun v' F' H' s f => k v' F' H' s ⟨T0, b.TP.mono tp s, f⟩
def unM (g : D → Option D) (f : ME) : ME := fun env S => bindM (f env S) fun d S1 => ofO (g d) S1
def binM (g : D → D → Option D) (f1 f2 : ME) : ME := fun env S => bindM (f1 env S) fun d S1 => bindM (f2 env S1) fun e S2 => ofO (g d e) S2
theorem e_un {r : V → Hp → VK → Prop} {g : D → Option D} (hr : RuleU b.c r g) (h : ∀ t, PE X e1 t → PE X e (tUn r t)) (h1 : PE X e1 (tB b E f1)) : PE X e (tE b E (unM g f1)) :=
  PE.imp (h _ h1) fun σ H Q ⟨F0, O0, F, O, env, S, P, h⟩ => ⟨F0, O0, F, O, env, S, P, (Post.bind h).imp fun d S1 F1 H1 s1 fit1 I1 k v hv => by
    obtain ⟨d', e', k⟩ := Post.ofO k
    exact hr.run (b := b) F1 O _ H1 d v d' Q fit1 hv e' fun v' F' H' s f dv => k F' H' s f (I1.mono s) v' dv⟩
theorem e_bin {r : R2} {g : D → D → Option D} (hr : RuleB b.c r g) (h : ∀ t u, PE X e1 t → PE X e2 u → PE X e (tOp r t u)) (h1 : PE X e1 (tB b E f1)) (h2 : PE X e2 (tB b E f2)) : PE X e (tE b E (binM g f1 f2)) :=
  PE.imp (h _ _ h1 h2) fun σ H Q ⟨F0, O0, F, O, env, S, P, h⟩ => ⟨F0, O0, F, O, env, S, P, (Post.bind h).imp fun d S1 F1 H1 s1 fit1 I1 k v hv => ⟨F0, O0, F1, O, env, S1, P.grow s1 fit1 I1, (Post.bind k).imp fun d2 S2 F2 H2 s2 fit2 I2 k u hu => by
    obtain ⟨d', e', k⟩ := Post.ofO k
    exact hr.run (b := b) F2 O _ H2 d d2 v u d' Q fit2 (hv.mono s2 (Same.refl _)) hu e' fun v' F' H' s f dv => k F' H' s f (I2.mono s) v' dv⟩⟩
end
end VS
namespace VS
open PySem PySem.Spec PyProof.Rows L2
def ObjD (c : Dc) (F : Hp) : D → HO → Prop
  | .lst ds, o => ∃ vs, o = .lst vs ∧ ds.length ≤ sizeLine ∧ Dens c F ds vs
  | .dct ks ds, o => ∃ kv, o = .dK kv ∧ kv.map (·.1) = ks ∧ Dens c F ds (kv.map (·.2))
  | _, _ => False
theorem ObjD.den {c : Dc} {F : Hp} {d : D} {o : HO} {p : Addr} (h : ObjD c F d o) (n : F p = none) : Den c (upd F p o) d (.ref p) := by
  have e := same_upd (o := o) n
  cases d with
  | lst ds => obtain ⟨vs, rfl, hz, h⟩ := h; exact ⟨p, vs, rfl, upd_same, hz, Dens.mono e _ _ h⟩
  | dct ks ds => obtain ⟨kv, rfl, hz, h⟩ := h; exact ⟨p, kv, rfl, upd_same, hz, Dens.mono e _ _ h⟩
  | _ => exact False.elim h
theorem ObjD.ld {c : Dc} {F : Hp} {d : D} {o : HO} (h : ObjD c F d o) : LD o := by
  cases d with
  | lst ds => obtain ⟨vs, rfl, hz, h⟩ := h; exact .inl ⟨_, rfl⟩
  | dct ks ds => obtain ⟨kv, rfl, hz, h⟩ := h; exact .inr (.inl ⟨_, rfl⟩)
  | _ => exact False.elim h
theorem ObjD.own {c : Dc} {F O : Hp} {d : D} {o : HO} {p : Addr} (h : ObjD c F d o) (n : O p = some o) : OwnD c F O p d := by
  cases d with
  | lst ds => obtain ⟨vs, rfl, hz, h⟩ := h; exact ⟨vs, n, hz, h⟩
  | dct ks ds => obtain ⟨kv, rfl, hz, h⟩ := h; exact ⟨kv, n, hz, h⟩
  | _ => exact False.elim h
def tN (b : Bc) (E : XK) (f : ME) : TE := fun σ H Q => ∃ F0 O0 F O env S, Pre b F0 O0 F O H σ env S ∧ Post b E O F (f env S) fun d S' F' H' => ∀ p o, H' p = none → ObjD b.c F' d o → Q (.ref p) (upd H' p o)
def tAB (b : Bc) (E : XK) (f : MA) : TA := fun σ H Q => ∃ F0 O0 F O env S, Pre b F0 O0 F O H σ env S ∧ Post b E O F (f env S) fun ds S' F' H' => ∀ vs, Paired (fun d v => DenB b.c F' O d v) ds vs → Q vs H'
def nilA : MA := fun _ S => .ok ([], S)
def consA (f : ME) (g : MA) : MA := fun env S => bindM (f env S) fun d S1 => bindM (g env S1) fun ds S2 => .ok (d :: ds, S2)
section
variable {X : Cx} {b : Bc} {E : XK} {e e1 e2 : Expr} {es : List Expr} {f f1 f2 : ME} {g : MA} {pos : Pos}
theorem nE (h : PE X e (tN b E f)) : PE X e (tE b E f) := PE.imp h fun σ H Q ⟨F0, O0, F, O, env, S, P, h⟩ => ⟨F0, O0, F, O, env, S, P, by
  revert h
  cases hr : f env S with
  | ok r =>
    obtain ⟨d, S'⟩ := r
    intro h F' H' s fit I p o hp ho
    have nF := upd_none fit.f hp
    exact h (upd F' p o) (upd H' p o) (s.trans (same_upd nF)) (fit.new hp ho.ld.nt) (I.mono (same_upd nF)) _ (ho.den nF)
  | exc n f fs S' => exact fun h => h
  | bad => exact fun h => h⟩
theorem a_nil : PA X [] (tA b E nilA) := PA.imp pa_nil fun σ H Q ⟨F0, O0, F, O, env, S, P, h⟩ => h F H (Same.refl _) P.fit P.inv [] rfl
theorem a_cons (h : PE X e (tE b E f)) (hr : PA X es (tA b E g)) (hs : starEach (e :: es) X.env = (false, eval e X.env) :: starEach es X.env := by rfl) : PA X (e :: es) (tA b E (consA f g)) :=
  PA.imp (pa_cons h hr hs) fun σ H Q ⟨F0, O0, F, O, env, S, P, h⟩ => ⟨F0, O0, F, O, env, S, P, (Post.bind h).imp fun d S1 F1 H1 s1 fit1 I1 k v hv => ⟨F0, O0, F1, O, env, S1, P.grow s1 fit1 I1, (Post.bind k).imp fun ds S2 F2 H2 s2 fit2 I2 k vs hvs =>
    k F2 H2 (Same.refl _) fit2 I2 (v :: vs) (Dens.cons (Den.mono s2 _ _ hv) hvs)⟩⟩
theorem ab_nil : PA X [] (tAB b E nilA) := PA.imp pa_nil fun σ H Q ⟨F0, O0, F, O, env, S, P, h⟩ => h F H (Same.refl _) P.fit P.inv [] .nil
theorem ab_cons (h : PE X e (tB b E f)) (hr : PA X es (tAB b E g)) (hs : starEach (e :: es) X.env = (false, eval e X.env) :: starEach es X.env := by rfl) : PA X (e :: es) (tAB b E (consA f g)) :=
  PA.imp (pa_cons h hr hs) fun σ H Q ⟨F0, O0, F, O, env, S, P, h⟩ => ⟨F0, O0, F, O, env, S, P, (Post.bind h).imp fun d S1 F1 H1 s1 fit1 I1 k v hv => ⟨F0, O0, F1, O, env, S1, P.grow s1 fit1 I1, (Post.bind k).imp fun ds S2 F2 H2 s2 fit2 I2 k vs hvs =>
    k F2 H2 (Same.refl _) fit2 I2 (v :: vs) (.cons (hv.mono s2 (Same.refl _)) hvs)⟩⟩
def tupM (g : MA) : ME := fun env S => bindM (g env S) fun ds S1 => if ds.length ≤ 1000000 then .ok (.tup ds, S1) else .bad
def lstM (g : MA) : ME := fun env S => bindM (g env S) fun ds S1 => if ds.length ≤ 1000000 then .ok (.lst ds, S1) else .bad
theorem million : 1000000 ≤ sizeLine := by rw [sizeLine_eq]; decide
theorem e_tup {x1} (h : PA X es (tA b E g)) : PE X (.Tuple es x1 pos) (tE b E (tupM g)) := PE.imp (pe_tup h) fun σ H Q ⟨F0, O0, F, O, env, S, P, h⟩ => ⟨F0, O0, F, O, env, S, P, (Post.bind h).imp fun ds S1 F1 H1 s1 fit1 I1 k vs hv => by
  by_cases hz : ds.length ≤ 1000000
  · rw [if_pos hz] at k
    refine ⟨by rw [← hv.length]; exact Nat.le_trans hz million, fun p hp => ?_⟩
    have nF := upd_none fit1.f hp
    exact k (upd F1 p (.tup vs)) _ (same_upd nF) (fit1.new hp) (I1.mono (same_upd nF)) _ ⟨p, vs, rfl, SqT.of upd_same, Nat.le_trans hz million, Dens.mono (same_upd nF) _ _ hv⟩
  · rw [if_neg hz] at k
    exact False.elim k⟩
theorem n_lst (h : PA X es (tA b E g)) : PE X (.List es pos) (tN b E (lstM g)) := PE.imp (pe_lst h) fun σ H Q ⟨F0, O0, F, O, env, S, P, h⟩ => ⟨F0, O0, F, O, env, S, P, (Post.bind h).imp fun ds S1 F1 H1 s1 fit1 I1 k vs hv => by
  by_cases hz : ds.length ≤ 1000000
  · rw [if_pos hz] at k
    refine ⟨by rw [← hv.length]; exact Nat.le_trans hz million, fun p hp => ?_⟩
    exact k F1 H1 (Same.refl _) fit1 I1 p (.lst vs) hp ⟨vs, rfl, Nat.le_trans hz million, hv⟩
  · rw [if_neg hz] at k
    exact False.elim k⟩
def testM (f : ME) : MT := fun env S => bindM (f env S) fun d S1 => match d with | .bl k => .ok (k, S1) | _ => .bad
theorem t_val (h : PE X e (tE b E f)) (he : ∀ whole, isTrue e X.env whole = (do let v ← whole; standAt e.pos; holding [v] (truthy v)) := by intro _; rfl) : PT X e (tT b E (testM f)) :=
  PT.imp (pt_val h he) fun σ H Q ⟨F0, O0, F, O, env, S, P, h⟩ => ⟨F0, O0, F, O, env, S, P, (Post.bind h).imp fun d S1 F1 H1 s1 fit1 I1 k v hv => by
    cases d with
    | bl k' =>
      simp only [Den] at hv
      subst hv
      exact ⟨k', rfl, k F1 H1 (Same.refl _) fit1 I1⟩
    | _ => exact False.elim k⟩
theorem t_cmp {op : CmpOp} {r : R2} {gg : D → D → Option D} (hr : RuleB b.c r gg) (ho : OpR X (compareOp op) r) (h1 : PE X e1 (tB b E f1)) (h2 : PE X e2 (tB b E f2)) (hm : behindInMarks op e2 = false) : PT X (.Compare e1 [op] [e2] pos) (tT b E (testM (binM gg f1 f2))) :=
  PT.imp (pt_cmpR ho h1 h2 hm) fun σ H Q ⟨F0, O0, F, O, env, S, P, h⟩ => by
    refine ⟨F0, O0, F, O, env, S, P, ?_⟩
    have h := Post.bind h
    refine (Post.bind h).imp fun d S1 F1 H1 s1 fit1 I1 k v hv => ⟨F0, O0, F1, O, env, S1, P.grow s1 fit1 I1, (Post.bind k).imp fun d2 S2 F2 H2 s2 fit2 I2 k u hu => ?_⟩
    obtain ⟨d', e', k⟩ := Post.ofO k
    refine hr.run (b := b) F2 O _ H2 d d2 v u d' _ fit2 (hv.mono s2 (Same.refl _)) hu e' fun v' F' H' s f dv => ?_
    have k := k F' H' s f (I2.mono s)
    cases d' with
    | bl k' =>
      simp only [Den] at dv
      subst dv
      exact ⟨k', rfl, k F' H' (Same.refl _) f (I2.mono s)⟩
    | _ => exact False.elim k
def andT (f g : MT) : MT := fun env S => bindM (f env S) fun k S1 => if k = true then g env S1 else .ok (false, S1)
def orT (f g : MT) : MT := fun env S => bindM (f env S) fun k S1 => if k = true then .ok (true, S1) else g env S1
def notT (f : MT) : MT := fun env S => bindM (f env S) fun k S1 => .ok (!k, S1)
variable {t1 t2 : MT} {rest : List Expr}
theorem w_and1 (ha : PT X e (tT b E t1)) : PW X (.BoolOp .And [e] pos) (tT b E t1) := pw_and1 ha
theorem w_or1 (ha : PT X e (tT b E t1)) : PW X (.BoolOp .Or [e] pos) (tT b E t1) := pw_or1 ha
theorem w_and (ha : PT X e1 (tT b E t1)) (hb : PW X (.BoolOp .And (e2 :: rest) pos) (tT b E t2)) : PW X (.BoolOp .And (e1 :: e2 :: rest) pos) (tT b E (andT t1 t2)) :=
  PW.imp (pw_and ha hb) fun σ H Q ⟨F0, O0, F, O, env, S, P, h⟩ => ⟨F0, O0, F, O, env, S, P, (Post.bind h).imp fun d S1 F1 H1 s1 fit1 I1 k => by
    cases d with
    | true => exact iteT ⟨F0, O0, F1, O, env, S1, P.grow s1 fit1 I1, k⟩
    | false => exact iteF (k F1 H1 (Same.refl _) fit1 I1)⟩
theorem w_or (ha : PT X e1 (tT b E t1)) (hb : PW X (.BoolOp .Or (e2 :: rest) pos) (tT b E t2)) : PW X (.BoolOp .Or (e1 :: e2 :: rest) pos) (tT b E (orT t1 t2)) :=
  PW.imp (pw_or ha hb) fun σ H Q ⟨F0, O0, F, O, env, S, P, h⟩ => ⟨F0, O0, F, O, env, S, P, (Post.bind h).imp fun d S1 F1 H1 s1 fit1 I1 k => by
    cases d with
    | true => exact iteT (k F1 H1 (Same.refl _) fit1 I1)
    | false => exact iteF ⟨F0, O0, F1, O, env, S1, P.grow s1 fit1 I1, k⟩⟩
theorem t_not (ha : PT X e (tT b E t1)) : PT X (.UnaryOp .Not e pos) (tT b E (notT t1)) :=
  PT.imp (pt_not ha) fun σ H Q ⟨F0, O0, F, O, env, S, P, h⟩ => ⟨F0, O0, F, O, env, S, P, (Post.bind h).imp fun d S1 F1 H1 s1 fit1 I1 k => k F1 H1 (Same.refl _) fit1 I1⟩
def andV (f g : ME) : ME := fun env S => bindM (f env S) fun d S1 => match d with | .bl true => g env S1 | .bl false => .ok (.bl false, S1) | _ => .bad
def orV (f g : ME) : ME := fun env S => bindM (f env S) fun d S1 => match d with | .bl true => .ok (.bl true, S1) | .bl false => g env S1 | _ => .bad
theorem e_one {op} (h : PE X e (tE b E f)) : PE X (.BoolOp op [e] pos) (tE b E f) := pe_one h
theorem e_and (ha : PE X e1 (tE b E f1)) (hb : PE X (.BoolOp .And (e2 :: rest) pos) (tE b E f2)) : PE X (.BoolOp .And (e1 :: e2 :: rest) pos) (tE b E (andV f1 f2)) :=
  PE.imp (pe_and ha hb) fun σ H Q ⟨F0, O0, F, O, env, S, P, h⟩ => ⟨F0, O0, F, O, env, S, P, (Post.bind h).imp fun d S1 F1 H1 s1 fit1 I1 k v hv => by
    cases d with
    | bl k' =>
      simp only [Den] at hv
      subst hv
      refine ⟨k', rfl, ?_⟩
      cases k' with
      | true => exact iteT ⟨F0, O0, F1, O, env, S1, P.grow s1 fit1 I1, k⟩
      | false => exact iteF (k F1 H1 (Same.refl _) fit1 I1 _ rfl)
    | _ => exact False.elim k⟩
theorem e_or (ha : PE X e1 (tE b E f1)) (hb : PE X (.BoolOp .Or (e2 :: rest) pos) (tE b E f2)) : PE X (.BoolOp .Or (e1 :: e2 :: rest) pos) (tE b E (orV f1 f2)) :=
  PE.imp (pe_or ha hb) fun σ H Q ⟨F0, O0, F, O, env, S, P, h⟩ => ⟨F0, O0, F, O, env, S, P, (Post.bind h).imp fun d S1 F1 H1 s1 fit1 I1 k v hv => by
    cases d with
    | bl k' =>
      simp only [Den] at hv
      subst hv
      refine ⟨k', rfl, ?_⟩
      cases k' with
      | true => exact iteT (k F1 H1 (Same.refl _) fit1 I1 _ rfl)
      | false => exact iteF ⟨F0, O0, F1, O, env, S1, P.grow s1 fit1 I1, k⟩
    | _ => exact False.elim k⟩
def notV (f : ME) : ME := fun env S => bindM (f env S) fun d S1 => match d with | .bl k => .ok (.bl (!k), S1) | _ => .bad
theorem e_not (ha : PE X e1 (tE b E f1)) : PE X (.UnaryOp .Not e1 pos) (tE b E (notV f1)) :=
  PE.imp (pe_not ha) fun σ H Q ⟨F0, O0, F, O, env, S, P, h⟩ => ⟨F0, O0, F, O, env, S, P, (Post.bind h).imp fun d S1 F1 H1 s1 fit1 I1 k v hv => by
    cases d with
    | bl k' =>
      simp only [Den] at hv
      subst hv
      exact ⟨k', rfl, k F1 H1 (Same.refl _) fit1 I1 _ rfl⟩
    | _ => exact False.elim k⟩
def ifM (t : MT) (f g : ME) : ME := fun env S => bindM (t env S) fun k S1 => if k = true then f env S1 else g env S1
theorem e_if (hc : PT X e (tT b E t1)) (ha : PE X e1 (tE b E f1)) (hb : PE X e2 (tE b E f2)) : PE X (.IfExp e e1 e2 pos) (tE b E (ifM t1 f1 f2)) :=
  PE.imp (pe_ifExp hc ha hb) fun σ H Q ⟨F0, O0, F, O, env, S, P, h⟩ => ⟨F0, O0, F, O, env, S, P, (Post.bind h).imp fun d S1 F1 H1 s1 fit1 I1 k => by
    cases d with
    | true => exact iteT ⟨F0, O0, F1, O, env, S1, P.grow s1 fit1 I1, k⟩
    | false => exact iteF ⟨F0, O0, F1, O, env, S1, P.grow s1 fit1 I1, k⟩⟩
def chM (g g' : D → D → Option D) (f1 f2 f3 : ME) : ME := fun env S => bindM (f1 env S) fun d S1 => bindM (f2 env S1) fun e S2 => bindM (ofO (g d e) S2) fun k S3 => match k with | .bl true => bindM (f3 env S3) fun h S4 => ofO (g' e h) S4 | .bl false => .ok (.bl false, S3) | _ => .bad
theorem e_ch {e3 : Expr} {f3 : ME} {r r' : R2} {gg gg' : D → D → Option D} (hr : RuleB b.c r gg) (hr' : RuleB b.c r' gg') (h : ∀ t u w, PE X e1 t → PE X e2 u → PE X e3 w → PE X e (tChain r r' t u w)) (h1 : PE X e1 (tB b E f1)) (h2 : PE X e2 (tB b E f2)) (h3 : PE X e3 (tB b E f3)) :
    PE X e (tE b E (chM gg gg' f1 f2 f3)) := PE.imp (h _ _ _ h1 h2 h3) fun σ H Q ⟨F0, O0, F, O, env, S, P, h⟩ => by
  refine ⟨F0, O0, F, O, env, S, P, (Post.bind h).imp fun d S1 F1 H1 s1 fit1 I1 k v hv => ⟨F0, O0, F1, O, env, S1, P.grow s1 fit1 I1, (Post.bind k).imp fun d2 S2 F2 H2 s2 fit2 I2 k u hu => ?_⟩⟩
  obtain ⟨d', e', k⟩ := Post.ofO (Post.bind k)
  refine hr.run (b := b) F2 O _ H2 d d2 v u d' _ fit2 (hv.mono s2 (Same.refl _)) hu e' fun v' F' H' s f dv => ?_
  have k := k F' H' s f (I2.mono s)
  have P2 := (P.grow s1 fit1 I1).grow s2 fit2 I2
  cases d' with
  | bl k' =>
    simp only [Den] at dv
    subst dv
    refine ⟨k', rfl, ?_⟩
    cases k' with
    | true =>
      refine iteT ⟨F0, O0, F', O, env, S2, P2.grow s f (I2.mono s), (Post.bind k).imp fun d3 S3 F3 H3 s3 fit3 I3 k w hw => ?_⟩
      obtain ⟨d4, e4, k⟩ := Post.ofO k
      exact hr'.run (b := b) F3 O _ H3 d2 d3 u w d4 _ fit3 ((hu.mono s (Same.refl _)).mono s3 (Same.refl _)) hw e4 fun v4 F4 H4 s4 f4 dv4 => k F4 H4 s4 f4 (I3.mono s4) v4 dv4
    | false => exact iteF (k F' H' (Same.refl _) f (I2.mono s) _ rfl)
  | _ => exact False.elim k
def cbM (gg : List D → Option D) (g : MA) : ME := fun env S => bindM (g env S) fun ds S1 => ofO (gg ds) S1
theorem e_cb {r : List V → Hp → VK → Prop} {gg : List D → Option D} (hr : RuleN b.c r gg) (h : ∀ t, PA X es t → PE X e (tCB r t)) (ha : PA X es (tAB b E g)) : PE X e (tE b E (cbM gg g)) :=
  PE.imp (h _ ha) fun σ H Q ⟨F0, O0, F, O, env, S, P, h⟩ => ⟨F0, O0, F, O, env, S, P, (Post.bind h).imp fun ds S1 F1 H1 s1 fit1 I1 k vs hv => by
    obtain ⟨d', e', k⟩ := Post.ofO k
    exact hr.run (b := b) F1 O _ H1 ds vs d' Q fit1 hv e' fun v' F' H' s f dv => k F' H' s f (I1.mono s) v' dv⟩
def RuleNN (c : Dc) (r : List V → Hp → VK → Prop) (g : List D → Option D) : Prop := ∀ F O T H ds vs d' Q, Fits F O T H → Paired (fun d v => DenB c F O d v) ds vs → g ds = some d' → (∀ F' H' p o, Same F F' → Fits F' O T H' → H' p = none → ObjD c F' d' o → Q (.ref p) (upd H' p o)) → r vs H Q
theorem RuleNN.run {b : Bc} {r : List V → Hp → VK → Prop} {g : List D → Option D} (hr : RuleNN b.c r g) : ∀ F O S H ds vs d' Q, FitB b F O S H → Paired (fun d v => DenB b.c F O d v) ds vs → g ds = some d' → (∀ F' H' p o, Same F F' → FitB b F' O S H' → H' p = none → ObjD b.c F' d' o → Q (.ref p) (upd H' p o)) → r vs H Q :=
  fun F O S H ds vs d' Q ⟨T0, tp, fit⟩ hv e' k => hr F O _ H ds vs d' Q fit hv e' fun F' H' p o s f => k F' H' p o s ⟨T0, b.TP.mono tp s, f⟩
theorem n_cb {r : List V → Hp → VK → Prop} {gg : List D → Option D} (hr : RuleNN b.c r gg) (h : ∀ t, PA X es t → PE X e (tCB r t)) (ha : PA X es (tAB b E g)) : PE X e (tN b E (cbM gg g)) :=
  PE.imp (h _ ha) fun σ H Q ⟨F0, O0, F, O, env, S, P, h⟩ => ⟨F0, O0, F, O, env, S, P, (Post.bind h).imp fun ds S1 F1 H1 s1 fit1 I1 k vs hv => by
    obtain ⟨d', e', k⟩ := Post.ofO k
    exact hr.run (b := b) F1 O _ H1 ds vs d' Q fit1 hv e' fun F' H' p o s f hp ho => k F' H' s f (I1.mono s) p o hp ho⟩
end
end VS
namespace VS
open PySem PySem.Spec PyProof.Rows L2
inductive Fl where
  | nx (env : Env) | rt (d : D) | bk (env : Env) | ct (env : Env)
abbrev MS := Env → DS → Res (Fl × DS)
def PostS (b : Bc) (E : XK) (F0 O0 : Hp) (r : Res (Fl × DS)) (Dn : Ends) : Prop := match r with
  | .ok (.nx env', S') => ∀ σ' F' O' H', Pre b F0 O0 F' O' H' σ' env' S' → Dn.nx σ' H'
  | .ok (.bk env', S') => ∀ σ' F' O' H', Pre b F0 O0 F' O' H' σ' env' S' → Dn.bk σ' H'
  | .ok (.ct env', S') => ∀ σ' F' O' H', Pre b F0 O0 F' O' H' σ' env' S' → Dn.ct σ' H'
  | .ok (.rt d, S') => ∀ v F' O' H', Same F0 F' → Same O0 O' → FitB b F' O' S' H' → b.I S' F' → Den b.c F' d v → Dn.rt v H'
  | .exc n f fs S' => ∀ cls dd F' O' H', Same F0 F' → Same O0 O' → FitB b F' O' S' H' → b.I S' F' → ExcR b.c F' n f fs cls dd → E cls dd H'
  | .bad => False
def tS (b : Bc) (E : XK) (g : MS) : TS := fun Dn σ H => ∃ F0 O0 F O env S, Pre b F0 O0 F O H σ env S ∧ PostS b E F0 O0 (g env S) Dn
section
variable {α : Type} {b : Bc} {E : XK} {F0 O0 F O H : Hp} {σ : L2.St} {env : Env} {S : DS} {Dn Dn' : Ends}
theorem PostS.bind {x : Res (α × DS)} {k : α → DS → Res (Fl × DS)} (h : PostS b E F0 O0 (bindM x k) Dn) (s : Same F0 F) (o : Same O0 O) : Post b E O F x fun a S' F' H' => PostS b E F0 O0 (k a S') Dn := by
  cases x with
  | ok p => obtain ⟨a, S'⟩ := p; exact fun F2 H2 e2 _ _ => h
  | exc n f fs S' => exact fun cls dd F' H' e fit I r => h cls dd F' O H' (s.trans e) o fit I r
  | bad => exact h
theorem PostS.ends {r : Res (Fl × DS)} (h : PostS b E F0 O0 r Dn) (h1 : ∀ env' S', r = .ok (.nx env', S') → ∀ σ' F' O' H', Pre b F0 O0 F' O' H' σ' env' S' → Dn.nx σ' H' → Dn'.nx σ' H') (h2 : ∀ v H', Dn.rt v H' → Dn'.rt v H')
    (h3 : ∀ σ' H', Dn.bk σ' H' → Dn'.bk σ' H') (h4 : ∀ σ' H', Dn.ct σ' H' → Dn'.ct σ' H') : PostS b E F0 O0 r Dn' := by
  cases r with
  | ok p =>
    obtain ⟨a, S'⟩ := p
    cases a with
    | nx env' => exact fun σ' F' O' H' P => h1 env' S' rfl σ' F' O' H' P (h σ' F' O' H' P)
    | rt d => exact fun v F' O' H' a b c d e => h2 _ _ (h v F' O' H' a b c d e)
    | bk env' => exact fun σ' F' O' H' P => h3 _ _ (h σ' F' O' H' P)
    | ct env' => exact fun σ' F' O' H' P => h4 _ _ (h σ' F' O' H' P)
  | exc n f fs S' => exact h
  | bad => exact h
theorem Pre.base {F1 O1 : Hp} (P : Pre b F1 O1 F O H σ env S) (s : Same F0 F1) (o : Same O0 O1) : Pre b F0 O0 F O H σ env S :=
  ⟨P.fit, s.trans P.f0, o.trans P.o0, P.inv, P.slot, fun i d h n => let ⟨a, h1, h2, h3⟩ := P.slotO i d h n; ⟨a, h1, h2, upd_none o h3⟩, P.sep, P.len⟩
theorem PostS.base {F1 O1 : Hp} {r : Res (Fl × DS)} (h : PostS b E F0 O0 r Dn) (s : Same F0 F1) (o : Same O0 O1) : PostS b E F1 O1 r Dn := by
  cases r with
  | ok p =>
    obtain ⟨a, S'⟩ := p
    cases a with
    | nx env' => exact fun σ' F' O' H' P => h σ' F' O' H' (P.base s o)
    | rt d => exact fun v F' O' H' a b c d e => h v F' O' H' (s.trans a) (o.trans b) c d e
    | bk env' => exact fun σ' F' O' H' P => h σ' F' O' H' (P.base s o)
    | ct env' => exact fun σ' F' O' H' P => h σ' F' O' H' (P.base s o)
  | exc n f fs S' => exact fun cls dd F' O' H' a b => h cls dd F' O' H' (s.trans a) (o.trans b)
  | bad => exact h
end
def nextS : MS := fun env S => .ok (.nx env, S)
def seqS (g1 g2 : MS) : MS := fun env S => match g1 env S with
  | .ok (.nx env', S') => g2 env' S'
  | r => r
def ifS (t : MT) (g1 g2 : MS) : MS := fun env S => bindM (t env S) fun k S1 => if k = true then g1 env S1 else g2 env S1
def retS (f : ME) : MS := fun env S => bindM (f env S) fun d S1 => .ok (.rt d, S1)
def dropS (f : ME) : MS := fun env S => bindM (f env S) fun _ S1 => .ok (.nx env, S1)
def asgS (i : Nat) (f : ME) : MS := fun env S => bindM (f env S) fun d S1 => .ok (.nx (env.set i (some d)), S1)
section
variable {X : Cx} {b : Bc} {E : XK} {e : Expr} {st : Stmt} {rest sa sb : List Stmt} {f : ME} {g g1 g2 : MS} {t : MT} {pos : Pos}
theorem ss_nil : PSs X [] (tS b E nextS) := PSs.imp pss_nil fun Dn σ H ⟨F0, O0, F, O, env, S, P, h⟩ => h σ F O H P
theorem ss_cons (h1 : PS X st (tS b E g1)) (h2 : PSs X rest (tS b E g2)) : PSs X (st :: rest) (tS b E (seqS g1 g2)) := PSs.imp (pss_cons h1 h2) fun Dn σ H ⟨F0, O0, F, O, env, S, P, h⟩ => by
  refine ⟨F0, O0, F, O, env, S, P, ?_⟩
  unfold seqS at h
  cases hr : g1 env S with
  | ok p =>
    rw [hr] at h
    obtain ⟨a, S'⟩ := p
    cases a with
    | nx env' => exact fun σ' F' O' H' P' => ⟨F0, O0, F', O', env', S', P', h⟩
    | rt d => exact h
    | bk env' => exact h
    | ct env' => exact h
  | exc n f fs S' => rw [hr] at h; exact h
  | bad => rw [hr] at h; exact h
theorem ss_one (h1 : PS X st (tS b E g1)) : PSs X [st] (tS b E g1) := pss_one h1
theorem s_if {c : Expr} (hc : PT X c (tT b E t)) (ha : PSs X sa (tS b E g1)) (hb : PSs X sb (tS b E g2)) : PS X (.If c sa sb pos) (tS b E (ifS t g1 g2)) :=
  PS.imp (ps_if hc ha hb) fun Dn σ H ⟨F0, O0, F, O, env, S, P, h⟩ => ⟨F0, O0, F, O, env, S, P, (PostS.bind h P.f0 P.o0).imp fun d S1 F1 H1 s1 fit1 I1 k => by
    cases d with
    | true => exact iteT ⟨F0, O0, F1, O, env, S1, P.grow s1 fit1 I1, k⟩
    | false => exact iteF ⟨F0, O0, F1, O, env, S1, P.grow s1 fit1 I1, k⟩⟩
theorem s_ret (h : PE X e (tE b E f)) : PS X (.Return (some e) pos) (tS b E (retS f)) :=
  PS.imp (ps_ret h) fun Dn σ H ⟨F0, O0, F, O, env, S, P, h⟩ => ⟨F0, O0, F, O, env, S, P, (PostS.bind h P.f0 P.o0).imp fun d S1 F1 H1 s1 fit1 I1 k v hv => k v F1 O H1 (P.f0.trans s1) P.o0 fit1 I1 hv⟩
def retN : MS := fun _ S => .ok (.rt .non, S)
theorem s_retN : PS X (.Return none pos) (tS b E retN) := PS.imp ps_retN fun Dn σ H ⟨F0, O0, F, O, env, S, P, h⟩ => h .non F O H P.f0 P.o0 P.fit P.inv rfl
theorem s_drop (h : PE X e (tE b E f)) (hs : swapsWith e none pos.line X.env = pure false := by rfl) : PS X (.Expr e pos) (tS b E (dropS f)) :=
  PS.imp (ps_expr h hs) fun Dn σ H ⟨F0, O0, F, O, env, S, P, h⟩ => ⟨F0, O0, F, O, env, S, P, (PostS.bind h P.f0 P.o0).imp fun d S1 F1 H1 s1 fit1 I1 k v hv => k σ F1 O H1 (P.grow s1 fit1 I1)⟩
theorem s_pass : PS X (.Pass pos) (tS b E nextS) := PS.imp ps_pass fun Dn σ H ⟨F0, O0, F, O, env, S, P, h⟩ => h σ F O H P
def bkS : MS := fun env S => .ok (.bk env, S)
def ctS : MS := fun env S => .ok (.ct env, S)
theorem s_break : PS X (.Break pos) (tS b E bkS) := PS.imp ps_break fun Dn σ H ⟨F0, O0, F, O, env, S, P, h⟩ => h σ F O H P
theorem s_cont : PS X (.Continue pos) (tS b E ctS) := PS.imp ps_continue fun Dn σ H ⟨F0, O0, F, O, env, S, P, h⟩ => h σ F O H P
theorem get_set {α : Type} {l : List α} {i j : Nat} {a d : α} (h : (l.set i a)[j]? = some d) : (j = i ∧ d = a ∧ i < l.length) ∨ (j ≠ i ∧ l[j]? = some d) := by
  by_cases e : j = i
  · subst e
    by_cases q : j < l.length
    · rw [List.getElem?_set_self q] at h; cases h; exact .inl ⟨rfl, rfl, q⟩
    · rw [List.getElem?_eq_none (by simpa using q)] at h; cases h
  · rw [List.getElem?_set_ne (Ne.symm e)] at h
    exact .inr ⟨e, h⟩
theorem set_ne' {α : Type} {l : List α} {i j : Nat} {a : α} (h : j ≠ i) : (l.set i a)[j]? = l[j]? := List.getElem?_set_ne (Ne.symm h)
theorem Pre.set {F0 O0 F O H : Hp} {σ : L2.St} {env : Env} {S : DS} {i : Nat} {d : D} {v : V} (P : Pre b F0 O0 F O H σ env S) (ho : i ∉ b.own) (hv : Den b.c F d v) : Pre b F0 O0 F O H (σ.set i (some v)) (env.set i (some d)) S where
  fit := P.fit
  f0 := P.f0
  o0 := P.o0
  inv := P.inv
  slot := fun j d' h n => by
    rcases get_set h with ⟨rfl, e, hl⟩ | ⟨ne, h⟩
    · cases e
      exact ⟨v, List.getElem?_set_self (by rw [P.len]; exact hl), hv⟩
    · obtain ⟨u, h1, h2⟩ := P.slot j d' h n
      exact ⟨u, by rw [set_ne' ne]; exact h1, h2⟩
  slotO := fun j d' h n => by
    have ne : j ≠ i := fun z => ho (z ▸ n)
    rw [set_ne' ne] at h
    rw [set_ne' ne]
    exact P.slotO j d' h n
  sep := fun j k a hj hk e1 e2 h1 h2 => by
    have nj : j ≠ i := fun z => ho (z ▸ hj)
    have nk : k ≠ i := fun z => ho (z ▸ hk)
    rw [set_ne' nj] at e1 h1
    rw [set_ne' nk] at e2 h2
    exact P.sep j k a hj hk e1 e2 h1 h2
  len := by simp [P.len]
theorem s_asg (i : Nat) (ho : b.own.contains i = false) (hst : ∀ te, PE X e te → PS X st (tAsg te (gName i))) (h : PE X e (tE b E f)) : PS X st (tS b E (asgS i f)) :=
  PS.imp (hst _ h) fun Dn σ H ⟨F0, O0, F, O, env, S, P, h⟩ => ⟨F0, O0, F, O, env, S, P, (PostS.bind h P.f0 P.o0).imp fun d S1 F1 H1 s1 fit1 I1 k v hv => k _ F1 O H1 ((P.grow s1 fit1 I1).set (by simpa using ho) hv)⟩
theorem Pre.setO {F0 O0 F O H : Hp} {σ : L2.St} {env : Env} {S : DS} {i : Nat} {d : D} {p : Addr} {o : HO} (P : Pre b F0 O0 F O H σ env S) (ho : i ∈ b.own) (hp : H p = none) (hd : ObjD b.c F d o) :
    Pre b F0 O0 F (upd O p o) (upd H p o) (σ.set i (some (.ref p))) (env.set i (some d)) S := by
  have nO := upd_none P.fit.o hp
  have eO : Same O (upd O p o) := same_upd nO
  refine ⟨P.fit.newO hp hd.ld, P.f0, P.o0.trans eO, P.inv, fun j d' h n => ?_, fun j d' h n => ?_, fun j k a hj hk e1 e2 h1 h2 => ?_, by simp [P.len]⟩
  · have ne : j ≠ i := fun z => n (z ▸ ho)
    rw [set_ne' ne] at h ⊢
    exact P.slot j d' h n
  · rcases get_set h with ⟨rfl, e, hl⟩ | ⟨ne, h⟩
    · cases e
      exact ⟨p, List.getElem?_set_self (by rw [P.len]; exact hl), hd.own upd_same, upd_none P.o0 nO⟩
    · obtain ⟨a, h1, h2, h3⟩ := P.slotO j d' h n
      exact ⟨a, by rw [set_ne' ne]; exact h1, h2.mono (Same.refl _) (fun o q => eO _ _ q), h3⟩
  · have other : ∀ {m : Nat} {x : Addr}, m ∈ b.own → (∃ d, env[m]? = some (some d)) → σ[m]? = some (some (.ref x)) → x ≠ p := fun {m x} hm ⟨d, e⟩ hx z => by
      obtain ⟨y, h1, h2, _⟩ := P.slotO m d e hm
      rw [h1] at hx
      cases hx
      exact h2.some (z ▸ nO)
    obtain ⟨d1, e1⟩ := e1
    obtain ⟨d2, e2⟩ := e2
    rcases get_set h1 with ⟨z1, q1, l1⟩ | ⟨n1, h3⟩
    · rcases get_set h2 with ⟨z2, q2, l2⟩ | ⟨n2, h4⟩
      · rw [z1, z2]
      · cases q1
        rw [set_ne' n2] at e2
        exact absurd rfl (other hk ⟨d2, e2⟩ h4)
    · rcases get_set h2 with ⟨z2, q2, l2⟩ | ⟨n2, h4⟩
      · cases q2
        rw [set_ne' n1] at e1
        exact absurd rfl (other hj ⟨d1, e1⟩ h3)
      · rw [set_ne' n1] at e1
        rw [set_ne' n2] at e2
        exact P.sep j k a hj hk ⟨d1, e1⟩ ⟨d2, e2⟩ h3 h4
theorem s_asgO (i : Nat) (ho : b.own.contains i = true) (hst : ∀ te, PE X e te → PS X st (tAsg te (gName i))) (h : PE X e (tN b E f)) : PS X st (tS b E (asgS i f)) :=
  PS.imp (hst _ h) fun Dn σ H ⟨F0, O0, F, O, env, S, P, h⟩ => ⟨F0, O0, F, O, env, S, P, (PostS.bind h P.f0 P.o0).imp fun d S1 F1 H1 s1 fit1 I1 k p o hp hd => k _ F1 _ _ ((P.grow s1 fit1 I1).setO (by simpa using ho) hp hd)⟩
theorem s_retO (i : Nat) (hE : PE X e (tVar i)) (ho : b.own.contains i = true) : PS X (.Return (some e) pos) (tS b E (retS (varM i))) :=
  PS.imp (ps_ret hE) fun Dn σ H ⟨F0, O0, F, O, env, S, P, h⟩ => by
    unfold retS varM at h
    cases he : env[i]? with
    | none => rw [he] at h; exact False.elim h
    | some o =>
      cases o with
      | none => rw [he] at h; exact False.elim h
      | some d =>
        rw [he] at h
        obtain ⟨a, h1, h2, h3⟩ := P.slotO i d he (by simpa using ho)
        refine ⟨_, h1, ?_⟩
        have ex : ∃ o, O a = some o ∧ ObjD b.c F d o := by
          cases d with
          | lst ds => obtain ⟨vs, q, hz, r⟩ := h2; exact ⟨_, q, vs, rfl, hz, r⟩
          | dct ks ds => obtain ⟨kv, q, hz, r⟩ := h2; exact ⟨_, q, kv, rfl, hz, r⟩
          | _ => exact False.elim h2
        obtain ⟨o, ho', hd⟩ := ex
        have nF : F a = none := P.fit.fo a (by rw [ho']; simp)
        have fit := P.fit.freeze ho'
        have so : Same O0 (del O a) := fun c u q => by
          have ne : c ≠ a := fun z => by subst z; rw [h3] at q; cases q
          unfold del
          rw [if_neg ne]
          exact P.o0 c u q
        exact h (.ref a) (upd F a o) (del O a) H (P.f0.trans (same_upd nF)) so fit (P.inv.mono (same_upd nF)) (hd.den nF)
def setAll (env : Env) : List Nat → List D → Env
  | i :: is, d :: ds => setAll (env.set i (some d)) is ds
  | _, _ => env
def gNames : List Nat → TGs
  | [] => gNil
  | i :: is => gCons (gName i) (gNames is)
theorem names_set {F0 O0 F O H : Hp} {S : DS} {Q : L2.St → Hp → Prop} : ∀ (is : List Nat) (ds : List D) (vs : List V) (σ : L2.St) (env : Env), is.all (fun i => !b.own.contains i) = true → ds.length = is.length → Dens b.c F ds vs → Pre b F0 O0 F O H σ env S → (∀ σ', Pre b F0 O0 F O H σ' (setAll env is ds) S → Q σ' H) → gNames is vs σ H Q
  | [], [], vs, σ, env, _, _, hd, P, k => by simp only [Dens] at hd; subst hd; exact ⟨rfl, k σ P⟩
  | i :: is, d :: ds, vs, σ, env, ho, hl, hd, P, k => by
    simp only [Dens] at hd
    obtain ⟨v, r, rfl, h1, h2⟩ := hd
    simp only [List.all_cons, Bool.and_eq_true] at ho
    exact ⟨v, r, rfl, names_set is ds r _ _ ho.2 (by simpa using hl) h2 (P.set (by simpa using ho.1) h1) k⟩
  | [], _ :: _, _, _, _, _, hl, _, _, _ => by simp at hl
  | _ :: _, [], _, _, _, _, hl, _, _, _ => by simp at hl
def unpS (is : List Nat) (f : ME) : MS := fun env S => bindM (f env S) fun d S1 => match d with | .tup ds => if ds.length = is.length then .ok (.nx (setAll env is ds), S1) else .bad | _ => .bad
theorem s_unp (is : List Nat) (hK : b.c.K = X.K) (ho : is.all (fun i => !b.own.contains i) = true) (hst : ∀ te, PE X e te → PS X st (tAsg te (gTup X.K is.length (gNames is)))) (h : PE X e (tE b E f)) : PS X st (tS b E (unpS is f)) :=
  PS.imp (hst _ h) fun Dn σ H ⟨F0, O0, F, O, env, S, P, h⟩ => ⟨F0, O0, F, O, env, S, P, (PostS.bind h P.f0 P.o0).imp fun d S1 F1 H1 s1 fit1 I1 k v hv => by
    cases d with
    | tup ds =>
      by_cases hl : ds.length = is.length
      · simp only [if_pos hl] at k
        simp only [Den] at hv
        obtain ⟨a, vs, rfl, hs, hz, hd⟩ := hv
        rw [hK] at hs
        exact ⟨a, vs, rfl, sqT_mono fit1.f hs, by rw [← hd.length]; exact hl, names_set is ds vs σ env ho hl hd (P.grow s1 fit1 I1) fun σ' P' => k σ' F1 O H1 P'⟩
      · simp only [if_neg hl] at k
        exact False.elim k
    | _ => exact False.elim k⟩
def parS (i j : Nat) (g : MA) : MS := fun env S => bindM (g env S) fun ds S1 => match ds with | [d, e] => .ok (.nx ((env.set i (some d)).set j (some e)), S1) | _ => .bad
theorem s_par {es : List Expr} {ga : MA} (i j : Nat) (hi : b.own.contains i = false) (hj : b.own.contains j = false) (hst : ∀ ta, PA X es ta → PS X st (tPar i j ta)) (h : PA X es (tA b E ga)) : PS X st (tS b E (parS i j ga)) :=
  PS.imp (hst _ h) fun Dn σ H ⟨F0, O0, F, O, env, S, P, h⟩ => ⟨F0, O0, F, O, env, S, P, (PostS.bind h P.f0 P.o0).imp fun ds S1 F1 H1 s1 fit1 I1 k vs hv => by
    match ds, k, hv with
    | [], k, _ => exact False.elim k
    | [_], k, _ => exact False.elim k
    | d :: e :: x :: r, k, _ => exact False.elim k
    | [d, e], k, hv =>
      simp only [Dens] at hv
      obtain ⟨v, r, rfl, h1, w, r2, rfl, h2, rfl⟩ := hv
      exact ⟨v, w, rfl, k _ F1 O H1 (((P.grow s1 fit1 I1).set (by simpa using hi) h1).set (by simpa using hj) h2)⟩⟩
end
end VS
namespace VS
open PySem PySem.Spec PyProof.Rows L2
inductive RP where
  | ok (d : D) | exc (n f : Str) (fs : List D) | bad
def liftP (r : RP) (S : DS) : Res (D × DS) := match r with
  | .ok d => .ok (d, S) | .exc n f fs => .exc n f fs S | .bad => .bad
def S0 : DS := ⟨[], [], 0, 0⟩
def endP (r : Res (Fl × DS)) : RP := match r with
  | .ok (.rt d, _) => .ok d | .ok (.nx _, _) => .ok .non | .exc n f fs _ => .exc n f fs | _ => .bad
def endS (r : Res (Fl × DS)) : Res (D × DS) := match r with
  | .ok (.rt d, S) => .ok (d, S) | .ok (.nx _, S) => .ok (.non, S) | .exc n f fs S => .exc n f fs S | _ => .bad
def startE (n : Nat) (ds : List D) : Env := ds.map some ++ List.replicate (n - ds.length) none
def spP (K : PySem.W.Frag) (mg : Str → Option Value) (m : Nat) (G : List D → RP) : Sp := fun vs H Q E => vs.length = m ∧ ∃ (l : Lay) (F O T : Hp) (ds : List D), Fits F O T H ∧ Dens ⟨K, mg, l⟩ F ds vs ∧ match G ds with
  | .ok d => ∀ v F' H', Same F F' → Fits F' O T H' → Den ⟨K, mg, l⟩ F' d v → Q v H'
  | .exc n f fs => ∀ cls dd F' H', Same F F' → Fits F' O T H' → ExcR ⟨K, mg, l⟩ F' n f fs cls dd → E cls dd H'
  | .bad => False
def spS (K : PySem.W.Frag) (mg : Str → Option Value) (m : Nat) (G : List D → DS → Res (D × DS)) : Sp := fun vs H Q E => vs.length = m ∧ ∃ (l : Lay) (F O T0 : Hp) (ds : List D) (S : DS), Fits F O (stT l S T0) H ∧ stI ⟨K, mg, l⟩ S F ∧ Dens ⟨K, mg, l⟩ F ds vs ∧ match G ds S with
  | .ok (d, S') => ∀ v F' H', Same F F' → Fits F' O (stT l S' T0) H' → stI ⟨K, mg, l⟩ S' F' → Den ⟨K, mg, l⟩ F' d v → Q v H'
  | .exc n f fs S' => ∀ cls dd F' H', Same F F' → Fits F' O (stT l S' T0) H' → stI ⟨K, mg, l⟩ S' F' → ExcR ⟨K, mg, l⟩ F' n f fs cls dd → E cls dd H'
  | .bad => False
section
variable {P : Program} {w : World} {K : PySem.W.Frag} {mg : Str → Option Value} {base : Heap}
theorem start_get {N : List Str} {vs : List V} {i : Nat} {v : V} (h : vs[i]? = some v) : (L2.start N vs)[i]? = some (some v) := by
  unfold L2.start
  have hl := (List.getElem?_eq_some_iff.mp h).1
  rw [List.getElem?_append_left (by simpa using hl), List.getElem?_map, h]
  rfl
theorem startE_get {n : Nat} {ds : List D} {i : Nat} {d : D} (h : (startE n ds)[i]? = some (some d)) : ds[i]? = some d := by
  unfold startE at h
  by_cases hl : i < ds.length
  · rw [List.getElem?_append_left (by simpa using hl), List.getElem?_map] at h
    cases e : ds[i]? with
    | none => rw [e] at h; simp at h
    | some x => rw [e] at h; simp at h; rw [h]
  · rw [List.getElem?_append_right (by simpa using hl)] at h
    rw [List.getElem?_replicate] at h
    split at h <;> simp at h
theorem pre_start {b : Bc} {F O H : Hp} {S : DS} {ds : List D} {vs : List V} {N : List Str} (fit : FitB b F O S H) (I : b.I S F) (hd : Dens b.c F ds vs) (hl : vs.length ≤ N.length) (hown : b.own.all (fun i => decide (vs.length ≤ i)) = true) :
    Pre b F O F O H (L2.start N vs) (startE N.length ds) S where
  fit := fit
  f0 := Same.refl _
  o0 := Same.refl _
  inv := I
  slot := fun i d h _ => by
    obtain ⟨v, h1, h2⟩ := Dens.get' hd (startE_get h)
    exact ⟨v, start_get h1, h2⟩
  slotO := fun i d h n => by
    have h1 := (List.getElem?_eq_some_iff.mp (startE_get h)).1
    have h2 := of_decide_eq_true (List.all_eq_true.mp hown i n)
    rw [hd.length] at h1
    omega
  sep := fun i j a hi hj ⟨d, h⟩ _ _ _ => by
    have h1 := (List.getElem?_eq_some_iff.mp (startE_get h)).1
    have h2 := of_decide_eq_true (List.all_eq_true.mp hown i hi)
    rw [hd.length] at h1
    omega
  len := by
    unfold L2.start startE
    rw [List.length_append, List.length_append, List.length_map, List.length_map, List.length_replicate, List.length_replicate, hd.length]
abbrev bP (K : PySem.W.Frag) (mg : Str → Option Value) (l : Lay) (TP : TPr) (own : List Nat) : Bc := ⟨⟨K, mg, l⟩, false, TP, own⟩
abbrev bS (K : PySem.W.Frag) (mg : Str → Option Value) (l : Lay) (TP : TPr) (own : List Nat) : Bc := ⟨⟨K, mg, l⟩, true, TP, own⟩
theorem okP {x qual : Str} {st : Stmt} {f : Addr} {fd : FuncData} {N ps : List Str} {k : Nat} (own : List Nat) {g : MS} {G : List D → RP} (F : Fun K x qual st f fd) (S : FnScope N ps (defScope st)) (hown : own.all (fun i => decide (ps.length ≤ i)) = true) (hle : ps.length ≤ N.length)
    (hbody : ∀ (cdv : Value) (A : Around) (outer : List PySem.Env) (s : Shared) (H : Hp) (E : XK) (l : Lay) (TP : TPr), Room k (A.deeper (envOfC qual (defScope st) s.heap.objs.size f cdv)) →
      PSs (cxOf (L2.CX P w) P w K mg base N qual (defScope st) f cdv A outer s H E) (defBody st) (tS (bP K mg l TP own) E g))
    (hG : ∀ ds : List D, ds.length = ps.length → endP (g (startE N.length ds) S0) = G ds) : FnOk P w K mg base (L2.CX P w) (k + 1) f fd ps (spP K mg ps.length G) := by
  refine F.okX S (fun vs H Q E h => h.1) fun cdv A outer s H vs Q E hr h => ?_
  obtain ⟨hl, l, Fz, O, T, ds, fit, hd, h⟩ := h
  refine ⟨_, hbody cdv A outer s H E l (exT T) hr, Fz, O, Fz, O, startE N.length ds, S0, pre_start (b := bP K mg l (exT T) own) ⟨T, rfl, fit⟩ (fun q => absurd q Bool.false_ne_true) hd (by rw [hl]; exact hle) (by rw [hl]; exact hown), ?_⟩
  rw [← hG ds (by rw [hd.length]; exact hl)] at h
  revert h
  cases hr : g (startE N.length ds) S0 with
  | ok p =>
    obtain ⟨a, S'⟩ := p
    cases a with
    | nx env' => exact fun h σ' F' O' H' P' => by obtain ⟨_, rfl, q⟩ := P'.fit; exact h _ F' H' P'.f0 (q.less P'.o0) rfl
    | rt d => exact fun h v F' O' H' e1 e2 fit' I' hv => by obtain ⟨_, rfl, q⟩ := fit'; exact h v F' H' e1 (q.less e2) hv
    | bk env' => exact fun h => False.elim h
    | ct env' => exact fun h => False.elim h
  | exc n f fs S' => exact fun h cls dd F' O' H' e1 e2 fit' I' hx => by obtain ⟨_, rfl, q⟩ := fit'; exact h cls dd F' H' e1 (q.less e2) hx
  | bad => exact fun h => False.elim h
theorem okS {x qual : Str} {st : Stmt} {f : Addr} {fd : FuncData} {N ps : List Str} {k : Nat} (own : List Nat) {g : MS} {G : List D → DS → Res (D × DS)} (F : Fun K x qual st f fd) (S : FnScope N ps (defScope st)) (hown : own.all (fun i => decide (ps.length ≤ i)) = true) (hle : ps.length ≤ N.length)
    (hbody : ∀ (cdv : Value) (A : Around) (outer : List PySem.Env) (s : Shared) (H : Hp) (E : XK) (l : Lay) (TP : TPr), Room k (A.deeper (envOfC qual (defScope st) s.heap.objs.size f cdv)) →
      PSs (cxOf (L2.CX P w) P w K mg base N qual (defScope st) f cdv A outer s H E) (defBody st) (tS (bS K mg l TP own) E g))
    (hG : ∀ (ds : List D) (S : DS), ds.length = ps.length → endS (g (startE N.length ds) S) = G ds S) : FnOk P w K mg base (L2.CX P w) (k + 1) f fd ps (spS K mg ps.length G) := by
  refine F.okX S (fun vs H Q E h => h.1) fun cdv A outer s H vs Q E hr h => ?_
  obtain ⟨hl, l, Fz, O, T0, ds, Sd, fit, hI, hd, h⟩ := h
  refine ⟨_, hbody cdv A outer s H E l (exT T0) hr, Fz, O, Fz, O, startE N.length ds, Sd, pre_start (b := bS K mg l (exT T0) own) ⟨T0, rfl, fit⟩ (fun _ => hI) hd (by rw [hl]; exact hle) (by rw [hl]; exact hown), ?_⟩
  rw [← hG ds Sd (by rw [hd.length]; exact hl)] at h
  revert h
  cases hr : g (startE N.length ds) Sd with
  | ok p =>
    obtain ⟨a, S'⟩ := p
    cases a with
    | nx env' => exact fun h σ' F' O' H' P' => by obtain ⟨_, rfl, q⟩ := P'.fit; exact h _ F' H' P'.f0 (q.less P'.o0) (P'.inv rfl) rfl
    | rt d => exact fun h v F' O' H' e1 e2 fit' I' hv => by obtain ⟨_, rfl, q⟩ := fit'; exact h v F' H' e1 (q.less e2) (I' rfl) hv
    | bk env' => exact fun h => False.elim h
    | ct env' => exact fun h => False.elim h
  | exc n f fs S' => exact fun h cls dd F' O' H' e1 e2 fit' I' hx => by obtain ⟨_, rfl, q⟩ := fit'; exact h cls dd F' H' e1 (q.less e2) (I' rfl) hx
  | bad => exact fun h => False.elim h
end
def callP (G : List D → RP) (defs : List D) (g : MA) : ME := fun env S => bindM (g env S) fun ds S1 => liftP (G (ds ++ defs)) S1
def callS (G : List D → DS → Res (D × DS)) (g : MA) : ME := fun env S => bindM (g env S) fun ds S1 => G ds S1
section
variable {X : Cx} {b : Bc} {E : XK} {e : Expr} {es : List Expr} {g : MA} {m : Nat}
theorem e_callP {G : List D → RP} {dvs : List V} (defs : List D) (hc : b.c.K = X.K ∧ b.c.mg = X.mg) (hd : ∀ F, Dens b.c F defs dvs) (hm : es.length + defs.length = m) (h : ∀ t, PA X es t → PE X e (tCall (spP X.K X.mg m G) dvs E t)) (ha : PA X es (tA b E g)) (hlen : ∀ env S ds S', g env S = .ok (ds, S') → ds.length = es.length) :
    PE X e (tE b E (callP G defs g)) := PE.imp (h _ ha) fun σ H Q ⟨F0, O0, F, O, env, S, P, h⟩ => ⟨F0, O0, F, O, env, S, P, by
  have hb := Post.bind h
  revert hb
  cases hr : g env S with
  | ok p =>
    obtain ⟨ds, S1⟩ := p
    have hl := hlen env S ds S1 hr
    intro hb F1 H1 s1 fit1 I1 vs hvs
    have k := hb F1 H1 s1 fit1 I1
    obtain ⟨⟨K, mg, l⟩, stf, TP, own⟩ := b
    obtain ⟨T0, tp, fit1⟩ := fit1
    obtain ⟨h1, h2⟩ := hc
    cases h1
    cases h2
    have hv2 := Dens.append hvs (hd F1)
    refine ⟨by rw [← hv2.length, List.length_append, hl]; exact hm, l, F1, O, _, ds ++ defs, fit1, hv2, ?_⟩
    revert k
    cases hG : G (ds ++ defs) with
    | ok d => exact fun k v F' H' s f dv => k F' H' s ⟨T0, TP.mono tp s, f⟩ (I1.mono s) v dv
    | exc n f fs => exact fun k cls dd F' H' s f x => k cls dd F' H' s ⟨T0, TP.mono tp s, f⟩ (I1.mono s) x
    | bad => exact fun k => False.elim k
  | exc n f fs S' => exact fun h => h
  | bad => exact fun h => h⟩
theorem e_callS {G : List D → DS → Res (D × DS)} (hc : b.c.K = X.K ∧ b.c.mg = X.mg) (hs : b.stf = true) (hm : es.length = m) (h : ∀ t, PA X es t → PE X e (tCall (spS X.K X.mg m G) [] E t)) (ha : PA X es (tA b E g)) (hlen : ∀ env S ds S', g env S = .ok (ds, S') → ds.length = es.length) :
    PE X e (tE b E (callS G g)) := PE.imp (h _ ha) fun σ H Q ⟨F0, O0, F, O, env, S, P, h⟩ => ⟨F0, O0, F, O, env, S, P, by
  have hb := Post.bind h
  revert hb
  cases hr : g env S with
  | ok p =>
    obtain ⟨ds, S1⟩ := p
    have hl := hlen env S ds S1 hr
    intro hb F1 H1 s1 fit1 I1 vs hvs
    have k := hb F1 H1 s1 fit1 I1
    obtain ⟨⟨K, mg, l⟩, stf, TP, own⟩ := b
    obtain ⟨T0, tp, fit1⟩ := fit1
    obtain ⟨h1, h2⟩ := hc
    cases h1
    cases h2
    cases hs
    refine ⟨by rw [List.append_nil, ← hvs.length, hl]; exact hm, l, F1, O, T0, ds, S1, fit1, I1 rfl, by rw [List.append_nil]; exact hvs, ?_⟩
    revert k
    cases hG : G ds S1 with
    | ok q => obtain ⟨d, S2⟩ := q; exact fun k v F' H' s f i dv => k F' H' s ⟨T0, TP.mono tp s, f⟩ (fun _ => i) v dv
    | exc n f fs S2 => exact fun k cls dd F' H' s f i x => k cls dd F' H' s ⟨T0, TP.mono tp s, f⟩ (fun _ => i) x
    | bad => exact fun k => False.elim k
  | exc n f fs S' => exact fun h => h
  | bad => exact fun h => h⟩
theorem len_nil : ∀ (env : Env) S ds S', nilA env S = .ok (ds, S') → ds.length = ([] : List Expr).length := fun _ _ _ _ h => by cases h; rfl
theorem len_cons {e : Expr} {f : ME} (h : ∀ (env : Env) S ds S', g env S = .ok (ds, S') → ds.length = es.length) : ∀ (env : Env) S ds S', consA f g env S = .ok (ds, S') → ds.length = (e :: es).length := fun env S ds S' q => by
  unfold consA at q
  cases h1 : f env S with
  | ok p =>
    obtain ⟨d, S1⟩ := p
    rw [h1] at q
    cases h2 : g env S1 with
    | ok p =>
      obtain ⟨ds', S2⟩ := p
      simp only [bindM, h2] at q
      cases q
      simp [h env S1 ds' _ h2]
    | exc _ _ _ _ => simp only [bindM, h2] at q; cases q
    | bad => simp only [bindM, h2] at q; cases q
  | exc _ _ _ _ => rw [h1] at q; cases q
  | bad => rw [h1] at q; cases q
def raiseS (n : Str) : MS := fun _ S => .exc n "" [] S
theorem s_raise {n : Str} {C : Addr} {st : Stmt} (hmg : b.c.mg n = some (.ref C)) (h : PS X st (fun _ σ H => E (.ref C) none H)) : PS X st (tS b E (raiseS n)) := PS.imp h fun Dn σ H ⟨F0, O0, F, O, env, S, P, h⟩ =>
  h (.ref C) none F O H P.f0 P.o0 P.fit P.inv ⟨C, [], hmg, rfl, rfl, rfl⟩
end
end VS
namespace VS
open PySem PySem.Spec PyProof.Rows L2
section
variable {c : Dc}
def gII (k : Int → Int → D) : D → D → Option D
  | .int i, .int j => some (k i j)
  | _, _ => none
def gIC (C : Int → Int → Bool) (k : Int → Int → D) : D → D → Option D
  | .int i, .int j => if C i j = true then some (k i j) else none
  | _, _ => none
theorem rb_I0 {h : Int → Int → V} {k : Int → Int → D} (hk : ∀ i j F, Den c F (k i j) (h i j)) : RuleB c (rI0 h) (gII k) := by
  intro F O T H d e v u d' Q fit hv hu g q
  cases d <;> cases e <;> simp only [gII, reduceCtorEq, Option.some.injEq] at g
  rename_i i j
  subst g
  exact ⟨i, j, hv, hu, q _ F H (Same.refl _) fit (hk i j F)⟩
theorem rb_IC {Cp : Int → Int → Prop} {Cb : Int → Int → Bool} {h : Int → Int → V} {k : Int → Int → D} (hC : ∀ i j, Cb i j = true → Cp i j) (hk : ∀ i j F, Den c F (k i j) (h i j)) : RuleB c (rI Cp h) (gIC Cb k) := by
  intro F O T H d e v u d' Q fit hv hu g q
  cases d <;> cases e <;> simp only [gIC, reduceCtorEq] at g
  rename_i i j
  by_cases hc : Cb i j = true
  · rw [if_pos hc] at g
    cases g
    exact ⟨i, j, hv, hu, hC i j hc, q _ F H (Same.refl _) fit (hk i j F)⟩
  · rw [if_neg hc] at g
    cases g
abbrev gSub := gII fun i j => .int (i - j)
abbrev gLt := gII fun i j => .bl (decide (i < j))
abbrev gLe := gII fun i j => .bl (decide (i ≤ j))
abbrev gGt := gII fun i j => .bl (decide (j < i))
abbrev gGe := gII fun i j => .bl (decide (j ≤ i))
abbrev gMod := gIC (fun _ j => decide (0 < j)) fun i j => .int (i % j)
abbrev gDiv := gIC (fun _ j => decide (0 < j ∧ j < 1073741824)) fun i j => .int (i / j)
abbrev gPow := gIC (fun i j => decide (0 ≤ j ∧ j ≤ 1000000 ∧ i.natAbs < 2 ^ 64)) fun i j => .int (i ^ j.toNat)
theorem r_sub : RuleB c (rI0 fun i j => .int (i - j)) gSub := rb_I0 fun _ _ _ => rfl
theorem r_lt : RuleB c (rI0 fun i j => .bl (decide (i < j))) gLt := rb_I0 fun _ _ _ => rfl
theorem r_le : RuleB c (rI0 fun i j => .bl (decide (i ≤ j))) gLe := rb_I0 fun _ _ _ => rfl
theorem r_gt : RuleB c (rI0 fun i j => .bl (decide (j < i))) gGt := rb_I0 fun _ _ _ => rfl
theorem r_ge : RuleB c (rI0 fun i j => .bl (decide (j ≤ i))) gGe := rb_I0 fun _ _ _ => rfl
theorem r_mod : RuleB c (rI (fun _ j => 0 < j) fun i j => .int (i % j)) gMod := rb_IC (fun _ _ h => of_decide_eq_true h) fun _ _ _ => rfl
theorem r_div : RuleB c (rI CDiv fun i j => .int (i / j)) gDiv := rb_IC (fun _ j h => (of_decide_eq_true h : 0 < j ∧ j < 1073741824)) fun _ _ _ => rfl
theorem r_pow : RuleB c (rI CPow fun i j => .int (i ^ j.toNat)) gPow := rb_IC (fun i j h => (of_decide_eq_true h : 0 ≤ j ∧ j ≤ 1000000 ∧ i.natAbs < 2 ^ 64)) fun _ _ _ => rfl
def gNeg : D → Option D
  | .int i => some (.int (-i))
  | _ => none
theorem r_neg : RuleU c (rU fun i => .int (-i)) gNeg := by
  intro F O T H d v d' Q fit hv g q
  cases d <;> simp only [gNeg, reduceCtorEq, Option.some.injEq] at g
  rename_i i
  subst g
  exact ⟨i, hv, q _ F H (Same.refl _) fit rfl⟩
def rAddA (K : PySem.W.Frag) : R2 := fun x y H Q => rI0 (fun i j => .int (i + j)) x y H Q ∨ rCatA K x y H Q ∨ rCat x y H Q ∨ ∃ i j, x = .str i ∧ y = .str j ∧ i.length + j.length ≤ sizeLine ∧ Q (.str (i ++ j)) H
theorem op_addA {X : Cx} : OpR X (binaryOp .Add) (rAddA X.K) := op_add.or (op_catA.or (op_cat.or op_add_str))
def gAdd : D → D → Option D
  | .int i, .int j => some (.int (i + j))
  | .tup a, .tup b => if a.length + b.length ≤ 1000000 then some (.tup (a ++ b)) else none
  | .lst a, .lst b => if a.length + b.length ≤ 1000000 then some (.lst (a ++ b)) else none
  | .str i, .str j => if i.length + j.length ≤ 1000000 then some (.str (i ++ j)) else none
  | _, _ => none
theorem lenTo {F : Hp} {ds : List D} {vs : List V} (h : Dens c F ds vs) : vs.length = ds.length := h.length.symm
theorem r_add : RuleB c (rAddA c.K) gAdd := by
  intro F O T H d e v u d' Q fit hv hu g q
  cases d <;> cases e <;> simp only [gAdd, reduceCtorEq, Option.some.injEq] at g
  · rename_i i j
    subst g
    exact .inl ⟨i, j, hv, hu, q _ F H (Same.refl _) fit rfl⟩
  · rename_i i j
    split at g <;> cases g
    rename_i hz
    exact .inr (.inr (.inr ⟨i, j, hv, hu, Nat.le_trans hz million, q _ F H (Same.refl _) fit rfl⟩))
  · rename_i a b
    split at g <;> cases g
    rename_i hz
    obtain ⟨p, xs, rfl, h1, z1, h2⟩ := hv
    obtain ⟨p', ys, rfl, h1', z1', h2'⟩ := hu
    refine .inr (.inl ⟨p, p', xs, ys, rfl, rfl, sqT_mono fit.f h1, sqT_mono fit.f h1', by rw [lenTo h2, lenTo h2']; exact Nat.le_trans hz million, fun hx => ?_, fun hx hy => ?_, fun hx hy r hr => ?_⟩)
    · subst hx
      have : a = [] := List.eq_nil_of_length_eq_zero (by rw [h2.length]; rfl)
      subst this
      exact q _ F H (Same.refl _) fit ⟨p', ys, rfl, h1', z1', h2'⟩
    · subst hy
      have : b = [] := List.eq_nil_of_length_eq_zero (by rw [h2'.length]; rfl)
      subst this
      exact q _ F H (Same.refl _) fit ⟨p, xs, rfl, h1, by rw [List.append_nil]; exact z1, by rw [List.append_nil]; exact h2⟩
    · have nF := upd_none fit.f hr
      exact q _ (upd F r _) _ (same_upd nF) (fit.new hr) ⟨r, _, rfl, SqT.of upd_same, by rw [List.length_append]; exact Nat.le_trans hz million, Dens.mono (same_upd nF) _ _ (h2.append h2')⟩
  · rename_i a b
    split at g <;> cases g
    rename_i hz
    obtain ⟨p, xs, rfl, h1, z1, h2⟩ := hv
    obtain ⟨p', ys, rfl, h1', z1', h2'⟩ := hu
    refine .inr (.inr (.inl ⟨p, p', xs, ys, rfl, rfl, h1.elim (fit.f _ _) (fit.o _ _), h1'.elim (fit.f _ _) (fit.o _ _), by rw [lenTo h2, lenTo h2']; exact Nat.le_trans hz million, fun r hr => ?_⟩))
    have nF := upd_none fit.f hr
    exact q _ (upd F r _) _ (same_upd nF) (fit.new hr) ⟨r, _, rfl, upd_same, by rw [List.length_append]; exact Nat.le_trans hz million, Dens.mono (same_upd nF) _ _ (h2.append h2')⟩
def gMul : D → D → Option D
  | .int i, .int j => if (-(2 ^ 64) < i ∧ i < 2 ^ 64) ∨ (-(2 ^ 64) < j ∧ j < 2 ^ 64) then some (.int (i * j)) else none
  | .lst a, .int k => if a.length * k.toNat ≤ 1000000 ∧ k < 1000000 ∧ -1000000 < k then some (.lst (List.replicate k.toNat a).flatten) else none
  | _, _ => none
def rMulA : R2 := fun x y H Q => rI CMul (fun i j => .int (i * j)) x y H Q ∨ rRep x y H Q
theorem op_mulA {X : Cx} : OpR X (binaryOp .Mult) rMulA := op_mul.or op_rep
theorem Dens.rep {F : Hp} {ds : List D} {vs : List V} (h : Dens c F ds vs) : ∀ k : Nat, Dens c F (List.replicate k ds).flatten (List.replicate k vs).flatten
  | 0 => rfl
  | k + 1 => by
    rw [List.replicate_succ, List.replicate_succ, List.flatten_cons, List.flatten_cons]
    exact h.append (Dens.rep h k)
theorem len_rep {α : Type} (l : List α) : ∀ k : Nat, (List.replicate k l).flatten.length = l.length * k
  | 0 => rfl
  | k + 1 => by rw [List.replicate_succ, List.flatten_cons, List.length_append, len_rep l k, Nat.mul_succ, Nat.add_comm]
theorem r_mul : RuleB c rMulA gMul := by
  intro F O T H d e v u d' Q fit hv hu g q
  cases d <;> cases e <;> simp only [gMul, reduceCtorEq] at g
  · rename_i i j
    split at g <;> cases g
    rename_i hz
    exact .inl ⟨i, j, hv, hu, hz, q _ F H (Same.refl _) fit rfl⟩
  · rename_i a k
    split at g <;> cases g
    rename_i hz
    obtain ⟨p, xs, rfl, h1, z1, h2⟩ := hv
    refine .inr ⟨p, k, xs, rfl, hu, h1.elim (fit.f _ _) (fit.o _ _), by omega, by omega, by rw [lenTo h2]; exact Nat.le_trans hz.1 million, fun r hr => ?_⟩
    have nF := upd_none fit.f hr
    exact q _ (upd F r _) _ (same_upd nF) (fit.new hr) ⟨r, _, rfl, upd_same, by rw [len_rep]; exact Nat.le_trans hz.1 million, Dens.mono (same_upd nF) _ _ (h2.rep _)⟩
mutual
def toPy : D → Option PyData
  | .non => some .none
  | .bl b => some (.bool b)
  | .int i => some (.int i)
  | .str x => some (.str x)
  | .tup ds => (toPyL ds).map .tuple
  | .lst ds => (toPyL ds).map .list
  | _ => none
def toPyL : List D → Option (List PyData)
  | [] => some []
  | d :: ds => match toPy d, toPyL ds with
    | some p, some ps => some (p :: ps)
    | _, _ => none
end
theorem SqL_of {K : PySem.W.Frag} {H : Hp} {a : Addr} {xs : List V} (h : H a = some (.lst xs)) : SqL K H a xs := .inl (.inl h)
mutual
theorem dp_of {F H : Hp} (s : Same F H) : ∀ (d : D) (v : V) (p : PyData), Den c F d v → toPy d = some p → Dp c.K H v p
  | .non, _, _, h, e => by cases e; simp only [Den] at h; subst h; exact .non
  | .bl _, _, _, h, e => by cases e; simp only [Den] at h; subst h; exact .bl _
  | .int _, _, _, h, e => by cases e; simp only [Den] at h; subst h; exact .int _
  | .str _, _, _, h, e => by cases e; simp only [Den] at h; subst h; exact .str _
  | .tup ds, _, _, h, e => by
    simp only [toPy, Option.map_eq_some_iff] at e
    obtain ⟨ps, e1, rfl⟩ := e
    simp only [Den] at h
    obtain ⟨a, vs, rfl, h1, _, h2⟩ := h
    exact .tup (sqT_mono s h1) (dpL_of s ds vs ps h2 e1)
  | .lst ds, _, _, h, e => by
    simp only [toPy, Option.map_eq_some_iff] at e
    obtain ⟨ps, e1, rfl⟩ := e
    simp only [Den] at h
    obtain ⟨a, vs, rfl, h1, _, h2⟩ := h
    exact .lst (SqL_of (s _ _ h1)) (dpL_of s ds vs ps h2 e1)
  | .dct _ _, _, _, _, e => by simp [toPy] at e
  | .exc _ _ _, _, _, _, e => by simp [toPy] at e
  | .cls _, _, _, _, e => by simp [toPy] at e
  | .st, _, _, _, e => by simp [toPy] at e
  | .opq _, _, _, _, e => by simp [toPy] at e
  | .scr _, _, _, _, e => by simp [toPy] at e
theorem dpL_of {F H : Hp} (s : Same F H) : ∀ (ds : List D) (vs : List V) (ps : List PyData), Dens c F ds vs → toPyL ds = some ps → DpAll c.K H vs ps
  | [], _, _, h, e => by simp only [toPyL] at e; cases e; simp only [Dens] at h; subst h; exact .nil
  | d :: ds, _, _, h, e => by
    simp only [Dens] at h
    obtain ⟨v, r, rfl, h1, h2⟩ := h
    simp only [toPyL] at e
    split at e
    · rename_i p ps e1 e2
      cases e
      exact .cons (dp_of s d v p h1 e1) (dpL_of s ds r ps h2 e2)
    · cases e
end
theorem dpB_of {F O T H : Hp} (fit : Fits F O T H) {d : D} {v : V} {p : PyData} (h : DenB c F O d v) (e : toPy d = some p) : Dp c.K H v p := by
  cases d with
  | lst ds =>
    simp only [toPy, Option.map_eq_some_iff] at e
    obtain ⟨ps, e1, rfl⟩ := e
    obtain ⟨a, vs, rfl, h1, _, h2⟩ := h
    exact .lst (SqL_of (h1.elim (fit.f _ _) (fit.o _ _))) (dpL_of fit.f ds vs ps h2 e1)
  | dct ks ds => simp [toPy] at e
  | _ => exact dp_of fit.f _ _ _ h e
def eqD0 (d e : D) : Option Bool := match toPy d, toPy e with
  | some p, some q => if (SeqAt.shaped p && SeqAt.shaped q) = true then some (PyData.eqv p q) else none
  | _, _ => none
def eqS : D → D → Option Bool
  | .str x, .str y => some (x == y)
  | .str _, .int _ => some false
  | .int _, .str _ => some false
  | .str _, .bl _ => some false
  | .bl _, .str _ => some false
  | .str _, .non => some false
  | .non, .str _ => some false
  | _, _ => none
def eqD (d e : D) : Option Bool := match eqS d e with
  | some k => some k
  | none => eqD0 d e
def gEq (d e : D) : Option D := (eqD d e).map .bl
def gNe (d e : D) : Option D := (eqD d e).map fun k => .bl (!k)
theorem eqD_some {d e : D} {k : Bool} (h : eqD0 d e = some k) : ∃ p q, toPy d = some p ∧ toPy e = some q ∧ SeqAt.shaped p = true ∧ SeqAt.shaped q = true ∧ PyData.eqv p q = k := by
  unfold eqD0 at h
  split at h
  · rename_i p q e1 e2
    split at h <;> cases h
    rename_i hs
    rw [Bool.and_eq_true] at hs
    exact ⟨p, q, e1, e2, hs.1, hs.2, rfl⟩
  · cases h
theorem eqS_den {F O : Hp} {d e : D} {v u : V} {k : Bool} (hv : DenB c F O d v) (hu : DenB c F O e u) (h : eqS d e = some k) : scal v u = true ∧ decide (v = u) = k := by
  cases d <;> cases e <;> simp only [eqS, reduceCtorEq, Option.some.injEq] at h <;> subst h
  all_goals (have hv' := hv; have hu' := hu; simp only [DenB, Den] at hv' hu'; subst hv' hu')
  all_goals first
    | exact ⟨rfl, dec_str⟩
    | exact ⟨rfl, decide_eq_false (by intro z; cases z)⟩
abbrev rEqX (K : PySem.W.Frag) : R2 := fun x y H Q => rEqD K x y H Q ∨ rEq x y H Q
abbrev rNeX (K : PySem.W.Frag) : R2 := fun x y H Q => rNeD K x y H Q ∨ rNe x y H Q
theorem op_eqX {X : Cx} (hu : X.A.units + 64 < cLine) : OpR X (compareOp .Eq) (rEqX X.K) := (op_eqD hu).or op_eq
theorem op_neX {X : Cx} (hu : X.A.units + 64 < cLine) : OpR X (compareOp .NotEq) (rNeX X.K) := (op_neD hu).or op_ne
theorem r_eq : RuleB c (rEqX c.K) gEq := by
  intro F O T H d e v u d' Q fit hv hu g q
  simp only [gEq, Option.map_eq_some_iff] at g
  obtain ⟨k, e1, rfl⟩ := g
  cases hs : eqS d e with
  | some k' =>
    have : k' = k := by simp only [eqD, hs, Option.some.injEq] at e1; exact e1
    subst this
    obtain ⟨h1, h2⟩ := eqS_den hv hu hs
    exact .inr ⟨h1, by rw [h2]; exact q _ F H (Same.refl _) fit rfl⟩
  | none =>
    have e1 : eqD0 d e = some k := by simp only [eqD, hs] at e1; exact e1
    obtain ⟨p, p', h1, h2, h3, h4, rfl⟩ := eqD_some e1
    exact .inl ⟨p, p', dpB_of fit hv h1, dpB_of fit hu h2, h3, h4, q _ F H (Same.refl _) fit rfl⟩
theorem r_ne : RuleB c (rNeX c.K) gNe := by
  intro F O T H d e v u d' Q fit hv hu g q
  simp only [gNe, Option.map_eq_some_iff] at g
  obtain ⟨k, e1, rfl⟩ := g
  cases hs : eqS d e with
  | some k' =>
    have : k' = k := by simp only [eqD, hs, Option.some.injEq] at e1; exact e1
    subst this
    obtain ⟨h1, h2⟩ := eqS_den hv hu hs
    exact .inr ⟨h1, by rw [h2]; exact q _ F H (Same.refl _) fit rfl⟩
  | none =>
    have e1 : eqD0 d e = some k := by simp only [eqD, hs] at e1; exact e1
    obtain ⟨p, p', h1, h2, h3, h4, rfl⟩ := eqD_some e1
    exact .inl ⟨p, p', dpB_of fit hv h1, dpB_of fit hu h2, h3, h4, q _ F H (Same.refl _) fit rfl⟩
theorem paired1 {R : D → V → Prop} {d : D} {ds : List D} {vs : List V} (h : Paired R (d :: ds) vs) : ∃ v r, vs = v :: r ∧ R d v ∧ Paired R ds r := by
  cases h with
  | cons a b => exact ⟨_, _, rfl, a, b⟩
theorem paired0 {R : D → V → Prop} {vs : List V} (h : Paired R [] vs) : vs = [] := by cases h; rfl
def gLen : List D → Option D
  | [.lst xs] => some (.int xs.length)
  | [.tup xs] => some (.int xs.length)
  | [.str x] => if x.length ≤ 1000000 then some (.int x.length) else none
  | [.scr ns] => some (.int ns.length)
  | _ => none
theorem r_len : RuleN c (fun xs H Q => ∃ x n, xs = [x] ∧ LenV c.K x H n ∧ Q (.int n) H) gLen := by
  intro F O T H ds vs d' Q fit hv g q
  match ds, g with
  | [.lst xs], g =>
    cases g
    obtain ⟨v, r, rfl, ⟨a, us, rfl, h1, z, h2⟩, h⟩ := paired1 hv
    cases paired0 h
    exact ⟨_, _, rfl, .inl ⟨us, SqL_of (h1.elim (fit.f _ _) (fit.o _ _)), rfl⟩, q _ F H (Same.refl _) fit (by simp [Den, h2.length])⟩
  | [.tup xs], g =>
    cases g
    obtain ⟨v, r, rfl, ⟨a, us, rfl, h1, z, h2⟩, h⟩ := paired1 hv
    cases paired0 h
    exact ⟨_, _, rfl, .inr ⟨us, sqT_mono fit.f h1, rfl⟩, q _ F H (Same.refl _) fit (by simp [Den, h2.length])⟩
  | [.str x], g =>
    simp only [gLen] at g
    split at g <;> cases g
    rename_i hz
    obtain ⟨v, r, rfl, rfl, h⟩ := paired1 hv
    cases paired0 h
    exact ⟨_, _, rfl, ⟨Nat.le_trans hz million, rfl⟩, q _ F H (Same.refl _) fit rfl⟩
  | [.scr ns], g =>
    cases g
    obtain ⟨v, r, rfl, ⟨a, rfl, h1⟩, h⟩ := paired1 hv
    cases paired0 h
    exact ⟨_, _, rfl, .inl ⟨_, fit.f.seq h1, rfl⟩, q _ F H (Same.refl _) fit (by simp [Den])⟩
def gAbs : List D → Option D
  | [.int i] => some (.int (if i < 0 then -i else i))
  | _ => none
theorem r_abs : RuleN c (fun xs H Q => ∃ i, xs = [.int i] ∧ Q (.int (if i < 0 then -i else i)) H) gAbs := by
  intro F O T H ds vs d' Q fit hv g q
  match ds, g with
  | [.int i], g =>
    cases g
    obtain ⟨v, r, rfl, rfl, h⟩ := paired1 hv
    cases paired0 h
    exact ⟨i, rfl, q _ F H (Same.refl _) fit rfl⟩
def gInt : List D → Option D
  | [.int i] => some (.int i)
  | [.bl k] => some (.int (if k then 1 else 0))
  | _ => none
theorem r_int : RuleN c (fun xs H Q => (∃ i, xs = [.int i] ∧ Q (.int i) H) ∨ ∃ k, xs = [.bl k] ∧ Q (.int (if k then 1 else 0)) H) gInt := by
  intro F O T H ds vs d' Q fit hv g q
  match ds, g with
  | [.int i], g =>
    cases g
    obtain ⟨v, r, rfl, rfl, h⟩ := paired1 hv
    cases paired0 h
    exact .inl ⟨i, rfl, q _ F H (Same.refl _) fit rfl⟩
  | [.bl i], g =>
    cases g
    obtain ⟨v, r, rfl, rfl, h⟩ := paired1 hv
    cases paired0 h
    exact .inr ⟨i, rfl, q _ F H (Same.refl _) fit rfl⟩
def g2I (k : Int → Int → Int) : List D → Option D
  | [.int i, .int j] => some (.int (k i j))
  | _ => none
abbrev gMax := g2I fun i j => if j > i then j else i
abbrev gMin := g2I fun i j => if j < i then j else i
theorem r_2I {k : Int → Int → Int} : RuleN c (fun xs H Q => ∃ i j, xs = [.int i, .int j] ∧ Q (.int (k i j)) H) (g2I k) := by
  intro F O T H ds vs d' Q fit hv g q
  match ds, g with
  | [.int i, .int j], g =>
    cases g
    obtain ⟨v, r, rfl, rfl, h⟩ := paired1 hv
    obtain ⟨v2, r2, e2, e3, h3⟩ := paired1 h
    cases paired0 h3
    subst e2
    cases e3
    exact ⟨i, j, rfl, q _ F H (Same.refl _) fit rfl⟩
def toInts : List D → Option (List Int)
  | [] => some []
  | .int i :: r => (toInts r).map (i :: ·)
  | _ :: _ => none
theorem toInts_map : ∀ {ds : List D} {ns : List Int}, toInts ds = some ns → ds = ns.map D.int
  | [], ns, h => by cases h; rfl
  | .int i :: r, ns, h => by
    simp only [toInts, Option.map_eq_some_iff] at h
    obtain ⟨ms, h1, rfl⟩ := h
    rw [toInts_map h1] <;> rfl
  | .non :: _, _, h => by simp [toInts] at h
  | .bl _ :: _, _, h => by simp [toInts] at h
  | .str _ :: _, _, h => by simp [toInts] at h
  | .tup _ :: _, _, h => by simp [toInts] at h
  | .lst _ :: _, _, h => by simp [toInts] at h
  | .dct _ _ :: _, _, h => by simp [toInts] at h
  | .exc _ _ _ :: _, _, h => by simp [toInts] at h
  | .cls _ :: _, _, h => by simp [toInts] at h
  | .st :: _, _, h => by simp [toInts] at h
  | .opq _ :: _, _, h => by simp [toInts] at h
  | .scr _ :: _, _, h => by simp [toInts] at h
theorem toInts_of : ∀ ns : List Int, toInts (ns.map D.int) = some ns
  | [] => rfl
  | n :: ns => by simp [toInts, toInts_of ns]
def gSum : List D → Option D
  | [.lst xs] => (toInts xs).map fun ns => .int ns.sum
  | _ => none
theorem r_sum : RuleN c (rSum c.K) gSum := by
  intro F O T H ds vs d' Q fit hv g q
  match ds, g with
  | [.lst xs], g =>
    simp only [gSum, Option.map_eq_some_iff] at g
    obtain ⟨ns, h0, rfl⟩ := g
    obtain ⟨v, r, rfl, ⟨a, us, rfl, h1, z, h2⟩, h⟩ := paired1 hv
    cases paired0 h
    rw [toInts_map h0] at h2
    cases h2.ints
    exact ⟨a, ns, rfl, SqL_of (h1.elim (fit.f _ _) (fit.o _ _)), q _ F H (Same.refl _) fit rfl⟩
def toBls : List D → Option (List Bool)
  | [] => some []
  | .bl i :: r => (toBls r).map (i :: ·)
  | _ :: _ => none
theorem toBls_map : ∀ {ds : List D} {ns : List Bool}, toBls ds = some ns → ds = ns.map D.bl
  | [], ns, h => by cases h; rfl
  | .bl i :: r, ns, h => by
    simp only [toBls, Option.map_eq_some_iff] at h
    obtain ⟨ms, h1, rfl⟩ := h
    rw [toBls_map h1] <;> rfl
  | .non :: _, _, h => by simp [toBls] at h
  | .int _ :: _, _, h => by simp [toBls] at h
  | .str _ :: _, _, h => by simp [toBls] at h
  | .tup _ :: _, _, h => by simp [toBls] at h
  | .lst _ :: _, _, h => by simp [toBls] at h
  | .dct _ _ :: _, _, h => by simp [toBls] at h
  | .exc _ _ _ :: _, _, h => by simp [toBls] at h
  | .cls _ :: _, _, h => by simp [toBls] at h
  | .st :: _, _, h => by simp [toBls] at h
  | .opq _ :: _, _, h => by simp [toBls] at h
  | .scr _ :: _, _, h => by simp [toBls] at h
def gAll : List D → Option D
  | [.lst xs] => (toBls xs).map fun ns => .bl (ns.all id)
  | _ => none
theorem r_all : RuleN c (rAll c.K) gAll := by
  intro F O T H ds vs d' Q fit hv g q
  match ds, g with
  | [.lst xs], g =>
    simp only [gAll, Option.map_eq_some_iff] at g
    obtain ⟨ns, h0, rfl⟩ := g
    obtain ⟨v, r, rfl, ⟨a, us, rfl, h1, z, h2⟩, h⟩ := paired1 hv
    cases paired0 h
    rw [toBls_map h0] at h2
    cases h2.bls
    exact ⟨a, ns, rfl, SqL_of (h1.elim (fit.f _ _) (fit.o _ _)), q _ F H (Same.refl _) fit rfl⟩
def gTuple : List D → Option D
  | [.lst xs] => some (.tup xs)
  | [.tup xs] => some (.tup xs)
  | _ => none
theorem r_tuple : RuleN c (fun xs H Q => ∃ p ys, xs = [.ref p] ∧ ((SqL c.K H p ys ∧ ∀ l, H l = none → Q (.ref l) (upd H l (.tup ys))) ∨ (SqT c.K H p ys ∧ Q (.ref p) H))) gTuple := by
  intro F O T H ds vs d' Q fit hv g q
  match ds, g with
  | [.lst xs], g =>
    cases g
    obtain ⟨v, r, rfl, ⟨a, us, rfl, h1, z, h2⟩, h⟩ := paired1 hv
    cases paired0 h
    refine ⟨a, us, rfl, .inl ⟨SqL_of (h1.elim (fit.f _ _) (fit.o _ _)), fun r hr => ?_⟩⟩
    have nF := upd_none fit.f hr
    exact q _ (upd F r _) _ (same_upd nF) (fit.new hr) ⟨r, _, rfl, SqT.of upd_same, z, Dens.mono (same_upd nF) _ _ h2⟩
  | [.tup xs], g =>
    cases g
    obtain ⟨v, r, rfl, ⟨a, us, rfl, h1, z, h2⟩, h⟩ := paired1 hv
    cases paired0 h
    exact ⟨a, us, rfl, .inr ⟨sqT_mono fit.f h1, q _ F H (Same.refl _) fit ⟨a, us, rfl, h1, z, h2⟩⟩⟩
def gList : List D → Option D
  | [.lst xs] => some (.lst xs)
  | [.tup xs] => some (.lst xs)
  | _ => none
theorem r_list : RuleNN c (fun xs H Q => ∃ p ys, xs = [.ref p] ∧ (SqL c.K H p ys ∨ SqT c.K H p ys) ∧ ∀ l, H l = none → Q (.ref l) (upd H l (.lst ys))) gList := by
  intro F O T H ds vs d' Q fit hv g q
  match ds, g with
  | [.lst xs], g =>
    cases g
    obtain ⟨v, r, rfl, ⟨a, us, rfl, h1, z, h2⟩, h⟩ := paired1 hv
    cases paired0 h
    exact ⟨a, us, rfl, .inl (SqL_of (h1.elim (fit.f _ _) (fit.o _ _))), fun r hr => q F H r (.lst us) (Same.refl _) fit hr ⟨us, rfl, z, h2⟩⟩
  | [.tup xs], g =>
    cases g
    obtain ⟨v, r, rfl, ⟨a, us, rfl, h1, z, h2⟩, h⟩ := paired1 hv
    cases paired0 h
    exact ⟨a, us, rfl, .inr (sqT_mono fit.f h1), fun r hr => q F H r (.lst us) (Same.refl _) fit hr ⟨us, rfl, z, h2⟩⟩
def gIx : D → D → Option D
  | .lst xs, .int i => atI xs i
  | .tup xs, .int i => atI xs i
  | _, _ => none
theorem Dens.atI {F : Hp} {ds : List D} {vs : List V} {i : Int} {d : D} (h : Dens c F ds vs) (e : L2.atI ds i = some d) : ∃ v, L2.atI vs i = some v ∧ Den c F d v := by
  unfold L2.atI at e ⊢
  rw [← h.length]
  cases hi : ixN ds.length i with
  | none => rw [hi] at e; cases e
  | some j =>
    rw [hi] at e
    exact Dens.get' h e
theorem r_ix : RuleB c (rIx c.K) gIx := by
  intro F O T H d e v u d' Q fit hv hu g q
  cases d <;> cases e <;> simp only [gIx, reduceCtorEq] at g
  · rename_i xs i
    obtain ⟨a, us, rfl, h1, z, h2⟩ := hv
    obtain ⟨w, e1, e2⟩ := h2.atI g
    exact .inr (.inl ⟨a, us, i, w, rfl, hu, sqT_mono fit.f h1, e1, q _ F H (Same.refl _) fit e2⟩)
  · rename_i xs i
    obtain ⟨a, us, rfl, h1, z, h2⟩ := hv
    obtain ⟨w, e1, e2⟩ := h2.atI g
    exact .inl ⟨a, us, i, w, rfl, hu, SqL_of (h1.elim (fit.f _ _) (fit.o _ _)), e1, q _ F H (Same.refl _) fit e2⟩
end
end VS
namespace VS
open PySem PySem.Spec PyProof.Rows L2
def setN (i : Nat) : Env → D → Option Env := fun env d => some (env.set i (some d))
def setT (is : List Nat) : Env → D → Option Env := fun env d => match d with
  | .tup ds => if ds.length = is.length then some (setAll env is ds) else none
  | _ => none
structure Tgt (b : Bc) (K : PySem.W.Frag) (g : TG) (set : Env → D → Option Env) (js : List Nat) : Prop where
  run : ∀ F0 O0 F O H σ env S d v env' (Q : L2.St → Hp → Prop), Pre b F0 O0 F O H σ env S → Den b.c F d v → set env d = some env' → (∀ σ', Pre b F0 O0 F O H σ' env' S → (∀ k, k ∉ js → σ'[k]? = σ[k]?) → σ'.length = σ.length → Q σ' H) → g v σ H Q
section
variable {b : Bc}
theorem tg_name {K : PySem.W.Frag} (i : Nat) (ho : b.own.contains i = false) : Tgt b K (gName i) (setN i) [i] := ⟨fun F0 O0 F O H σ env S d v env' Q P hv e k => by
  cases e
  exact k _ (P.set (by simpa using ho) hv) (fun j hj => set_ne' (by simpa using hj)) (by simp)⟩
theorem names_set2 {F0 O0 F O H : Hp} {S : DS} {Q : L2.St → Hp → Prop} : ∀ (is : List Nat) (ds : List D) (vs : List V) (σ : L2.St) (env : Env), is.all (fun i => !b.own.contains i) = true → ds.length = is.length → Dens b.c F ds vs → Pre b F0 O0 F O H σ env S →
    (∀ σ', Pre b F0 O0 F O H σ' (setAll env is ds) S → (∀ k, k ∉ is → σ'[k]? = σ[k]?) → σ'.length = σ.length → Q σ' H) → gNames is vs σ H Q
  | [], [], vs, σ, env, _, _, hd, P, k => by simp only [Dens] at hd; subst hd; exact ⟨rfl, k σ P (fun _ _ => rfl) rfl⟩
  | i :: is, d :: ds, vs, σ, env, ho, hl, hd, P, k => by
    simp only [Dens] at hd
    obtain ⟨v, r, rfl, h1, h2⟩ := hd
    simp only [List.all_cons, Bool.and_eq_true] at ho
    refine ⟨v, r, rfl, names_set2 is ds r _ _ ho.2 (by simpa using hl) h2 (P.set (by simpa using ho.1) h1) fun σ' P' q ql => k σ' P' (fun j hj => ?_) (by rw [ql]; simp)⟩
    simp only [List.mem_cons, not_or] at hj
    rw [q j hj.2, set_ne' hj.1]
  | [], _ :: _, _, _, _, _, hl, _, _, _ => by simp at hl
  | _ :: _, [], _, _, _, _, hl, _, _, _ => by simp at hl
theorem tg_tup {K : PySem.W.Frag} (is : List Nat) (hK : b.c.K = K) (ho : is.all (fun i => !b.own.contains i) = true) : Tgt b K (gTup K is.length (gNames is)) (setT is) is := ⟨fun F0 O0 F O H σ env S d v env' Q P hv e k => by
  cases d with
  | tup ds =>
    simp only [setT] at e
    split at e <;> cases e
    rename_i hl
    simp only [Den] at hv
    obtain ⟨a, vs, rfl, hs, hz, hd⟩ := hv
    rw [hK] at hs
    exact ⟨a, vs, rfl, sqT_mono P.fit.f hs, by rw [← hd.length]; exact hl, names_set2 is ds vs σ env ho hl hd P k⟩
  | _ => simp [setT] at e⟩
end
def loopS (set : Env → D → Option Env) (g : MS) : List D → MS
  | [], env, S => .ok (.nx env, S)
  | d :: ds, env, S => match set env d with
    | none => .bad
    | some env1 => match g env1 S with
      | .ok (.nx env2, S2) => loopS set g ds env2 S2
      | .ok (.ct env2, S2) => loopS set g ds env2 S2
      | .ok (.bk env2, S2) => .ok (.nx env2, S2)
      | r => r
def forS (set : Env → D → Option Env) (f : ME) (g : MS) : MS := fun env S => bindM (f env S) fun d S1 => match d with
  | .lst ds => loopS set g ds env S1
  | .tup ds => loopS set g ds env S1
  | _ => .bad
section
variable {X : Cx} {b : Bc} {E : XK} {e tg iter : Expr} {body : List Stmt} {f : ME} {g : MS} {pos : Pos} {gt : TG} {set : Env → D → Option Env} {js : List Nat}
theorem loop_turn (ht : Tgt b X.K gt set js) {F1 O0 F' O' H' : Hp} {σ' : L2.St} {env' : Env} {S' : DS} {d : D} {ds : List D} {v : V} {Dn : Ends} {N : L2.St → Hp → Prop} (P : Pre b F1 O0 F' O' H' σ' env' S') (hv : Den b.c F' d v) (h : PostS b E F1 O0 (loopS set g (d :: ds) env' S') Dn)
    (hN : ∀ σ2 H2 F2 O2 env2 S2, Pre b F1 O0 F2 O2 H2 σ2 env2 S2 → PostS b E F1 O0 (loopS set g ds env2 S2) Dn → N σ2 H2) :
    gt v σ' H' fun σ2 H2 => tS b E g { Dn with nx := N, ct := N, bk := Dn.nx } σ2 H2 := by
  unfold loopS at h
  cases hs : set env' d with
  | none => rw [hs] at h; exact False.elim h
  | some env1 =>
    simp only [hs] at h
    refine ht.run F1 O0 F' O' H' σ' env' S' d v env1 _ P hv hs fun σ2 P2 _ _ => ⟨F1, O0, F', O', env1, S', P2, ?_⟩
    revert h
    cases hr : g env1 S' with
    | ok p =>
      obtain ⟨a, S2⟩ := p
      cases a with
      | nx env2 => exact fun h σ3 F3 O3 H3 P3 => hN σ3 H3 F3 O3 env2 S2 P3 h
      | rt d => exact fun h => h
      | bk env2 => exact fun h => h
      | ct env2 => exact fun h σ3 F3 O3 H3 P3 => hN σ3 H3 F3 O3 env2 S2 P3 h
    | exc n f fs S2 => exact fun h => h
    | bad => exact fun h => h
theorem PI.or {tgt l : Expr} {w1 w2 : TI} (h1 : PI X tgt l w1) (h2 : PI X tgt l w2) : PI X tgt l (fun σ H R => w1 σ H R ∨ w2 σ H R) := ⟨fun pins s σ H R I h => h.elim (h1.run pins s σ H R I) (h2.run pins s σ H R I)⟩
theorem drop_at {α : Type} {l : List α} {i : Nat} {d : α} (h : l[i]? = some d) : l.drop i = d :: l.drop (i + 1) := by
  obtain ⟨h1, h2⟩ := List.getElem?_eq_some_iff.mp h
  rw [← h2]
  exact List.drop_eq_getElem_cons h1
theorem s_for (hc : X.calm = true) (hK : b.c.K = X.K) (hp : PassesOwn (model X.prog X.w) X.A X.env X.xe) (hi : PE X iter (tE b E f)) (hg : PG X tg gt) (ht : Tgt b X.K gt set js) (hb : PSs X body (tS b E g))
    (hs : ∀ x, foldedSetIterable iter X.env x = pure x := by intro _; rfl) : PS X (.For tg iter body [] pos) (tS b E (forS set f g)) :=
  PS.imp (ps_for hp hc (PI.or (pi_list hi) (pi_tup hi)) hg hb hs) fun Dn σ H ⟨F0, O0, F, O, env, S, P, h⟩ => by
    have hb := PostS.bind h P.f0 P.o0
    cases hr : f env S with
    | bad => rw [hr] at hb; exact False.elim hb
    | exc n f' fs S' =>
      rw [hr] at hb
      refine .inl ⟨F0, O0, F, O, env, S, P, ?_⟩
      rw [hr]
      exact hb
    | ok p =>
      obtain ⟨d, S1⟩ := p
      cases d with
      | lst ds =>
        refine .inl ⟨F0, O0, F, O, env, S, P, ?_⟩
        rw [hr] at hb ⊢
        intro F1 H1 s1 fit1 I1 v hv
        have k := hb F1 H1 s1 fit1 I1
        obtain ⟨a, vs, rfl, h1, z, h2⟩ := hv
        refine ⟨a, rfl, ⟨vs, SqL_of (fit1.f _ _ h1)⟩, for_list (xs := vs) (fun i σ' H' => ∃ F' O' env' S', Pre b F1 O0 F' O' H' σ' env' S' ∧ PostS b E F1 O0 (loopS set g (ds.drop i) env' S') Dn) ?_ (fun i σ' H' _ ⟨F', O', env', S', P', _⟩ => SqL_of (P'.fit.f _ _ (P'.f0 _ _ h1))) ?_ ?_⟩
        · exact ⟨F1, O, env, S1, ⟨fit1, Same.refl _, P.o0, I1, (P.grow s1 fit1 I1).slot, (P.grow s1 fit1 I1).slotO, P.sep, P.len⟩, PostS.base k (P.f0.trans s1) (Same.refl _)⟩
        · rintro i x σ' H' hx ⟨F', O', env', S', P', k⟩
          obtain ⟨d, e1, e2⟩ := Dens.get h2 hx
          rw [drop_at e1] at k
          exact loop_turn ht P' (Den.mono P'.f0 _ _ e2) k fun σ2 H2 F2 O2 env2 S2 P2 k2 => ⟨F2, O2, env2, S2, P2, k2⟩
        · rintro σ' H' ⟨F', O', env', S', P', k⟩
          rw [← h2.length, List.drop_length] at k
          exact k σ' F' O' H' P'
      | tup ds =>
        refine .inr ⟨F0, O0, F, O, env, S, P, ?_⟩
        rw [hr] at hb ⊢
        intro F1 H1 s1 fit1 I1 v hv
        have k := hb F1 H1 s1 fit1 I1
        obtain ⟨a, vs, rfl, h1, z, h2⟩ := hv
        rw [hK] at h1
        refine ⟨a, rfl, ⟨vs, sqT_mono fit1.f h1⟩, for_tup (xs := vs) (fun i σ' H' => ∃ F' O' env' S', Pre b F1 O0 F' O' H' σ' env' S' ∧ PostS b E F1 O0 (loopS set g (ds.drop i) env' S') Dn) ?_ (fun i σ' H' _ ⟨F', O', env', S', P', _⟩ => sqT_mono P'.fit.f (sqT_mono P'.f0 h1)) ?_ ?_⟩
        · exact ⟨F1, O, env, S1, ⟨fit1, Same.refl _, P.o0, I1, (P.grow s1 fit1 I1).slot, (P.grow s1 fit1 I1).slotO, P.sep, P.len⟩, PostS.base k (P.f0.trans s1) (Same.refl _)⟩
        · rintro i x σ' H' hx ⟨F', O', env', S', P', k⟩
          obtain ⟨d, e1, e2⟩ := Dens.get h2 hx
          rw [drop_at e1] at k
          exact loop_turn ht P' (Den.mono P'.f0 _ _ e2) k fun σ2 H2 F2 O2 env2 S2 P2 k2 => ⟨F2, O2, env2, S2, P2, k2⟩
        · rintro σ' H' ⟨F', O', env', S', P', k⟩
          rw [← h2.length, List.drop_length] at k
          exact k σ' F' O' H' P'
      | _ =>
        refine .inl ⟨F0, O0, F, O, env, S, P, ?_⟩
        rw [hr] at hb ⊢
        exact fun F1 H1 s1 fit1 I1 v hv => False.elim (hb F1 H1 s1 fit1 I1)
def intsD (lo : Int) (n : Nat) : List D := (List.range n).map fun (i : Nat) => D.int (lo + (i : Int))
theorem intsD_at {lo : Int} {n i : Nat} (h : i < n) : (intsD lo n)[i]? = some (.int (lo + i)) := by simp [intsD, h]
def rangeOf : List D → Option (List D)
  | [.int j] => if -(2 ^ 62) ≤ j ∧ j < 2 ^ 62 then some (intsD 0 j.toNat) else none
  | [.int i, .int j] => if -(2 ^ 62) ≤ i ∧ i < 2 ^ 62 ∧ -(2 ^ 62) ≤ j ∧ j < 2 ^ 62 then some (intsD i (j - i).toNat) else none
  | _ => none
def forR (set : Env → D → Option Env) (fa : MA) (g : MS) : MS := fun env S => bindM (fa env S) fun ds S1 => match rangeOf ds with
  | some xs => loopS set g xs env S1
  | none => .bad
theorem range_go {lo : Int} {n : Nat} (ht : Tgt b X.K gt set js) {F1 O0 F O H : Hp} {σ : L2.St} {env : Env} {S : DS} {Dn : Ends} (P : Pre b F1 O0 F O H σ env S) (h : PostS b E F1 O0 (loopS set g (intsD lo n) env S) Dn) :
    ∃ W : Nat → Nat → L2.St → Hp → Prop, (∃ m, W 0 m σ H) ∧ ∀ i m σ H, W i m σ H →
      ((Itr lo n).stop i H ∧ Dn.nx σ H) ∨ ((Itr lo n).go i H ∧ ∃ N : L2.St → Hp → Prop, (∀ σ' H', N σ' H' → ∃ m', m' < m ∧ W (i + 1) m' σ' H') ∧ ∀ x H', (Itr lo n).yld i H x H' → gt x σ H' fun σ2 H2 => tS b E g { Dn with nx := N, ct := N, bk := Dn.nx } σ2 H2) := by
  refine for_range (fun i σ' H' => ∃ F' O' env' S', Pre b F1 O0 F' O' H' σ' env' S' ∧ PostS b E F1 O0 (loopS set g ((intsD lo n).drop i) env' S') Dn) ⟨F, O, env, S, P, h⟩ ?_ ?_
  · rintro i σ' H' hi ⟨F', O', env', S', P', k⟩
    rw [drop_at (intsD_at hi)] at k
    exact loop_turn ht P' (d := D.int (lo + i)) (v := .int (lo + i)) rfl k fun σ2 H2 F2 O2 env2 S2 P2 k2 => ⟨F2, O2, env2, S2, P2, k2⟩
  · rintro σ' H' ⟨F', O', env', S', P', k⟩
    have : (intsD lo n).drop n = [] := List.drop_eq_nil_of_le (by simp [intsD])
    rw [this] at k
    exact k σ' F' O' H' P'
theorem s_forR1 {e1 : Expr} {ga : MA} (hc : X.calm = true) (hp : PassesOwn (model X.prog X.w) X.A X.env X.xe) (hi : ∀ ta, PA X [e1] ta → PI X tg iter (iRng1 ta)) (ha : PA X [e1] (tA b E ga)) (hg : PG X tg gt) (ht : Tgt b X.K gt set js) (hb : PSs X body (tS b E g))
    (hl : ∀ env S ds S', ga env S = .ok (ds, S') → ds.length = [e1].length) (hs : ∀ x, foldedSetIterable iter X.env x = pure x := by intro _; rfl) : PS X (.For tg iter body [] pos) (tS b E (forR set ga g)) :=
  PS.imp (ps_for hp hc (hi _ ha) hg hb hs) fun Dn σ H ⟨F0, O0, F, O, env, S, P, h⟩ => by
    have hb := PostS.bind h P.f0 P.o0
    refine ⟨F0, O0, F, O, env, S, P, ?_⟩
    cases hr : ga env S with
    | bad => rw [hr] at hb; exact False.elim hb
    | exc n f' fs S' => rw [hr] at hb; exact hb
    | ok p =>
      obtain ⟨ds, S1⟩ := p
      have hlen := hl env S ds S1 hr
      rw [hr] at hb
      intro F1 H1 s1 fit1 I1 vs hv
      have k := hb F1 H1 s1 fit1 I1
      match ds, hlen, hv, k with
      | [d], _, hv, k =>
        simp only [Dens] at hv
        obtain ⟨v, r, rfl, h1, rfl⟩ := hv
        cases d with
        | int j =>
          simp only [Den] at h1
          subst h1
          simp only [rangeOf] at k
          by_cases hj : -(2 ^ 62) ≤ j ∧ j < 2 ^ 62
          · rw [if_pos hj] at k
            exact ⟨j, rfl, hj.1, hj.2, range_go ht ((P.grow s1 fit1 I1).base (Same.refl _) (Same.refl _)) k⟩
          · rw [if_neg hj] at k
            exact False.elim k
        | _ => exact False.elim k
theorem s_forR2 {e1 e2 : Expr} {ga : MA} (hc : X.calm = true) (hp : PassesOwn (model X.prog X.w) X.A X.env X.xe) (hi : ∀ ta, PA X [e1, e2] ta → PI X tg iter (iRng2 ta)) (ha : PA X [e1, e2] (tA b E ga)) (hg : PG X tg gt) (ht : Tgt b X.K gt set js) (hb : PSs X body (tS b E g))
    (hl : ∀ env S ds S', ga env S = .ok (ds, S') → ds.length = [e1, e2].length) (hs : ∀ x, foldedSetIterable iter X.env x = pure x := by intro _; rfl) : PS X (.For tg iter body [] pos) (tS b E (forR set ga g)) :=
  PS.imp (ps_for hp hc (hi _ ha) hg hb hs) fun Dn σ H ⟨F0, O0, F, O, env, S, P, h⟩ => by
    have hb := PostS.bind h P.f0 P.o0
    refine ⟨F0, O0, F, O, env, S, P, ?_⟩
    cases hr : ga env S with
    | bad => rw [hr] at hb; exact False.elim hb
    | exc n f' fs S' => rw [hr] at hb; exact hb
    | ok p =>
      obtain ⟨ds, S1⟩ := p
      have hlen := hl env S ds S1 hr
      rw [hr] at hb
      intro F1 H1 s1 fit1 I1 vs hv
      have k := hb F1 H1 s1 fit1 I1
      match ds, hlen, hv, k with
      | [d, d2], _, hv, k =>
        simp only [Dens] at hv
        obtain ⟨v, r, rfl, h1, v2, r2, rfl, h2, rfl⟩ := hv
        cases d with
        | int i =>
          cases d2 with
          | int j =>
            simp only [Den] at h1 h2
            subst h1 h2
            simp only [rangeOf] at k
            split at k
            · rename_i xs hx
              split at hx <;> cases hx
              rename_i hj
              exact ⟨i, j, rfl, hj, range_go ht ((P.grow s1 fit1 I1).base (Same.refl _) (Same.refl _)) k⟩
            · exact False.elim k
          | _ => exact False.elim k
        | _ => cases d2 <;> exact False.elim k
end
end VS
namespace VS
open PySem PySem.Spec PyProof.Rows L2
def wipeE (env : Env) : List Nat → Env
  | [] => env
  | v :: vs => (wipeE env vs).set v none
def noX {α : Type} (r : Res α) : Res α := match r with | .exc _ _ _ _ => .bad | r => r
abbrev XF : XK := fun _ _ _ => False
section
variable {b : Bc}
theorem Pre.unset {F0 O0 F O H : Hp} {σ : L2.St} {env : Env} {S : DS} {i : Nat} (P : Pre b F0 O0 F O H σ env S) (ho : i ∉ b.own) : Pre b F0 O0 F O H (σ.set i none) (env.set i none) S where
  fit := P.fit
  f0 := P.f0
  o0 := P.o0
  inv := P.inv
  slot := fun j d' h n => by
    rcases get_set h with ⟨_, e, _⟩ | ⟨ne, h⟩
    · cases e
    · rw [set_ne' ne]; exact P.slot j d' h n
  slotO := fun j d' h n => by
    have ne : j ≠ i := fun z => ho (z ▸ n)
    rw [set_ne' ne] at h ⊢
    exact P.slotO j d' h n
  sep := fun j k a hj hk e1 e2 h1 h2 => by
    have nj : j ≠ i := fun z => ho (z ▸ hj)
    have nk : k ≠ i := fun z => ho (z ▸ hk)
    rw [set_ne' nj] at e1 h1
    rw [set_ne' nk] at e2 h2
    exact P.sep j k a hj hk e1 e2 h1 h2
  len := by simp [P.len]
theorem Pre.wipe {F0 O0 F O H : Hp} {σ : L2.St} {env : Env} {S : DS} (P : Pre b F0 O0 F O H σ env S) : ∀ vs : List Nat, vs.all (fun i => !b.own.contains i) = true → Pre b F0 O0 F O H (L2.wipe σ vs) (wipeE env vs) S
  | [], _ => P
  | v :: vs, h => by
    simp only [List.all_cons, Bool.and_eq_true] at h
    exact (P.wipe vs h.2).unset (by simpa using h.1)
theorem wipe_get {σ : L2.St} : ∀ {vs : List Nat} {k : Nat}, k ∉ vs → (L2.wipe σ vs)[k]? = σ[k]?
  | [], _, _ => rfl
  | v :: vs, k, h => by
    simp only [List.mem_cons, not_or] at h
    show ((L2.wipe σ vs).set v none)[k]? = _
    rw [set_ne' h.1]
    exact wipe_get h.2
theorem wipe_in {σ : L2.St} : ∀ {vs : List Nat} {k : Nat}, k ∈ vs → (L2.wipe σ vs)[k]? = if k < σ.length then some none else none
  | v :: vs, k, h => by
    show ((L2.wipe σ vs).set v none)[k]? = _
    by_cases e : k = v
    · subst e
      by_cases hl : k < σ.length
      · rw [if_pos hl, List.getElem?_set_self (by rw [L2.wipe_length]; exact hl)]
      · rw [if_neg hl, List.getElem?_eq_none (by rw [List.length_set, L2.wipe_length]; omega)]
    · rw [set_ne' e]
      exact wipe_in ((List.mem_cons.mp h).resolve_left e)
theorem wipe_eq {σ σ' : L2.St} {vs js : List Nat} (hl : σ'.length = σ.length) (h : ∀ k, k ∉ js → σ'[k]? = (L2.wipe σ vs)[k]?) (hs : js.all (fun j => vs.contains j) = true) : L2.wipe σ' vs = L2.wipe σ vs := by
  apply List.ext_getElem?
  intro k
  by_cases hk : k ∈ vs
  · rw [wipe_in hk, wipe_in hk, hl]
  · rw [wipe_get hk]
    exact h k fun hj => hk (by simpa using List.all_eq_true.mp hs k hj)
end
def compM (set : Env → D → Option Env) (test : MT) (elt : ME) (env0 : Env) : List D → DS → Res (List D × DS)
  | [], S => .ok ([], S)
  | d :: ds, S => match set env0 d with
    | none => .bad
    | some env1 => bindM (noX (test env1 S)) fun k S1 => if k = true then bindM (noX (elt env1 S1)) fun y S2 => bindM (compM set test elt env0 ds S2) fun ys S3 => .ok (y :: ys, S3) else compM set test elt env0 ds S1
def lcM (set : Env → D → Option Env) (f : ME) (test : MT) (elt : ME) (vs : List Nat) : ME := fun env S => bindM (f env S) fun d S1 => match d with
  | .lst ds => bindM (compM set test elt (wipeE env vs) ds S1) fun ys S2 => .ok (.lst ys, S2)
  | .tup ds => bindM (compM set test elt (wipeE env vs) ds S1) fun ys S2 => .ok (.lst ys, S2)
  | .scr ns => if ns.length ≤ 1000000 then bindM (compM set test elt (wipeE env vs) (ns.map D.int) S1) fun ys S2 => .ok (.lst ys, S2) else .bad
  | _ => .bad
section
variable {X : Cx} {b : Bc} {E : XK} {e tg iter elt : Expr} {ifs : List Expr} {f fe : ME} {test : MT} {pos : Pos} {gt : TG} {set : Env → D → Option Env} {js : List Nat}
theorem Post.noX {α : Type} {O F : Hp} {x : Res (α × DS)} {k : α → DS → Hp → Hp → Prop} (h : Post b E O F (noX x) k) : Post b XF O F x k := by
  cases x with
  | ok p => obtain ⟨a, S'⟩ := p; exact h
  | exc n f fs S' => exact False.elim h
  | bad => exact False.elim h
theorem tYes_ok {X : Cx} : PTs X [] (tT b XF (fun _ S => .ok (true, S))) := ⟨fun pins s σ H Q I ⟨F0, O0, F, O, env, S, P, h⟩ => pts_nil.run pins s σ H Q I (h F H (Same.refl _) P.fit P.inv)⟩
theorem tOne_ok {X : Cx} {c : Expr} (h : PT X c (tT b XF test)) : PTs X [c] (tT b XF test) := pts_one h
theorem bindM_assoc {α β γ : Type} (x : Res (α × DS)) (g : α → DS → Res (β × DS)) (k : β → DS → Res γ) : bindM (bindM x g) k = bindM x fun a S => bindM (g a S) k := by
  cases x with
  | ok p => rfl
  | exc _ _ _ _ => rfl
  | bad => rfl
theorem Post.moreO {α : Type} {O O' F : Hp} {x : Res (α × DS)} {k : α → DS → Hp → Hp → Prop} (h : Post b XF O F x k) (e : Same O O') : Post b XF O' F x k := by
  cases x with
  | ok p => obtain ⟨a, S'⟩ := p; exact fun F' H' s fit I => h F' H' s (fit.less e) I
  | exc n f fs S' => exact fun cls dd F' H' s fit I x => h cls dd F' H' s (fit.less e) I x
  | bad => exact h
theorem FitB.out {b : Bc} {F O H : Hp} {S : DS} {D0 : Addr} {u : HO} (h : FitB b F (upd O D0 u) S H) (hO : O D0 = none) : FitB b F O S (del H D0) := by
  obtain ⟨T0, tp, fit2⟩ := h
  have eO : Same O (upd O D0 u) := same_upd hO
  have n2 : F D0 = none := fit2.fo D0 (by rw [upd_same]; simp)
  have nT : (b.T S T0) D0 = none := by
    cases e : (b.T S T0) D0 with
    | none => rfl
    | some u => have := fit2.ot D0 (by rw [e]; simp); rw [upd_same] at this; cases this
  have ne : ∀ {G : Hp} {a : Addr} {u : HO}, G D0 = none → G a = some u → a ≠ D0 := fun {G a u} n h z => by subst z; rw [n] at h; cases h
  refine ⟨T0, tp, fun a u h => ?_, fun a u h => ?_, fun a u h => ?_, (fit2.less eO).fo, fit2.ft, (fit2.less eO).ot, fit2.nt, (fit2.less eO).ld⟩
  · unfold del; rw [if_neg (ne n2 h)]; exact fit2.f a u h
  · unfold del; rw [if_neg (ne hO h)]; exact fit2.o a u (eO a u h)
  · unfold del; rw [if_neg (ne nT h)]; exact fit2.t a u h
structure Cmp (b : Bc) (E : XK) (O F1 : Hp) (σ : L2.St) (env0 : Env) (K : D → DS → Hp → Hp → Prop) (rest : List D) (go : List D → DS → Res (List D × DS)) (D0 : Addr) (i : Nat) (H : Hp) : Prop where
  ex : ∃ F ys vs S, FitB b F (upd O D0 (.lst vs)) S H ∧ b.I S F ∧ Same F1 F ∧ Dens b.c F ys vs ∧ ys.length ≤ i ∧ Post b E O F (bindM (go rest S) fun zs S2 => .ok (D.lst (ys ++ zs), S2)) K
theorem lc_turn (ht : Tgt b X.K gt set js) {F0 O0 O F1 H H' : Hp} {σ : L2.St} {env : Env} {S : DS} {vs : List Nat} {K : D → DS → Hp → Hp → Prop} {d : D} {ds : List D} {D0 : Addr} {i : Nat} {v : V} (P : Pre b F0 O0 F1 O H σ env S) (hO : O D0 = none)
    (hv : Den b.c F1 d v) (hvs : vs.all (fun i => !b.own.contains i) = true) (hjs : js.all (fun j => vs.contains j) = true) (hi : i < sizeLine)
    (C : Cmp b E O F1 σ (wipeE env vs) K (d :: ds) (compM set test fe (wipeE env vs)) D0 i H') :
    gt v (L2.wipe σ vs) H' fun σ2 H2 => L2.wipe σ2 vs = L2.wipe σ vs ∧ tT b XF test σ2 H2 fun k H3 => if k = true then tE b XF fe σ2 H3 fun y H4 => ∃ acc, H4 D0 = some (.lst acc) ∧ acc.length < sizeLine ∧ Cmp b E O F1 σ (wipeE env vs) K ds (compM set test fe (wipeE env vs)) D0 (i + 1) (upd H4 D0 (.lst (acc ++ [y])))
      else Cmp b E O F1 σ (wipeE env vs) K ds (compM set test fe (wipeE env vs)) D0 (i + 1) H3 := by
  obtain ⟨F2, ys, us, S2, fit2, I2, s2, hd, hl, hp⟩ := C.ex
  have eO : Same O (upd O D0 (.lst us)) := same_upd hO
  have P2 : Pre b F0 O0 F2 (upd O D0 (.lst us)) H' σ env S2 := by
    refine ⟨fit2, P.f0.trans s2, P.o0.trans eO, I2, fun i d h n => ?_, fun i d h n => ?_, P.sep, P.len⟩
    · obtain ⟨v, h1, h2⟩ := P.slot i d h n; exact ⟨v, h1, Den.mono s2 _ _ h2⟩
    · obtain ⟨a, h1, h2, h3⟩ := P.slotO i d h n; exact ⟨a, h1, h2.mono s2 (fun o q => eO _ _ q), h3⟩
  have P3 := P2.wipe vs hvs
  unfold compM at hp
  cases hs : set (wipeE env vs) d with
  | none => simp only [hs] at hp; exact False.elim hp
  | some env1 =>
    simp only [hs] at hp
    rw [bindM_assoc] at hp
    refine ht.run F0 O0 F2 _ H' (L2.wipe σ vs) (wipeE env vs) S2 d v env1 _ P3 (Den.mono s2 _ _ hv) hs fun σ2 P4 q4 l4 => ⟨wipe_eq (by rw [l4, L2.wipe_length]) q4 hjs, F0, O0, F2, _, env1, S2, P4, ((Post.noX (Post.bind hp)).moreO eO).imp fun k S3 F3 H3 s3 fit3 I3 hp => ?_⟩
    cases k with
    | true =>
      refine iteT ⟨F0, O0, F3, _, env1, S3, P4.grow s3 fit3 I3, ?_⟩
      rw [if_pos rfl, bindM_assoc] at hp
      refine ((Post.noX (Post.bind hp)).moreO eO).imp fun y S4 F4 H4 s4 fit4 I4 hp w hw => ⟨us, fit4.o D0 _ upd_same, by rw [← hd.length]; omega, F4, ys ++ [y], us ++ [w], S4, ?_, I4, (s2.trans s3).trans s4, (Dens.mono (s3.trans s4) _ _ hd).append (Dens.one hw), by simp; omega, ?_⟩
      · have := fit4.setO (u' := .lst (us ++ [w])) (upd_same (H := O) (a := D0) (o := .lst us))
        rw [upd_upd] at this
        exact this
      · rw [bindM_assoc] at hp
        simpa [bindM, List.append_assoc] using hp
    | false =>
      rw [if_neg Bool.false_ne_true] at hp
      exact iteF ⟨F3, ys, us, S3, fit3, I3, s2.trans s3, Dens.mono s3 _ _ hd, by omega, hp⟩
theorem lc_end {O F1 H' : Hp} {σ : L2.St} {env : Env} {Q : VK} {vs : List Nat} {D0 : Addr} {i : Nat} (hO : O D0 = none) (hF : F1 D0 = none) (hz : i ≤ sizeLine)
    (C : Cmp b E O F1 σ (wipeE env vs) (fun d S' F' H' => ∀ p o, H' p = none → ObjD b.c F' d o → Q (.ref p) (upd H' p o)) [] (compM set test fe (wipeE env vs)) D0 i H') : Q (.ref D0) H' := by
  obtain ⟨F2, ys, us, S2, fit2, I2, s2, hd, hl, hp⟩ := C.ex
  have eO : Same O (upd O D0 (.lst us)) := same_upd hO
  have n2 : F2 D0 = none := fit2.fo D0 (by rw [upd_same]; simp)
  have hH : H' D0 = some (.lst us) := fit2.o D0 _ upd_same
  have e : upd (del H' D0) D0 (.lst us) = H' := by
    funext a
    by_cases h : a = D0
    · subst h; rw [upd_same, hH]
    · rw [upd_ne h]; unfold del; rw [if_neg h]
  have fit : FitB b F2 O S2 (del H' D0) := fit2.out hO
  have k := hp F2 (del H' D0) (Same.refl _) fit I2 D0 (.lst us) (by unfold del; rw [if_pos rfl]) ⟨us, rfl, by simp; omega, by simpa using hd⟩
  rw [e] at k
  exact k
theorem lc_begin {O F1 H1 : Hp} {σ : L2.St} {env : Env} {S1 : DS} {Q : VK} {vs : List Nat} {D0 : Addr} {ds : List D} (fit1 : FitB b F1 O S1 H1) (I1 : b.I S1 F1) (hD : H1 D0 = none)
    (k : Post b E O F1 (bindM (compM set test fe (wipeE env vs) ds S1) fun ys S2 => .ok (D.lst ys, S2)) (fun d S' F' H' => ∀ p o, H' p = none → ObjD b.c F' d o → Q (.ref p) (upd H' p o))) :
    Cmp b E O F1 σ (wipeE env vs) (fun d S' F' H' => ∀ p o, H' p = none → ObjD b.c F' d o → Q (.ref p) (upd H' p o)) ds (compM set test fe (wipeE env vs)) D0 0 (upd H1 D0 (.lst [])) :=
  ⟨F1, [], [], S1, fit1.newO hD, I1, Same.refl _, rfl, Nat.le_refl _, k⟩
theorem PE.or {t1 t2 : TE} (h1 : PE X e t1) (h2 : PE X e t2) : PE X e (fun σ H Q => t1 σ H Q ∨ t2 σ H Q) := ⟨fun pins s σ H Q I h => h.elim (h1.run pins s σ H Q I) (h2.run pins s σ H Q I)⟩
abbrev iSeqs (K : PySem.W.Frag) (t : TE) (k : TI → TE) : TE := fun σ H Q => k (iList K t) σ H Q ∨ k (iTup K t) σ H Q
theorem lc_imp {vs : List Nat} (hK : b.c.K = X.K) (ht : Tgt b X.K gt set js) (hvs : vs.all (fun i => !b.own.contains i) = true) (hjs : js.all (fun j => vs.contains j) = true) :
    ∀ σ H Q, tN b E (lcM set f test fe vs) σ H Q → iSeqs X.K (tB b E f) (fun wi => tLc wi gt (tT b XF test) (tE b XF fe) vs) σ H Q := fun σ H Q ⟨F0, O0, F, O, env, S, P, h⟩ => by
    have hb := Post.bind h
    cases hr : f env S with
    | bad => rw [hr] at hb; exact False.elim hb
    | exc n f' fs S' =>
      rw [hr] at hb
      refine .inl ⟨F0, O0, F, O, env, S, P, ?_⟩
      rw [hr]
      exact hb
    | ok p =>
      obtain ⟨d, S1⟩ := p
      cases d with
      | lst ds =>
        refine .inl ⟨F0, O0, F, O, env, S, P, ?_⟩
        rw [hr] at hb ⊢
        intro F1 H1 s1 fit1 I1 v hv
        have k := hb F1 H1 s1 fit1 I1
        obtain ⟨a, us, rfl, h1, z, h2⟩ := hv
        refine ⟨a, rfl, ⟨us, SqL_of (h1.elim (fit1.f _ _) (fit1.o _ _))⟩, fun D0 hD => ?_⟩
        have nO := upd_none fit1.o hD
        have nF := upd_none fit1.f hD
        have P1 := P.grow s1 fit1 I1
        refine lc_list (K := X.K) (xs := us) (fun i H' => Cmp b E O F1 σ (wipeE env vs) (fun d S' F' H' => ∀ p o, H' p = none → ObjD b.c F' d o → Q (.ref p) (upd H' p o)) (ds.drop i) (compM set test fe (wipeE env vs)) D0 i H')
          (lc_begin fit1 I1 hD k) (fun i H' _ C => ?_) (fun i x H' hx C => ?_) (fun H' C => ?_)
        · obtain ⟨F2, ys, ws, S2, fit2, _, s2, _⟩ := C.ex
          refine SqL_of (h1.elim (fun q => fit2.f _ _ (s2 _ _ q)) fun q => fit2.o _ _ (same_upd nO _ _ q))
        · obtain ⟨d, e1, e2⟩ := Dens.get h2 hx
          rw [drop_at e1] at C
          have hlt := (List.getElem?_eq_some_iff.mp e1).1
          exact lc_turn ht P1 nO e2 hvs hjs (by omega) C
        · rw [← h2.length, List.drop_length] at C
          exact lc_end nO nF z C
      | tup ds =>
        refine .inr ⟨F0, O0, F, O, env, S, P, ?_⟩
        rw [hr] at hb ⊢
        intro F1 H1 s1 fit1 I1 v hv
        have k := hb F1 H1 s1 fit1 I1
        obtain ⟨a, us, rfl, h1, z, h2⟩ := hv
        rw [hK] at h1
        refine ⟨a, rfl, ⟨us, sqT_mono fit1.f h1⟩, fun D0 hD => ?_⟩
        have nO := upd_none fit1.o hD
        have nF := upd_none fit1.f hD
        have P1 := P.grow s1 fit1 I1
        refine lc_tup (K := X.K) (xs := us) (fun i H' => Cmp b E O F1 σ (wipeE env vs) (fun d S' F' H' => ∀ p o, H' p = none → ObjD b.c F' d o → Q (.ref p) (upd H' p o)) (ds.drop i) (compM set test fe (wipeE env vs)) D0 i H')
          (lc_begin fit1 I1 hD k) (fun i H' _ C => ?_) (fun i x H' hx C => ?_) (fun H' C => ?_)
        · obtain ⟨F2, ys, ws, S2, fit2, _, s2, _⟩ := C.ex
          exact sqT_mono fit2.f (sqT_mono s2 h1)
        · obtain ⟨d, e1, e2⟩ := Dens.get h2 hx
          rw [drop_at e1] at C
          have hlt := (List.getElem?_eq_some_iff.mp e1).1
          exact lc_turn ht P1 nO e2 hvs hjs (by omega) C
        · rw [← h2.length, List.drop_length] at C
          exact lc_end nO nF z C
      | scr ns =>
        refine .inl ⟨F0, O0, F, O, env, S, P, ?_⟩
        rw [hr] at hb ⊢
        intro F1 H1 s1 fit1 I1 v hv
        have k := hb F1 H1 s1 fit1 I1
        by_cases hz : ns.length ≤ 1000000
        · simp only [if_pos hz] at k
          obtain ⟨a, rfl, h1⟩ := hv
          rw [hK] at h1
          have h2 : Dens b.c F1 (ns.map D.int) (ns.map V.int) := Dens.of_ints ns
          have z : (ns.map D.int).length ≤ sizeLine := by rw [List.length_map]; exact Nat.le_trans hz million
          refine ⟨a, rfl, ⟨_, fit1.f.seq h1⟩, fun D0 hD => ?_⟩
          have nO := upd_none fit1.o hD
          have nF := upd_none fit1.f hD
          have P1 := P.grow s1 fit1 I1
          refine lc_list (K := X.K) (xs := ns.map V.int) (fun i H' => Cmp b E O F1 σ (wipeE env vs) (fun d S' F' H' => ∀ p o, H' p = none → ObjD b.c F' d o → Q (.ref p) (upd H' p o)) ((ns.map D.int).drop i) (compM set test fe (wipeE env vs)) D0 i H')
            (lc_begin fit1 I1 hD k) (fun i H' _ C => ?_) (fun i x H' hx C => ?_) (fun H' C => ?_)
          · obtain ⟨F2, ys, ws, S2, fit2, _, s2, _⟩ := C.ex
            exact fit2.f.seq (s2.seq h1)
          · obtain ⟨d, e1, e2⟩ := Dens.get h2 hx
            rw [drop_at e1] at C
            have hlt := (List.getElem?_eq_some_iff.mp e1).1
            exact lc_turn ht P1 nO e2 hvs hjs (by omega) C
          · rw [← h2.length, List.drop_length] at C
            exact lc_end nO nF z C
        · simp only [if_neg hz] at k
          exact False.elim k
      | _ =>
        refine .inl ⟨F0, O0, F, O, env, S, P, ?_⟩
        rw [hr] at hb ⊢
        exact fun F1 H1 s1 fit1 I1 v hv => False.elim (hb F1 H1 s1 fit1 I1)
theorem n_lc {vs : List Nat} (hK : b.c.K = X.K) (ht : Tgt b X.K gt set js) (hvs : vs.all (fun i => !b.own.contains i) = true) (hjs : js.all (fun j => vs.contains j) = true)
    (h : ∀ wi, PI X tg iter wi → PE X e (tLc wi gt (tT b XF test) (tE b XF fe) vs)) (hi : PE X iter (tB b E f)) : PE X e (tN b E (lcM set f test fe vs)) :=
  PE.imp (PE.or (h _ (pi_list hi)) (h _ (pi_tup hi))) (lc_imp hK ht hvs hjs)
theorem PS.or {st : Stmt} {t1 t2 : TS} (h1 : PS X st t1) (h2 : PS X st t2) : PS X st (fun D σ H => t1 D σ H ∨ t2 D σ H) := ⟨fun pins s σ H D I h => h.elim (h1.run pins s σ H D I) (h2.run pins s σ H D I)⟩
theorem s_lcO {st : Stmt} {vs : List Nat} (i : Nat) (ho : b.own.contains i = true) (hK : b.c.K = X.K) (ht : Tgt b X.K gt set js) (hvs : vs.all (fun i => !b.own.contains i) = true) (hjs : js.all (fun j => vs.contains j) = true)
    (h : ∀ wi, PI X tg iter wi → PS X st (tAsg (tLc wi gt (tT b XF test) (tE b XF fe) vs) (gName i))) (hi : PE X iter (tB b E f)) : PS X st (tS b E (asgS i (lcM set f test fe vs))) :=
  PS.imp (PS.or (h _ (pi_list hi)) (h _ (pi_tup hi))) fun Dn σ H ⟨F0, O0, F, O, env, S, P, h⟩ => lc_imp hK ht hvs hjs σ H _ ⟨F0, O0, F, O, env, S, P, (PostS.bind h P.f0 P.o0).imp fun d S1 F1 H1 s1 fit1 I1 k p o hp hd => k _ F1 _ _ ((P.grow s1 fit1 I1).setO (by simpa using ho) hp hd)⟩
theorem nE_imp {g : ME} : ∀ σ H Q, tE b E g σ H Q → tN b E g σ H Q := fun σ H Q ⟨F0, O0, F, O, env, S, P, h⟩ => ⟨F0, O0, F, O, env, S, P, by
  revert h
  cases hr : g env S with
  | ok r =>
    obtain ⟨d, S'⟩ := r
    intro h F' H' s fit I p o hp ho
    have nF := upd_none fit.f hp
    exact h (upd F' p o) (upd H' p o) (s.trans (same_upd nF)) (fit.new hp ho.ld.nt) (I.mono (same_upd nF)) _ (ho.den nF)
  | exc n f fs S' => exact fun h => h
  | bad => exact fun h => h⟩
theorem s_lc {st : Stmt} {vs : List Nat} (i : Nat) (ho : b.own.contains i = false) (hK : b.c.K = X.K) (ht : Tgt b X.K gt set js) (hvs : vs.all (fun i => !b.own.contains i) = true) (hjs : js.all (fun j => vs.contains j) = true)
    (h : ∀ wi, PI X tg iter wi → PS X st (tAsg (tLc wi gt (tT b XF test) (tE b XF fe) vs) (gName i))) (hi : PE X iter (tB b E f)) : PS X st (tS b E (asgS i (lcM set f test fe vs))) :=
  PS.imp (PS.or (h _ (pi_list hi)) (h _ (pi_tup hi))) fun Dn σ H ⟨F0, O0, F, O, env, S, P, h⟩ => lc_imp hK ht hvs hjs σ H _ (nE_imp σ H _ ⟨F0, O0, F, O, env, S, P, (PostS.bind h P.f0 P.o0).imp fun d S1 F1 H1 s1 fit1 I1 k v hv => k _ F1 O H1 ((P.grow s1 fit1 I1).set (by simpa using ho) hv)⟩)
end
end VS
namespace VS
open PySem PySem.Spec PyProof.Rows L2
inductive Kd where
  | int | bool | str | tuple | list | dict | seq
def isKb : Kd → D → Bool
  | .int, .int _ => true
  | .int, .bl _ => true
  | .bool, .bl _ => true
  | .str, .str _ => true
  | .tuple, .tup _ => true
  | .list, .lst _ => true
  | .dict, .dct _ _ => true
  | .seq, .lst _ => true
  | .seq, .tup _ => true
  | _, _ => false
def tyN : D → Option String
  | .non => some "NoneType"
  | .bl _ => some "bool"
  | .int _ => some "int"
  | .str _ => some "str"
  | .tup _ => some "tuple"
  | .lst _ => some "list"
  | .dct _ _ => some "dict"
  | _ => none
def gIs (k : Kd) (d : D) : Option D := match d with
  | .non => some (.bl (isKb k .non))
  | .bl x => some (.bl (isKb k (.bl x)))
  | .int x => some (.bl (isKb k (.int x)))
  | .str x => some (.bl (isKb k (.str x)))
  | .tup x => some (.bl (isKb k (.tup x)))
  | .lst x => some (.bl (isKb k (.lst x)))
  | .dct x y => some (.bl (isKb k (.dct x y)))
  | _ => none
section
variable {c : Dc}
theorem tyx_of {F O T H : Hp} (fit : Fits F O T H) {d : D} {v : V} {t : String} (h : DenB c F O d v) (e : tyN d = some t) : TyX c.K H v (.type t) := by
  cases d with
  | non => cases e; cases (show v = .non from h); exact .base .non
  | bl x => cases e; cases (show v = .bl x from h); exact .base (.bl x)
  | int x => cases e; cases (show v = .int x from h); exact .base (.int x)
  | str x => cases e; cases (show v = .str x from h); exact .base (.str x)
  | tup ds =>
    cases e
    obtain ⟨a, vs, rfl, h1, _, _⟩ := h
    rcases h1 with (h1 | ⟨o, h1⟩) | ⟨o, its, n, h1, h2, _⟩
    · exact .base (.tup (fit.f _ _ h1))
    · exact .fTuple (fit.f _ _ h1)
    · exact .kTuple h1 h2
  | lst ds =>
    cases e
    obtain ⟨a, vs, rfl, h1, _, _⟩ := h
    exact .base (.lst (h1.elim (fit.f _ _) (fit.o _ _)))
  | dct ks ds =>
    cases e
    obtain ⟨a, vs, rfl, h1, _, _⟩ := h
    exact .base (.dK (h1.elim (fit.f _ _) (fit.o _ _)))
  | _ => cases e
def nmK : Kd → String
  | .int => "int" | .bool => "bool" | .str => "str" | .tuple => "tuple" | .list => "list" | .dict => "dict" | .seq => "list"
theorem kit1 (k : Kd) (hk : k ≠ .seq) {d : D} {t : String} (e : tyN d = some t) : kitB t (nmK k) = some (isKb k d) := by
  cases d <;> cases e <;> cases k <;> first | exact absurd rfl hk | (show _ = some true; decide +kernel) | (show _ = some false; decide +kernel)
theorem kit2 {K : PySem.W.Frag} {d : D} {t : String} (e : tyN d = some t) : PySem.W.kitAny K (.type t) [.type "list", .type "tuple"] = some (isKb .seq d) := by
  cases d <;> cases e
  · exact kitAny_cons (b := false) (kit_ty (by decide +kernel)) (fun _ => kitAny_cons (b := false) (kit_ty (by decide +kernel)) (fun _ => rfl) (fun h => by cases h)) (fun h => by cases h)
  · exact kitAny_cons (b := false) (kit_ty (by decide +kernel)) (fun _ => kitAny_cons (b := false) (kit_ty (by decide +kernel)) (fun _ => rfl) (fun h => by cases h)) (fun h => by cases h)
  · exact kitAny_cons (b := false) (kit_ty (by decide +kernel)) (fun _ => kitAny_cons (b := false) (kit_ty (by decide +kernel)) (fun _ => rfl) (fun h => by cases h)) (fun h => by cases h)
  · exact kitAny_cons (b := false) (kit_ty (by decide +kernel)) (fun _ => kitAny_cons (b := false) (kit_ty (by decide +kernel)) (fun _ => rfl) (fun h => by cases h)) (fun h => by cases h)
  · exact kitAny_cons (b := false) (kit_ty (by decide +kernel)) (fun _ => kitAny_cons (b := true) (kit_ty (by decide +kernel)) (fun h => by cases h) (fun _ => rfl)) (fun h => by cases h)
  · exact kitAny_cons (b := true) (kit_ty (by decide +kernel)) (fun h => by cases h) (fun _ => rfl)
  · exact kitAny_cons (b := false) (kit_ty (by decide +kernel)) (fun _ => kitAny_cons (b := false) (kit_ty (by decide +kernel)) (fun _ => rfl) (fun h => by cases h)) (fun h => by cases h)
theorem gIs_some {k : Kd} {d d' : D} (h : gIs k d = some d') : ∃ t, tyN d = some t ∧ d' = .bl (isKb k d) := by
  cases d <;> simp only [gIs, Option.some.injEq, reduceCtorEq] at h <;> exact ⟨_, rfl, h.symm⟩
end
section
variable {X : Cx} {b : Bc} {E : XK} {e e1 : Expr} {f1 : ME}
theorem e_isi (k : Kd) (hk : k ≠ .seq) (hK : b.c.K = X.K) (h : ∀ te, PE X e1 te → PE X e (tCB (rIsi X.K) (tCons te (tCons (tC (.ty (nmK k))) tNil)))) (h1 : PE X e1 (tB b E f1)) : PE X e (tE b E (unM (gIs k) f1)) :=
  PE.imp (h _ h1) fun σ H Q ⟨F0, O0, F, O, env, S, P, h⟩ => ⟨F0, O0, F, O, env, S, P, (Post.bind h).imp fun d S1 F1 H1 s1 fit1 I1 k' v hv => by
    obtain ⟨d', e', k'⟩ := Post.ofO k'
    obtain ⟨t, ht, rfl⟩ := gIs_some e'
    have tx := tyx_of fit1.choose_spec.2 hv ht
    rw [hK] at tx
    exact ⟨v, .ty (nmK k), .type t, .type (nmK k), isKb k d, rfl, .ty _, tx, kit_ty (kit1 k hk ht), k' F1 H1 (Same.refl _) fit1 I1 _ rfl⟩⟩
theorem e_isq (hK : b.c.K = X.K) (h : ∀ te, PE X e1 te → PE X e (tCB (rIsiT X.K) (tCons te (tCons (tTup (tCons (tC (.ty "list")) (tCons (tC (.ty "tuple")) tNil))) tNil)))) (h1 : PE X e1 (tB b E f1)) : PE X e (tE b E (unM (gIs .seq) f1)) :=
  PE.imp (h _ h1) fun σ H Q ⟨F0, O0, F, O, env, S, P, h⟩ => ⟨F0, O0, F, O, env, S, P, (Post.bind h).imp fun d S1 F1 H1 s1 fit1 I1 k' v hv => by
    obtain ⟨d', e', k'⟩ := Post.ofO k'
    obtain ⟨t, ht, rfl⟩ := gIs_some e'
    refine ⟨by show 2 ≤ sizeLine; rw [sizeLine_eq]; decide, fun p hp => ?_⟩
    have nF := upd_none fit1.f hp
    have fit2 := fit1.new (u := .tup [V.ty "list", V.ty "tuple"]) hp
    have tx := tyx_of fit2.choose_spec.2 (hv.mono (same_upd nF) (Same.refl _)) ht
    rw [hK] at tx
    exact ⟨v, p, [.ty "list", .ty "tuple"], .type t, [.type "list", .type "tuple"], isKb .seq d, rfl, upd_same, .cons (.ty _) (.cons (.ty _) .nil), tx, kit2 ht, k' _ _ (same_upd nF) fit2 (I1.mono (same_upd nF)) _ rfl⟩⟩
end
def keyD : D → Option Key
  | .int i => some (.inl i)
  | .str x => some (.inr x)
  | _ => none
def dlook : List Key → List D → Key → Option D
  | k' :: ks, x :: xs, k => if k' = k then some x else dlook ks xs k
  | _, _, _ => none
def drepl : List Key → List D → Key → D → List D
  | k' :: ks, x :: xs, k, d => (if k' = k then d else x) :: drepl ks xs k d
  | _, _, _, _ => []
def dhas (ks : List Key) (k : Key) : Bool := ks.any fun k' => decide (k' = k)
def dputK (ks : List Key) (k : Key) : List Key := if dhas ks k = true then ks else ks ++ [k]
def dputV (ks : List Key) (xs : List D) (k : Key) (d : D) : List D := if dhas ks k = true then drepl ks xs k d else xs ++ [d]
section
variable {c : Dc} {F : Hp}
theorem keyD_den {d : D} {v : V} {k : Key} (h : Den c F d v) (e : keyD d = some k) : v = kV k := by
  cases d <;> simp only [keyD, reduceCtorEq, Option.some.injEq] at e
  · subst e; exact h
  · subst e; exact h
theorem dlook_val : ∀ {kv : List (Key × V)} {ks : List Key} {xs : List D} {k : Key}, kv.map (·.1) = ks → Dens c F xs (kv.map (·.2)) → (∀ d, dlook ks xs k = some d → ∃ v, valV kv k = some v ∧ Den c F d v) ∧ (dlook ks xs k = none → valV kv k = none)
  | [], _, xs, k, h1, h2 => by
    cases h1
    exact ⟨fun d h => by simp [dlook] at h, fun _ => rfl⟩
  | (k0, v0) :: kv, _, [], k, h1, h2 => by simp [Dens] at h2
  | (k0, v0) :: kv, _, x :: xs, k, h1, h2 => by
    cases h1
    simp only [List.map_cons, Dens, List.cons.injEq] at h2
    obtain ⟨v, r, ⟨rfl, rfl⟩, h3, h4⟩ := h2
    have ih := dlook_val (kv := kv) (k := k) rfl h4
    simp only [dlook, List.map_cons]
    by_cases e : k0 = k
    · rw [if_pos e]
      exact ⟨fun d q => ⟨v0, valV_pos e, by cases q; exact h3⟩, fun q => by cases q⟩
    · rw [if_neg e, valV_neg e]
      exact ih
theorem dget_of {a : Addr} {kv : List (Key × V)} {k : Key} {H : Hp} (h : H a = some (.dK kv)) : DGet H a (kV k) (valV kv k) := DGet.k h
end
theorem drepl_den {c : Dc} {F : Hp} {k : Key} {d : D} {v : V} (hv : Den c F d v) : ∀ {kv : List (Key × V)} {ks : List Key} {xs : List D}, kv.map (·.1) = ks → Dens c F xs (kv.map (·.2)) → Dens c F (drepl ks xs k d) ((kv.map (fun p => if p.1 = k then (p.1, v) else p)).map (·.2))
  | [], _, xs, h1, h2 => by
    cases h1
    simp only [List.map_nil] at h2
    cases xs with
    | nil => simp [drepl, Dens]
    | cons x xs => simp [Dens] at h2
  | (k0, v0) :: kv, _, [], h1, h2 => by simp [Dens] at h2
  | (k0, v0) :: kv, _, x :: xs, h1, h2 => by
    cases h1
    simp only [List.map_cons, Dens, List.cons.injEq] at h2
    obtain ⟨w, r, ⟨rfl, rfl⟩, h3, h4⟩ := h2
    have ih := drepl_den (k := k) hv (kv := kv) rfl h4
    simp only [List.map_cons, drepl]
    by_cases e : k0 = k
    · rw [if_pos e, if_pos e]; exact ⟨_, _, rfl, hv, ih⟩
    · rw [if_neg e, if_neg e]; exact ⟨_, _, rfl, h3, ih⟩
theorem dput_den {c : Dc} {F : Hp} {k : Key} {d : D} {v : V} {kv : List (Key × V)} {ks : List Key} {xs : List D} (h1 : kv.map (·.1) = ks) (h2 : Dens c F xs (kv.map (·.2))) (hv : Den c F d v) :
    (putK kv k v).map (·.1) = dputK ks k ∧ Dens c F (dputV ks xs k d) ((putK kv k v).map (·.2)) := by
  have e : (kv.any fun p => decide (p.1 = k)) = dhas ks k := by
    rw [← h1, dhas, List.any_map]; rfl
  unfold putK dputK dputV
  rw [e]
  cases dhas ks k with
  | true =>
    rw [if_pos rfl, if_pos rfl, if_pos rfl]
    refine ⟨?_, drepl_den hv h1 h2⟩
    rw [← h1, List.map_map]
    apply List.map_congr_left
    intro p _
    simp only [Function.comp]
    split <;> rfl
  | false =>
    rw [if_neg Bool.false_ne_true, if_neg Bool.false_ne_true, if_neg Bool.false_ne_true]
    rw [List.map_append, List.map_append, h1]
    exact ⟨rfl, h2.append (Dens.one hv)⟩
theorem dputK_len (ks : List Key) (k : Key) : (dputK ks k).length ≤ ks.length + 1 := by
  unfold dputK; split <;> simp
def gGet2 : D → D → D → Option D
  | .dct ks xs, k, x => (keyD k).map fun k => (dlook ks xs k).getD x
  | _, _, _ => none
def get2M (f1 f2 f3 : ME) : ME := fun env S => bindM (f1 env S) fun d S1 => match d with
  | .dct ks xs => bindM (f2 env S1) fun k S2 => bindM (f3 env S2) fun x S3 => ofO (gGet2 (.dct ks xs) k x) S3
  | _ => .bad
section
variable {X : Cx} {b : Bc} {E : XK} {e e1 e2 e3 : Expr} {f1 f2 f3 : ME}
theorem e_get2 (h : ∀ t u w, PE X e1 t → PE X e2 u → PE X e3 w → PE X e (tDGet2 t u w)) (h1 : PE X e1 (tB b E f1)) (h2 : PE X e2 (tE b E f2)) (h3 : PE X e3 (tE b E f3)) : PE X e (tE b E (get2M f1 f2 f3)) :=
  PE.imp (h _ _ _ h1 h2 h3) fun σ H Q ⟨F0, O0, F, O, env, S, P, h⟩ => ⟨F0, O0, F, O, env, S, P, (Post.bind h).imp fun d S1 F1 H1 s1 fit1 I1 k v hv => by
    cases d with
    | dct ks xs =>
      obtain ⟨a, kv, rfl, h1, h2, h3⟩ := hv
      refine ⟨a, rfl, .inl ⟨kv, .inl (h1.elim (fit1.f _ _) (fit1.o _ _))⟩, F0, O0, F1, O, env, S1, P.grow s1 fit1 I1, (Post.bind k).imp fun d2 S2 F2 H2 s2 fit2 I2 k u hu => ⟨F0, O0, F2, O, env, S2, (P.grow s1 fit1 I1).grow s2 fit2 I2, (Post.bind k).imp fun d3 S3 F3 H3 s3 fit3 I3 k w hw => ?_⟩⟩
      obtain ⟨d', e', k⟩ := Post.ofO k
      simp only [gGet2, Option.map_eq_some_iff] at e'
      obtain ⟨k0, ek, rfl⟩ := e'
      obtain ⟨l1, l2⟩ := dlook_val (k := k0) h2 (Dens.mono (s2.trans s3) _ _ h3)
      have hH : H3 a = some (.dK kv) := h1.elim (fun q => fit3.f _ _ (s3 _ _ (s2 _ _ q))) (fit3.o _ _)
      refine ⟨valV kv k0, by rw [keyD_den hu ek]; exact DGet.k hH, ?_⟩
      cases hl : dlook ks xs k0 with
      | none =>
        rw [hl] at k
        rw [l2 hl]
        exact k F3 H3 (Same.refl _) fit3 I3 w hw
      | some x =>
        rw [hl] at k
        obtain ⟨v, e1, e2⟩ := l1 x hl
        rw [e1]
        exact k F3 H3 (Same.refl _) fit3 I3 v e2
    | _ => exact False.elim k⟩
end
end VS
namespace VS
open PySem PySem.Spec PyProof.Rows L2
def compD (set : Env → D → Option Env) (test : MT) (fk fv : ME) (env0 : Env) : List D → List Key → List D → DS → Res (D × DS)
  | [], ks, xs, S => .ok (.dct ks xs, S)
  | d :: ds, ks, xs, S => match set env0 d with
    | none => .bad
    | some env1 => bindM (noX (test env1 S)) fun k S1 => if k = true then bindM (noX (fk env1 S1)) fun y S2 => bindM (noX (fv env1 S2)) fun z S3 => match keyD y with
        | some k => compD set test fk fv env0 ds (dputK ks k) (dputV ks xs k z) S3
        | none => .bad
      else compD set test fk fv env0 ds ks xs S1
def dcM (set : Env → D → Option Env) (f : ME) (test : MT) (fk fv : ME) (vs : List Nat) : ME := fun env S => bindM (f env S) fun d S1 => match d with
  | .lst ds => compD set test fk fv (wipeE env vs) ds [] [] S1
  | .tup ds => compD set test fk fv (wipeE env vs) ds [] [] S1
  | _ => .bad
section
variable {X : Cx} {b : Bc} {E : XK} {e tg iter : Expr} {ifs : List Expr} {f fk fv : ME} {test : MT} {pos : Pos} {gt : TG} {set : Env → D → Option Env} {js : List Nat}
structure CmpD (b : Bc) (E : XK) (O F1 : Hp) (K : D → DS → Hp → Hp → Prop) (go : List Key → List D → DS → Res (D × DS)) (D0 : Addr) (i : Nat) (H : Hp) : Prop where
  ex : ∃ F ks xs kv S, FitB b F (upd O D0 (.dK kv)) S H ∧ b.I S F ∧ Same F1 F ∧ kv.map (·.1) = ks ∧ Dens b.c F xs (kv.map (·.2)) ∧ ks.length ≤ i ∧ Post b E O F (go ks xs S) K
theorem dc_turn (ht : Tgt b X.K gt set js) {F0 O0 O F1 H H' : Hp} {σ : L2.St} {env : Env} {S : DS} {vs : List Nat} {K : D → DS → Hp → Hp → Prop} {d : D} {ds : List D} {D0 : Addr} {i : Nat} {v : V} (P : Pre b F0 O0 F1 O H σ env S) (hO : O D0 = none)
    (hv : Den b.c F1 d v) (hvs : vs.all (fun i => !b.own.contains i) = true) (hjs : js.all (fun j => vs.contains j) = true) (hi : i < sizeLine)
    (C : CmpD b E O F1 K (compD set test fk fv (wipeE env vs) (d :: ds)) D0 i H') :
    gt v (L2.wipe σ vs) H' fun σ2 H2 => L2.wipe σ2 vs = L2.wipe σ vs ∧ tT b XF test σ2 H2 fun k H3 => if k = true then tE b XF fk σ2 H3 fun y H4 => tE b XF fv σ2 H4 fun z H5 => ∃ kvs k, y = kV k ∧ H5 D0 = some (.dK kvs) ∧ kvs.length < sizeLine ∧ CmpD b E O F1 K (compD set test fk fv (wipeE env vs) ds) D0 (i + 1) (upd H5 D0 (.dK (putK kvs k z)))
      else CmpD b E O F1 K (compD set test fk fv (wipeE env vs) ds) D0 (i + 1) H3 := by
  obtain ⟨F2, ks, xs, kv, S2, fit2, I2, s2, hk, hd, hl, hp⟩ := C.ex
  have eO : Same O (upd O D0 (.dK kv)) := same_upd hO
  have P2 : Pre b F0 O0 F2 (upd O D0 (.dK kv)) H' σ env S2 := by
    refine ⟨fit2, P.f0.trans s2, P.o0.trans eO, I2, fun i d h n => ?_, fun i d h n => ?_, P.sep, P.len⟩
    · obtain ⟨v, h1, h2⟩ := P.slot i d h n; exact ⟨v, h1, Den.mono s2 _ _ h2⟩
    · obtain ⟨a, h1, h2, h3⟩ := P.slotO i d h n; exact ⟨a, h1, h2.mono s2 (fun o q => eO _ _ q), h3⟩
  have P3 := P2.wipe vs hvs
  unfold compD at hp
  cases hs : set (wipeE env vs) d with
  | none => simp only [hs] at hp; exact False.elim hp
  | some env1 =>
    simp only [hs] at hp
    refine ht.run F0 O0 F2 _ H' (L2.wipe σ vs) (wipeE env vs) S2 d v env1 _ P3 (Den.mono s2 _ _ hv) hs fun σ2 P4 q4 l4 => ⟨wipe_eq (by rw [l4, L2.wipe_length]) q4 hjs, F0, O0, F2, _, env1, S2, P4, ((Post.noX (Post.bind hp)).moreO eO).imp fun k S3 F3 H3 s3 fit3 I3 hp => ?_⟩
    cases k with
    | true =>
      rw [if_pos rfl] at hp
      refine iteT ⟨F0, O0, F3, _, env1, S3, P4.grow s3 fit3 I3, ((Post.noX (Post.bind hp)).moreO eO).imp fun y S4 F4 H4 s4 fit4 I4 hp w hw => ⟨F0, O0, F4, _, env1, S4, (P4.grow s3 fit3 I3).grow s4 fit4 I4, ((Post.noX (Post.bind hp)).moreO eO).imp fun z S5 F5 H5 s5 fit5 I5 hp u hu => ?_⟩⟩
      cases hy : keyD y with
      | none => simp only [hy] at hp; exact False.elim hp
      | some k =>
        simp only [hy] at hp
        have hd5 : Dens b.c F5 xs (kv.map (·.2)) := Dens.mono ((s3.trans s4).trans s5) _ _ hd
        obtain ⟨p1, p2⟩ := dput_den (k := k) hk hd5 hu
        have hlen : kv.length = ks.length := by rw [← hk]; simp
        refine ⟨kv, k, keyD_den hw hy, fit5.o D0 _ upd_same, by omega, F5, _, _, _, S5, ?_, I5, ((s2.trans s3).trans s4).trans s5, p1, p2, Nat.le_trans (dputK_len ks k) (by omega), hp⟩
        have := fit5.setO (u' := .dK (putK kv k u)) (upd_same (H := O) (a := D0) (o := .dK kv))
        rw [upd_upd] at this
        exact this
    | false =>
      rw [if_neg Bool.false_ne_true] at hp
      exact iteF ⟨F3, ks, xs, kv, S3, fit3, I3, s2.trans s3, hk, Dens.mono s3 _ _ hd, by omega, hp⟩
theorem dc_end {O F1 H' : Hp} {env0 : Env} {Q : VK} {D0 : Addr} {i : Nat} (hO : O D0 = none) 
    (C : CmpD b E O F1 (fun d S' F' H' => ∀ p o, H' p = none → ObjD b.c F' d o → Q (.ref p) (upd H' p o)) (compD set test fk fv env0 []) D0 i H') : Q (.ref D0) H' := by
  obtain ⟨F2, ks, xs, kv, S2, fit2, I2, s2, hk, hd, hl, hp⟩ := C.ex
  have eO : Same O (upd O D0 (.dK kv)) := same_upd hO
  have n2 : F2 D0 = none := fit2.fo D0 (by rw [upd_same]; simp)
  have hH : H' D0 = some (.dK kv) := fit2.o D0 _ upd_same
  have e : upd (del H' D0) D0 (.dK kv) = H' := by
    funext a
    by_cases h : a = D0
    · subst h; rw [upd_same, hH]
    · rw [upd_ne h]; unfold del; rw [if_neg h]
  have fit : FitB b F2 O S2 (del H' D0) := fit2.out hO
  have k := hp F2 (del H' D0) (Same.refl _) fit I2 D0 (.dK kv) (by unfold del; rw [if_pos rfl]) ⟨kv, rfl, hk, hd⟩
  rw [e] at k
  exact k
theorem dc_lst {K : PySem.W.Frag} {a : Addr} {xs : List V} {g : TG} {tt : TT} {tk tv : TE} {vs : List Nat} {σ : L2.St} {H1 : Hp} {D : Addr} {Qd : Hp → Prop} (Pv : Nat → Hp → Prop) (h0 : Pv 0 (upd H1 D (.dK []))) (hl : ∀ i H, i ≤ xs.length → Pv i H → SqL K H a xs)
    (hs : ∀ i x H, xs[i]? = some x → Pv i H → g x (L2.wipe σ vs) H fun σ2 H2 => L2.wipe σ2 vs = L2.wipe σ vs ∧ tt σ2 H2 fun k H3 => if k = true then tk σ2 H3 fun y H4 => tv σ2 H4 fun z H5 => ∃ kvs k, y = kV k ∧ H5 D = some (.dK kvs) ∧ kvs.length < sizeLine ∧ Pv (i + 1) (upd H5 D (.dK (putK kvs k z))) else Pv (i + 1) H3)
    (hd : ∀ H, Pv xs.length H → Qd H) :
    ∃ W : Nat → Nat → Hp → Prop, (∃ m, W 0 m (upd H1 D (.dK []))) ∧ ∀ i m H, W i m H → ((Itl K a).stop i H ∧ Qd H) ∨ ((Itl K a).go i H ∧ ∃ Nx : Hp → Prop, (∀ H', Nx H' → ∃ m', m' < m ∧ W (i + 1) m' H') ∧ ∀ x H', (Itl K a).yld i H x H' → g x (L2.wipe σ vs) H' fun σ2 H2 =>
      L2.wipe σ2 vs = L2.wipe σ vs ∧ tt σ2 H2 fun k H3 => if k = true then tk σ2 H3 fun y H4 => tv σ2 H4 fun z H5 => ∃ kvs k, y = kV k ∧ H5 D = some (.dK kvs) ∧ kvs.length < sizeLine ∧ Nx (upd H5 D (.dK (putK kvs k z))) else Nx H3) :=
  ⟨fun i m H => m = xs.length - i ∧ i ≤ xs.length ∧ Pv i H, ⟨xs.length, by simp, Nat.zero_le _, h0⟩, fun i m H ⟨hm, hi, p⟩ => by
    subst hm
    have q := hl i H hi p
    rcases Nat.lt_or_ge i xs.length with hlt | hge
    · exact .inr ⟨⟨xs, xs[i], q, by simp [hlt]⟩, Pv (i + 1), fun H' p' => ⟨xs.length - (i + 1), by omega, rfl, hlt, p'⟩, fun x H' ⟨e, y⟩ => by rw [e]; exact hs i x H (y xs q) p⟩
    · have e : i = xs.length := by omega
      exact .inl ⟨⟨xs, q, hge⟩, hd H (e ▸ p)⟩⟩
theorem dc_imp {vs : List Nat} (hK : b.c.K = X.K) (ht : Tgt b X.K gt set js) (hvs : vs.all (fun i => !b.own.contains i) = true) (hjs : js.all (fun j => vs.contains j) = true) :
    ∀ σ H Q, tN b E (dcM set f test fk fv vs) σ H Q → tDc (iTup X.K (tB b E f)) gt (tT b XF test) (tE b XF fk) (tE b XF fv) vs σ H Q ∨ tDc (iList X.K (tB b E f)) gt (tT b XF test) (tE b XF fk) (tE b XF fv) vs σ H Q := fun σ H Q ⟨F0, O0, F, O, env, S, P, h⟩ => by
    have hb := Post.bind h
    cases hr : f env S with
    | bad => rw [hr] at hb; exact False.elim hb
    | exc n f' fs S' =>
      rw [hr] at hb
      refine .inl ⟨F0, O0, F, O, env, S, P, ?_⟩
      rw [hr]
      exact hb
    | ok p =>
      obtain ⟨d, S1⟩ := p
      cases d with
      | tup ds =>
        refine .inl ⟨F0, O0, F, O, env, S, P, ?_⟩
        rw [hr] at hb ⊢
        intro F1 H1 s1 fit1 I1 v hv
        have k := hb F1 H1 s1 fit1 I1
        obtain ⟨a, us, rfl, h1, z, h2⟩ := hv
        rw [hK] at h1
        refine ⟨a, rfl, ⟨us, sqT_mono fit1.f h1⟩, fun D0 hD => ?_⟩
        have nO := upd_none fit1.o hD
        have P1 := P.grow s1 fit1 I1
        refine dc_tup (K := X.K) (xs := us) (fun i H' => CmpD b E O F1 (fun d S' F' H' => ∀ p o, H' p = none → ObjD b.c F' d o → Q (.ref p) (upd H' p o)) (compD set test fk fv (wipeE env vs) (ds.drop i)) D0 i H')
          ⟨F1, [], [], [], S1, fit1.newO hD, I1, Same.refl _, rfl, rfl, Nat.le_refl _, k⟩ (fun i H' _ C => ?_) (fun i x H' hx C => ?_) (fun H' C => ?_)
        · obtain ⟨F2, _, _, _, S2, fit2, _, s2, _⟩ := C.ex
          exact sqT_mono fit2.f (sqT_mono s2 h1)
        · obtain ⟨d, e1, e2⟩ := Dens.get h2 hx
          rw [drop_at e1] at C
          have hlt := (List.getElem?_eq_some_iff.mp e1).1
          exact dc_turn ht P1 nO e2 hvs hjs (by omega) C
        · rw [← h2.length, List.drop_length] at C
          exact dc_end nO C
      | lst ds =>
        refine .inr ⟨F0, O0, F, O, env, S, P, ?_⟩
        rw [hr] at hb ⊢
        intro F1 H1 s1 fit1 I1 v hv
        have k := hb F1 H1 s1 fit1 I1
        obtain ⟨a, us, rfl, h1, z, h2⟩ := hv
        refine ⟨a, rfl, ⟨us, SqL_of (h1.elim (fit1.f _ _) (fit1.o _ _))⟩, fun D0 hD => ?_⟩
        have nO := upd_none fit1.o hD
        have P1 := P.grow s1 fit1 I1
        refine dc_lst (K := X.K) (xs := us) (fun i H' => CmpD b E O F1 (fun d S' F' H' => ∀ p o, H' p = none → ObjD b.c F' d o → Q (.ref p) (upd H' p o)) (compD set test fk fv (wipeE env vs) (ds.drop i)) D0 i H')
          ⟨F1, [], [], [], S1, fit1.newO hD, I1, Same.refl _, rfl, rfl, Nat.le_refl _, k⟩ (fun i H' _ C => ?_) (fun i x H' hx C => ?_) (fun H' C => ?_)
        · obtain ⟨F2, _, _, _, S2, fit2, _, s2, _⟩ := C.ex
          exact SqL_of (h1.elim (fun q => fit2.f _ _ (s2 _ _ q)) fun q => fit2.o _ _ (same_upd nO _ _ q))
        · obtain ⟨d, e1, e2⟩ := Dens.get h2 hx
          rw [drop_at e1] at C
          have hlt := (List.getElem?_eq_some_iff.mp e1).1
          exact dc_turn ht P1 nO e2 hvs hjs (by omega) C
        · rw [← h2.length, List.drop_length] at C
          exact dc_end nO C
      | _ =>
        refine .inl ⟨F0, O0, F, O, env, S, P, ?_⟩
        rw [hr] at hb ⊢
        exact fun F1 H1 s1 fit1 I1 v hv => False.elim (hb F1 H1 s1 fit1 I1)
theorem n_dc {vs : List Nat} (hK : b.c.K = X.K) (ht : Tgt b X.K gt set js) (hvs : vs.all (fun i => !b.own.contains i) = true) (hjs : js.all (fun j => vs.contains j) = true)
    (h : ∀ wi, PI X tg iter wi → PE X e (tDc wi gt (tT b XF test) (tE b XF fk) (tE b XF fv) vs)) (hi : PE X iter (tB b E f)) : PE X e (tN b E (dcM set f test fk fv vs)) :=
  PE.imp (PE.or (h _ (pi_tup hi)) (h _ (pi_list hi))) (dc_imp hK ht hvs hjs)
end
end VS
namespace VS
open PySem PySem.Spec PyProof.Rows L2
section
variable {P : Program} {w : World} {K : PySem.W.Frag} {mg : Str → Option Value} {base : Heap}
abbrev FunDD (K : PySem.W.Frag) (x qual : Str) (st : Stmt) (dvs : List V) (f : Addr) (fd : FuncData) : Prop := FunD K x qual (defArgs st) (defBody st) (defScope st) dvs [] f fd
theorem okPD {x qual : Str} {st : Stmt} {f : Addr} {fd : FuncData} {dvs : List V} {N ps : List Str} {k : Nat} (own : List Nat) {g : MS} {G : List D → RP} (F : FunDD K x qual st dvs f fd) (S : FnScope N ps (defScope st)) (hown : own.all (fun i => decide (ps.length ≤ i)) = true) (hle : ps.length ≤ N.length)
    (hbody : ∀ (cdv : Value) (A : Around) (outer : List PySem.Env) (s : Shared) (H : Hp) (E : XK) (l : Lay) (TP : TPr), Room k (A.deeper (envOfC qual (defScope st) s.heap.objs.size f cdv)) →
      PSs (cxOf (L2.CX P w) P w K mg base N qual (defScope st) f cdv A outer s H E) (defBody st) (tS (bP K mg l TP own) E g))
    (hG : ∀ ds : List D, ds.length = ps.length → endP (g (startE N.length ds) S0) = G ds) : FnOk P w K mg base (L2.CX P w) (k + 1) f fd ps (spP K mg ps.length G) := by
  refine F.ok S (fun vs H Q E h => h.1) fun cdv A outer s H vs Q E hr h => ?_
  obtain ⟨hl, l, Fz, O, T, ds, fit, hd, h⟩ := h
  refine ⟨_, hbody cdv A outer s H E l (exT T) hr, Fz, O, Fz, O, startE N.length ds, S0, pre_start (b := bP K mg l (exT T) own) ⟨T, rfl, fit⟩ (fun q => absurd q Bool.false_ne_true) hd (by rw [hl]; exact hle) (by rw [hl]; exact hown), ?_⟩
  rw [← hG ds (by rw [hd.length]; exact hl)] at h
  revert h
  cases hr : g (startE N.length ds) S0 with
  | ok p =>
    obtain ⟨a, S'⟩ := p
    cases a with
    | nx env' => exact fun h σ' F' O' H' P' => by obtain ⟨_, rfl, q⟩ := P'.fit; exact h _ F' H' P'.f0 (q.less P'.o0) rfl
    | rt d => exact fun h v F' O' H' e1 e2 fit' I' hv => by obtain ⟨_, rfl, q⟩ := fit'; exact h v F' H' e1 (q.less e2) hv
    | bk env' => exact fun h => False.elim h
    | ct env' => exact fun h => False.elim h
  | exc n f fs S' => exact fun h cls dd F' O' H' e1 e2 fit' I' hx => by obtain ⟨_, rfl, q⟩ := fit'; exact h cls dd F' H' e1 (q.less e2) hx
  | bad => exact fun h => False.elim h
end
structure KlsAt (K : PySem.W.Frag) (mg : Str → Option Value) (n : Str) (C : Addr) : Prop where
  g : mg n = some (.ref C)
  x : PySem.W.excIn K C [.type "ValueError", .type "Exception", .type "BaseException", .type "object"] "ValueError.__new__" = true
  k : PySem.W.keepIn K (.ref C) = true
  b : PySem.W.subIn K (.ref C) (.type "BaseException") = some true
  t : PySem.W.typeIn K (.ref C) = some (.type "type")
end VS
namespace VS
open PySem PySem.Spec PyProof.Rows L2
section
variable {b : Bc} {F0 O0 F O H : Hp} {σ : L2.St} {env : Env} {S : DS}
theorem Pre.chg {i : Nat} {a : Addr} {d d' : D} {o o' : HO} (P : Pre b F0 O0 F O H σ env S) (hi : i ∈ b.own) (he : env[i]? = some (some d)) (ha : σ[i]? = some (some (.ref a))) (hO : O a = some o) (hd : ObjD b.c F d' o') :
    Pre b F0 O0 F (upd O a o') (upd H a o') σ (env.set i (some d')) S := by
  obtain ⟨a', h1, _, hO0⟩ := P.slotO i d he hi
  rw [ha] at h1
  cases h1
  refine ⟨P.fit.setO hO hd.ld, P.f0, fun c u q => ?_, P.inv, fun j e h n => ?_, fun j e h n => ?_, fun j k x hj hk e1 e2 h1 h2 => ?_, by simp [P.len]⟩
  · have ne : c ≠ a := fun z => by subst z; rw [hO0] at q; cases q
    rw [upd_ne ne]; exact P.o0 c u q
  · have ne : j ≠ i := fun z => n (z ▸ hi)
    rw [set_ne' ne] at h
    exact P.slot j e h n
  · rcases get_set h with ⟨rfl, q, _⟩ | ⟨ne, h⟩
    · cases q
      exact ⟨a, ha, hd.own upd_same, hO0⟩
    · obtain ⟨x, h1, h2, h3⟩ := P.slotO j e h n
      have nx : x ≠ a := fun z => ne (P.sep j i a n hi ⟨_, h⟩ ⟨_, he⟩ (z ▸ h1) ha)
      exact ⟨x, h1, h2.mono (Same.refl _) (fun u q => by rw [upd_ne nx]; exact q), h3⟩
  · have back : ∀ m, (∃ e : D, (env.set i (some d'))[m]? = some (some e)) → ∃ e : D, env[m]? = some (some e) := fun m h => by
      obtain ⟨e, q⟩ := h
      rcases get_set q with ⟨rfl, _, _⟩ | ⟨_, q⟩
      · exact ⟨d, he⟩
      · exact ⟨e, q⟩
    exact P.sep j k x hj hk (back j e1) (back k e2) h1 h2
theorem Pre.adopt {i : Nat} {p : Addr} {d : D} {o : HO} (P : Pre b F0 O0 F O H σ env S) (hi : i ∈ b.own) (hO : O p = some o) (hO0 : O0 p = none) (hd : ObjD b.c F d o) (hn : ∀ j, j ∈ b.own → (∃ e, env[j]? = some (some e)) → σ[j]? ≠ some (some (.ref p))) :
    Pre b F0 O0 F O H (σ.set i (some (.ref p))) (env.set i (some d)) S := by
  refine ⟨P.fit, P.f0, P.o0, P.inv, fun j e h n => ?_, fun j e h n => ?_, fun j k x hj hk e1 e2 h1 h2 => ?_, by simp [P.len]⟩
  · have ne : j ≠ i := fun z => n (z ▸ hi)
    rw [set_ne' ne] at h ⊢
    exact P.slot j e h n
  · rcases get_set h with ⟨rfl, q, hl⟩ | ⟨ne, h⟩
    · cases q
      exact ⟨p, List.getElem?_set_self (by rw [P.len]; exact hl), hd.own hO, hO0⟩
    · obtain ⟨x, h1, h2, h3⟩ := P.slotO j e h n
      exact ⟨x, by rw [set_ne' ne]; exact h1, h2, h3⟩
  · obtain ⟨d1, e1⟩ := e1
    obtain ⟨d2, e2⟩ := e2
    rcases get_set h1 with ⟨z1, q1, l1⟩ | ⟨n1, h3⟩
    · rcases get_set h2 with ⟨z2, q2, l2⟩ | ⟨n2, h4⟩
      · rw [z1, z2]
      · cases q1
        rw [set_ne' n2] at e2
        exact absurd h4 (hn k hk ⟨d2, e2⟩)
    · rcases get_set h2 with ⟨z2, q2, l2⟩ | ⟨n2, h4⟩
      · cases q2
        rw [set_ne' n1] at e1
        exact absurd h3 (hn j hj ⟨d1, e1⟩)
      · rw [set_ne' n1] at e1
        rw [set_ne' n2] at e2
        exact P.sep j k x hj hk ⟨d1, e1⟩ ⟨d2, e2⟩ h3 h4
theorem Pre.noslot {p : Addr} (P : Pre b F0 O0 F O H σ env S) (hp : O p = none) : ∀ j, j ∈ b.own → (∃ e, env[j]? = some (some e)) → σ[j]? ≠ some (some (.ref p)) := fun j hj h q => by
  obtain ⟨e, h⟩ := h
  obtain ⟨x, h1, h2, _⟩ := P.slotO j e h hj
  rw [h1] at q
  cases q
  exact h2.some hp
theorem Pre.lstAt {i : Nat} {ds : List D} (P : Pre b F0 O0 F O H σ env S) (hi : i ∈ b.own) (he : env[i]? = some (some (.lst ds))) : ∃ a vs, σ[i]? = some (some (.ref a)) ∧ O a = some (.lst vs) ∧ H a = some (.lst vs) ∧ ds.length ≤ sizeLine ∧ Dens b.c F ds vs := by
  obtain ⟨a, h1, ⟨vs, h2, h3, h4⟩, _⟩ := P.slotO i _ he hi
  exact ⟨a, vs, h1, h2, P.fit.o _ _ h2, h3, h4⟩
end
section
variable {X : Cx} {b : Bc} {E : XK} {e e1 e2 : Expr} {es : List Expr} {st : Stmt} {f f1 f2 : ME} {pos : Pos}
def appS (i : Nat) (f : ME) : MS := fun env S => match env[i]? with
  | some (some (.lst ds)) => bindM (f env S) fun d S1 => if ds.length < 1000000 then .ok (.nx (env.set i (some (.lst (ds ++ [d])))), S1) else .bad
  | _ => .bad
theorem s_app (i : Nat) (ho : b.own.contains i = true) (h : ∀ te, PE X e te → PS X st (tDrop (tBM X.K "list" rAppend (tVar i) (tCons te tNil)))) (he : PE X e (tE b E f)) : PS X st (tS b E (appS i f)) :=
  PS.imp (h _ he) fun Dn σ H ⟨F0, O0, F, O, env, S, P, h⟩ => by
    have hi : i ∈ b.own := by simpa using ho
    unfold appS at h
    split at h
    · rename_i ds hg
      obtain ⟨a, vs, h1, h2, h3, hz, hd⟩ := P.lstAt hi hg
      refine ⟨_, h1, .inl ⟨rfl, vs, SqL_of h3⟩, F0, O0, F, O, env, S, P, (PostS.bind h P.f0 P.o0).imp fun d S1 F1 H1 s1 fit1 I1 k v hv => ?_⟩
      by_cases hz : ds.length < 1000000
      · rw [if_pos hz] at k
        have P1 := P.grow s1 fit1 I1
        have hd1 := Dens.mono s1 _ _ hd
        have hm := million
        refine ⟨a, vs, v, rfl, rfl, fit1.o _ _ h2, by rw [← hd1.length]; omega, ?_⟩
        refine k σ F1 _ _ (P1.chg hi hg h1 h2 (d' := .lst (ds ++ [d])) ⟨_, rfl, ?_, hd1.append (Dens.one hv)⟩)
        rw [List.length_append, List.length_singleton]
        omega
      · rw [if_neg hz] at k
        exact False.elim k
    · exact False.elim h
def setS (i : Nat) (fj f : ME) : MS := fun env S => bindM (f env S) fun d S1 => match env[i]? with
  | some (some (.lst ds)) => bindM (fj env S1) fun k S2 => match k with
    | .int k => (match ixN ds.length k with
      | some j => .ok (.nx (env.set i (some (.lst (ds.set j d)))), S2)
      | none => .bad)
    | _ => .bad
  | _ => .bad
theorem s_set (i : Nat) (ho : b.own.contains i = true) (h : ∀ te tj, PE X e te → PE X e1 tj → PS X st (tAsg te (L2.gSub (tVar i) tj rSetL))) (hj : PE X e1 (tE b E f1)) (he : PE X e (tE b E f)) : PS X st (tS b E (setS i f1 f)) :=
  PS.imp (h _ _ he hj) fun Dn σ H ⟨F0, O0, F, O, env, S, P, h⟩ => ⟨F0, O0, F, O, env, S, P, (PostS.bind h P.f0 P.o0).imp fun d S1 F1 H1 s1 fit1 I1 k v hv => by
    have hi : i ∈ b.own := by simpa using ho
    have P1 := P.grow s1 fit1 I1
    split at k
    · rename_i ds hg
      obtain ⟨a, vs, h1, h2, h3, hz, hd⟩ := P1.lstAt hi hg
      refine ⟨_, h1, F0, O0, F1, O, env, S1, P1, (PostS.bind k P1.f0 P1.o0).imp fun kk S2 F2 H2 s2 fit2 I2 k u hu => ?_⟩
      have P2 := P1.grow s2 fit2 I2
      have hd2 := Dens.mono s2 _ _ hd
      cases kk with
      | int kk =>
        cases hq : ixN ds.length kk with
        | none => simp only [hq] at k; exact False.elim k
        | some j =>
          simp only [hq] at k
          refine ⟨a, vs, kk, j, rfl, hu, fit2.o _ _ h2, by rw [← hd2.length]; exact hq, ?_⟩
          exact k σ F2 _ _ (P2.chg hi hg h1 h2 (d' := .lst (ds.set j d)) ⟨_, rfl, by rw [List.length_set]; exact hz, Dens.set (Den.mono s2 _ _ hv) j hd2⟩)
      | _ => exact False.elim k
    · exact False.elim k⟩
def popM (i : Nat) (fj : ME) (k : D → Env → DS → Res (Fl × DS)) : MS := fun env S => match env[i]? with
  | some (some (.lst ds)) => bindM (fj env S) fun j S1 => match j with
    | .int j => if -1000000 ≤ j ∧ j ≤ 1000000 then (match seqIndex? j ds.length with
      | some m => (match ds[m]? with
        | some d => k d (env.set i (some (.lst (ds.eraseIdx m)))) S1
        | none => .bad)
      | none => .bad) else .bad
    | _ => .bad
  | _ => .bad
theorem s_popG (i : Nat) (ho : b.own.contains i = true) {te : TE → TS} {g : TG} {k : D → Env → DS → Res (Fl × DS)} (hte : ∀ t, te t = tAsg t g) (h : ∀ tj, PE X e1 tj → PS X st (te (tBM X.K "list" rPopAt (tVar i) (tCons tj tNil)))) (hj : PE X e1 (tE b E f1))
    (hk : ∀ F0 O0 F O H σ env S d v Dn, Pre b F0 O0 F O H σ env S → Den b.c F d v → PostS b E F0 O0 (k d env S) Dn → g v σ H Dn.nx) : PS X st (tS b E (popM i f1 k)) :=
  PS.imp (h _ hj) fun Dn σ H ⟨F0, O0, F, O, env, S, P, h⟩ => by
    have hi : i ∈ b.own := by simpa using ho
    rw [hte]
    unfold popM at h
    split at h
    · rename_i ds hg
      obtain ⟨a, vs, h1, h2, h3, hz, hd⟩ := P.lstAt hi hg
      refine ⟨_, h1, .inl ⟨rfl, vs, SqL_of h3⟩, F0, O0, F, O, env, S, P, (PostS.bind h P.f0 P.o0).imp fun kk S1 F1 H1 s1 fit1 I1 q u hu => ?_⟩
      have P1 := P.grow s1 fit1 I1
      have hd1 := Dens.mono s1 _ _ hd
      cases kk with
      | int j =>
        by_cases hj : -1000000 ≤ j ∧ j ≤ 1000000
        · simp only [if_pos hj] at q
          cases hm : seqIndex? j ds.length with
          | none => simp only [hm] at q; exact False.elim q
          | some m =>
            simp only [hm] at q
            cases hx : ds[m]? with
            | none => simp only [hx] at q; exact False.elim q
            | some d =>
              simp only [hx] at q
              obtain ⟨v, hv, hv2⟩ := Dens.get' hd1 hx
              refine ⟨a, vs, j, m, v, rfl, by rw [hu], fit1.o _ _ h2, by omega, by omega, by rw [← hd1.length]; exact hm, hv, ?_⟩
              have P2 := P1.chg hi hg h1 h2 (d' := .lst (ds.eraseIdx m)) (o' := .lst (vs.eraseIdx m)) ⟨_, rfl, Nat.le_trans (List.length_eraseIdx_le ds m) hz, Dens.erase m hd1⟩
              exact hk _ _ _ _ _ _ _ _ _ _ _ P2 hv2 q
        · simp only [if_neg hj] at q
          exact False.elim q
      | _ => exact False.elim q
    · exact False.elim h
def nxSet (j : Nat) : D → Env → DS → Res (Fl × DS) := fun d env S => .ok (.nx (env.set j (some d)), S)
def nxUnp (is : List Nat) : D → Env → DS → Res (Fl × DS) := fun d env S => match d with
  | .tup ds => if ds.length = is.length then .ok (.nx (setAll env is ds), S) else .bad
  | _ => .bad
theorem s_pop (i j : Nat) (ho : b.own.contains i = true) (hj' : b.own.contains j = false) (h : ∀ tj, PE X e1 tj → PS X st (tAsg (tBM X.K "list" rPopAt (tVar i) (tCons tj tNil)) (gName j))) (hj : PE X e1 (tE b E f1)) : PS X st (tS b E (popM i f1 (nxSet j))) :=
  s_popG i ho (te := fun t => tAsg t (gName j)) (fun _ => rfl) h hj fun F0 O0 F O H σ env S d v Dn P hv q => q _ F O H (P.set (by simpa using hj') hv)
theorem s_popU (i : Nat) (is : List Nat) (hK : b.c.K = X.K) (ho : b.own.contains i = true) (ho' : is.all (fun i => !b.own.contains i) = true) (h : ∀ tj, PE X e1 tj → PS X st (tAsg (tBM X.K "list" rPopAt (tVar i) (tCons tj tNil)) (gTup X.K is.length (gNames is)))) (hj : PE X e1 (tE b E f1)) : PS X st (tS b E (popM i f1 (nxUnp is))) :=
  s_popG i ho (te := fun t => tAsg t (gTup X.K is.length (gNames is))) (fun _ => rfl) h hj fun F0 O0 F O H σ env S d v Dn P hv q => by
    unfold nxUnp at q
    cases d with
    | tup ds =>
      by_cases hl : ds.length = is.length
      · simp only [if_pos hl] at q
        simp only [Den] at hv
        obtain ⟨a, vs, rfl, hs, hz, hd⟩ := hv
        rw [hK] at hs
        exact ⟨a, vs, rfl, sqT_mono P.fit.f hs, by rw [← hd.length]; exact hl, names_set is ds vs σ env ho' hl hd P fun σ' P' => q σ' F O H P'⟩
      · simp only [if_neg hl] at q
        exact False.elim q
    | _ => exact False.elim q
def parOS (i j : Nat) (f1 f2 : ME) : MS := fun env S => bindM (f1 env S) fun d S1 => bindM (f2 env S1) fun e S2 => .ok (.nx ((env.set i (some d)).set j (some e)), S2)
theorem s_parO (i j : Nat) (hi : b.own.contains i = true) (hj : b.own.contains j = false) (hst : ∀ t1 t2, PE X e1 t1 → PE X e2 t2 → PS X st (tPar i j (tCons t1 (tCons t2 tNil)))) (h1 : PE X e1 (tN b E f1)) (h2 : PE X e2 (tE b E f2)) : PS X st (tS b E (parOS i j f1 f2)) :=
  PS.imp (hst _ _ h1 h2) fun Dn σ H ⟨F0, O0, F, O, env, S, P, h⟩ => ⟨F0, O0, F, O, env, S, P, (PostS.bind h P.f0 P.o0).imp fun d S1 F1 H1 s1 fit1 I1 k p o hp hd => by
    have P1 := P.grow s1 fit1 I1
    have nO := upd_none fit1.o hp
    have eO : Same O (upd O p o) := same_upd nO
    have P2 : Pre b F0 O0 F1 (upd O p o) (upd H1 p o) σ env S1 := P1.moreO eO (fit1.newO hp hd.ld)
    refine ⟨F0, O0, F1, upd O p o, env, S1, P2, (PostS.bind k P2.f0 P2.o0).imp fun d2 S2 F2 H2 s2 fit2 I2 k v hv => ?_⟩
    have P3 := P2.grow s2 fit2 I2
    refine ⟨_, _, rfl, k _ F2 _ H2 (Pre.set (Pre.adopt P3 (by simpa using hi) upd_same (upd_none P.o0 nO) ?_ ?_) (by simpa using hj) hv)⟩
    · cases d with
      | lst ds => obtain ⟨vs, rfl, hz, q⟩ := hd; exact ⟨vs, rfl, hz, Dens.mono s2 _ _ q⟩
      | dct ks ds => obtain ⟨vs, rfl, hz, q⟩ := hd; exact ⟨vs, rfl, hz, Dens.mono s2 _ _ q⟩
      | _ => exact False.elim hd
    · exact P1.noslot nO⟩
def gCat : D → D → Option D
  | .lst a, .lst b => if a.length + b.length ≤ 1000000 then some (.lst (a ++ b)) else none
  | _, _ => none
theorem n_cat (h : ∀ t u, PE X e1 t → PE X e2 u → PE X e (tOp rCat t u)) (h1 : PE X e1 (tB b E f1)) (h2 : PE X e2 (tB b E f2)) : PE X e (tN b E (binM gCat f1 f2)) :=
  PE.imp (h _ _ h1 h2) fun σ H Q ⟨F0, O0, F, O, env, S, P, h⟩ => ⟨F0, O0, F, O, env, S, P, (Post.bind h).imp fun d S1 F1 H1 s1 fit1 I1 k v hv => ⟨F0, O0, F1, O, env, S1, P.grow s1 fit1 I1, (Post.bind k).imp fun d2 S2 F2 H2 s2 fit2 I2 k u hu => by
    obtain ⟨d', e', k⟩ := Post.ofO k
    have hv := hv.mono s2 (Same.refl _)
    cases d <;> cases d2 <;> simp only [gCat, reduceCtorEq] at e'
    rename_i xs ys
    split at e' <;> cases e'
    rename_i hz
    obtain ⟨p, vs, rfl, q1, z1, q2⟩ := hv
    obtain ⟨p', ws, rfl, q1', z1', q2'⟩ := hu
    refine ⟨p, p', vs, ws, rfl, rfl, q1.elim (fit2.f _ _) (fit2.o _ _), q1'.elim (fit2.f _ _) (fit2.o _ _), by rw [← q2.length, ← q2'.length]; exact Nat.le_trans hz million, fun r hr => ?_⟩
    exact k F2 H2 (Same.refl _) fit2 I2 r _ hr ⟨_, rfl, by rw [List.length_append]; exact Nat.le_trans hz million, q2.append q2'⟩⟩⟩
theorem Pre.frz {F0 O0 F O H : Hp} {σ : L2.St} {env : Env} {S : DS} (i : Nat) (P : Pre b F0 O0 F O H σ env S) : ∃ F' O', Same F F' ∧ Pre { b with own := b.own.filter (· != i) } F0 O0 F' O' H σ env S := by
  have mem : ∀ {j}, j ∈ b.own.filter (· != i) ↔ j ∈ b.own ∧ j ≠ i := fun {j} => by simp
  by_cases hi : i ∈ b.own
  · cases he : env[i]? with
    | none =>
      refine ⟨F, O, Same.refl _, P.fit, P.f0, P.o0, P.inv, fun j d h n => P.slot j d h fun q => ?_, fun j d h n => P.slotO j d h (mem.mp n).1, fun j k a hj hk => P.sep j k a (mem.mp hj).1 (mem.mp hk).1, P.len⟩
      by_cases z : j = i
      · subst z; rw [he] at h; cases h
      · exact n (mem.mpr ⟨q, z⟩)
    | some od =>
      cases od with
      | none =>
        refine ⟨F, O, Same.refl _, P.fit, P.f0, P.o0, P.inv, fun j d h n => P.slot j d h fun q => ?_, fun j d h n => P.slotO j d h (mem.mp n).1, fun j k a hj hk => P.sep j k a (mem.mp hj).1 (mem.mp hk).1, P.len⟩
        by_cases z : j = i
        · subst z; rw [he] at h; cases h
        · exact n (mem.mpr ⟨q, z⟩)
      | some d =>
        obtain ⟨a, h1, h2, h3⟩ := P.slotO i d he hi
        have ex : ∃ o, O a = some o ∧ ObjD b.c F d o := by
          cases d with
          | lst ds => obtain ⟨vs, q, hz, r⟩ := h2; exact ⟨_, q, vs, rfl, hz, r⟩
          | dct ks ds => obtain ⟨kv, q, hz, r⟩ := h2; exact ⟨_, q, kv, rfl, hz, r⟩
          | _ => exact False.elim h2
        obtain ⟨o, ho', hd⟩ := ex
        have nF : F a = none := P.fit.fo a (by rw [ho']; simp)
        have sF : Same F (upd F a o) := same_upd nF
        refine ⟨upd F a o, del O a, sF, P.fit.freeze ho', P.f0.trans sF, fun c u q => ?_, P.inv.mono sF, fun j e h n => ?_, fun j e h n => ?_, fun j k x hj hk => P.sep j k x (mem.mp hj).1 (mem.mp hk).1, P.len⟩
        · have ne : c ≠ a := fun z => by subst z; rw [h3] at q; cases q
          unfold del
          rw [if_neg ne]
          exact P.o0 c u q
        · by_cases z : j = i
          · subst z
            rw [he] at h
            cases h
            exact ⟨_, h1, hd.den nF⟩
          · obtain ⟨v, q1, q2⟩ := P.slot j e h fun q => n (mem.mpr ⟨q, z⟩)
            exact ⟨v, q1, Den.mono sF _ _ q2⟩
        · obtain ⟨hj, z⟩ := mem.mp n
          obtain ⟨x, q1, q2, q3⟩ := P.slotO j e h hj
          have nx : x ≠ a := fun y => z (P.sep j i a hj hi ⟨_, h⟩ ⟨_, he⟩ (y ▸ q1) h1)
          exact ⟨x, q1, q2.mono sF (fun u q => by unfold del; rw [if_neg nx]; exact q), q3⟩
  · have e : b.own.filter (· != i) = b.own := by
      rw [List.filter_eq_self]
      intro j hj
      have : j ≠ i := fun z => hi (z ▸ hj)
      simpa using this
    refine ⟨F, O, Same.refl _, ?_⟩
    rw [e]
    exact P
theorem s_frz (i : Nat) (h : PS X st (tS { b with own := b.own.filter (· != i) } E (retS f))) : PS X st (tS b E (retS f)) := PS.imp h fun Dn σ H ⟨F0, O0, F, O, env, S, P, h⟩ => by
  obtain ⟨F', O', s, P'⟩ := P.frz i
  refine ⟨F0, O0, F', O', env, S, P', ?_⟩
  revert h
  unfold retS
  cases f env S with
  | ok p => obtain ⟨d, S1⟩ := p; exact fun h => h
  | exc n g fs S1 => exact fun h => h
  | bad => exact fun h => h
end
end VS
namespace VS
open PySem PySem.Spec PyProof.Rows L2
section
variable {X : Cx} {b : Bc} {E : XK} {e e1 e2 : Expr} {es : List Expr} {st : Stmt} {f f1 f2 : ME} {pos : Pos} {c : Dc}
theorem n_d0 (h : PE X e tDNewK) : PE X e (tN b E (cM (.dct [] []))) := PE.imp h fun σ H Q ⟨F0, O0, F, O, env, S, P, h⟩ p hp => h F H (Same.refl _) P.fit P.inv p (.dK []) hp ⟨[], rfl, rfl, rfl⟩
def gIsB : D → D → Option D
  | .bl i, .bl j => some (.bl (decide (i = j)))
  | _, _ => none
def gIsntB : D → D → Option D
  | .bl i, .bl j => some (.bl (!decide (i = j)))
  | _, _ => none
theorem r_is : RuleB c rIsB gIsB := by
  intro F O T H d e v u d' Q fit hv hu g q
  cases d <;> cases e <;> simp only [gIsB, reduceCtorEq, Option.some.injEq] at g
  subst g
  exact ⟨_, _, hv, hu, q _ F H (Same.refl _) fit rfl⟩
theorem r_isnt : RuleB c rNotB gIsntB := by
  intro F O T H d e v u d' Q fit hv hu g q
  cases d <;> cases e <;> simp only [gIsntB, reduceCtorEq, Option.some.injEq] at g
  subst g
  exact ⟨_, _, hv, hu, q _ F H (Same.refl _) fit rfl⟩
end
end VS
namespace VS
open PySem PySem.Spec PyProof.Rows L2
abbrev kLarge : Key := Sum.inr "large"
abbrev kCells : Key := Sum.inr "cells"
abbrev kLeft : Key := Sum.inr "left"
abbrev kTurn : Key := Sum.inr "turn"
def stKV (l : Lay) (S : DS) : List (Key × V) := [(kLarge, .ref l.la), (kCells, .ref l.ca), (kLeft, .int S.left), (kTurn, .int S.turn)]
theorem kne : kLarge ≠ kCells ∧ kLarge ≠ kLeft ∧ kLarge ≠ kTurn ∧ kCells ≠ kLeft ∧ kCells ≠ kTurn ∧ kLeft ≠ kTurn := by decide +kernel
theorem val_large (l : Lay) (S : DS) : valV (stKV l S) kLarge = some (.ref l.la) := valV_pos rfl
theorem val_cells (l : Lay) (S : DS) : valV (stKV l S) kCells = some (.ref l.ca) := (valV_neg kne.1).trans (valV_pos rfl)
theorem val_left (l : Lay) (S : DS) : valV (stKV l S) kLeft = some (.int S.left) := (valV_neg kne.2.1).trans ((valV_neg kne.2.2.2.1).trans (valV_pos rfl))
theorem val_turn (l : Lay) (S : DS) : valV (stKV l S) kTurn = some (.int S.turn) := (valV_neg kne.2.2.1).trans ((valV_neg kne.2.2.2.2.1).trans ((valV_neg kne.2.2.2.2.2).trans (valV_pos rfl)))
theorem put_left (l : Lay) (S : DS) (n : Int) : putK (stKV l S) kLeft (.int n) = stKV l { S with left := n } := by
  unfold putK stKV
  rw [if_pos (by simp)]
  simp only [List.map_cons, List.map_nil, if_neg kne.2.1, if_neg kne.2.2.2.1, if_pos, if_neg (Ne.symm kne.2.2.2.2.2)]
theorem put_turn (l : Lay) (S : DS) (n : Int) : putK (stKV l S) kTurn (.int n) = stKV l { S with turn := n } := by
  unfold putK stKV
  rw [if_pos (by simp)]
  simp only [List.map_cons, List.map_nil, if_neg kne.2.2.1, if_neg kne.2.2.2.2.1, if_pos, if_neg kne.2.2.2.2.2]
theorem stT_sa {l : Lay} {S : DS} {T0 : Hp} : stT l S T0 l.sa = some (.dK (stKV l S)) := if_pos rfl
theorem stT_la {l : Lay} {S : DS} {T0 : Hp} (h : l.sa ≠ l.la) : stT l S T0 l.la = some (.lst (S.large.map V.int)) := (if_neg h.symm).trans (if_pos rfl)
theorem stT_putSa {l : Lay} {S S' : DS} {T0 : Hp} (h : l.sa ≠ l.la) (hl : S'.large = S.large) : upd (stT l S T0) l.sa (.dK (stKV l S')) = stT l S' T0 := by
  funext a
  by_cases e : a = l.sa
  · subst e; rw [upd_same, stT_sa]
  · rw [upd_ne e]; unfold stT; rw [if_neg e, if_neg e, hl]
theorem stT_putLa {l : Lay} {S S' : DS} {T0 : Hp} (h : l.sa ≠ l.la) (h1 : S'.left = S.left) (h2 : S'.turn = S.turn) : upd (stT l S T0) l.la (.lst (S'.large.map V.int)) = stT l S' T0 := by
  funext a
  by_cases e : a = l.la
  · subst e; rw [upd_same, stT_la h]
  · rw [upd_ne e]; unfold stT; rw [if_neg e, if_neg e, h1, h2]
theorem Fits.setT {F O T H : Hp} {p : Addr} {o o' : HO} (h : Fits F O T H) (n : T p = some o) : Fits F O (upd T p o') (upd H p o') where
  t := fun b u e => by
    by_cases hb : b = p
    · subst hb; rw [upd_same] at e ⊢; exact e
    · rw [upd_ne hb] at e ⊢; exact h.t b u e
  f := fun b u e => by
    have nb : b ≠ p := fun z => by subst z; rw [h.ft b (by rw [n]; simp)] at e; cases e
    rw [upd_ne nb]; exact h.f b u e
  o := fun b u e => by
    have nb : b ≠ p := fun z => by subst z; rw [h.ot b (by rw [n]; simp)] at e; cases e
    rw [upd_ne nb]; exact h.o b u e
  fo := h.fo
  ft := fun a q => by
    by_cases hb : a = p
    · subst hb; exact h.ft a (by rw [n]; simp)
    · rw [upd_ne hb] at q; exact h.ft a q
  ot := fun a q => by
    by_cases hb : a = p
    · subst hb; exact h.ot a (by rw [n]; simp)
    · rw [upd_ne hb] at q; exact h.ot a q
  nt := h.nt
  ld := h.ld
section
variable {b : Bc} {F0 O0 F O H : Hp} {σ : L2.St} {env : Env} {S : DS}
theorem Pre.atSa (P : Pre b F0 O0 F O H σ env S) (hs : b.stf = true) : H b.c.l.sa = some (.dK (stKV b.c.l S)) := by
  obtain ⟨T0, tp, fit⟩ := P.fit
  unfold Bc.T at fit
  rw [if_pos hs] at fit
  exact fit.t _ _ stT_sa
theorem Pre.atLa (P : Pre b F0 O0 F O H σ env S) (hs : b.stf = true) : H b.c.l.la = some (.lst (S.large.map V.int)) := by
  obtain ⟨T0, tp, fit⟩ := P.fit
  unfold Bc.T at fit
  rw [if_pos hs] at fit
  exact fit.t _ _ (stT_la (P.inv hs).1)
theorem Pre.setSa {S' : DS} (P : Pre b F0 O0 F O H σ env S) (hs : b.stf = true) (h1 : S'.large = S.large) (h2 : S'.cells = S.cells) : Pre b F0 O0 F O (upd H b.c.l.sa (.dK (stKV b.c.l S'))) σ env S' := by
  refine ⟨?_, P.f0, P.o0, fun q => by have := P.inv q; unfold stI at this ⊢; rw [h1, h2]; exact this, P.slot, P.slotO, P.sep, P.len⟩
  obtain ⟨T0, tp, fit⟩ := P.fit
  refine ⟨T0, tp, ?_⟩
  unfold Bc.T at fit ⊢
  rw [if_pos hs] at fit ⊢
  rw [← stT_putSa (P.inv hs).1 h1]
  exact fit.setT stT_sa
theorem Pre.setLa {S' : DS} (P : Pre b F0 O0 F O H σ env S) (hs : b.stf = true) (h1 : S'.left = S.left) (h2 : S'.turn = S.turn) (h3 : S'.cells = S.cells) (hl : S'.large.length ≤ S.large.length) : Pre b F0 O0 F O (upd H b.c.l.la (.lst (S'.large.map V.int))) σ env S' := by
  refine ⟨?_, P.f0, P.o0, fun q => by have := P.inv q; unfold stI at this ⊢; rw [h3]; exact ⟨this.1, this.2.1, this.2.2.1, Nat.le_trans hl this.2.2.2⟩, P.slot, P.slotO, P.sep, P.len⟩
  obtain ⟨T0, tp, fit⟩ := P.fit
  refine ⟨T0, tp, ?_⟩
  unfold Bc.T at fit ⊢
  rw [if_pos hs] at fit ⊢
  rw [← stT_putLa (P.inv hs).1 h1 h2]
  exact fit.setT (stT_la (P.inv hs).1)
theorem Pre.atSt {i : Nat} (P : Pre b F0 O0 F O H σ env S) (ho : b.own.contains i = false) (h : env[i]? = some (some .st)) : σ[i]? = some (some (.ref b.c.l.sa)) := by
  obtain ⟨v, h1, h2⟩ := P.slot i _ h (by simpa using ho)
  simp only [Den] at h2
  rw [h1, h2]
end
section
variable {X : Cx} {b : Bc} {E : XK} {e e1 e2 o : Expr} {es : List Expr} {st : Stmt} {f f1 f2 : ME} {pos : Pos} {c : Dc}
def stM (i : Nat) (k : DS → D) : ME := fun env S => match env[i]? with | some (some .st) => .ok (k S, S) | _ => .bad
theorem e_stI (i : Nat) (x : Str) (n : DS → Int) (hx : ∀ l S, valV (stKV l S) (Sum.inr x) = some (.int (n S))) (hs : b.stf = true) (ho : b.own.contains i = false) (h : PE X e (tDGet (tVar i) (tC (.str x)))) : PE X e (tE b E (stM i fun S => .int (n S))) := PE.imp h fun σ H Q ⟨F0, O0, F, O, env, S, P, h⟩ => by
  unfold stM at h
  split at h
  · rename_i hg
    exact ⟨_, P.atSt ho hg, _, _, rfl, by rw [← hx b.c.l S]; exact DGet.k (k := Sum.inr x) (P.atSa hs), h F H (Same.refl _) P.fit P.inv _ rfl⟩
  · exact False.elim h
theorem e_left (i : Nat) (hs : b.stf = true) (ho : b.own.contains i = false) (h : PE X e (tDGet (tVar i) (tC (.str "left")))) : PE X e (tE b E (stM i fun S => .int S.left)) := e_stI i "left" (·.left) val_left hs ho h
theorem e_turn (i : Nat) (hs : b.stf = true) (ho : b.own.contains i = false) (h : PE X e (tDGet (tVar i) (tC (.str "turn")))) : PE X e (tE b E (stM i fun S => .int S.turn)) := e_stI i "turn" (·.turn) val_turn hs ho h
theorem e_cells (i : Nat) (hs : b.stf = true) (ho : b.own.contains i = false) (h : PE X e (tDGet (tVar i) (tC (.str "cells")))) : PE X e (tE b E (stM i fun S => .lst (S.cells.map D.int))) := PE.imp h fun σ H Q ⟨F0, O0, F, O, env, S, P, h⟩ => by
  unfold stM at h
  split at h
  · rename_i hg
    have I := P.inv hs
    have hm := million
    exact ⟨_, P.atSt ho hg, _, _, rfl, by rw [← val_cells b.c.l S]; exact DGet.k (k := kCells) (P.atSa hs), h F H (Same.refl _) P.fit P.inv _ ⟨_, _, rfl, I.2.1, by rw [List.length_map]; exact Nat.le_trans I.2.2.1 (Nat.le_trans (by decide) hm), Dens.of_ints _⟩⟩
  · exact False.elim h
theorem shaped_ints (ns : List Int) : SeqAt.shaped (.list (ns.map PyData.int)) = true := by
  have h1 : ∀ ns : List Int, PyData.canLayAll0 (ns.map PyData.int) = true := fun ns => by induction ns with
    | nil => rfl
    | cons n ns ih => simp only [List.map_cons, PyData.canLayAll0, PyData.canLay0, ih, Bool.and_self]
  have h2 : ∀ ns : List Int, PyData.depthAll (ns.map PyData.int) = 0 := fun ns => by induction ns with
    | nil => rfl
    | cons n ns ih => simp only [List.map_cons, PyData.depthAll, PyData.depth, ih, Nat.max_self]
  unfold SeqAt.shaped
  simp only [PyData.canLay0, h1, PyData.depth, h2, Bool.true_and]
  decide
theorem dp_ints {K : PySem.W.Frag} {H : Hp} : ∀ ns : List Int, DpAll K H (ns.map V.int) (ns.map PyData.int)
  | [] => .nil
  | n :: ns => .cons (.int n) (dp_ints ns)
theorem pe_l0 : PE X (.List [] pos) (fun σ H Q => ∀ p, H p = none → Q (.ref p) (upd H p (.lst []))) := PE.imp (pe_lst pa_nil) fun σ H Q k => ⟨Nat.zero_le _, k⟩
def largeT (i : Nat) : MT := fun env S => match env[i]? with | some (some .st) => .ok (!S.large.isEmpty, S) | _ => .bad
theorem t_large (i : Nat) (hs : b.stf = true) (ho : b.own.contains i = false) (h : PT X e (tTest (tOp (rNeD b.c.K) (tDGet (tVar i) (tC (.str "large"))) (fun σ H Q => ∀ p, H p = none → Q (.ref p) (upd H p (.lst [])))))) : PT X e (tT b E (largeT i)) := PT.imp h fun σ H Q ⟨F0, O0, F, O, env, S, P, h⟩ => by
  unfold largeT at h
  split at h
  · rename_i hg
    refine ⟨_, P.atSt ho hg, _, _, rfl, by rw [← val_large b.c.l S]; exact DGet.k (k := kLarge) (P.atSa hs), fun p hp => ?_⟩
    have hla := P.atLa hs
    have np : b.c.l.la ≠ p := ne_of_none hla hp
    have nF := upd_none P.fit.f hp
    refine ⟨.list (S.large.map PyData.int), .list [], .lst (SqL_of (by rw [upd_ne np]; exact hla)) (dp_ints _), .lst (SqL_of upd_same) .nil, shaped_ints _, shaped_ints [], _, rfl, ?_⟩
    have e : (!PyData.eqv (.list (S.large.map PyData.int)) (.list [])) = !S.large.isEmpty := by cases S.large <;> rfl
    rw [e]
    exact h (upd F p (.lst [])) _ (same_upd nF) (P.fit.new hp) (P.inv.mono (same_upd nF))
  · exact False.elim h
def leftS (i : Nat) (f : ME) : MS := fun env S => bindM (f env S) fun d S1 => match d, env[i]? with | .int n, some (some .st) => .ok (.nx env, { S1 with left := n }) | _, _ => .bad
def turnS (i : Nat) (f : ME) : MS := fun env S => bindM (f env S) fun d S1 => match d, env[i]? with | .int n, some (some .st) => .ok (.nx env, { S1 with turn := n }) | _, _ => .bad
theorem stKV_len (l : Lay) (S : DS) : (stKV l S).length < sizeLine := Nat.lt_of_lt_of_le (by decide : 4 < 1000000) million
theorem s_left (i : Nat) (hs : b.stf = true) (ho : b.own.contains i = false) (h : ∀ te, PE X e te → PS X st (tAsg te (L2.gSub (tVar i) (tC (.str "left")) rSetD))) (he : PE X e (tE b E f)) : PS X st (tS b E (leftS i f)) :=
  PS.imp (h _ he) fun Dn σ H ⟨F0, O0, F, O, env, S, P, h⟩ => ⟨F0, O0, F, O, env, S, P, (PostS.bind h P.f0 P.o0).imp fun d S1 F1 H1 s1 fit1 I1 k v hv => by
    have P1 := P.grow s1 fit1 I1
    split at k
    · rename_i n hg
      simp only [Den] at hv
      subst hv
      refine ⟨_, P1.atSt ho hg, ?_⟩
      show rSetD _ _ _ _ _
      unfold rSetD
      refine ⟨_, _, rfl, DPut.k (k := kLeft) (P1.atSa hs) (stKV_len _ _), ?_⟩
      rw [put_left]
      exact k _ F1 O _ (P1.setSa hs rfl rfl)
    · exact False.elim k⟩
theorem s_turn (i : Nat) (hs : b.stf = true) (ho : b.own.contains i = false) (h : ∀ te, PE X e te → PS X st (tAsg te (L2.gSub (tVar i) (tC (.str "turn")) rSetD))) (he : PE X e (tE b E f)) : PS X st (tS b E (turnS i f)) :=
  PS.imp (h _ he) fun Dn σ H ⟨F0, O0, F, O, env, S, P, h⟩ => ⟨F0, O0, F, O, env, S, P, (PostS.bind h P.f0 P.o0).imp fun d S1 F1 H1 s1 fit1 I1 k v hv => by
    have P1 := P.grow s1 fit1 I1
    split at k
    · rename_i n hg
      simp only [Den] at hv
      subst hv
      refine ⟨_, P1.atSt ho hg, ?_⟩
      show rSetD _ _ _ _ _
      unfold rSetD
      refine ⟨_, _, rfl, DPut.k (k := kTurn) (P1.atSa hs) (stKV_len _ _), ?_⟩
      rw [put_turn]
      exact k _ F1 O _ (P1.setSa hs rfl rfl)
    · exact False.elim k⟩
def popLS (i : Nat) : MS := fun env S => match env[i]?, S.large with | some (some .st), n :: ns => .ok (.nx env, { S with left := n, large := ns }) | _, _ => .bad
theorem s_popL (i : Nat) (hs : b.stf = true) (ho : b.own.contains i = false) (h : PS X st (tAsg (tBM X.K "list" rPopAt (tDGet (tVar i) (tC (.str "large"))) (tCons (tC (.int 0)) tNil)) (L2.gSub (tVar i) (tC (.str "left")) rSetD))) : PS X st (tS b E (popLS i)) := PS.imp h fun Dn σ H ⟨F0, O0, F, O, env, S, P, h⟩ => by
  unfold popLS at h
  split at h
  · rename_i n ns hg hl
    have hla := P.atLa hs
    have hm := million
    refine ⟨_, P.atSt ho hg, _, _, rfl, by rw [← val_large b.c.l S]; exact DGet.k (k := kLarge) (P.atSa hs), (show tyV X.K "list" (.ref b.c.l.la) H from .inl ⟨rfl, _, SqL_of hla⟩), b.c.l.la, _, 0, 0, .int n, rfl, rfl, hla, by decide, by decide, ?_, by rw [hl]; rfl, ?_⟩
    · rw [hl]
      simp [seqIndex?]
    · have P1 : Pre b F0 O0 F O (upd H b.c.l.la (.lst (ns.map V.int))) σ env { S with large := ns } := P.setLa (S' := { S with large := ns }) hs rfl rfl rfl (by rw [hl]; simp)
      have e : (S.large.map V.int).eraseIdx 0 = ns.map V.int := by rw [hl]; rfl
      rw [e]
      refine ⟨_, P1.atSt ho hg, ?_⟩
      show rSetD _ _ _ _ _
      unfold rSetD
      refine ⟨_, _, rfl, DPut.k (k := kLeft) (P1.atSa hs) (stKV_len _ _), ?_⟩
      rw [put_left]
      exact h _ F O _ (P1.setSa hs rfl rfl)
  · exact False.elim h
def whileS (t : MT) (g : MS) : Nat → MS
  | 0 => fun _ _ => .bad
  | n + 1 => fun env S => bindM (t env S) fun k S1 => if k = true then (match g env S1 with
    | .ok (.nx env', S') => whileS t g n env' S'
    | .ok (.ct env', S') => whileS t g n env' S'
    | .ok (.bk env', S') => .ok (.nx env', S')
    | .ok (.rt d, S') => .ok (.rt d, S')
    | .exc a b c S' => .exc a b c S'
    | .bad => .bad) else .ok (.nx env, S1)
theorem s_while {body : List Stmt} {t : MT} {g : MS} (n : Nat) (hp : PassesOwn (model X.prog X.w) X.A X.env X.xe) (hc : PT X e (tT b E t)) (hb : PSs X body (tS b E g)) : PS X (.While e body [] pos) (tS b E (whileS t g n)) :=
  PS.imp (ps_while hp hc hb) fun Dn σ H ⟨F0, O0, F, O, env, S, P, h⟩ => by
    refine ⟨fun m σ H => ∃ F O env S, Pre b F0 O0 F O H σ env S ∧ PostS b E F0 O0 (whileS t g m env S) Dn, ⟨n, F, O, env, S, P, h⟩, ?_⟩
    rintro m σ H ⟨F, O, env, S, P, h⟩
    cases m with
    | zero => exact False.elim h
    | succ m =>
      refine ⟨F0, O0, F, O, env, S, P, (PostS.bind h P.f0 P.o0).imp fun k S1 F1 H1 s1 fit1 I1 q => ?_⟩
      have P1 := P.grow s1 fit1 I1
      cases k with
      | false => exact iteF (q _ F1 O H1 P1)
      | true =>
        rw [if_pos rfl] at q
        refine iteT ⟨fun σ' H' => ∃ F O env S, Pre b F0 O0 F O H' σ' env S ∧ PostS b E F0 O0 (whileS t g m env S) Dn, fun σ' H' z => ⟨m, Nat.lt_succ_self m, z⟩, F0, O0, F1, O, env, S1, P1, ?_⟩
        revert q
        cases g env S1 with
        | bad => exact fun q => q
        | exc n f fs S' => exact fun q => q
        | ok p =>
          obtain ⟨a, S'⟩ := p
          cases a with
          | nx env' => exact fun q σ' F' O' H' P' => ⟨F', O', env', S', P', q⟩
          | ct env' => exact fun q σ' F' O' H' P' => ⟨F', O', env', S', P', q⟩
          | bk env' => exact fun q => q
          | rt d => exact fun q => q
end
end VS
namespace VS
open PySem PySem.Spec PyProof.Rows L2
abbrev ltI (a b : List Int) : Bool := lexLt itemOrd (a.map Sum.inl) (b.map Sum.inl)
def rSortTG (K : PySem.W.Frag) : List V → Hp → VK → Prop := fun vs H Q => ∃ (a : Addr) (xs : List V) (nss : List (List Int)), vs = [.ref a] ∧ SqL K H a xs ∧ Paired (fun x ns => TupI K H x ns ∧ ns ≠ []) xs nss ∧
  ∀ (ps : List (V × List Int)) (p : Addr), ps.Perm (xs.zip nss) → ps.Pairwise (fun x y => ltI y.2 x.2 = false) → H p = none → Q (.ref p) (upd H p (.lst (ps.map (·.1))))
theorem items_ints : ∀ {us : List Value} {ns : List Int} (i : Nat), IntsAre us ns → tupItems (fun _ => false) i us = some (ns.map Sum.inl)
  | _, _, _, .nil => rfl
  | _, _, i, .cons n t r => by
    simp only [tupItems, Bool.false_eq_true, if_false, items_ints (i + 1) r, Option.map_some, List.map_cons]
theorem key_tup {h : Heap} {v : Value} {ns : List Int} (x : TS.TupInts h v ns) : G.tupKeyC h (fun _ => false) v = some (ns.map Sum.inl) := by
  obtain ⟨a, xs, rfl, ⟨o, ho, hc, n, hd⟩, hi⟩ := x
  have h1 : G.isTupObj h (.ref a) = true := by simp only [G.isTupObj, ho, hc]; rfl
  unfold G.tupKeyC
  rw [if_pos h1]
  simp only [tupKey, ho, hd]
  exact items_ints 0 hi
theorem tupsOf {h : Heap} : ∀ {us : List Value}, (∀ u ∈ us, ∃ ns, TS.TupInts h u ns ∧ ns ≠ []) → ∃ fs, TupsOf h (fun _ => false) us fs
  | [], _ => ⟨[], .nil⟩
  | u :: us, hu => by
    obtain ⟨fs, r⟩ := tupsOf fun v hv => hu v (List.mem_cons_of_mem _ hv)
    obtain ⟨ns, ⟨a, xs, rfl, ⟨o, ho, hc, n, hd⟩, hi⟩, hne⟩ := hu u List.mem_cons_self
    cases hx : xs.toList with
    | nil => rw [hx] at hi; cases hi; exact absurd rfl hne
    | cons f rest =>
      rw [hx] at hi
      cases hi with
      | cons k t _ => exact ⟨_ :: fs, .cons ⟨a, o, xs, n, rfl, ho, hc, hd, by rw [← Array.getElem?_toList, hx]; rfl, fun _ => ⟨k, t, rfl⟩, fun z => by cases z⟩ r⟩
theorem cr_sortTG {X : Cx} : CallR X (.builtin "sorted") (rSortTG X.K) := by
  intro pins s σ H vs us Q I r h
  obtain ⟨a, xs, nss, rfl, hs, hp, q⟩ := h
  obtain ⟨its, rv, hl, hz⟩ := I.list hs
  rw [Vals.ref1 r]
  have hx : ∀ x ∈ xs, ∃ ns, TupI X.K H x ns ∧ ns ≠ [] := by
    clear q hs rv hz
    induction hp with
    | nil => intro x m; exact absurd m (by simp)
    | cons h1 h2 ih =>
      intro x m
      rcases List.mem_cons.mp m with e | m
      · subst e; exact ⟨_, h1⟩
      · exact ih x m
  obtain ⟨e1, e2⟩ := bkV_refs rv fun x m => by
    obtain ⟨ns, ⟨t, e, _⟩, _⟩ := hx x m
    exact ⟨t, e⟩
  have hT : ∀ u ∈ its, ∃ ns, TS.TupInts s.heap u ns ∧ ns ≠ [] := fun v hv => by
    obtain ⟨t, rfl⟩ := e2 v hv
    have hm : V.ref t ∈ xs := by rw [e1]; exact List.mem_map.mpr ⟨_, hv, rfl⟩
    obtain ⟨ns, ⟨t', e, ht⟩, hn⟩ := hx _ hm
    cases e
    exact ⟨ns, tupI_raw I ht, hn⟩
  have ez : xs.zip nss = its.map fun u => (bkV u, TS.intsOf s.heap u) := by
    have : nss = its.map (TS.intsOf s.heap) := by
      clear q hs hl hz hT hx
      induction rv generalizing nss with
      | nil => cases hp; rfl
      | cons r0 rr ih =>
        cases hp with
        | cons h1 h2 =>
          obtain ⟨⟨t, rfl, ht⟩, _⟩ := h1
          cases r0
          rw [List.map_cons, (tupI_raw I ht).ints, ih _ h2 (by rw [List.map_cons] at e1; exact (List.cons.inj e1).2) fun u m => e2 u (List.mem_cons_of_mem _ m)]
    rw [this, e1]
    clear q hs hl hz hT hx rv e1 this hp e2
    induction its with
    | nil => rfl
    | cons u us ih => simp [ih]
  obtain ⟨fs, hfs⟩ := tupsOf hT
  refine G.sorted_tups (shape := fun _ => false) hl.isList hfs (fun v hv => ?_) (by rw [← rv.length]; exact hz) fun st' p1 p2 p3 => ?_
  · obtain ⟨ns, t, _⟩ := hT v hv
    exact ⟨_, key_tup t⟩
  · have hperm : ((arrOf st').map (·.2)).toList.Perm its := by
      have z := (Array.perm_iff_toList_perm.mp p1).map (·.2)
      rw [pairsOf_toList] at z
      rw [Array.toList_map]
      have zz : ∀ l : List Value, List.map (·.2) (l.zip l) = l := fun l => by induction l <;> simp_all
      exact z.trans (List.Perm.of_eq (zz its))
    have hsame : ∀ p ∈ (arrOf st').toList, p.1 = p.2 ∧ p.1 ∈ its := fun p hp' => by
      have m := (Array.perm_iff_toList_perm.mp p1).mem_iff.mp hp'
      rw [pairsOf_toList] at m
      obtain ⟨e, hm⟩ := mem_zip_self m
      exact ⟨e, hm⟩
    obtain ⟨ep, he'⟩ := PyProof.Rows.sortedAll_at s.heap its ((arrOf st').map (·.2))
    have h3 : ∀ u ∈ ((arrOf st').map (·.2)).toList, ∃ a, u = Value.ref a := fun u hu => e2 u (hperm.mem_iff.mp hu)
    have hpv : (((arrOf st').map (·.2)).toList.map fun u => (bkV u, TS.intsOf s.heap u)).Perm (xs.zip nss) := by rw [ez]; exact hperm.map _
    have em : (((arrOf st').map (·.2)).toList.map fun u => (bkV u, TS.intsOf s.heap u)).map (·.1) = ((arrOf st').map (·.2)).toList.map bkV := by rw [List.map_map]; rfl
    have hlen : (((arrOf st').map (·.2)).toList.map bkV).length ≤ sizeLine := by
      rw [List.length_map, hperm.length_eq, ← rv.length]
      exact hz
    refine ⟨.ref _, upd H (s.heap.objs.size + 1) (.lst (((arrOf st').map (·.2)).toList.map bkV)), I.laid (t' := s.toks) (fun _ _ => PyProof.Rows.sortedAll_old) (Nat.le_succ _) ⟨hlen, _, ep, bkV_vals h3, he'⟩, rfl, ?_⟩
    rw [← em]
    refine q _ _ hpv ?_ (I.hok.fresh (Nat.le_succ _))
    rw [List.pairwise_map, Array.toList_map, List.pairwise_map]
    rw [List.pairwise_iff_getElem]
    intro i j hi hj hij
    have hj' : j < (arrOf st').size := by simpa using hj
    have hi' : i < (arrOf st').size := by simpa using hi
    have hsz : (arrOf st').size = (pairsOf its).size := p1.size_eq
    have k := p2 i j (Nat.le_of_lt hij) (by rw [← hsz]; exact hj')
    have kk : ∀ i (h : i < (arrOf st').size), KK (G.tupKindC s.heap fun _ => false) (arrOf st') i = (TS.intsOf s.heap (arrOf st')[i].2).map Sum.inl := fun i h => by
      unfold KK
      rw [Array.getElem?_eq_getElem h]
      obtain ⟨e, m⟩ := hsame (arrOf st')[i] (by simp)
      obtain ⟨ns, t, _⟩ := hT _ m
      show (G.tupKeyC s.heap (fun _ => false) (arrOf st')[i].1).getD [] = _
      rw [key_tup t, ← e, t.ints]
      rfl
    rw [kk i hi', kk j hj'] at k
    simpa [KeyOrd.kle] using k
def intsOfD : List D → Option (List Int)
  | [] => some []
  | .int i :: ds => (intsOfD ds).map (i :: ·)
  | _ => none
theorem intsOfD_some : ∀ {ds : List D} {ns : List Int}, intsOfD ds = some ns → ds = ns.map D.int
  | [], _, h => by cases h; rfl
  | .int i :: ds, ns, h => by
    simp only [intsOfD, Option.map_eq_some_iff] at h
    obtain ⟨r, h1, rfl⟩ := h
    rw [intsOfD_some h1, List.map_cons]
  | .non :: _, _, h => by simp [intsOfD] at h
  | .bl _ :: _, _, h => by simp [intsOfD] at h
  | .str _ :: _, _, h => by simp [intsOfD] at h
  | .tup _ :: _, _, h => by simp [intsOfD] at h
  | .lst _ :: _, _, h => by simp [intsOfD] at h
  | .dct _ _ :: _, _, h => by simp [intsOfD] at h
  | .exc _ _ _ :: _, _, h => by simp [intsOfD] at h
  | .cls _ :: _, _, h => by simp [intsOfD] at h
  | .st :: _, _, h => by simp [intsOfD] at h
  | .opq _ :: _, _, h => by simp [intsOfD] at h
  | .scr _ :: _, _, h => by simp [intsOfD] at h
theorem intsOfD_ints : ∀ ns : List Int, intsOfD (ns.map D.int) = some ns
  | [] => rfl
  | n :: ns => by simp only [List.map_cons, intsOfD, intsOfD_ints ns, Option.map_some]
def tupsOfD : List D → Option (List (List Int))
  | [] => some []
  | .tup es :: ds => match intsOfD es, tupsOfD ds with
    | some ns, some r => if ns.isEmpty then none else some (ns :: r)
    | _, _ => none
  | _ => none
def tupDI (ns : List Int) : D := .tup (ns.map D.int)
theorem tupsOfD_some : ∀ {ds : List D} {nss : List (List Int)}, tupsOfD ds = some nss → ds = nss.map tupDI ∧ ∀ ns ∈ nss, ns ≠ []
  | [], _, h => by cases h; exact ⟨rfl, fun _ m => absurd m (by simp)⟩
  | .tup es :: ds, nss, h => by
    simp only [tupsOfD] at h
    split at h
    · rename_i ns r e1 e2
      split at h <;> cases h
      rename_i hne
      obtain ⟨h1, h2⟩ := tupsOfD_some e2
      rw [intsOfD_some e1, h1]
      refine ⟨rfl, fun n m => ?_⟩
      rcases List.mem_cons.mp m with e | m
      · subst e; intro z; subst z; exact hne rfl
      · exact h2 n m
    · cases h
  | .non :: _, _, h => by simp [tupsOfD] at h
  | .bl _ :: _, _, h => by simp [tupsOfD] at h
  | .str _ :: _, _, h => by simp [tupsOfD] at h
  | .int _ :: _, _, h => by simp [tupsOfD] at h
  | .lst _ :: _, _, h => by simp [tupsOfD] at h
  | .dct _ _ :: _, _, h => by simp [tupsOfD] at h
  | .exc _ _ _ :: _, _, h => by simp [tupsOfD] at h
  | .cls _ :: _, _, h => by simp [tupsOfD] at h
  | .st :: _, _, h => by simp [tupsOfD] at h
  | .opq _ :: _, _, h => by simp [tupsOfD] at h
  | .scr _ :: _, _, h => by simp [tupsOfD] at h
theorem tupsOfD_tups : ∀ nss : List (List Int), (∀ ns ∈ nss, ns ≠ []) → tupsOfD (nss.map tupDI) = some nss
  | [], _ => rfl
  | n :: nss, h => by
    have h1 := h n List.mem_cons_self
    simp only [List.map_cons, tupDI, tupsOfD, intsOfD_ints, tupsOfD_tups nss fun m hm => h m (List.mem_cons_of_mem _ hm)]
    cases n with
    | nil => exact absurd rfl h1
    | cons _ _ => rfl
theorem inl_inj : ∀ {a b : List Int}, a.map (Sum.inl (β := List Nat)) = b.map Sum.inl → a = b
  | [], [], _ => rfl
  | x :: a, y :: b, h => by
    simp only [List.map_cons, List.cons.injEq, Sum.inl.injEq] at h
    rw [h.1, inl_inj h.2]
  | [], _ :: _, h => by simp at h
  | _ :: _, [], h => by simp at h
theorem paired_imp {α β : Type} {R R' : α → β → Prop} (f : ∀ a b, R a b → R' a b) {l : List α} {m : List β} (h : Paired R l m) : Paired R' l m := by
  induction h with
  | nil => exact .nil
  | cons a b ih => exact .cons (f _ _ a) ih
theorem paired_mem {α β : Type} {R : α → β → Prop} {l : List α} {m : List β} (h : Paired R l m) : ∀ x ∈ l.zip m, R x.1 x.2 := by
  induction h with
  | nil => intro x h; simp at h
  | cons a b ih =>
    intro x h
    rw [List.zip_cons_cons] at h
    rcases List.mem_cons.mp h with e | h
    · subst e; exact a
    · exact ih x h
theorem paired_tups {c : Dc} {F H : Hp} (s : Same F H) : ∀ (nss : List (List Int)) (us : List V), (∀ ns ∈ nss, ns ≠ []) → Dens c F (nss.map tupDI) us → Paired (fun x ns => (TupI c.K H x ns ∧ ns ≠ []) ∧ Den c F (tupDI ns) x) us nss
  | [], us, _, h2 => by simp only [List.map_nil, Dens] at h2; subst h2; exact .nil
  | n :: nss, us, hne, h2 => by
    simp only [List.map_cons, Dens] at h2
    obtain ⟨v, r, rfl, hv, hr⟩ := h2
    refine .cons ⟨⟨?_, hne n List.mem_cons_self⟩, hv⟩ (paired_tups s nss r (fun m hm => hne m (List.mem_cons_of_mem _ hm)) hr)
    obtain ⟨t, ws, rfl, hs, _, hd⟩ := hv
    have := hd.ints
    subst this
    exact ⟨t, rfl, sqT_mono s hs⟩
def leI (a b : List Int) : Bool := !ltI b a
theorem leI_anti {a b : List Int} (h1 : leI a b = true) (h2 : leI b a = true) : a = b := by
  have e := (listOrd itemOrd).total (a.map Sum.inl) (b.map Sum.inl) (by simpa [leI] using h2) (by simpa [leI] using h1)
  exact inl_inj e
theorem leI_tr {a b c : List Int} (h1 : leI a b = true) (h2 : leI b c = true) : leI a c = true := by
  have := KeyOrd.kle_trans (O := listOrd itemOrd) (a := a.map Sum.inl) (b := b.map Sum.inl) (c := c.map Sum.inl) (by simpa [leI, KeyOrd.kle] using h1) (by simpa [leI, KeyOrd.kle] using h2)
  simpa [leI, KeyOrd.kle] using this
theorem leI_tot (a b : List Int) : (leI a b || leI b a) = true := by
  cases h : ltI b a with
  | false => simp [leI, h]
  | true =>
    have := KeyOrd.klt_asymm (O := listOrd itemOrd) (a := b.map Sum.inl) (b := a.map Sum.inl) h
    simp only [KeyOrd.kle] at this
    simp [leI, ltI, this]
def gSorted : List D → Option D
  | [.lst ds] => if ds.length ≤ 1000000 then (match intsOfD ds with
      | some ns => some (.lst ((ns.mergeSort fun a b => decide (a ≤ b)).map D.int))
      | none => (tupsOfD ds).map fun nss => .lst ((nss.mergeSort leI).map tupDI)) else none
  | _ => none
def rSort2 (K : PySem.W.Frag) : List V → Hp → VK → Prop := fun vs H Q => rSortTG K vs H Q ∨ rSortedI K vs H Q
theorem cr_sort2 {X : Cx} : CallR X (.builtin "sorted") (rSort2 X.K) := fun pins s σ H vs us Q I r h => h.elim (cr_sortTG pins s σ H vs us Q I r) (cr_sortedI pins s σ H vs us Q I r)
theorem zip_snd {α β : Type} : ∀ {l : List α} {m : List β}, l.length = m.length → (l.zip m).map (·.2) = m
  | [], [], _ => rfl
  | _ :: l, _ :: m, h => by simp only [List.zip_cons_cons, List.map_cons, zip_snd (by simpa using h)]
  | [], _ :: _, h => by simp at h
  | _ :: _, [], h => by simp at h
theorem r_sorted {c : Dc} : RuleNN c (rSort2 c.K) gSorted := by
  intro F O T H ds vs d' Q fit hv g q
  match ds, g with
  | [.lst ds], g =>
    simp only [gSorted] at g
    split at g
    · rename_i hz
      obtain ⟨v, r, rfl, ⟨a, us, rfl, h1, z, h2⟩, h⟩ := paired1 hv
      cases paired0 h
      have hs : SqL c.K H a us := SqL_of (h1.elim (fit.f _ _) (fit.o _ _))
      split at g
      · rename_i ns e
        cases g
        have e2 := intsOfD_some e
        subst e2
        have e3 := h2.ints
        subst e3
        refine .inr ⟨a, ns, rfl, hs, fun ns' p hp hq hn => ?_⟩
        have e4 : ns' = ns.mergeSort fun a b => decide (a ≤ b) := by
          refine List.Perm.eq_of_pairwise (le := fun a b : Int => a ≤ b) (fun a b _ _ x y => by omega) hq ?_ (hp.trans (List.mergeSort_perm _ _).symm)
          have := List.pairwise_mergeSort (le := fun a b : Int => decide (a ≤ b)) (fun a b c x y => by simp at *; omega) (fun a b => by simp; omega) ns
          exact this.imp fun h => by simpa using h
        subst e4
        exact q F H p _ (Same.refl _) fit hn ⟨_, rfl, by rw [List.length_map, List.length_mergeSort]; simpa using z, Dens.of_ints _⟩
      · rename_i e0
        simp only [Option.map_eq_some_iff] at g
        obtain ⟨nss, e, rfl⟩ := g
        obtain ⟨e2, hne⟩ := tupsOfD_some e
        subst e2
        have hp := paired_tups fit.f nss us hne h2
        have hlen : us.length = nss.length := by have := h2.length; simp at this; omega
        refine .inl ⟨a, us, nss, rfl, hs, paired_imp (fun _ _ z => z.1) hp, fun ps p hperm hpw hn => ?_⟩
        have hall : ∀ x ∈ ps, Den c F (tupDI x.2) x.1 := fun x hx => (paired_mem hp x (hperm.mem_iff.mp hx)).2
        have hden : ∀ l : List (V × List Int), (∀ x ∈ l, Den c F (tupDI x.2) x.1) → Dens c F ((l.map (·.2)).map tupDI) (l.map (·.1)) := fun l => by
          induction l with
          | nil => exact fun _ => rfl
          | cons x l ih => exact fun h => ⟨_, _, rfl, h x List.mem_cons_self, ih fun y hy => h y (List.mem_cons_of_mem _ hy)⟩
        have em : ps.map (·.2) = nss.mergeSort leI := by
          refine List.Perm.eq_of_pairwise (le := fun a b => leI a b = true) (fun a b _ _ x y => leI_anti x y) ?_ (List.pairwise_mergeSort (le := leI) (fun a b c => leI_tr) leI_tot nss) ?_
          · rw [List.pairwise_map]
            exact hpw.imp fun h => by simp [leI, h]
          · have := hperm.map (·.2)
            rw [zip_snd hlen] at this
            exact this.trans (List.mergeSort_perm _ _).symm
        rw [← em] at q
        refine q F H p _ (Same.refl _) fit hn ⟨_, rfl, ?_, hden ps hall⟩
        have e5 := congrArg List.length em
        rw [List.length_mergeSort] at e5
        rw [List.length_map, e5]
        simpa using z
    · cases g
end VS
namespace VS
open PySem PySem.Spec PyProof.Rows L2
def reprOk (p : PyData) : Bool := p.showable && !p.hasDict && decide (p.depth ≤ 64) && decide (p.shown.length ≤ 1000000)
def gRepr : List D → Option D
  | [.lst ds] => (toPy (.lst ds)).bind fun p => if reprOk p = true then some (.str p.shown) else none
  | [.tup ds] => (toPy (.tup ds)).bind fun p => if reprOk p = true then some (.str p.shown) else none
  | _ => none
def rRepr (K : PySem.W.Frag) : List V → Hp → VK → Prop := fun vs H Q => ∃ a p, vs = [.ref a] ∧ Dp K H (.ref a) p ∧ reprOk p = true ∧ Q (.str p.shown) H
theorem cr_repr {X : Cx} (hg : X.A.guards = some []) (hu : X.A.units + 100 < cLine) : CallR X (.builtin "repr") (rRepr X.K) := by
  intro pins s σ H vs us Q I r h
  obtain ⟨a, p, rfl, hd, hok, q⟩ := h
  rw [Vals.ref1 r]
  simp only [reprOk, Bool.and_eq_true, Bool.not_eq_true', decide_eq_true_eq] at hok
  obtain ⟨⟨⟨h1, h2⟩, h3⟩, h4⟩ := hok
  obtain ⟨as, rd⟩ := Dp.reads I p (.ref a) (.ref a) hd rfl
  refine repr_of_reads' rd h1 (fun z => by rw [h2] at z; cases z) hg (by omega) (fun b o e => e) (fun h' u tk hk => ?_) (Nat.le_trans h4 million)
  exact ⟨.str p.shown, H, I.kept (t' := tk) hk, ⟨u, rfl⟩, q⟩
theorem r_repr {c : Dc} : RuleN c (rRepr c.K) gRepr := by
  intro F O T H ds vs d' Q fit hv g q
  match ds, g with
  | [.lst ds], g =>
    simp only [gRepr, Option.bind_eq_some_iff] at g
    obtain ⟨p, e, g⟩ := g
    split at g <;> cases g
    rename_i hok
    obtain ⟨v, r, rfl, hd, h⟩ := paired1 hv
    cases paired0 h
    have dp := dpB_of fit hd e
    obtain ⟨a, us, rfl, _⟩ := hd
    exact ⟨a, p, rfl, dp, hok, q _ F H (Same.refl _) fit rfl⟩
  | [.tup ds], g =>
    simp only [gRepr, Option.bind_eq_some_iff] at g
    obtain ⟨p, e, g⟩ := g
    split at g <;> cases g
    rename_i hok
    obtain ⟨v, r, rfl, hd, h⟩ := paired1 hv
    cases paired0 h
    have dp := dpB_of fit hd e
    obtain ⟨a, us, rfl, _⟩ := hd
    exact ⟨a, p, rfl, dp, hok, q _ F H (Same.refl _) fit rfl⟩
end VS
namespace VS
open PySem PySem.Spec PyProof.Rows L2
def pick {α : Type} (π : List Nat) (l : List α) : List α := π.filterMap fun j => l[j]?
def pickK {α : Type} (m : Nat) (π : List Nat) (us ws : List α) : List α := if us.length = 0 ∧ ws.length = m then pick π ws else []
theorem Vals.pick {vs : List V} {us : List Value} (h : Vals vs us) : ∀ π : List Nat, Vals (VS.pick π vs) (VS.pick π us)
  | [] => .nil
  | j :: π => by
    unfold VS.pick
    rw [List.filterMap_cons, List.filterMap_cons]
    cases hv : vs[j]? with
    | none =>
      have : us[j]? = none := by
        rw [List.getElem?_eq_none_iff] at hv ⊢
        rw [← h.length]; exact hv
      rw [this]
      exact Vals.pick h π
    | some v =>
      obtain ⟨u, hu, r⟩ := h.get hv
      rw [hu]
      exact .cons r (Vals.pick h π)
theorem Dens.pick {c : Dc} {F : Hp} {ds : List D} {vs : List V} (h : Dens c F ds vs) : ∀ π : List Nat, Dens c F (VS.pick π ds) (VS.pick π vs)
  | [] => rfl
  | j :: π => by
    unfold VS.pick
    rw [List.filterMap_cons, List.filterMap_cons]
    cases hv : ds[j]? with
    | none =>
      have : vs[j]? = none := by
        rw [List.getElem?_eq_none_iff] at hv ⊢
        rw [← h.length]; exact hv
      rw [this]
      exact Dens.pick h π
    | some d =>
      obtain ⟨v, hv, hd⟩ := Dens.get' h hv
      rw [hv]
      exact ⟨v, _, rfl, hd, Dens.pick h π⟩
theorem kb_of {K : PySem.W.Frag} {x qual : Str} {st : Stmt} {f : Addr} {fd : FuncData} (F : Fun K x qual st f fd) {ps ks : List Str} (π : List Nat) (hps : ps ≠ [])
    (h : ∀ (kV doc pm : Value) (an : Option Addr) (cdv ct : Value) (ws : List Value), ws.length = ks.length → bindArgs (PySem.W.fnOf x qual (defArgs st) (defBody st) (defScope st) .none kV doc pm an cdv ct) ⟨[], ks.zip ws⟩ = pure (ps.zip (pick π ws))) :
    KBinds K fd ps ks (pickK ks.length π) (pickK ks.length π) where
  to := fun s us ws X hl => by
    obtain ⟨oc, od, kV, doc, pm, an, cdv, ct, osl, rfl, lk, hcd⟩ := F.ex
    unfold pickK at hl ⊢
    by_cases hc : us.length = 0 ∧ ws.length = ks.length
    · rw [if_pos hc] at hl ⊢
      have e : us = [] := List.eq_nil_of_length_eq_zero hc.1
      subst e
      exact .of_eq (h kV doc pm an cdv ct ws hc.2)
    · rw [if_neg hc] at hl
      exact absurd (List.eq_nil_of_length_eq_zero hl.symm) hps
  rel := fun {vs us zs ws} r rz => by
    unfold pickK
    rw [r.length, rz.length]
    by_cases hc : us.length = 0 ∧ ws.length = ks.length
    · rw [if_pos hc, if_pos hc]; exact Vals.pick rz π
    · rw [if_neg hc, if_neg hc]; exact .nil
section
variable {X : Cx} {CX : CXT} {k : Nat} {f : Addr} {fd : FuncData} {ps ks : List Str} {sp : Sp} {E : XK} {x : Str} {p pos : Pos} {kws : List Keyword} {tk : TA} {g : List Value → List Value → List Value} {gV : List V → List V → List V}
theorem pe_callK0 (F : FnOk X.prog X.w X.K X.mg X.base CX k f fd ps sp) (hr : Room k X.A) (hg : Gl X x) (hm : X.mg x = some (.ref f)) (hk : PySem.W.keepIn X.K (.ref f) = true) (hb : KBinds X.K fd ps ks g gV) (hx : Passes CX X E) (hkw : PK X kws tk)
    (hall : (backToKw pos (keywordEach kws X.env)).all (·.1.isSome) = true := by rfl) (hks : (backToKw pos (keywordEach kws X.env)).filterMap (·.1) = ks := by rfl) (hdb : (x == ("__debug__" : Str)) = false := by decide)
    (hpl : ((backTo pos (starEach [] X.env)).any (·.1) || (backToKw pos (keywordEach kws X.env)).any (·.1.isNone)) = false := by rfl) :
    PE X (.Call (.Name x p) [] kws pos) (fun σ H Q => tk σ H fun zs H2 => sp (gV [] zs) H2 Q E) := by
  constructor
  intro pins s σ H Q I h
  apply wpAny_Call_Name_kw
  apply ld_glob I hg hm _ hdb
  apply PySem.W.callWith_KW0 (h₀ := X.base) I.ok.mod.kin hk hall _ hpl
  apply thn (hkw.run pos pins s σ H _ I h)
  intro ws s2 hq
  obtain ⟨zs, H2, I2, rz, q2⟩ := hq
  have := run_fnk (vs := []) (us := []) F hr hb hx I2 .nil rz q2
  rw [← hks] at this
  exact ⟨I2.kIn, this⟩
end
section
variable {X : Cx} {b : Bc} {E : XK} {e : Expr} {kws : List Keyword} {f : ME} {g : MA} {m n : Nat} {nm : Option Str} {kpos : Pos}
theorem PK.imp {t t' : TA} (h : PK X kws t) (i : ∀ σ H Q, t' σ H Q → t σ H Q) : PK X kws t' := ⟨fun p pins s σ H Q I q => h.run p pins s σ H Q I (i σ H Q q)⟩
theorem k_nil : PK X [] (tA b E nilA) := PK.imp pk_nil fun σ H Q ⟨F0, O0, F, O, env, S, P, h⟩ => h F H (Same.refl _) P.fit P.inv [] rfl
theorem k_cons (h : PE X e (tE b E f)) (hr : PK X kws (tA b E g)) : PK X (⟨nm, e, kpos⟩ :: kws) (tA b E (consA f g)) :=
  PK.imp (pk_cons h hr) fun σ H Q ⟨F0, O0, F, O, env, S, P, h⟩ => ⟨F0, O0, F, O, env, S, P, (Post.bind h).imp fun d S1 F1 H1 s1 fit1 I1 k v hv => ⟨F0, O0, F1, O, env, S1, P.grow s1 fit1 I1, (Post.bind k).imp fun ds S2 F2 H2 s2 fit2 I2 k vs hvs =>
    k F2 H2 (Same.refl _) fit2 I2 (v :: vs) (Dens.cons (Den.mono s2 _ _ hv) hvs)⟩⟩
def callPK (G : List D → RP) (n : Nat) (π : List Nat) (g : MA) : ME := fun env S => bindM (g env S) fun ds S1 => if ds.length = n ∧ (pick π ds).length = π.length then liftP (G (pick π ds)) S1 else .bad
theorem e_callPK {G : List D → RP} (π : List Nat) (hc : b.c.K = X.K ∧ b.c.mg = X.mg) (hm : π.length = m) (h : ∀ t, PK X kws t → PE X e (fun σ H Q => t σ H fun zs H2 => spP X.K X.mg m G (pickK n π [] zs) H2 Q E)) (ha : PK X kws (tA b E g)) :
    PE X e (tE b E (callPK G n π g)) := PE.imp (h _ ha) fun σ H Q ⟨F0, O0, F, O, env, S, P, h⟩ => ⟨F0, O0, F, O, env, S, P, (Post.bind h).imp fun ds S1 F1 H1 s1 fit1 I1 k vs hvs => by
    by_cases hz : ds.length = n ∧ (pick π ds).length = π.length
    · rw [if_pos hz] at k
      obtain ⟨⟨K, mg, l⟩, stf, TP, own⟩ := b
      obtain ⟨T0, tp, fit1⟩ := fit1
      obtain ⟨h1, h2⟩ := hc
      cases h1
      cases h2
      have hv2 := hvs.pick π
      have e : pickK n π [] vs = pick π vs := by
        unfold pickK
        rw [if_pos ⟨rfl, by rw [← hvs.length]; exact hz.1⟩]
      rw [e]
      refine ⟨by rw [← hv2.length, hz.2]; exact hm, l, F1, O, _, pick π ds, fit1, hv2, ?_⟩
      revert k
      cases hG : G (pick π ds) with
      | ok d => exact fun k v F' H' s f dv => k F' H' s ⟨T0, TP.mono tp s, f⟩ (I1.mono s) v dv
      | exc n f fs => exact fun k cls dd F' H' s f x => k cls dd F' H' s ⟨T0, TP.mono tp s, f⟩ (I1.mono s) x
      | bad => exact fun k => False.elim k
    · rw [if_neg hz] at k
      exact False.elim k⟩
end
end VS
namespace VS
open PySem PySem.Spec PyProof.Rows L2
section
variable {X : Cx} {pins : List (Addr × Obj)} {σ : L2.St} {H : Hp} {s : Shared}
theorem Inv.track {a : Addr} {oe : Obj} {u : HO} (I : Inv X pins σ H s) (na : H a = none) (n0 : X.s_0.heap.get? a = none) (ho : s.heap.get? a = some oe) (nc : ∀ v, oe.data ≠ .cell v) (nL : a ≠ X.env.locals) (np : ∀ p ∈ X.pn ++ pins, p.1 ≠ a)
    (new : ObjOk X.prog X.w (upd H a u) s.heap a u) : Inv X pins σ (upd H a u) s where
  ok := I.ok
  os := I.os
  bare := I.bare
  base := {
    keep := I.base.keep
    slot := I.base.slot
    free := fun b o e n hx => by
      have nb : b ≠ a := fun z => by subst z; rw [n0] at e; cases e
      rw [upd_ne nb]
      exact I.base.free b o e n hx
    there := I.base.there
    tups := fun b xs e => by
      have q := I.base.tups b xs e
      rw [upd_ne (ne_of_none q na)]
      exact q
    frzs := fun b o v e => by
      have q := I.base.frzs b o v e
      rw [upd_ne (ne_of_none q na)]
      exact q
    tbls := fun b ps e => by
      obtain ⟨more, q⟩ := I.base.tbls b ps e
      exact ⟨more, by rw [upd_ne (ne_of_none q na)]; exact q⟩ }
  loc := I.loc
  cell := I.cell
  free := by rw [upd_ne (Ne.symm nL)]; exact I.free
  freeC := fun x c e => by
    have nac : c ≠ a := fun z => by
      subst z
      obtain ⟨v, o, q1, q2⟩ := I.cell x c e
      rw [ho] at q1
      cases q1
      exact nc v q2
    rw [upd_ne nac]
    exact I.freeC x c e
  pin := fun p hp => by
    obtain ⟨h1, h2, h3⟩ := I.pin p hp
    exact ⟨h1, by rw [upd_ne (np p hp)]; exact h2, h3⟩
  hok := fun b o e => by
    by_cases hb : b = a
    · subst hb
      rw [upd_same] at e
      cases e
      exact new
    · rw [upd_ne hb] at e
      exact (I.hok b o e).stay (fun _ _ _ q => q) (fun c q => by rw [upd_ne (ne_of_none q na)]; exact q) fun c xs q => by rw [upd_ne (ne_of_none q na)]; exact q
  len := I.len
end
def wCatch (K : PySem.W.Frag) (c : Value) (m i : Nat) (ts : Addr → Value → Option Addr → TS) (D : Ends) : WX := fun cls d σ H => PySem.W.exmOne K cls c = some true ∧
  ∀ a, H a = none → σ.length = m → ts a cls d { nx := fun σ' H' => H' a = none ∧ D.nx (σ'.set i none) (upd H' a (ExO cls d a)), rt := fun _ _ => False, bk := fun _ _ => False, ct := fun _ _ => False } (σ.set i (some (.ref a))) H
section
variable {X : Cx} {x n : Str} {c : Value} {i : Nat} {body suite : List Stmt} {b₀ : Stmt} {np pos pos' : Pos} {tb : WX → TS} {ts : Addr → Value → Option Addr → TS}
theorem ps_catch (hs : X.stack = X.env :: X.outer) (hf : X.env.frame = some X.env.locals) (hN : X.N.Nodup) (hi : X.N[i]? = some n) (hln : X.env.kindOf n = some .local) (hex : X.ex = []) (hc : Names X x c)
    (hb : ∀ (W : WX) (pn : List (Addr × Obj)) (xe : Value → Shared → Prop), Takes (X.tr pn xe) W → PassesOwn (model X.prog X.w) X.A X.env xe → PSs (X.tr pn xe) body (tb W))
    (hsu : ∀ (a : Addr) (oe : Obj) (cls : Value) (d : Option Addr) (pn : List (Addr × Obj)), PSs (X.suite a ((a, oe) :: pn)) (b₀ :: suite) (ts a cls d)) :
    PS X (.Try body [.ExceptHandler (some (.Name x np)) (some n) (b₀ :: suite) pos'] [] [] pos) (fun D σ H => tb (wCatch X.K c X.N.length i ts D) D σ H) := by
  constructor
  intro pins s σ H D I h
  have ok := I.ok
  have hA : X.A.frames = some (X.env :: X.outer) := ok.frames.trans (by rw [hs])
  have hcatch : Takes (X.tr (X.pn ++ pins) fun e s₁ => wpAny (model X.prog X.w) X.A (noteFrame e X.env) (fun _ s₂ => wpAny (model X.prog X.w) X.A (setFlight e none) (fun _ s₃ =>
      wpAny (model X.prog X.w) X.A (handleBy e X.env [.ExceptHandler (some (.Name x np)) (some n) (b₀ :: suite) pos']) (SP X pins D) X.xe s₃) X.xe s₂) X.xe s₁) (wCatch X.K c X.N.length i ts D) := by
    intro u s' xx
    obtain ⟨a, B, t0, pins', σ', H', cls, d, rfl, J0, nb, up, sky, na, os, ag, hyes, hgo⟩ := xx
    have J := J0.ofTry ok
    have skyX : Sky B (X.env :: X.outer) a (Zc cls d) X.env.locals s'.heap := hs ▸ sky
    have B0 : B.get? a = none := by
      rcases skyX with q | q | q
      · exact q.2.1
      · exact q.2.1
      · exact q.2.1
    show wpAny (model X.prog X.w) X.A (noteFrame (.ref a) X.env) _ _ _
    refine Sky.land Zc.steady hA hf skyX fun h3 fl3 up3 => ?_
    obtain ⟨o3, v3, g3, z3, d3⟩ := fl3.there
    have J3 : Inv X pins σ' H' { s' with heap := h3 } := J.landed nb fl3.1 (up.trans up3) os ag
    -- no frame, made since
    have nofr : a ∉ frs (X.env :: X.outer) := fun hm => by
      obtain ⟨_, o', q, hnf⟩ := fl3.2.2.1.mem hm
      rw [g3] at q
      cases q
      exact hnf _ d3
    have t0a : t0.heap.get? a = none := by
      cases q : t0.heap.get? a with
      | none => rfl
      | some o' =>
        have := nb a o' q (by rw [hs]; exact nofr)
        rw [B0] at this
        cases this
    have nLoc : a ≠ X.env.locals := fun z => nofr (List.mem_filterMap.mpr ⟨X.env, List.mem_cons_self, by rw [hf, z]⟩)
    have nFs : a ∉ X.fs := fun hm => by
      obtain ⟨e, he, q⟩ := List.mem_filterMap.mp hm
      exact nofr (List.mem_filterMap.mpr ⟨e, List.mem_cons_of_mem _ he, q⟩)
    have s0a : X.s_0.heap.get? a = none := by
      cases q : X.s_0.heap.get? a with
      | none => rfl
      | some o' =>
        obtain ⟨o'', q2⟩ := J.base.there a o' q (by rw [hex]; simp)
        rw [t0a] at q2
        cases q2
    have nPin : ∀ p ∈ X.pn ++ pins, p.1 ≠ a := fun p hp z => by
      have q := (J.pin p hp).1
      rw [z, t0a] at q
      cases q
    have S3 := J3.suite g3 d3 na nLoc nFs
    refine wpAny_handleBy_cons (codeAny_handlers_test ?_) (by intro q; cases q)
    have look : PySem.W.Looks (model X.prog X.w) h3 (typeOf (.ref a)) cls := fun _ _ _ _ k q => wpAny_typeOf_ref (k _ _ g3) (by rw [z3.1]; exact q)
    have asks := PySem.W.exm_one (M := model X.prog X.w) J3.kIn look hyes
    have name : ∀ {Q E : Value → Shared → Prop}, Q c { s' with heap := h3 } → wpAny (model X.prog X.w) (X.A.mark (some (.ref a))) (eval (.Name x np) X.env) Q E { s' with heap := h3 } := fun {Q E} q => by
      obtain ⟨hg, hdb, hm⟩ := hc
      rcases hm with hm | ⟨hm, hv, hnn⟩
      · exact ld_glob (X := X.suite a ((a, o3) :: (X.pn ++ pins))) S3 hg hm q hdb
      · exact ld_blt (X := X.suite a ((a, o3) :: (X.pn ++ pins))) S3 hg hm hv q hnn hdb
    refine name (asks.here (codeAny_handlers_suite_as ?_))
    refine HandSPX.lands_againZ fl3 fun h4 fl4 up4 => ?_
    obtain ⟨o4, v4, g4, z4, d4⟩ := fl4.there
    have J4 : Inv X pins σ' H' { s' with heap := h4 } := J.landed nb fl4.1 ((up.trans up3).trans up4) os ag
    have S4 := J4.suite g4 d4 na nLoc nFs
    refine store_ok (X := X.suite a ((a, o4) :: (X.pn ++ pins))) (v := .ref a) S4 hN hi (.inl hln) rfl (fun s5 S5 => ?_) (.inr hln)
    refine wpAny_mono ((hsu a o4 cls d (X.pn ++ pins)).run [] s5 _ H' _ S5 (hgo a na J.len)) (fun fl s6 q6 => ?_) fun _ _ z => z.elim
    cases fl with
    | next =>
      obtain ⟨σ6, H6, S6, n6, k6⟩ := q6
      have g6 := (S6.pin (a, o4) (List.mem_append_left _ List.mem_cons_self)).1
      have J6 : Inv X pins σ6 H6 s6 := S6.unsuite ok
      have nCell : ∀ v, o4.data ≠ .cell v := fun v z => by rw [d4] at z; cases z
      have J7 : Inv X pins σ6 (upd H6 a (ExO cls d a)) s6 := VS.Inv.track J6 n6 s0a g6 nCell nLoc nPin ⟨⟨o4, v4, g6, z4, d4⟩, ⟨o4, g6⟩, fun h1 h2 ⟨oe, vs, q1, q2, q3⟩ st => ⟨oe, vs, st _ q1, q2, q3⟩⟩
      exact gone_ok J7 hN hi hln fun s7 J8 => ⟨_, _, J8, k6⟩
    | brk => obtain ⟨_, _, _, z⟩ := q6; exact z.elim
    | cont => obtain ⟨_, _, _, z⟩ := q6; exact z.elim
    | ret u => obtain ⟨_, _, _, _, _, z⟩ := q6; exact z.elim
  refine wpAny_Try_except (wpAny_mono ((hb _ _ _ hcatch PassesOwn.looking).run [] s σ H D (I.toTry _) h) (fun fl s1 q => ?_) fun _ _ z => z)
  cases fl with
  | next => obtain ⟨σ', H', J', q⟩ := q; exact wpAny_execs_nil ⟨σ', H', J'.ofTry ok, q⟩
  | brk => obtain ⟨σ', H', J', q⟩ := q; exact ⟨σ', H', J'.ofTry ok, q⟩
  | cont => obtain ⟨σ', H', J', q⟩ := q; exact ⟨σ', H', J'.ofTry ok, q⟩
  | ret u => obtain ⟨v, σ', H', J', r, q⟩ := q; exact ⟨v, σ', H', J'.ofTry ok, r, q⟩
end
def TTc (K : PySem.W.Frag) (CS : Addr) : (XK → Hp → VK → Prop) → Hp → VK → Prop := fun tl H Q =>
  tl (fun cls d H' => PySem.W.exmOne K cls (.ref CS) = some true ∧ ∀ a, H' a = none → Q (.ref a) (upd H' a (ExO cls d a))) H fun _ H' => Q .non H'
theorem caught_gives {X : Cx} {Ng : List Str} {x a c n e q : Str} {sg : Scope} {g CS : Addr} {cdg : Value} {j : Nat} {p1 p2 p3 p4 p5 p6 p7 p8 p9 p10 p11 p12 p13 p14 : Pos} (hge : sg.names.lookup e = some .globalImplicit) (hme : X.mg e = some (.ref CS)) (hde : (e == ("__debug__" : Str)) = false)
    (hN : Ng = [a, c, n]) (hnd : Ng.Nodup) (hc : sg.names.lookup c = some .local) (hn : sg.names.lookup n = some .local) (dc : (c == ("__debug__" : Str)) = false) (cc : (c == ("__classdict__" : Str)) = false) (dn : (n == ("__debug__" : Str)) = false) (cn : (n == ("__classdict__" : Str)) = false)
    (hsw : ∀ env : PySem.Env, swapsWith (.Call (.Name a p1) [] [] p2) none p3.line env = pure false) :
    LamX.GivesTo X Ng x sg g cdg [.Assign [.Name c p4] (.Constant .none j p5) p6, .Try [.Expr (.Call (.Name a p1) [] [] p2) p3] [.ExceptHandler (some (.Name e p7)) (some n) [.Assign [.Name c p8] (.Name n p9) p10] p11] [] [] p12, .Return (some (.Name c p13)) p14] a q (TTc X.K CS) := by
  intro f c' s H Q tl act hco h
  subst hN
  have hgl : Gl (cxOf C8.CX0 X.prog X.w X.K X.mg X.base [a, c, n] x sg g cdg X.A X.stack s H C8.E0).nox e := hge
  refine ⟨_, pss_cons (ps_set (i := 1) hnd rfl (.inl hc) pe_non (by rfl) (.inr hc)) (pss_cons (ps_catch (X := (cxOf C8.CX0 X.prog X.w X.K X.mg X.base [a, c, n] x sg g cdg X.A X.stack s H C8.E0).nox) (i := 2) (c := .ref CS)
      (tb := fun W D σ H => ∃ Ech : XK, (∀ cls d σ' H', Ech cls d H' → W cls d σ' H') ∧ σ[0]? = some (some (.ref f)) ∧ H c' = some (LamX.CodeO c' q) ∧ tl Ech H fun _ H1 => D.nx σ H1)
      (ts := fun a cls d => tAsg (tVar 2) (gName 1))
      rfl rfl hnd rfl hn rfl ⟨hgl, hde, .inl hme⟩ (fun W pn xe tk _ => ?_) (fun a oe cls d pn => pss_one (ps_set (i := 1) hnd rfl (.inl hc) (pe_var (i := 2) rfl (.inl hn) dn cn) (by rfl) (.inr hc)))) (pss_one (ps_ret (pe_var (i := 1) rfl (.inl hc) dc cc)))), ?_⟩
  · refine ⟨fun pins s' σ H' D I h' => ?_⟩
    obtain ⟨Ech, hW, h1, h2, h3⟩ := h'
    exact (pss_one (ps_expr (pos := p3) (act W pn xe Ech p1 p2 tk hW) (hsw _))).run pins s' σ H' D I ⟨h1, h2, h3⟩
  · refine ⟨fun cls d H' => PySem.W.exmOne X.K cls (.ref CS) = some true ∧ ∀ a, H' a = none → Q (.ref a) (upd H' a (ExO cls d a)), fun cls d σ' H' hq => ⟨hq.1, fun a na hl => ?_⟩, rfl, hco, ?_⟩
    · have hl : σ'.length = 3 := hl
      obtain ⟨u0, u1, u2, rfl⟩ : ∃ u0 u1 u2, σ' = [u0, u1, u2] := by
        match σ', hl with
        | [u0, u1, u2], _ => exact ⟨_, _, _, rfl⟩
      exact ⟨_, rfl, na, _, rfl, hq.2 a na⟩
    · have eq : (fun (_ : V) (H1 : Hp) => ∃ v, (List.set (L2.start [a, c, n] [V.ref f]) 1 (some V.non))[1]? = some (some v) ∧ Q v H1) = fun _ H1 => Q .non H1 := by
        funext _ H1
        refine propext ⟨fun ⟨v, e, k⟩ => ?_, fun k => ⟨.non, rfl, k⟩⟩
        have e' : some (some V.non) = some (some v) := e
        cases e'
        exact k
      show tl _ H fun (_ : V) (H1 : Hp) => ∃ v, (List.set (L2.start [a, c, n] [V.ref f]) 1 (some V.non))[1]? = some (some v) ∧ Q v H1
      rw [eq]
      exact h
end VS
namespace VS
open PySem PySem.Spec PyProof.Rows L2
def tabT (T : List (Addr × Str)) (l : Lay) : TPr where
  P := fun T0 F => (∀ a, T0 a ≠ none → a ∈ T.map Prod.fst) ∧ (∀ p ∈ T, p.1 ≠ l.sa ∧ p.1 ≠ l.la) ∧ ∀ p ∈ T, ∃ ps : Array Value, T0 p.1 = some (.tbl ps) ∧ TriplesOk ps.toList ∧ ∀ (pos : Pos) (cv : Value), codeAmong pos ps.toList = some cv → ∃ c, cv = .ref c ∧ F c = some (LamX.CodeO c p.2)
  mono := fun {T0 F F'} h s => ⟨h.1, h.2.1, fun p hp => let ⟨ps, h1, h2, h3⟩ := h.2.2 p hp; ⟨ps, h1, h2, fun pos cv hc => let ⟨c, e1, e2⟩ := h3 pos cv hc; ⟨c, e1, s _ _ e2⟩⟩⟩
section
variable {b : Bc} {F O H H1 : Hp} {S : DS} {T : List (Addr × Str)}
theorem code_ne_lst {c : Addr} {q : Str} : ¬ LD (LamX.CodeO c q) := fun h => by
  unfold LamX.CodeO at h
  rcases h with ⟨_, z⟩ | ⟨_, z⟩ | ⟨w, a, S, n, z⟩
  · cases z
  · cases z
  · unfold L2.SetO at z
    have z := HO.ext.inj z
    let oc : Obj := { cls := .none, data := .fields #[.none, .str q 0] }
    let hp : Heap := { objs := Array.replicate (c + 1) oc }
    have hc : hp.get? c = some oc := by
      show (match (Array.replicate (c + 1) oc)[c]? with | some ⟨_, _, .freed, _⟩ => none | o => o) = some oc
      rw [Array.getElem?_replicate, if_pos (Nat.lt_succ_self c)]
    have h1 : L2.SetR w hp a S n := by
      rw [← congrFun z hp]
      exact ⟨oc, #[.none, .str q 0], 0, hc, rfl, rfl⟩
    obtain ⟨o, es, ep, t, ho, _, hd, _⟩ := h1
    have ho' : (match (Array.replicate (c + 1) oc)[a]? with | some ⟨_, _, .freed, _⟩ => none | o => o) = some o := ho
    rw [Array.getElem?_replicate] at ho'
    by_cases ha : a < c + 1
    · rw [if_pos ha] at ho'; cases ho'; cases hd
    · rw [if_neg ha] at ho'; cases ho'
theorem tab_in (h : FitB b F O S H) (hT : b.TP = tabT T b.c.l) (hs : b.stf = true) : LamX.Tabs T H := by
  obtain ⟨T0, tp, fit⟩ := h
  rw [hT] at tp
  obtain ⟨_, h2, h3⟩ := tp
  intro p hp
  obtain ⟨ps, e1, e2, e3⟩ := h3 p hp
  refine ⟨ps, fit.t _ _ ?_, e2, fun pos cv hc => ?_⟩
  · unfold Bc.T stT
    rw [if_pos hs, if_neg (h2 p hp).1, if_neg (h2 p hp).2]
    exact e1
  · obtain ⟨c, e, e'⟩ := e3 pos cv hc
    exact ⟨c, e, fit.f _ _ e'⟩
open Classical in
theorem tab_out (h : FitB b F O S H) (I : b.I S F) (hT : b.TP = tabT T b.c.l) (hs : b.stf = true) (eN : LamX.ExtN H H1) (t1 : LamX.Tabs T H1) : ∃ F1, Same F F1 ∧ FitB b F1 O S H1 := by
  obtain ⟨T0, tp, fit⟩ := h
  have tp' := tp
  rw [hT] at tp
  obtain ⟨h1, h2, h3⟩ := tp
  have hI := I hs
  -- all but the tables of T stay
  have kF : ∀ a o, F a = some o → H1 a = some o := fun a o e => eN a o (fit.f _ _ e) fun ps z => fit.nt a o e ps z
  have kO : ∀ a o, O a = some o → H1 a = some o := fun a o e => eN a o (fit.o _ _ e) fun ps z => (fit.ld a o e).nt ps z
  have tS : ∀ a o, b.T S T0 a = some o → LD o ∨ (a ∈ T.map Prod.fst ∧ T0 a = some o ∧ a ≠ b.c.l.sa ∧ a ≠ b.c.l.la) := fun a o e => by
    unfold Bc.T stT at e
    rw [if_pos hs] at e
    split at e
    · cases e; exact .inl (.inr (.inl ⟨_, rfl⟩))
    · rename_i n1
      split at e
      · cases e; exact .inl (.inl ⟨_, rfl⟩)
      · rename_i n2
        exact .inr ⟨h1 a (by rw [e]; simp), e, n1, n2⟩
  have atP : ∀ p ∈ T, ∃ ps, b.T S T0 p.1 = some (.tbl ps) := fun p hp => by
    obtain ⟨ps, e1, _⟩ := h3 p hp
    refine ⟨ps, ?_⟩
    unfold Bc.T stT
    rw [if_pos hs, if_neg (h2 p hp).1, if_neg (h2 p hp).2]
    exact e1
  let isC : Addr → Prop := fun a => (∃ q, H1 a = some (LamX.CodeO a q)) ∧ O a = none ∧ b.T S T0 a = none
  let F1 : Hp := fun a => match F a with | some o => some o | none => if isC a then H1 a else none
  let T1 : Hp := fun a => if a ∈ T.map Prod.fst then H1 a else none
  have sF : Same F F1 := fun a o e => by show (match F a with | some o => some o | none => if isC a then H1 a else none) = some o; rw [e]
  have F1k : ∀ a o, F1 a = some o → H1 a = some o := fun a o e => by
    have e : (match F a with | some o => some o | none => if isC a then H1 a else none) = some o := e
    split at e
    · rename_i o' q; cases e; exact kF _ _ q
    · split at e
      · exact e
      · cases e
  have dom : ∀ a, b.T S T1 a ≠ none → b.T S T0 a ≠ none := fun a q => by
    unfold Bc.T stT at q ⊢
    rw [if_pos hs] at q ⊢
    split at q
    · rename_i n1; rw [if_pos n1]; simp
    · rename_i n1
      rw [if_neg n1]
      split at q
      · rename_i n2; rw [if_pos n2]; simp
      · rename_i n2
        rw [if_neg n2]
        show T0 a ≠ none
        have q : (if a ∈ T.map Prod.fst then H1 a else none) ≠ none := q
        split at q
        · rename_i hm
          obtain ⟨p, hp, e⟩ := List.mem_map.mp hm
          obtain ⟨ps, e1, _⟩ := h3 p hp
          rw [← e, e1]; simp
        · exact absurd rfl q
  have code : ∀ p ∈ T, ∀ c, H1 c = some (LamX.CodeO c p.2) → F1 c = some (LamX.CodeO c p.2) := fun p hp c e => by
    show (match F c with | some o => some o | none => if isC c then H1 c else none) = some _
    split
    · rename_i o q
      have := kF _ _ q
      rw [e] at this
      exact this.symm
    · have oc : O c = none := by
        cases q : O c with
        | none => rfl
        | some o =>
          have := kO _ _ q
          rw [e] at this
          cases this
          exact absurd (fit.ld _ _ q) code_ne_lst
      have tc : b.T S T0 c = none := by
        cases q : b.T S T0 c with
        | none => rfl
        | some o =>
          rcases tS c o q with z | ⟨hm, z, _⟩
          · have := eN c o (fit.t _ _ q) fun ps z' => z.nt ps z'
            rw [e] at this
            cases this
            exact absurd z code_ne_lst
          · obtain ⟨p', hp', e'⟩ := List.mem_map.mp hm
            obtain ⟨ps, q1, _⟩ := t1 p' hp'
            rw [e', e] at q1
            cases q1
      rw [if_pos (show isC c from ⟨⟨_, e⟩, oc, tc⟩), e]
  refine ⟨F1, sF, T1, ?_, ⟨F1k, kO, fun a o e => ?_, fun a q => ?_, fun a q => ?_, fun a q => fit.ot a (dom a q), fun a o e => ?_, fit.ld⟩⟩
  · rw [hT]
    refine ⟨fun a q => ?_, h2, fun p hp => ?_⟩
    · have q : (if a ∈ T.map Prod.fst then H1 a else none) ≠ none := q
      split at q
      · assumption
      · exact absurd rfl q
    · obtain ⟨ps, q1, q2, q3⟩ := t1 p hp
      refine ⟨ps, (if_pos (List.mem_map.mpr ⟨p, hp, rfl⟩)).trans q1, q2, fun pos cv hc => ?_⟩
      obtain ⟨c, e1, e2⟩ := q3 pos cv hc
      exact ⟨c, e1, code p hp c e2⟩
  · have e' := e
    unfold Bc.T stT at e
    rw [if_pos hs] at e
    split at e
    · rename_i n1
      have q : b.T S T0 a = some o := by unfold Bc.T stT; rw [if_pos hs, if_pos n1]; exact e
      exact eN a o (fit.t _ _ q) fun ps z => by cases e; cases z
    · rename_i n1
      split at e
      · rename_i n2
        have q : b.T S T0 a = some o := by unfold Bc.T stT; rw [if_pos hs, if_neg n1, if_pos n2]; exact e
        exact eN a o (fit.t _ _ q) fun ps z => by cases e; cases z
      · have e : (if a ∈ T.map Prod.fst then H1 a else none) = some o := e
        split at e
        · exact e
        · cases e
  · show (match F a with | some o => some o | none => if isC a then H1 a else none) = none
    rw [fit.fo a q]
    show (if isC a then H1 a else none) = none
    exact if_neg fun z => q z.2.1
  · show (match F a with | some o => some o | none => if isC a then H1 a else none) = none
    rw [fit.ft a (dom a q)]
    show (if isC a then H1 a else none) = none
    exact if_neg fun z => dom a q z.2.2
  · have e : (match F a with | some o => some o | none => if isC a then H1 a else none) = some o := e
    split at e
    · rename_i o' q; cases e; exact fit.nt a _ q
    · split at e
      · rename_i z
        obtain ⟨⟨q, z⟩, _⟩ := z
        rw [z] at e
        cases e
        exact fun ps z => LamX.codeO_ne ps z
      · cases e
end
def caughtM (known : List Str) (f : ME) : ME := fun env S => match f env S with
  | .ok (_, S') => .ok (.non, S')
  | .exc n fl fs S' => if known.contains n = true then .ok (.exc n fl fs, S') else .bad
  | .bad => .bad
section
variable {X : Cx} {b : Bc} {E : XK} {e e1 : Expr} {f f1 : ME} {T : List (Addr × Str)} {CS : Addr}
theorem e_caught (hc : b.c.K = X.K ∧ b.c.mg = X.mg) (hT : b.TP = tabT T b.c.l) (hs : b.stf = true) (known : List Str) (hkn : ∀ n ∈ known, ∀ C, X.mg n = some (.ref C) → PySem.W.exmOne X.K (.ref C) (.ref CS) = some true)
    (h : PE X e (LamX.tLam T (TTc X.K CS) fun E => tE b E f)) : PE X e (tE b E (caughtM known f)) := PE.imp h fun σ H Q ⟨F0, O0, F, O, env, S, P, h⟩ => by
  refine ⟨tab_in P.fit hT hs, fun H1 eN T1 => ?_⟩
  obtain ⟨F1, s1, fit1⟩ := tab_out P.fit P.inv hT hs eN T1
  have P1 := P.grow s1 fit1 (P.inv.mono s1)
  refine ⟨F0, O0, F1, O, env, S, P1, ?_⟩
  revert h
  unfold caughtM
  cases f env S with
  | bad => exact fun h => h
  | ok p => obtain ⟨d, S'⟩ := p; exact fun h F' H' s fit I v _ => h F' H' (s1.trans s) fit I .non rfl
  | exc n fl fs S' =>
    intro h
    by_cases hk : known.contains n = true
    · simp only [if_pos hk] at h
      intro cls dd F' H' s fit I hx
      obtain ⟨C, us, e1, rfl, e3, e4⟩ := hx
      refine ⟨hkn n (by simpa using hk) C (by rw [← hc.2]; exact e1), fun a na => ?_⟩
      have nF := upd_none fit.f na
      have nt : NoTbl (ExO (.ref C) dd a) := fun ps z => by unfold ExO at z; cases z
      have sF := same_upd (o := ExO (.ref C) dd a) nF
      refine h (upd F' a (ExO (.ref C) dd a)) _ ((s1.trans s).trans sF) (fit.new na nt) (I.mono sF) _ ⟨a, C, dd, us, rfl, e1, upd_same, Dens.mono sF _ _ e3, ?_⟩
      cases us with
      | nil => exact e4
      | cons u r => obtain ⟨p, q1, q2⟩ := e4; exact ⟨p, q1, sF _ _ q2⟩
    · simp only [if_neg hk] at h
      exact False.elim h
end
def rIsX (K : PySem.W.Frag) : List V → Hp → VK → Prop := fun xs H Q => ∃ (a A C : Addr) (r : Bool), xs = [.ref a, .ref C] ∧ H a = some (ExO (.ref A) none a) ∧ ExcC K A ∧ PySem.W.kitOne K (.ref A) (.ref C) = some r ∧ Q (.bl r) H
def rIsC (K : PySem.W.Frag) : List V → Hp → VK → Prop := fun xs H Q => rIsi K xs H Q ∨ rIsX K xs H Q
theorem call_isC {X : Cx} : CallR X (.builtin "isinstance") (rIsC X.K) := fun pins s σ H xs us Q I r h => by
  rcases h with h | h
  · exact call_isi pins s σ H xs us Q I r h
  · obtain ⟨a, A, C, k, rfl, hH, hA, e, q⟩ := h
    obtain ⟨u1, u2, rfl, r1, r2⟩ := vals2 r
    obtain rfl : u1 = Value.ref a := r1
    obtain rfl : u2 = Value.ref C := r2
    obtain ⟨⟨oe, vs, g, z, d⟩, _⟩ := (show ObjOk X.prog X.w H s.heap a (ExO (.ref A) none a) from I.hok a _ hH)
    have J : PySem.W.InstAt s.heap a oe A none := by
      obtain ⟨oc, od, oda, osl⟩ := oe
      obtain ⟨z1, z2⟩ := z
      dsimp only at z1 z2 d
      subst z1 z2 d
      exact ⟨g, rfl, rfl, trivial⟩
    exact PySem.W.kia_one (PySem.W.handS_kitx_exc hA.hg hA.hk hA.hs hA.hd hA.ha hA.hn hA.ht hA.hm) I.kIn J e (fun z => nomatch z) fun tk => ⟨.bl k, H, I.kept (t' := tk) fun _ _ z => z, rfl, q⟩
def gIsC (tab : List (Str × Bool)) : D → Option D
  | .non => some (.bl false)
  | .exc n _ [] => (tab.lookup n).map .bl
  | _ => none
theorem e_isc {X : Cx} {b : Bc} {E : XK} {e e1 : Expr} {f1 : ME} {C : Addr} (tab : List (Str × Bool)) (hc : b.c.K = X.K ∧ b.c.mg = X.mg) (hN : PySem.W.kitOne X.K (.type "NoneType") (.ref C) = some false)
    (ht : ∀ n r, tab.lookup n = some r → ∀ A, X.mg n = some (.ref A) → ExcC X.K A ∧ PySem.W.kitOne X.K (.ref A) (.ref C) = some r) (hcl : ClsV (.ref C) (.ref C))
    (h : ∀ te, PE X e1 te → PE X e (tCB (rIsC X.K) (tCons te (tCons (tC (.ref C)) tNil)))) (h1 : PE X e1 (tE b E f1)) : PE X e (tE b E (unM (gIsC tab) f1)) :=
  PE.imp (h _ h1) fun σ H Q ⟨F0, O0, F, O, env, S, P, h⟩ => ⟨F0, O0, F, O, env, S, P, (Post.bind h).imp fun d S1 F1 H1 s1 fit1 I1 k' v hv => by
    obtain ⟨d', e', k'⟩ := Post.ofO k'
    cases d with
    | non =>
      simp only [gIsC, Option.some.injEq] at e'
      subst e'
      simp only [Den] at hv
      subst hv
      exact .inl ⟨.non, .ref C, .type "NoneType", .ref C, false, rfl, hcl, .base .non, hN, k' F1 H1 (Same.refl _) fit1 I1 _ rfl⟩
    | exc n fl fs =>
      cases fs with
      | cons _ _ => simp [gIsC] at e'
      | nil =>
        simp only [gIsC, Option.map_eq_some_iff] at e'
        obtain ⟨r, e1, rfl⟩ := e'
        obtain ⟨a, A, dd, us, rfl, q1, q2, q3, q4⟩ := hv
        simp only [Dens] at q3
        subst q3
        have q4 : dd = none := q4
        subst q4
        obtain ⟨hA, hk⟩ := ht n r e1 A (by rw [← hc.2]; exact q1)
        exact .inr ⟨a, A, C, r, rfl, fit1.f _ _ q2, hA, hk, k' F1 H1 (Same.refl _) fit1 I1 _ rfl⟩
    | _ => simp [gIsC] at e'⟩
end VS
namespace VS
open PySem PySem.Spec PyProof.Rows L2
theorem compM_eq {set : Env → D → Option Env} {test : MT} {elt : ME} {env0 : Env} {S : DS} (k : D → Bool) (y : D → D) : ∀ ds : List D, (∀ d ∈ ds, ∃ env1, set env0 d = some env1 ∧ test env1 S = .ok (k d, S) ∧ (k d = true → elt env1 S = .ok (y d, S))) →
    compM set test elt env0 ds S = .ok ((ds.filter k).map y, S)
  | [], _ => rfl
  | d :: ds, h => by
    obtain ⟨env1, h1, h2, h3⟩ := h d List.mem_cons_self
    have ih := compM_eq k y ds fun e he => h e (List.mem_cons_of_mem _ he)
    unfold compM
    simp only [h1, h2, noX, bindM]
    cases hk : k d with
    | true =>
      rw [if_pos rfl, h3 hk]
      simp only [bindM, ih, List.filter_cons_of_pos hk, List.map_cons]
    | false =>
      rw [if_neg Bool.false_ne_true, ih, List.filter_cons_of_neg (by simp [hk])]
def begun (ns : List Int) : DS := ⟨((ns.map fun i => (i.natAbs : Int)).filter fun i => decide (10 ^ 18 ≤ i)).map (· - 10 ^ 18), ns.map fun i => (i.natAbs : Int), 0, 0⟩
def spBegun (K : PySem.W.Frag) (mg : Str → Option Value) : Sp := fun vs H Q E => vs.length = 1 ∧ ∃ (l0 : Lay) (F O T : Hp) (ns : List Int), Fits F O T H ∧ Dens ⟨K, mg, l0⟩ F [.scr ns] vs ∧ ns.length ≤ 1000 ∧
  ∀ (l : Lay) F' H', Same F F' → T l.sa = none → T l.la = none → Fits F' O (stT l (begun ns) T) H' → stI ⟨K, mg, l⟩ (begun ns) F' → Q (.ref l.sa) H'
def begunTrs : List (TE × TE) := [(tC (.str "large"), tVar 3), (tC (.str "cells"), tVar 1), (tC (.str "left"), tC (.int 0)), (tC (.str "turn"), tC (.int 0))]
theorem stKV_merge (x y : V) : mergeK [] [(kLarge, x), (kCells, y), (kLeft, .int 0), (kTurn, .int 0)] = [(kLarge, x), (kCells, y), (kLeft, .int 0), (kTurn, .int 0)] := by
  have h := kne
  unfold mergeK
  simp only [List.foldl_cons, List.foldl_nil, putK, List.any_nil, List.any_cons, Bool.false_eq_true, if_false, List.nil_append, h.1, h.2.1, h.2.2.1, h.2.2.2.1, h.2.2.2.2.1, h.2.2.2.2.2, decide_false, Bool.or_self, List.cons_append]
theorem begun_read {b : Bc} {E : XK} {F O T H : Hp} {ns : List Int} {g1 g2 : MS} {σ : L2.St} {Q : VK} {bk ct : L2.St → Hp → Prop} (hown : b.own = [3]) (hst : b.stf = false) (hTP : b.TP = exT T) (P : Pre b F O F O H σ [some (.scr ns), none, none, none] S0)
    (hO : Fits F O T H) (hz : ns.length ≤ 1000)
    (h1 : g1 [some (.scr ns), none, none, none] S0 = .ok (.nx [some (.scr ns), some (.lst ((begun ns).cells.map D.int)), none, none], S0))
    (h2 : g2 [some (.scr ns), some (.lst ((begun ns).cells.map D.int)), none, none] S0 = .ok (.nx [some (.scr ns), some (.lst ((begun ns).cells.map D.int)), none, some (.lst ((begun ns).large.map D.int))], S0))
    (hQ : ∀ (l : Lay) F' H', Same F F' → T l.sa = none → T l.la = none → Fits F' O (stT l (begun ns) T) H' → stI ⟨b.c.K, b.c.mg, l⟩ (begun ns) F' → Q (.ref l.sa) H') :
    tS b E g1 { nx := fun σ1 H1 => tS b E g2 { nx := fun σ2 H2 => tDisp begunTrs σ2 H2 Q, rt := Q, bk := bk, ct := ct } σ1 H1, rt := Q, bk := bk, ct := ct } σ H := by
  refine ⟨F, O, F, O, _, S0, P, ?_⟩
  rw [h1]
  intro σ1 F1 O1 H1 P1
  refine ⟨F, O, F1, O1, _, S0, P1, ?_⟩
  rw [h2]
  intro σ2 F2 O2 H2 P2
  obtain ⟨cv, c1, c2⟩ := P2.slot 1 _ rfl (by rw [hown]; decide)
  obtain ⟨la, l1, ⟨lvs, l2, lz, l3⟩, l4⟩ := P2.slotO 3 _ rfl (by rw [hown]; decide)
  obtain ⟨ca, cvs, rfl, c3, cz, c4⟩ := c2
  have e1 := c4.ints
  have e2 := l3.ints
  subst e1 e2
  intro p hp
  obtain ⟨T0, tp, fit⟩ := P2.fit
  rw [hTP] at tp
  have tp : T0 = T := tp
  subst tp
  have eT : b.T S0 T0 = T0 := by unfold Bc.T; rw [hst]; rfl
  rw [eT] at fit
  have npl : la ≠ p := ne_of_none (fit.o _ _ l2) hp
  refine ⟨_, l1, _, c1, ?_⟩
  show upd H2 p (.dK []) p = some (.dK []) ∧ _
  refine ⟨upd_same, [(kLarge, .ref la), (kCells, .ref ca), (kLeft, .int 0), (kTurn, .int 0)], rfl, by simp, ?_⟩
  rw [stKV_merge, upd_upd]
  have nF2 : F2 la = none := fit.fo la (by rw [l2]; simp)
  have nT : T0 la = none := by
    cases q : T0 la with
    | none => rfl
    | some o => have := fit.ot la (by rw [q]; simp); rw [l2] at this; cases this
  have nTp : T0 p = none := upd_none fit.t hp
  refine hQ ⟨p, la, ca⟩ F2 _ P2.f0 nTp nT ⟨fun a o e => ?_, fun a o e => ?_, fun a o e => ?_, fun a q => ?_, fun a q => ?_, fun a q => ?_, fit.nt, fun a o e => hO.ld a o e⟩ ⟨npl.symm, c3, by simpa [begun] using hz, ?_⟩
  · rw [upd_ne (ne_of_none (fit.f _ _ e) hp)]; exact fit.f _ _ e
  · have e' := P2.o0 _ _ e
    rw [upd_ne (ne_of_none (fit.o _ _ e') hp)]; exact fit.o _ _ e'
  · unfold stT at e
    split at e
    · rename_i z; cases e; rw [z, upd_same]; rfl
    · rename_i z
      rw [upd_ne z]
      split at e
      · rename_i z2; cases e; rw [z2]; exact fit.o _ _ l2
      · exact fit.t _ _ e
  · cases q2 : O a with
    | none => exact absurd q2 q
    | some o => exact fit.fo a (by rw [P2.o0 _ _ q2]; simp)
  · unfold stT at q
    split at q
    · rename_i z; rw [z]; exact upd_none fit.f hp
    · split at q
      · rename_i z2; rw [z2]; exact nF2
      · exact fit.ft a q
  · unfold stT at q
    split at q
    · rename_i z; rw [z]; exact upd_none P2.o0 (upd_none fit.o hp)
    · split at q
      · rename_i z2; rw [z2]; exact l4
      · cases q2 : O a with
        | none => rfl
        | some o => have := fit.ot a q; rw [P2.o0 _ _ q2] at this; cases this
  · refine Nat.le_trans ?_ hz
    simp only [begun, List.length_map]
    exact Nat.le_trans (List.length_filter_le _ _) (by simp)
def begunG1 : MS := asgS 1 (lcM (setN 2) (varM 0) (fun _ S => .ok (true, S)) (cbM gAbs (consA (varM 2) nilA)) [2])
def begunG2 : MS := asgS 3 (lcM (setN 2) (varM 1) (testM (binM gGe (varM 2) (binM gPow (cM (.int 10)) (cM (.int 18))))) (binM gSub (varM 2) (binM gPow (cM (.int 10)) (cM (.int 18)))) [2])
theorem begun_g1 {ns : List Int} (hz : ns.length ≤ 1000) : begunG1 [some (.scr ns), none, none, none] S0 = .ok (.nx [some (.scr ns), some (.lst ((begun ns).cells.map D.int)), none, none], S0) := by
  have hz' : ns.length ≤ 1000000 := Nat.le_trans hz (by decide)
  have e := compM_eq (set := setN 2) (test := fun _ S => .ok (true, S)) (elt := cbM gAbs (consA (varM 2) nilA)) (env0 := wipeE [some (.scr ns), none, none, none] [2]) (S := S0) (fun _ => true) (fun d => match d with | .int i => .int (i.natAbs : Int) | _ => .non) (ns.map D.int) (fun d hd => by
    obtain ⟨i, _, rfl⟩ := List.mem_map.mp hd
    refine ⟨_, rfl, rfl, fun _ => ?_⟩
    have e2 : (if i < 0 then -i else i) = (i.natAbs : Int) := by split <;> omega
    show Res.ok (D.int (if i < 0 then -i else i), S0) = _
    rw [e2])
  unfold begunG1 asgS lcM
  have ft : ∀ l : List D, l.filter (fun _ => true) = l := fun l => List.filter_eq_self.mpr (by simp)
  simp only [varM, bindM, List.getElem?_cons_zero, if_pos hz', e, ft, List.map_map]
  simp only [begun, List.map_map]
  rfl
theorem begun_g2 {ns : List Int} : begunG2 [some (.scr ns), some (.lst ((begun ns).cells.map D.int)), none, none] S0 = .ok (.nx [some (.scr ns), some (.lst ((begun ns).cells.map D.int)), none, some (.lst ((begun ns).large.map D.int))], S0) := by
  have e := compM_eq (set := setN 2) (test := testM (binM gGe (varM 2) (binM gPow (cM (.int 10)) (cM (.int 18))))) (elt := binM gSub (varM 2) (binM gPow (cM (.int 10)) (cM (.int 18)))) (env0 := wipeE [some (.scr ns), some (.lst ((begun ns).cells.map D.int)), none, none] [2]) (S := S0)
    (fun d => match d with | .int i => decide (10 ^ 18 ≤ i) | _ => false) (fun d => match d with | .int i => .int (i - 10 ^ 18) | _ => .non) ((begun ns).cells.map D.int) (fun d hd => by
    obtain ⟨i, _, rfl⟩ := List.mem_map.mp hd
    exact ⟨_, rfl, rfl, fun _ => rfl⟩)
  unfold begunG2 asgS lcM
  simp only [varM, bindM, List.getElem?_cons_zero, List.getElem?_cons_succ, e]
  congr 3
  simp only [begun, List.filter_map, List.map_map]
  rfl
end VS
namespace VS
open PySem PySem.Spec PyProof.Rows L2
open Classical in
noncomputable def H0of (K : PySem.W.Frag) (tabs : List Addr) (a : Addr) (vs : List Value) (ns : List Int) : Hp := fun b =>
  if b ∈ tabs then some (.tbl #[]) else if b = a ∧ K.lookup a = none then some (.frz { cls := .type "list", data := .seq vs.toArray } (.lst (ns.map V.int))) else none
section
variable {P : Program} {w : World} {K : PySem.W.Frag} {mg mb : Str → Option Value} {a fa : Addr} {cs : List (Addr × Addr)} {s₁ : Shared} {vs : List Value} {ns : List Int}
theorem law_end (KX : K.In s₁.heap) (hns : s₁.heap.Ns mainGlobals mg) (hb : s₁.heap.Ns builtinsNs mb) (hbb : ∀ x : Str, x ≠ "__name__" → mb x = bootBuiltins x) (hlim : s₁.heap.NoLimit) (hg : s₁.gens = #[])
    (hT : ∀ p ∈ cs, s₁.heap.get? p.2 = some { cls := .none, data := .fields #[] }) (nT : ∀ p ∈ cs, K.lookup p.2 = none) (hcode : ∀ p ∈ cs, PySem.W.CodeHd s₁.heap p.1 p.2)
    (hbm : ∃ (bm : Addr) (ob : Obj), mg "__builtins__" = some (.ref bm) ∧ bm ≠ builtinsNs ∧ s₁.heap.get? bm = some ob ∧ ob.cls = .type "module" ∧ ob.dict = some builtinsNs ∧ ob.data = .plain)
    (ha : s₁.heap.get? a = some { cls := .type "list", data := .seq vs.toArray }) (hi : IntsAre vs ns) (hl : ns.length ≤ sizeLine)
    (run : ∀ (base : Heap) (H : Hp), K.In base → base.Ns mainGlobals mg → (∀ p ∈ cs, LamX.TabB base mg p.1 p.2) → Env0 P w K mg base callerA [] s₁ H → (∀ p ∈ cs, H p.2 = some (.tbl #[])) → SqL K H a (ns.map V.int) → (∀ b o, H b = some o → b ∈ cs.map Prod.snd ∨ NoTbl o) →
      codeAny (model P w) callerA (.call (.ref fa) ⟨[.ref a], []⟩) (CR (L2.CX P w) [] P w H s₁ (fun v _ => v = .bl true) fun _ _ _ => False) s₁) :
    codeAny (model P w) callerA (.call (.ref fa) ⟨[.ref a], []⟩) (fun r s' => r = .ok (.ret (.bool true)) ∧ OldK s₁.heap s'.heap ∧ s'.os = s₁.os ∧ AllBare s'.gens) s₁ := by
  generalize eH : H0of K (cs.map Prod.snd) a vs ns = H
  have atTab : ∀ b, b ∈ cs.map Prod.snd → s₁.heap.get? b = some { cls := .none, data := .fields #[] } ∧ K.lookup b = none := fun b hm => by
    obtain ⟨p, hp, e⟩ := List.mem_map.mp hm
    subst e
    exact ⟨hT p hp, nT p hp⟩
  have notA : a ∉ cs.map Prod.snd := fun z => by
    have q := (atTab a z).1
    rw [ha] at q
    cases congrArg Obj.data (Option.some.inj q)
  -- the three kinds of places
  have kind : ∀ b, (b ∈ cs.map Prod.snd ∧ H b = some (.tbl #[])) ∨ (b = a ∧ K.lookup a = none ∧ H b = some (.frz { cls := .type "list", data := .seq vs.toArray } (.lst (ns.map V.int)))) ∨ (H b = none ∧ b ∉ cs.map Prod.snd) := fun b => by
    rw [← eH]
    unfold H0of
    by_cases h1 : b ∈ cs.map Prod.snd
    · exact .inl ⟨h1, if_pos h1⟩
    · by_cases h2 : b = a ∧ K.lookup a = none
      · exact .inr (.inl ⟨h2.1, h2.2, by rw [if_neg h1, if_pos h2]⟩)
      · exact .inr (.inr ⟨by rw [if_neg h1, if_neg h2], h1⟩)
  have hTab : ∀ p ∈ cs, H p.2 = some (.tbl #[]) := fun p hp => by
    have hm : p.2 ∈ cs.map Prod.snd := List.mem_map.mpr ⟨p, hp, rfl⟩
    rcases kind p.2 with ⟨_, q⟩ | ⟨q, _⟩ | ⟨_, q⟩
    · exact q
    · exact absurd (q ▸ hm) notA
    · exact absurd hm q
  have hScr : SqL K H a (ns.map V.int) := by
    rcases kind a with ⟨q, _⟩ | ⟨_, _, q⟩ | ⟨q, _⟩
    · exact absurd q notA
    · exact .inl (.inr ⟨_, q⟩)
    · cases hk : K.lookup a with
      | none =>
        rw [← eH] at q
        unfold H0of at q
        rw [if_neg notA, if_pos ⟨rfl, hk⟩] at q
        cases q
      | some o =>
        have e := KX a o hk
        rw [ha] at e
        cases e
        exact .inr ⟨_, vs.toArray, _, hk, rfl, rfl, rfl, by rw [List.size_toArray, hi.length]; exact hl, by simpa using vals_ints hi⟩
  have hok : HOk P w H s₁.heap := fun b o e => by
    rcases kind b with ⟨hm, q⟩ | ⟨hm, _, q⟩ | ⟨q, _⟩
    · rw [q] at e; cases e; exact (atTab b hm).1
    · rw [q] at e; cases e; subst hm
      exact ⟨ha, by rw [List.length_map]; exact hl, vs, _, vals_ints hi, ha⟩
    · rw [q] at e; cases e
  -- what is no list of the script's form and no empty record is not tracked
  have free : ∀ {b : Addr} {o : Obj}, s₁.heap.get? b = some o → (∀ us n, o.data ≠ .seq us n) → o.data ≠ .fields #[] → H b = none := fun {b o} e n1 n2 => by
    rcases kind b with ⟨hm, _⟩ | ⟨hm, _, _⟩ | ⟨q, _⟩
    · have z := (atTab b hm).1
      rw [e] at z
      cases z
      exact absurd rfl n2
    · rw [hm, ha] at e
      cases e
      exact absurd rfl (n1 _ _)
    · exact q
  have nsOf : ∀ {b : Addr} {m : Str → Option Value}, s₁.heap.Ns b m → (hidT s₁.heap H).Ns b m := fun {b m} h => by
    obtain ⟨o, es, ep, e, hd, r⟩ := h
    exact ⟨o, es, ep, hidT_get e (free e (fun us n z => by rw [hd] at z; cases z) fun z => by rw [hd] at z; cases z), hd, r⟩
  have hK : K.In (hidT s₁.heap H) := fun b o e => hidT_get (KX b o e) (by
    rcases kind b with ⟨hm, _⟩ | ⟨hm, z, _⟩ | ⟨q, _⟩
    · rw [(atTab b hm).2] at e; cases e
    · rw [hm, z] at e; cases e
    · exact q)
  have TB : ∀ p ∈ cs, LamX.TabB (hidT s₁.heap H) mg p.1 p.2 := fun p hp => by
    constructor
    · obtain ⟨o, us, x1, x2, x3, x4, x5, x6, x7, e1, r1, r2, r3, rest⟩ := hcode p hp
      refine ⟨o, us, x1, x2, x3, x4, x5, x6, x7, hidT_get e1 (free e1 (fun ws n z => ?_) fun z => ?_), r1, r2, r3, rest⟩
      · rw [r2] at z; cases z
      · rw [r2] at z; cases z; simp at r3
    · obtain ⟨bm, ob, b1, b2, b3, b4, b5, b6⟩ := hbm
      have n1 : bm ≠ mainGlobals := fun z => by
        obtain ⟨o, es, ep, e, hd, _⟩ := hns
        rw [← z, b3] at e
        cases e
        rw [b6] at hd
        cases hd
      have n2 : bm ≠ p.2 := fun z => by
        have q := hT p hp
        rw [← z, b3] at q
        cases q
        cases b6
      exact ⟨bm, ob, b1, b2, n1, n2, hidT_get b3 (free b3 (fun us n z => by rw [b6] at z; cases z) fun z => by rw [b6] at z; cases z), b4, b5, b6⟩
    · intro z
      obtain ⟨o, es, ep, e, hd, _⟩ := hns
      have q := hT p hp
      rw [← z, e] at q
      cases q
      cases hd
  have hM : L2.Mod K mg (hidT s₁.heap H) := ⟨hK, nsOf hns, ⟨mb, nsOf hb, hbb⟩, by obtain ⟨mc, h1, h2⟩ := hlim; exact ⟨mc, nsOf h1, h2⟩⟩
  have e0 : Env0 P w K mg (hidT s₁.heap H) callerA [] s₁ H := ⟨rfl, hM, fun b o e => of_hidT e, Nat.le_of_eq (hidT_size _ _), trivial, fun b z => absurd (show b ∈ ([] : List Addr) from z) (by simp), hok, .of_eq hg⟩
  refine codeAny_mono (run _ H hK (nsOf hns) TB e0 hTab hScr fun b o e => ?_) fun r s' h => ?_
  · rcases kind b with ⟨hm, _⟩ | ⟨_, _, q⟩ | ⟨q, _⟩
    · exact .inl hm
    · rw [q] at e; cases e; exact .inr fun ps z => by cases z
    · rw [q] at e; cases e
  · cases r with
    | error e =>
      obtain ⟨_, _, _, _, _, _, _, _, _, _, _, _, z⟩ := h
      exact z.elim
    | ok fl =>
      cases fl with
      | next => exact False.elim h
      | brk => exact False.elim h
      | cont => exact False.elim h
      | ret u =>
        obtain ⟨v, H', os, bare, un, hok', rv, q⟩ := h
        obtain rfl : v = .bl true := q
        obtain rfl : u = Value.bool true := rv
        -- what stood there stands there; the tables have grown
        have old : ∀ b o, b ∉ cs.map Prod.snd → s₁.heap.get? b = some o → s'.heap.get? b = some o := fun b o nm e => by
          rcases kind b with ⟨hm, _⟩ | ⟨_, _, q⟩ | ⟨q, _⟩
          · exact absurd hm nm
          · obtain ⟨g1, _⟩ := hok b _ q
            obtain ⟨g2, _⟩ := hok' b _ (un.frzs b _ _ q)
            rw [e] at g1
            cases g1
            exact g2
          · exact un.keep b o e q (by show b ∉ ([] : List Addr); simp) (by simp)
        refine ⟨rfl, ⟨fun b o e => ?_, fun b o e => ?_⟩, os, bare⟩
        · by_cases hm : b ∈ cs.map Prod.snd
          · obtain ⟨p, hp, z⟩ := List.mem_map.mp hm
            subst z
            obtain ⟨more, g⟩ := un.tbls p.2 #[] (hTab p hp)
            have g' : s'.heap.get? p.2 = some { cls := .none, data := .fields (#[] ++ more) } := hok' p.2 _ g
            have e' := hT p hp
            rw [e] at e'
            cases e'
            exact .inr (.inl ⟨((hcode p hp).tab (hT p hp)).isCodeTable, rfl, #[], more, rfl, g'⟩)
          · exact .inl (old b o hm e)
        · by_cases hm : b ∈ cs.map Prod.snd
          · obtain ⟨p, hp, z⟩ := List.mem_map.mp hm
            subst z
            obtain ⟨more, g⟩ := un.tbls p.2 #[] (hTab p hp)
            exact ⟨_, hok' p.2 _ g⟩
          · exact ⟨o, old b o hm e⟩
end
def LawRun (P : Program) (w : World) (K : PySem.W.Frag) (n : Nat) (mg : Str → Option Value) (fa : Addr) (h : Heap) : Prop :=
  ∃ cs : List (Addr × Addr), (∀ p ∈ cs, h.get? p.2 = some { cls := .none, data := .fields #[] }) ∧ (∀ p ∈ cs, K.lookup p.2 = none) ∧ (∀ p ∈ cs, PySem.W.CodeHd h p.1 p.2) ∧
    ∀ (s₁ : Shared) (a : Addr) (ns : List Int) (base : Heap) (H : Hp), ns.length ≤ n → K.In base → base.Ns mainGlobals mg → (∀ p ∈ cs, LamX.TabB base mg p.1 p.2) → Env0 P w K mg base callerA [] s₁ H → (∀ p ∈ cs, H p.2 = some (.tbl #[])) → SqL K H a (ns.map V.int) → (∀ b o, H b = some o → b ∈ cs.map Prod.snd ∨ NoTbl o) →
      codeAny (model P w) callerA (.call (.ref fa) ⟨[.ref a], []⟩) (CR (L2.CX P w) [] P w H s₁ (fun v _ => v = .bl true) fun _ _ _ => False) s₁
theorem walk_G {l : PySem.W.OpenLaw} {n : Nat} {q : Program} {loose : List Str} {XP : (Str → Option Value) → Heap → Prop} {YP : World → Heap → Prop} {d : DefRec} {K : Params → PySem.W.Frag}
    (hn : l.most = some n) (hn2 : n ≤ sizeLine) (hdf : d.params.defaults = []) (hrec : ((recsOf q).any fun e => e.name == d.name) = true) (hY : ∀ (w : World) (h : Heap), YP w h → (K w.params).In h)
    (F : ∀ (w : World) (mg : Str → Option Value) (fa : Addr) (h : Heap), (K w.params).In h → h.Ns mainGlobals mg → mg d.name = some (.ref fa) → LamX.OwnTab (K w.params) fa h → LawRun l.prog w (K w.params) n mg fa h) :
    PySem.W.WalkO q loose XP YP l.row.toRowW d [] (fun f vs => PySem.call f vs) := by
  refine Att.attach_callB hn hdf fun w s₀ s₁ mg mb fa o pm cd doc a vs ns G Y ho hd hcd hmg hobj hints hlen hbits hg => ?_
  have KX := hY w _ Y
  have own : LamX.OwnTab (K w.params) fa s₁.heap := by
    intro c P o1 fd1 e dd vs1 sl k1 k2 k3 k4 k5
    obtain ⟨r, hm, hnm⟩ := List.any_eq_true.mp hrec
    have en : r.name = d.name := beq_iff_eq.mp hnm
    obtain ⟨a', o', fd', c', P', h1, h2, h3, h4, h5, h6⟩ := G.T.tab r hm
    rw [en, hmg] at h1
    cases h1
    have g1 := (KX _ _ k1).symm.trans h2
    cases g1
    have g2 := k2.symm.trans h3
    cases g2
    have g3 := k3.symm.trans h4
    cases g3
    obtain ⟨⟨oc, vc, e1, _, e3, e4⟩, hP⟩ := h6
    have g4 := (KX _ _ k4).symm.trans e1
    cases g4
    cases e3
    have g5 := k5.symm.trans e4
    cases g5
    exact hP
  obtain ⟨cs, hT, nT, hC, run⟩ := F w mg fa _ KX G.T.g hmg own
  exact law_end KX G.T.g G.T.b G.T.builtins G.T.nolimit hg hT nT hC G.T.bmain hobj hints (Nat.le_trans hlen hn2) fun base H hK hN hTB e0 hH hS hno => run s₁ a ns base H hlen hK hN hTB e0 hH hS hno
theorem pe_caught {X : Cx} {Tb : List (Addr × Str)} {TT : (XK → Hp → VK → Prop) → Hp → VK → Prop} {x a : Str} {g c Pt : Addr} {fd : FuncData} {st : Stmt} {Ng : List Str} {k : Nat} {params : Arguments} {body : Expr} {scope : Scope} {t : XK → TE} {p lpos pos : Pos}
    (F : Fun X.K x x st g fd) (hg : Gl X x) (hm : X.mg x = some (.ref g)) (Sg : FnScope Ng [a] (defScope st)) (hNg : Ng[0]? = some a) (hva : Vis (defScope st) a) (hb : L2.Binds X.K fd [a] [])
    (hG : ∀ cdv, LamX.GivesTo X Ng x (defScope st) g cdv (defBody st) a (X.env.qual ++ "<lambda>") TT)
    (TB : LamX.TabB X.base X.mg c Pt) (hcode : X.env.code = .ref c) (hmT : (Pt, X.env.qual ++ "<lambda>") ∈ Tb) (hu : ∀ p ∈ Tb, p.1 = Pt → p.2 = X.env.qual ++ "<lambda>") (hr : Room (k + 2) X.A) (L : LamX.LamS X.env.scope scope) (hdef : defaultsOf params X.env = ([], []))
    (hbind : ∀ (q : Str) (cl : List (Str × Addr)) (pm cv ctv : Value), bindArgs (PySem.W.kla_fn "<lambda>" q params body scope cl pm cv ctv) ⟨[], []⟩ = pure [])
    (hbody : ∀ (A : Around) (outer : List PySem.Env) (s : Shared) (H : Hp) (E : XK) (f c' : Addr), Room k (A.deeper (LamX.lamEnv X scope s.heap.objs.size f c')) → PE (LamX.lamCx X A outer s H E scope f c') body (t E))
    (hdb : (x == ("__debug__" : Str)) = false := by decide) (hd : (a == ("__debug__" : Str)) = false := by decide) (hcd : (a == ("__classdict__" : Str)) = false := by decide) :
    PE X (.Call (.Name x p) [.Lambda params body scope lpos] [] pos) (LamX.tLam Tb TT t) := by
  have kp := F.kp
  obtain ⟨oc, od, kV, doc, pm, an, cdv, ct, osl, rfl, lk, hcg⟩ := F.ex
  exact LamX.pe_lamcall hg hm kp lk hcg hb Sg hNg hva (hG cdv) TB hcode hmT hu hr L hdef hbind hbody hdb hd hcd
theorem PSs.ex {X : Cx} {ι : Type} {ss : List Stmt} {t : ι → TS} (h : ∀ i, PSs X ss (t i)) : PSs X ss (fun D σ H => ∃ i, t i D σ H) := ⟨fun pins s σ H D I ⟨i, k⟩ => (h i).run pins s σ H D I k⟩
theorem law_start {K : PySem.W.Frag} {mg : Str → Option Value} {Pt a : Addr} {q : Str} {own : List Nat} {ns : List Int} {H : Hp} {E : XK} {g : MS} {N : Nat} {σ : L2.St} {Q : VK} {nxx bk ct : L2.St → Hp → Prop} (hH : H Pt = some (.tbl #[])) (hS : SqL K H a (ns.map V.int)) (hno : ∀ b o, H b = some o → b ∈ [Pt] ∨ NoTbl o) (hz : ns.length ≤ 1000)
    (hσ : σ = some (.ref a) :: List.replicate N none) (hown : own.all (fun i => decide (1 < i)) = true) (hg : ∃ S', g (some (.scr ns) :: some .st :: List.replicate (N - 1) none) (begun ns) = .ok (.rt (.bl true), S')) (hN : 1 ≤ N) (hQ : ∀ H', Q (.bl true) H') :
    spBegun K mg [.ref a] H (fun v H' => ∃ l : Lay, tS (bS K mg l (tabT [(Pt, q)] l) own) E g { nx := nxx, rt := Q, bk := bk, ct := ct } (σ.set 1 (some v)) H') E := by
  let F : Hp := fun b => if b = Pt then none else if b = a then H b else none
  let T : Hp := fun b => if b = Pt then some (.tbl #[]) else none
  have Fk : ∀ b o, F b = some o → b ≠ Pt ∧ H b = some o := fun b o e => by
    have e : (if b = Pt then none else if b = a then H b else none) = some o := e
    split at e
    · cases e
    · split at e
      · exact ⟨by assumption, e⟩
      · cases e
  have Tk : ∀ b, T b ≠ none → b = Pt := fun b e => by
    have e : (if b = Pt then some (HO.tbl #[]) else none) ≠ none := e
    split at e
    · assumption
    · exact absurd rfl e
  have TP : T Pt = some (.tbl #[]) := if_pos rfl
  have fit : Fits F (fun _ => none) T H := by
    refine ⟨fun b o e => (Fk b o e).2, fun b o e => (by cases e), fun b o e => ?_, fun b e => absurd rfl e, fun b e => ?_, fun b e => rfl, fun b o e => ?_, fun b o e => (by cases e)⟩
    · have := Tk b (by rw [e]; simp)
      subst this
      rw [TP] at e
      rw [hH]; exact e
    · rw [Tk b e]; exact if_pos rfl
    · obtain ⟨n1, q⟩ := Fk b o e
      rcases hno b o q with z | z
      · exact absurd (List.mem_singleton.mp z) n1
      · exact z
  have scr : SqL K F a (ns.map V.int) := by
    rcases hS with (h | ⟨o, h⟩) | h
    · have n : a ≠ Pt := fun z => by rw [z, hH] at h; cases h
      exact .inl (.inl (by show (if a = Pt then none else if a = a then H a else none) = _; rw [if_neg n, if_pos rfl]; exact h))
    · have n : a ≠ Pt := fun z => by rw [z, hH] at h; cases h
      exact .inl (.inr ⟨o, by show (if a = Pt then none else if a = a then H a else none) = _; rw [if_neg n, if_pos rfl]; exact h⟩)
    · exact .inr h
  refine ⟨rfl, ⟨0, 0, 0⟩, F, fun _ => none, T, ns, fit, ⟨.ref a, [], rfl, ⟨a, rfl, scr⟩, rfl⟩, hz, fun l F' H' s hsa hla fit' I' => ⟨l, F', fun _ => none, F', fun _ => none, some (.scr ns) :: some .st :: List.replicate (N - 1) none, begun ns, ?_, ?_⟩⟩
  · have nP : Pt ≠ l.sa ∧ Pt ≠ l.la := ⟨fun z => (by rw [← z, TP] at hsa; cases hsa), fun z => (by rw [← z, TP] at hla; cases hla)⟩
    have get2 : ∀ i d, (some (D.scr ns) :: some D.st :: List.replicate (N - 1) none)[i]? = some (some d) → (i = 0 ∧ d = .scr ns) ∨ (i = 1 ∧ d = .st) := fun i d h => by
      match i, h with
      | 0, h => simp at h; exact .inl ⟨rfl, h.symm⟩
      | 1, h => simp at h; exact .inr ⟨rfl, h.symm⟩
      | i + 2, h =>
        simp only [List.getElem?_cons_succ, List.getElem?_replicate] at h
        split at h <;> cases h
    obtain ⟨N, rfl⟩ : ∃ m, N = m + 1 := ⟨N - 1, by omega⟩
    refine ⟨⟨T, ⟨fun b e => by rw [Tk b e]; exact List.mem_singleton.mpr rfl, fun p hp => by rw [List.mem_singleton.mp hp]; exact nP, fun p hp => ?_⟩, fit'⟩, Same.refl _, Same.refl _, fun _ => I', fun i d h n => ?_, fun i d h n => ?_, fun i j x hi hj e1 e2 h1 h2 => ?_, ?_⟩
    · rw [List.mem_singleton.mp hp]
      refine ⟨#[], TP, True.intro, fun pos cv hc => ?_⟩
      have z : codeAmong pos [] = some cv := hc
      simp [codeAmong] at z
    · rw [hσ]
      rcases get2 i d h with ⟨rfl, rfl⟩ | ⟨rfl, rfl⟩
      · exact ⟨.ref a, rfl, a, rfl, s.seq scr⟩
      · exact ⟨.ref l.sa, by simp [List.replicate_succ], rfl⟩
    · have := of_decide_eq_true (List.all_eq_true.mp hown i n)
      rcases get2 i d h with ⟨rfl, _⟩ | ⟨rfl, _⟩ <;> omega
    · obtain ⟨d, e1⟩ := e1
      have := of_decide_eq_true (List.all_eq_true.mp hown i hi)
      rcases get2 i d e1 with ⟨rfl, _⟩ | ⟨rfl, _⟩ <;> omega
    · rw [hσ]
      simp
  · obtain ⟨S', hg⟩ := hg
    rw [hg]
    intro v F2 O2 H2 _ _ _ _ hv
    have hv : v = .bl true := hv
    subst hv
    exact hQ H2
def IscT (K : PySem.W.Frag) (mg : Str → Option Value) (C : Addr) (tab : List (Str × Bool)) : Prop := ∀ n r, tab.lookup n = some r → ∀ A, mg n = some (.ref A) → ExcC K A ∧ PySem.W.kitOne K (.ref A) (.ref C) = some r
theorem isc_nil {K : PySem.W.Frag} {mg : Str → Option Value} {C : Addr} : IscT K mg C [] := fun n r h => by cases h
theorem isc_cons {K : PySem.W.Frag} {mg : Str → Option Value} {C C0 : Addr} {n0 : Str} {r0 : Bool} {tab : List (Str × Bool)} (hg : mg n0 = some (.ref C0)) (hx : ExcC K C0) (hk : PySem.W.kitOne K (.ref C0) (.ref C) = some r0) (h : IscT K mg C tab) : IscT K mg C ((n0, r0) :: tab) := fun n r hl A hm => by
  by_cases e : n = n0
  · subst e
    rw [List.lookup_cons_self] at hl
    cases hl
    rw [hg] at hm
    cases hm
    exact ⟨hx, hk⟩
  · have e2 : (n == n0) = false := by simpa using e
    rw [List.lookup_cons, e2] at hl
    exact h n r hl A hm
def KnT (K : PySem.W.Frag) (mg : Str → Option Value) (CS : Addr) (l : List Str) : Prop := ∀ n ∈ l, ∀ C, mg n = some (.ref C) → PySem.W.exmOne K (.ref C) (.ref CS) = some true
theorem kn_nil {K : PySem.W.Frag} {mg : Str → Option Value} {CS : Addr} : KnT K mg CS [] := fun n h => by cases h
theorem kn_cons {K : PySem.W.Frag} {mg : Str → Option Value} {CS C0 : Addr} {n0 : Str} {l : List Str} (hg : mg n0 = some (.ref C0)) (hk : PySem.W.exmOne K (.ref C0) (.ref CS) = some true) (h : KnT K mg CS l) : KnT K mg CS (n0 :: l) := fun n hm C e => by
  rcases List.mem_cons.mp hm with z | z
  · subst z; rw [hg] at e; cases e; exact hk
  · exact h n z C e
def retE : Stmt → Expr
  | .Return (some e) _ => e
  | _ => .Constant .none 0 ⟨0, 0, 0, 0⟩
theorem kit_sub {K : PySem.W.Frag} {t : Value} {C : Addr} {r : Bool} (hne : (t == Value.ref C) = true → r = true) (hd : PySem.W.hasDictIn K C = true) (ht : PySem.W.typeIn K (.ref C) = some (.type "type")) (hs : PySem.W.subIn K t (.ref C) = some r) : PySem.W.kitOne K t (.ref C) = some r := by
  unfold PySem.W.kitOne
  by_cases h : (t == Value.ref C) = true
  · rw [if_pos h, hne h]
  · rw [if_neg h]
    obtain ⟨cd, hc, _⟩ := PySem.W.any_some hd
    have e : ((PySem.W.clsIn K C).isSome && PySem.W.typeIn K (.ref C) == some (.type "type")) = true := by rw [hc, ht]; rfl
    show (if ((PySem.W.clsIn K C).isSome && PySem.W.typeIn K (.ref C) == some (.type "type")) = true then PySem.W.subIn K t (.ref C) else none) = some r
    rw [if_pos e]
    exact hs
theorem ref_ne {a c : Addr} (h : (a == c) = false) : (Value.ref a == Value.ref c) = true → false = true := fun z => by
  have e := beq_iff_eq.mp z
  cases e
  simp at h
theorem hd_lookup {K : PySem.W.Frag} {c P : Addr} (e : PySem.W.codeHdIn K c P = true) : ∃ dd vs sl, K.lookup c = some ⟨.type "code", dd, .fields vs, sl⟩ ∧ vs[11]? = some (.ref P) := by
  unfold PySem.W.codeHdIn at e
  split at e
  · rename_i dd vs sl hk
    simp only [Bool.and_eq_true] at e
    obtain ⟨⟨⟨⟨⟨e1, _⟩, _⟩, _⟩, _⟩, _⟩ := e
    split at e1
    · rename_i P' h11
      have hP : P' = P := beq_iff_eq.mp e1
      subst hP
      exact ⟨_, vs, _, hk, h11⟩
    · cases e1
  · cases e
end VS
namespace VS
open PySem PySem.Spec PyProof.Rows L2
def flatOf : D → Option V
  | .non => some .non
  | .bl b => some (.bl b)
  | .int i => some (.int i)
  | .str x => some (.str x)
  | _ => none
def flatsOf : List D → Option (List V)
  | [] => some []
  | d :: ds => match flatOf d, flatsOf ds with
    | some v, some vs => some (v :: vs)
    | _, _ => none
def inD' (d : D) : D → Option Bool
  | .tup xs => match flatOf d, flatsOf xs with
    | some v, some vs => some (inV v vs)
    | _, _ => none
  | .lst xs => match flatOf d, flatsOf xs with
    | some v, some vs => some (inV v vs)
    | _, _ => none
  | .scr ns => match flatOf d with
    | some v => some (inV v (ns.map V.int))
    | _ => none
  | _ => none
def gIn (d e : D) : Option D := (inD' d e).map .bl
def gNotIn (d e : D) : Option D := (inD' d e).map fun k => .bl (!k)
variable {c : Dc}
theorem flatOf_den {F O : Hp} {d : D} {v w : V} (h : DenB c F O d v) (e : flatOf d = some w) : v = w ∧ flatV w = true := by
  cases d <;> simp only [flatOf, reduceCtorEq, Option.some.injEq] at e <;> subst e <;> simp only [DenB, Den] at h <;> subst h <;> exact ⟨rfl, rfl⟩
theorem flatOf_den' {F : Hp} {d : D} {v w : V} (h : Den c F d v) (e : flatOf d = some w) : v = w ∧ flatV w = true := by
  cases d <;> simp only [flatOf, reduceCtorEq, Option.some.injEq] at e <;> subst e <;> simp only [Den] at h <;> subst h <;> exact ⟨rfl, rfl⟩
theorem flatsOf_den {F : Hp} : ∀ {ds : List D} {vs ws : List V}, Dens c F ds vs → flatsOf ds = some ws → vs = ws ∧ ws.all flatV = true
  | [], _, _, h, e => by simp only [Dens] at h; cases e; exact ⟨h, rfl⟩
  | d :: ds, _, _, h, e => by
    simp only [Dens] at h
    obtain ⟨v, r, rfl, h1, h2⟩ := h
    simp only [flatsOf] at e
    split at e
    · rename_i w ws e1 e2
      cases e
      obtain ⟨rfl, a⟩ := flatOf_den' h1 e1
      obtain ⟨rfl, b⟩ := flatsOf_den h2 e2
      exact ⟨rfl, by simp [a, b]⟩
    · cases e
theorem flat_ints (ns : List Int) : (ns.map V.int).all flatV = true := by simp [flatV]
theorem in_seq {F O T H : Hp} {d e : D} {v u : V} {k : Bool} (fit : Fits F O T H) (hv : DenB c F O d v) (hu : DenB c F O e u) (g : inD' d e = some k) : ∃ p xs, u = .ref p ∧ (SqL c.K H p xs ∨ SqT c.K H p xs) ∧ flatV v = true ∧ xs.all flatV = true ∧ inV v xs = k := by
  cases e <;> simp only [inD', reduceCtorEq] at g
  · split at g <;> cases g
    rename_i w ws e1 e2
    obtain ⟨a, us, rfl, h1, z, h2⟩ := hu
    obtain ⟨rfl, b⟩ := flatOf_den hv e1
    obtain ⟨rfl, b'⟩ := flatsOf_den h2 e2
    exact ⟨a, _, rfl, .inr (sqT_mono fit.f h1), b, b', rfl⟩
  · split at g <;> cases g
    rename_i w ws e1 e2
    obtain ⟨a, us, rfl, h1, z, h2⟩ := hu
    obtain ⟨rfl, b⟩ := flatOf_den hv e1
    obtain ⟨rfl, b'⟩ := flatsOf_den h2 e2
    exact ⟨a, _, rfl, .inl (SqL_of (h1.elim (fit.f _ _) (fit.o _ _))), b, b', rfl⟩
  · split at g <;> cases g
    rename_i w e1
    obtain ⟨a, rfl, h1⟩ := hu
    obtain ⟨rfl, b⟩ := flatOf_den hv e1
    exact ⟨a, _, rfl, .inl (fit.f.seq h1), b, flat_ints _, rfl⟩
theorem r_in : RuleB c (rIn c.K false) gIn := by
  intro F O T H d e v u d' Q fit hv hu g q
  simp only [gIn, Option.map_eq_some_iff] at g
  obtain ⟨k, e1, rfl⟩ := g
  obtain ⟨p, xs, rfl, h1, h2, h3, rfl⟩ := in_seq fit hv hu e1
  exact ⟨p, xs, rfl, h1, h2, h3, q _ F H (Same.refl _) fit rfl⟩
theorem r_notIn : RuleB c (rIn c.K true) gNotIn := by
  intro F O T H d e v u d' Q fit hv hu g q
  simp only [gNotIn, Option.map_eq_some_iff] at g
  obtain ⟨k, e1, rfl⟩ := g
  obtain ⟨p, xs, rfl, h1, h2, h3, rfl⟩ := in_seq fit hv hu e1
  exact ⟨p, xs, rfl, h1, h2, h3, q _ F H (Same.refl _) fit rfl⟩
end VS
namespace VS
open PySem PySem.Spec PyProof.Rows L2
def lcR (set : Env → D → Option Env) (fa : MA) (test : MT) (elt : ME) (vs : List Nat) : ME := fun env S => bindM (fa env S) fun ds S1 => match rangeOf ds with
  | some xs => if xs.length ≤ 1000000 then bindM (compM set test elt (wipeE env vs) xs S1) fun ys S2 => .ok (.lst ys, S2) else .bad
  | none => .bad
theorem intsD_len (lo : Int) (n : Nat) : (intsD lo n).length = n := by simp [intsD]
section
variable {X : Cx} {b : Bc} {E : XK} {e tg iter elt : Expr} {ifs : List Expr} {fe : ME} {test : MT} {pos : Pos} {gt : TG} {set : Env → D → Option Env} {js : List Nat}
theorem lcR_go (ht : Tgt b X.K gt set js) {vs : List Nat} (hvs : vs.all (fun i => !b.own.contains i) = true) (hjs : js.all (fun j => vs.contains j) = true)
    {F0 O0 O F1 H1 : Hp} {σ : L2.St} {env : Env} {S1 : DS} {Q : VK} {lo : Int} {n : Nat} (P1 : Pre b F0 O0 F1 O H1 σ env S1) (hz : n ≤ 1000000)
    (k : Post b E O F1 (bindM (compM set test fe (wipeE env vs) (intsD lo n) S1) fun ys S2 => .ok (D.lst ys, S2)) (fun d S' F' H' => ∀ p o, H' p = none → ObjD b.c F' d o → Q (.ref p) (upd H' p o))) (D0 : Addr) (hD : H1 D0 = none) :
    ∃ W : Nat → Nat → Hp → Prop, (∃ m, W 0 m (upd H1 D0 (.lst []))) ∧ ∀ i m H, W i m H → ((Itr lo n).stop i H ∧ Q (.ref D0) H) ∨ ((Itr lo n).go i H ∧ ∃ Nx : Hp → Prop, (∀ H', Nx H' → ∃ m', m' < m ∧ W (i + 1) m' H') ∧ ∀ x H', (Itr lo n).yld i H x H' → gt x (L2.wipe σ vs) H' fun σ2 H2 => L2.wipe σ2 vs = L2.wipe σ vs ∧ tT b XF test σ2 H2 fun k H3 => if k = true then tE b XF fe σ2 H3 fun y H4 => ∃ acc, H4 D0 = some (.lst acc) ∧ acc.length < sizeLine ∧ Nx (upd H4 D0 (.lst (acc ++ [y]))) else Nx H3) := by
  have nO := upd_none P1.fit.o hD
  have nF := upd_none P1.fit.f hD
  refine lc_range (lo := lo) (n := n) (fun i H' => Cmp b E O F1 σ (wipeE env vs) (fun d S' F' H' => ∀ p o, H' p = none → ObjD b.c F' d o → Q (.ref p) (upd H' p o)) ((intsD lo n).drop i) (compM set test fe (wipeE env vs)) D0 i H')
    (lc_begin P1.fit P1.inv hD k) (fun i H' hi C => ?_) (fun H' C => ?_)
  · rw [drop_at (intsD_at hi)] at C
    exact lc_turn ht P1 nO (d := D.int (lo + i)) (v := .int (lo + i)) rfl hvs hjs (Nat.lt_of_lt_of_le (by omega) million) C
  · have : (intsD lo n).drop n = [] := List.drop_eq_nil_of_le (by rw [intsD_len]; exact Nat.le_refl _)
    rw [this] at C
    exact lc_end nO nF (Nat.le_trans hz million) C
theorem lcR_imp1 {ga : MA} {vs : List Nat} (ht : Tgt b X.K gt set js) (hvs : vs.all (fun i => !b.own.contains i) = true) (hjs : js.all (fun j => vs.contains j) = true)
    (hl : ∀ env S ds S', ga env S = .ok (ds, S') → ds.length = 1) :
    ∀ σ H Q, tN b E (lcR set ga test fe vs) σ H Q → tLc (iRng1 (tA b E ga)) gt (tT b XF test) (tE b XF fe) vs σ H Q := fun σ H Q ⟨F0, O0, F, O, env, S, P, h⟩ => by
    have hb := Post.bind h
    refine ⟨F0, O0, F, O, env, S, P, ?_⟩
    cases hr : ga env S with
    | bad => rw [hr] at hb; exact False.elim hb
    | exc n f' fs S' => rw [hr] at hb; exact hb
    | ok p =>
      obtain ⟨ds, S1⟩ := p
      have hlen := hl env S ds S1 hr
      rw [hr] at hb
      intro F1 H1 s1 fit1 I1 vs' hv
      have k := hb F1 H1 s1 fit1 I1
      match ds, hlen, hv, k with
      | [d], _, hv, k =>
        simp only [Dens] at hv
        obtain ⟨v, r, rfl, h1, rfl⟩ := hv
        cases d with
        | int j =>
          simp only [Den] at h1
          subst h1
          simp only [rangeOf] at k
          by_cases hj : -(2 ^ 62) ≤ j ∧ j < 2 ^ 62
          · rw [if_pos hj] at k
            simp only at k
            by_cases hz : (intsD 0 j.toNat).length ≤ 1000000
            · rw [if_pos hz] at k
              exact ⟨j, rfl, hj.1, hj.2, fun D0 hD => lcR_go ht hvs hjs (P.grow s1 fit1 I1) (by simpa [intsD_len] using hz) k D0 hD⟩
            · rw [if_neg hz] at k
              exact False.elim k
          · rw [if_neg hj] at k
            exact False.elim k
        | _ => exact False.elim k
theorem lcR_imp2 {ga : MA} {vs : List Nat} (ht : Tgt b X.K gt set js) (hvs : vs.all (fun i => !b.own.contains i) = true) (hjs : js.all (fun j => vs.contains j) = true)
    (hl : ∀ env S ds S', ga env S = .ok (ds, S') → ds.length = 2) :
    ∀ σ H Q, tN b E (lcR set ga test fe vs) σ H Q → tLc (iRng2 (tA b E ga)) gt (tT b XF test) (tE b XF fe) vs σ H Q := fun σ H Q ⟨F0, O0, F, O, env, S, P, h⟩ => by
    have hb := Post.bind h
    refine ⟨F0, O0, F, O, env, S, P, ?_⟩
    cases hr : ga env S with
    | bad => rw [hr] at hb; exact False.elim hb
    | exc n f' fs S' => rw [hr] at hb; exact hb
    | ok p =>
      obtain ⟨ds, S1⟩ := p
      have hlen := hl env S ds S1 hr
      rw [hr] at hb
      intro F1 H1 s1 fit1 I1 vs' hv
      have k := hb F1 H1 s1 fit1 I1
      match ds, hlen, hv, k with
      | [d, d2], _, hv, k =>
        simp only [Dens] at hv
        obtain ⟨v, r, rfl, h1, v2, r2, rfl, h2, rfl⟩ := hv
        cases d with
        | int i =>
          cases d2 with
          | int j =>
            simp only [Den] at h1 h2
            subst h1 h2
            simp only [rangeOf] at k
            by_cases hj : -(2 ^ 62) ≤ i ∧ i < 2 ^ 62 ∧ -(2 ^ 62) ≤ j ∧ j < 2 ^ 62
            · rw [if_pos hj] at k
              simp only at k
              by_cases hz : (intsD i (j - i).toNat).length ≤ 1000000
              · rw [if_pos hz] at k
                exact ⟨i, j, rfl, hj, fun D0 hD => lcR_go ht hvs hjs (P.grow s1 fit1 I1) (by simpa [intsD_len] using hz) k D0 hD⟩
              · rw [if_neg hz] at k
                exact False.elim k
            · rw [if_neg hj] at k
              exact False.elim k
          | _ => exact False.elim k
        | _ => cases d2 <;> exact False.elim k
theorem n_lcR1 {e1 : Expr} {ga : MA} {vs : List Nat} (ht : Tgt b X.K gt set js) (hvs : vs.all (fun i => !b.own.contains i) = true) (hjs : js.all (fun j => vs.contains j) = true)
    (h : ∀ wi, PI X tg iter wi → PE X e (tLc wi gt (tT b XF test) (tE b XF fe) vs)) (hi : ∀ ta, PA X [e1] ta → PI X tg iter (iRng1 ta)) (ha : PA X [e1] (tA b E ga))
    (hl : ∀ env S ds S', ga env S = .ok (ds, S') → ds.length = 1) : PE X e (tN b E (lcR set ga test fe vs)) :=
  PE.imp (h _ (hi _ ha)) (lcR_imp1 ht hvs hjs hl)
theorem n_lcR2 {e1 e2 : Expr} {ga : MA} {vs : List Nat} (ht : Tgt b X.K gt set js) (hvs : vs.all (fun i => !b.own.contains i) = true) (hjs : js.all (fun j => vs.contains j) = true)
    (h : ∀ wi, PI X tg iter wi → PE X e (tLc wi gt (tT b XF test) (tE b XF fe) vs)) (hi : ∀ ta, PA X [e1, e2] ta → PI X tg iter (iRng2 ta)) (ha : PA X [e1, e2] (tA b E ga))
    (hl : ∀ env S ds S', ga env S = .ok (ds, S') → ds.length = 2) : PE X e (tN b E (lcR set ga test fe vs)) :=
  PE.imp (h _ (hi _ ha)) (lcR_imp2 ht hvs hjs hl)
theorem s_lcR {st : Stmt} {t : TE} {g : ME} (i : Nat) (ho : b.own.contains i = false) (hs : PS X st (tAsg t (gName i))) (hw : ∀ σ H Q, tN b E g σ H Q → t σ H Q) : PS X st (tS b E (asgS i g)) :=
  PS.imp hs fun Dn σ H ⟨F0, O0, F, O, env, S, P, h⟩ => hw σ H _ (nE_imp σ H _ ⟨F0, O0, F, O, env, S, P, (PostS.bind h P.f0 P.o0).imp fun d S1 F1 H1 s1 fit1 I1 k v hv => k _ F1 O H1 ((P.grow s1 fit1 I1).set (by simpa using ho) hv)⟩)
theorem s_lcRO {st : Stmt} {t : TE} {g : ME} (i : Nat) (ho : b.own.contains i = true) (hs : PS X st (tAsg t (gName i))) (hw : ∀ σ H Q, tN b E g σ H Q → t σ H Q) : PS X st (tS b E (asgS i g)) :=
  PS.imp hs fun Dn σ H ⟨F0, O0, F, O, env, S, P, h⟩ => hw σ H _ ⟨F0, O0, F, O, env, S, P, (PostS.bind h P.f0 P.o0).imp fun d S1 F1 H1 s1 fit1 I1 k p o hp hd => k _ F1 _ _ ((P.grow s1 fit1 I1).setO (by simpa using ho) hp hd)⟩
end
end VS
namespace VS
open PySem PySem.Spec PyProof.Rows L2
section
variable {X : Cx} {b : Bc} {E : XK} {e e1 e2 ee : Expr} {f f1 f2 : ME} {c : Dc} {pos : Pos}
def cutD (xs : List D) (lo hi : Option Int) : List D := (xs.drop (HT.sIx xs.length 0 lo)).take (HT.sIx xs.length xs.length hi - HT.sIx xs.length 0 lo)
theorem cut_den {F : Hp} {ds : List D} {vs : List V} (h : Dens c F ds vs) (lo hi : Option Int) : Dens c F (cutD ds lo hi) (cutV vs lo hi) := by
  unfold cutD cutV
  rw [h.length]
  exact Dens.take _ (Dens.drop _ h)
theorem cutD_len (xs : List D) (lo hi : Option Int) : (cutD xs lo hi).length ≤ xs.length := by
  unfold cutD
  rw [List.length_take, List.length_drop]
  omega
def gSl : D → Option Int → Option Int → Option D
  | .tup xs, lo, hi => some (.tup (cutD xs lo hi))
  | .lst xs, lo, hi => some (.lst (cutD xs lo hi))
  | _, _, _ => none
abbrev MO := Env → DS → Res (Option Int × DS)
def noPart : MO := fun _ S => .ok (none, S)
def somePart (f : ME) : MO := fun env S => bindM (f env S) fun d S1 => match d with
  | .int i => .ok (some i, S1)
  | _ => .bad
def slM (f : ME) (lo hi : MO) : ME := fun env S => bindM (f env S) fun d S1 => bindM (lo env S1) fun l S2 => bindM (hi env S2) fun h S3 => ofO (gSl d l h) S3
def tO (b : Bc) (E : XK) (f : MO) : TO := fun σ H Q => ∃ F0 O0 F O env S, Pre b F0 O0 F O H σ env S ∧ Post b E O F (f env S) fun d S' F' H' => Q d H'
theorem PO.imp {o : Option Expr} {t t' : TO} (h : PO X o t) (i : ∀ σ H Q, t' σ H Q → t σ H Q) : PO X o t' := ⟨fun pins s σ H Q I q => h.run pins s σ H Q I (i σ H Q q)⟩
theorem o_none : PO X none (tO b E noPart) := PO.imp po_none fun σ H Q ⟨F0, O0, F, O, env, S, P, h⟩ => h F H (Same.refl _) P.fit P.inv
theorem o_some (h : PE X e (tE b E f)) : PO X (some e) (tO b E (somePart f)) := PO.imp (po_some h) fun σ H Q ⟨F0, O0, F, O, env, S, P, h⟩ => ⟨F0, O0, F, O, env, S, P, (Post.bind h).imp fun d S1 F1 H1 s1 fit1 I1 k v hv => by
  cases d with
  | int i => exact ⟨i, hv, k F1 H1 (Same.refl _) fit1 I1⟩
  | _ => exact False.elim k⟩
def rSlTL (K : PySem.W.Frag) : V → Option Int → Option Int → Hp → VK → Prop := fun x lo hi H Q => rSlA K x lo hi H Q ∨ rSlL K x lo hi H Q
theorem sl_tl : SlR X (rSlTL X.K) := SlR.or sl_tupA sl_list
theorem e_sl {lo hi : Option Expr} {flo fhi : MO} (hK : b.c.K = X.K) (h : ∀ t tl th, PE X e t → PO X lo tl → PO X hi th → PE X ee (tSl (rSlTL X.K) t tl th)) (h1 : PE X e (tE b E f)) (h2 : PO X lo (tO b E flo)) (h3 : PO X hi (tO b E fhi)) : PE X ee (tE b E (slM f flo fhi)) :=
  PE.imp (h _ _ _ h1 h2 h3) fun σ H Q ⟨F0, O0, F, O, env, S, P, h⟩ => ⟨F0, O0, F, O, env, S, P, (Post.bind h).imp fun d S1 F1 H1 s1 fit1 I1 k v hv => ⟨F0, O0, F1, O, env, S1, P.grow s1 fit1 I1, (Post.bind k).imp fun l S2 F2 H2 s2 fit2 I2 k => ⟨F0, O0, F2, O, env, S2, (P.grow s1 fit1 I1).grow s2 fit2 I2, (Post.bind k).imp fun u S3 F3 H3 s3 fit3 I3 k => by
    obtain ⟨d', e', k⟩ := Post.ofO k
    have hv' := Den.mono (s2.trans s3) _ _ hv
    cases d with
    | tup ds =>
      simp only [gSl, Option.some.injEq] at e'
      subst e'
      simp only [Den] at hv'
      obtain ⟨a, vs, rfl, g1, z, g2⟩ := hv'
      rw [hK] at g1
      refine .inl ⟨a, vs, rfl, sqT_mono fit3.f g1, fun q => ?_, fun _ p hp => ?_⟩
      · have : cutD ds l u = ds := by
          unfold cutD
          rw [g2.length, q.1, q.2, List.drop_zero, Nat.sub_zero, ← g2.length, List.take_length]
        rw [this] at k
        exact k F3 H3 (Same.refl _) fit3 I3 _ (by simp only [Den]; exact ⟨a, vs, rfl, by rw [hK]; exact g1, z, g2⟩)
      · have nF := upd_none fit3.f hp
        exact k (upd F3 p _) _ (same_upd nF) (fit3.new hp) (I3.mono (same_upd nF)) _ (by
          simp only [Den]
          exact ⟨p, _, rfl, SqT.of upd_same, Nat.le_trans (cutD_len _ _ _) z, Dens.mono (same_upd nF) _ _ (cut_den g2 _ _)⟩)
    | lst ds =>
      simp only [gSl, Option.some.injEq] at e'
      subst e'
      simp only [Den] at hv'
      obtain ⟨a, vs, rfl, g1, z, g2⟩ := hv'
      refine .inr ⟨a, vs, rfl, SqL_of (fit3.f _ _ g1), fun p hp => ?_⟩
      have nF := upd_none fit3.f hp
      exact k (upd F3 p _) _ (same_upd nF) (fit3.new hp) (I3.mono (same_upd nF)) _ (by
        simp only [Den]
        exact ⟨p, _, rfl, upd_same, Nat.le_trans (cutD_len _ _ _) z, Dens.mono (same_upd nF) _ _ (cut_den g2 _ _)⟩)
    | _ => simp [gSl] at e'⟩⟩⟩
theorem n_disp {trs : List (TE × TE)} (kvs : List (Key × V)) (ks : List Key) (xs : List D) (h : PE X e (tDisp trs)) (ht : ∀ σ H (Q : List (V × V) → Hp → Prop), Q (kvs.map fun kv => (kV kv.1, kv.2)) H → tPairs trs σ H Q) (hl : kvs.length ≤ 15) (hm : (mergeK [] kvs).map (·.1) = ks) (hd : ∀ F, Dens b.c F xs ((mergeK [] kvs).map (·.2))) : PE X e (tN b E (cM (.dct ks xs))) :=
  PE.imp h fun σ H Q ⟨F0, O0, F, O, env, S, P, h⟩ p hp => ht σ _ _ ⟨upd_same, kvs, rfl, hl, by
    rw [upd_upd]
    exact h F H (Same.refl _) P.fit P.inv p (.dK (mergeK [] kvs)) hp ⟨mergeK [] kvs, rfl, hm, hd F⟩⟩
def lrg1 (f : ME) : ME := fun env S => bindM (f env S) fun d S1 => match rangeOf [d] with
  | some xs => if xs.length ≤ 1000000 then .ok (.lst xs, S1) else .bad
  | none => .bad
def lrg2 (f g : ME) : ME := fun env S => bindM (f env S) fun d S1 => bindM (g env S1) fun d2 S2 => match rangeOf [d, d2] with
  | some xs => if xs.length ≤ 1000000 then .ok (.lst xs, S2) else .bad
  | none => .bad
theorem rgV_den {F : Hp} (lo : Int) (n : Nat) : Dens c F (intsD lo n) ((List.range n).map fun (i : Nat) => V.int (lo + (i : Int))) := by
  have : intsD lo n = ((List.range n).map fun (i : Nat) => lo + (i : Int)).map D.int := by simp [intsD]
  have h2 : ((List.range n).map fun (i : Nat) => V.int (lo + (i : Int))) = ((List.range n).map fun (i : Nat) => lo + (i : Int)).map V.int := by simp
  rw [this, h2]
  exact Dens.of_ints _
theorem n_lrg1 (h : ∀ t, PE X e1 t → PE X e (tLstRg (tRg1 t))) (h1 : PE X e1 (tE b E f1)) : PE X e (tN b E (lrg1 f1)) :=
  PE.imp (h _ h1) fun σ H Q ⟨F0, O0, F, O, env, S, P, h⟩ => ⟨F0, O0, F, O, env, S, P, (Post.bind h).imp fun d S1 F1 H1 s1 fit1 I1 k v hv => by
    cases d with
    | int j =>
      simp only [Den] at hv
      subst hv
      simp only [rangeOf] at k
      by_cases hj : -(2 ^ 62) ≤ j ∧ j < 2 ^ 62
      · rw [if_pos hj] at k
        simp only at k
        by_cases hz : (intsD 0 j.toNat).length ≤ 1000000
        · rw [if_pos hz] at k
          have hz' : j.toNat ≤ 1000000 := by simpa [intsD_len] using hz
          have e0 : (j - 0).toNat = j.toNat := by simp
          refine ⟨j, rfl, ⟨by omega, by omega, hj.1, hj.2, by rw [e0]; omega⟩, fun q hq => ?_⟩
          refine k F1 H1 (Same.refl _) fit1 I1 q _ hq ⟨_, rfl, Nat.le_trans hz million, ?_⟩
          unfold rgV
          rw [e0]
          exact rgV_den 0 _
        · rw [if_neg hz] at k
          exact False.elim k
      · rw [if_neg hj] at k
        exact False.elim k
    | _ => exact False.elim k⟩
theorem n_lrg2 (h : ∀ t u, PE X e1 t → PE X e2 u → PE X e (tLstRg (tRg2 t u))) (h1 : PE X e1 (tE b E f1)) (h2 : PE X e2 (tE b E f2)) : PE X e (tN b E (lrg2 f1 f2)) :=
  PE.imp (h _ _ h1 h2) fun σ H Q ⟨F0, O0, F, O, env, S, P, h⟩ => ⟨F0, O0, F, O, env, S, P, (Post.bind h).imp fun d S1 F1 H1 s1 fit1 I1 k v hv => ⟨F0, O0, F1, O, env, S1, P.grow s1 fit1 I1, (Post.bind k).imp fun d2 S2 F2 H2 s2 fit2 I2 k u hu => by
    cases d with
    | int i =>
      cases d2 with
      | int j =>
        simp only [Den] at hv hu
        subst hv hu
        simp only [rangeOf] at k
        by_cases hj : -(2 ^ 62) ≤ i ∧ i < 2 ^ 62 ∧ -(2 ^ 62) ≤ j ∧ j < 2 ^ 62
        · rw [if_pos hj] at k
          simp only at k
          by_cases hz : (intsD i (j - i).toNat).length ≤ 1000000
          · rw [if_pos hz] at k
            have hz' : (j - i).toNat ≤ 1000000 := by simpa [intsD_len] using hz
            refine ⟨i, j, rfl, rfl, ⟨hj.1, hj.2.1, hj.2.2.1, hj.2.2.2, by omega⟩, fun q hq => ?_⟩
            exact k F2 H2 (Same.refl _) fit2 I2 q _ hq ⟨_, rfl, Nat.le_trans hz million, rgV_den i _⟩
          · rw [if_neg hz] at k
            exact False.elim k
        · rw [if_neg hj] at k
          exact False.elim k
      | _ => exact False.elim k
    | _ => cases d2 <;> exact False.elim k⟩⟩
end
end VS
namespace VS
open PySem PySem.Spec PyProof.Rows L2
section
variable {X : Cx} {b : Bc} {E : XK} {e e1 e2 : Expr} {st : Stmt} {f f1 f2 : ME} {pos : Pos}
def appPopM (i j : Nat) (fj : ME) : MS := fun env S => match env[i]?, env[j]? with
  | some (some (.lst xs)), some (some (.lst ds)) => bindM (fj env S) fun q S1 => match q with
    | .int q => if -1000000 ≤ q ∧ q ≤ 1000000 ∧ xs.length < 1000000 then (match seqIndex? q ds.length with
      | some m => (match ds[m]? with
        | some d => .ok (.nx ((env.set j (some (.lst (ds.eraseIdx m)))).set i (some (.lst (xs ++ [d])))), S1)
        | none => .bad)
      | none => .bad) else .bad
    | _ => .bad
  | _, _ => .bad
theorem s_appPop (i j : Nat) (hij : i ≠ j) (ho : b.own.contains i = true) (ho' : b.own.contains j = true)
    (h : ∀ tj, PE X e1 tj → PS X st (tDrop (tBM X.K "list" rAppend (tVar i) (tCons (tBM X.K "list" rPopAt (tVar j) (tCons tj tNil)) tNil)))) (hj : PE X e1 (tE b E f1)) : PS X st (tS b E (appPopM i j f1)) :=
  PS.imp (h _ hj) fun Dn σ H ⟨F0, O0, F, O, env, S, P, h⟩ => by
    have hi : i ∈ b.own := by simpa using ho
    have hi' : j ∈ b.own := by simpa using ho'
    unfold appPopM at h
    split at h
    · rename_i xs ds hx hg
      obtain ⟨a, us, h1, h2, h3, hz, hd⟩ := P.lstAt hi hx
      obtain ⟨c, vs, g1, g2, g3, gz, gd⟩ := P.lstAt hi' hg
      refine ⟨_, h1, .inl ⟨rfl, us, SqL_of h3⟩, _, g1, .inl ⟨rfl, vs, SqL_of g3⟩, F0, O0, F, O, env, S, P, (PostS.bind h P.f0 P.o0).imp fun kk S1 F1 H1 s1 fit1 I1 q u hu => ?_⟩
      have P1 := P.grow s1 fit1 I1
      have gd1 := Dens.mono s1 _ _ gd
      cases kk with
      | int k =>
        by_cases hj : -1000000 ≤ k ∧ k ≤ 1000000 ∧ xs.length < 1000000
        · simp only [if_pos hj] at q
          cases hm : seqIndex? k ds.length with
          | none => simp only [hm] at q; exact False.elim q
          | some m =>
            simp only [hm] at q
            cases hy : ds[m]? with
            | none => simp only [hy] at q; exact False.elim q
            | some d =>
              simp only [hy] at q
              obtain ⟨v, hv, hv2⟩ := Dens.get' gd1 hy
              have P2 := P1.chg hi' hg g1 g2 (d' := .lst (ds.eraseIdx m)) (o' := .lst (vs.eraseIdx m)) ⟨_, rfl, Nat.le_trans (List.length_eraseIdx_le ds m) gz, Dens.erase m gd1⟩
              have hx2 : (env.set j (some (.lst (ds.eraseIdx m))))[i]? = some (some (.lst xs)) := by rw [set_ne' hij]; exact hx
              obtain ⟨a', us', k1, k2, k3, kz, kd⟩ := P2.lstAt hi hx2
              rw [h1] at k1
              cases k1
              have hm := million
              refine ⟨c, vs, k, m, v, rfl, by rw [hu], fit1.o _ _ g2, by omega, by omega, by rw [← gd1.length]; assumption, hv, a, us', v, rfl, rfl, k3, by rw [← kd.length]; omega, ?_⟩
              refine q σ F1 _ _ (P2.chg hi hx2 h1 k2 (d' := .lst (xs ++ [d])) ⟨_, rfl, ?_, kd.append (Dens.one hv2)⟩)
              rw [List.length_append, List.length_singleton]
              omega
        · simp only [if_neg hj] at q
          exact False.elim q
      | _ => exact False.elim q
    · exact False.elim h
theorem s_parOO (i j : Nat) (hi : b.own.contains i = true) (hj : b.own.contains j = true) (hst : ∀ t1 t2, PE X e1 t1 → PE X e2 t2 → PS X st (tPar i j (tCons t1 (tCons t2 tNil)))) (h1 : PE X e1 (tN b E f1)) (h2 : PE X e2 (tN b E f2)) : PS X st (tS b E (parOS i j f1 f2)) :=
  PS.imp (hst _ _ h1 h2) fun Dn σ H ⟨F0, O0, F, O, env, S, P, h⟩ => ⟨F0, O0, F, O, env, S, P, (PostS.bind h P.f0 P.o0).imp fun d S1 F1 H1 s1 fit1 I1 k p o hp hd => by
    have P1 := P.grow s1 fit1 I1
    have nO := upd_none fit1.o hp
    have eO : Same O (upd O p o) := same_upd nO
    have P2 : Pre b F0 O0 F1 (upd O p o) (upd H1 p o) σ env S1 := P1.moreO eO (fit1.newO hp hd.ld)
    refine ⟨F0, O0, F1, upd O p o, env, S1, P2, (PostS.bind k P2.f0 P2.o0).imp fun d2 S2 F2 H2 s2 fit2 I2 k p2 o2 hp2 hd2 => ?_⟩
    have P3 := P2.grow s2 fit2 I2
    refine ⟨_, _, rfl, k _ F2 _ _ (Pre.setO (Pre.adopt P3 (by simpa using hi) upd_same (upd_none P.o0 nO) ?_ ?_) (by simpa using hj) hp2 hd2)⟩
    · cases d with
      | lst ds => obtain ⟨vs, rfl, hz, q⟩ := hd; exact ⟨vs, rfl, hz, Dens.mono s2 _ _ q⟩
      | dct ks ds => obtain ⟨vs, rfl, hz, q⟩ := hd; exact ⟨vs, rfl, hz, Dens.mono s2 _ _ q⟩
      | _ => exact False.elim hd
    · exact P1.noslot nO⟩
end
end VS
namespace VS
open PySem PySem.Spec PyProof.Rows L2
variable {c : Dc}
def greatest : List Int → Option Int
  | [] => none
  | n :: ns => some (ns.foldl max n)
theorem foldl_max_ge (ns : List Int) : ∀ n : Int, n ≤ ns.foldl max n ∧ ∀ y ∈ ns, y ≤ ns.foldl max n := by
  induction ns with
  | nil => intro n; exact ⟨Int.le_refl _, fun y h => by cases h⟩
  | cons m ns ih =>
    intro n
    obtain ⟨h1, h2⟩ := ih (max n m)
    refine ⟨Int.le_trans (by omega) h1, fun y hy => ?_⟩
    rcases List.mem_cons.mp hy with rfl | hy
    · exact Int.le_trans (by omega) h1
    · exact h2 y hy
theorem foldl_max_mem (ns : List Int) : ∀ n : Int, ns.foldl max n = n ∨ ns.foldl max n ∈ ns := by
  induction ns with
  | nil => intro n; exact .inl rfl
  | cons m ns ih =>
    intro n
    rcases ih (max n m) with h | h
    · by_cases e : n ≤ m
      · right
        rw [List.foldl_cons, h]
        have : max n m = m := by omega
        rw [this]
        exact List.mem_cons_self
      · left
        rw [List.foldl_cons, h]
        omega
    · right
      exact List.mem_cons_of_mem _ h
theorem greatest_is {ns : List Int} {k m : Int} (h : greatest ns = some k) (hm : m ∈ ns) (hy : ∀ y, y ∈ ns → y ≤ m) : m = k := by
  cases ns with
  | nil => cases h
  | cons n r =>
    simp only [greatest, Option.some.injEq] at h
    subst h
    obtain ⟨h1, h2⟩ := foldl_max_ge r n
    have a : m ≤ r.foldl max n := by
      rcases List.mem_cons.mp hm with rfl | hm
      · exact h1
      · exact h2 m hm
    have b : r.foldl max n ≤ m := by
      rcases foldl_max_mem r n with e | e
      · rw [e]; exact hy n List.mem_cons_self
      · exact hy _ (List.mem_cons_of_mem _ e)
    omega
def gMaxL : List D → Option D
  | [.lst xs] => (toInts xs).bind fun ns => (greatest ns).map .int
  | _ => none
theorem r_maxL : RuleN c (rMax c.K) gMaxL := by
  intro F O T H ds vs d' Q fit hv g q
  match ds, g with
  | [.lst xs], g =>
    simp only [gMaxL, Option.bind_eq_some_iff, Option.map_eq_some_iff] at g
    obtain ⟨ns, h0, k, hk, rfl⟩ := g
    obtain ⟨v, r, rfl, ⟨a, us, rfl, h1, z, h2⟩, h⟩ := paired1 hv
    cases paired0 h
    rw [toInts_map h0] at h2
    cases h2.ints
    refine ⟨a, ns, rfl, SqL_of (h1.elim (fit.f _ _) (fit.o _ _)), ?_, fun m hm hy => ?_⟩
    · cases ns with
      | nil => cases hk
      | cons n r => simp
    · rw [greatest_is hk hm hy]
      exact q _ F H (Same.refl _) fit rfl
end VS
namespace VS
open PySem PySem.Spec PyProof.Rows L2
open AutoSeq1 (wpAny_loadPart')
abbrev tIt (a : Addr) : Obj := { cls := .type "tuple_iterator", data := .fields #[.ref a, .int 0 0] }
abbrev tEn (i : Addr) : Obj := { cls := .type "enumerate", data := .fields #[.none, .bool false, .ref i, rawInt 0, .none, .none] }
theorem meets_enumT (a : Addr) (items : Array Value) (n : Nat) (dct : Option Addr) (sl : Array (Option Value)) :
    Meets (Builtin.«enumerate.__new__» ⟨[.type "enumerate", .ref a], []⟩) (fun _ R s =>
      s.heap.get? a = some { cls := .type "tuple", dict := dct, data := .seq items n, slots := sl } ∧
      R (.ok (.ret (.ref (s.heap.push (tIt a)).objs.size))) { s with heap := (s.heap.push (tIt a)).push (tEn s.heap.objs.size) }) :=
  .of_wp fun prog w A R s hyp => by
    obtain ⟨hp, g, d, tk, os⟩ := s
    obtain ⟨ha, hyp⟩ := hyp
    have hsub := sub_enumerate
    have hT : Heap.IsTuple (Shared.heap ⟨hp, g, d, tk, os⟩) a items := ⟨_, ha, rfl, n, rfl⟩
    wp_walk using wpAny_loadPart' ha
    refine wpAny_stack_any fun stk => wpAny_pure ?_
    split
    · rename_i cc _ _ _ _ _
      cases (cc == Value.type "enumerate")
      all_goals
        wp_walk using wpAny_loadPart' ha, wpAny_pyIter_tuple hT
        exact ⟨_, rfl, hyp⟩
    · wp_walk using wpAny_loadPart' ha, wpAny_pyIter_tuple hT
      exact ⟨_, rfl, hyp⟩
section
variable {prog : Program} {w : World} {A : Around} {E : Value → Shared → Prop} {s : Shared}
theorem call_enumT {a : Addr} {items : Array Value} {Q : Value → Shared → Prop} (hT : s.heap.IsTuple a items)
    (k : ∀ h', IsEnum h' (s.heap.objs.size + 1) s.heap.objs.size 0 .none → h'.IsTupleIter s.heap.objs.size a 0 →
      (∀ b o, s.heap.get? b = some o → h'.get? b = some o) → Q (.ref (s.heap.objs.size + 1)) { s with heap := h' }) :
    wpAny (model prog w) A (call (.type "enumerate") [.ref a]) Q E s := by
  obtain ⟨⟨c, dct, dt, sl⟩, ha, hc, n, hd⟩ := hT
  cases (show c = .type "tuple" from hc)
  cases (show dt = .seq items n from hd)
  have hz : (s.heap.push (tIt a)).objs.size = s.heap.objs.size + 1 := Heap.size_push ..
  refine callType_new F.called_enumerate (by decide) (F.typeCall_enumerate_1 _) (F.newCall_enumerate_1 _) (fun o => F.args_object_init_2 o _)
    F.entry_enumerate_new (meets_enumT a items n dct sl) ⟨ha, ?_⟩
  show _ ∧ _
  rw [hz]
  have he := Heap.get?_push_size (s.heap.push (tIt a)) (o := tEn s.heap.objs.size) rfl
  rw [hz] at he
  exact ⟨⟨_, he, rfl⟩, k _ he ⟨_, Heap.get?_push_of_some _ (Heap.get?_push_size _ rfl), rfl, rfl⟩ fun b o x => Heap.get?_push_of_some _ (Heap.get?_push_of_some _ x)⟩
end
theorem enumT_end {prog : Program} {w : World} {A : Around} {E : Value → Shared → Prop} {s : Shared} {e it a : Addr} {i : Nat} {k : Int} {old : Value} {items : Array Value} {Q : Option Value → Shared → Prop} (hh : A.handled = none)
    (he : IsEnum s.heap e it k old) (hit : s.heap.IsTupleIter it a i) (p : s.heap.IsTuple a items) (hi : items.size ≤ i) (q : ∀ h', Heap.ExtBut it s.heap h' → Q none { s with heap := h' }) :
    wpAny (model prog w) A (pyNext (.ref e)) Q E s := by
  have hT : s.TypeIs (.ref e) "enumerate" := ⟨_, he, rfl⟩
  unfold pyNext
  refine wpAny_bind (wpAny_attempt (wpAny_callSpecial?_slot (name := Str.ofString "__next__") hT F.slot_enumerate_next (wpAny_call_entry F.slot_enumerate_next hT F.entry_enumerate_next (show wpAny _ _ (field (.ref e) 2 >>= _) _ _ _ from ?_) (F.args_enumerate_next_1 _))))
  refine wpAny_bind (wpAny_field he rfl (x := .ref it) rfl (wpAny_bind (wpAny_nextOf_tuple_end hh hit p (by simp [hi]) fun h' x he' hx' => ?_)))
  obtain ⟨o, ho, hc⟩ := hx'
  exact wpAny_bind (wpAny_isInstance (T := "StopIteration") (b := true) ⟨o, ho, hc⟩ isSubtype_stop (wpAny_pure (q _ he')))
def Iet (K : PySem.W.Frag) (a : Addr) : It :=
  ⟨fun i H => ∃ (xs : List V) (x : V), SqT K H a xs ∧ xs[i]? = some x,
    fun i H v H' => ∃ T x, v = .ref T ∧ H T = none ∧ H' = upd H T (.tup [.int (i : Nat), x]) ∧ ∀ xs, SqT K H a xs → xs[i]? = some x,
    fun i H => ∃ xs : List V, SqT K H a xs ∧ xs.length ≤ i⟩
theorem turn_enT {P : Program} {w : World} {K : PySem.W.Frag} {elts : List Expr} {kk : Nat} {tpos : Pos} (a e it : Addr) :
    Turn P w K (.Tuple elts kk tpos) (Iet K a) [e, it] e (fun i h => (∃ old, IsEnum h e it ((i : Nat) : Int) old) ∧ h.IsTupleIter it a i ∧ e ≠ it ∧ a ≠ it ∧ a ≠ e) where
  mem := by simp
  obj := fun i h st b hb => by
    obtain ⟨⟨old, he⟩, ⟨o, ho, _, hd⟩, _⟩ := st
    rcases (by simpa using hb : b = e ∨ b = it) with rfl | rfl
    · exact ⟨_, he, fun v q => nomatch q⟩
    · exact ⟨o, ho, fun v q => by rw [hd] at q; cases q⟩
  keep := fun i h h' st k => ⟨⟨st.1.choose, k e (by simp) _ st.1.choose_spec⟩, st.2.1.at fun o q => k it (by simp) o q, st.2.2⟩
  item := by
    intro X hP hw hK hc i pins s σ H E I hf st hg
    subst hP hw hK
    obtain ⟨⟨old, he⟩, hit, hne, hai, hae⟩ := st
    obtain ⟨xs, x, hq, hx⟩ := hg
    obtain ⟨its, rv, p, hz⟩ := I.tuple hq
    obtain ⟨u, hu, ru⟩ := rv.get hx
    have p : s.heap.IsTuple a its.toArray := p
    have hel : e < s.heap.objs.size := Heap.lt_size he
    have hil : it < s.heap.objs.size := let ⟨_, q, _⟩ := hit; Heap.lt_size q
    have hea : e ∉ [it, a] := by simp [hne, Ne.symm hae]
    have hlt : i < its.toArray.size := by simpa using (List.getElem?_eq_some_iff.mp hu).1
    refine wpAny_pyNext_enum_itemD (Draws.tuple (A := X.A.in1) (I.ok.hd hc) it a hai its.toArray) he ⟨hit, p⟩ hlt hne hea fun x' h' tk hx' ho st' hT hsz hk => ?_
    obtain rfl : u = x' := by
      have hx' : its.toArray[i]? = some x' := hx'
      rw [List.getElem?_toArray, hu] at hx'
      exact Option.some.inj hx'
    refine ⟨_, rfl, wpAny_letOwnedTupleGo_enum (s := { s with heap := h', toks := tk + 1 }) ho fun h'' he' sb => ?_⟩
    have hT2 : h''.get? s.heap.objs.size = some { cls := .type "tuple", data := .seq #[.int i tk, u] } := (sb.2 _ (Nat.ne_of_gt hel)).trans hT
    have new : ObjOk X.prog X.w (upd H s.heap.objs.size (.tup [.int (i : Nat), x])) h'' s.heap.objs.size (.tup [.int (i : Nat), x]) :=
      ⟨by show 2 ≤ sizeLine; decide, [.int i tk, u], .cons ⟨_, rfl⟩ (.cons ru .nil), ⟨_, hT2, rfl, _, rfl⟩⟩
    have I1 : Inv X pins σ (upd H s.heap.objs.size (.tup [.int (i : Nat), x])) { s with heap := h'', toks := tk + 1 } :=
      I.turnedNew (ch := [e, it]) (fun b ob hb q => by
        have nb : b ≠ e ∧ b ≠ it := by simpa using hb
        exact (sb.2 b nb.1).trans (hk b ob nb.1 nb.2 q)) hf (Nat.le_refl _) new
    refine ⟨.ref s.heap.objs.size, _, I1, rfl, ⟨_, x, rfl, I.hok.fresh (Nat.le_refl _), rfl, fun ys hy => ?_⟩, ⟨⟨u, ?_⟩, st'.1.at fun o q => (sb.2 it (Ne.symm hne)).trans q, hne, hai, hae⟩, fun b hb => ?_⟩
    · rw [I.tuple_inj hy hq]
      exact hx
    · rw [show ((i + 1 : Nat) : Int) = (i : Int) + 1 by omega]
      exact he'
    · have hb' : b < s.heap.objs.size := by
        rcases (by simpa using hb : b = e ∨ b = it) with rfl | rfl
        · exact hel
        · exact hil
      rw [upd_ne (Nat.ne_of_lt hb')]
      exact (hf b hb).1
  done := by
    intro X hP hw hK hc i pins s σ H E I hf st hg
    subst hP hw hK
    obtain ⟨⟨old, he⟩, hit, hne, hai, hae⟩ := st
    obtain ⟨xs, hq, hx⟩ := hg
    obtain ⟨its, rv, p, hz⟩ := I.tuple hq
    have p : s.heap.IsTuple a its.toArray := p
    obtain ⟨f0, f1, f2, f3, f4, f5⟩ := hf it (by simp)
    have hle := rv.length
    have hend : its.toArray.size ≤ i := by simp; omega
    exact enumT_end (I.ok.hd hc) he hit p hend fun h' eb => ⟨rfl, I.turned (t' := s.toks) (fun b o hb q => eb b o hb q) f0 f1 f3 f4 f5⟩
  self := fun A i s Q E st h => wpAny_pyIter_enum st.1.choose_spec h
end VS
namespace VS
open PySem PySem.Spec PyProof.Rows L2
abbrev BlkP (X : Cx) (scope : Scope) (p : Cx → Prop) : Prop := ∀ (s : Shared) (H : Hp) (C : Addr) (cl : List (PySem.Str × Addr)) (fp : List Addr), p (X.blk s H scope (compEnvC scope cl C X.env) fp)
section
variable {X : Cx}
theorem sw_trueD {kx vx : Expr} {gs : List Comprehension} {scope : Scope} {pos py : Pos} {y : PySem.Str} {l : Nat} {env : PySem.Env} (hk : env.scope.kind = .function) (hy : env.scope.names.lookup y = some .local)
    (hl : (py.line == pos.line) = true) (ha : (scope.names.any fun (n, k) => n == y && (k == .local || k == .cell)) = false) : swapsWith (.DictComp kx vx gs scope pos) (some (.Name y py)) l env = pure true := by
  have ky : env.kindOf y = some .local := hy
  have hb : env.blockKind = .function := by
    unfold Env.blockKind
    rw [hk] <;> rfl
  unfold swapsWith
  simp only [hb, ky, ha, Expr.pos, hl] <;> rfl
theorem ps_setDc {i : Nat} {y : PySem.Str} {py : Pos} {kx vx tg iter : Expr} {ifs : List Expr} {scope : Scope} {own : List (PySem.Str × Nat)} {pos spos : Pos} {wi : TI} {g : TG} {tt : TT} {tk tv : TE} (hc : X.calm = true) (hN : X.N.Nodup) (hy : X.N[i]? = some y) (hyl : X.env.scope.names.lookup y = some .local)
    (hsw : swapsWith (.DictComp kx vx [⟨tg, iter, ifs, 0⟩] scope pos) (some (.Name y py)) spos.line X.env = pure true) (hi : PI X tg iter wi) (ok : BlkOk X.N X.env.scope scope own)
    (hg : BlkP X scope fun Y => PG Y tg g) (ht : BlkP X scope fun Y => PTs Y ifs tt) (hk : BlkP X scope fun Y => PE Y kx tk) (he : BlkP X scope fun Y => PE Y vx tv) (hs : ∀ x, foldedSetIterable iter X.env x = pure x := by intro _; rfl) :
    PS X (.Assign [.Name y py] (.DictComp kx vx [⟨tg, iter, ifs, 0⟩] scope pos) spos) (tAsg (tDc wi g tt tk tv (own.map (·.2))) (gName i)) := by
  refine ⟨fun pins s σ H D I h => ?_⟩
  rw [exec_Assign_Name_used _ _ _ _ hsw]
  refine wpAny_bind (wpAny_standAt (wpAny_bind ?_))
  show wpAny _ X.A (do let _ ← comprehension (.DictComp kx vx [⟨tg, iter, ifs, 0⟩] scope pos) scope X.env (firstIterPos [⟨tg, iter, ifs, 0⟩] pos) newDict false (eval iter X.env) (some (assign (.Name y py) X.env))) _ _ s
  have h : tDc wi g tt tk tv (own.map (·.2)) σ H (fun x H1 => gName i x σ H1 D.nx) := h
  refine wpAny_bind (thn (dc_core (Qf := fun _ s' => SP X pins D .next s') hc hN I hi ok hg ht hk he hs h fun L C s' m H' I' q hn f => show wpAny _ _ (assign (.Name y py) X.env (.ref L)) _ _ _ from ?_) fun _ s' hq => wpAny_pure (wpAny_pure hq))
  obtain ⟨f0, f1, f2, f3, f4, f5⟩ := f
  refine wpAny_assign_Name (store_ok2 (v := V.ref L) I' hN hy (.inl hyl) rfl (fun s2 I2 ⟨a, sb, ha⟩ => ⟨m, hn.sameBut sb ?_, fun h3 sb3 => ⟨_, H', I2.turned (t' := s2.toks) (fun b o hb e => (sb3.2 b hb).trans e) f0 f1 f3 f4 f5, q⟩⟩) (.inr hyl))
  exact ha.elim (fun z => by rw [z]; exact f1) (fun z e => f4 y a z e.symm)
end
section
variable {X : Cx} {b : Bc} {E : XK} {tg iter : Expr} {f fk fv : ME} {test : MT} {gt : TG} {set : Env → D → Option Env} {js : List Nat}
theorem s_dc {st : Stmt} {vs : List Nat} (i : Nat) (ho : b.own.contains i = false) (hK : b.c.K = X.K) (ht : Tgt b X.K gt set js) (hvs : vs.all (fun i => !b.own.contains i) = true) (hjs : js.all (fun j => vs.contains j) = true)
    (h : ∀ wi, PI X tg iter wi → PS X st (tAsg (tDc wi gt (tT b XF test) (tE b XF fk) (tE b XF fv) vs) (gName i))) (hi : PE X iter (tB b E f)) : PS X st (tS b E (asgS i (dcM set f test fk fv vs))) :=
  PS.imp (PS.or (h _ (pi_tup hi)) (h _ (pi_list hi))) fun Dn σ H ⟨F0, O0, F, O, env, S, P, h⟩ => dc_imp hK ht hvs hjs σ H _ (nE_imp σ H _ ⟨F0, O0, F, O, env, S, P, (PostS.bind h P.f0 P.o0).imp fun d S1 F1 H1 s1 fit1 I1 k v hv => k _ F1 O H1 ((P.grow s1 fit1 I1).set (by simpa using ho) hv)⟩)
theorem s_dcO {st : Stmt} {vs : List Nat} (i : Nat) (ho : b.own.contains i = true) (hK : b.c.K = X.K) (ht : Tgt b X.K gt set js) (hvs : vs.all (fun i => !b.own.contains i) = true) (hjs : js.all (fun j => vs.contains j) = true)
    (h : ∀ wi, PI X tg iter wi → PS X st (tAsg (tDc wi gt (tT b XF test) (tE b XF fk) (tE b XF fv) vs) (gName i))) (hi : PE X iter (tB b E f)) : PS X st (tS b E (asgS i (dcM set f test fk fv vs))) :=
  PS.imp (PS.or (h _ (pi_tup hi)) (h _ (pi_list hi))) fun Dn σ H ⟨F0, O0, F, O, env, S, P, h⟩ => dc_imp hK ht hvs hjs σ H _ ⟨F0, O0, F, O, env, S, P, (PostS.bind h P.f0 P.o0).imp fun d S1 F1 H1 s1 fit1 I1 k p o hp hd => k _ F1 _ _ ((P.grow s1 fit1 I1).setO (by simpa using ho) hp hd)⟩
end
end VS
namespace VS
open PySem PySem.Spec PyProof.Rows L2
def iEnT (K : PySem.W.Frag) (ta : TA) : TI := fun σ H R => ta σ H fun vs H1 => ∃ a xs, vs = [.ref a] ∧ SqT K H1 a xs ∧ R (Iet K a) H1
theorem pi_enT {X : Cx} {e : Expr} {ta : TA} {p pos tpos : Pos} {elts : List Expr} {kk : Nat} (hg : Gl X "enumerate") (hm : X.mg "enumerate" = none) (ha : PA X [e] ta) (hs : starEach [e] X.env = [(false, eval e X.env)] := by rfl) :
    PI X (.Tuple elts kk tpos) (.Call (.Name "enumerate" p) [e] [] pos) (iEnT X.K ta) := by
  refine ⟨fun pins s σ H R I hyp => Call_ (ld_blt I hg hm boot_enumerate (PyProof.Rows.callWith_type1 (thn (ha.run pos pins s σ H _ I hyp) fun us s1 ⟨vs, H1, I1, r1, a, xs, ex, hq, q⟩ => ?_) hs rfl))⟩
  subst ex
  obtain ⟨its, rv, p', hz⟩ := I1.tuple hq
  have p' : s1.heap.IsTuple a its.toArray := p'
  have hal : a < s1.heap.objs.size := let ⟨_, q, _⟩ := p'; Heap.lt_size q
  cases r1 with
  | cons r rr =>
    cases rr
    cases r
    refine call_enumT p' fun h' he hit hk => wpAny_pyIter_enum he ?_
    refine ⟨s1.heap.objs.size + 1, [s1.heap.objs.size + 1, s1.heap.objs.size], _, _, H1, rfl, I1.kept (t' := s1.toks) hk, turn_enT a (s1.heap.objs.size + 1) s1.heap.objs.size, ⟨⟨.none, he⟩, hit, Nat.succ_ne_self _, Nat.ne_of_lt hal, Nat.ne_of_lt (Nat.lt_succ_of_lt hal)⟩, fun b hb => ?_, q⟩
    have hle : s1.heap.objs.size ≤ b := by
      rcases (by simpa using hb : b = s1.heap.objs.size + 1 ∨ b = s1.heap.objs.size) with z | z
      · rw [z]; exact Nat.le_add_right _ _
      · rw [z]; exact Nat.le_refl _
    exact I1.fpOk hle (I1.hok.fresh hle)
def enumD : Nat → List D → List D
  | _, [] => []
  | i, d :: ds => .tup [.int i, d] :: enumD (i + 1) ds
theorem enumD_len : ∀ (ds : List D) (i : Nat), (enumD i ds).length = ds.length
  | [], _ => rfl
  | _ :: ds, i => by simp [enumD, enumD_len ds (i + 1)]
theorem enumD_get : ∀ (ds : List D) (k i : Nat) (d : D), ds[i]? = some d → (enumD k ds)[i]? = some (.tup [.int ((k + i : Nat) : Int), d])
  | d0 :: ds, k, 0, d, h => by simp at h; subst h; rfl
  | d0 :: ds, k, i + 1, d, h => by
    have := enumD_get ds (k + 1) i d (by simpa using h)
    rw [show k + 1 + i = k + (i + 1) by omega] at this
    simpa [enumD] using this
def forE (set : Env → D → Option Env) (f : ME) (g : MS) : MS := fun env S => bindM (f env S) fun d S1 => match d with
  | .lst ds => loopS set g (enumD 0 ds) env S1
  | .tup ds => loopS set g (enumD 0 ds) env S1
  | _ => .bad
section
variable {X : Cx} {b : Bc} {E : XK} {e tg iter : Expr} {body : List Stmt} {f : ME} {g : MS} {pos : Pos} {gt : TG} {set : Env → D → Option Env} {js : List Nat}
theorem enum_turn (ht : Tgt b X.K gt set js) (hK : b.c.K = X.K) {F1 O0 F' O' H' : Hp} {σ' : L2.St} {env' : Env} {S' : DS} {ds : List D} {us : List V} {Dn : Ends} {N : L2.St → Hp → Prop} {i : Nat} {x : V} {T : Addr} (P : Pre b F1 O0 F' O' H' σ' env' S')
    (hd : Dens b.c F1 ds us) (hx : us[i]? = some x) (hT : H' T = none) (h : PostS b E F1 O0 (loopS set g ((enumD 0 ds).drop i) env' S') Dn)
    (hN : ∀ σ2 H2 F2 O2 env2 S2, Pre b F1 O0 F2 O2 H2 σ2 env2 S2 → PostS b E F1 O0 (loopS set g ((enumD 0 ds).drop (i + 1)) env2 S2) Dn → N σ2 H2) :
    gt (.ref T) σ' (upd H' T (.tup [.int (i : Nat), x])) fun σ2 H2 => tS b E g { Dn with nx := N, ct := N, bk := Dn.nx } σ2 H2 := by
  obtain ⟨d, e1, e2⟩ := Dens.get hd hx
  have hg := enumD_get ds 0 i d e1
  rw [Nat.zero_add] at hg
  rw [drop_at hg] at h
  have nF := upd_none P.fit.f hT
  have P2 := P.grow (same_upd nF) (P.fit.new (u := .tup [.int (i : Nat), x]) hT) (P.inv.mono (same_upd nF))
  exact loop_turn ht P2 (d := .tup [.int ((i : Nat) : Int), d]) (v := .ref T) ⟨T, [.int (i : Nat), x], rfl, .inl (.inl upd_same), by show 2 ≤ sizeLine; decide, Dens.cons rfl (Dens.one (Den.mono (P.f0.trans (same_upd nF)) _ _ e2))⟩ h hN
theorem s_forE {ee : Expr} (hc : X.calm = true) (hK : b.c.K = X.K) (hp : PassesOwn (model X.prog X.w) X.A X.env X.xe) (hiL : ∀ ta, PA X [ee] ta → PI X tg iter (iEnum X.K ta)) (hiT : ∀ ta, PA X [ee] ta → PI X tg iter (iEnT X.K ta)) (hi : PE X ee (tE b E f)) (hg : PG X tg gt) (ht : Tgt b X.K gt set js) (hb : PSs X body (tS b E g))
    (hst : starEach [ee] X.env = (false, eval ee X.env) :: starEach [] X.env := by rfl) (hs : ∀ x, foldedSetIterable iter X.env x = pure x := by intro _; rfl) : PS X (.For tg iter body [] pos) (tS b E (forE set f g)) :=
  PS.imp (ps_for hp hc (PI.or (hiL _ (pa_cons hi pa_nil hst)) (hiT _ (pa_cons hi pa_nil hst))) hg hb hs) fun Dn σ H ⟨F0, O0, F, O, env, S, P, h⟩ => by
    have hb := PostS.bind h P.f0 P.o0
    cases hr : f env S with
    | bad => rw [hr] at hb; exact False.elim hb
    | exc n f' fs S' =>
      rw [hr] at hb
      refine .inl ⟨F0, O0, F, O, env, S, P, ?_⟩
      rw [hr]
      exact hb
    | ok p =>
      obtain ⟨d, S1⟩ := p
      cases d with
      | lst ds =>
        refine .inl ⟨F0, O0, F, O, env, S, P, ?_⟩
        rw [hr] at hb ⊢
        intro F1 H1 s1 fit1 I1 v hv
        have k := hb F1 H1 s1 fit1 I1
        obtain ⟨a, vs, rfl, h1, z, h2⟩ := hv
        refine ⟨a, vs, rfl, SqL_of (fit1.f _ _ h1), fun i m σ' H' => m = vs.length - i ∧ i ≤ vs.length ∧ ∃ F' O' env' S', Pre b F1 O0 F' O' H' σ' env' S' ∧ PostS b E F1 O0 (loopS set g ((enumD 0 ds).drop i) env' S') Dn, ⟨vs.length, by simp, Nat.zero_le _, F1, O, env, S1, ⟨fit1, Same.refl _, P.o0, I1, (P.grow s1 fit1 I1).slot, (P.grow s1 fit1 I1).slotO, P.sep, P.len⟩, PostS.base k (P.f0.trans s1) (Same.refl _)⟩, ?_⟩
        rintro i m σ' H' ⟨rfl, hi, F', O', env', S', P', k⟩
        have hq : SqL X.K H' a vs := SqL_of (P'.fit.f _ _ (P'.f0 _ _ h1))
        rcases Nat.lt_or_ge i vs.length with hlt | hge
        · refine .inr ⟨⟨vs, vs[i], hq, by simp [hlt]⟩, fun σ2 H2 => ∃ F2 O2 env2 S2, Pre b F1 O0 F2 O2 H2 σ2 env2 S2 ∧ PostS b E F1 O0 (loopS set g ((enumD 0 ds).drop (i + 1)) env2 S2) Dn, fun σ2 H2 p2 => ⟨vs.length - (i + 1), by omega, rfl, hlt, p2⟩, ?_⟩
          rintro y H2 ⟨T, x, rfl, hT, rfl, hx⟩
          exact enum_turn ht hK P' h2 (hx vs hq) hT k fun σ2 H2 F2 O2 env2 S2 P2 k2 => ⟨F2, O2, env2, S2, P2, k2⟩
        · refine .inl ⟨⟨vs, hq, hge⟩, ?_⟩
          rw [List.drop_eq_nil_of_le (by rw [enumD_len, h2.length]; exact hge)] at k
          exact k σ' F' O' H' P'
      | tup ds =>
        refine .inr ⟨F0, O0, F, O, env, S, P, ?_⟩
        rw [hr] at hb ⊢
        intro F1 H1 s1 fit1 I1 v hv
        have k := hb F1 H1 s1 fit1 I1
        obtain ⟨a, vs, rfl, h1, z, h2⟩ := hv
        rw [hK] at h1
        refine ⟨a, vs, rfl, sqT_mono fit1.f h1, fun i m σ' H' => m = vs.length - i ∧ i ≤ vs.length ∧ ∃ F' O' env' S', Pre b F1 O0 F' O' H' σ' env' S' ∧ PostS b E F1 O0 (loopS set g ((enumD 0 ds).drop i) env' S') Dn, ⟨vs.length, by simp, Nat.zero_le _, F1, O, env, S1, ⟨fit1, Same.refl _, P.o0, I1, (P.grow s1 fit1 I1).slot, (P.grow s1 fit1 I1).slotO, P.sep, P.len⟩, PostS.base k (P.f0.trans s1) (Same.refl _)⟩, ?_⟩
        rintro i m σ' H' ⟨rfl, hi, F', O', env', S', P', k⟩
        have hq : SqT X.K H' a vs := sqT_mono P'.fit.f (sqT_mono P'.f0 h1)
        rcases Nat.lt_or_ge i vs.length with hlt | hge
        · refine .inr ⟨⟨vs, vs[i], hq, by simp [hlt]⟩, fun σ2 H2 => ∃ F2 O2 env2 S2, Pre b F1 O0 F2 O2 H2 σ2 env2 S2 ∧ PostS b E F1 O0 (loopS set g ((enumD 0 ds).drop (i + 1)) env2 S2) Dn, fun σ2 H2 p2 => ⟨vs.length - (i + 1), by omega, rfl, hlt, p2⟩, ?_⟩
          rintro y H2 ⟨T, x, rfl, hT, rfl, hx⟩
          exact enum_turn ht hK P' h2 (hx vs hq) hT k fun σ2 H2 F2 O2 env2 S2 P2 k2 => ⟨F2, O2, env2, S2, P2, k2⟩
        · refine .inl ⟨⟨vs, hq, hge⟩, ?_⟩
          rw [List.drop_eq_nil_of_le (by rw [enumD_len, h2.length]; exact hge)] at k
          exact k σ' F' O' H' P'
      | _ =>
        refine .inl ⟨F0, O0, F, O, env, S, P, ?_⟩
        rw [hr] at hb ⊢
        exact fun F1 H1 s1 fit1 I1 v hv => False.elim (hb F1 H1 s1 fit1 I1)
end
end VS
namespace VS
open PySem PySem.Spec PyProof.Rows L2 PpSet
abbrev freshSet (w : World) : Obj := { cls := .type "set", dict := none, data := .set #[] 0 (.fresh 0 0 (!w.params.followText "set-order")) }
abbrev setGrow (w : World) (D : Addr) (S : Int → Bool) (n : Nat) (c : Int) : HO := SetO w D (fun j => S j || decide (j = c)) (if S c = true then n else n + 1)
abbrev ScStep (w : World) (tt : TT) (te : TE) (vs : List Nat) (σ : L2.St) (D : Addr) (Nx : Hp → Prop) : L2.St → Hp → Prop := fun σ2 H2 => L2.wipe σ2 vs = L2.wipe σ vs ∧ tt σ2 H2 fun b H3 =>
  if b = true then te σ2 H3 fun y H4 => ∃ (c : Int) (S : Int → Bool) (n : Nat), y = .int c ∧ H4 D = some (SetO w D S n) ∧ n + 1 < scanBound ∧ Nx (upd H4 D (setGrow w D S n c)) else Nx H3
def tScI (w : World) (wi : TI) (g : TG) (tt : TT) (te : TE) (vs : List Nat) : TE := fun σ H Q => wi σ H fun J H1 => ∀ D, H1 D = none → ∃ W : Nat → Nat → Hp → Prop, (∃ m, W 0 m (upd H1 D (SetO w D (fun _ => false) 0))) ∧
  ∀ i m H, W i m H → (J.stop i H ∧ Q (.ref D) H) ∨ (J.go i H ∧ ∃ Nx : Hp → Prop, (∀ H', Nx H' → ∃ m', m' < m ∧ W (i + 1) m' H') ∧ ∀ x H', J.yld i H x H' → g x (L2.wipe σ vs) H' (ScStep w tt te vs σ D Nx))
section
variable {X : Cx}
theorem addI_ok {pins : List (Addr × Obj)} {σ : L2.St} {H : Hp} {s : Shared} {E : Value → Shared → Prop} {D : Addr} {S : Int → Bool} {n : Nat} {y : Int} {tk : Tok} {Q : Value → Shared → Prop} (I : Inv X pins σ H s) (hD : H D = some (SetO X.w D S n)) (room : n + 1 < scanBound)
    (h : ∀ s', Inv X pins σ (upd H D (setGrow X.w D S n y)) s' → Q .none s') : wpAny (model X.prog X.w) X.A (call (.builtin "set.add") [.ref D, .int y tk]) Q E s :=
  setR_add (setO_get I hD) room fun h' sb new => h _ (I.write (e := D) (t' := s.toks + 1) (by rw [hD]; trivial) (.inl rfl) (fun b u hb hu => (sb.2 b hb).trans hu) (let ⟨o, _, _, _, ho, _⟩ := new; ⟨o, ho⟩) (setO_new new))
variable {elt tg iter : Expr} {ifs : List Expr} {scope : Scope} {own : List (PySem.Str × Nat)} {pos pos' : Pos} {wi : TI} {g : TG} {tt : TT} {te : TE}
theorem scI_core {pins : List (Addr × Obj)} {s : Shared} {σ : L2.St} {H : Hp} {Q : VK} {use : Option (Value → Sem Unit)} {Qf : Value → Shared → Prop} (hc : X.calm = true) (hN : X.N.Nodup) (I : Inv X pins σ H s) (hi : PI X tg iter wi) (ok : BlkOk X.N X.env.scope scope own)
    (hg : BlkP X scope fun Y => PG Y tg g) (ht : BlkP X scope fun Y => PTs Y ifs tt) (he : BlkP X scope fun Y => PE Y elt te) (hs : ∀ x, foldedSetIterable iter X.env x = pure x) (h : tScI X.w wi g tt te (own.map (·.2)) σ H Q)
    (hRR : ∀ D C s' m H', Inv X pins σ H' s' → Q (.ref D) H' → s'.heap.Ns C m → FpOk X pins H' C → compPost (model X.prog X.w) X.A X.xe use Qf (.ref D) C (.ok .next) s') :
    wpAny (model X.prog X.w) X.A (comprehension (.SetComp elt [⟨tg, iter, ifs, 0⟩] scope pos) scope X.env pos' (newSet (.type "set")) false (eval iter X.env) use) Qf X.xe s := by
  have hfree : ∀ y ∈ scope.names, y.2 = .free → ∃ c, X.env.cells.lookup y.1 = some c := fun y hy e => (ok.free y hy e).elim (fun k => I.ok.has _ (.inl k)) (fun k => I.ok.has _ (.inr k))
  refine wpAny_comprehension_free (use := use) rfl hs (closure_ok hfree) ok.kind (fun y hy e => by rw [ok.uniq y hy, e]) (thn (hi.run pins s σ H _ I h) fun xv s1 hx => thn hx fun itv s2 ⟨it, fp, tn, J, H2, e, I2, T, st2, f2, q⟩ => ?_)
  subst e
  refine newSet_ok (newEnv_comp ?_)
  generalize hD : s2.heap.objs.size = D
  obtain ⟨W, ⟨m0, w0⟩, turn⟩ := q D (I2.hok.fresh (Nat.le_of_eq hD))
  generalize hH3 : upd H2 D (SetO X.w D (fun _ => false) 0) = H3 at w0
  generalize hs3 : ({ s2 with heap := s2.heap.push (freshSet X.w) } : Shared) = s3
  have h3 : s3.heap = s2.heap.push (freshSet X.w) := by rw [← hs3]
  have I3 : Inv X pins σ H3 s3 := by
    rw [← hs3, ← hH3]
    refine I2.laid (t' := s2.toks) (fun b o e => Heap.get?_push_of_some _ e) (Nat.le_of_eq hD) ?_
    rw [← hD]
    exact setO_new (setR_fresh X.w)
  have f3 : ∀ b ∈ fp, FpOk X pins H3 b ∧ b < s3.heap.objs.size := fun b hb => by
    obtain ⟨o, e, _⟩ := T.obj _ _ st2 b hb
    have hlt := Heap.lt_size e
    refine ⟨⟨?_, (f2 b hb).2⟩, by rw [h3, Heap.size_push]; exact Nat.lt_succ_of_lt hlt⟩
    rw [← hH3, upd_ne (by rw [← hD]; exact Nat.ne_of_lt hlt)]
    exact (f2 b hb).1
  have st3 : tn 0 s3.heap := T.keep _ _ _ st2 fun b _ o e => by
    rw [h3]
    exact Heap.get?_push_of_some _ e
  have I4 := block_start I3 ok hN f3
  generalize hcl : cellsFrom (s3.heap.objs.size + 1) scope.names (cloFrom X.env.cells scope.names []) = cl at I4
  have pg := hg s3 H3 s3.heap.objs.size cl fp
  have pt := ht s3 H3 s3.heap.objs.size cl fp
  have pe := he s3 H3 s3.heap.objs.size cl fp
  show codeAny _ _ (.compStart (.SetComp elt [⟨tg, iter, ifs, 0⟩] scope pos) 0 (.ref it) (.ref D) (compEnvC scope cl s3.heap.objs.size X.env)) (compPost (model X.prog X.w) X.A X.xe use Qf (.ref D) s3.heap.objs.size) { s3 with heap := pushCells (s3.heap.push { cls := .type "dict", data := .dict #[] }) scope.names }
  generalize hce : compEnvC scope cl s3.heap.objs.size X.env = ce at I4 pg pt pe ⊢
  have cL : ce.locals = s3.heap.objs.size := by subst hce; rfl
  generalize hs4 : ({ s3 with heap := pushCells (s3.heap.push { cls := .type "dict", data := .dict #[] }) scope.names } : Shared) = s4 at I4 ⊢
  have st4 : tn 0 s4.heap := T.keep _ _ _ st3 fun b _ o e => by
    rw [← hs4]
    exact pushCells_keeps _ _ _ _ (Heap.get?_push_of_some _ e)
  have stat : ∀ {σ' : L2.St} {H' : Hp} {s' : Shared}, Inv (X.blk s3 H3 scope ce fp) [] σ' H' s' → (∀ b ∈ fp, H' b = none) → ∀ b ∈ fp, FpOk (X.blk s3 H3 scope ce fp) [] H' b := fun {σ' H' s'} I' hn b hb => ⟨hn b hb, (I'.ok.exf b hb).1, I'.ok.exfs b hb, .inl hb, fun x c e => (I'.ok.exf b hb).2 x c e, fun p hp => absurd (show p ∈ ([] : List (Addr × Obj)) ++ [] from hp) (by simp)⟩
  have loop : codeAny (model X.prog X.w) X.A (.compLoop (.SetComp elt [⟨tg, iter, ifs, 0⟩] scope pos) 0 (.ref it) (.ref D) ce) (compPost (model X.prog X.w) X.A X.xe use Qf (.ref D) s3.heap.objs.size) s4 := by
    refine compLoopS_any (fun n s' => ∃ i H', Inv (X.blk s3 H3 scope ce fp) [] (L2.wipe σ (own.map (·.2))) H' s' ∧ tn i s'.heap ∧ (∀ b ∈ fp, H' b = none) ∧ W i n H') ?_ m0 ⟨0, H3, I4, st4, fun b hb => (f3 b hb).1.1, w0⟩
    rintro n s5 ⟨i, H5, I5, st5, n5, w5⟩
    rcases turn i n H5 w5 with ⟨stop, qq⟩ | ⟨go, Nx, hNx, step⟩
    · refine thnF (T.done (X.blk s3 H3 scope ce fp) rfl rfl rfl hc i [] s5 _ H5 (fun _ _ => False) I5 (stat I5 n5) st5 stop) fun r s6 ⟨hr, I6⟩ => ?_
      subst hr
      have nC : H5 s3.heap.objs.size = none := cL ▸ (show H5 ce.locals = none from I6.free)
      obtain ⟨m, hn, _⟩ := I6.loc
      have hn : s6.heap.Ns ce.locals m := hn
      rw [cL] at hn
      exact hRR D _ s6 m H5 (I3.call' (ch := fp) I6.os I6.base I6.hok I6.bare fun b hb => ⟨(f3 b hb).1.2.2.2.1, (f3 b hb).1.2.1, (f3 b hb).1.2.2.2.2.1, (f3 b hb).1.2.2.2.2.2⟩) qq hn (I3.fpOk (Nat.le_refl _) nC)
    · refine thnF (T.item (X.blk s3 H3 scope ce fp) rfl rfl rfl hc i [] s5 _ H5 (fun _ _ => False) I5 (stat I5 n5) st5 go) fun r s6 ⟨u, hr, h6⟩ => ?_
      subst hr
      refine thnF h6 fun _ s7 ⟨x, H7, I7, r7, y7, st7, n7⟩ => ?_
      refine thnF (pg.run _ s7 _ H7 x u _ (I7.pinned (stat I7 n7) (T.obj _ _ st7)) r7 (step x H7 y7)) fun _ s8 ⟨σ8, H8, I8, hw8, q8⟩ => ?_
      refine thnF (pt.run _ s8 σ8 H8 _ I8 q8) fun b s9 ⟨H9, I9, q9⟩ => ?_
      have fin : ∀ {s' : Shared} {H' : Hp}, Inv (X.blk s3 H3 scope ce fp) ([] ++ pinsAt fp s7.heap) σ8 H' s' → Nx H' → ∃ m, m < n ∧ ∃ i H', Inv (X.blk s3 H3 scope ce fp) [] (L2.wipe σ (own.map (·.2))) H' s' ∧ tn i s'.heap ∧ (∀ b ∈ fp, H' b = none) ∧ W i m H' := fun {s' H'} I' nx => by
        obtain ⟨m', hm, w'⟩ := hNx H' nx
        have pin' : ∀ b ∈ fp, ∀ o, s7.heap.get? b = some o → s'.heap.get? b = some o ∧ H' b = none := fun b hb o e => ⟨(I'.pin (b, o) (List.mem_append_right _ (List.mem_append_right _ (mem_pinsAt hb e)))).1, (I'.pin (b, o) (List.mem_append_right _ (List.mem_append_right _ (mem_pinsAt hb e)))).2.1⟩
        refine ⟨m', hm, i + 1, H', (I'.unpinned (pins := [])).weak (by rw [← hw8, L2.wipe_length]) (fun j v e => ?_), T.keep _ _ _ st7 fun b hb o e => (pin' b hb o e).1, fun b hb => ?_, w'⟩
        · exact (wipe_some (hw8 ▸ e)).1
        · obtain ⟨o, e, _⟩ := T.obj _ _ st7 b hb
          exact (pin' b hb o e).2
      cases b with
      | false =>
        rw [if_neg Bool.false_ne_true] at q9
        exact iteF (fin I9 q9)
      | true =>
        rw [if_pos rfl] at q9
        refine iteT (thnF (pe.run _ s9 σ8 H9 _ I9 q9) fun z s10 ⟨yv, H10, I10, r10, cb, S0, n0, ey, hD10, hz10, nx⟩ => ?_)
        subst ey
        obtain ⟨tk, rfl⟩ := r10
        exact addI_ok (X := X.blk s3 H3 scope ce fp) I10 hD10 hz10 fun s11 I11 => fin I11 nx
  exact codeAny_compStart_set loop (T.self X.A 0 _ _ _ st4 loop)
theorem pe_scI (hc : X.calm = true) (hN : X.N.Nodup) (hi : PI X tg iter wi) (ok : BlkOk X.N X.env.scope scope own) (hg : BlkP X scope fun Y => PG Y tg g) (ht : BlkP X scope fun Y => PTs Y ifs tt) (he : BlkP X scope fun Y => PE Y elt te) (hs : ∀ x, foldedSetIterable iter X.env x = pure x := by intro _; rfl) :
    PE X (.SetComp elt [⟨tg, iter, ifs, 0⟩] scope pos) (tScI X.w wi g tt te (own.map (·.2))) := by
  refine ⟨fun pins s σ H Q I h => ?_⟩
  rw [PpSet.eval_SetComp]
  exact scI_core hc hN I hi ok hg ht he hs h fun D C s' m H' I' q hn ⟨f0, f1, f2, f3, f4, f5⟩ => ⟨m, hn, fun h'' sb => ⟨.ref D, H', I'.turned (t' := s'.toks) (fun b o hb e => (sb.2 b hb).trans e) f0 f1 f3 f4 f5, rfl, q⟩⟩
end
end VS
namespace VS
open PySem PySem.Spec PyProof.Rows L2 PpSet
theorem cr_lenSet {X : Cx} : CallR X (.builtin "len") (fun xs H Q => ∃ a S n, xs = [.ref a] ∧ H a = some (SetO X.w a S n) ∧ Q (.int (n : Nat)) H) := by
  intro pins s σ H xs us Q I r h
  obtain ⟨a, S, n, rfl, ha, q⟩ := h
  rw [Vals.ref1 r]
  obtain ⟨o, es, ep, t, ho, hex, hd, _, _, _, hb, hf, hn, _, _⟩ := setO_get I ha
  exact PySem.call_len_set ho hex hd hf (by have : scanBound < 2 ^ 62 := (by decide); omega) ⟨.int n, H, I.tok _, ⟨_, by rw [hn]⟩, q⟩
def compI (set : Env → D → Option Env) (test : MT) (elt : ME) (env0 : Env) : List D → List Int → DS → Res (List Int × DS)
  | [], acc, S => .ok (acc, S)
  | d :: ds, acc, S => match set env0 d with
    | none => .bad
    | some env1 => bindM (noX (test env1 S)) fun k S1 => if k = true then bindM (noX (elt env1 S1)) fun y S2 => match y with
        | .int c => compI set test elt env0 ds (if acc.contains c = true then acc else acc ++ [c]) S2
        | _ => .bad
      else compI set test elt env0 ds acc S1
def scLenM (set : Env → D → Option Env) (f : ME) (test : MT) (elt : ME) (vs : List Nat) : ME := fun env S => bindM (f env S) fun d S1 => match d with
  | .lst ds => if ds.length ≤ 4000 then bindM (compI set test elt (wipeE env vs) ds [] S1) fun acc S2 => .ok (.int acc.length, S2) else .bad
  | .tup ds => if ds.length ≤ 4000 then bindM (compI set test elt (wipeE env vs) ds [] S1) fun acc S2 => .ok (.int acc.length, S2) else .bad
  | _ => .bad
abbrev setI (w : World) (D : Addr) (acc : List Int) : HO := SetO w D (fun j => acc.contains j) acc.length
theorem setGrow_eq {w : World} {D : Addr} {acc : List Int} {c : Int} : setGrow w D (fun j => acc.contains j) acc.length c = setI w D (if acc.contains c = true then acc else acc ++ [c]) := by
  unfold setGrow setI
  by_cases h : acc.contains c = true
  · simp only [if_pos h]
    congr 1
    funext j
    by_cases e : j = c
    · subst e; rw [h]; rfl
    · simp [e]
  · simp only [if_neg h, List.length_append, List.length_singleton]
    congr 1
    funext j
    by_cases e : j = c
    · subst e; simp
    · simp [e]
theorem million2 : 4000 + 1 < scanBound := by decide
section
variable {X : Cx} {b : Bc} {E : XK} {e tg iter : Expr} {f fe : ME} {test : MT} {gt : TG} {set : Env → D → Option Env} {js : List Nat}
structure CmpS (w : World) (b : Bc) (E : XK) (O F1 : Hp) (K : D → DS → Hp → Hp → Prop) (go : List Int → DS → Res (List Int × DS)) (D0 : Addr) (i : Nat) (H : Hp) : Prop where
  ex : ∃ F acc S, FitB b F (upd O D0 (setI w D0 acc)) S H ∧ b.I S F ∧ Same F1 F ∧ acc.length ≤ i ∧ Post b E O F (bindM (go acc S) fun acc S2 => .ok (D.int acc.length, S2)) K
theorem sc_turn (ht : Tgt b X.K gt set js) {F0 O0 O F1 H H' : Hp} {σ : L2.St} {env : Env} {S : DS} {vs : List Nat} {K : D → DS → Hp → Hp → Prop} {d : D} {ds : List D} {D0 : Addr} {i : Nat} {v : V} (P : Pre b F0 O0 F1 O H σ env S) (hO : O D0 = none)
    (hv : Den b.c F1 d v) (hvs : vs.all (fun i => !b.own.contains i) = true) (hjs : js.all (fun j => vs.contains j) = true) (hi : i < 4000)
    (C : CmpS X.w b E O F1 K (compI set test fe (wipeE env vs) (d :: ds)) D0 i H') :
    gt v (L2.wipe σ vs) H' (ScStep X.w (tT b XF test) (tE b XF fe) vs σ D0 (fun H3 => CmpS X.w b E O F1 K (compI set test fe (wipeE env vs) ds) D0 (i + 1) H3)) := by
  obtain ⟨F2, acc, S2, fit2, I2, s2, hl, hp⟩ := C.ex
  have eO : Same O (upd O D0 (setI X.w D0 acc)) := same_upd hO
  have P2 : Pre b F0 O0 F2 (upd O D0 (setI X.w D0 acc)) H' σ env S2 := by
    refine ⟨fit2, P.f0.trans s2, P.o0.trans eO, I2, fun i d h n => ?_, fun i d h n => ?_, P.sep, P.len⟩
    · obtain ⟨v, h1, h2⟩ := P.slot i d h n; exact ⟨v, h1, Den.mono s2 _ _ h2⟩
    · obtain ⟨a, h1, h2, h3⟩ := P.slotO i d h n; exact ⟨a, h1, h2.mono s2 (fun o q => eO _ _ q), h3⟩
  have P3 := P2.wipe vs hvs
  unfold compI at hp
  cases hs : set (wipeE env vs) d with
  | none => simp only [hs] at hp; exact False.elim hp
  | some env1 =>
    simp only [hs] at hp
    rw [bindM_assoc] at hp
    refine ht.run F0 O0 F2 _ H' (L2.wipe σ vs) (wipeE env vs) S2 d v env1 _ P3 (Den.mono s2 _ _ hv) hs fun σ2 P4 q4 l4 => ⟨wipe_eq (by rw [l4, L2.wipe_length]) q4 hjs, F0, O0, F2, _, env1, S2, P4, ((Post.noX (Post.bind hp)).moreO eO).imp fun k S3 F3 H3 s3 fit3 I3 hp => ?_⟩
    cases k with
    | true =>
      rw [if_pos rfl, bindM_assoc] at hp
      refine iteT ⟨F0, O0, F3, _, env1, S3, P4.grow s3 fit3 I3, ((Post.noX (Post.bind hp)).moreO eO).imp fun y S4 F4 H4 s4 fit4 I4 hp w hw => ?_⟩
      cases y with
      | int c =>
        simp only [Den] at hw
        refine ⟨c, _, acc.length, hw, fit4.o D0 _ upd_same, Nat.lt_of_le_of_lt (by omega) million2, F4, (if acc.contains c = true then acc else acc ++ [c]), S4, ?_, I4, (s2.trans s3).trans s4, ?_, hp⟩
        · rw [setGrow_eq]
          have := fit4.setO (u' := setI X.w D0 (if acc.contains c = true then acc else acc ++ [c])) (upd_same (H := O) (a := D0) (o := setI X.w D0 acc)) (.inr (.inr ⟨_, _, _, _, rfl⟩))
          rw [upd_upd] at this
          exact this
        · split
          · omega
          · rw [List.length_append, List.length_singleton]; omega
      | _ => exact False.elim hp
    | false =>
      rw [if_neg Bool.false_ne_true] at hp
      exact iteF ⟨F3, acc, S3, fit3, I3, s2.trans s3, by omega, hp⟩
theorem sc_end {O F1 H' : Hp} {env0 : Env} {Q : VK} {D0 : Addr} {i : Nat} (hO : O D0 = none)
    (C : CmpS X.w b E O F1 (fun d S' F' H' => ∀ v, Den b.c F' d v → Q v H') (compI set test fe env0 []) D0 i H') : ∃ a S n, [V.ref D0] = [.ref a] ∧ H' a = some (SetO X.w a S n) ∧ Q (.int (n : Nat)) H' := by
  obtain ⟨F2, acc, S2, fit2, I2, s2, hl, hp⟩ := C.ex
  have eO : Same O (upd O D0 (setI X.w D0 acc)) := same_upd hO
  exact ⟨D0, _, acc.length, rfl, fit2.o D0 _ upd_same, hp F2 H' (Same.refl _) (fit2.less eO) I2 _ rfl⟩
abbrev rLenSc (w : World) : List V → Hp → VK → Prop := fun xs H Q => ∃ a S n, xs = [.ref a] ∧ H a = some (SetO w a S n) ∧ Q (.int (n : Nat)) H
abbrev tLenSc (w : World) (t : TE) : TE := tCB (rLenSc w) (tCons t tNil)
theorem sc_imp {vs : List Nat} (hK : b.c.K = X.K) (ht : Tgt b X.K gt set js) (hvs : vs.all (fun i => !b.own.contains i) = true) (hjs : js.all (fun j => vs.contains j) = true) :
    ∀ σ H Q, tE b E (scLenM set f test fe vs) σ H Q → tLenSc X.w (tScI X.w (iTup X.K (tB b E f)) gt (tT b XF test) (tE b XF fe) vs) σ H Q ∨ tLenSc X.w (tScI X.w (iList X.K (tB b E f)) gt (tT b XF test) (tE b XF fe) vs) σ H Q := fun σ H Q ⟨F0, O0, F, O, env, S, P, h⟩ => by
    have hb := Post.bind h
    cases hr : f env S with
    | bad => rw [hr] at hb; exact False.elim hb
    | exc n f' fs S' =>
      rw [hr] at hb
      refine .inl ⟨F0, O0, F, O, env, S, P, ?_⟩
      rw [hr]
      exact hb
    | ok p =>
      obtain ⟨d, S1⟩ := p
      cases d with
      | tup ds =>
        refine .inl ⟨F0, O0, F, O, env, S, P, ?_⟩
        rw [hr] at hb ⊢
        intro F1 H1 s1 fit1 I1 v hv
        have k := hb F1 H1 s1 fit1 I1
        obtain ⟨a, us, rfl, h1, z, h2⟩ := hv
        rw [hK] at h1
        by_cases hz : ds.length ≤ 4000
        · simp only [if_pos hz] at k
          refine ⟨a, rfl, ⟨us, sqT_mono fit1.f h1⟩, fun D0 hD => ?_⟩
          have nO := upd_none fit1.o hD
          have P1 := P.grow s1 fit1 I1
          refine ⟨fun i m H' => m = us.length - i ∧ i ≤ us.length ∧ CmpS X.w b E O F1 (fun d S' F' H' => ∀ v, Den b.c F' d v → Q v H') (compI set test fe (wipeE env vs) (ds.drop i)) D0 i H', ⟨us.length, by simp, Nat.zero_le _, F1, [], S1, fit1.newO hD (.inr (.inr ⟨_, _, _, _, rfl⟩)), I1, Same.refl _, Nat.le_refl _, k⟩, ?_⟩
          rintro i m H' ⟨rfl, hi, C⟩
          have hq : SqT X.K H' a us := by
            obtain ⟨F2, _, S2, fit2, _, s2, _⟩ := C.ex
            exact sqT_mono fit2.f (sqT_mono s2 h1)
          rcases Nat.lt_or_ge i us.length with hlt | hge
          · refine .inr ⟨⟨us, us[i], hq, by simp [hlt]⟩, fun H2 => CmpS X.w b E O F1 (fun d S' F' H' => ∀ v, Den b.c F' d v → Q v H') (compI set test fe (wipeE env vs) (ds.drop (i + 1))) D0 (i + 1) H2, fun H2 C2 => ⟨us.length - (i + 1), by omega, rfl, hlt, C2⟩, ?_⟩
            rintro x H2 ⟨rfl, hx⟩
            obtain ⟨d, e1, e2⟩ := Dens.get h2 (hx us hq)
            rw [drop_at e1] at C
            have hlt2 := (List.getElem?_eq_some_iff.mp e1).1
            exact sc_turn ht P1 nO e2 hvs hjs (by omega) C
          · refine .inl ⟨⟨us, hq, hge⟩, ?_⟩
            rw [List.drop_eq_nil_of_le (by rw [h2.length]; exact hge)] at C
            exact sc_end nO C
        · simp only [if_neg hz] at k
          exact False.elim k
      | lst ds =>
        refine .inr ⟨F0, O0, F, O, env, S, P, ?_⟩
        rw [hr] at hb ⊢
        intro F1 H1 s1 fit1 I1 v hv
        have k := hb F1 H1 s1 fit1 I1
        obtain ⟨a, us, rfl, h1, z, h2⟩ := hv
        by_cases hz : ds.length ≤ 4000
        · simp only [if_pos hz] at k
          refine ⟨a, rfl, ⟨us, SqL_of (h1.elim (fit1.f _ _) (fit1.o _ _))⟩, fun D0 hD => ?_⟩
          have nO := upd_none fit1.o hD
          have P1 := P.grow s1 fit1 I1
          refine ⟨fun i m H' => m = us.length - i ∧ i ≤ us.length ∧ CmpS X.w b E O F1 (fun d S' F' H' => ∀ v, Den b.c F' d v → Q v H') (compI set test fe (wipeE env vs) (ds.drop i)) D0 i H', ⟨us.length, by simp, Nat.zero_le _, F1, [], S1, fit1.newO hD (.inr (.inr ⟨_, _, _, _, rfl⟩)), I1, Same.refl _, Nat.le_refl _, k⟩, ?_⟩
          rintro i m H' ⟨rfl, hi, C⟩
          have hq : SqL X.K H' a us := by
            obtain ⟨F2, _, S2, fit2, _, s2, _⟩ := C.ex
            exact SqL_of (h1.elim (fun q => fit2.f _ _ (s2 _ _ q)) fun q => fit2.o _ _ (same_upd nO _ _ q))
          rcases Nat.lt_or_ge i us.length with hlt | hge
          · refine .inr ⟨⟨us, us[i], hq, by simp [hlt]⟩, fun H2 => CmpS X.w b E O F1 (fun d S' F' H' => ∀ v, Den b.c F' d v → Q v H') (compI set test fe (wipeE env vs) (ds.drop (i + 1))) D0 (i + 1) H2, fun H2 C2 => ⟨us.length - (i + 1), by omega, rfl, hlt, C2⟩, ?_⟩
            rintro x H2 ⟨rfl, hx⟩
            obtain ⟨d, e1, e2⟩ := Dens.get h2 (hx us hq)
            rw [drop_at e1] at C
            have hlt2 := (List.getElem?_eq_some_iff.mp e1).1
            exact sc_turn ht P1 nO e2 hvs hjs (by omega) C
          · refine .inl ⟨⟨us, hq, hge⟩, ?_⟩
            rw [List.drop_eq_nil_of_le (by rw [h2.length]; exact hge)] at C
            exact sc_end nO C
        · simp only [if_neg hz] at k
          exact False.elim k
      | _ =>
        refine .inl ⟨F0, O0, F, O, env, S, P, ?_⟩
        rw [hr] at hb ⊢
        exact fun F1 H1 s1 fit1 I1 v hv => False.elim (hb F1 H1 s1 fit1 I1)
theorem e_scLen {vs : List Nat} (hK : b.c.K = X.K) (ht : Tgt b X.K gt set js) (hvs : vs.all (fun i => !b.own.contains i) = true) (hjs : js.all (fun j => vs.contains j) = true)
    (h : ∀ wi, PI X tg iter wi → PE X e (tLenSc X.w (tScI X.w wi gt (tT b XF test) (tE b XF fe) vs))) (hi : PE X iter (tB b E f)) : PE X e (tE b E (scLenM set f test fe vs)) :=
  PE.imp (PE.or (h _ (pi_tup hi)) (h _ (pi_list hi))) (sc_imp hK ht hvs hjs)
end
end VS
namespace VS
open PySem PySem.Spec PyProof.Rows L2
theorem law_start0 {K : PySem.W.Frag} {mg : Str → Option Value} {a : Addr} {own : List Nat} {ns : List Int} {H : Hp} {E : XK} {g : MS} {N : Nat} {σ : L2.St} {Q : VK} {nxx bk ct : L2.St → Hp → Prop} (hS : SqL K H a (ns.map V.int)) (hno : ∀ b o, H b = some o → b ∈ ([] : List Addr) ∨ NoTbl o) (hz : ns.length ≤ 1000)
    (hσ : σ = some (.ref a) :: List.replicate N none) (hown : own.all (fun i => decide (1 < i)) = true) (hg : ∃ S', g (some (.scr ns) :: some .st :: List.replicate (N - 1) none) (begun ns) = .ok (.rt (.bl true), S')) (hN : 1 ≤ N) (hQ : ∀ H', Q (.bl true) H') :
    spBegun K mg [.ref a] H (fun v H' => ∃ l : Lay, tS (bS K mg l (exT fun _ => none) own) E g { nx := nxx, rt := Q, bk := bk, ct := ct } (σ.set 1 (some v)) H') E := by
  have fit : Fits H (fun _ => none) (fun _ => none) H := by
    refine ⟨fun b o e => e, fun b o e => (by cases e), fun b o e => (by cases e), fun b e => absurd rfl e, fun b e => absurd rfl e, fun b e => rfl, fun b o e => ?_, fun b o e => (by cases e)⟩
    rcases hno b o e with z | z
    · simp at z
    · exact z
  refine ⟨rfl, ⟨0, 0, 0⟩, H, fun _ => none, fun _ => none, ns, fit, ⟨.ref a, [], rfl, ⟨a, rfl, hS⟩, rfl⟩, hz, fun l F' H' s hsa hla fit' I' => ⟨l, F', fun _ => none, F', fun _ => none, some (.scr ns) :: some .st :: List.replicate (N - 1) none, begun ns, ?_, ?_⟩⟩
  · have get2 : ∀ i d, (some (D.scr ns) :: some D.st :: List.replicate (N - 1) none)[i]? = some (some d) → (i = 0 ∧ d = .scr ns) ∨ (i = 1 ∧ d = .st) := fun i d h => by
      match i, h with
      | 0, h => simp at h; exact .inl ⟨rfl, h.symm⟩
      | 1, h => simp at h; exact .inr ⟨rfl, h.symm⟩
      | i + 2, h =>
        simp only [List.getElem?_cons_succ, List.getElem?_replicate] at h
        split at h <;> cases h
    obtain ⟨N, rfl⟩ : ∃ m, N = m + 1 := ⟨N - 1, by omega⟩
    refine ⟨⟨fun _ => none, rfl, fit'⟩, Same.refl _, Same.refl _, fun _ => I', fun i d h n => ?_, fun i d h n => ?_, fun i j x hi hj e1 e2 h1 h2 => ?_, ?_⟩
    · rw [hσ]
      rcases get2 i d h with ⟨rfl, rfl⟩ | ⟨rfl, rfl⟩
      · exact ⟨.ref a, rfl, a, rfl, s.seq hS⟩
      · exact ⟨.ref l.sa, by simp [List.replicate_succ], rfl⟩
    · have := of_decide_eq_true (List.all_eq_true.mp hown i n)
      rcases get2 i d h with ⟨rfl, _⟩ | ⟨rfl, _⟩ <;> omega
    · obtain ⟨d, e1⟩ := e1
      have := of_decide_eq_true (List.all_eq_true.mp hown i hi)
      rcases get2 i d e1 with ⟨rfl, _⟩ | ⟨rfl, _⟩ <;> omega
    · rw [hσ]
      simp
  · obtain ⟨S', hg⟩ := hg
    rw [hg]
    intro v F2 O2 H2 _ _ _ _ hv
    have hv : v = .bl true := hv
    subst hv
    exact hQ H2
end VS
namespace VS
open PySem PySem.Spec PyProof.Rows L2
def par3S (i j l : Nat) (g : MA) : MS := fun env S => bindM (g env S) fun ds S1 => match ds with | [d, e, f] => .ok (.nx (((env.set i (some d)).set j (some e)).set l (some f)), S1) | _ => .bad
section
variable {X : Cx} {b : Bc} {E : XK} {st : Stmt}
theorem s_par3 {es : List Expr} {ga : MA} (i j l : Nat) (hi : b.own.contains i = false) (hj : b.own.contains j = false) (hl : b.own.contains l = false) (hst : ∀ ta, PA X es ta → PS X st (tPar3 i j l ta)) (h : PA X es (tA b E ga)) : PS X st (tS b E (par3S i j l ga)) :=
  PS.imp (hst _ h) fun Dn σ H ⟨F0, O0, F, O, env, S, P, h⟩ => ⟨F0, O0, F, O, env, S, P, (PostS.bind h P.f0 P.o0).imp fun ds S1 F1 H1 s1 fit1 I1 k vs hv => by
    match ds, k, hv with
    | [], k, _ => exact False.elim k
    | [_], k, _ => exact False.elim k
    | [_, _], k, _ => exact False.elim k
    | d :: e :: f :: x :: r, k, _ => exact False.elim k
    | [d, e, f], k, hv =>
      simp only [Dens] at hv
      obtain ⟨v, r, rfl, h1, w, r2, rfl, h2, u, r3, rfl, h3, rfl⟩ := hv
      exact ⟨v, w, u, rfl, k _ F1 O H1 ((((P.grow s1 fit1 I1).set (by simpa using hi) h1).set (by simpa using hj) h2).set (by simpa using hl) h3)⟩⟩
end
theorem lenR1 {f : ME} : ∀ (env : Env) S ds S', consA f nilA env S = .ok (ds, S') → ds.length = 1 := len_cons (e := .Constant .none 0 ⟨0, 0, 0, 0⟩) (es := []) len_nil
theorem lenR2 {f g : ME} : ∀ (env : Env) S ds S', consA f (consA g nilA) env S = .ok (ds, S') → ds.length = 2 := len_cons (e := .Constant .none 0 ⟨0, 0, 0, 0⟩) (es := [.Constant .none 0 ⟨0, 0, 0, 0⟩]) (len_cons (e := .Constant .none 0 ⟨0, 0, 0, 0⟩) (es := []) len_nil)
end VS
namespace VS
open PySem PySem.Spec PyProof.Rows L2
def rDG : R2 := fun x y H Q => ∃ a v, x = .ref a ∧ DGet H a y (some v) ∧ Q v H
theorem ix_dict {X : Cx} (hu : X.A.units + 1 < cLine) : IxR X rDG := by
  intro value slice pins s σ H x y v u Q I rx ry h hs
  obtain ⟨a, w, rfl, g, q⟩ := h
  cases rx
  exact tail_any (dict_typeIs I g) PySem.F.slot_dict_getitem.lookup (d_getItem hu I g ry fun w' s3 I3 rw' => ⟨w, H, I3, rw', q⟩) hs
def rIxA (K : PySem.W.Frag) : R2 := fun x y H Q => rIx K x y H Q ∨ rDG x y H Q
theorem ix_all {X : Cx} (hu : X.A.units + 1 < cLine) : IxR X (rIxA X.K) := ix_seq.or (ix_dict hu)
def gIxA : D → D → Option D
  | .lst xs, .int i => atI xs i
  | .tup xs, .int i => atI xs i
  | .dct ks xs, .int i => dlook ks xs (.inl i)
  | .dct ks xs, .str z => dlook ks xs (.inr z)
  | _, _ => none
theorem r_ixA {c : Dc} : RuleB c (rIxA c.K) gIxA := by
  intro F O T H d e v u d' Q fit hv hu g q
  cases d <;> cases e <;> simp only [gIxA, reduceCtorEq] at g
  · rename_i xs i
    exact .inl (r_ix F O T H (.tup xs) (.int i) v u d' Q fit hv hu g q)
  · rename_i xs i
    exact .inl (r_ix F O T H (.lst xs) (.int i) v u d' Q fit hv hu g q)
  · rename_i ks xs i
    obtain ⟨a, kv, rfl, h1, h2, h3⟩ := hv
    obtain ⟨w, e1, e2⟩ := (dlook_val h2 h3).1 _ g
    refine .inr ⟨a, w, rfl, ?_, q _ F H (Same.refl _) fit e2⟩
    rw [show u = _ from hu, ← e1]
    exact DGet.k (k := .inl i) (h1.elim (fit.f _ _) (fit.o _ _))
  · rename_i ks xs i
    obtain ⟨a, kv, rfl, h1, h2, h3⟩ := hv
    obtain ⟨w, e1, e2⟩ := (dlook_val h2 h3).1 _ g
    refine .inr ⟨a, w, rfl, ?_, q _ F H (Same.refl _) fit e2⟩
    rw [show u = _ from hu, ← e1]
    exact DGet.k (k := .inr i) (h1.elim (fit.f _ _) (fit.o _ _))
def rSetA : V → V → V → Hp → (Hp → Prop) → Prop := fun o i v H Q => rSetL o i v H Q ∨ rSetD o i v H Q
theorem set_all {X : Cx} (hu : X.A.units + 1 < cLine) : PSet X rSetA := fun pins s σ H o i v ov iv u Q I ro ri rv h => h.elim (set_list pins s σ H o i v ov iv u Q I ro ri rv) (set_dict hu pins s σ H o i v ov iv u Q I ro ri rv)
def setA (i : Nat) (fj f : ME) : MS := fun env S => bindM (f env S) fun d S1 => match env[i]? with
  | some (some (.lst ds)) => bindM (fj env S1) fun k S2 => match k with
    | .int k => (match ixN ds.length k with
      | some j => .ok (.nx (env.set i (some (.lst (ds.set j d)))), S2)
      | none => .bad)
    | _ => .bad
  | some (some (.dct ks xs)) => bindM (fj env S1) fun k S2 => match keyD k with
    | some k => if ks.length < 1000000 then .ok (.nx (env.set i (some (.dct (dputK ks k) (dputV ks xs k d)))), S2) else .bad
    | none => .bad
  | _ => .bad
section
variable {X : Cx} {b : Bc} {E : XK} {e e1 : Expr} {st : Stmt} {f f1 : ME}
theorem Pre.dctAt {F0 O0 F O H : Hp} {σ : L2.St} {env : Env} {S : DS} {i : Nat} {ks : List Key} {xs : List D} (P : Pre b F0 O0 F O H σ env S) (hi : i ∈ b.own) (h : env[i]? = some (some (.dct ks xs))) : ∃ a kv, σ[i]? = some (some (.ref a)) ∧ O a = some (.dK kv) ∧ O0 a = none ∧ kv.map (·.1) = ks ∧ Dens b.c F xs (kv.map (·.2)) := by
  obtain ⟨a, h1, ⟨kv, h2, h3, h4⟩, h5⟩ := P.slotO i _ h hi
  exact ⟨a, kv, h1, h2, h5, h3, h4⟩
theorem s_setA (i : Nat) (ho : b.own.contains i = true) (h : ∀ te tj, PE X e te → PE X e1 tj → PS X st (tAsg te (L2.gSub (tVar i) tj rSetA))) (hj : PE X e1 (tE b E f1)) (he : PE X e (tE b E f)) : PS X st (tS b E (setA i f1 f)) :=
  PS.imp (h _ _ he hj) fun Dn σ H ⟨F0, O0, F, O, env, S, P, h⟩ => ⟨F0, O0, F, O, env, S, P, (PostS.bind h P.f0 P.o0).imp fun d S1 F1 H1 s1 fit1 I1 k v hv => by
    have hi : i ∈ b.own := by simpa using ho
    have P1 := P.grow s1 fit1 I1
    split at k
    · rename_i ds hg
      obtain ⟨a, vs, h1, h2, h3, hz, hd⟩ := P1.lstAt hi hg
      refine ⟨_, h1, F0, O0, F1, O, env, S1, P1, (PostS.bind k P1.f0 P1.o0).imp fun kk S2 F2 H2 s2 fit2 I2 k u hu => ?_⟩
      have P2 := P1.grow s2 fit2 I2
      have hd2 := Dens.mono s2 _ _ hd
      cases kk with
      | int kk =>
        cases hq : ixN ds.length kk with
        | none => simp only [hq] at k; exact False.elim k
        | some j =>
          simp only [hq] at k
          refine .inl ⟨a, vs, kk, j, rfl, hu, fit2.o _ _ h2, by rw [← hd2.length]; exact hq, ?_⟩
          exact k σ F2 _ _ (P2.chg hi hg h1 h2 (d' := .lst (ds.set j d)) ⟨_, rfl, by rw [List.length_set]; exact hz, Dens.set (Den.mono s2 _ _ hv) j hd2⟩)
      | _ => exact False.elim k
    · rename_i ks xs hg
      obtain ⟨a, kv, h1, h2, h3, hz, hd⟩ := P1.dctAt hi hg
      refine ⟨_, h1, F0, O0, F1, O, env, S1, P1, (PostS.bind k P1.f0 P1.o0).imp fun kk S2 F2 H2 s2 fit2 I2 k u hu => ?_⟩
      have P2 := P1.grow s2 fit2 I2
      have hd2 := Dens.mono s2 _ _ hd
      cases hk : keyD kk with
      | none => simp only [hk] at k; exact False.elim k
      | some k0 =>
        simp only [hk] at k
        by_cases hl : ks.length < 1000000
        · rw [if_pos hl] at k
          obtain ⟨p1, p2⟩ := dput_den (k := k0) hz hd2 (Den.mono s2 _ _ hv)
          have hlen : kv.length < sizeLine := by
            have : kv.length = ks.length := by rw [← hz]; simp
            rw [this]; exact Nat.lt_of_lt_of_le hl million
          refine .inr ⟨a, _, rfl, (keyD_den hu hk) ▸ DPut.k (fit2.o _ _ h2) hlen, ?_⟩
          · exact k σ F2 _ _ (P2.chg hi hg h1 h2 (d' := .dct (dputK ks k0) (dputV ks xs k0 d)) ⟨_, rfl, p1, p2⟩)
        · rw [if_neg hl] at k
          exact False.elim k
    · exact False.elim k⟩
end
def intKeys : List Key → Option (List Int)
  | [] => some []
  | .inl i :: r => (intKeys r).map (i :: ·)
  | .inr _ :: _ => none
theorem intKeys_some : ∀ {ks : List Key} {ns : List Int}, intKeys ks = some ns → ks = ns.map Sum.inl
  | [], ns, h => by cases h; rfl
  | .inl i :: r, ns, h => by
    simp only [intKeys, Option.map_eq_some_iff] at h
    obtain ⟨ms, h1, rfl⟩ := h
    rw [intKeys_some h1] <;> rfl
  | .inr _ :: _, _, h => by simp [intKeys] at h
def gSortedA : List D → Option D
  | [.lst ds] => if ds.length ≤ 1000000 then (match intsOfD ds with
      | some ns => some (.lst ((ns.mergeSort fun a b => decide (a ≤ b)).map D.int))
      | none => (tupsOfD ds).map fun nss => .lst ((nss.mergeSort leI).map tupDI)) else none
  | [.dct ks _] => if ks.length < 64 then (intKeys ks).map fun ns => .lst ((ns.mergeSort fun a b => decide (a ≤ b)).map D.int) else none
  | _ => none
def rSortDI : List V → Hp → VK → Prop := fun xs H Q => ∃ (a : Addr) (kvs : List (Key × V)) (ks : List Int), xs = [.ref a] ∧ Rd H a (.dK kvs) ∧ kvs.map (·.1) = ks.map Sum.inl ∧ ks.length < 64 ∧
    ∀ (ys : List Int) (p : Addr), ys.Perm ks → ys.Pairwise (· ≤ ·) → H p = none → Q (.ref p) (upd H p (.lst (ys.map V.int)))
def rSortA (K : PySem.W.Frag) : List V → Hp → VK → Prop := fun vs H Q => rSort2 K vs H Q ∨ rSortDI vs H Q
theorem cr_sortA {X : Cx} (hc : X.calm = true) : CallR X (.builtin "sorted") (rSortA X.K) := fun pins s σ H vs us Q I r h => h.elim (cr_sort2 pins s σ H vs us Q I r) (call_sortedDI hc pins s σ H vs us Q I r)
theorem r_sortedA {c : Dc} : RuleNN c (rSortA c.K) gSortedA := by
  intro F O T H ds vs d' Q fit hv g q
  match ds, g with
  | [.lst ds], g => exact .inl (r_sorted F O T H [.lst ds] vs d' Q fit hv g q)
  | [.dct ks xs], g =>
    simp only [gSortedA] at g
    split at g
    · rename_i hz
      simp only [Option.map_eq_some_iff] at g
      obtain ⟨ns, e1, rfl⟩ := g
      have e2 := intKeys_some e1
      subst e2
      obtain ⟨v, r, rfl, ⟨a, kv, rfl, h1, h2, h3⟩, h⟩ := paired1 hv
      cases paired0 h
      refine .inr ⟨a, kv, ns, rfl, .of (h1.elim (fit.f _ _) (fit.o _ _)), h2, by simpa using hz, fun ns' p hp hq hn => ?_⟩
      have e4 : ns' = ns.mergeSort fun a b => decide (a ≤ b) := by
        refine List.Perm.eq_of_pairwise (le := fun a b : Int => a ≤ b) (fun a b _ _ x y => by omega) hq ?_ (hp.trans (List.mergeSort_perm _ _).symm)
        have := List.pairwise_mergeSort (le := fun a b : Int => decide (a ≤ b)) (fun a b c x y => by simp at *; omega) (fun a b => by simp; omega) ns
        exact this.imp fun h => by simpa using h
      subst e4
      exact q F H p _ (Same.refl _) fit hn ⟨_, rfl, by rw [List.length_map, List.length_mergeSort]; exact Nat.le_trans (by simp at hz; omega) million, Dens.of_ints _⟩
    · cases g
def gLenA : List D → Option D
  | [.lst xs] => some (.int xs.length)
  | [.tup xs] => some (.int xs.length)
  | [.dct ks _] => some (.int ks.length)
  | [.str x] => if x.length ≤ 1000000 then some (.int x.length) else none
  | [.scr ns] => some (.int ns.length)
  | _ => none
def rLenA (K : PySem.W.Frag) : List V → Hp → VK → Prop := fun xs H Q => (∃ x n, xs = [x] ∧ LenV K x H n ∧ Q (.int n) H) ∨ ∃ a kvs, xs = [V.ref a] ∧ H a = some (.dK kvs) ∧ Q (.int (kvs.length : Nat)) H
theorem cr_lenA {X : Cx} : CallR X (.builtin "len") (rLenA X.K) := call_len.or call_lenD
theorem r_lenA {c : Dc} : RuleN c (rLenA c.K) gLenA := by
  intro F O T H ds vs d' Q fit hv g q
  match ds, g with
  | [.lst xs], g => exact .inl (r_len F O T H [.lst xs] vs d' Q fit hv g q)
  | [.tup xs], g => exact .inl (r_len F O T H [.tup xs] vs d' Q fit hv g q)
  | [.str xs], g => exact .inl (r_len F O T H [.str xs] vs d' Q fit hv g q)
  | [.scr xs], g => exact .inl (r_len F O T H [.scr xs] vs d' Q fit hv g q)
  | [.dct ks xs], g =>
    cases g
    obtain ⟨v, r, rfl, ⟨a, kv, rfl, h1, h2, h3⟩, h⟩ := paired1 hv
    cases paired0 h
    refine .inr ⟨a, kv, rfl, h1.elim (fit.f _ _) (fit.o _ _), q _ F H (Same.refl _) fit ?_⟩
    rw [← h2, List.length_map]
    rfl
end VS
namespace VS
open PySem PySem.Spec PyProof.Rows L2
def isNonD : D → Option Bool
  | .non => some true
  | .bl _ => some false
  | .int _ => some false
  | .str _ => some false
  | .tup _ => some false
  | .lst _ => some false
  | .dct _ _ => some false
  | .exc _ _ _ => some false
  | _ => none
def gIsA : D → D → Option D
  | .bl i, .bl j => some (.bl (decide (i = j)))
  | d, .non => (isNonD d).map .bl
  | _, _ => none
def gIsntA : D → D → Option D
  | .bl i, .bl j => some (.bl (!decide (i = j)))
  | d, .non => (isNonD d).map fun k => .bl (!k)
  | _, _ => none
abbrev rIsA : R2 := fun x y H Q => rIsB x y H Q ∨ (y = .non ∧ Q (.bl (decide (x = .non))) H)
abbrev rIsntA : R2 := fun x y H Q => rNotB x y H Q ∨ (y = .non ∧ Q (.bl (!decide (x = .non))) H)
theorem op_isA {X : Cx} : OpR X (compareOp .Is) rIsA := op_isBl.or op_isN
theorem op_isntA {X : Cx} : OpR X (compareOp .IsNot) rIsntA := op_notBl.or op_notN
theorem isNonD_den {c : Dc} {F O : Hp} {d : D} {v : V} {k : Bool} (h : DenB c F O d v) (e : isNonD d = some k) : decide (v = .non) = k := by
  cases d <;> simp only [isNonD, reduceCtorEq, Option.some.injEq] at e <;> subst e
  · rw [show v = .non from h]; rfl
  · rw [show v = .bl _ from h]; rfl
  · rw [show v = .int _ from h]; rfl
  · rw [show v = .str _ from h]; rfl
  · obtain ⟨a, vs, rfl, _⟩ := h; rfl
  · obtain ⟨a, vs, rfl, _⟩ := h; rfl
  · obtain ⟨a, vs, rfl, _⟩ := h; rfl
  · obtain ⟨a, C, dd, us, rfl, _⟩ := h; rfl
theorem r_isA {c : Dc} : RuleB c rIsA gIsA := by
  intro F O T H d e v u d' Q fit hv hu g q
  have main : ∀ d : D, DenB c F O d v → (isNonD d).map D.bl = some d' → u = .non → rIsA v u H Q := fun d hv g hu => by
    simp only [Option.map_eq_some_iff] at g
    obtain ⟨k, e1, rfl⟩ := g
    exact .inr ⟨hu, by rw [isNonD_den hv e1]; exact q _ F H (Same.refl _) fit rfl⟩
  cases e with
  | non => exact main d hv (by cases d <;> exact g) hu
  | bl j =>
    cases d <;> simp only [gIsA, reduceCtorEq, Option.some.injEq] at g
    subst g
    exact .inl ⟨_, _, hv, hu, q _ F H (Same.refl _) fit rfl⟩
  | _ => cases d <;> simp [gIsA] at g
theorem r_isntA {c : Dc} : RuleB c rIsntA gIsntA := by
  intro F O T H d e v u d' Q fit hv hu g q
  have main : ∀ d : D, DenB c F O d v → (isNonD d).map (fun k => D.bl (!k)) = some d' → u = .non → rIsntA v u H Q := fun d hv g hu => by
    simp only [Option.map_eq_some_iff] at g
    obtain ⟨k, e1, rfl⟩ := g
    exact .inr ⟨hu, by rw [isNonD_den hv e1]; exact q _ F H (Same.refl _) fit rfl⟩
  cases e with
  | non => exact main d hv (by cases d <;> exact g) hu
  | bl j =>
    cases d <;> simp only [gIsntA, reduceCtorEq, Option.some.injEq] at g
    subst g
    exact .inl ⟨_, _, hv, hu, q _ F H (Same.refl _) fit rfl⟩
  | _ => cases d <;> simp [gIsntA] at g
def rDIn : R2 := fun y x H Q => ∃ a o, x = .ref a ∧ DGet H a y o ∧ Q (.bl o.isSome) H
def rDNotIn : R2 := fun y x H Q => ∃ a o, x = .ref a ∧ DGet H a y o ∧ Q (.bl (!o.isSome)) H
theorem op_dIn {X : Cx} (hu : X.A.units + 1 < cLine) : OpR X (compareOp .In) rDIn := by
  intro pins s σ H x y v u Q I rx ry h
  obtain ⟨a, o, rfl, g, q⟩ := h
  cases ry
  exact d_in hu I g rx fun s' I' => ⟨.bl o.isSome, H, I', rfl, q⟩
theorem op_dNotIn {X : Cx} (hu : X.A.units + 1 < cLine) : OpR X (compareOp .NotIn) rDNotIn := by
  intro pins s σ H x y v u Q I rx ry h
  obtain ⟨a, o, rfl, g, q⟩ := h
  cases ry
  exact d_notIn hu I g rx fun s' I' => ⟨.bl (!o.isSome), H, I', rfl, q⟩
def inDA (d e : D) : Option Bool := match e with
  | .dct ks xs => (keyD d).map fun k => (dlook ks xs k).isSome
  | e => inD' d e
def gInA (d e : D) : Option D := (inDA d e).map .bl
def gNotInA (d e : D) : Option D := (inDA d e).map fun k => .bl (!k)
abbrev rInA (K : PySem.W.Frag) : R2 := fun x y H Q => rIn K false x y H Q ∨ rDIn x y H Q
abbrev rNotInA (K : PySem.W.Frag) : R2 := fun x y H Q => rIn K true x y H Q ∨ rDNotIn x y H Q
theorem op_inA {X : Cx} (hu : X.A.units + 1 < cLine) : OpR X (compareOp .In) (rInA X.K) := op_in_seq.or (op_dIn hu)
theorem op_notInA {X : Cx} (hu : X.A.units + 1 < cLine) : OpR X (compareOp .NotIn) (rNotInA X.K) := op_notIn_seq.or (op_dNotIn hu)
theorem dct_in {c : Dc} {F O T H : Hp} {d : D} {ks : List Key} {xs : List D} {v u : V} {k : Bool} (fit : Fits F O T H) (hv : DenB c F O d v) (hu : DenB c F O (.dct ks xs) u) (g : (keyD d).map (fun k => (dlook ks xs k).isSome) = some k) : ∃ a o, u = .ref a ∧ DGet H a v o ∧ o.isSome = k := by
  simp only [Option.map_eq_some_iff] at g
  obtain ⟨k0, ek, rfl⟩ := g
  obtain ⟨a, kv, rfl, h1, h2, h3⟩ := hu
  have hk : v = kV k0 := by cases d <;> simp only [keyD, reduceCtorEq, Option.some.injEq] at ek <;> subst ek <;> exact hv
  obtain ⟨l1, l2⟩ := dlook_val (k := k0) h2 h3
  refine ⟨a, valV kv k0, rfl, hk ▸ DGet.k (h1.elim (fit.f _ _) (fit.o _ _)), ?_⟩
  cases hl : dlook ks xs k0 with
  | none => rw [l2 hl]; rfl
  | some z => obtain ⟨w, e, _⟩ := l1 z hl; rw [e]; rfl
theorem r_inA {c : Dc} : RuleB c (rInA c.K) gInA := by
  intro F O T H d e v u d' Q fit hv hu g q
  cases e with
  | dct ks xs =>
    simp only [gInA, inDA, Option.map_eq_some_iff] at g
    obtain ⟨k, g, rfl⟩ := g
    obtain ⟨a, o, h1, h2, rfl⟩ := dct_in fit hv hu (by simpa using g)
    exact .inr ⟨a, o, h1, h2, q _ F H (Same.refl _) fit rfl⟩
  | _ => exact .inl (r_in F O T H d _ v u d' Q fit hv hu g q)
theorem r_notInA {c : Dc} : RuleB c (rNotInA c.K) gNotInA := by
  intro F O T H d e v u d' Q fit hv hu g q
  cases e with
  | dct ks xs =>
    simp only [gNotInA, inDA, Option.map_eq_some_iff] at g
    obtain ⟨k, g, rfl⟩ := g
    obtain ⟨a, o, h1, h2, rfl⟩ := dct_in fit hv hu (by simpa using g)
    exact .inr ⟨a, o, h1, h2, q _ F H (Same.refl _) fit rfl⟩
  | _ => exact .inl (r_notIn F O T H d _ v u d' Q fit hv hu g q)
def CDivW (i j : Int) : Prop := 0 < j ∧ j.natAbs < 2 ^ 2000
theorem op_fdivW {X : Cx} : OpR X (binaryOp .FloorDiv) (rI CDivW fun i j => .int (i / j)) := opI fun i j _ _ _ _ _ hc q => floordiv_int (by have := hc.1; omega) (by rw [Int.fdiv_eq_ediv_of_nonneg _ (by have := hc.1; omega)]; exact q) (.inl (PyProof.noPylong_of_log2 (by
  have h := hc.2
  by_cases h0 : j.natAbs = 0
  · rw [h0]; decide
  · have := (Nat.log2_lt h0).mpr h; omega)))
abbrev gDivW := gIC (fun _ j => decide (0 < j ∧ j.natAbs < 2 ^ 2000)) fun i j => .int (i / j)
theorem r_divW {c : Dc} : RuleB c (rI CDivW fun i j => .int (i / j)) gDivW := rb_IC (fun _ j h => (of_decide_eq_true h : 0 < j ∧ j.natAbs < 2 ^ 2000)) fun _ _ _ => rfl
def setL : List (Env → D → Option Env) → Env → List D → Option Env
  | [], env, [] => some env
  | s :: ss, env, d :: ds => match s env d with
    | some env' => setL ss env' ds
    | none => none
  | _, _, _ => none
def setTT (ss : List (Env → D → Option Env)) : Env → D → Option Env := fun env d => match d with
  | .tup ds => setL ss env ds
  | _ => none
structure TgtL (b : Bc) (K : PySem.W.Frag) (n : Nat) (g : TGs) (ss : List (Env → D → Option Env)) (js : List Nat) : Prop where
  len : ss.length = n
  run : ∀ F0 O0 F O H σ env S ds vs env' (Q : L2.St → Hp → Prop), Pre b F0 O0 F O H σ env S → Dens b.c F ds vs → setL ss env ds = some env' → (∀ σ', Pre b F0 O0 F O H σ' env' S → (∀ k, k ∉ js → σ'[k]? = σ[k]?) → σ'.length = σ.length → Q σ' H) → g vs σ H Q
section
variable {b : Bc} {K : PySem.W.Frag}
theorem tgl_nil : TgtL b K 0 gNil [] [] := ⟨rfl, fun F0 O0 F O H σ env S ds vs env' Q P hd e k => by
  cases ds with
  | nil => simp only [Dens] at hd; subst hd; cases e; exact ⟨rfl, k σ P (fun _ _ => rfl) rfl⟩
  | cons d ds => cases e⟩
theorem tgl_cons {g : TG} {gs : TGs} {s : Env → D → Option Env} {ss : List (Env → D → Option Env)} {js ls : List Nat} {n : Nat} (h1 : Tgt b K g s js) (h2 : TgtL b K n gs ss ls) : TgtL b K (n + 1) (gCons g gs) (s :: ss) (js ++ ls) := ⟨by simp [h2.len], fun F0 O0 F O H σ env S ds vs env' Q P hd e k => by
  cases ds with
  | nil => cases e
  | cons d ds =>
    simp only [Dens] at hd
    obtain ⟨v, r, rfl, hv, hr⟩ := hd
    simp only [setL] at e
    cases hs : s env d with
    | none => rw [hs] at e; cases e
    | some env1 =>
      rw [hs] at e
      exact ⟨v, r, rfl, h1.run F0 O0 F O H σ env S d v env1 _ P hv hs fun σ1 P1 q1 l1 => h2.run F0 O0 F O H σ1 env1 S ds r env' Q P1 hr e fun σ2 P2 q2 l2 => k σ2 P2 (fun j hj => by
        simp only [List.mem_append, not_or] at hj
        rw [q2 j hj.2, q1 j hj.1]) (by rw [l2, l1])⟩⟩
theorem setL_len : ∀ {ss : List (Env → D → Option Env)} {env env' : Env} {ds : List D}, setL ss env ds = some env' → ds.length = ss.length
  | [], _, _, [], _ => rfl
  | [], _, _, _ :: _, h => by cases h
  | _ :: _, _, _, [], h => by cases h
  | s :: ss, env, env', d :: ds, h => by
    simp only [setL] at h
    split at h
    · simp [setL_len h]
    · cases h
theorem tg_tupL {gs : TGs} {ss : List (Env → D → Option Env)} {js : List Nat} {n : Nat} (hK : b.c.K = K) (h : TgtL b K n gs ss js) : Tgt b K (gTup K n gs) (setTT ss) js := ⟨fun F0 O0 F O H σ env S d v env' Q P hv e k => by
  cases d with
  | tup ds =>
    simp only [setTT] at e
    simp only [Den] at hv
    obtain ⟨a, vs, rfl, hs, hz, hd⟩ := hv
    rw [hK] at hs
    exact ⟨a, vs, rfl, sqT_mono P.fit.f hs, by rw [← hd.length, setL_len e, h.len], h.run F0 O0 F O H σ env S ds vs env' Q P hd e k⟩
  | _ => simp [setTT] at e⟩
end
def asgT (set : Env → D → Option Env) (f : ME) : MS := fun env S => bindM (f env S) fun d S1 => match set env d with
  | some env' => .ok (.nx env', S1)
  | none => .bad
section
variable {X : Cx} {b : Bc} {E : XK} {e e1 : Expr} {es : List Expr} {st : Stmt} {rest : List Stmt} {f f1 : ME} {g : MS}
theorem s_asgT {gt : TG} {set : Env → D → Option Env} {js : List Nat} (ht : Tgt b X.K gt set js) (hst : ∀ te, PE X e te → PS X st (tAsg te gt)) (h : PE X e (tE b E f)) : PS X st (tS b E (asgT set f)) :=
  PS.imp (hst _ h) fun Dn σ H ⟨F0, O0, F, O, env, S, P, h⟩ => ⟨F0, O0, F, O, env, S, P, (PostS.bind h P.f0 P.o0).imp fun d S1 F1 H1 s1 fit1 I1 k v hv => by
    cases hs : set env d with
    | none => simp only [hs] at k; exact False.elim k
    | some env' =>
      simp only [hs] at k
      exact ht.run F0 O0 F1 O H1 σ env S1 d v env' _ (P.grow s1 fit1 I1) hv hs fun σ' P' _ _ => k σ' F1 O H1 P'⟩
def extS (i : Nat) (f : ME) : MS := fun env S => match env[i]? with
  | some (some (.lst ds)) => bindM (f env S) fun d S1 => match d with
    | .lst es => if ds.length + es.length < 1000000 then .ok (.nx (env.set i (some (.lst (ds ++ es)))), S1) else .bad
    | _ => .bad
  | _ => .bad
theorem s_ext (i : Nat) (ho : b.own.contains i = true) (h : ∀ te, PE X e te → PS X st (tDrop (tBM X.K "list" rExtend (tVar i) (tCons te tNil)))) (he : PE X e (tE b E f)) : PS X st (tS b E (extS i f)) :=
  PS.imp (h _ he) fun Dn σ H ⟨F0, O0, F, O, env, S, P, h⟩ => by
    have hi : i ∈ b.own := by simpa using ho
    unfold extS at h
    split at h
    · rename_i ds hg
      obtain ⟨a, vs, h1, h2, h3, hz, hd⟩ := P.lstAt hi hg
      refine ⟨_, h1, .inl ⟨rfl, vs, SqL_of h3⟩, F0, O0, F, O, env, S, P, (PostS.bind h P.f0 P.o0).imp fun d S1 F1 H1 s1 fit1 I1 q u hu => ?_⟩
      have P1 := P.grow s1 fit1 I1
      have hd1 := Dens.mono s1 _ _ hd
      cases d with
      | lst es =>
        by_cases hl : ds.length + es.length < 1000000
        · simp only [if_pos hl] at q
          simp only [Den] at hu
          obtain ⟨c, ws, rfl, g1, gz, g2⟩ := hu
          refine ⟨a, c, vs, ws, rfl, rfl, fit1.o _ _ h2, fit1.f _ _ g1, ?_, ?_⟩
          · rw [← hd1.length, ← g2.length]; exact Nat.le_of_lt (Nat.lt_of_lt_of_le hl million)
          · exact q σ F1 _ _ (P1.chg hi hg h1 h2 (d' := .lst (ds ++ es)) ⟨_, rfl, by rw [List.length_append]; exact Nat.le_of_lt (Nat.lt_of_lt_of_le hl million), hd1.append g2⟩)
        · simp only [if_neg hl] at q
          exact False.elim q
      | _ => exact False.elim q
    · exact False.elim h
theorem PostS.own {F0 O0 : Hp} {r : Res (Fl × DS)} {Dn : Ends} (i : Nat) (hi : i ∉ b.own) (h : PostS b E F0 O0 r Dn) : PostS { b with own := i :: b.own } E F0 O0 r Dn := by
  have fr : ∀ {σ : L2.St} {F O H : Hp} {env : Env} {S : DS}, Pre { b with own := i :: b.own } F0 O0 F O H σ env S → ∃ F' O', Pre b F0 O0 F' O' H σ env S := fun {σ F O H env S} P => by
    obtain ⟨F', O', _, P'⟩ := P.frz i
    have e : (i :: b.own).filter (· != i) = b.own := by
      rw [List.filter_cons]
      simp only [bne_self_eq_false, Bool.false_eq_true, if_false]
      exact List.filter_eq_self.mpr fun x hx => by simpa using fun z : x = i => hi (z ▸ hx)
    refine ⟨F', O', ?_⟩
    have : ({ ({ b with own := i :: b.own } : Bc) with own := (i :: b.own).filter (· != i) } : Bc) = b := by rw [e]
    rw [← this]
    exact P'
  cases r with
  | ok p =>
    obtain ⟨a, S'⟩ := p
    cases a with
    | nx env' => exact fun σ' F' O' H' P => let ⟨F2, O2, P2⟩ := fr P; h σ' F2 O2 H' P2
    | rt d => exact h
    | bk env' => exact fun σ' F' O' H' P => let ⟨F2, O2, P2⟩ := fr P; h σ' F2 O2 H' P2
    | ct env' => exact fun σ' F' O' H' P => let ⟨F2, O2, P2⟩ := fr P; h σ' F2 O2 H' P2
  | exc n f fs S' => exact h
  | bad => exact h
theorem Pre.own {F0 O0 F O H : Hp} {σ : L2.St} {env : Env} {S : DS} {i : Nat} {d : D} {p : Addr} {o : HO} (P : Pre b F0 O0 F O H σ env S) (hi : i ∉ b.own) (hp : H p = none) (hd : ObjD b.c F d o) :
    Pre { b with own := i :: b.own } F0 O0 F (upd O p o) (upd H p o) (σ.set i (some (.ref p))) (env.set i (some d)) S := by
  have nO := upd_none P.fit.o hp
  have eO : Same O (upd O p o) := same_upd nO
  have other : ∀ {m : Nat} {x : Addr}, m ∈ b.own → (∃ d, env[m]? = some (some d)) → σ[m]? = some (some (.ref x)) → x ≠ p := fun {m x} hm ⟨d, e⟩ hx z => by
    obtain ⟨y, h1, h2, _⟩ := P.slotO m d e hm
    rw [h1] at hx
    cases hx
    exact h2.some (z ▸ nO)
  refine ⟨P.fit.newO hp hd.ld, P.f0, P.o0.trans eO, P.inv, fun j d' h n => ?_, fun j d' h n => ?_, fun j k a hj hk e1 e2 h1 h2 => ?_, by simp [P.len]⟩
  · simp only [List.mem_cons, not_or] at n
    rw [set_ne' n.1] at h ⊢
    exact P.slot j d' h n.2
  · rcases get_set h with ⟨rfl, e, hl⟩ | ⟨ne, h⟩
    · cases e
      exact ⟨p, List.getElem?_set_self (by rw [P.len]; exact hl), hd.own upd_same, upd_none P.o0 nO⟩
    · have hj : j ∈ b.own := (List.mem_cons.mp n).resolve_left ne
      obtain ⟨a, h1, h2, h3⟩ := P.slotO j d' h hj
      exact ⟨a, by rw [set_ne' ne]; exact h1, h2.mono (Same.refl _) (fun o q => eO _ _ q), h3⟩
  · obtain ⟨d1, e1⟩ := e1
    obtain ⟨d2, e2⟩ := e2
    rcases get_set h1 with ⟨z1, q1, l1⟩ | ⟨n1, h3⟩
    · rcases get_set h2 with ⟨z2, q2, l2⟩ | ⟨n2, h4⟩
      · rw [z1, z2]
      · cases q1
        rw [set_ne' n2] at e2
        exact absurd rfl (other ((List.mem_cons.mp hk).resolve_left n2) ⟨d2, e2⟩ h4)
    · rcases get_set h2 with ⟨z2, q2, l2⟩ | ⟨n2, h4⟩
      · cases q2
        rw [set_ne' n1] at e1
        exact absurd rfl (other ((List.mem_cons.mp hj).resolve_left n1) ⟨d1, e1⟩ h3)
      · rw [set_ne' n1] at e1
        rw [set_ne' n2] at e2
        exact P.sep j k a ((List.mem_cons.mp hj).resolve_left n1) ((List.mem_cons.mp hk).resolve_left n2) ⟨d1, e1⟩ ⟨d2, e2⟩ h3 h4
theorem ss_own (i : Nat) (ho : b.own.contains i = false) (hst : ∀ te, PE X e te → PS X st (tAsg te (gName i))) (h1 : PE X e (tN b E f)) (h2 : PSs X rest (tS { b with own := i :: b.own } E g)) : PSs X (st :: rest) (tS b E (seqS (asgS i f) g)) :=
  PSs.imp (pss_cons (hst _ h1) h2) fun Dn σ H ⟨F0, O0, F, O, env, S, P, h⟩ => by
    have hi : i ∉ b.own := by simpa using ho
    refine ⟨F0, O0, F, O, env, S, P, ?_⟩
    have hb : PostS b E F0 O0 (bindM (f env S) fun d S1 => g (env.set i (some d)) S1) Dn := by
      have e : seqS (asgS i f) g env S = bindM (f env S) fun d S1 => g (env.set i (some d)) S1 := by
        unfold seqS asgS
        cases f env S with
        | ok p => obtain ⟨d, S1⟩ := p; rfl
        | exc _ _ _ _ => rfl
        | bad => rfl
      rw [← e]; exact h
    exact (PostS.bind hb P.f0 P.o0).imp fun d S1 F1 H1 s1 fit1 I1 k p o hp hd => ⟨F0, O0, F1, _, env.set i (some d), S1, (P.grow s1 fit1 I1).own hi hp hd, k.own i hi⟩
def callLM (tbl : List (Str × (List D → RP))) (i : Nat) (g : MA) : ME := fun env S => match env[i]? with
  | some (some (.cls n)) => match tbl.lookup n with
    | some G => bindM (g env S) fun ds S1 => liftP (G ds) S1
    | none => .bad
  | _ => .bad
structure LocT (X : Cx) (E : XK) (e : Expr) (es : List Expr) (i m : Nat) (tbl : List (Str × (List D → RP))) : Prop where
  ex : ∀ n G, tbl.lookup n = some G → ∃ f, X.mg n = some (.ref f) ∧ ∀ t, PA X es t → PE X e (tCallL i f (spP X.K X.mg m G) [] E t)
theorem loc_nil {i m : Nat} : LocT X E e es i m [] := ⟨fun n G h => by cases h⟩
theorem loc_cons {i m : Nat} {n : Str} {G : List D → RP} {f : Addr} {tbl : List (Str × (List D → RP))} (hm : X.mg n = some (.ref f)) (h : ∀ t, PA X es t → PE X e (tCallL i f (spP X.K X.mg m G) [] E t)) (r : LocT X E e es i m tbl) : LocT X E e es i m ((n, G) :: tbl) := ⟨fun n' G' hl => by
  by_cases z : n' = n
  · subst z
    rw [List.lookup_cons_self] at hl
    cases hl
    exact ⟨f, hm, h⟩
  · have z2 : (n' == n) = false := by simpa using z
    rw [List.lookup_cons, z2] at hl
    exact r.ex n' G' hl⟩
theorem e_callL {ga : MA} {i m : Nat} {tbl : List (Str × (List D → RP))} (ho : b.own.contains i = false) (hc : b.c.K = X.K ∧ b.c.mg = X.mg) (hm : es.length = m) (hT : LocT X E e es i m tbl) (ha : PA X es (tA b E ga)) (hlen : ∀ env S ds S', ga env S = .ok (ds, S') → ds.length = es.length) : PE X e (tE b E (callLM tbl i ga)) :=
  ⟨fun pins s σ H Q I ⟨F0, O0, F, O, env, S, P, h⟩ => by
    unfold callLM at h
    cases he : env[i]? with
    | none => rw [he] at h; exact False.elim h
    | some o =>
      cases o with
      | none => rw [he] at h; exact False.elim h
      | some d =>
        cases d with
        | cls n =>
          rw [he] at h
          simp only at h
          cases hl : tbl.lookup n with
          | none => rw [hl] at h; exact False.elim h
          | some G =>
            rw [hl] at h
            simp only at h
            obtain ⟨f, hf, rule⟩ := hT.ex n G hl
            obtain ⟨v, hv1, C, hv2, hv3⟩ := P.slot i (.cls n) he (by simpa using ho)
            have hb := Post.bind h
            rw [hc.2, hf] at hv3
            cases hv3
            subst hv2
            refine (rule _ ha).run pins s σ H Q I ⟨hv1, F0, O0, F, O, env, S, P, ?_⟩
            revert hb
            cases hr : ga env S with
            | ok p =>
              obtain ⟨ds, S1⟩ := p
              have hl := hlen env S ds S1 hr
              intro hb F1 H1 s1 fit1 I1 vs hvs
              have k := hb F1 H1 s1 fit1 I1
              obtain ⟨⟨K, mg, l⟩, stf, TP, own⟩ := b
              obtain ⟨T0, tp, fit1⟩ := fit1
              obtain ⟨h1, h2⟩ := hc
              cases h1
              cases h2
              refine ⟨by rw [List.append_nil, ← hvs.length, hl]; exact hm, l, F1, O, _, ds, fit1, by rw [List.append_nil]; exact hvs, ?_⟩
              revert k
              cases hG : G ds with
              | ok d => exact fun k v F' H' s f dv => k F' H' s ⟨T0, TP.mono tp s, f⟩ (I1.mono s) v dv
              | exc n f fs => exact fun k cls dd F' H' s f x => k cls dd F' H' s ⟨T0, TP.mono tp s, f⟩ (I1.mono s) x
              | bad => exact fun k => False.elim k
            | exc n f fs S' => exact fun h => h
            | bad => exact fun h => h
        | _ => rw [he] at h; exact False.elim h⟩
end
end VS
namespace VS
open PySem PySem.Spec PyProof.Rows L2
def valsA : List (Key × ME) → MA
  | [] => nilA
  | p :: r => consA p.2 (valsA r)
def dispM (L : List (Key × ME)) : ME := fun env S => bindM (valsA L env S) fun ds S1 => .ok (.dct (L.map (·.1)) ds, S1)
theorem Post.moreA {α : Type} {b : Bc} {E : XK} {O O' F : Hp} {S : DS} {x : Res (α × DS)} {k : α → DS → Hp → Hp → Prop} (h : Post b E O F x k) (e : Same O O') : Post b E O' F x k := by
  cases x with
  | ok p => obtain ⟨a, S'⟩ := p; exact fun F' H' s fit I => h F' H' s (fit.less e) I
  | exc n f fs S' => exact fun cls dd F' H' s fit I x => h cls dd F' H' s (fit.less e) I x
  | bad => exact h
def trsOf (b : Bc) (E : XK) (L : List (Key × ME)) : List (TE × TE) := L.map fun p => (tC (kV p.1), tE b E p.2)
section
variable {X : Cx} {b : Bc} {E : XK} {e : Expr}
theorem disp_pairs : ∀ (L : List (Key × ME)) {F0 O0 F O H : Hp} {σ : L2.St} {env : Env} {S : DS} {Q : List (V × V) → Hp → Prop}, Pre b F0 O0 F O H σ env S → Post b E O F (valsA L env S) (fun ds S' F' H' => FitB b F' O S' H' → ∀ vs, Dens b.c F' ds vs → Q ((L.map fun p => kV p.1).zip vs) H') → tPairs (trsOf b E L) σ H Q
  | [], F0, O0, F, O, H, σ, env, S, Q, P, h => by
    have h := h F H (Same.refl _) P.fit P.inv P.fit [] rfl
    simpa [trsOf, tPairs] using h
  | p :: L, F0, O0, F, O, H, σ, env, S, Q, P, h => by
    show tC (kV p.1) σ H fun x H1 => tE b E p.2 σ H1 fun y H2 => tPairs (trsOf b E L) σ H2 fun ps H3 => Q ((x, y) :: ps) H3
    show tE b E p.2 σ H fun y H2 => tPairs (trsOf b E L) σ H2 fun ps H3 => Q ((kV p.1, y) :: ps) H3
    refine ⟨F0, O0, F, O, env, S, P, (Post.bind (show Post b E O F (bindM (p.2 env S) _) _ from h)).imp fun d S1 F1 H1 s1 fit1 I1 k v hv => ?_⟩
    refine disp_pairs L (P.grow s1 fit1 I1) ((Post.bind k).imp fun ds S2 F2 H2 s2 fit2 I2 k fit vs hvs => ?_)
    have := k F2 H2 (Same.refl _) fit2 I2 fit (v :: vs) (Dens.cons (Den.mono s2 _ _ hv) hvs)
    simpa using this
theorem merge_nodup : ∀ (more acc : List (Key × V)), ((acc ++ more).map (·.1)).Nodup → mergeK acc more = acc ++ more
  | [], acc, _ => by simp [mergeK]
  | kv :: more, acc, h => by
    have hn : (acc.any fun p => decide (p.1 = kv.1)) = false := by
      cases hc : acc.any fun p => decide (p.1 = kv.1) with
      | false => rfl
      | true =>
        simp only [List.any_eq_true, decide_eq_true_eq] at hc
        obtain ⟨p, hp, e⟩ := hc
        rw [List.map_append, List.nodup_append] at h
        exact absurd e (h.2.2 p.1 (List.mem_map.mpr ⟨p, hp, rfl⟩) kv.1 (by simp))
    have e : putK acc kv.1 kv.2 = acc ++ [kv] := by
      unfold putK
      rw [hn, if_neg Bool.false_ne_true]
    show mergeK (putK acc kv.1 kv.2) more = _
    rw [e, merge_nodup more (acc ++ [kv]) (by simpa using h)]
    simp
theorem valsA_len : ∀ (L : List (Key × ME)) {env : Env} {S S' : DS} {ds : List D}, valsA L env S = .ok (ds, S') → ds.length = L.length
  | [], _, _, _, _, h => by cases h; rfl
  | p :: L, env, S, S', ds, h => by
    simp only [valsA, consA] at h
    cases h1 : p.2 env S with
    | ok q =>
      obtain ⟨d, S1⟩ := q
      rw [h1] at h
      simp only [bindM] at h
      cases h2 : valsA L env S1 with
      | ok q =>
        obtain ⟨es, S2⟩ := q
        rw [h2] at h
        cases h
        simp [valsA_len L h2]
      | exc _ _ _ _ => rw [h2] at h; cases h
      | bad => rw [h2] at h; cases h
    | exc _ _ _ _ => rw [h1] at h; cases h
    | bad => rw [h1] at h; cases h
theorem zip_kv : ∀ (L : List (Key × ME)) (vs : List V), (L.map fun p => kV p.1).zip vs = ((L.map (·.1)).zip vs).map fun kv => (kV kv.1, kv.2)
  | [], _ => rfl
  | _ :: _, [] => rfl
  | p :: L, v :: vs => by simp [zip_kv L vs]
theorem n_dispM (L : List (Key × ME)) (hn : (L.map (·.1)).Nodup) (hl : L.length ≤ 15) (h : PE X e (tDisp (trsOf b E L))) : PE X e (tN b E (dispM L)) :=
  PE.imp h fun σ H Q ⟨F0, O0, F, O, env, S, P, h⟩ p hp => by
    have nO := upd_none P.fit.o hp
    have eO : Same O (upd O p (.dK [])) := same_upd nO
    have P2 := P.moreO eO (P.fit.newO hp)
    have hb := Post.bind h
    refine disp_pairs L P2 ?_
    revert hb
    cases hr : valsA L env S with
    | ok q =>
      obtain ⟨ds, S1⟩ := q
      have hlen := valsA_len L hr
      intro hb F1 H1 s1 fit1 I1 _ vs hvs
      have hH : H1 p = some (.dK []) := fit1.o p _ upd_same
      have fit : FitB b F1 O S1 (del H1 p) := fit1.out nO
      have k := hb F1 (del H1 p) s1 fit I1 F1 (del H1 p) (Same.refl _) fit I1
      have hvl : vs.length = L.length := by rw [← hvs.length, hlen]
      have e1 : ((L.map (·.1)).zip vs).map (·.1) = L.map (·.1) := by rw [List.map_fst_zip]; simp [hvl]
      have e2 : ((L.map (·.1)).zip vs).map (·.2) = vs := by rw [List.map_snd_zip]; simp [hvl]
      refine ⟨hH, (L.map (·.1)).zip vs, ?_, by simp [hvl]; omega, ?_⟩
      · exact zip_kv L vs
      · rw [merge_nodup _ _ (by rw [List.nil_append, e1]; exact hn), List.nil_append]
        have k2 := k p (.dK ((L.map (·.1)).zip vs)) (by unfold del; rw [if_pos rfl]) ⟨_, rfl, e1, by rw [e2]; exact hvs⟩
        have e3 : upd (del H1 p) p (.dK ((L.map (·.1)).zip vs)) = upd H1 p (.dK ((L.map (·.1)).zip vs)) := by
          funext a
          by_cases ha : a = p
          · subst ha; rw [upd_same, upd_same]
          · rw [upd_ne ha, upd_ne ha]; unfold del; rw [if_neg ha]
        rw [← e3]
        exact k2
    | exc n f fs S' => exact fun hb cls dd F' H' s fit I x => hb cls dd F' H' s (fit.less eO) I x
    | bad => exact fun hb => hb
end
end VS
namespace VS
open PySem PySem.Spec PyProof.Rows L2
theorem tuple_mulSame (l : Addr) (its0 : Array Value) (n : Nat) (dn : Option Addr) (sn : Array (Option Value)) (x : Int) (u : Tok) (z0 : (decide (x < -(2 ^ 63)) || decide (x ≥ 2 ^ 63)) = false) (z1 : (its0.isEmpty || x == 1) = true) :
    Meets (Builtin.«tuple.__mul__» ⟨[.ref l, .int x u], []⟩) (fun _ Z s => s.heap.get? l = some { cls := .type "tuple", dict := dn, data := .seq its0 n, slots := sn } ∧ Z (.ok (.ret (.ref l))) s) :=
  .of_wp fun prog w A Z s h => by
    obtain ⟨hh, g, d, tt, oo⟩ := s
    obtain ⟨hat, h⟩ := h
    have f1 := AutoSeq1.idx_int
    wp_walk using wpAny_loadPart' hat
    repeat (first
      | (refine wpAny_ite_false (decide_eq_false (by rw [z0]; exact Bool.false_ne_true)) ?_; wp_walk using wpAny_loadPart' hat)
      | (refine wpAny_ite_true (decide_eq_true z1) ?_; wp_walk using wpAny_loadPart' hat))
    exact ⟨_, rfl, h⟩
theorem tuple_mulNone (l : Addr) (its0 : Array Value) (n : Nat) (dn : Option Addr) (sn : Array (Option Value)) (x : Int) (u : Tok) (z0 : (decide (x < -(2 ^ 63)) || decide (x ≥ 2 ^ 63)) = false) (z1 : (its0.isEmpty || x == 1) = false) (z2 : (decide (x ≤ 0) || its0.isEmpty) = true) :
    Meets (Builtin.«tuple.__mul__» ⟨[.ref l, .int x u], []⟩) (fun _ Z s => s.heap.get? l = some { cls := .type "tuple", dict := dn, data := .seq its0 n, slots := sn } ∧
      Z (.ok (.ret (Value.ref s.heap.objs.size))) { s with heap := s.heap.push { cls := Value.type "tuple", data := Data.seq #[] }, toks := s.toks }) :=
  .of_wp fun prog w A Z s h => by
    obtain ⟨hh, g, d, tt, oo⟩ := s
    obtain ⟨hat, h⟩ := h
    have f1 := AutoSeq1.idx_int
    wp_walk using wpAny_loadPart' hat
    repeat (first
      | (refine wpAny_ite_false (decide_eq_false (by rw [z0]; exact Bool.false_ne_true)) ?_; wp_walk using wpAny_loadPart' hat)
      | (refine wpAny_ite_false (decide_eq_false (by rw [z1]; exact Bool.false_ne_true)) ?_; wp_walk using wpAny_loadPart' hat)
      | (refine wpAny_ite_true (decide_eq_true z2) ?_; wp_walk using wpAny_loadPart' hat))
    exact ⟨_, rfl, h⟩
def rRepA (K : PySem.W.Frag) : R2 := fun x y H Q => ∃ l k ws, x = .ref l ∧ y = .int k ∧ SqT K H l ws ∧ -1000 ≤ k ∧ k ≤ 1000 ∧ ws.length ≤ 1000 ∧ (ws = [] ∨ k = 1 → Q (.ref l) H) ∧ (ws ≠ [] → k ≠ 1 → ∀ p, H p = none → Q (.ref p) (upd H p (.tup (List.replicate k.toNat ws).flatten)))
section
variable {X : Cx}
theorem op_repA : OpR X (binaryOp .Mult) (rRepA X.K) := by
  intro pn s σ H x y v u Q I rx ry h
  obtain ⟨l, k, ws, rfl, rfl, isT, h0, h1, hz, q1, q2⟩ := h
  by_cases hk : 2 ≤ k ∧ ws ≠ []
  · exact op_repT pn s σ H _ _ v u Q I rx ry ⟨l, k, ws, rfl, rfl, isT, hk.2, hk.1, h1, hz, q2 hk.2 (by omega)⟩
  cases rx
  obtain ⟨t, rfl⟩ := ry
  obtain ⟨el, r, ⟨⟨cq, dn, dq, sn⟩, obq, clq, n, dat⟩, szq⟩ := I.tuple isT
  simp only at clq dat
  subst clq dat
  have len0 : el.length = ws.length := r.length.symm
  have z0 : (decide (k < -(2 ^ 63)) || decide (k ≥ 2 ^ 63)) = false := by
    rw [decide_eq_false (by omega), decide_eq_false (by omega)] <;> rfl
  by_cases hs1 : ws = [] ∨ k = 1
  · have z1 : (el.toArray.isEmpty || k == 1) = true := by
      rcases hs1 with z | z
      · have : el = [] := List.eq_nil_of_length_eq_zero (by rw [len0, z]; rfl)
        subst this
        rfl
      · subst z
        rw [beq_self_eq_true, Bool.or_true]
    refine wpAny_binaryOp_repeat_ref (T := "tuple") (U := "int") (by decide) ⟨_, obq, rfl⟩ (fun s' => typeIs_int s' k t) noFill_tuple_mul F.fills_int_mul F.slot_int_rmul repeat_tuple F.slot_int_index.lookup
      (call_meets F.slot_int_rmul (typeIs_int s k t) F.entry_int_rmul (F.args_int_rmul_2 _ _) (int_rmul_tuple k t l el.toArray n dn sn)
        ⟨obq, rfl, ⟨_, obq, rfl⟩, call_meets F.slot_tuple_mul ⟨_, obq, rfl⟩ F.entry_tuple_mul (F.args_tuple_mul_2 _ _) (tuple_mulSame l el.toArray n dn sn k t z0 z1) ⟨obq, ?_⟩⟩)
    exact ⟨.ref l, H, I, rfl, q1 hs1⟩
  · have nn : ws ≠ [] := fun e => hs1 (.inl e)
    have hk1 : k ≠ 1 := fun e => hs1 (.inr e)
    have nil0 : el ≠ [] := fun e => nn (by
      rw [e] at len0
      exact List.eq_nil_of_length_eq_zero len0.symm)
    have emp0 : el.toArray.isEmpty = false := by
      cases el with
      | nil => exact absurd rfl nil0
      | cons a b => rfl
    have z1 : (el.toArray.isEmpty || k == 1) = false := by
      rw [emp0, Bool.false_or]
      exact beq_eq_false_iff_ne.mpr hk1
    have z2 : (decide (k ≤ 0) || el.toArray.isEmpty) = true := by
      have : k ≤ 0 := by
        have : ¬ 2 ≤ k := fun e => hk ⟨e, nn⟩
        omega
      rw [decide_eq_true this, Bool.true_or]
    have e0 : List.replicate k.toNat ws = [] := by
      have : k.toNat = 0 := by
        have : ¬ 2 ≤ k := fun e => hk ⟨e, nn⟩
        omega
      rw [this]; rfl
    refine wpAny_binaryOp_repeat_ref (T := "tuple") (U := "int") (by decide) ⟨_, obq, rfl⟩ (fun s' => typeIs_int s' k t) noFill_tuple_mul F.fills_int_mul F.slot_int_rmul repeat_tuple F.slot_int_index.lookup
      (call_meets F.slot_int_rmul (typeIs_int s k t) F.entry_int_rmul (F.args_int_rmul_2 _ _) (int_rmul_tuple k t l el.toArray n dn sn)
        ⟨obq, rfl, ⟨_, obq, rfl⟩, call_meets F.slot_tuple_mul ⟨_, obq, rfl⟩ F.entry_tuple_mul (F.args_tuple_mul_2 _ _) (tuple_mulNone l el.toArray n dn sn k t z0 z1 z2) ⟨obq, ?_⟩⟩)
    have q := fun p hh => q2 nn hk1 p hh
    rw [e0, List.flatten_nil] at q
    refine ⟨.ref s.heap.objs.size, _, I.laid (t' := s.toks) (o := .tup []) (fun b ob q => Heap.get?_push_of_some _ q) (Nat.le_refl _) ?_, rfl, q _ (I.hok.fresh (Nat.le_refl _))⟩
    exact ⟨by rw [sizeLine_eq]; decide, _, .nil, IsTup.new _ _⟩
theorem fold_size {α : Type} (b : Array α) : ∀ (k : Nat) (a : Array α), ((List.replicate k b).foldl (· ++ ·) a).size = a.size + k * b.size
  | 0, a => by simp
  | k + 1, a => by
    rw [List.replicate_succ, List.foldl_cons, fold_size b k, Array.size_append, Nat.succ_mul]
    omega
def repS (x : Str) (k : Int) : Str := if k < 1 then Str.empty else if (k == 1 || x.length == 0) = true then x else ⟨(List.replicate k.toNat x.cps).foldl (· ++ ·) #[]⟩
theorem op_repS : OpR X (binaryOp .Mult) (fun x y H Q => ∃ i k, x = .str i ∧ y = .int k ∧ -1000 ≤ k ∧ k ≤ 1000 ∧ i.length ≤ 1000 ∧ Q (.str (repS i k)) H) := by
  intro pn s σ H x y v u Q I rx ry h
  obtain ⟨i, k, rfl, rfl, h0, h1, hz, q⟩ := h
  obtain ⟨t, rfl⟩ := rx
  obtain ⟨t', rfl⟩ := ry
  have c0 : (decide (k < -(2 ^ 63 : Int)) || decide (k ≥ 2 ^ 63)) = false := by
    rw [decide_eq_false (by omega), decide_eq_false (by omega)] <;> rfl
  refine P.mul_str c0 (fun hk _ => ?_) (fun hk _ => ?_) ?_
  · have : (2 ^ 63 - 1) / k ≥ 1000 := by
      have h2 : (1000 : Int) * k ≤ 2 ^ 63 - 1 := by omega
      exact (Int.le_ediv_iff_mul_le (by omega)).mpr h2
    omega
  · unfold Builtin.Str.tooLong
    rw [sizeLine_eq]
    have : i.length * k.toNat ≤ 1000 * 1000 := Nat.mul_le_mul hz (by omega)
    exact decide_eq_false (by omega)
  · unfold repS at q
    by_cases hk : k < 1
    · rw [if_pos hk] at q ⊢
      exact ⟨by decide, .str Str.empty, H, I.tok _, ⟨_, rfl⟩, q⟩
    · rw [if_neg hk] at q ⊢
      by_cases hs : (k == 1 || i.length == 0) = true
      · rw [if_pos hs] at q ⊢
        exact ⟨.str i, H, I, ⟨t, rfl⟩, q⟩
      · rw [if_neg hs] at q ⊢
        refine ⟨?_, .str _, H, I.tok _, ⟨_, rfl⟩, q⟩
        show ((List.replicate k.toNat i.cps).foldl (· ++ ·) #[]).size ≤ sizeLine
        rw [fold_size, sizeLine_eq]
        have : k.toNat * i.cps.size ≤ 1000 * 1000 := Nat.mul_le_mul (by omega) hz
        simp
        omega
end
def gMulT : D → D → Option D
  | .tup a, .int k => if a.length ≤ 1000 ∧ -1000 ≤ k ∧ k ≤ 1000 then some (.tup (List.replicate k.toNat a).flatten) else none
  | .str x, .int k => if x.length ≤ 1000 ∧ -1000 ≤ k ∧ k ≤ 1000 then some (.str (repS x k)) else none
  | d, e => gMul d e
def rStrM : R2 := fun x y H Q => ∃ i k, x = .str i ∧ y = .int k ∧ -1000 ≤ k ∧ k ≤ 1000 ∧ i.length ≤ 1000 ∧ Q (.str (repS i k)) H
abbrev rMulT (K : PySem.W.Frag) : R2 := fun x y H Q => rMulA x y H Q ∨ rRepA K x y H Q ∨ rStrM x y H Q
theorem op_mulT {X : Cx} : OpR X (binaryOp .Mult) (rMulT X.K) := op_mulA.or (op_repA.or op_repS)
theorem r_mulT {c : Dc} : RuleB c (rMulT c.K) gMulT := by
  intro F O T H d e v u d' Q fit hv hu g q
  by_cases ht : ∃ a k, d = .tup a ∧ e = .int k
  · obtain ⟨a, k, rfl, rfl⟩ := ht
    simp only [gMulT] at g
    split at g <;> cases g
    rename_i hz
    obtain ⟨p, xs, rfl, h1, z1, h2⟩ := hv
    have hl := h2.length
    refine .inr (.inl ⟨p, k, xs, rfl, hu, sqT_mono fit.f h1, hz.2.1, hz.2.2, by omega, fun hs => ?_, fun hne hk r hr => ?_⟩)
    · have e1 : (List.replicate k.toNat a).flatten = a := by
        rcases hs with z | z
        · have : a = [] := List.eq_nil_of_length_eq_zero (by rw [hl, z]; rfl)
          subst this
          simp
        · subst z
          simp
      rw [e1] at q
      exact q _ F H (Same.refl _) fit ⟨p, xs, rfl, h1, z1, h2⟩
    · have nF := upd_none fit.f hr
      exact q _ (upd F r _) _ (same_upd nF) (fit.new hr) ⟨r, _, rfl, SqT.of upd_same, by
        rw [len_rep, sizeLine_eq]
        have : a.length * k.toNat ≤ 1000 * 1000 := Nat.mul_le_mul hz.1 (by omega)
        omega, Dens.mono (same_upd nF) _ _ (h2.rep _)⟩
  · by_cases hs : ∃ a k, d = .str a ∧ e = .int k
    · obtain ⟨a, k, rfl, rfl⟩ := hs
      simp only [gMulT] at g
      split at g <;> cases g
      rename_i hz
      exact .inr (.inr ⟨a, k, hv, hu, hz.2.1, hz.2.2, hz.1, q _ F H (Same.refl _) fit rfl⟩)
    · have g' : gMul d e = some d' := by
        cases d <;> cases e <;> first | exact g | exact absurd ⟨_, _, rfl, rfl⟩ ht | exact absurd ⟨_, _, rfl, rfl⟩ hs
      exact .inl (r_mul F O T H d e v u d' Q fit hv hu g' q)
section
variable {X : Cx} {b : Bc} {E : XK} {e e1 e2 : Expr} {f1 f2 : ME}
def trg1 (f : ME) : ME := fun env S => bindM (f env S) fun d S1 => match rangeOf [d] with
  | some xs => if xs.length ≤ 1000000 then .ok (.tup xs, S1) else .bad
  | none => .bad
def trg2 (f g : ME) : ME := fun env S => bindM (f env S) fun d S1 => bindM (g env S1) fun d2 S2 => match rangeOf [d, d2] with
  | some xs => if xs.length ≤ 1000000 then .ok (.tup xs, S2) else .bad
  | none => .bad
theorem n_trg1 (h : ∀ t, PE X e1 t → PE X e (tTupRg (tRg1 t))) (h1 : PE X e1 (tE b E f1)) : PE X e (tE b E (trg1 f1)) :=
  PE.imp (h _ h1) fun σ H Q ⟨F0, O0, F, O, env, S, P, h⟩ => ⟨F0, O0, F, O, env, S, P, (Post.bind h).imp fun d S1 F1 H1 s1 fit1 I1 k v hv => by
    cases d with
    | int j =>
      simp only [Den] at hv
      subst hv
      simp only [rangeOf] at k
      by_cases hj : -(2 ^ 62) ≤ j ∧ j < 2 ^ 62
      · rw [if_pos hj] at k
        simp only at k
        by_cases hz : (intsD 0 j.toNat).length ≤ 1000000
        · rw [if_pos hz] at k
          have hz' : j.toNat ≤ 1000000 := by simpa [intsD_len] using hz
          have e0 : (j - 0).toNat = j.toNat := by simp
          refine ⟨j, rfl, ⟨by omega, by omega, hj.1, hj.2, by rw [e0]; omega⟩, fun q hq => ?_⟩
          have nF := upd_none fit1.f hq
          refine k (upd F1 q _) _ (same_upd nF) (fit1.new hq) (I1.mono (same_upd nF)) _ ⟨q, _, rfl, SqT.of upd_same, Nat.le_trans hz million, Dens.mono (same_upd nF) _ _ ?_⟩
          unfold rgV
          rw [e0]
          exact rgV_den 0 _
        · rw [if_neg hz] at k
          exact False.elim k
      · rw [if_neg hj] at k
        exact False.elim k
    | _ => exact False.elim k⟩
theorem n_trg2 (h : ∀ t u, PE X e1 t → PE X e2 u → PE X e (tTupRg (tRg2 t u))) (h1 : PE X e1 (tE b E f1)) (h2 : PE X e2 (tE b E f2)) : PE X e (tE b E (trg2 f1 f2)) :=
  PE.imp (h _ _ h1 h2) fun σ H Q ⟨F0, O0, F, O, env, S, P, h⟩ => ⟨F0, O0, F, O, env, S, P, (Post.bind h).imp fun d S1 F1 H1 s1 fit1 I1 k v hv => ⟨F0, O0, F1, O, env, S1, P.grow s1 fit1 I1, (Post.bind k).imp fun d2 S2 F2 H2 s2 fit2 I2 k u hu => by
    cases d with
    | int i =>
      cases d2 with
      | int j =>
        simp only [Den] at hv hu
        subst hv hu
        simp only [rangeOf] at k
        by_cases hj : -(2 ^ 62) ≤ i ∧ i < 2 ^ 62 ∧ -(2 ^ 62) ≤ j ∧ j < 2 ^ 62
        · rw [if_pos hj] at k
          simp only at k
          by_cases hz : (intsD i (j - i).toNat).length ≤ 1000000
          · rw [if_pos hz] at k
            have hz' : (j - i).toNat ≤ 1000000 := by simpa [intsD_len] using hz
            refine ⟨i, j, rfl, rfl, ⟨hj.1, hj.2.1, hj.2.2.1, hj.2.2.2, by omega⟩, fun q hq => ?_⟩
            have nF := upd_none fit2.f hq
            exact k (upd F2 q _) _ (same_upd nF) (fit2.new hq) (I2.mono (same_upd nF)) _ ⟨q, _, rfl, SqT.of upd_same, Nat.le_trans hz million, Dens.mono (same_upd nF) _ _ (rgV_den i _)⟩
          · rw [if_neg hz] at k
            exact False.elim k
        · rw [if_neg hj] at k
          exact False.elim k
      | _ => exact False.elim k
    | _ => cases d2 <;> exact False.elim k⟩⟩
end
end VS
namespace VS
open PySem PySem.Spec PyProof.Rows L2
def rInTD (K : PySem.W.Frag) : R2 := fun x y H Q => ∃ d ds, Dp K H x d ∧ Dp K H y (.tuple ds) ∧ SeqAt.shaped d = true ∧ SeqAt.shaped (.tuple ds) = true ∧ Q (.bl (ds.any fun z => PyData.eqv z d)) H
def rNotInTD (K : PySem.W.Frag) : R2 := fun x y H Q => ∃ d ds, Dp K H x d ∧ Dp K H y (.tuple ds) ∧ SeqAt.shaped d = true ∧ SeqAt.shaped (.tuple ds) = true ∧ Q (.bl (!ds.any fun z => PyData.eqv z d)) H
theorem room64 {A : Around} {ds : List PyData} {d : PyData} {t : PyData} (ht : t = .list ds ∨ t = .tuple ds) (hs : SeqAt.shaped t = true) (hu : A.units + 64 < cLine) : A.units + 1 + min (PyData.depthAll ds) d.depth < cLine := by
  unfold SeqAt.shaped at hs
  rw [Bool.and_eq_true, decide_eq_true_eq] at hs
  have h2 := hs.2
  rcases ht with rfl | rfl <;> simp only [PyData.depth] at h2 <;> omega
section
variable {X : Cx}
theorem op_inTD (hu : X.A.units + 64 < cLine) : OpR X (compareOp .In) (rInTD X.K) := by
  intro pn st τ G a b va vb R J ra rb hyp
  obtain ⟨pa, qs, da, db, sa, sb, fin⟩ := hyp
  obtain ⟨ad1, rd1⟩ := Dp.reads J pa a va da ra
  obtain ⟨ad2, rd2⟩ := Dp.reads J (.tuple qs) b vb db rb
  exact SeqAt.in_tuple_reads rd2 rd1 (SeqAt.canLay_of_shaped sb) (SeqAt.canLay_of_shaped sa) (room64 (.inr rfl) sb hu) ⟨.bl _, G, J, rfl, fin⟩
theorem op_notInTD (hu : X.A.units + 64 < cLine) : OpR X (compareOp .NotIn) (rNotInTD X.K) := by
  intro pn st τ G a b va vb R J ra rb hyp
  obtain ⟨pa, qs, da, db, sa, sb, fin⟩ := hyp
  obtain ⟨ad1, rd1⟩ := Dp.reads J pa a va da ra
  obtain ⟨ad2, rd2⟩ := Dp.reads J (.tuple qs) b vb db rb
  exact SeqAt.notIn_tuple_reads rd2 rd1 (SeqAt.canLay_of_shaped sb) (SeqAt.canLay_of_shaped sa) (room64 (.inr rfl) sb hu) ⟨.bl _, G, J, rfl, fin⟩
theorem op_inLD (hu : X.A.units + 64 < cLine) : OpR X (compareOp .In) (rInD X.K) := by
  intro pn st τ G a b va vb R J ra rb hyp
  obtain ⟨pa, qs, da, db, sa, sb, fin⟩ := hyp
  obtain ⟨ad1, rd1⟩ := Dp.reads J pa a va da ra
  obtain ⟨ad2, rd2⟩ := Dp.reads J (.list qs) b vb db rb
  exact SeqAt.in_list_reads rd2 rd1 (SeqAt.canLay_of_shaped sb) (SeqAt.canLay_of_shaped sa) (room64 (.inl rfl) sb hu) ⟨.bl _, G, J, rfl, fin⟩
theorem op_notInLD (hu : X.A.units + 64 < cLine) : OpR X (compareOp .NotIn) (rNotInD X.K) := by
  intro pn st τ G a b va vb R J ra rb hyp
  obtain ⟨pa, qs, da, db, sa, sb, fin⟩ := hyp
  obtain ⟨ad1, rd1⟩ := Dp.reads J pa a va da ra
  obtain ⟨ad2, rd2⟩ := Dp.reads J (.list qs) b vb db rb
  exact SeqAt.notIn_list_reads rd2 rd1 (SeqAt.canLay_of_shaped sb) (SeqAt.canLay_of_shaped sa) (room64 (.inl rfl) sb hu) ⟨.bl _, G, J, rfl, fin⟩
abbrev rInX (K : PySem.W.Frag) : R2 := fun x y H Q => rInA K x y H Q ∨ rInD K x y H Q ∨ rInTD K x y H Q
abbrev rNotInX (K : PySem.W.Frag) : R2 := fun x y H Q => rNotInA K x y H Q ∨ rNotInD K x y H Q ∨ rNotInTD K x y H Q
theorem op_inX (hu : X.A.units + 64 < cLine) : OpR X (compareOp .In) (rInX X.K) := (op_inA (by omega)).or ((op_inLD hu).or (op_inTD hu))
theorem op_notInX (hu : X.A.units + 64 < cLine) : OpR X (compareOp .NotIn) (rNotInX X.K) := (op_notInA (by omega)).or ((op_notInLD hu).or (op_notInTD hu))
end
def deepIn (d e : D) : Option Bool := match toPy d, toPy e with
  | some p, some (.list ps) => if (SeqAt.shaped p && SeqAt.shaped (.list ps)) = true then some (ps.any fun z => PyData.eqv z p) else none
  | some p, some (.tuple ps) => if (SeqAt.shaped p && SeqAt.shaped (.tuple ps)) = true then some (ps.any fun z => PyData.eqv z p) else none
  | _, _ => none
def inX (d e : D) : Option Bool := match inDA d e with
  | some k => some k
  | none => deepIn d e
def gInX (d e : D) : Option D := (inX d e).map .bl
def gNotInX (d e : D) : Option D := (inX d e).map fun k => .bl (!k)
theorem deep_in {c : Dc} {F O T H : Hp} {d e : D} {v u : V} {k : Bool} (fit : Fits F O T H) (hv : DenB c F O d v) (hu : DenB c F O e u) (g : deepIn d e = some k) :
    (∃ p ps, Dp c.K H v p ∧ Dp c.K H u (.list ps) ∧ SeqAt.shaped p = true ∧ SeqAt.shaped (.list ps) = true ∧ (ps.any fun z => PyData.eqv z p) = k) ∨
    (∃ p ps, Dp c.K H v p ∧ Dp c.K H u (.tuple ps) ∧ SeqAt.shaped p = true ∧ SeqAt.shaped (.tuple ps) = true ∧ (ps.any fun z => PyData.eqv z p) = k) := by
  unfold deepIn at g
  split at g
  · rename_i p ps e1 e2
    split at g <;> cases g
    rename_i hs
    rw [Bool.and_eq_true] at hs
    exact .inl ⟨p, ps, dpB_of fit hv e1, dpB_of fit hu e2, hs.1, hs.2, rfl⟩
  · rename_i p ps e1 e2
    split at g <;> cases g
    rename_i hs
    rw [Bool.and_eq_true] at hs
    exact .inr ⟨p, ps, dpB_of fit hv e1, dpB_of fit hu e2, hs.1, hs.2, rfl⟩
  · cases g
theorem r_inX {c : Dc} : RuleB c (rInX c.K) gInX := by
  intro F O T H d e v u d' Q fit hv hu g q
  simp only [gInX, Option.map_eq_some_iff] at g
  obtain ⟨k, g, rfl⟩ := g
  cases ha : inDA d e with
  | some k' =>
    have : k' = k := by simp only [inX, ha, Option.some.injEq] at g; exact g
    subst this
    exact .inl (r_inA F O T H d e v u _ Q fit hv hu (by simp only [gInA, ha, Option.map_some]) q)
  | none =>
    have g : deepIn d e = some k := by simp only [inX, ha] at g; exact g
    rcases deep_in fit hv hu g with ⟨p, ps, h1, h2, h3, h4, rfl⟩ | ⟨p, ps, h1, h2, h3, h4, rfl⟩
    · exact .inr (.inl ⟨p, ps, h1, h2, h3, h4, q _ F H (Same.refl _) fit rfl⟩)
    · exact .inr (.inr ⟨p, ps, h1, h2, h3, h4, q _ F H (Same.refl _) fit rfl⟩)
theorem r_notInX {c : Dc} : RuleB c (rNotInX c.K) gNotInX := by
  intro F O T H d e v u d' Q fit hv hu g q
  simp only [gNotInX, Option.map_eq_some_iff] at g
  obtain ⟨k, g, rfl⟩ := g
  cases ha : inDA d e with
  | some k' =>
    have : k' = k := by simp only [inX, ha, Option.some.injEq] at g; exact g
    subst this
    exact .inl (r_notInA F O T H d e v u _ Q fit hv hu (by simp only [gNotInA, ha, Option.map_some]) q)
  | none =>
    have g : deepIn d e = some k := by simp only [inX, ha] at g; exact g
    rcases deep_in fit hv hu g with ⟨p, ps, h1, h2, h3, h4, rfl⟩ | ⟨p, ps, h1, h2, h3, h4, rfl⟩
    · exact .inr (.inl ⟨p, ps, h1, h2, h3, h4, q _ F H (Same.refl _) fit rfl⟩)
    · exact .inr (.inr ⟨p, ps, h1, h2, h3, h4, q _ F H (Same.refl _) fit rfl⟩)
theorem gInX_A {d e z : D} (h : gInA d e = some z) : gInX d e = some z := by
  simp only [gInA, Option.map_eq_some_iff] at h
  obtain ⟨k, h, rfl⟩ := h
  simp only [gInX, inX, h, Option.map_some]
theorem gNotInX_A {d e z : D} (h : gNotInA d e = some z) : gNotInX d e = some z := by
  simp only [gNotInA, Option.map_eq_some_iff] at h
  obtain ⟨k, h, rfl⟩ := h
  simp only [gNotInX, inX, h, Option.map_some]
end VS
namespace My
open PySem PySem.Spec PyProof.Rows L2 VS
def g_is_number : MS := (retS (andV (unM (gIs .int) (varM 0)) (notV (unM (gIs .bool) (varM 0)))))
def G_is_number (ds : List D) : RP := endP (g_is_number (startE 1 ds) S0)
end My
namespace My
open PySem PySem.Spec PyProof.Rows L2 VS
def g_is_number_from : MS := (retS (andV (callP G_is_number [] (consA (varM 1) nilA)) (binM gGe (varM 1) (varM 0))))
def G_is_number_from (ds : List D) : RP := endP (g_is_number_from (startE 2 ds) S0)
end My
namespace My
open PySem PySem.Spec PyProof.Rows L2 VS
def g_is_number_between : MS := (retS (andV (callP G_is_number [] (consA (varM 1) nilA)) (chM gLe gLe (varM 0) (varM 1) (varM 2))))
def G_is_number_between (ds : List D) : RP := endP (g_is_number_between (startE 3 ds) S0)
end My
namespace My
open PySem PySem.Spec PyProof.Rows L2 VS
def g_is_pair : MS := (retS (andV (unM (gIs .tuple) (varM 0)) (binM gEq (cbM gLenA (consA (varM 0) nilA)) (cM (.int 2)))))
def G_is_pair (ds : List D) : RP := endP (g_is_pair (startE 1 ds) S0)
end My
namespace My
open PySem PySem.Spec PyProof.Rows L2 VS
def g_is_literal_of : MS := (retS (andV (callP G_is_number_between [] (consA (unM gNeg (varM 0)) (consA (varM 1) (consA (varM 0) nilA)))) (binM gNe (varM 1) (cM (.int 0)))))
def G_is_literal_of (ds : List D) : RP := endP (g_is_literal_of (startE 2 ds) S0)
end My
namespace My
open PySem PySem.Spec PyProof.Rows L2 VS
def t_are_terms_of_1 : MT := (orT (notT (testM (callP G_is_number_from [] (consA (cM (.int 1)) (consA (varM 4) nilA))))) (orT (notT (testM (callP G_is_literal_of [] (consA (varM 0) (consA (varM 5) nilA))))) (testM (binM gLe (cbM gAbs (consA (varM 5) nilA)) (varM 2)))))
def b_are_terms_of_2 : MS := (seqS (ifS (notT (testM (callP G_is_pair [] (consA (varM 3) nilA)))) (retS (cM (.bl false))) nextS) (seqS (unpS [4, 5] (varM 3)) (seqS (ifS t_are_terms_of_1 (retS (cM (.bl false))) nextS) (asgS 2 (cbM gAbs (consA (varM 5) nilA))))))
def g_are_terms_of : MS := (seqS (ifS (notT (testM (unM (gIs .tuple) (varM 1)))) (retS (cM (.bl false))) nextS) (seqS (asgS 2 (cM (.int 0))) (seqS (forS (setN 3) (varM 1) b_are_terms_of_2) (retS (cM (.bl true))))))
def G_are_terms_of (ds : List D) : RP := endP (g_are_terms_of (startE 6 ds) S0)
end My
namespace My
open PySem PySem.Spec PyProof.Rows L2 VS
def g_is_row_of : MS := (retS (andV (callP G_is_pair [] (consA (varM 1) nilA)) (andV (callP G_are_terms_of [] (consA (varM 0) (consA (binM gIxA (varM 1) (cM (.int 0))) nilA))) (callP G_is_number_from [] (consA (cM (.int 0)) (consA (binM gIxA (varM 1) (cM (.int 1))) nilA))))))
def G_is_row_of (ds : List D) : RP := endP (g_is_row_of (startE 2 ds) S0)
end My
namespace My
open PySem PySem.Spec PyProof.Rows L2 VS
def t_is_filling_of_1 : MT := (orT (notT (testM (unM (gIs .tuple) (varM 1)))) (testM (binM gNe (cbM gLenA (consA (varM 1) nilA)) (varM 0))))
def e_is_filling_of_2 : ME := (callP G_is_number_between [] (consA (cM (.int 0)) (consA (varM 2) (consA (cM (.int 1)) nilA))))
def g_is_filling_of : MS := (seqS (ifS t_is_filling_of_1 (retS (cM (.bl false))) nextS) (retS (cbM gAll (consA (lcM (setN 2) (varM 1) (fun _ S => .ok (true, S)) e_is_filling_of_2 [2]) nilA))))
def G_is_filling_of (ds : List D) : RP := endP (g_is_filling_of (startE 3 ds) S0)
end My
namespace My
open PySem PySem.Spec PyProof.Rows L2 VS
def g_are_unlike : MS := (retS (binM gEq (scLenM (setN 1) (varM 0) (fun _ S => .ok (true, S)) (cbM gAbs (consA (varM 1) nilA)) [1]) (cbM gLenA (consA (varM 0) nilA))))
def G_are_unlike (ds : List D) : RP := endP (g_are_unlike (startE 2 ds) S0)
end My
namespace My
open PySem PySem.Spec PyProof.Rows L2 VS
def t_check_many_1 : MT := (notT (testM (callP G_is_number_between [] (consA (cM (.int 1)) (consA (varM 0) (consA (varM 1) nilA))))))
def g_check_many : MS := (ifS t_check_many_1 (raiseS "BadMany") nextS)
def G_check_many (ds : List D) : RP := endP (g_check_many (startE 2 ds) S0)
end My
namespace My
open PySem PySem.Spec PyProof.Rows L2 VS
def t_check_literal_1 : MT := (notT (testM (callP G_is_literal_of [] (consA (varM 0) (consA (varM 1) nilA)))))
def g_check_literal : MS := (ifS t_check_literal_1 (raiseS "BadLiteral") nextS)
def G_check_literal (ds : List D) : RP := endP (g_check_literal (startE 2 ds) S0)
end My
namespace My
open PySem PySem.Spec PyProof.Rows L2 VS
def t_check_row_1 : MT := (notT (testM (callP G_is_row_of [] (consA (varM 0) (consA (varM 1) nilA)))))
def g_check_row : MS := (ifS t_check_row_1 (raiseS "BadRow") nextS)
def G_check_row (ds : List D) : RP := endP (g_check_row (startE 2 ds) S0)
end My
namespace My
open PySem PySem.Spec PyProof.Rows L2 VS
def t_check_filling_1 : MT := (notT (testM (callP G_is_filling_of [] (consA (varM 0) (consA (varM 1) nilA)))))
def g_check_filling : MS := (ifS t_check_filling_1 (raiseS "BadFilling") nextS)
def G_check_filling (ds : List D) : RP := endP (g_check_filling (startE 2 ds) S0)
end My
namespace My
open PySem PySem.Spec PyProof.Rows L2 VS
def g_opposite_terms : MS := (retS (cbM gTuple (consA (lcM (setT [1, 2]) (varM 0) (fun _ S => .ok (true, S)) (tupM (consA (varM 1) (consA (unM gNeg (varM 2)) nilA))) [1, 2]) nilA)))
def G_opposite_terms (ds : List D) : RP := endP (g_opposite_terms (startE 3 ds) S0)
end My
namespace My
open PySem PySem.Spec PyProof.Rows L2 VS
def g_weight_sum : MS := (retS (cbM gSum (consA (lcM (setT [1, 2]) (varM 0) (fun _ S => .ok (true, S)) (varM 1) [1, 2]) nilA)))
def G_weight_sum (ds : List D) : RP := endP (g_weight_sum (startE 3 ds) S0)
end My
namespace My
open PySem PySem.Spec PyProof.Rows L2 VS
def g_opposite_row : MS := (seqS (unpS [1, 2] (varM 0)) (retS (tupM (consA (callP G_opposite_terms [] (consA (varM 1) nilA)) (consA (cbM gMax (consA (cM (.int 0)) (consA (binM gAdd (binM gSub (callP G_weight_sum [] (consA (varM 1) nilA)) (varM 2)) (cM (.int 1))) nilA))) nilA)))))
def G_opposite_row (ds : List D) : RP := endP (g_opposite_row (startE 3 ds) S0)
end My
namespace My
open PySem PySem.Spec PyProof.Rows L2 VS
def g_opposite : MS := (seqS (dropS (callP G_check_many [.int 600] (consA (varM 0) nilA))) (seqS (dropS (callP G_check_row [] (consA (varM 0) (consA (varM 1) nilA)))) (retS (callP G_opposite_row [] (consA (varM 1) nilA)))))
def G_opposite (ds : List D) : RP := endP (g_opposite (startE 2 ds) S0)
end My
namespace My
open PySem PySem.Spec PyProof.Rows L2 VS
def g_worth_of : MS := (seqS (asgS 2 (binM gIxA (varM 1) (binM gSub (cbM gAbs (consA (varM 0) nilA)) (cM (.int 1))))) (seqS (ifS (testM (binM gGt (varM 0) (cM (.int 0)))) (retS (varM 2)) nextS) (retS (binM gSub (cM (.int 1)) (varM 2)))))
def G_worth_of (ds : List D) : RP := endP (g_worth_of (startE 3 ds) S0)
end My
namespace My
open PySem PySem.Spec PyProof.Rows L2 VS
def t_sum_at_1 : MT := (testM (binM gEq (callP G_worth_of [] (consA (varM 3) (consA (varM 1) nilA))) (cM (.int 1))))
def g_sum_at : MS := (retS (cbM gSum (consA (lcM (setT [2, 3]) (varM 0) t_sum_at_1 (varM 2) [2, 3]) nilA)))
def G_sum_at (ds : List D) : RP := endP (g_sum_at (startE 4 ds) S0)
end My
namespace My
open PySem PySem.Spec PyProof.Rows L2 VS
def g_holds_at : MS := (retS (binM gGe (callP G_sum_at [] (consA (binM gIxA (varM 0) (cM (.int 0))) (consA (varM 1) nilA))) (binM gIxA (varM 0) (cM (.int 1)))))
def G_holds_at (ds : List D) : RP := endP (g_holds_at (startE 2 ds) S0)
end My
namespace My
open PySem PySem.Spec PyProof.Rows L2 VS
def g_holds : MS := (seqS (dropS (callP G_check_many [.int 600] (consA (varM 0) nilA))) (seqS (dropS (callP G_check_row [] (consA (varM 0) (consA (varM 1) nilA)))) (seqS (dropS (callP G_check_filling [] (consA (varM 0) (consA (varM 2) nilA)))) (retS (callP G_holds_at [] (consA (varM 1) (consA (varM 2) nilA)))))))
def G_holds (ds : List D) : RP := endP (g_holds (startE 3 ds) S0)
end My
namespace My
open PySem PySem.Spec PyProof.Rows L2 VS
def e_missing_in_1 : ME := (cbM gMax (consA (cM (.int 0)) (consA (binM gSub (varM 2) (get2M (varM 1) (varM 3) (cM (.int 0)))) nilA)))
def g_missing_in : MS := (retS (cbM gSum (consA (lcM (setT [2, 3]) (varM 0) (fun _ S => .ok (true, S)) e_missing_in_1 [2, 3]) nilA)))
def G_missing_in (ds : List D) : RP := endP (g_missing_in (startE 4 ds) S0)
end My
namespace My
open PySem PySem.Spec PyProof.Rows L2 VS
def t_is_covered_1 : MT := (andT (testM (binM gGe (varM 6) (binM gIxA (varM 0) (cM (.int 1))))) (testM (binM gGe (binM gSub (varM 6) (callP G_missing_in [] (consA (varM 5) (consA (varM 2) nilA)))) (binM gIxA (varM 0) (cM (.int 1))))))
def g_is_covered : MS := (seqS (asgS 2 (dcM (setT [3, 4]) (binM gIxA (varM 0) (cM (.int 0))) (fun _ S => .ok (true, S)) (varM 4) (varM 3) [3, 4])) (seqS (forS (setT [5, 6]) (varM 1) (ifS t_is_covered_1 (retS (cM (.bl true))) nextS)) (retS (cM (.bl false)))))
def G_is_covered (ds : List D) : RP := endP (g_is_covered (startE 7 ds) S0)
end My
namespace My
open PySem PySem.Spec PyProof.Rows L2 VS
def g_covers : MS := (seqS (dropS (callP G_check_many [.int 600] (consA (varM 0) nilA))) (seqS (dropS (callP G_check_row [] (consA (varM 0) (consA (varM 1) nilA)))) (seqS (dropS (callP G_check_row [] (consA (varM 0) (consA (varM 2) nilA)))) (retS (callP G_is_covered [] (consA (varM 2) (consA (lstM (consA (varM 1) nilA)) nilA)))))))
def G_covers (ds : List D) : RP := endP (g_covers (startE 3 ds) S0)
end My
namespace My
open PySem PySem.Spec PyProof.Rows L2 VS
def b_normal_row_1 : MS := (setA 2 (varM 5) (binM gAdd (get2M (varM 2) (varM 5) (cM (.int 0))) (varM 4)))
def b_normal_row_2 : MS := (seqS (setA 2 (unM gNeg (varM 5)) (binM gSub (get2M (varM 2) (unM gNeg (varM 5)) (cM (.int 0))) (varM 4))) (asgS 3 (binM gSub (varM 3) (varM 4))))
def b_normal_row_3 : MS := (seqS (appS 6 (tupM (consA (unM gNeg (varM 4)) (consA (unM gNeg (varM 7)) nilA)))) (asgS 3 (binM gSub (varM 3) (varM 4))))
def b_normal_row_4 : MS := (seqS (asgS 4 (binM gIxA (varM 2) (varM 7))) (seqS (ifS (testM (binM gGt (varM 4) (cM (.int 0)))) (appS 6 (tupM (consA (varM 4) (consA (varM 7) nilA)))) nextS) (ifS (testM (binM gLt (varM 4) (cM (.int 0)))) b_normal_row_3 nextS)))
def g_normal_row : MS := (seqS (asgS 2 (cM (.dct [] []))) (seqS (asgS 3 (varM 1)) (seqS (forS (setT [4, 5]) (varM 0) (ifS (testM (binM gGt (varM 5) (cM (.int 0)))) b_normal_row_1 b_normal_row_2)) (seqS (asgS 6 (lstM nilA)) (seqS (forS (setN 7) (cbM gSortedA (consA (varM 2) nilA)) b_normal_row_4) (retS (tupM (consA (cbM gTuple (consA (varM 6) nilA)) (consA (cbM gMax (consA (cM (.int 0)) (consA (varM 3) nilA))) nilA)))))))))
def G_normal_row (ds : List D) : RP := endP (g_normal_row (startE 8 ds) S0)
end My
namespace My
open PySem PySem.Spec PyProof.Rows L2 VS
def g__is_image : MS := (retS (orV (callP G_is_literal_of [] (consA (varM 0) (consA (varM 1) nilA))) (binM gInX (varM 1) (tupM (consA (cM (.str "yes")) (consA (cM (.str "no")) nilA))))))
def G__is_image (ds : List D) : RP := endP (g__is_image (startE 2 ds) S0)
end My
namespace My
open PySem PySem.Spec PyProof.Rows L2 VS
def t_is_witness_of_1 : MT := (orT (notT (testM (unM (gIs .tuple) (varM 1)))) (testM (binM gNe (cbM gLenA (consA (varM 1) nilA)) (varM 0))))
def e_is_witness_of_2 : ME := (callP G__is_image [] (consA (varM 0) (consA (varM 2) nilA)))
def g_is_witness_of : MS := (seqS (ifS t_is_witness_of_1 (retS (cM (.bl false))) nextS) (retS (cbM gAll (consA (lcM (setN 2) (varM 1) (fun _ S => .ok (true, S)) e_is_witness_of_2 [2]) nilA))))
def G_is_witness_of (ds : List D) : RP := endP (g_is_witness_of (startE 3 ds) S0)
end My
namespace My
open PySem PySem.Spec PyProof.Rows L2 VS
def t_check_witness_1 : MT := (notT (testM (callP G_is_witness_of [] (consA (varM 0) (consA (varM 1) nilA)))))
def g_check_witness : MS := (ifS t_check_witness_1 (raiseS "BadWitness") nextS)
def G_check_witness (ds : List D) : RP := endP (g_check_witness (startE 2 ds) S0)
end My
namespace My
open PySem PySem.Spec PyProof.Rows L2 VS
def g__opposite_image : MS := (seqS (ifS (testM (binM gEq (varM 0) (cM (.str "yes")))) (retS (cM (.str "no"))) nextS) (seqS (ifS (testM (binM gEq (varM 0) (cM (.str "no")))) (retS (cM (.str "yes"))) nextS) (retS (unM gNeg (varM 0)))))
def G__opposite_image (ds : List D) : RP := endP (g__opposite_image (startE 1 ds) S0)
end My
namespace My
open PySem PySem.Spec PyProof.Rows L2 VS
def g_image_of : MS := (seqS (asgS 2 (binM gIxA (varM 0) (binM gSub (cbM gAbs (consA (varM 1) nilA)) (cM (.int 1))))) (seqS (ifS (testM (binM gGt (varM 1) (cM (.int 0)))) (retS (varM 2)) nextS) (retS (callP G__opposite_image [] (consA (varM 2) nilA)))))
def G_image_of (ds : List D) : RP := endP (g_image_of (startE 3 ds) S0)
end My
namespace My
open PySem PySem.Spec PyProof.Rows L2 VS
def g_led_literal : MS := (seqS (dropS (callP G_check_many [.int 600] (consA (varM 0) nilA))) (seqS (dropS (callP G_check_witness [] (consA (varM 0) (consA (varM 1) nilA)))) (seqS (dropS (callP G_check_literal [] (consA (varM 0) (consA (varM 2) nilA)))) (retS (callP G_image_of [] (consA (varM 1) (consA (varM 2) nilA)))))))
def G_led_literal (ds : List D) : RP := endP (g_led_literal (startE 3 ds) S0)
end My
namespace My
open PySem PySem.Spec PyProof.Rows L2 VS
def b_row_led_1 : MS := (ifS (testM (binM gNe (varM 6) (cM (.str "no")))) (appS 2 (tupM (consA (varM 4) (consA (varM 6) nilA)))) nextS)
def b_row_led_2 : MS := (seqS (asgS 6 (callP G_image_of [] (consA (varM 0) (consA (varM 5) nilA)))) (ifS (testM (binM gEq (varM 6) (cM (.str "yes")))) (asgS 3 (binM gSub (varM 3) (varM 4))) b_row_led_1))
def g_row_led : MS := (seqS (asgS 2 (lstM nilA)) (seqS (asgS 3 (binM gIxA (varM 1) (cM (.int 1)))) (seqS (forS (setT [4, 5]) (binM gIxA (varM 1) (cM (.int 0))) b_row_led_2) (retS (callP G_normal_row [] (consA (varM 2) (consA (varM 3) nilA)))))))
def G_row_led (ds : List D) : RP := endP (g_row_led (startE 7 ds) S0)
end My
namespace My
open PySem PySem.Spec PyProof.Rows L2 VS
def g_led_row : MS := (seqS (dropS (callP G_check_many [.int 600] (consA (varM 0) nilA))) (seqS (dropS (callP G_check_witness [] (consA (varM 0) (consA (varM 1) nilA)))) (seqS (dropS (callP G_check_row [] (consA (varM 0) (consA (varM 2) nilA)))) (retS (callP G_row_led [] (consA (varM 1) (consA (varM 2) nilA)))))))
def G_led_row (ds : List D) : RP := endP (g_led_row (startE 3 ds) S0)
end My
namespace My
open PySem PySem.Spec PyProof.Rows L2 VS
def g__worth_of_image : MS := (seqS (ifS (testM (binM gEq (varM 0) (cM (.str "yes")))) (retS (cM (.int 1))) nextS) (seqS (ifS (testM (binM gEq (varM 0) (cM (.str "no")))) (retS (cM (.int 0))) nextS) (retS (callP G_worth_of [] (consA (varM 0) (consA (varM 1) nilA))))))
def G__worth_of_image (ds : List D) : RP := endP (g__worth_of_image (startE 2 ds) S0)
end My
namespace My
open PySem PySem.Spec PyProof.Rows L2 VS
def e_filling_led_1 : ME := (callP G__worth_of_image [] (consA (varM 2) (consA (varM 1) nilA)))
def g_filling_led : MS := (retS (cbM gTuple (consA (lcM (setN 2) (varM 0) (fun _ S => .ok (true, S)) e_filling_led_1 [2]) nilA)))
def G_filling_led (ds : List D) : RP := endP (g_filling_led (startE 3 ds) S0)
end My
namespace My
open PySem PySem.Spec PyProof.Rows L2 VS
def g_led_filling : MS := (seqS (dropS (callP G_check_many [.int 600] (consA (varM 0) nilA))) (seqS (dropS (callP G_check_witness [] (consA (varM 0) (consA (varM 1) nilA)))) (seqS (dropS (callP G_check_filling [] (consA (varM 0) (consA (varM 2) nilA)))) (retS (callP G_filling_led [] (consA (varM 1) (consA (varM 2) nilA)))))))
def G_led_filling (ds : List D) : RP := endP (g_led_filling (startE 3 ds) S0)
end My
namespace My
open PySem PySem.Spec PyProof.Rows L2 VS
def t__led_image_1 : MT := (testM (binM gInX (varM 1) (tupM (consA (cM (.str "yes")) (consA (cM (.str "no")) nilA)))))
def g__led_image : MS := (seqS (ifS t__led_image_1 (retS (varM 1)) nextS) (retS (callP G_image_of [] (consA (varM 0) (consA (varM 1) nilA)))))
def G__led_image (ds : List D) : RP := endP (g__led_image (startE 2 ds) S0)
end My
namespace My
open PySem PySem.Spec PyProof.Rows L2 VS
def e_witness_behind_1 : ME := (callP G__led_image [] (consA (varM 1) (consA (varM 2) nilA)))
def g_witness_behind : MS := (retS (cbM gTuple (consA (lcM (setN 2) (varM 0) (fun _ S => .ok (true, S)) e_witness_behind_1 [2]) nilA)))
def G_witness_behind (ds : List D) : RP := endP (g_witness_behind (startE 3 ds) S0)
end My
namespace My
open PySem PySem.Spec PyProof.Rows L2 VS
def g_behind : MS := (seqS (dropS (callP G_check_many [.int 600] (consA (varM 0) nilA))) (seqS (dropS (callP G_check_witness [] (consA (varM 0) (consA (varM 1) nilA)))) (seqS (dropS (callP G_check_witness [] (consA (varM 0) (consA (varM 2) nilA)))) (retS (callP G_witness_behind [] (consA (varM 1) (consA (varM 2) nilA)))))))
def G_behind (ds : List D) : RP := endP (g_behind (startE 3 ds) S0)
end My
namespace My
open PySem PySem.Spec PyProof.Rows L2 VS
def t_is_exchange_of_1 : MT := (orT (notT (testM (callP G_is_witness_of [] (consA (varM 0) (consA (varM 1) nilA))))) (orT (testM (binM gInX (cM (.str "yes")) (varM 1))) (testM (binM gInX (cM (.str "no")) (varM 1)))))
def g_is_exchange_of : MS := (seqS (ifS t_is_exchange_of_1 (retS (cM (.bl false))) nextS) (retS (callP G_are_unlike [] (consA (varM 1) nilA))))
def G_is_exchange_of (ds : List D) : RP := endP (g_is_exchange_of (startE 2 ds) S0)
end My
namespace My
open PySem PySem.Spec PyProof.Rows L2 VS
def g_is_exchange : MS := (seqS (dropS (callP G_check_many [.int 600] (consA (varM 0) nilA))) (retS (callP G_is_exchange_of [] (consA (varM 0) (consA (varM 1) nilA)))))
def G_is_exchange (ds : List D) : RP := endP (g_is_exchange (startE 2 ds) S0)
end My
namespace My
open PySem PySem.Spec PyProof.Rows L2 VS
def t_check_exchange_1 : MT := (notT (testM (callP G_is_exchange_of [] (consA (varM 0) (consA (varM 1) nilA)))))
def g_check_exchange : MS := (ifS t_check_exchange_1 (raiseS "BadExchange") nextS)
def G_check_exchange (ds : List D) : RP := endP (g_check_exchange (startE 2 ds) S0)
end My
namespace My
open PySem PySem.Spec PyProof.Rows L2 VS
def b_exchange_turned_1 : MS := (setA 1 (unM gNeg (varM 3)) (unM gNeg (binM gAdd (varM 2) (cM (.int 1)))))
def b_exchange_turned_2 : MS := (ifS (testM (binM gGt (varM 3) (cM (.int 0)))) (setA 1 (varM 3) (binM gAdd (varM 2) (cM (.int 1)))) b_exchange_turned_1)
def g_exchange_turned : MS := (seqS (asgS 1 (cM (.dct [] []))) (seqS (forE (setT [2, 3]) (varM 0) b_exchange_turned_2) (retS (cbM gTuple (consA (lcM (setN 4) (cbM gSortedA (consA (varM 1) nilA)) (fun _ S => .ok (true, S)) (binM gIxA (varM 1) (varM 4)) [4]) nilA)))))
def G_exchange_turned (ds : List D) : RP := endP (g_exchange_turned (startE 5 ds) S0)
end My
namespace My
open PySem PySem.Spec PyProof.Rows L2 VS
def g_turned : MS := (seqS (dropS (callP G_check_many [.int 600] (consA (varM 0) nilA))) (seqS (dropS (callP G_check_exchange [] (consA (varM 0) (consA (varM 1) nilA)))) (retS (callP G_exchange_turned [] (consA (varM 1) nilA)))))
def G_turned (ds : List D) : RP := endP (g_turned (startE 2 ds) S0)
end My
namespace My
open PySem PySem.Spec PyProof.Rows L2 VS
def t__law_draw_1 : MT := (andT (testM (binM gEq (stM 0 fun S => .int S.left) (cM (.int 0)))) (largeT 0))
def t__law_draw_2 : MT := (testM (binM gGt (stM 0 fun S => .int S.left) (cM (.int 0))))
def b__law_draw_3 : MS := (seqS (asgS 2 (binM gMod (cbM gInt (consA (stM 0 fun S => .int S.left) nilA)) (varM 1))) (seqS (leftS 0 (binM gDivW (stM 0 fun S => .int S.left) (varM 1))) (retS (varM 2))))
def g__law_draw : MS := (seqS (whileS t__law_draw_1 (popLS 0) 100000) (seqS (ifS t__law_draw_2 b__law_draw_3 nextS) (seqS (asgS 3 (binM gAdd (stM 0 fun S => .int S.turn) (cM (.int 1)))) (seqS (turnS 0 (varM 3)) (seqS (asgS 4 (ifM (testM (binM gNe (stM 0 fun S => .lst (S.cells.map D.int)) (lstM nilA))) (binM gIxA (stM 0 fun S => .lst (S.cells.map D.int)) (binM gMod (cbM gInt (consA (varM 3) nilA)) (cbM gLenA (consA (stM 0 fun S => .lst (S.cells.map D.int)) nilA)))) (cM (.int 0)))) (seqS (asgS 5 (binM gMod (cbM gInt (consA (binM gPow (binM gAdd (binM gAdd (binM gMod (cbM gInt (consA (varM 4) nilA)) (cM (.int 2147483563))) (binM gMulT (cM (.int 40692)) (varM 3))) (cM (.int 24681))) (cM (.int 3))) nilA)) (cM (.int 2147483629)))) (retS (binM gMod (cbM gInt (consA (binM gDivW (binM gMod (cbM gInt (consA (binM gPow (binM gAdd (varM 5) (binM gMulT (cM (.int 104917)) (varM 3))) (cM (.int 5))) nilA)) (cM (.int 2147483579))) (cM (.int 29))) nilA)) (varM 1)))))))))
def G__law_draw (ds : List D) (S : DS) : Res (D × DS) := endS (g__law_draw (startE 6 ds) S)
end My
namespace My
open PySem PySem.Spec PyProof.Rows L2 VS
def g__law_pick : MS := (retS (binM gIxA (varM 1) (callS G__law_draw (consA (varM 0) (consA (cbM gLenA (consA (varM 1) nilA)) nilA)))))
def G__law_pick (ds : List D) (S : DS) : Res (D × DS) := endS (g__law_pick (startE 2 ds) S)
end My
namespace My
open PySem PySem.Spec PyProof.Rows L2 VS
def b__law_mixed_1 : MS := (appPopM 3 2 (callS G__law_draw (consA (varM 0) (consA (cbM gLenA (consA (varM 2) nilA)) nilA))))
def g__law_mixed : MS := (seqS (parOS 2 3 (cbM gList (consA (varM 1) nilA)) (lstM nilA)) (seqS (whileS (testM (binM gNe (varM 2) (lstM nilA))) b__law_mixed_1 100000) (retS (varM 3))))
def G__law_mixed (ds : List D) (S : DS) : Res (D × DS) := endS (g__law_mixed (startE 4 ds) S)
end My
namespace My
open PySem PySem.Spec PyProof.Rows L2 VS
def b__law_fillings_1 : MS := (asgS 1 (cbM gSortedA (consA (binM gCat (lcM (setN 3) (varM 1) (fun _ S => .ok (true, S)) (binM gAdd (varM 3) (tupM (consA (cM (.int 0)) nilA))) [3]) (lcM (setN 3) (varM 1) (fun _ S => .ok (true, S)) (binM gAdd (varM 3) (tupM (consA (cM (.int 1)) nilA))) [3])) nilA)))
def g__law_fillings : MS := (seqS (asgS 1 (lstM (consA (tupM nilA) nilA))) (seqS (forR (setN 2) (consA (varM 0) nilA) b__law_fillings_1) (retS (varM 1))))
def G__law_fillings (ds : List D) : RP := endP (g__law_fillings (startE 4 ds) S0)
end My
namespace My
open PySem PySem.Spec PyProof.Rows L2 VS
def g__law_worth : MS := (retS (ifM (testM (binM gGt (varM 0) (cM (.int 0)))) (binM gIxA (varM 1) (binM gSub (varM 0) (cM (.int 1)))) (binM gSub (cM (.int 1)) (binM gIxA (varM 1) (binM gSub (binM gSub (cM (.int 0)) (varM 0)) (cM (.int 1)))))))
def G__law_worth (ds : List D) : RP := endP (g__law_worth (startE 2 ds) S0)
end My
namespace My
open PySem PySem.Spec PyProof.Rows L2 VS
def t__law_comes_1 : MT := (testM (binM gEq (callP G__law_worth [] (consA (varM 3) (consA (varM 1) nilA))) (cM (.int 1))))
def g__law_comes : MS := (retS (cbM gSum (consA (lcM (setT [2, 3]) (varM 0) t__law_comes_1 (varM 2) [2, 3]) nilA)))
def G__law_comes (ds : List D) : RP := endP (g__law_comes (startE 4 ds) S0)
end My
namespace My
open PySem PySem.Spec PyProof.Rows L2 VS
def g__law_holds : MS := (retS (binM gGe (callP G__law_comes [] (consA (binM gIxA (varM 0) (cM (.int 0))) (consA (varM 1) nilA))) (binM gIxA (varM 0) (cM (.int 1)))))
def G__law_holds (ds : List D) : RP := endP (g__law_holds (startE 2 ds) S0)
end My
namespace My
open PySem PySem.Spec PyProof.Rows L2 VS
def e__law_led_1 : ME := (ifM (testM (unM (gIs .str) (varM 2))) (cbM gInt (consA (binM gEq (varM 2) (cM (.str "yes"))) nilA)) (callP G__law_worth [] (consA (varM 2) (consA (varM 1) nilA))))
def g__law_led : MS := (retS (cbM gTuple (consA (lcM (setN 2) (varM 0) (fun _ S => .ok (true, S)) e__law_led_1 [2]) nilA)))
def G__law_led (ds : List D) : RP := endP (g__law_led (startE 3 ds) S0)
end My
namespace My
open PySem PySem.Spec PyProof.Rows L2 VS
def t__law_terms_1 : MT := (orT (testM (binM gEq (varM 4) (cM (.int 0)))) (testM (binM gGt (callS G__law_draw (consA (varM 0) (consA (cM (.int 3)) nilA))) (cM (.int 0)))))
def b__law_terms_2 : MS := (seqS (asgS 6 (ifM (testM (binM gEq (varM 4) (cM (.int 1)))) (cM (.int 1)) (binM gAdd (cM (.int 1)) (callS G__law_draw (consA (varM 0) (consA (varM 2) nilA)))))) (appS 3 (tupM (consA (varM 6) (consA (ifM (testM (binM gEq (callS G__law_draw (consA (varM 0) (consA (cM (.int 2)) nilA))) (cM (.int 0)))) (varM 5) (binM gSub (cM (.int 0)) (varM 5))) nilA)))))
def g__law_terms : MS := (seqS (parOS 3 4 (lstM nilA) (callS G__law_draw (consA (varM 0) (consA (cM (.int 4)) nilA)))) (seqS (forR (setN 5) (consA (cM (.int 1)) (consA (binM gAdd (varM 1) (cM (.int 1))) nilA)) (ifS t__law_terms_1 b__law_terms_2 nextS)) (retS (cbM gTuple (consA (varM 3) nilA)))))
def G__law_terms (ds : List D) (S : DS) : Res (D × DS) := endS (g__law_terms (startE 7 ds) S)
end My
namespace My
open PySem PySem.Spec PyProof.Rows L2 VS
def b__law_row_1 : MS := (retS (tupM (consA (varM 3) (consA (callS G__law_pick (consA (varM 0) (consA (lstM (consA (cM (.int 0)) (consA (varM 4) (consA (binM gAdd (varM 4) (cM (.int 1))) nilA)))) nilA))) nilA))))
def g__law_row : MS := (seqS (asgS 3 (callS G__law_terms (consA (varM 0) (consA (varM 1) (consA (varM 2) nilA))))) (seqS (asgS 4 (cbM gSum (consA (lcM (setT [5, 6]) (varM 3) (fun _ S => .ok (true, S)) (varM 5) [5, 6]) nilA))) (seqS (asgS 7 (callS G__law_draw (consA (varM 0) (consA (cM (.int 10)) nilA)))) (seqS (ifS (testM (binM gEq (varM 7) (cM (.int 0)))) b__law_row_1 nextS) (retS (tupM (consA (varM 3) (consA (ifM (testM (binM gLt (varM 7) (cM (.int 4)))) (callS G__law_draw (consA (varM 0) (consA (binM gAdd (varM 4) (cM (.int 1))) nilA))) (binM gSub (binM gDivW (binM gAdd (varM 4) (cM (.int 1))) (cM (.int 2))) (cbM gInt (consA (andV (binM gEq (varM 7) (cM (.int 4))) (binM gGt (varM 4) (cM (.int 1)))) nilA)))) nilA))))))))
def G__law_row (ds : List D) (S : DS) : Res (D × DS) := endS (g__law_row (startE 8 ds) S)
end My
namespace My
open PySem PySem.Spec PyProof.Rows L2 VS
def t__law_witness_1 : MT := (orT (testM (binM gEq (varM 3) (cM (.int 0)))) (testM (binM gEq (callS G__law_draw (consA (varM 0) (consA (cM (.int 3)) nilA))) (cM (.int 0)))))
def b__law_witness_2 : MS := (seqS (asgS 5 (binM gAdd (cM (.int 1)) (callS G__law_draw (consA (varM 0) (consA (varM 1) nilA))))) (setA 2 (varM 4) (callS G__law_pick (consA (varM 0) (consA (lstM (consA (cM (.str "yes")) (consA (cM (.str "no")) (consA (varM 5) (consA (binM gSub (cM (.int 0)) (varM 5)) nilA))))) nilA)))))
def g__law_witness : MS := (seqS (parOS 2 3 (lrg2 (cM (.int 1)) (binM gAdd (varM 1) (cM (.int 1)))) (callS G__law_draw (consA (varM 0) (consA (cM (.int 4)) nilA)))) (seqS (forR (setN 4) (consA (varM 1) nilA) (ifS t__law_witness_1 b__law_witness_2 nextS)) (retS (cbM gTuple (consA (varM 2) nilA)))))
def G__law_witness (ds : List D) (S : DS) : Res (D × DS) := endS (g__law_witness (startE 6 ds) S)
end My
namespace My
open PySem PySem.Spec PyProof.Rows L2 VS
def e__law_exchange_1 : ME := (ifM (testM (binM gGt (callS G__law_draw (consA (varM 0) (consA (cM (.int 3)) nilA))) (cM (.int 0)))) (varM 3) (binM gSub (cM (.int 0)) (varM 3)))
def g__law_exchange : MS := (seqS (asgS 2 (ifM (testM (binM gGt (callS G__law_draw (consA (varM 0) (consA (cM (.int 3)) nilA))) (cM (.int 0)))) (callS G__law_mixed (consA (varM 0) (consA (lrg2 (cM (.int 1)) (binM gAdd (varM 1) (cM (.int 1)))) nilA))) (lrg2 (cM (.int 1)) (binM gAdd (varM 1) (cM (.int 1)))))) (retS (cbM gTuple (consA (lcM (setN 3) (varM 2) (fun _ S => .ok (true, S)) e__law_exchange_1 [3]) nilA))))
def G__law_exchange (ds : List D) (S : DS) : Res (D × DS) := endS (g__law_exchange (startE 4 ds) S)
end My
namespace My
open PySem PySem.Spec PyProof.Rows L2 VS
def top (i : Nat) : Stmt := PySem.Challenge.pw_witnesslog_k05_whole_led_rows_and_led_fi.main.body.getD i (.Pass ⟨0, 0, 0, 0⟩)
structure Adr where
  a_is_number : Addr
  d_is_number : FuncData
  a_is_number_from : Addr
  d_is_number_from : FuncData
  a_is_number_between : Addr
  d_is_number_between : FuncData
  a_is_pair : Addr
  d_is_pair : FuncData
  a_is_literal_of : Addr
  d_is_literal_of : FuncData
  a_are_terms_of : Addr
  d_are_terms_of : FuncData
  a_is_row_of : Addr
  d_is_row_of : FuncData
  a_is_filling_of : Addr
  d_is_filling_of : FuncData
  a_are_unlike : Addr
  d_are_unlike : FuncData
  a_check_many : Addr
  d_check_many : FuncData
  a_check_literal : Addr
  d_check_literal : FuncData
  a_check_row : Addr
  d_check_row : FuncData
  a_check_filling : Addr
  d_check_filling : FuncData
  a_opposite_terms : Addr
  d_opposite_terms : FuncData
  a_weight_sum : Addr
  d_weight_sum : FuncData
  a_opposite_row : Addr
  d_opposite_row : FuncData
  a_opposite : Addr
  d_opposite : FuncData
  a_worth_of : Addr
  d_worth_of : FuncData
  a_sum_at : Addr
  d_sum_at : FuncData
  a_holds_at : Addr
  d_holds_at : FuncData
  a_holds : Addr
  d_holds : FuncData
  a_missing_in : Addr
  d_missing_in : FuncData
  a_is_covered : Addr
  d_is_covered : FuncData
  a_covers : Addr
  d_covers : FuncData
  a_normal_row : Addr
  d_normal_row : FuncData
  a__is_image : Addr
  d__is_image : FuncData
  a_is_witness_of : Addr
  d_is_witness_of : FuncData
  a_check_witness : Addr
  d_check_witness : FuncData
  a__opposite_image : Addr
  d__opposite_image : FuncData
  a_image_of : Addr
  d_image_of : FuncData
  a_led_literal : Addr
  d_led_literal : FuncData
  a_row_led : Addr
  d_row_led : FuncData
  a_led_row : Addr
  d_led_row : FuncData
  a__worth_of_image : Addr
  d__worth_of_image : FuncData
  a_filling_led : Addr
  d_filling_led : FuncData
  a_led_filling : Addr
  d_led_filling : FuncData
  a__led_image : Addr
  d__led_image : FuncData
  a_witness_behind : Addr
  d_witness_behind : FuncData
  a_behind : Addr
  d_behind : FuncData
  a_is_exchange_of : Addr
  d_is_exchange_of : FuncData
  a_is_exchange : Addr
  d_is_exchange : FuncData
  a_check_exchange : Addr
  d_check_exchange : FuncData
  a_exchange_turned : Addr
  d_exchange_turned : FuncData
  a_turned : Addr
  d_turned : FuncData
  a__law_begun : Addr
  d__law_begun : FuncData
  a__law_draw : Addr
  d__law_draw : FuncData
  a__law_pick : Addr
  d__law_pick : FuncData
  a__law_mixed : Addr
  d__law_mixed : FuncData
  a__law_fillings : Addr
  d__law_fillings : FuncData
  a__law_worth : Addr
  d__law_worth : FuncData
  a__law_comes : Addr
  d__law_comes : FuncData
  a__law_holds : Addr
  d__law_holds : FuncData
  a__law_led : Addr
  d__law_led : FuncData
  a__law_terms : Addr
  d__law_terms : FuncData
  a__law_row : Addr
  d__law_row : FuncData
  a__law_witness : Addr
  d__law_witness : FuncData
  a__law_exchange : Addr
  d__law_exchange : FuncData
  c_BadExchange : Addr
  c_BadFilling : Addr
  c_BadLiteral : Addr
  c_BadMany : Addr
  c_BadRow : Addr
  c_BadWitness : Addr
  c_WitnessError : Addr
structure Txt (K : PySem.W.Frag) (mg : Str → Option Value) (A : Adr) : Prop where
  m_is_number : mg "is_number" = some (.ref A.a_is_number)
  f_is_number : Fun K "is_number" "is_number" (top 10) A.a_is_number A.d_is_number
  m_is_number_from : mg "is_number_from" = some (.ref A.a_is_number_from)
  f_is_number_from : Fun K "is_number_from" "is_number_from" (top 11) A.a_is_number_from A.d_is_number_from
  m_is_number_between : mg "is_number_between" = some (.ref A.a_is_number_between)
  f_is_number_between : Fun K "is_number_between" "is_number_between" (top 12) A.a_is_number_between A.d_is_number_between
  m_is_pair : mg "is_pair" = some (.ref A.a_is_pair)
  f_is_pair : Fun K "is_pair" "is_pair" (top 13) A.a_is_pair A.d_is_pair
  m_is_literal_of : mg "is_literal_of" = some (.ref A.a_is_literal_of)
  f_is_literal_of : Fun K "is_literal_of" "is_literal_of" (top 14) A.a_is_literal_of A.d_is_literal_of
  m_are_terms_of : mg "are_terms_of" = some (.ref A.a_are_terms_of)
  f_are_terms_of : Fun K "are_terms_of" "are_terms_of" (top 15) A.a_are_terms_of A.d_are_terms_of
  m_is_row_of : mg "is_row_of" = some (.ref A.a_is_row_of)
  f_is_row_of : Fun K "is_row_of" "is_row_of" (top 16) A.a_is_row_of A.d_is_row_of
  m_is_filling_of : mg "is_filling_of" = some (.ref A.a_is_filling_of)
  f_is_filling_of : Fun K "is_filling_of" "is_filling_of" (top 17) A.a_is_filling_of A.d_is_filling_of
  m_are_unlike : mg "are_unlike" = some (.ref A.a_are_unlike)
  f_are_unlike : Fun K "are_unlike" "are_unlike" (top 18) A.a_are_unlike A.d_are_unlike
  m_check_many : mg "check_many" = some (.ref A.a_check_many)
  f_check_many : FunDD K "check_many" "check_many" (top 19) [.int 600] A.a_check_many A.d_check_many
  m_check_literal : mg "check_literal" = some (.ref A.a_check_literal)
  f_check_literal : Fun K "check_literal" "check_literal" (top 20) A.a_check_literal A.d_check_literal
  m_check_row : mg "check_row" = some (.ref A.a_check_row)
  f_check_row : Fun K "check_row" "check_row" (top 21) A.a_check_row A.d_check_row
  m_check_filling : mg "check_filling" = some (.ref A.a_check_filling)
  f_check_filling : Fun K "check_filling" "check_filling" (top 22) A.a_check_filling A.d_check_filling
  m_opposite_terms : mg "opposite_terms" = some (.ref A.a_opposite_terms)
  f_opposite_terms : Fun K "opposite_terms" "opposite_terms" (top 32) A.a_opposite_terms A.d_opposite_terms
  m_weight_sum : mg "weight_sum" = some (.ref A.a_weight_sum)
  f_weight_sum : Fun K "weight_sum" "weight_sum" (top 28) A.a_weight_sum A.d_weight_sum
  m_opposite_row : mg "opposite_row" = some (.ref A.a_opposite_row)
  f_opposite_row : Fun K "opposite_row" "opposite_row" (top 33) A.a_opposite_row A.d_opposite_row
  m_opposite : mg "opposite" = some (.ref A.a_opposite)
  f_opposite : Fun K "opposite" "opposite" (top 24) A.a_opposite A.d_opposite
  m_worth_of : mg "worth_of" = some (.ref A.a_worth_of)
  f_worth_of : Fun K "worth_of" "worth_of" (top 29) A.a_worth_of A.d_worth_of
  m_sum_at : mg "sum_at" = some (.ref A.a_sum_at)
  f_sum_at : Fun K "sum_at" "sum_at" (top 30) A.a_sum_at A.d_sum_at
  m_holds_at : mg "holds_at" = some (.ref A.a_holds_at)
  f_holds_at : Fun K "holds_at" "holds_at" (top 31) A.a_holds_at A.d_holds_at
  m_holds : mg "holds" = some (.ref A.a_holds)
  f_holds : Fun K "holds" "holds" (top 25) A.a_holds A.d_holds
  m_missing_in : mg "missing_in" = some (.ref A.a_missing_in)
  f_missing_in : Fun K "missing_in" "missing_in" (top 35) A.a_missing_in A.d_missing_in
  m_is_covered : mg "is_covered" = some (.ref A.a_is_covered)
  f_is_covered : Fun K "is_covered" "is_covered" (top 34) A.a_is_covered A.d_is_covered
  m_covers : mg "covers" = some (.ref A.a_covers)
  f_covers : Fun K "covers" "covers" (top 26) A.a_covers A.d_covers
  m_normal_row : mg "normal_row" = some (.ref A.a_normal_row)
  f_normal_row : Fun K "normal_row" "normal_row" (top 27) A.a_normal_row A.d_normal_row
  m__is_image : mg "_is_image" = some (.ref A.a__is_image)
  f__is_image : Fun K "_is_image" "_is_image" (top 43) A.a__is_image A.d__is_image
  m_is_witness_of : mg "is_witness_of" = some (.ref A.a_is_witness_of)
  f_is_witness_of : Fun K "is_witness_of" "is_witness_of" (top 44) A.a_is_witness_of A.d_is_witness_of
  m_check_witness : mg "check_witness" = some (.ref A.a_check_witness)
  f_check_witness : Fun K "check_witness" "check_witness" (top 46) A.a_check_witness A.d_check_witness
  m__opposite_image : mg "_opposite_image" = some (.ref A.a__opposite_image)
  f__opposite_image : Fun K "_opposite_image" "_opposite_image" (top 53) A.a__opposite_image A.d__opposite_image
  m_image_of : mg "image_of" = some (.ref A.a_image_of)
  f_image_of : Fun K "image_of" "image_of" (top 48) A.a_image_of A.d_image_of
  m_led_literal : mg "led_literal" = some (.ref A.a_led_literal)
  f_led_literal : Fun K "led_literal" "led_literal" (top 37) A.a_led_literal A.d_led_literal
  m_row_led : mg "row_led" = some (.ref A.a_row_led)
  f_row_led : Fun K "row_led" "row_led" (top 49) A.a_row_led A.d_row_led
  m_led_row : mg "led_row" = some (.ref A.a_led_row)
  f_led_row : Fun K "led_row" "led_row" (top 38) A.a_led_row A.d_led_row
  m__worth_of_image : mg "_worth_of_image" = some (.ref A.a__worth_of_image)
  f__worth_of_image : Fun K "_worth_of_image" "_worth_of_image" (top 55) A.a__worth_of_image A.d__worth_of_image
  m_filling_led : mg "filling_led" = some (.ref A.a_filling_led)
  f_filling_led : Fun K "filling_led" "filling_led" (top 52) A.a_filling_led A.d_filling_led
  m_led_filling : mg "led_filling" = some (.ref A.a_led_filling)
  f_led_filling : Fun K "led_filling" "led_filling" (top 39) A.a_led_filling A.d_led_filling
  m__led_image : mg "_led_image" = some (.ref A.a__led_image)
  f__led_image : Fun K "_led_image" "_led_image" (top 54) A.a__led_image A.d__led_image
  m_witness_behind : mg "witness_behind" = some (.ref A.a_witness_behind)
  f_witness_behind : Fun K "witness_behind" "witness_behind" (top 50) A.a_witness_behind A.d_witness_behind
  m_behind : mg "behind" = some (.ref A.a_behind)
  f_behind : Fun K "behind" "behind" (top 40) A.a_behind A.d_behind
  m_is_exchange_of : mg "is_exchange_of" = some (.ref A.a_is_exchange_of)
  f_is_exchange_of : Fun K "is_exchange_of" "is_exchange_of" (top 45) A.a_is_exchange_of A.d_is_exchange_of
  m_is_exchange : mg "is_exchange" = some (.ref A.a_is_exchange)
  f_is_exchange : Fun K "is_exchange" "is_exchange" (top 41) A.a_is_exchange A.d_is_exchange
  m_check_exchange : mg "check_exchange" = some (.ref A.a_check_exchange)
  f_check_exchange : Fun K "check_exchange" "check_exchange" (top 47) A.a_check_exchange A.d_check_exchange
  m_exchange_turned : mg "exchange_turned" = some (.ref A.a_exchange_turned)
  f_exchange_turned : Fun K "exchange_turned" "exchange_turned" (top 51) A.a_exchange_turned A.d_exchange_turned
  m_turned : mg "turned" = some (.ref A.a_turned)
  f_turned : Fun K "turned" "turned" (top 42) A.a_turned A.d_turned
  m__law_begun : mg "_law_begun" = some (.ref A.a__law_begun)
  f__law_begun : Fun K "_law_begun" "_law_begun" (top 57) A.a__law_begun A.d__law_begun
  m__law_draw : mg "_law_draw" = some (.ref A.a__law_draw)
  f__law_draw : Fun K "_law_draw" "_law_draw" (top 58) A.a__law_draw A.d__law_draw
  m__law_pick : mg "_law_pick" = some (.ref A.a__law_pick)
  f__law_pick : Fun K "_law_pick" "_law_pick" (top 59) A.a__law_pick A.d__law_pick
  m__law_mixed : mg "_law_mixed" = some (.ref A.a__law_mixed)
  f__law_mixed : Fun K "_law_mixed" "_law_mixed" (top 60) A.a__law_mixed A.d__law_mixed
  m__law_fillings : mg "_law_fillings" = some (.ref A.a__law_fillings)
  f__law_fillings : Fun K "_law_fillings" "_law_fillings" (top 61) A.a__law_fillings A.d__law_fillings
  m__law_worth : mg "_law_worth" = some (.ref A.a__law_worth)
  f__law_worth : Fun K "_law_worth" "_law_worth" (top 62) A.a__law_worth A.d__law_worth
  m__law_comes : mg "_law_comes" = some (.ref A.a__law_comes)
  f__law_comes : Fun K "_law_comes" "_law_comes" (top 63) A.a__law_comes A.d__law_comes
  m__law_holds : mg "_law_holds" = some (.ref A.a__law_holds)
  f__law_holds : Fun K "_law_holds" "_law_holds" (top 64) A.a__law_holds A.d__law_holds
  m__law_led : mg "_law_led" = some (.ref A.a__law_led)
  f__law_led : Fun K "_law_led" "_law_led" (top 65) A.a__law_led A.d__law_led
  m__law_terms : mg "_law_terms" = some (.ref A.a__law_terms)
  f__law_terms : Fun K "_law_terms" "_law_terms" (top 66) A.a__law_terms A.d__law_terms
  m__law_row : mg "_law_row" = some (.ref A.a__law_row)
  f__law_row : Fun K "_law_row" "_law_row" (top 67) A.a__law_row A.d__law_row
  m__law_witness : mg "_law_witness" = some (.ref A.a__law_witness)
  f__law_witness : Fun K "_law_witness" "_law_witness" (top 68) A.a__law_witness A.d__law_witness
  m__law_exchange : mg "_law_exchange" = some (.ref A.a__law_exchange)
  f__law_exchange : Fun K "_law_exchange" "_law_exchange" (top 69) A.a__law_exchange A.d__law_exchange
  k_BadExchange : KlsAt K mg "BadExchange" A.c_BadExchange
  k_BadFilling : KlsAt K mg "BadFilling" A.c_BadFilling
  k_BadLiteral : KlsAt K mg "BadLiteral" A.c_BadLiteral
  k_BadMany : KlsAt K mg "BadMany" A.c_BadMany
  k_BadRow : KlsAt K mg "BadRow" A.c_BadRow
  k_BadWitness : KlsAt K mg "BadWitness" A.c_BadWitness
  k_WitnessError : KlsAt K mg "WitnessError" A.c_WitnessError
  x_BadMany : ExcC K A.c_BadMany
  e_BadMany : PySem.W.exmOne K (.ref A.c_BadMany) (.ref A.c_WitnessError) = some true
  x_BadLiteral : ExcC K A.c_BadLiteral
  e_BadLiteral : PySem.W.exmOne K (.ref A.c_BadLiteral) (.ref A.c_WitnessError) = some true
  x_BadRow : ExcC K A.c_BadRow
  e_BadRow : PySem.W.exmOne K (.ref A.c_BadRow) (.ref A.c_WitnessError) = some true
  x_BadFilling : ExcC K A.c_BadFilling
  e_BadFilling : PySem.W.exmOne K (.ref A.c_BadFilling) (.ref A.c_WitnessError) = some true
  x_BadWitness : ExcC K A.c_BadWitness
  e_BadWitness : PySem.W.exmOne K (.ref A.c_BadWitness) (.ref A.c_WitnessError) = some true
  x_BadExchange : ExcC K A.c_BadExchange
  e_BadExchange : PySem.W.exmOne K (.ref A.c_BadExchange) (.ref A.c_WitnessError) = some true
  g_abs : mg "abs" = none
  g_all : mg "all" = none
  g_bool : mg "bool" = none
  g_enumerate : mg "enumerate" = none
  g_int : mg "int" = none
  g_isinstance : mg "isinstance" = none
  g_len : mg "len" = none
  g_list : mg "list" = none
  g_max : mg "max" = none
  g_min : mg "min" = none
  g_range : mg "range" = none
  g_sorted : mg "sorted" = none
  g_str : mg "str" = none
  g_sum : mg "sum" = none
  g_tuple : mg "tuple" = none
section
variable {P : Program} {w : World} {K : PySem.W.Frag} {mg : Str → Option Value} {base : Heap} {A : Adr}
theorem sc_is_number : FnScope ["thing"] ["thing"] (defScope (top 10)) := ⟨rfl, rfl, rfl, by decide +kernel, rfl, by decide +kernel, by decide +kernel⟩
theorem ok_is_number (T : Txt K mg A) : FnOk P w K mg base (L2.CX P w) 1 A.a_is_number A.d_is_number ["thing"] (spP K mg 1 G_is_number) := by
  refine okP [] (g := g_is_number) T.f_is_number sc_is_number rfl (by decide) (fun cdv A outer s H E l T0 hr => ?_) (fun _ _ => rfl)
  have sc := sc_is_number
  exact (ss_one (s_ret (e_and (e_isi .int (by intro h; cases h) rfl (fun te h => pe_callB call_isi (by rfl) T.g_isinstance (by decide +kernel) (pa_cons h (pa_cons (pe_bltn (by rfl) T.g_int (by decide +kernel) rfl) pa_nil))) (bE (e_var 0 (pv 0) rfl))) (e_one (e_not (e_isi .bool (by intro h; cases h) rfl (fun te h => pe_callB call_isi (by rfl) T.g_isinstance (by decide +kernel) (pa_cons h (pa_cons (pe_bltn (by rfl) T.g_bool (by decide +kernel) rfl) pa_nil))) (bE (e_var 0 (pv 0) rfl))))))))
theorem b_is_number (T : Txt K mg A) : Binds K A.d_is_number ["thing"] [] := T.f_is_number.binds (ps := ["thing"]) fun _ _ _ _ _ _ us hl => match us, hl with | [_], _ => rfl
theorem sc_is_number_from : FnScope ["least", "thing"] ["least", "thing"] (defScope (top 11)) := ⟨rfl, rfl, rfl, by decide +kernel, rfl, by decide +kernel, by decide +kernel⟩
theorem ok_is_number_from (T : Txt K mg A) : FnOk P w K mg base (L2.CX P w) 2 A.a_is_number_from A.d_is_number_from ["least", "thing"] (spP K mg 2 G_is_number_from) := by
  refine okP [] (g := g_is_number_from) T.f_is_number_from sc_is_number_from rfl (by decide) (fun cdv A outer s H E l T0 hr => ?_) (fun _ _ => rfl)
  have sc := sc_is_number_from
  exact (ss_one (s_ret (e_and (e_callP [] ⟨rfl, rfl⟩ (fun _ => Dens.nil) rfl (fun t h => pe_call (ok_is_number T) (hr.mono (by decide)) (by rfl) T.m_is_number T.f_is_number.kp (b_is_number T) .nil (passes_call (takes_of rfl rfl rfl rfl) fun _ _ _ _ h => h) h) (a_cons (e_var 1 (pv 1) rfl) a_nil) (by exact (len_cons len_nil))) (e_one (e_bin r_ge (fun t u h1 h2 => pe_cmpR op_ge h1 h2 (nomark _)) (bE (e_var 1 (pv 1) rfl)) (bE (e_var 0 (pv 0) rfl)))))))
theorem b_is_number_from (T : Txt K mg A) : Binds K A.d_is_number_from ["least", "thing"] [] := T.f_is_number_from.binds (ps := ["least", "thing"]) fun _ _ _ _ _ _ us hl => match us, hl with | [_, _], _ => rfl
theorem sc_is_number_between : FnScope ["least", "thing", "most"] ["least", "thing", "most"] (defScope (top 12)) := ⟨rfl, rfl, rfl, by decide +kernel, rfl, by decide +kernel, by decide +kernel⟩
theorem ok_is_number_between (T : Txt K mg A) : FnOk P w K mg base (L2.CX P w) 2 A.a_is_number_between A.d_is_number_between ["least", "thing", "most"] (spP K mg 3 G_is_number_between) := by
  refine okP [] (g := g_is_number_between) T.f_is_number_between sc_is_number_between rfl (by decide) (fun cdv A outer s H E l T0 hr => ?_) (fun _ _ => rfl)
  have sc := sc_is_number_between
  exact (ss_one (s_ret (e_and (e_callP [] ⟨rfl, rfl⟩ (fun _ => Dens.nil) rfl (fun t h => pe_call (ok_is_number T) (hr.mono (by decide)) (by rfl) T.m_is_number T.f_is_number.kp (b_is_number T) .nil (passes_call (takes_of rfl rfl rfl rfl) fun _ _ _ _ h => h) h) (a_cons (e_var 1 (pv 1) rfl) a_nil) (by exact (len_cons len_nil))) (e_one (e_ch r_le r_le (fun t u w h1 h2 h3 => pe_chain op_le op_le h1 h2 h3) (bE (e_var 0 (pv 0) rfl)) (bE (e_var 1 (pv 1) rfl)) (bE (e_var 2 (pv 2) rfl)))))))
theorem b_is_number_between (T : Txt K mg A) : Binds K A.d_is_number_between ["least", "thing", "most"] [] := T.f_is_number_between.binds (ps := ["least", "thing", "most"]) fun _ _ _ _ _ _ us hl => match us, hl with | [_, _, _], _ => rfl
theorem sc_is_pair : FnScope ["thing"] ["thing"] (defScope (top 13)) := ⟨rfl, rfl, rfl, by decide +kernel, rfl, by decide +kernel, by decide +kernel⟩
theorem ok_is_pair (T : Txt K mg A) : FnOk P w K mg base (L2.CX P w) 1 A.a_is_pair A.d_is_pair ["thing"] (spP K mg 1 G_is_pair) := by
  refine okP [] (g := g_is_pair) T.f_is_pair sc_is_pair rfl (by decide) (fun cdv A outer s H E l T0 hr => ?_) (fun _ _ => rfl)
  have sc := sc_is_pair
  exact (ss_one (s_ret (e_and (e_isi .tuple (by intro h; cases h) rfl (fun te h => pe_callB call_isi (by rfl) T.g_isinstance (by decide +kernel) (pa_cons h (pa_cons (pe_bltn (by rfl) T.g_tuple (by decide +kernel) rfl) pa_nil))) (bE (e_var 0 (pv 0) rfl))) (e_one (e_bin r_eq (fun t u h1 h2 => pe_cmpR (op_eqX hr.units) h1 h2 (nomark _)) (bE (e_cb r_lenA (fun t h => pe_callB cr_lenA (by rfl) T.g_len (by decide +kernel) h) (ab_cons (bE (e_var 0 (pv 0) rfl)) ab_nil))) (bE e_int))))))
theorem b_is_pair (T : Txt K mg A) : Binds K A.d_is_pair ["thing"] [] := T.f_is_pair.binds (ps := ["thing"]) fun _ _ _ _ _ _ us hl => match us, hl with | [_], _ => rfl
theorem sc_is_literal_of : FnScope ["many", "thing"] ["many", "thing"] (defScope (top 14)) := ⟨rfl, rfl, rfl, by decide +kernel, rfl, by decide +kernel, by decide +kernel⟩
theorem ok_is_literal_of (T : Txt K mg A) : FnOk P w K mg base (L2.CX P w) 3 A.a_is_literal_of A.d_is_literal_of ["many", "thing"] (spP K mg 2 G_is_literal_of) := by
  refine okP [] (g := g_is_literal_of) T.f_is_literal_of sc_is_literal_of rfl (by decide) (fun cdv A outer s H E l T0 hr => ?_) (fun _ _ => rfl)
  have sc := sc_is_literal_of
  exact (ss_one (s_ret (e_and (e_callP [] ⟨rfl, rfl⟩ (fun _ => Dens.nil) rfl (fun t h => pe_call (ok_is_number_between T) (hr.mono (by decide)) (by rfl) T.m_is_number_between T.f_is_number_between.kp (b_is_number_between T) .nil (passes_call (takes_of rfl rfl rfl rfl) fun _ _ _ _ h => h) h) (a_cons (e_un r_neg (fun t h => pe_un un_neg h) (bE (e_var 0 (pv 0) rfl))) (a_cons (e_var 1 (pv 1) rfl) (a_cons (e_var 0 (pv 0) rfl) a_nil))) (by exact (len_cons (len_cons (len_cons len_nil))))) (e_one (e_bin r_ne (fun t u h1 h2 => pe_cmpR (op_neX hr.units) h1 h2 (nomark _)) (bE (e_var 1 (pv 1) rfl)) (bE e_int))))))
theorem b_is_literal_of (T : Txt K mg A) : Binds K A.d_is_literal_of ["many", "thing"] [] := T.f_is_literal_of.binds (ps := ["many", "thing"]) fun _ _ _ _ _ _ us hl => match us, hl with | [_, _], _ => rfl
theorem sc_are_terms_of : FnScope ["many", "thing", "size", "pair", "weight", "literal"] ["many", "thing"] (defScope (top 15)) := ⟨rfl, rfl, rfl, by decide +kernel, rfl, by decide +kernel, by decide +kernel⟩
theorem ok_are_terms_of (T : Txt K mg A) : FnOk P w K mg base (L2.CX P w) 4 A.a_are_terms_of A.d_are_terms_of ["many", "thing"] (spP K mg 2 G_are_terms_of) := by
  refine okP [] (g := g_are_terms_of) T.f_are_terms_of sc_are_terms_of rfl (by decide) (fun cdv A outer s H E l T0 hr => ?_) (fun _ _ => rfl)
  have sc := sc_are_terms_of
  exact (ss_cons (s_if (t_not (t_val (e_isi .tuple (by intro h; cases h) rfl (fun te h => pe_callB call_isi (by rfl) T.g_isinstance (by decide +kernel) (pa_cons h (pa_cons (pe_bltn (by rfl) T.g_tuple (by decide +kernel) rfl) pa_nil))) (bE (e_var 1 (pv 1) rfl))))) (ss_one (s_ret e_bl)) ss_nil) (ss_cons (s_asg 2 rfl (fun te h => ps_set (i := 2) sc.nd rfl (by first | exact Or.inl rfl | exact Or.inr rfl) h) e_int) (ss_cons (s_for rfl rfl (passes_of rfl) (e_var 1 (pv 1) rfl) (pg_name (i := 3) sc.nd rfl (by first | exact Or.inl rfl | exact Or.inr rfl)) (tg_name 3 rfl) (ss_cons (s_if (t_not (t_val (e_callP [] ⟨rfl, rfl⟩ (fun _ => Dens.nil) rfl (fun t h => pe_call (ok_is_pair T) (hr.mono (by decide)) (by rfl) T.m_is_pair T.f_is_pair.kp (b_is_pair T) .nil (passes_call (takes_of rfl rfl rfl rfl) fun _ _ _ _ h => h) h) (a_cons (e_var 3 (pv 3) rfl) a_nil) (by exact (len_cons len_nil))))) (ss_one (s_ret e_bl)) ss_nil) (ss_cons (s_unp [4, 5] rfl rfl (fun te h => ps_asg h (pg_tup rfl (pgs_cons (pg_name (i := 4) sc.nd rfl (by first | exact Or.inl rfl | exact Or.inr rfl)) (pgs_cons (pg_name (i := 5) sc.nd rfl (by first | exact Or.inl rfl | exact Or.inr rfl)) pgs_nil)))) (e_var 3 (pv 3) rfl)) (ss_cons (s_if (PW.pt (w_or (t_not (t_val (e_callP [] ⟨rfl, rfl⟩ (fun _ => Dens.nil) rfl (fun t h => pe_call (ok_is_number_from T) (hr.mono (by decide)) (by rfl) T.m_is_number_from T.f_is_number_from.kp (b_is_number_from T) .nil (passes_call (takes_of rfl rfl rfl rfl) fun _ _ _ _ h => h) h) (a_cons e_int (a_cons (e_var 4 (pv 4) rfl) a_nil)) (by exact (len_cons (len_cons len_nil)))))) (w_or (t_not (t_val (e_callP [] ⟨rfl, rfl⟩ (fun _ => Dens.nil) rfl (fun t h => pe_call (ok_is_literal_of T) (hr.mono (by decide)) (by rfl) T.m_is_literal_of T.f_is_literal_of.kp (b_is_literal_of T) .nil (passes_call (takes_of rfl rfl rfl rfl) fun _ _ _ _ h => h) h) (a_cons (e_var 0 (pv 0) rfl) (a_cons (e_var 5 (pv 5) rfl) a_nil)) (by exact (len_cons (len_cons len_nil)))))) (w_or1 (t_cmp r_le op_le (bE (e_cb r_abs (fun t h => pe_callB call_abs (by rfl) T.g_abs (by decide +kernel) h) (ab_cons (bE (e_var 5 (pv 5) rfl)) ab_nil))) (bE (e_var 2 (pv 2) rfl)) (nomark _)))))) (ss_one (s_ret e_bl)) ss_nil) (ss_one (s_asg 2 rfl (fun te h => ps_set (i := 2) sc.nd rfl (by first | exact Or.inl rfl | exact Or.inr rfl) h) (e_cb r_abs (fun t h => pe_callB call_abs (by rfl) T.g_abs (by decide +kernel) h) (ab_cons (bE (e_var 5 (pv 5) rfl)) ab_nil)))))))) (ss_one (s_ret e_bl)))))
theorem b_are_terms_of (T : Txt K mg A) : Binds K A.d_are_terms_of ["many", "thing"] [] := T.f_are_terms_of.binds (ps := ["many", "thing"]) fun _ _ _ _ _ _ us hl => match us, hl with | [_, _], _ => rfl
theorem sc_is_row_of : FnScope ["many", "thing"] ["many", "thing"] (defScope (top 16)) := ⟨rfl, rfl, rfl, by decide +kernel, rfl, by decide +kernel, by decide +kernel⟩
theorem ok_is_row_of (T : Txt K mg A) : FnOk P w K mg base (L2.CX P w) 5 A.a_is_row_of A.d_is_row_of ["many", "thing"] (spP K mg 2 G_is_row_of) := by
  refine okP [] (g := g_is_row_of) T.f_is_row_of sc_is_row_of rfl (by decide) (fun cdv A outer s H E l T0 hr => ?_) (fun _ _ => rfl)
  have sc := sc_is_row_of
  exact (ss_one (s_ret (e_and (e_callP [] ⟨rfl, rfl⟩ (fun _ => Dens.nil) rfl (fun t h => pe_call (ok_is_pair T) (hr.mono (by decide)) (by rfl) T.m_is_pair T.f_is_pair.kp (b_is_pair T) .nil (passes_call (takes_of rfl rfl rfl rfl) fun _ _ _ _ h => h) h) (a_cons (e_var 1 (pv 1) rfl) a_nil) (by exact (len_cons len_nil))) (e_and (e_callP [] ⟨rfl, rfl⟩ (fun _ => Dens.nil) rfl (fun t h => pe_call (ok_are_terms_of T) (hr.mono (by decide)) (by rfl) T.m_are_terms_of T.f_are_terms_of.kp (b_are_terms_of T) .nil (passes_call (takes_of rfl rfl rfl rfl) fun _ _ _ _ h => h) h) (a_cons (e_var 0 (pv 0) rfl) (a_cons (e_bin r_ixA (fun t u h1 h2 => pe_ix (ix_all (hu_of hr)) h1 h2 (fun _ _ => rfl)) (bE (e_var 1 (pv 1) rfl)) (bE e_int)) a_nil)) (by exact (len_cons (len_cons len_nil)))) (e_one (e_callP [] ⟨rfl, rfl⟩ (fun _ => Dens.nil) rfl (fun t h => pe_call (ok_is_number_from T) (hr.mono (by decide)) (by rfl) T.m_is_number_from T.f_is_number_from.kp (b_is_number_from T) .nil (passes_call (takes_of rfl rfl rfl rfl) fun _ _ _ _ h => h) h) (a_cons e_int (a_cons (e_bin r_ixA (fun t u h1 h2 => pe_ix (ix_all (hu_of hr)) h1 h2 (fun _ _ => rfl)) (bE (e_var 1 (pv 1) rfl)) (bE e_int)) a_nil)) (by exact (len_cons (len_cons len_nil)))))))))
theorem b_is_row_of (T : Txt K mg A) : Binds K A.d_is_row_of ["many", "thing"] [] := T.f_is_row_of.binds (ps := ["many", "thing"]) fun _ _ _ _ _ _ us hl => match us, hl with | [_, _], _ => rfl
theorem sc_is_filling_of : FnScope ["many", "thing", "item"] ["many", "thing"] (defScope (top 17)) := ⟨rfl, rfl, rfl, by decide +kernel, rfl, by decide +kernel, by decide +kernel⟩
theorem ok_is_filling_of (T : Txt K mg A) : FnOk P w K mg base (L2.CX P w) 3 A.a_is_filling_of A.d_is_filling_of ["many", "thing"] (spP K mg 2 G_is_filling_of) := by
  refine okP [] (g := g_is_filling_of) T.f_is_filling_of sc_is_filling_of rfl (by decide) (fun cdv A outer s H E l T0 hr => ?_) (fun _ _ => rfl)
  have sc := sc_is_filling_of
  exact (ss_cons (s_if (PW.pt (w_or (t_not (t_val (e_isi .tuple (by intro h; cases h) rfl (fun te h => pe_callB call_isi (by rfl) T.g_isinstance (by decide +kernel) (pa_cons h (pa_cons (pe_bltn (by rfl) T.g_tuple (by decide +kernel) rfl) pa_nil))) (bE (e_var 1 (pv 1) rfl))))) (w_or1 (t_cmp r_ne (op_neX hr.units) (bE (e_cb r_lenA (fun t h => pe_callB cr_lenA (by rfl) T.g_len (by decide +kernel) h) (ab_cons (bE (e_var 1 (pv 1) rfl)) ab_nil))) (bE (e_var 0 (pv 0) rfl)) (nomark _))))) (ss_one (s_ret e_bl)) ss_nil) (ss_one (s_ret (e_cb r_all (fun t h => pe_callB (cr_all rfl) (by rfl) T.g_all (by decide +kernel) h) (ab_cons (bE (nE (n_lc rfl (tg_name 2 rfl) rfl rfl (fun wi hi => pe_lc (own := [("item", 2)]) rfl sc.nd hi (blkOk_by (N := ["many", "thing", "item"]) (sc := defScope (top 17)) (by decide +kernel)) (fun _ _ _ _ _ => (pg_name (i := 2) sc.nd rfl (by first | exact Or.inl rfl | exact Or.inr rfl))) (fun _ _ _ _ _ => tYes_ok) (fun _ _ _ _ _ => (e_callP [] ⟨rfl, rfl⟩ (fun _ => Dens.nil) rfl (fun t h => pe_call (ok_is_number_between T) (hr.mono (by decide)) (by rfl) T.m_is_number_between T.f_is_number_between.kp (b_is_number_between T) .nil passL h) (a_cons e_int (a_cons (e_var 2 (pv 2) rfl) (a_cons e_int a_nil))) (by exact (len_cons (len_cons (len_cons len_nil))))))) (bE (e_var 1 (pv 1) rfl))))) ab_nil)))))
theorem b_is_filling_of (T : Txt K mg A) : Binds K A.d_is_filling_of ["many", "thing"] [] := T.f_is_filling_of.binds (ps := ["many", "thing"]) fun _ _ _ _ _ _ us hl => match us, hl with | [_, _], _ => rfl
theorem sc_are_unlike : FnScope ["literals", "literal"] ["literals"] (defScope (top 18)) := ⟨rfl, rfl, rfl, by decide +kernel, rfl, by decide +kernel, by decide +kernel⟩
theorem ok_are_unlike (T : Txt K mg A) : FnOk P w K mg base (L2.CX P w) 1 A.a_are_unlike A.d_are_unlike ["literals"] (spP K mg 1 G_are_unlike) := by
  refine okP [] (g := g_are_unlike) T.f_are_unlike sc_are_unlike rfl (by decide) (fun cdv A outer s H E l T0 hr => ?_) (fun _ _ => rfl)
  have sc := sc_are_unlike
  exact (ss_one (s_ret (e_bin r_eq (fun t u h1 h2 => pe_cmpR (op_eqX hr.units) h1 h2 (nomark _)) (bE (e_scLen rfl (tg_name 1 rfl) rfl rfl (fun wi hi => pe_callB cr_lenSet (by rfl) T.g_len (by decide +kernel) (pa_cons (pe_scI (own := [("literal", 1)]) rfl sc.nd hi (blkOk_by (N := ["literals", "literal"]) (sc := defScope (top 18)) (by decide +kernel)) (fun _ _ _ _ _ => (pg_name (i := 1) sc.nd rfl (by first | exact Or.inl rfl | exact Or.inr rfl))) (fun _ _ _ _ _ => tYes_ok) (fun _ _ _ _ _ => (e_cb r_abs (fun t h => pe_callB call_abs (by rfl) T.g_abs (by decide +kernel) h) (ab_cons (bE (e_var 1 (pv 1) rfl)) ab_nil)))) pa_nil)) (bE (e_var 0 (pv 0) rfl)))) (bE (e_cb r_lenA (fun t h => pe_callB cr_lenA (by rfl) T.g_len (by decide +kernel) h) (ab_cons (bE (e_var 0 (pv 0) rfl)) ab_nil))))))
theorem b_are_unlike (T : Txt K mg A) : Binds K A.d_are_unlike ["literals"] [] := T.f_are_unlike.binds (ps := ["literals"]) fun _ _ _ _ _ _ us hl => match us, hl with | [_], _ => rfl
theorem sc_check_many : FnScope ["many", "most"] ["many", "most"] (defScope (top 19)) := ⟨rfl, rfl, rfl, by decide +kernel, rfl, by decide +kernel, by decide +kernel⟩
theorem ok_check_many (T : Txt K mg A) : FnOk P w K mg base (L2.CX P w) 3 A.a_check_many A.d_check_many ["many", "most"] (spP K mg 2 G_check_many) := by
  refine okPD [] (g := g_check_many) T.f_check_many sc_check_many rfl (by decide) (fun cdv A outer s H E l T0 hr => ?_) (fun _ _ => rfl)
  have sc := sc_check_many
  exact (ss_one (s_if (t_not (t_val (e_callP [] ⟨rfl, rfl⟩ (fun _ => Dens.nil) rfl (fun t h => pe_call (ok_is_number_between T) (hr.mono (by decide)) (by rfl) T.m_is_number_between T.f_is_number_between.kp (b_is_number_between T) .nil (passes_call (takes_of rfl rfl rfl rfl) fun _ _ _ _ h => h) h) (a_cons e_int (a_cons (e_var 0 (pv 0) rfl) (a_cons (e_var 1 (pv 1) rfl) a_nil))) (by exact (len_cons (len_cons (len_cons len_nil))))))) (ss_one (s_raise T.k_BadMany.g (ps_raise rfl (takes_of rfl rfl rfl rfl) (pmk_own PySem.F.excBase_ValueError T.k_BadMany.x T.k_BadMany.g T.k_BadMany.k (raises_own T.k_BadMany.b T.k_BadMany.t) (by exact rfl))))) ss_nil))
theorem b_check_many (T : Txt K mg A) : ∃ ds, Vals [.int 600] ds ∧ Binds K A.d_check_many ["many", "most"] ds := T.f_check_many.binds1 1 0 (by simp) rfl fun T' kV doc pm an cdv ct us its h1 h2 => match us, its, h1, h2 with | [_], [_], _, _ => ⟨_, rfl, rfl⟩
theorem sc_check_literal : FnScope ["many", "literal"] ["many", "literal"] (defScope (top 20)) := ⟨rfl, rfl, rfl, by decide +kernel, rfl, by decide +kernel, by decide +kernel⟩
theorem ok_check_literal (T : Txt K mg A) : FnOk P w K mg base (L2.CX P w) 4 A.a_check_literal A.d_check_literal ["many", "literal"] (spP K mg 2 G_check_literal) := by
  refine okP [] (g := g_check_literal) T.f_check_literal sc_check_literal rfl (by decide) (fun cdv A outer s H E l T0 hr => ?_) (fun _ _ => rfl)
  have sc := sc_check_literal
  exact (ss_one (s_if (t_not (t_val (e_callP [] ⟨rfl, rfl⟩ (fun _ => Dens.nil) rfl (fun t h => pe_call (ok_is_literal_of T) (hr.mono (by decide)) (by rfl) T.m_is_literal_of T.f_is_literal_of.kp (b_is_literal_of T) .nil (passes_call (takes_of rfl rfl rfl rfl) fun _ _ _ _ h => h) h) (a_cons (e_var 0 (pv 0) rfl) (a_cons (e_var 1 (pv 1) rfl) a_nil)) (by exact (len_cons (len_cons len_nil)))))) (ss_one (s_raise T.k_BadLiteral.g (ps_raise rfl (takes_of rfl rfl rfl rfl) (pmk_own PySem.F.excBase_ValueError T.k_BadLiteral.x T.k_BadLiteral.g T.k_BadLiteral.k (raises_own T.k_BadLiteral.b T.k_BadLiteral.t) (by exact rfl))))) ss_nil))
theorem b_check_literal (T : Txt K mg A) : Binds K A.d_check_literal ["many", "literal"] [] := T.f_check_literal.binds (ps := ["many", "literal"]) fun _ _ _ _ _ _ us hl => match us, hl with | [_, _], _ => rfl
theorem sc_check_row : FnScope ["many", "row"] ["many", "row"] (defScope (top 21)) := ⟨rfl, rfl, rfl, by decide +kernel, rfl, by decide +kernel, by decide +kernel⟩
theorem ok_check_row (T : Txt K mg A) : FnOk P w K mg base (L2.CX P w) 6 A.a_check_row A.d_check_row ["many", "row"] (spP K mg 2 G_check_row) := by
  refine okP [] (g := g_check_row) T.f_check_row sc_check_row rfl (by decide) (fun cdv A outer s H E l T0 hr => ?_) (fun _ _ => rfl)
  have sc := sc_check_row
  exact (ss_one (s_if (t_not (t_val (e_callP [] ⟨rfl, rfl⟩ (fun _ => Dens.nil) rfl (fun t h => pe_call (ok_is_row_of T) (hr.mono (by decide)) (by rfl) T.m_is_row_of T.f_is_row_of.kp (b_is_row_of T) .nil (passes_call (takes_of rfl rfl rfl rfl) fun _ _ _ _ h => h) h) (a_cons (e_var 0 (pv 0) rfl) (a_cons (e_var 1 (pv 1) rfl) a_nil)) (by exact (len_cons (len_cons len_nil)))))) (ss_one (s_raise T.k_BadRow.g (ps_raise rfl (takes_of rfl rfl rfl rfl) (pmk_own PySem.F.excBase_ValueError T.k_BadRow.x T.k_BadRow.g T.k_BadRow.k (raises_own T.k_BadRow.b T.k_BadRow.t) (by exact rfl))))) ss_nil))
theorem b_check_row (T : Txt K mg A) : Binds K A.d_check_row ["many", "row"] [] := T.f_check_row.binds (ps := ["many", "row"]) fun _ _ _ _ _ _ us hl => match us, hl with | [_, _], _ => rfl
theorem sc_check_filling : FnScope ["many", "filling"] ["many", "filling"] (defScope (top 22)) := ⟨rfl, rfl, rfl, by decide +kernel, rfl, by decide +kernel, by decide +kernel⟩
theorem ok_check_filling (T : Txt K mg A) : FnOk P w K mg base (L2.CX P w) 4 A.a_check_filling A.d_check_filling ["many", "filling"] (spP K mg 2 G_check_filling) := by
  refine okP [] (g := g_check_filling) T.f_check_filling sc_check_filling rfl (by decide) (fun cdv A outer s H E l T0 hr => ?_) (fun _ _ => rfl)
  have sc := sc_check_filling
  exact (ss_one (s_if (t_not (t_val (e_callP [] ⟨rfl, rfl⟩ (fun _ => Dens.nil) rfl (fun t h => pe_call (ok_is_filling_of T) (hr.mono (by decide)) (by rfl) T.m_is_filling_of T.f_is_filling_of.kp (b_is_filling_of T) .nil (passes_call (takes_of rfl rfl rfl rfl) fun _ _ _ _ h => h) h) (a_cons (e_var 0 (pv 0) rfl) (a_cons (e_var 1 (pv 1) rfl) a_nil)) (by exact (len_cons (len_cons len_nil)))))) (ss_one (s_raise T.k_BadFilling.g (ps_raise rfl (takes_of rfl rfl rfl rfl) (pmk_own PySem.F.excBase_ValueError T.k_BadFilling.x T.k_BadFilling.g T.k_BadFilling.k (raises_own T.k_BadFilling.b T.k_BadFilling.t) (by exact rfl))))) ss_nil))
theorem b_check_filling (T : Txt K mg A) : Binds K A.d_check_filling ["many", "filling"] [] := T.f_check_filling.binds (ps := ["many", "filling"]) fun _ _ _ _ _ _ us hl => match us, hl with | [_, _], _ => rfl
theorem sc_opposite_terms : FnScope ["terms", "weight", "literal"] ["terms"] (defScope (top 32)) := ⟨rfl, rfl, rfl, by decide +kernel, rfl, by decide +kernel, by decide +kernel⟩
theorem ok_opposite_terms (T : Txt K mg A) : FnOk P w K mg base (L2.CX P w) 1 A.a_opposite_terms A.d_opposite_terms ["terms"] (spP K mg 1 G_opposite_terms) := by
  refine okP [] (g := g_opposite_terms) T.f_opposite_terms sc_opposite_terms rfl (by decide) (fun cdv A outer s H E l T0 hr => ?_) (fun _ _ => rfl)
  have sc := sc_opposite_terms
  exact (ss_one (s_ret (e_cb r_tuple (fun t h => pe_callTy call_tuple_of (by rfl) T.g_tuple (by decide +kernel) h) (ab_cons (bE (nE (n_lc rfl (tg_tup [1, 2] rfl rfl) rfl rfl (fun wi hi => pe_lc (own := [("weight", 1), ("literal", 2)]) rfl sc.nd hi (blkOk_by (N := ["terms", "weight", "literal"]) (sc := defScope (top 32)) (by decide +kernel)) (fun _ _ _ _ _ => (pg_tup rfl (pgs_cons (pg_name (i := 1) sc.nd rfl (by first | exact Or.inl rfl | exact Or.inr rfl)) (pgs_cons (pg_name (i := 2) sc.nd rfl (by first | exact Or.inl rfl | exact Or.inr rfl)) pgs_nil)))) (fun _ _ _ _ _ => tYes_ok) (fun _ _ _ _ _ => (e_tup (a_cons (e_var 1 (pv 1) rfl) (a_cons (e_un r_neg (fun t h => pe_un un_neg h) (bE (e_var 2 (pv 2) rfl))) a_nil))))) (bE (e_var 0 (pv 0) rfl))))) ab_nil))))
theorem b_opposite_terms (T : Txt K mg A) : Binds K A.d_opposite_terms ["terms"] [] := T.f_opposite_terms.binds (ps := ["terms"]) fun _ _ _ _ _ _ us hl => match us, hl with | [_], _ => rfl
theorem sc_weight_sum : FnScope ["terms", "weight", "_"] ["terms"] (defScope (top 28)) := ⟨rfl, rfl, rfl, by decide +kernel, rfl, by decide +kernel, by decide +kernel⟩
theorem ok_weight_sum (T : Txt K mg A) : FnOk P w K mg base (L2.CX P w) 1 A.a_weight_sum A.d_weight_sum ["terms"] (spP K mg 1 G_weight_sum) := by
  refine okP [] (g := g_weight_sum) T.f_weight_sum sc_weight_sum rfl (by decide) (fun cdv A outer s H E l T0 hr => ?_) (fun _ _ => rfl)
  have sc := sc_weight_sum
  exact (ss_one (s_ret (e_cb r_sum (fun t h => pe_callB (cr_sum rfl) (by rfl) T.g_sum (by decide +kernel) h) (ab_cons (bE (nE (n_lc rfl (tg_tup [1, 2] rfl rfl) rfl rfl (fun wi hi => pe_lc (own := [("weight", 1), ("_", 2)]) rfl sc.nd hi (blkOk_by (N := ["terms", "weight", "_"]) (sc := defScope (top 28)) (by decide +kernel)) (fun _ _ _ _ _ => (pg_tup rfl (pgs_cons (pg_name (i := 1) sc.nd rfl (by first | exact Or.inl rfl | exact Or.inr rfl)) (pgs_cons (pg_name (i := 2) sc.nd rfl (by first | exact Or.inl rfl | exact Or.inr rfl)) pgs_nil)))) (fun _ _ _ _ _ => tYes_ok) (fun _ _ _ _ _ => (e_var 1 (pv 1) rfl))) (bE (e_var 0 (pv 0) rfl))))) ab_nil))))
theorem b_weight_sum (T : Txt K mg A) : Binds K A.d_weight_sum ["terms"] [] := T.f_weight_sum.binds (ps := ["terms"]) fun _ _ _ _ _ _ us hl => match us, hl with | [_], _ => rfl
theorem sc_opposite_row : FnScope ["row", "terms", "bound"] ["row"] (defScope (top 33)) := ⟨rfl, rfl, rfl, by decide +kernel, rfl, by decide +kernel, by decide +kernel⟩
theorem ok_opposite_row (T : Txt K mg A) : FnOk P w K mg base (L2.CX P w) 2 A.a_opposite_row A.d_opposite_row ["row"] (spP K mg 1 G_opposite_row) := by
  refine okP [] (g := g_opposite_row) T.f_opposite_row sc_opposite_row rfl (by decide) (fun cdv A outer s H E l T0 hr => ?_) (fun _ _ => rfl)
  have sc := sc_opposite_row
  exact (ss_cons (s_unp [1, 2] rfl rfl (fun te h => ps_asg h (pg_tup rfl (pgs_cons (pg_name (i := 1) sc.nd rfl (by first | exact Or.inl rfl | exact Or.inr rfl)) (pgs_cons (pg_name (i := 2) sc.nd rfl (by first | exact Or.inl rfl | exact Or.inr rfl)) pgs_nil)))) (e_var 0 (pv 0) rfl)) (ss_one (s_ret (e_tup (a_cons (e_callP [] ⟨rfl, rfl⟩ (fun _ => Dens.nil) rfl (fun t h => pe_call (ok_opposite_terms T) (hr.mono (by decide)) (by rfl) T.m_opposite_terms T.f_opposite_terms.kp (b_opposite_terms T) .nil (passes_call (takes_of rfl rfl rfl rfl) fun _ _ _ _ h => h) h) (a_cons (e_var 1 (pv 1) rfl) a_nil) (by exact (len_cons len_nil))) (a_cons (e_cb r_2I (fun t h => pe_callB (call_max2 rfl) (by rfl) T.g_max (by decide +kernel) h) (ab_cons (bE e_int) (ab_cons (bE (e_bin r_add (fun t u h1 h2 => pe_op op_addA h1 h2) (bE (e_bin r_sub (fun t u h1 h2 => pe_op op_sub h1 h2) (bE (e_callP [] ⟨rfl, rfl⟩ (fun _ => Dens.nil) rfl (fun t h => pe_call (ok_weight_sum T) (hr.mono (by decide)) (by rfl) T.m_weight_sum T.f_weight_sum.kp (b_weight_sum T) .nil (passes_call (takes_of rfl rfl rfl rfl) fun _ _ _ _ h => h) h) (a_cons (e_var 1 (pv 1) rfl) a_nil) (by exact (len_cons len_nil)))) (bE (e_var 2 (pv 2) rfl)))) (bE e_int))) ab_nil))) a_nil))))))
theorem b_opposite_row (T : Txt K mg A) : Binds K A.d_opposite_row ["row"] [] := T.f_opposite_row.binds (ps := ["row"]) fun _ _ _ _ _ _ us hl => match us, hl with | [_], _ => rfl
theorem sc_opposite : FnScope ["many", "row"] ["many", "row"] (defScope (top 24)) := ⟨rfl, rfl, rfl, by decide +kernel, rfl, by decide +kernel, by decide +kernel⟩
theorem ok_opposite (T : Txt K mg A) : FnOk P w K mg base (L2.CX P w) 7 A.a_opposite A.d_opposite ["many", "row"] (spP K mg 2 G_opposite) := by
  refine okP [] (g := g_opposite) T.f_opposite sc_opposite rfl (by decide) (fun cdv A outer s H E l T0 hr => ?_) (fun _ _ => rfl)
  have sc := sc_opposite
  exact (ss_cons (s_drop (e_callP [.int 600] ⟨rfl, rfl⟩ (fun _ => Dens.of_ints [600]) rfl (fun t h => pe_call (ok_check_many T) (hr.mono (by decide)) (by rfl) T.m_check_many T.f_check_many.kp (b_check_many T).choose_spec.2 (b_check_many T).choose_spec.1 (passes_call (takes_of rfl rfl rfl rfl) fun _ _ _ _ h => h) h) (a_cons (e_var 0 (pv 0) rfl) a_nil) (by exact (len_cons len_nil)))) (ss_cons (s_drop (e_callP [] ⟨rfl, rfl⟩ (fun _ => Dens.nil) rfl (fun t h => pe_call (ok_check_row T) (hr.mono (by decide)) (by rfl) T.m_check_row T.f_check_row.kp (b_check_row T) .nil (passes_call (takes_of rfl rfl rfl rfl) fun _ _ _ _ h => h) h) (a_cons (e_var 0 (pv 0) rfl) (a_cons (e_var 1 (pv 1) rfl) a_nil)) (by exact (len_cons (len_cons len_nil))))) (ss_one (s_ret (e_callP [] ⟨rfl, rfl⟩ (fun _ => Dens.nil) rfl (fun t h => pe_call (ok_opposite_row T) (hr.mono (by decide)) (by rfl) T.m_opposite_row T.f_opposite_row.kp (b_opposite_row T) .nil (passes_call (takes_of rfl rfl rfl rfl) fun _ _ _ _ h => h) h) (a_cons (e_var 1 (pv 1) rfl) a_nil) (by exact (len_cons len_nil)))))))
theorem b_opposite (T : Txt K mg A) : Binds K A.d_opposite ["many", "row"] [] := T.f_opposite.binds (ps := ["many", "row"]) fun _ _ _ _ _ _ us hl => match us, hl with | [_, _], _ => rfl
theorem sc_worth_of : FnScope ["literal", "filling", "worth"] ["literal", "filling"] (defScope (top 29)) := ⟨rfl, rfl, rfl, by decide +kernel, rfl, by decide +kernel, by decide +kernel⟩
theorem ok_worth_of (T : Txt K mg A) : FnOk P w K mg base (L2.CX P w) 1 A.a_worth_of A.d_worth_of ["literal", "filling"] (spP K mg 2 G_worth_of) := by
  refine okP [] (g := g_worth_of) T.f_worth_of sc_worth_of rfl (by decide) (fun cdv A outer s H E l T0 hr => ?_) (fun _ _ => rfl)
  have sc := sc_worth_of
  exact (ss_cons (s_asg 2 rfl (fun te h => ps_set (i := 2) sc.nd rfl (by first | exact Or.inl rfl | exact Or.inr rfl) h) (e_bin r_ixA (fun t u h1 h2 => pe_ix (ix_all (hu_of hr)) h1 h2 (fun _ _ => rfl)) (bE (e_var 1 (pv 1) rfl)) (bE (e_bin r_sub (fun t u h1 h2 => pe_op op_sub h1 h2) (bE (e_cb r_abs (fun t h => pe_callB call_abs (by rfl) T.g_abs (by decide +kernel) h) (ab_cons (bE (e_var 0 (pv 0) rfl)) ab_nil))) (bE e_int))))) (ss_cons (s_if (t_cmp r_gt op_gt (bE (e_var 0 (pv 0) rfl)) (bE e_int) (nomark _)) (ss_one (s_ret (e_var 2 (pv 2) rfl))) ss_nil) (ss_one (s_ret (e_bin r_sub (fun t u h1 h2 => pe_op op_sub h1 h2) (bE e_int) (bE (e_var 2 (pv 2) rfl)))))))
theorem b_worth_of (T : Txt K mg A) : Binds K A.d_worth_of ["literal", "filling"] [] := T.f_worth_of.binds (ps := ["literal", "filling"]) fun _ _ _ _ _ _ us hl => match us, hl with | [_, _], _ => rfl
theorem sc_sum_at : FnScope ["terms", "filling", "weight", "literal"] ["terms", "filling"] (defScope (top 30)) := ⟨rfl, rfl, rfl, by decide +kernel, rfl, by decide +kernel, by decide +kernel⟩
theorem ok_sum_at (T : Txt K mg A) : FnOk P w K mg base (L2.CX P w) 2 A.a_sum_at A.d_sum_at ["terms", "filling"] (spP K mg 2 G_sum_at) := by
  refine okP [] (g := g_sum_at) T.f_sum_at sc_sum_at rfl (by decide) (fun cdv A outer s H E l T0 hr => ?_) (fun _ _ => rfl)
  have sc := sc_sum_at
  exact (ss_one (s_ret (e_cb r_sum (fun t h => pe_callB (cr_sum rfl) (by rfl) T.g_sum (by decide +kernel) h) (ab_cons (bE (nE (n_lc rfl (tg_tup [2, 3] rfl rfl) rfl rfl (fun wi hi => pe_lc (own := [("weight", 2), ("literal", 3)]) rfl sc.nd hi (blkOk_by (N := ["terms", "filling", "weight", "literal"]) (sc := defScope (top 30)) (by decide +kernel)) (fun _ _ _ _ _ => (pg_tup rfl (pgs_cons (pg_name (i := 2) sc.nd rfl (by first | exact Or.inl rfl | exact Or.inr rfl)) (pgs_cons (pg_name (i := 3) sc.nd rfl (by first | exact Or.inl rfl | exact Or.inr rfl)) pgs_nil)))) (fun _ _ _ _ _ => (tOne_ok (t_cmp r_eq (op_eqX hr.units) (bE (e_callP [] ⟨rfl, rfl⟩ (fun _ => Dens.nil) rfl (fun t h => pe_call (ok_worth_of T) (hr.mono (by decide)) (by rfl) T.m_worth_of T.f_worth_of.kp (b_worth_of T) .nil passL h) (a_cons (e_var 3 (pv 3) rfl) (a_cons (e_var 1 (pv 1) rfl) a_nil)) (by exact (len_cons (len_cons len_nil))))) (bE e_int) (nomark _)))) (fun _ _ _ _ _ => (e_var 2 (pv 2) rfl))) (bE (e_var 0 (pv 0) rfl))))) ab_nil))))
theorem b_sum_at (T : Txt K mg A) : Binds K A.d_sum_at ["terms", "filling"] [] := T.f_sum_at.binds (ps := ["terms", "filling"]) fun _ _ _ _ _ _ us hl => match us, hl with | [_, _], _ => rfl
theorem sc_holds_at : FnScope ["row", "filling"] ["row", "filling"] (defScope (top 31)) := ⟨rfl, rfl, rfl, by decide +kernel, rfl, by decide +kernel, by decide +kernel⟩
theorem ok_holds_at (T : Txt K mg A) : FnOk P w K mg base (L2.CX P w) 3 A.a_holds_at A.d_holds_at ["row", "filling"] (spP K mg 2 G_holds_at) := by
  refine okP [] (g := g_holds_at) T.f_holds_at sc_holds_at rfl (by decide) (fun cdv A outer s H E l T0 hr => ?_) (fun _ _ => rfl)
  have sc := sc_holds_at
  exact (ss_one (s_ret (e_bin r_ge (fun t u h1 h2 => pe_cmpR op_ge h1 h2 (nomark _)) (bE (e_callP [] ⟨rfl, rfl⟩ (fun _ => Dens.nil) rfl (fun t h => pe_call (ok_sum_at T) (hr.mono (by decide)) (by rfl) T.m_sum_at T.f_sum_at.kp (b_sum_at T) .nil (passes_call (takes_of rfl rfl rfl rfl) fun _ _ _ _ h => h) h) (a_cons (e_bin r_ixA (fun t u h1 h2 => pe_ix (ix_all (hu_of hr)) h1 h2 (fun _ _ => rfl)) (bE (e_var 0 (pv 0) rfl)) (bE e_int)) (a_cons (e_var 1 (pv 1) rfl) a_nil)) (by exact (len_cons (len_cons len_nil))))) (bE (e_bin r_ixA (fun t u h1 h2 => pe_ix (ix_all (hu_of hr)) h1 h2 (fun _ _ => rfl)) (bE (e_var 0 (pv 0) rfl)) (bE e_int))))))
theorem b_holds_at (T : Txt K mg A) : Binds K A.d_holds_at ["row", "filling"] [] := T.f_holds_at.binds (ps := ["row", "filling"]) fun _ _ _ _ _ _ us hl => match us, hl with | [_, _], _ => rfl
theorem sc_holds : FnScope ["many", "row", "filling"] ["many", "row", "filling"] (defScope (top 25)) := ⟨rfl, rfl, rfl, by decide +kernel, rfl, by decide +kernel, by decide +kernel⟩
theorem ok_holds (T : Txt K mg A) : FnOk P w K mg base (L2.CX P w) 7 A.a_holds A.d_holds ["many", "row", "filling"] (spP K mg 3 G_holds) := by
  refine okP [] (g := g_holds) T.f_holds sc_holds rfl (by decide) (fun cdv A outer s H E l T0 hr => ?_) (fun _ _ => rfl)
  have sc := sc_holds
  exact (ss_cons (s_drop (e_callP [.int 600] ⟨rfl, rfl⟩ (fun _ => Dens.of_ints [600]) rfl (fun t h => pe_call (ok_check_many T) (hr.mono (by decide)) (by rfl) T.m_check_many T.f_check_many.kp (b_check_many T).choose_spec.2 (b_check_many T).choose_spec.1 (passes_call (takes_of rfl rfl rfl rfl) fun _ _ _ _ h => h) h) (a_cons (e_var 0 (pv 0) rfl) a_nil) (by exact (len_cons len_nil)))) (ss_cons (s_drop (e_callP [] ⟨rfl, rfl⟩ (fun _ => Dens.nil) rfl (fun t h => pe_call (ok_check_row T) (hr.mono (by decide)) (by rfl) T.m_check_row T.f_check_row.kp (b_check_row T) .nil (passes_call (takes_of rfl rfl rfl rfl) fun _ _ _ _ h => h) h) (a_cons (e_var 0 (pv 0) rfl) (a_cons (e_var 1 (pv 1) rfl) a_nil)) (by exact (len_cons (len_cons len_nil))))) (ss_cons (s_drop (e_callP [] ⟨rfl, rfl⟩ (fun _ => Dens.nil) rfl (fun t h => pe_call (ok_check_filling T) (hr.mono (by decide)) (by rfl) T.m_check_filling T.f_check_filling.kp (b_check_filling T) .nil (passes_call (takes_of rfl rfl rfl rfl) fun _ _ _ _ h => h) h) (a_cons (e_var 0 (pv 0) rfl) (a_cons (e_var 2 (pv 2) rfl) a_nil)) (by exact (len_cons (len_cons len_nil))))) (ss_one (s_ret (e_callP [] ⟨rfl, rfl⟩ (fun _ => Dens.nil) rfl (fun t h => pe_call (ok_holds_at T) (hr.mono (by decide)) (by rfl) T.m_holds_at T.f_holds_at.kp (b_holds_at T) .nil (passes_call (takes_of rfl rfl rfl rfl) fun _ _ _ _ h => h) h) (a_cons (e_var 1 (pv 1) rfl) (a_cons (e_var 2 (pv 2) rfl) a_nil)) (by exact (len_cons (len_cons len_nil)))))))))
theorem b_holds (T : Txt K mg A) : Binds K A.d_holds ["many", "row", "filling"] [] := T.f_holds.binds (ps := ["many", "row", "filling"]) fun _ _ _ _ _ _ us hl => match us, hl with | [_, _, _], _ => rfl
theorem sc_missing_in : FnScope ["terms", "weights", "weight", "literal"] ["terms", "weights"] (defScope (top 35)) := ⟨rfl, rfl, rfl, by decide +kernel, rfl, by decide +kernel, by decide +kernel⟩
theorem ok_missing_in (T : Txt K mg A) : FnOk P w K mg base (L2.CX P w) 1 A.a_missing_in A.d_missing_in ["terms", "weights"] (spP K mg 2 G_missing_in) := by
  refine okP [] (g := g_missing_in) T.f_missing_in sc_missing_in rfl (by decide) (fun cdv A outer s H E l T0 hr => ?_) (fun _ _ => rfl)
  have sc := sc_missing_in
  exact (ss_one (s_ret (e_cb r_sum (fun t h => pe_callB (cr_sum rfl) (by rfl) T.g_sum (by decide +kernel) h) (ab_cons (bE (nE (n_lc rfl (tg_tup [2, 3] rfl rfl) rfl rfl (fun wi hi => pe_lc (own := [("weight", 2), ("literal", 3)]) rfl sc.nd hi (blkOk_by (N := ["terms", "weights", "weight", "literal"]) (sc := defScope (top 35)) (by decide +kernel)) (fun _ _ _ _ _ => (pg_tup rfl (pgs_cons (pg_name (i := 2) sc.nd rfl (by first | exact Or.inl rfl | exact Or.inr rfl)) (pgs_cons (pg_name (i := 3) sc.nd rfl (by first | exact Or.inl rfl | exact Or.inr rfl)) pgs_nil)))) (fun _ _ _ _ _ => tYes_ok) (fun _ _ _ _ _ => (e_cb r_2I (fun t h => pe_callB (call_max2 rfl) (by rfl) T.g_max (by decide +kernel) h) (ab_cons (bE e_int) (ab_cons (bE (e_bin r_sub (fun t u h1 h2 => pe_op op_sub h1 h2) (bE (e_var 2 (pv 2) rfl)) (bE (e_get2 (fun t u w h1 h2 h3 => pe_dget2 (hu_of hr) h1 h2 h3 ⟨rfl, rfl, rfl, rfl⟩) (bE (e_var 1 (pv 1) rfl)) (e_var 3 (pv 3) rfl) e_int)))) ab_nil))))) (bE (e_var 0 (pv 0) rfl))))) ab_nil))))
theorem b_missing_in (T : Txt K mg A) : Binds K A.d_missing_in ["terms", "weights"] [] := T.f_missing_in.binds (ps := ["terms", "weights"]) fun _ _ _ _ _ _ us hl => match us, hl with | [_, _], _ => rfl
theorem sc_is_covered : FnScope ["row", "rows", "weights", "weight", "literal", "terms", "bound"] ["row", "rows"] (defScope (top 34)) := ⟨rfl, rfl, rfl, by decide +kernel, rfl, by decide +kernel, by decide +kernel⟩
theorem ok_is_covered (T : Txt K mg A) : FnOk P w K mg base (L2.CX P w) 2 A.a_is_covered A.d_is_covered ["row", "rows"] (spP K mg 2 G_is_covered) := by
  refine okP [] (g := g_is_covered) T.f_is_covered sc_is_covered rfl (by decide) (fun cdv A outer s H E l T0 hr => ?_) (fun _ _ => rfl)
  have sc := sc_is_covered
  exact (ss_cons (s_dc 2 rfl rfl (tg_tup [3, 4] rfl rfl) rfl rfl (fun wi hi => ps_setDc (i := 2) (own := [("weight", 3), ("literal", 4)]) rfl sc.nd rfl rfl (sw_trueD rfl rfl (by decide +kernel) (by decide +kernel)) hi (blkOk_by (N := ["row", "rows", "weights", "weight", "literal", "terms", "bound"]) (sc := defScope (top 34)) (by decide +kernel)) (fun _ _ _ _ _ => (pg_tup rfl (pgs_cons (pg_name (i := 3) sc.nd rfl (by first | exact Or.inl rfl | exact Or.inr rfl)) (pgs_cons (pg_name (i := 4) sc.nd rfl (by first | exact Or.inl rfl | exact Or.inr rfl)) pgs_nil)))) (fun _ _ _ _ _ => tYes_ok) (fun _ _ _ _ _ => (e_var 4 (pv 4) rfl)) (fun _ _ _ _ _ => (e_var 3 (pv 3) rfl))) (bE (e_bin r_ixA (fun t u h1 h2 => pe_ix (ix_all (hu_of hr)) h1 h2 (fun _ _ => rfl)) (bE (e_var 0 (pv 0) rfl)) (bE e_int)))) (ss_cons (s_for rfl rfl (passes_of rfl) (e_var 1 (pv 1) rfl) (pg_tup rfl (pgs_cons (pg_name (i := 5) sc.nd rfl (by first | exact Or.inl rfl | exact Or.inr rfl)) (pgs_cons (pg_name (i := 6) sc.nd rfl (by first | exact Or.inl rfl | exact Or.inr rfl)) pgs_nil))) (tg_tup [5, 6] rfl rfl) (ss_one (s_if (PW.pt (w_and (t_cmp r_ge op_ge (bE (e_var 6 (pv 6) rfl)) (bE (e_bin r_ixA (fun t u h1 h2 => pe_ix (ix_all (hu_of hr)) h1 h2 (fun _ _ => rfl)) (bE (e_var 0 (pv 0) rfl)) (bE e_int))) (nomark _)) (w_and1 (t_cmp r_ge op_ge (bE (e_bin r_sub (fun t u h1 h2 => pe_op op_sub h1 h2) (bE (e_var 6 (pv 6) rfl)) (bE (e_callP [] ⟨rfl, rfl⟩ (fun _ => Dens.nil) rfl (fun t h => pe_call (ok_missing_in T) (hr.mono (by decide)) (by rfl) T.m_missing_in T.f_missing_in.kp (b_missing_in T) .nil (passes_call (takes_of rfl rfl rfl rfl) fun _ _ _ _ h => h) h) (a_cons (e_var 5 (pv 5) rfl) (a_cons (e_var 2 (pv 2) rfl) a_nil)) (by exact (len_cons (len_cons len_nil))))))) (bE (e_bin r_ixA (fun t u h1 h2 => pe_ix (ix_all (hu_of hr)) h1 h2 (fun _ _ => rfl)) (bE (e_var 0 (pv 0) rfl)) (bE e_int))) (nomark _))))) (ss_one (s_ret e_bl)) ss_nil))) (ss_one (s_ret e_bl))))
theorem b_is_covered (T : Txt K mg A) : Binds K A.d_is_covered ["row", "rows"] [] := T.f_is_covered.binds (ps := ["row", "rows"]) fun _ _ _ _ _ _ us hl => match us, hl with | [_, _], _ => rfl
theorem sc_covers : FnScope ["many", "one", "other"] ["many", "one", "other"] (defScope (top 26)) := ⟨rfl, rfl, rfl, by decide +kernel, rfl, by decide +kernel, by decide +kernel⟩
theorem ok_covers (T : Txt K mg A) : FnOk P w K mg base (L2.CX P w) 7 A.a_covers A.d_covers ["many", "one", "other"] (spP K mg 3 G_covers) := by
  refine okP [] (g := g_covers) T.f_covers sc_covers rfl (by decide) (fun cdv A outer s H E l T0 hr => ?_) (fun _ _ => rfl)
  have sc := sc_covers
  exact (ss_cons (s_drop (e_callP [.int 600] ⟨rfl, rfl⟩ (fun _ => Dens.of_ints [600]) rfl (fun t h => pe_call (ok_check_many T) (hr.mono (by decide)) (by rfl) T.m_check_many T.f_check_many.kp (b_check_many T).choose_spec.2 (b_check_many T).choose_spec.1 (passes_call (takes_of rfl rfl rfl rfl) fun _ _ _ _ h => h) h) (a_cons (e_var 0 (pv 0) rfl) a_nil) (by exact (len_cons len_nil)))) (ss_cons (s_drop (e_callP [] ⟨rfl, rfl⟩ (fun _ => Dens.nil) rfl (fun t h => pe_call (ok_check_row T) (hr.mono (by decide)) (by rfl) T.m_check_row T.f_check_row.kp (b_check_row T) .nil (passes_call (takes_of rfl rfl rfl rfl) fun _ _ _ _ h => h) h) (a_cons (e_var 0 (pv 0) rfl) (a_cons (e_var 1 (pv 1) rfl) a_nil)) (by exact (len_cons (len_cons len_nil))))) (ss_cons (s_drop (e_callP [] ⟨rfl, rfl⟩ (fun _ => Dens.nil) rfl (fun t h => pe_call (ok_check_row T) (hr.mono (by decide)) (by rfl) T.m_check_row T.f_check_row.kp (b_check_row T) .nil (passes_call (takes_of rfl rfl rfl rfl) fun _ _ _ _ h => h) h) (a_cons (e_var 0 (pv 0) rfl) (a_cons (e_var 2 (pv 2) rfl) a_nil)) (by exact (len_cons (len_cons len_nil))))) (ss_one (s_ret (e_callP [] ⟨rfl, rfl⟩ (fun _ => Dens.nil) rfl (fun t h => pe_call (ok_is_covered T) (hr.mono (by decide)) (by rfl) T.m_is_covered T.f_is_covered.kp (b_is_covered T) .nil (passes_call (takes_of rfl rfl rfl rfl) fun _ _ _ _ h => h) h) (a_cons (e_var 2 (pv 2) rfl) (a_cons (nE (n_lst (a_cons (e_var 1 (pv 1) rfl) a_nil))) a_nil)) (by exact (len_cons (len_cons len_nil)))))))))
theorem b_covers (T : Txt K mg A) : Binds K A.d_covers ["many", "one", "other"] [] := T.f_covers.binds (ps := ["many", "one", "other"]) fun _ _ _ _ _ _ us hl => match us, hl with | [_, _, _], _ => rfl
theorem sc_normal_row : FnScope ["sums", "bound", "surplus", "low", "number", "literal", "terms", "variable"] ["sums", "bound"] (defScope (top 27)) := ⟨rfl, rfl, rfl, by decide +kernel, rfl, by decide +kernel, by decide +kernel⟩
theorem ok_normal_row (T : Txt K mg A) : FnOk P w K mg base (L2.CX P w) 1 A.a_normal_row A.d_normal_row ["sums", "bound"] (spP K mg 2 G_normal_row) := by
  refine okP [2, 6] (g := g_normal_row) T.f_normal_row sc_normal_row rfl (by decide) (fun cdv A outer s H E l T0 hr => ?_) (fun _ _ => rfl)
  have sc := sc_normal_row
  exact (ss_cons (s_asgO 2 rfl (fun te h => ps_set (i := 2) sc.nd rfl (by first | exact Or.inl rfl | exact Or.inr rfl) h) (n_d0 pe_dnewK)) (ss_cons (s_asg 3 rfl (fun te h => ps_set (i := 3) sc.nd rfl (by first | exact Or.inl rfl | exact Or.inr rfl) h) (e_var 1 (pv 1) rfl)) (ss_cons (s_for rfl rfl (passes_of rfl) (e_var 0 (pv 0) rfl) (pg_tup rfl (pgs_cons (pg_name (i := 4) sc.nd rfl (by first | exact Or.inl rfl | exact Or.inr rfl)) (pgs_cons (pg_name (i := 5) sc.nd rfl (by first | exact Or.inl rfl | exact Or.inr rfl)) pgs_nil))) (tg_tup [4, 5] rfl rfl) (ss_one (s_if (t_cmp r_gt op_gt (bE (e_var 5 (pv 5) rfl)) (bE e_int) (nomark _)) (ss_one (s_setA 2 rfl (fun te tj h hj => ps_asg h (pg_sub (pv 2) hj (set_all (hu_of hr)))) (e_var 5 (pv 5) rfl) (e_bin r_add (fun t u h1 h2 => pe_op op_addA h1 h2) (bE (e_get2 (fun t u w h1 h2 h3 => pe_dget2 (hu_of hr) h1 h2 h3 ⟨rfl, rfl, rfl, rfl⟩) (b_var 2 (pv 2)) (e_var 5 (pv 5) rfl) e_int)) (bE (e_var 4 (pv 4) rfl))))) (ss_cons (s_setA 2 rfl (fun te tj h hj => ps_asg h (pg_sub (pv 2) hj (set_all (hu_of hr)))) (e_un r_neg (fun t h => pe_un un_neg h) (bE (e_var 5 (pv 5) rfl))) (e_bin r_sub (fun t u h1 h2 => pe_op op_sub h1 h2) (bE (e_get2 (fun t u w h1 h2 h3 => pe_dget2 (hu_of hr) h1 h2 h3 ⟨rfl, rfl, rfl, rfl⟩) (b_var 2 (pv 2)) (e_un r_neg (fun t h => pe_un un_neg h) (bE (e_var 5 (pv 5) rfl))) e_int)) (bE (e_var 4 (pv 4) rfl)))) (ss_one (s_asg 3 rfl (fun te h => ps_set (i := 3) sc.nd rfl (by first | exact Or.inl rfl | exact Or.inr rfl) h) (e_bin r_sub (fun t u h1 h2 => pe_op op_sub h1 h2) (bE (e_var 3 (pv 3) rfl)) (bE (e_var 4 (pv 4) rfl))))))))) (ss_cons (s_asgO 6 rfl (fun te h => ps_set (i := 6) sc.nd rfl (by first | exact Or.inl rfl | exact Or.inr rfl) h) (n_lst a_nil)) (ss_cons (s_for rfl rfl (passes_of rfl) (nE (n_cb r_sortedA (fun t h => pe_callB (cr_sortA rfl) (by rfl) T.g_sorted (by decide +kernel) h) (ab_cons (b_var 2 (pv 2)) ab_nil))) (pg_name (i := 7) sc.nd rfl (by first | exact Or.inl rfl | exact Or.inr rfl)) (tg_name 7 rfl) (ss_cons (s_asg 4 rfl (fun te h => ps_set (i := 4) sc.nd rfl (by first | exact Or.inl rfl | exact Or.inr rfl) h) (e_bin r_ixA (fun t u h1 h2 => pe_ix (ix_all (hu_of hr)) h1 h2 (fun _ _ => rfl)) (b_var 2 (pv 2)) (bE (e_var 7 (pv 7) rfl)))) (ss_cons (s_if (t_cmp r_gt op_gt (bE (e_var 4 (pv 4) rfl)) (bE e_int) (nomark _)) (ss_one (s_app 6 rfl (fun te h => ps_expr (pe_bm PySem.F.plainAttrs_list PySem.F.slot_list_append PySem.F.type_list_append mt_append (pv 6) (pa_cons h pa_nil))) (e_tup (a_cons (e_var 4 (pv 4) rfl) (a_cons (e_var 7 (pv 7) rfl) a_nil))))) ss_nil) (ss_one (s_if (t_cmp r_lt op_lt (bE (e_var 4 (pv 4) rfl)) (bE e_int) (nomark _)) (ss_cons (s_app 6 rfl (fun te h => ps_expr (pe_bm PySem.F.plainAttrs_list PySem.F.slot_list_append PySem.F.type_list_append mt_append (pv 6) (pa_cons h pa_nil))) (e_tup (a_cons (e_un r_neg (fun t h => pe_un un_neg h) (bE (e_var 4 (pv 4) rfl))) (a_cons (e_un r_neg (fun t h => pe_un un_neg h) (bE (e_var 7 (pv 7) rfl))) a_nil)))) (ss_one (s_asg 3 rfl (fun te h => ps_set (i := 3) sc.nd rfl (by first | exact Or.inl rfl | exact Or.inr rfl) h) (e_bin r_sub (fun t u h1 h2 => pe_op op_sub h1 h2) (bE (e_var 3 (pv 3) rfl)) (bE (e_var 4 (pv 4) rfl)))))) ss_nil))))) (ss_one (s_ret (e_tup (a_cons (e_cb r_tuple (fun t h => pe_callTy call_tuple_of (by rfl) T.g_tuple (by decide +kernel) h) (ab_cons (b_var 6 (pv 6)) ab_nil)) (a_cons (e_cb r_2I (fun t h => pe_callB (call_max2 rfl) (by rfl) T.g_max (by decide +kernel) h) (ab_cons (bE e_int) (ab_cons (bE (e_var 3 (pv 3) rfl)) ab_nil))) a_nil))))))))))
theorem b_normal_row (T : Txt K mg A) : Binds K A.d_normal_row ["sums", "bound"] [] := T.f_normal_row.binds (ps := ["sums", "bound"]) fun _ _ _ _ _ _ us hl => match us, hl with | [_, _], _ => rfl
theorem sc__is_image : FnScope ["many", "thing"] ["many", "thing"] (defScope (top 43)) := ⟨rfl, rfl, rfl, by decide +kernel, rfl, by decide +kernel, by decide +kernel⟩
theorem ok__is_image (T : Txt K mg A) : FnOk P w K mg base (L2.CX P w) 4 A.a__is_image A.d__is_image ["many", "thing"] (spP K mg 2 G__is_image) := by
  refine okP [] (g := g__is_image) T.f__is_image sc__is_image rfl (by decide) (fun cdv A outer s H E l T0 hr => ?_) (fun _ _ => rfl)
  have sc := sc__is_image
  exact (ss_one (s_ret (e_or (e_callP [] ⟨rfl, rfl⟩ (fun _ => Dens.nil) rfl (fun t h => pe_call (ok_is_literal_of T) (hr.mono (by decide)) (by rfl) T.m_is_literal_of T.f_is_literal_of.kp (b_is_literal_of T) .nil (passes_call (takes_of rfl rfl rfl rfl) fun _ _ _ _ h => h) h) (a_cons (e_var 0 (pv 0) rfl) (a_cons (e_var 1 (pv 1) rfl) a_nil)) (by exact (len_cons (len_cons len_nil)))) (e_one (e_bin r_inX (fun t u h1 h2 => pe_cmpR (op_inX hr.units) h1 h2 (by rfl)) (bE (e_var 1 (pv 1) rfl)) (bE (e_tup (a_cons e_str (a_cons e_str a_nil)))))))))
theorem b__is_image (T : Txt K mg A) : Binds K A.d__is_image ["many", "thing"] [] := T.f__is_image.binds (ps := ["many", "thing"]) fun _ _ _ _ _ _ us hl => match us, hl with | [_, _], _ => rfl
theorem sc_is_witness_of : FnScope ["many", "thing", "image"] ["many", "thing"] (defScope (top 44)) := ⟨rfl, rfl, rfl, by decide +kernel, rfl, by decide +kernel, by decide +kernel⟩
theorem ok_is_witness_of (T : Txt K mg A) : FnOk P w K mg base (L2.CX P w) 5 A.a_is_witness_of A.d_is_witness_of ["many", "thing"] (spP K mg 2 G_is_witness_of) := by
  refine okP [] (g := g_is_witness_of) T.f_is_witness_of sc_is_witness_of rfl (by decide) (fun cdv A outer s H E l T0 hr => ?_) (fun _ _ => rfl)
  have sc := sc_is_witness_of
  exact (ss_cons (s_if (PW.pt (w_or (t_not (t_val (e_isi .tuple (by intro h; cases h) rfl (fun te h => pe_callB call_isi (by rfl) T.g_isinstance (by decide +kernel) (pa_cons h (pa_cons (pe_bltn (by rfl) T.g_tuple (by decide +kernel) rfl) pa_nil))) (bE (e_var 1 (pv 1) rfl))))) (w_or1 (t_cmp r_ne (op_neX hr.units) (bE (e_cb r_lenA (fun t h => pe_callB cr_lenA (by rfl) T.g_len (by decide +kernel) h) (ab_cons (bE (e_var 1 (pv 1) rfl)) ab_nil))) (bE (e_var 0 (pv 0) rfl)) (nomark _))))) (ss_one (s_ret e_bl)) ss_nil) (ss_one (s_ret (e_cb r_all (fun t h => pe_callB (cr_all rfl) (by rfl) T.g_all (by decide +kernel) h) (ab_cons (bE (nE (n_lc rfl (tg_name 2 rfl) rfl rfl (fun wi hi => pe_lc (own := [("image", 2)]) rfl sc.nd hi (blkOk_by (N := ["many", "thing", "image"]) (sc := defScope (top 44)) (by decide +kernel)) (fun _ _ _ _ _ => (pg_name (i := 2) sc.nd rfl (by first | exact Or.inl rfl | exact Or.inr rfl))) (fun _ _ _ _ _ => tYes_ok) (fun _ _ _ _ _ => (e_callP [] ⟨rfl, rfl⟩ (fun _ => Dens.nil) rfl (fun t h => pe_call (ok__is_image T) (hr.mono (by decide)) (by rfl) T.m__is_image T.f__is_image.kp (b__is_image T) .nil passL h) (a_cons (e_var 0 (pv 0) rfl) (a_cons (e_var 2 (pv 2) rfl) a_nil)) (by exact (len_cons (len_cons len_nil)))))) (bE (e_var 1 (pv 1) rfl))))) ab_nil)))))
theorem b_is_witness_of (T : Txt K mg A) : Binds K A.d_is_witness_of ["many", "thing"] [] := T.f_is_witness_of.binds (ps := ["many", "thing"]) fun _ _ _ _ _ _ us hl => match us, hl with | [_, _], _ => rfl
theorem sc_check_witness : FnScope ["many", "witness"] ["many", "witness"] (defScope (top 46)) := ⟨rfl, rfl, rfl, by decide +kernel, rfl, by decide +kernel, by decide +kernel⟩
theorem ok_check_witness (T : Txt K mg A) : FnOk P w K mg base (L2.CX P w) 6 A.a_check_witness A.d_check_witness ["many", "witness"] (spP K mg 2 G_check_witness) := by
  refine okP [] (g := g_check_witness) T.f_check_witness sc_check_witness rfl (by decide) (fun cdv A outer s H E l T0 hr => ?_) (fun _ _ => rfl)
  have sc := sc_check_witness
  exact (ss_one (s_if (t_not (t_val (e_callP [] ⟨rfl, rfl⟩ (fun _ => Dens.nil) rfl (fun t h => pe_call (ok_is_witness_of T) (hr.mono (by decide)) (by rfl) T.m_is_witness_of T.f_is_witness_of.kp (b_is_witness_of T) .nil (passes_call (takes_of rfl rfl rfl rfl) fun _ _ _ _ h => h) h) (a_cons (e_var 0 (pv 0) rfl) (a_cons (e_var 1 (pv 1) rfl) a_nil)) (by exact (len_cons (len_cons len_nil)))))) (ss_one (s_raise T.k_BadWitness.g (ps_raise rfl (takes_of rfl rfl rfl rfl) (pmk_own PySem.F.excBase_ValueError T.k_BadWitness.x T.k_BadWitness.g T.k_BadWitness.k (raises_own T.k_BadWitness.b T.k_BadWitness.t) (by exact rfl))))) ss_nil))
theorem b_check_witness (T : Txt K mg A) : Binds K A.d_check_witness ["many", "witness"] [] := T.f_check_witness.binds (ps := ["many", "witness"]) fun _ _ _ _ _ _ us hl => match us, hl with | [_, _], _ => rfl
theorem sc__opposite_image : FnScope ["image"] ["image"] (defScope (top 53)) := ⟨rfl, rfl, rfl, by decide +kernel, rfl, by decide +kernel, by decide +kernel⟩
theorem ok__opposite_image (T : Txt K mg A) : FnOk P w K mg base (L2.CX P w) 1 A.a__opposite_image A.d__opposite_image ["image"] (spP K mg 1 G__opposite_image) := by
  refine okP [] (g := g__opposite_image) T.f__opposite_image sc__opposite_image rfl (by decide) (fun cdv A outer s H E l T0 hr => ?_) (fun _ _ => rfl)
  have sc := sc__opposite_image
  exact (ss_cons (s_if (t_cmp r_eq (op_eqX hr.units) (bE (e_var 0 (pv 0) rfl)) (bE e_str) (nomark _)) (ss_one (s_ret e_str)) ss_nil) (ss_cons (s_if (t_cmp r_eq (op_eqX hr.units) (bE (e_var 0 (pv 0) rfl)) (bE e_str) (nomark _)) (ss_one (s_ret e_str)) ss_nil) (ss_one (s_ret (e_un r_neg (fun t h => pe_un un_neg h) (bE (e_var 0 (pv 0) rfl)))))))
theorem b__opposite_image (T : Txt K mg A) : Binds K A.d__opposite_image ["image"] [] := T.f__opposite_image.binds (ps := ["image"]) fun _ _ _ _ _ _ us hl => match us, hl with | [_], _ => rfl
theorem sc_image_of : FnScope ["witness", "literal", "image"] ["witness", "literal"] (defScope (top 48)) := ⟨rfl, rfl, rfl, by decide +kernel, rfl, by decide +kernel, by decide +kernel⟩
theorem ok_image_of (T : Txt K mg A) : FnOk P w K mg base (L2.CX P w) 2 A.a_image_of A.d_image_of ["witness", "literal"] (spP K mg 2 G_image_of) := by
  refine okP [] (g := g_image_of) T.f_image_of sc_image_of rfl (by decide) (fun cdv A outer s H E l T0 hr => ?_) (fun _ _ => rfl)
  have sc := sc_image_of
  exact (ss_cons (s_asg 2 rfl (fun te h => ps_set (i := 2) sc.nd rfl (by first | exact Or.inl rfl | exact Or.inr rfl) h) (e_bin r_ixA (fun t u h1 h2 => pe_ix (ix_all (hu_of hr)) h1 h2 (fun _ _ => rfl)) (bE (e_var 0 (pv 0) rfl)) (bE (e_bin r_sub (fun t u h1 h2 => pe_op op_sub h1 h2) (bE (e_cb r_abs (fun t h => pe_callB call_abs (by rfl) T.g_abs (by decide +kernel) h) (ab_cons (bE (e_var 1 (pv 1) rfl)) ab_nil))) (bE e_int))))) (ss_cons (s_if (t_cmp r_gt op_gt (bE (e_var 1 (pv 1) rfl)) (bE e_int) (nomark _)) (ss_one (s_ret (e_var 2 (pv 2) rfl))) ss_nil) (ss_one (s_ret (e_callP [] ⟨rfl, rfl⟩ (fun _ => Dens.nil) rfl (fun t h => pe_call (ok__opposite_image T) (hr.mono (by decide)) (by rfl) T.m__opposite_image T.f__opposite_image.kp (b__opposite_image T) .nil (passes_call (takes_of rfl rfl rfl rfl) fun _ _ _ _ h => h) h) (a_cons (e_var 2 (pv 2) rfl) a_nil) (by exact (len_cons len_nil)))))))
theorem b_image_of (T : Txt K mg A) : Binds K A.d_image_of ["witness", "literal"] [] := T.f_image_of.binds (ps := ["witness", "literal"]) fun _ _ _ _ _ _ us hl => match us, hl with | [_, _], _ => rfl
theorem sc_led_literal : FnScope ["many", "witness", "literal"] ["many", "witness", "literal"] (defScope (top 37)) := ⟨rfl, rfl, rfl, by decide +kernel, rfl, by decide +kernel, by decide +kernel⟩
theorem ok_led_literal (T : Txt K mg A) : FnOk P w K mg base (L2.CX P w) 7 A.a_led_literal A.d_led_literal ["many", "witness", "literal"] (spP K mg 3 G_led_literal) := by
  refine okP [] (g := g_led_literal) T.f_led_literal sc_led_literal rfl (by decide) (fun cdv A outer s H E l T0 hr => ?_) (fun _ _ => rfl)
  have sc := sc_led_literal
  exact (ss_cons (s_drop (e_callP [.int 600] ⟨rfl, rfl⟩ (fun _ => Dens.of_ints [600]) rfl (fun t h => pe_call (ok_check_many T) (hr.mono (by decide)) (by rfl) T.m_check_many T.f_check_many.kp (b_check_many T).choose_spec.2 (b_check_many T).choose_spec.1 (passes_call (takes_of rfl rfl rfl rfl) fun _ _ _ _ h => h) h) (a_cons (e_var 0 (pv 0) rfl) a_nil) (by exact (len_cons len_nil)))) (ss_cons (s_drop (e_callP [] ⟨rfl, rfl⟩ (fun _ => Dens.nil) rfl (fun t h => pe_call (ok_check_witness T) (hr.mono (by decide)) (by rfl) T.m_check_witness T.f_check_witness.kp (b_check_witness T) .nil (passes_call (takes_of rfl rfl rfl rfl) fun _ _ _ _ h => h) h) (a_cons (e_var 0 (pv 0) rfl) (a_cons (e_var 1 (pv 1) rfl) a_nil)) (by exact (len_cons (len_cons len_nil))))) (ss_cons (s_drop (e_callP [] ⟨rfl, rfl⟩ (fun _ => Dens.nil) rfl (fun t h => pe_call (ok_check_literal T) (hr.mono (by decide)) (by rfl) T.m_check_literal T.f_check_literal.kp (b_check_literal T) .nil (passes_call (takes_of rfl rfl rfl rfl) fun _ _ _ _ h => h) h) (a_cons (e_var 0 (pv 0) rfl) (a_cons (e_var 2 (pv 2) rfl) a_nil)) (by exact (len_cons (len_cons len_nil))))) (ss_one (s_ret (e_callP [] ⟨rfl, rfl⟩ (fun _ => Dens.nil) rfl (fun t h => pe_call (ok_image_of T) (hr.mono (by decide)) (by rfl) T.m_image_of T.f_image_of.kp (b_image_of T) .nil (passes_call (takes_of rfl rfl rfl rfl) fun _ _ _ _ h => h) h) (a_cons (e_var 1 (pv 1) rfl) (a_cons (e_var 2 (pv 2) rfl) a_nil)) (by exact (len_cons (len_cons len_nil)))))))))
theorem b_led_literal (T : Txt K mg A) : Binds K A.d_led_literal ["many", "witness", "literal"] [] := T.f_led_literal.binds (ps := ["many", "witness", "literal"]) fun _ _ _ _ _ _ us hl => match us, hl with | [_, _, _], _ => rfl
theorem sc_row_led : FnScope ["witness", "row", "sums", "bound", "weight", "literal", "image"] ["witness", "row"] (defScope (top 49)) := ⟨rfl, rfl, rfl, by decide +kernel, rfl, by decide +kernel, by decide +kernel⟩
theorem ok_row_led (T : Txt K mg A) : FnOk P w K mg base (L2.CX P w) 3 A.a_row_led A.d_row_led ["witness", "row"] (spP K mg 2 G_row_led) := by
  refine okP [2] (g := g_row_led) T.f_row_led sc_row_led rfl (by decide) (fun cdv A outer s H E l T0 hr => ?_) (fun _ _ => rfl)
  have sc := sc_row_led
  exact (ss_cons (s_asgO 2 rfl (fun te h => ps_set (i := 2) sc.nd rfl (by first | exact Or.inl rfl | exact Or.inr rfl) h) (n_lst a_nil)) (ss_cons (s_asg 3 rfl (fun te h => ps_set (i := 3) sc.nd rfl (by first | exact Or.inl rfl | exact Or.inr rfl) h) (e_bin r_ixA (fun t u h1 h2 => pe_ix (ix_all (hu_of hr)) h1 h2 (fun _ _ => rfl)) (bE (e_var 1 (pv 1) rfl)) (bE e_int))) (ss_cons (s_for rfl rfl (passes_of rfl) (e_bin r_ixA (fun t u h1 h2 => pe_ix (ix_all (hu_of hr)) h1 h2 (fun _ _ => rfl)) (bE (e_var 1 (pv 1) rfl)) (bE e_int)) (pg_tup rfl (pgs_cons (pg_name (i := 4) sc.nd rfl (by first | exact Or.inl rfl | exact Or.inr rfl)) (pgs_cons (pg_name (i := 5) sc.nd rfl (by first | exact Or.inl rfl | exact Or.inr rfl)) pgs_nil))) (tg_tup [4, 5] rfl rfl) (ss_cons (s_asg 6 rfl (fun te h => ps_set (i := 6) sc.nd rfl (by first | exact Or.inl rfl | exact Or.inr rfl) h) (e_callP [] ⟨rfl, rfl⟩ (fun _ => Dens.nil) rfl (fun t h => pe_call (ok_image_of T) (hr.mono (by decide)) (by rfl) T.m_image_of T.f_image_of.kp (b_image_of T) .nil (passes_call (takes_of rfl rfl rfl rfl) fun _ _ _ _ h => h) h) (a_cons (e_var 0 (pv 0) rfl) (a_cons (e_var 5 (pv 5) rfl) a_nil)) (by exact (len_cons (len_cons len_nil))))) (ss_one (s_if (t_cmp r_eq (op_eqX hr.units) (bE (e_var 6 (pv 6) rfl)) (bE e_str) (nomark _)) (ss_one (s_asg 3 rfl (fun te h => ps_set (i := 3) sc.nd rfl (by first | exact Or.inl rfl | exact Or.inr rfl) h) (e_bin r_sub (fun t u h1 h2 => pe_op op_sub h1 h2) (bE (e_var 3 (pv 3) rfl)) (bE (e_var 4 (pv 4) rfl))))) (ss_one (s_if (t_cmp r_ne (op_neX hr.units) (bE (e_var 6 (pv 6) rfl)) (bE e_str) (nomark _)) (ss_one (s_app 2 rfl (fun te h => ps_expr (pe_bm PySem.F.plainAttrs_list PySem.F.slot_list_append PySem.F.type_list_append mt_append (pv 2) (pa_cons h pa_nil))) (e_tup (a_cons (e_var 4 (pv 4) rfl) (a_cons (e_var 6 (pv 6) rfl) a_nil))))) ss_nil)))))) (ss_one (s_frz 2 (s_ret (e_callP [] ⟨rfl, rfl⟩ (fun _ => Dens.nil) rfl (fun t h => pe_call (ok_normal_row T) (hr.mono (by decide)) (by rfl) T.m_normal_row T.f_normal_row.kp (b_normal_row T) .nil (passes_call (takes_of rfl rfl rfl rfl) fun _ _ _ _ h => h) h) (a_cons (e_var 2 (pv 2) rfl) (a_cons (e_var 3 (pv 3) rfl) a_nil)) (by exact (len_cons (len_cons len_nil))))))))))
theorem b_row_led (T : Txt K mg A) : Binds K A.d_row_led ["witness", "row"] [] := T.f_row_led.binds (ps := ["witness", "row"]) fun _ _ _ _ _ _ us hl => match us, hl with | [_, _], _ => rfl
theorem sc_led_row : FnScope ["many", "witness", "row"] ["many", "witness", "row"] (defScope (top 38)) := ⟨rfl, rfl, rfl, by decide +kernel, rfl, by decide +kernel, by decide +kernel⟩
theorem ok_led_row (T : Txt K mg A) : FnOk P w K mg base (L2.CX P w) 7 A.a_led_row A.d_led_row ["many", "witness", "row"] (spP K mg 3 G_led_row) := by
  refine okP [] (g := g_led_row) T.f_led_row sc_led_row rfl (by decide) (fun cdv A outer s H E l T0 hr => ?_) (fun _ _ => rfl)
  have sc := sc_led_row
  exact (ss_cons (s_drop (e_callP [.int 600] ⟨rfl, rfl⟩ (fun _ => Dens.of_ints [600]) rfl (fun t h => pe_call (ok_check_many T) (hr.mono (by decide)) (by rfl) T.m_check_many T.f_check_many.kp (b_check_many T).choose_spec.2 (b_check_many T).choose_spec.1 (passes_call (takes_of rfl rfl rfl rfl) fun _ _ _ _ h => h) h) (a_cons (e_var 0 (pv 0) rfl) a_nil) (by exact (len_cons len_nil)))) (ss_cons (s_drop (e_callP [] ⟨rfl, rfl⟩ (fun _ => Dens.nil) rfl (fun t h => pe_call (ok_check_witness T) (hr.mono (by decide)) (by rfl) T.m_check_witness T.f_check_witness.kp (b_check_witness T) .nil (passes_call (takes_of rfl rfl rfl rfl) fun _ _ _ _ h => h) h) (a_cons (e_var 0 (pv 0) rfl) (a_cons (e_var 1 (pv 1) rfl) a_nil)) (by exact (len_cons (len_cons len_nil))))) (ss_cons (s_drop (e_callP [] ⟨rfl, rfl⟩ (fun _ => Dens.nil) rfl (fun t h => pe_call (ok_check_row T) (hr.mono (by decide)) (by rfl) T.m_check_row T.f_check_row.kp (b_check_row T) .nil (passes_call (takes_of rfl rfl rfl rfl) fun _ _ _ _ h => h) h) (a_cons (e_var 0 (pv 0) rfl) (a_cons (e_var 2 (pv 2) rfl) a_nil)) (by exact (len_cons (len_cons len_nil))))) (ss_one (s_ret (e_callP [] ⟨rfl, rfl⟩ (fun _ => Dens.nil) rfl (fun t h => pe_call (ok_row_led T) (hr.mono (by decide)) (by rfl) T.m_row_led T.f_row_led.kp (b_row_led T) .nil (passes_call (takes_of rfl rfl rfl rfl) fun _ _ _ _ h => h) h) (a_cons (e_var 1 (pv 1) rfl) (a_cons (e_var 2 (pv 2) rfl) a_nil)) (by exact (len_cons (len_cons len_nil)))))))))
theorem b_led_row (T : Txt K mg A) : Binds K A.d_led_row ["many", "witness", "row"] [] := T.f_led_row.binds (ps := ["many", "witness", "row"]) fun _ _ _ _ _ _ us hl => match us, hl with | [_, _, _], _ => rfl
theorem sc__worth_of_image : FnScope ["image", "filling"] ["image", "filling"] (defScope (top 55)) := ⟨rfl, rfl, rfl, by decide +kernel, rfl, by decide +kernel, by decide +kernel⟩
theorem ok__worth_of_image (T : Txt K mg A) : FnOk P w K mg base (L2.CX P w) 2 A.a__worth_of_image A.d__worth_of_image ["image", "filling"] (spP K mg 2 G__worth_of_image) := by
  refine okP [] (g := g__worth_of_image) T.f__worth_of_image sc__worth_of_image rfl (by decide) (fun cdv A outer s H E l T0 hr => ?_) (fun _ _ => rfl)
  have sc := sc__worth_of_image
  exact (ss_cons (s_if (t_cmp r_eq (op_eqX hr.units) (bE (e_var 0 (pv 0) rfl)) (bE e_str) (nomark _)) (ss_one (s_ret e_int)) ss_nil) (ss_cons (s_if (t_cmp r_eq (op_eqX hr.units) (bE (e_var 0 (pv 0) rfl)) (bE e_str) (nomark _)) (ss_one (s_ret e_int)) ss_nil) (ss_one (s_ret (e_callP [] ⟨rfl, rfl⟩ (fun _ => Dens.nil) rfl (fun t h => pe_call (ok_worth_of T) (hr.mono (by decide)) (by rfl) T.m_worth_of T.f_worth_of.kp (b_worth_of T) .nil (passes_call (takes_of rfl rfl rfl rfl) fun _ _ _ _ h => h) h) (a_cons (e_var 0 (pv 0) rfl) (a_cons (e_var 1 (pv 1) rfl) a_nil)) (by exact (len_cons (len_cons len_nil))))))))
theorem b__worth_of_image (T : Txt K mg A) : Binds K A.d__worth_of_image ["image", "filling"] [] := T.f__worth_of_image.binds (ps := ["image", "filling"]) fun _ _ _ _ _ _ us hl => match us, hl with | [_, _], _ => rfl
theorem sc_filling_led : FnScope ["witness", "filling", "image"] ["witness", "filling"] (defScope (top 52)) := ⟨rfl, rfl, rfl, by decide +kernel, rfl, by decide +kernel, by decide +kernel⟩
theorem ok_filling_led (T : Txt K mg A) : FnOk P w K mg base (L2.CX P w) 3 A.a_filling_led A.d_filling_led ["witness", "filling"] (spP K mg 2 G_filling_led) := by
  refine okP [] (g := g_filling_led) T.f_filling_led sc_filling_led rfl (by decide) (fun cdv A outer s H E l T0 hr => ?_) (fun _ _ => rfl)
  have sc := sc_filling_led
  exact (ss_one (s_ret (e_cb r_tuple (fun t h => pe_callTy call_tuple_of (by rfl) T.g_tuple (by decide +kernel) h) (ab_cons (bE (nE (n_lc rfl (tg_name 2 rfl) rfl rfl (fun wi hi => pe_lc (own := [("image", 2)]) rfl sc.nd hi (blkOk_by (N := ["witness", "filling", "image"]) (sc := defScope (top 52)) (by decide +kernel)) (fun _ _ _ _ _ => (pg_name (i := 2) sc.nd rfl (by first | exact Or.inl rfl | exact Or.inr rfl))) (fun _ _ _ _ _ => tYes_ok) (fun _ _ _ _ _ => (e_callP [] ⟨rfl, rfl⟩ (fun _ => Dens.nil) rfl (fun t h => pe_call (ok__worth_of_image T) (hr.mono (by decide)) (by rfl) T.m__worth_of_image T.f__worth_of_image.kp (b__worth_of_image T) .nil passL h) (a_cons (e_var 2 (pv 2) rfl) (a_cons (e_var 1 (pv 1) rfl) a_nil)) (by exact (len_cons (len_cons len_nil)))))) (bE (e_var 0 (pv 0) rfl))))) ab_nil))))
theorem b_filling_led (T : Txt K mg A) : Binds K A.d_filling_led ["witness", "filling"] [] := T.f_filling_led.binds (ps := ["witness", "filling"]) fun _ _ _ _ _ _ us hl => match us, hl with | [_, _], _ => rfl
theorem sc_led_filling : FnScope ["many", "witness", "filling"] ["many", "witness", "filling"] (defScope (top 39)) := ⟨rfl, rfl, rfl, by decide +kernel, rfl, by decide +kernel, by decide +kernel⟩
theorem ok_led_filling (T : Txt K mg A) : FnOk P w K mg base (L2.CX P w) 7 A.a_led_filling A.d_led_filling ["many", "witness", "filling"] (spP K mg 3 G_led_filling) := by
  refine okP [] (g := g_led_filling) T.f_led_filling sc_led_filling rfl (by decide) (fun cdv A outer s H E l T0 hr => ?_) (fun _ _ => rfl)
  have sc := sc_led_filling
  exact (ss_cons (s_drop (e_callP [.int 600] ⟨rfl, rfl⟩ (fun _ => Dens.of_ints [600]) rfl (fun t h => pe_call (ok_check_many T) (hr.mono (by decide)) (by rfl) T.m_check_many T.f_check_many.kp (b_check_many T).choose_spec.2 (b_check_many T).choose_spec.1 (passes_call (takes_of rfl rfl rfl rfl) fun _ _ _ _ h => h) h) (a_cons (e_var 0 (pv 0) rfl) a_nil) (by exact (len_cons len_nil)))) (ss_cons (s_drop (e_callP [] ⟨rfl, rfl⟩ (fun _ => Dens.nil) rfl (fun t h => pe_call (ok_check_witness T) (hr.mono (by decide)) (by rfl) T.m_check_witness T.f_check_witness.kp (b_check_witness T) .nil (passes_call (takes_of rfl rfl rfl rfl) fun _ _ _ _ h => h) h) (a_cons (e_var 0 (pv 0) rfl) (a_cons (e_var 1 (pv 1) rfl) a_nil)) (by exact (len_cons (len_cons len_nil))))) (ss_cons (s_drop (e_callP [] ⟨rfl, rfl⟩ (fun _ => Dens.nil) rfl (fun t h => pe_call (ok_check_filling T) (hr.mono (by decide)) (by rfl) T.m_check_filling T.f_check_filling.kp (b_check_filling T) .nil (passes_call (takes_of rfl rfl rfl rfl) fun _ _ _ _ h => h) h) (a_cons (e_var 0 (pv 0) rfl) (a_cons (e_var 2 (pv 2) rfl) a_nil)) (by exact (len_cons (len_cons len_nil))))) (ss_one (s_ret (e_callP [] ⟨rfl, rfl⟩ (fun _ => Dens.nil) rfl (fun t h => pe_call (ok_filling_led T) (hr.mono (by decide)) (by rfl) T.m_filling_led T.f_filling_led.kp (b_filling_led T) .nil (passes_call (takes_of rfl rfl rfl rfl) fun _ _ _ _ h => h) h) (a_cons (e_var 1 (pv 1) rfl) (a_cons (e_var 2 (pv 2) rfl) a_nil)) (by exact (len_cons (len_cons len_nil)))))))))
theorem b_led_filling (T : Txt K mg A) : Binds K A.d_led_filling ["many", "witness", "filling"] [] := T.f_led_filling.binds (ps := ["many", "witness", "filling"]) fun _ _ _ _ _ _ us hl => match us, hl with | [_, _, _], _ => rfl
theorem sc__led_image : FnScope ["witness", "image"] ["witness", "image"] (defScope (top 54)) := ⟨rfl, rfl, rfl, by decide +kernel, rfl, by decide +kernel, by decide +kernel⟩
theorem ok__led_image (T : Txt K mg A) : FnOk P w K mg base (L2.CX P w) 3 A.a__led_image A.d__led_image ["witness", "image"] (spP K mg 2 G__led_image) := by
  refine okP [] (g := g__led_image) T.f__led_image sc__led_image rfl (by decide) (fun cdv A outer s H E l T0 hr => ?_) (fun _ _ => rfl)
  have sc := sc__led_image
  exact (ss_cons (s_if (t_cmp r_inX (op_inX hr.units) (bE (e_var 1 (pv 1) rfl)) (bE (e_tup (a_cons e_str (a_cons e_str a_nil)))) (by rfl)) (ss_one (s_ret (e_var 1 (pv 1) rfl))) ss_nil) (ss_one (s_ret (e_callP [] ⟨rfl, rfl⟩ (fun _ => Dens.nil) rfl (fun t h => pe_call (ok_image_of T) (hr.mono (by decide)) (by rfl) T.m_image_of T.f_image_of.kp (b_image_of T) .nil (passes_call (takes_of rfl rfl rfl rfl) fun _ _ _ _ h => h) h) (a_cons (e_var 0 (pv 0) rfl) (a_cons (e_var 1 (pv 1) rfl) a_nil)) (by exact (len_cons (len_cons len_nil)))))))
theorem b__led_image (T : Txt K mg A) : Binds K A.d__led_image ["witness", "image"] [] := T.f__led_image.binds (ps := ["witness", "image"]) fun _ _ _ _ _ _ us hl => match us, hl with | [_, _], _ => rfl
theorem sc_witness_behind : FnScope ["one", "other", "image"] ["one", "other"] (defScope (top 50)) := ⟨rfl, rfl, rfl, by decide +kernel, rfl, by decide +kernel, by decide +kernel⟩
theorem ok_witness_behind (T : Txt K mg A) : FnOk P w K mg base (L2.CX P w) 4 A.a_witness_behind A.d_witness_behind ["one", "other"] (spP K mg 2 G_witness_behind) := by
  refine okP [] (g := g_witness_behind) T.f_witness_behind sc_witness_behind rfl (by decide) (fun cdv A outer s H E l T0 hr => ?_) (fun _ _ => rfl)
  have sc := sc_witness_behind
  exact (ss_one (s_ret (e_cb r_tuple (fun t h => pe_callTy call_tuple_of (by rfl) T.g_tuple (by decide +kernel) h) (ab_cons (bE (nE (n_lc rfl (tg_name 2 rfl) rfl rfl (fun wi hi => pe_lc (own := [("image", 2)]) rfl sc.nd hi (blkOk_by (N := ["one", "other", "image"]) (sc := defScope (top 50)) (by decide +kernel)) (fun _ _ _ _ _ => (pg_name (i := 2) sc.nd rfl (by first | exact Or.inl rfl | exact Or.inr rfl))) (fun _ _ _ _ _ => tYes_ok) (fun _ _ _ _ _ => (e_callP [] ⟨rfl, rfl⟩ (fun _ => Dens.nil) rfl (fun t h => pe_call (ok__led_image T) (hr.mono (by decide)) (by rfl) T.m__led_image T.f__led_image.kp (b__led_image T) .nil passL h) (a_cons (e_var 1 (pv 1) rfl) (a_cons (e_var 2 (pv 2) rfl) a_nil)) (by exact (len_cons (len_cons len_nil)))))) (bE (e_var 0 (pv 0) rfl))))) ab_nil))))
theorem b_witness_behind (T : Txt K mg A) : Binds K A.d_witness_behind ["one", "other"] [] := T.f_witness_behind.binds (ps := ["one", "other"]) fun _ _ _ _ _ _ us hl => match us, hl with | [_, _], _ => rfl
theorem sc_behind : FnScope ["many", "one", "other"] ["many", "one", "other"] (defScope (top 40)) := ⟨rfl, rfl, rfl, by decide +kernel, rfl, by decide +kernel, by decide +kernel⟩
theorem ok_behind (T : Txt K mg A) : FnOk P w K mg base (L2.CX P w) 7 A.a_behind A.d_behind ["many", "one", "other"] (spP K mg 3 G_behind) := by
  refine okP [] (g := g_behind) T.f_behind sc_behind rfl (by decide) (fun cdv A outer s H E l T0 hr => ?_) (fun _ _ => rfl)
  have sc := sc_behind
  exact (ss_cons (s_drop (e_callP [.int 600] ⟨rfl, rfl⟩ (fun _ => Dens.of_ints [600]) rfl (fun t h => pe_call (ok_check_many T) (hr.mono (by decide)) (by rfl) T.m_check_many T.f_check_many.kp (b_check_many T).choose_spec.2 (b_check_many T).choose_spec.1 (passes_call (takes_of rfl rfl rfl rfl) fun _ _ _ _ h => h) h) (a_cons (e_var 0 (pv 0) rfl) a_nil) (by exact (len_cons len_nil)))) (ss_cons (s_drop (e_callP [] ⟨rfl, rfl⟩ (fun _ => Dens.nil) rfl (fun t h => pe_call (ok_check_witness T) (hr.mono (by decide)) (by rfl) T.m_check_witness T.f_check_witness.kp (b_check_witness T) .nil (passes_call (takes_of rfl rfl rfl rfl) fun _ _ _ _ h => h) h) (a_cons (e_var 0 (pv 0) rfl) (a_cons (e_var 1 (pv 1) rfl) a_nil)) (by exact (len_cons (len_cons len_nil))))) (ss_cons (s_drop (e_callP [] ⟨rfl, rfl⟩ (fun _ => Dens.nil) rfl (fun t h => pe_call (ok_check_witness T) (hr.mono (by decide)) (by rfl) T.m_check_witness T.f_check_witness.kp (b_check_witness T) .nil (passes_call (takes_of rfl rfl rfl rfl) fun _ _ _ _ h => h) h) (a_cons (e_var 0 (pv 0) rfl) (a_cons (e_var 2 (pv 2) rfl) a_nil)) (by exact (len_cons (len_cons len_nil))))) (ss_one (s_ret (e_callP [] ⟨rfl, rfl⟩ (fun _ => Dens.nil) rfl (fun t h => pe_call (ok_witness_behind T) (hr.mono (by decide)) (by rfl) T.m_witness_behind T.f_witness_behind.kp (b_witness_behind T) .nil (passes_call (takes_of rfl rfl rfl rfl) fun _ _ _ _ h => h) h) (a_cons (e_var 1 (pv 1) rfl) (a_cons (e_var 2 (pv 2) rfl) a_nil)) (by exact (len_cons (len_cons len_nil)))))))))
theorem b_behind (T : Txt K mg A) : Binds K A.d_behind ["many", "one", "other"] [] := T.f_behind.binds (ps := ["many", "one", "other"]) fun _ _ _ _ _ _ us hl => match us, hl with | [_, _, _], _ => rfl
theorem sc_is_exchange_of : FnScope ["many", "thing"] ["many", "thing"] (defScope (top 45)) := ⟨rfl, rfl, rfl, by decide +kernel, rfl, by decide +kernel, by decide +kernel⟩
theorem ok_is_exchange_of (T : Txt K mg A) : FnOk P w K mg base (L2.CX P w) 6 A.a_is_exchange_of A.d_is_exchange_of ["many", "thing"] (spP K mg 2 G_is_exchange_of) := by
  refine okP [] (g := g_is_exchange_of) T.f_is_exchange_of sc_is_exchange_of rfl (by decide) (fun cdv A outer s H E l T0 hr => ?_) (fun _ _ => rfl)
  have sc := sc_is_exchange_of
  exact (ss_cons (s_if (PW.pt (w_or (t_not (t_val (e_callP [] ⟨rfl, rfl⟩ (fun _ => Dens.nil) rfl (fun t h => pe_call (ok_is_witness_of T) (hr.mono (by decide)) (by rfl) T.m_is_witness_of T.f_is_witness_of.kp (b_is_witness_of T) .nil (passes_call (takes_of rfl rfl rfl rfl) fun _ _ _ _ h => h) h) (a_cons (e_var 0 (pv 0) rfl) (a_cons (e_var 1 (pv 1) rfl) a_nil)) (by exact (len_cons (len_cons len_nil)))))) (w_or (t_cmp r_inX (op_inX hr.units) (bE e_str) (bE (e_var 1 (pv 1) rfl)) (by rfl)) (w_or1 (t_cmp r_inX (op_inX hr.units) (bE e_str) (bE (e_var 1 (pv 1) rfl)) (by rfl)))))) (ss_one (s_ret e_bl)) ss_nil) (ss_one (s_ret (e_callP [] ⟨rfl, rfl⟩ (fun _ => Dens.nil) rfl (fun t h => pe_call (ok_are_unlike T) (hr.mono (by decide)) (by rfl) T.m_are_unlike T.f_are_unlike.kp (b_are_unlike T) .nil (passes_call (takes_of rfl rfl rfl rfl) fun _ _ _ _ h => h) h) (a_cons (e_var 1 (pv 1) rfl) a_nil) (by exact (len_cons len_nil))))))
theorem b_is_exchange_of (T : Txt K mg A) : Binds K A.d_is_exchange_of ["many", "thing"] [] := T.f_is_exchange_of.binds (ps := ["many", "thing"]) fun _ _ _ _ _ _ us hl => match us, hl with | [_, _], _ => rfl
theorem sc_is_exchange : FnScope ["many", "thing"] ["many", "thing"] (defScope (top 41)) := ⟨rfl, rfl, rfl, by decide +kernel, rfl, by decide +kernel, by decide +kernel⟩
theorem ok_is_exchange (T : Txt K mg A) : FnOk P w K mg base (L2.CX P w) 7 A.a_is_exchange A.d_is_exchange ["many", "thing"] (spP K mg 2 G_is_exchange) := by
  refine okP [] (g := g_is_exchange) T.f_is_exchange sc_is_exchange rfl (by decide) (fun cdv A outer s H E l T0 hr => ?_) (fun _ _ => rfl)
  have sc := sc_is_exchange
  exact (ss_cons (s_drop (e_callP [.int 600] ⟨rfl, rfl⟩ (fun _ => Dens.of_ints [600]) rfl (fun t h => pe_call (ok_check_many T) (hr.mono (by decide)) (by rfl) T.m_check_many T.f_check_many.kp (b_check_many T).choose_spec.2 (b_check_many T).choose_spec.1 (passes_call (takes_of rfl rfl rfl rfl) fun _ _ _ _ h => h) h) (a_cons (e_var 0 (pv 0) rfl) a_nil) (by exact (len_cons len_nil)))) (ss_one (s_ret (e_callP [] ⟨rfl, rfl⟩ (fun _ => Dens.nil) rfl (fun t h => pe_call (ok_is_exchange_of T) (hr.mono (by decide)) (by rfl) T.m_is_exchange_of T.f_is_exchange_of.kp (b_is_exchange_of T) .nil (passes_call (takes_of rfl rfl rfl rfl) fun _ _ _ _ h => h) h) (a_cons (e_var 0 (pv 0) rfl) (a_cons (e_var 1 (pv 1) rfl) a_nil)) (by exact (len_cons (len_cons len_nil)))))))
theorem b_is_exchange (T : Txt K mg A) : Binds K A.d_is_exchange ["many", "thing"] [] := T.f_is_exchange.binds (ps := ["many", "thing"]) fun _ _ _ _ _ _ us hl => match us, hl with | [_, _], _ => rfl
theorem sc_check_exchange : FnScope ["many", "exchange"] ["many", "exchange"] (defScope (top 47)) := ⟨rfl, rfl, rfl, by decide +kernel, rfl, by decide +kernel, by decide +kernel⟩
theorem ok_check_exchange (T : Txt K mg A) : FnOk P w K mg base (L2.CX P w) 7 A.a_check_exchange A.d_check_exchange ["many", "exchange"] (spP K mg 2 G_check_exchange) := by
  refine okP [] (g := g_check_exchange) T.f_check_exchange sc_check_exchange rfl (by decide) (fun cdv A outer s H E l T0 hr => ?_) (fun _ _ => rfl)
  have sc := sc_check_exchange
  exact (ss_one (s_if (t_not (t_val (e_callP [] ⟨rfl, rfl⟩ (fun _ => Dens.nil) rfl (fun t h => pe_call (ok_is_exchange_of T) (hr.mono (by decide)) (by rfl) T.m_is_exchange_of T.f_is_exchange_of.kp (b_is_exchange_of T) .nil (passes_call (takes_of rfl rfl rfl rfl) fun _ _ _ _ h => h) h) (a_cons (e_var 0 (pv 0) rfl) (a_cons (e_var 1 (pv 1) rfl) a_nil)) (by exact (len_cons (len_cons len_nil)))))) (ss_one (s_raise T.k_BadExchange.g (ps_raise rfl (takes_of rfl rfl rfl rfl) (pmk_own PySem.F.excBase_ValueError T.k_BadExchange.x T.k_BadExchange.g T.k_BadExchange.k (raises_own T.k_BadExchange.b T.k_BadExchange.t) (by exact rfl))))) ss_nil))
theorem b_check_exchange (T : Txt K mg A) : Binds K A.d_check_exchange ["many", "exchange"] [] := T.f_check_exchange.binds (ps := ["many", "exchange"]) fun _ _ _ _ _ _ us hl => match us, hl with | [_, _], _ => rfl
theorem sc_exchange_turned : FnScope ["exchange", "back", "index", "image", "variable"] ["exchange"] (defScope (top 51)) := ⟨rfl, rfl, rfl, by decide +kernel, rfl, by decide +kernel, by decide +kernel⟩
theorem ok_exchange_turned (T : Txt K mg A) : FnOk P w K mg base (L2.CX P w) 1 A.a_exchange_turned A.d_exchange_turned ["exchange"] (spP K mg 1 G_exchange_turned) := by
  refine okP [1] (g := g_exchange_turned) T.f_exchange_turned sc_exchange_turned rfl (by decide) (fun cdv A outer s H E l T0 hr => ?_) (fun _ _ => rfl)
  have sc := sc_exchange_turned
  exact (ss_cons (s_asgO 1 rfl (fun te h => ps_set (i := 1) sc.nd rfl (by first | exact Or.inl rfl | exact Or.inr rfl) h) (n_d0 pe_dnewK)) (ss_cons (s_forE rfl rfl (passes_of rfl) (fun ta h => pi_enum (by rfl) T.g_enumerate h) (fun ta h => pi_enT (by rfl) T.g_enumerate h) (e_var 0 (pv 0) rfl) (pg_tup rfl (pgs_cons (pg_name (i := 2) sc.nd rfl (by first | exact Or.inl rfl | exact Or.inr rfl)) (pgs_cons (pg_name (i := 3) sc.nd rfl (by first | exact Or.inl rfl | exact Or.inr rfl)) pgs_nil))) (tg_tup [2, 3] rfl rfl) (ss_one (s_if (t_cmp r_gt op_gt (bE (e_var 3 (pv 3) rfl)) (bE e_int) (nomark _)) (ss_one (s_setA 1 rfl (fun te tj h hj => ps_asg h (pg_sub (pv 1) hj (set_all (hu_of hr)))) (e_var 3 (pv 3) rfl) (e_bin r_add (fun t u h1 h2 => pe_op op_addA h1 h2) (bE (e_var 2 (pv 2) rfl)) (bE e_int)))) (ss_one (s_setA 1 rfl (fun te tj h hj => ps_asg h (pg_sub (pv 1) hj (set_all (hu_of hr)))) (e_un r_neg (fun t h => pe_un un_neg h) (bE (e_var 3 (pv 3) rfl))) (e_un r_neg (fun t h => pe_un un_neg h) (bE (e_bin r_add (fun t u h1 h2 => pe_op op_addA h1 h2) (bE (e_var 2 (pv 2) rfl)) (bE e_int))))))))) (ss_one (s_ret (e_cb r_tuple (fun t h => pe_callTy call_tuple_of (by rfl) T.g_tuple (by decide +kernel) h) (ab_cons (bE (nE (n_lc rfl (tg_name 4 rfl) rfl rfl (fun wi hi => pe_lc (own := [("variable", 4)]) rfl sc.nd hi (blkOk_by (N := ["exchange", "back", "index", "image", "variable"]) (sc := defScope (top 51)) (by decide +kernel)) (fun _ _ _ _ _ => (pg_name (i := 4) sc.nd rfl (by first | exact Or.inl rfl | exact Or.inr rfl))) (fun _ _ _ _ _ => tYes_ok) (fun _ _ _ _ _ => (e_bin r_ixA (fun t u h1 h2 => pe_ix (ix_all (hu_of hr)) h1 h2 (fun _ _ => rfl)) (b_var 1 (pv 1)) (bE (e_var 4 (pv 4) rfl))))) (bE (nE (n_cb r_sortedA (fun t h => pe_callB (cr_sortA rfl) (by rfl) T.g_sorted (by decide +kernel) h) (ab_cons (b_var 1 (pv 1)) ab_nil))))))) ab_nil))))))
theorem b_exchange_turned (T : Txt K mg A) : Binds K A.d_exchange_turned ["exchange"] [] := T.f_exchange_turned.binds (ps := ["exchange"]) fun _ _ _ _ _ _ us hl => match us, hl with | [_], _ => rfl
theorem sc_turned : FnScope ["many", "exchange"] ["many", "exchange"] (defScope (top 42)) := ⟨rfl, rfl, rfl, by decide +kernel, rfl, by decide +kernel, by decide +kernel⟩
theorem ok_turned (T : Txt K mg A) : FnOk P w K mg base (L2.CX P w) 8 A.a_turned A.d_turned ["many", "exchange"] (spP K mg 2 G_turned) := by
  refine okP [] (g := g_turned) T.f_turned sc_turned rfl (by decide) (fun cdv A outer s H E l T0 hr => ?_) (fun _ _ => rfl)
  have sc := sc_turned
  exact (ss_cons (s_drop (e_callP [.int 600] ⟨rfl, rfl⟩ (fun _ => Dens.of_ints [600]) rfl (fun t h => pe_call (ok_check_many T) (hr.mono (by decide)) (by rfl) T.m_check_many T.f_check_many.kp (b_check_many T).choose_spec.2 (b_check_many T).choose_spec.1 (passes_call (takes_of rfl rfl rfl rfl) fun _ _ _ _ h => h) h) (a_cons (e_var 0 (pv 0) rfl) a_nil) (by exact (len_cons len_nil)))) (ss_cons (s_drop (e_callP [] ⟨rfl, rfl⟩ (fun _ => Dens.nil) rfl (fun t h => pe_call (ok_check_exchange T) (hr.mono (by decide)) (by rfl) T.m_check_exchange T.f_check_exchange.kp (b_check_exchange T) .nil (passes_call (takes_of rfl rfl rfl rfl) fun _ _ _ _ h => h) h) (a_cons (e_var 0 (pv 0) rfl) (a_cons (e_var 1 (pv 1) rfl) a_nil)) (by exact (len_cons (len_cons len_nil))))) (ss_one (s_ret (e_callP [] ⟨rfl, rfl⟩ (fun _ => Dens.nil) rfl (fun t h => pe_call (ok_exchange_turned T) (hr.mono (by decide)) (by rfl) T.m_exchange_turned T.f_exchange_turned.kp (b_exchange_turned T) .nil (passes_call (takes_of rfl rfl rfl rfl) fun _ _ _ _ h => h) h) (a_cons (e_var 1 (pv 1) rfl) a_nil) (by exact (len_cons len_nil)))))))
theorem b_turned (T : Txt K mg A) : Binds K A.d_turned ["many", "exchange"] [] := T.f_turned.binds (ps := ["many", "exchange"]) fun _ _ _ _ _ _ us hl => match us, hl with | [_, _], _ => rfl
theorem sc__law_begun : FnScope ["script", "cells_here", "cell", "large"] ["script"] (defScope (top 57)) := ⟨rfl, rfl, rfl, by decide +kernel, rfl, by decide +kernel, by decide +kernel⟩
theorem ok__law_begun (T : Txt K mg A) : FnOk P w K mg base (L2.CX P w) 1 A.a__law_begun A.d__law_begun ["script"] (spBegun K mg) := by
  refine T.f__law_begun.okX sc__law_begun (fun vs H Q E h => h.1) fun cdv A0 outer s H vs Q E hr h => ?_
  obtain ⟨hl, l0, F0, O0, T0, ns, fit, hd, hz, hQ⟩ := h
  have sc := sc__law_begun
  have D1 : PS (cxOf (L2.CX P w) P w K mg base ["script", "cells_here", "cell", "large"] "_law_begun" (defScope (top 57)) A.a__law_begun cdv A0 outer s H E) ((defBody (top 57)).getD 0 (.Pass ⟨0, 0, 0, 0⟩)) (tS (bP K mg l0 (exT T0) [3]) E begunG1) := (s_lc 1 rfl rfl (tg_name 2 rfl) rfl rfl (fun wi hi => ps_setLc (i := 1) (own := [("cell", 2)]) rfl sc.nd rfl rfl (sw_true rfl rfl (by decide +kernel) (by decide +kernel)) hi (blkOk_by (N := ["script", "cells_here", "cell", "large"]) (sc := defScope (top 57)) (by decide +kernel)) (fun _ _ _ _ _ => (pg_name (i := 2) sc.nd rfl (by first | exact Or.inl rfl | exact Or.inr rfl))) (fun _ _ _ _ _ => tYes_ok) (fun _ _ _ _ _ => (e_cb r_abs (fun t h => pe_callB call_abs (by rfl) T.g_abs (by decide +kernel) h) (ab_cons (bE (e_var 2 (pv 2) rfl)) ab_nil)))) (bE (e_var 0 (pv 0) rfl)))
  have D2 : PS (cxOf (L2.CX P w) P w K mg base ["script", "cells_here", "cell", "large"] "_law_begun" (defScope (top 57)) A.a__law_begun cdv A0 outer s H E) ((defBody (top 57)).getD 1 (.Pass ⟨0, 0, 0, 0⟩)) (tS (bP K mg l0 (exT T0) [3]) E begunG2) := (s_lcO 3 rfl rfl (tg_name 2 rfl) rfl rfl (fun wi hi => ps_setLc (i := 3) (own := [("cell", 2)]) rfl sc.nd rfl rfl (sw_true rfl rfl (by decide +kernel) (by decide +kernel)) hi (blkOk_by (N := ["script", "cells_here", "cell", "large"]) (sc := defScope (top 57)) (by decide +kernel)) (fun _ _ _ _ _ => (pg_name (i := 2) sc.nd rfl (by first | exact Or.inl rfl | exact Or.inr rfl))) (fun _ _ _ _ _ => (tOne_ok (t_cmp r_ge op_ge (bE (e_var 2 (pv 2) rfl)) (bE (e_bin r_pow (fun t u h1 h2 => pe_op op_pow h1 h2) (bE e_int) (bE e_int))) (nomark _)))) (fun _ _ _ _ _ => (e_bin r_sub (fun t u h1 h2 => pe_op op_sub h1 h2) (bE (e_var 2 (pv 2) rfl)) (bE (e_bin r_pow (fun t u h1 h2 => pe_op op_pow h1 h2) (bE e_int) (bE e_int)))))) (bE (e_var 1 (pv 1) rfl)))
  have D3 : PE (cxOf (L2.CX P w) P w K mg base ["script", "cells_here", "cell", "large"] "_law_begun" (defScope (top 57)) A.a__law_begun cdv A0 outer s H E) (retE ((defBody (top 57)).getD 2 (.Pass ⟨0, 0, 0, 0⟩))) (tDisp begunTrs) := pe_disp (pps_cons pe_str (pv 3) (pps_cons pe_str (pv 1) (pps_cons pe_str pe_int (pps_cons pe_str pe_int pps_nil)))) rfl rfl (by simp) (by decide)
  exact ⟨_, pss_cons D1 (pss_cons D2 (pss_one (ps_ret D3))), begun_read rfl rfl rfl (pre_start (b := bP K mg l0 (exT T0) [3]) ⟨T0, rfl, fit⟩ (fun q => absurd q Bool.false_ne_true) hd (by rw [hl]; decide) (by rw [hl]; rfl)) fit hz (begun_g1 hz) begun_g2 (fun l F' H' e1 e2 e3 e4 e5 => hQ l F' H' e1 e2 e3 e4 e5)⟩
theorem b__law_begun (T : Txt K mg A) : Binds K A.d__law_begun ["script"] [] := T.f__law_begun.binds (ps := ["script"]) fun _ _ _ _ _ _ us hl => match us, hl with | [_], _ => rfl
theorem sc__law_draw : FnScope ["state", "size_here", "found", "turn", "cell", "mixed"] ["state", "size_here"] (defScope (top 58)) := ⟨rfl, rfl, rfl, by decide +kernel, rfl, by decide +kernel, by decide +kernel⟩
theorem ok__law_draw (T : Txt K mg A) : FnOk P w K mg base (L2.CX P w) 1 A.a__law_draw A.d__law_draw ["state", "size_here"] (spS K mg 2 G__law_draw) := by
  refine okS [] (g := g__law_draw) T.f__law_draw sc__law_draw rfl (by decide) (fun cdv A outer s H E l TP hr => ?_) (fun _ _ _ => rfl)
  have sc := sc__law_draw
  exact (ss_cons (s_while 100000 (passes_of rfl) (PW.pt (w_and (t_cmp r_eq (op_eqX hr.units) (bE (e_left 0 rfl rfl (pe_dget (hu_of hr) (pv 0) pe_str (fun _ _ => rfl)))) (bE e_int) (nomark _)) (w_and1 (t_large 0 rfl rfl (pt_cmpR (op_neD hr.units) (pe_dget (hu_of hr) (pv 0) pe_str (fun _ _ => rfl)) pe_l0 (nomark _)))))) (ss_one (s_popL 0 rfl rfl (ps_asg (pe_bm PySem.F.plainAttrs_list PySem.F.slot_list_pop PySem.F.type_list_pop mt_popAt (pe_dget (hu_of hr) (pv 0) pe_str (fun _ _ => rfl)) (pa_cons pe_int pa_nil)) (pg_sub (pv 0) pe_str (set_dict (hu_of hr))))))) (ss_cons (s_if (t_cmp r_gt op_gt (bE (e_left 0 rfl rfl (pe_dget (hu_of hr) (pv 0) pe_str (fun _ _ => rfl)))) (bE e_int) (nomark _)) (ss_cons (s_asg 2 rfl (fun te h => ps_set (i := 2) sc.nd rfl (by first | exact Or.inl rfl | exact Or.inr rfl) h) (e_bin r_mod (fun t u h1 h2 => pe_op op_mod h1 h2) (bE (e_cb r_int (fun t h => pe_callTy call_int1 (by rfl) T.g_int (by decide +kernel) h) (ab_cons (bE (e_left 0 rfl rfl (pe_dget (hu_of hr) (pv 0) pe_str (fun _ _ => rfl)))) ab_nil))) (bE (e_var 1 (pv 1) rfl)))) (ss_cons (s_left 0 rfl rfl (fun te h => ps_asg h (pg_sub (pv 0) pe_str (set_dict (hu_of hr)))) (e_bin r_divW (fun t u h1 h2 => pe_op op_fdivW h1 h2) (bE (e_left 0 rfl rfl (pe_dget (hu_of hr) (pv 0) pe_str (fun _ _ => rfl)))) (bE (e_var 1 (pv 1) rfl)))) (ss_one (s_ret (e_var 2 (pv 2) rfl))))) ss_nil) (ss_cons (s_asg 3 rfl (fun te h => ps_set (i := 3) sc.nd rfl (by first | exact Or.inl rfl | exact Or.inr rfl) h) (e_bin r_add (fun t u h1 h2 => pe_op op_addA h1 h2) (bE (e_turn 0 rfl rfl (pe_dget (hu_of hr) (pv 0) pe_str (fun _ _ => rfl)))) (bE e_int))) (ss_cons (s_turn 0 rfl rfl (fun te h => ps_asg h (pg_sub (pv 0) pe_str (set_dict (hu_of hr)))) (e_var 3 (pv 3) rfl)) (ss_cons (s_asg 4 rfl (fun te h => ps_set (i := 4) sc.nd rfl (by first | exact Or.inl rfl | exact Or.inr rfl) h) (e_if (t_cmp r_ne (op_neX hr.units) (bE (e_cells 0 rfl rfl (pe_dget (hu_of hr) (pv 0) pe_str (fun _ _ => rfl)))) (bE (nE (n_lst a_nil))) (nomark _)) (e_bin r_ixA (fun t u h1 h2 => pe_ix (ix_all (hu_of hr)) h1 h2 (fun _ _ => rfl)) (bE (e_cells 0 rfl rfl (pe_dget (hu_of hr) (pv 0) pe_str (fun _ _ => rfl)))) (bE (e_bin r_mod (fun t u h1 h2 => pe_op op_mod h1 h2) (bE (e_cb r_int (fun t h => pe_callTy call_int1 (by rfl) T.g_int (by decide +kernel) h) (ab_cons (bE (e_var 3 (pv 3) rfl)) ab_nil))) (bE (e_cb r_lenA (fun t h => pe_callB cr_lenA (by rfl) T.g_len (by decide +kernel) h) (ab_cons (bE (e_cells 0 rfl rfl (pe_dget (hu_of hr) (pv 0) pe_str (fun _ _ => rfl)))) ab_nil)))))) e_int)) (ss_cons (s_asg 5 rfl (fun te h => ps_set (i := 5) sc.nd rfl (by first | exact Or.inl rfl | exact Or.inr rfl) h) (e_bin r_mod (fun t u h1 h2 => pe_op op_mod h1 h2) (bE (e_cb r_int (fun t h => pe_callTy call_int1 (by rfl) T.g_int (by decide +kernel) h) (ab_cons (bE (e_bin r_pow (fun t u h1 h2 => pe_op op_pow h1 h2) (bE (e_bin r_add (fun t u h1 h2 => pe_op op_addA h1 h2) (bE (e_bin r_add (fun t u h1 h2 => pe_op op_addA h1 h2) (bE (e_bin r_mod (fun t u h1 h2 => pe_op op_mod h1 h2) (bE (e_cb r_int (fun t h => pe_callTy call_int1 (by rfl) T.g_int (by decide +kernel) h) (ab_cons (bE (e_var 4 (pv 4) rfl)) ab_nil))) (bE e_int))) (bE (e_bin r_mulT (fun t u h1 h2 => pe_op op_mulT h1 h2) (bE e_int) (bE (e_var 3 (pv 3) rfl)))))) (bE e_int))) (bE e_int))) ab_nil))) (bE e_int))) (ss_one (s_ret (e_bin r_mod (fun t u h1 h2 => pe_op op_mod h1 h2) (bE (e_cb r_int (fun t h => pe_callTy call_int1 (by rfl) T.g_int (by decide +kernel) h) (ab_cons (bE (e_bin r_divW (fun t u h1 h2 => pe_op op_fdivW h1 h2) (bE (e_bin r_mod (fun t u h1 h2 => pe_op op_mod h1 h2) (bE (e_cb r_int (fun t h => pe_callTy call_int1 (by rfl) T.g_int (by decide +kernel) h) (ab_cons (bE (e_bin r_pow (fun t u h1 h2 => pe_op op_pow h1 h2) (bE (e_bin r_add (fun t u h1 h2 => pe_op op_addA h1 h2) (bE (e_var 5 (pv 5) rfl)) (bE (e_bin r_mulT (fun t u h1 h2 => pe_op op_mulT h1 h2) (bE e_int) (bE (e_var 3 (pv 3) rfl)))))) (bE e_int))) ab_nil))) (bE e_int))) (bE e_int))) ab_nil))) (bE (e_var 1 (pv 1) rfl)))))))))))
theorem b__law_draw (T : Txt K mg A) : Binds K A.d__law_draw ["state", "size_here"] [] := T.f__law_draw.binds (ps := ["state", "size_here"]) fun _ _ _ _ _ _ us hl => match us, hl with | [_, _], _ => rfl
theorem sc__law_pick : FnScope ["state", "several"] ["state", "several"] (defScope (top 59)) := ⟨rfl, rfl, rfl, by decide +kernel, rfl, by decide +kernel, by decide +kernel⟩
theorem ok__law_pick (T : Txt K mg A) : FnOk P w K mg base (L2.CX P w) 2 A.a__law_pick A.d__law_pick ["state", "several"] (spS K mg 2 G__law_pick) := by
  refine okS [] (g := g__law_pick) T.f__law_pick sc__law_pick rfl (by decide) (fun cdv A outer s H E l TP hr => ?_) (fun _ _ _ => rfl)
  have sc := sc__law_pick
  exact (ss_one (s_ret (e_bin r_ixA (fun t u h1 h2 => pe_ix (ix_all (hu_of hr)) h1 h2 (fun _ _ => rfl)) (bE (e_var 1 (pv 1) rfl)) (bE (e_callS ⟨rfl, rfl⟩ rfl rfl (fun t h => pe_call (ok__law_draw T) (hr.mono (by decide)) (by rfl) T.m__law_draw T.f__law_draw.kp (b__law_draw T) .nil (passes_call (takes_of rfl rfl rfl rfl) fun _ _ _ _ h => h) h) (a_cons (e_var 0 (pv 0) rfl) (a_cons (e_cb r_lenA (fun t h => pe_callB cr_lenA (by rfl) T.g_len (by decide +kernel) h) (ab_cons (bE (e_var 1 (pv 1) rfl)) ab_nil)) a_nil)) (by exact (len_cons (len_cons len_nil))))))))
theorem b__law_pick (T : Txt K mg A) : Binds K A.d__law_pick ["state", "several"] [] := T.f__law_pick.binds (ps := ["state", "several"]) fun _ _ _ _ _ _ us hl => match us, hl with | [_, _], _ => rfl
theorem sc__law_mixed : FnScope ["state", "several", "line", "found"] ["state", "several"] (defScope (top 60)) := ⟨rfl, rfl, rfl, by decide +kernel, rfl, by decide +kernel, by decide +kernel⟩
theorem ok__law_mixed (T : Txt K mg A) : FnOk P w K mg base (L2.CX P w) 2 A.a__law_mixed A.d__law_mixed ["state", "several"] (spS K mg 2 G__law_mixed) := by
  refine okS [2, 3] (g := g__law_mixed) T.f__law_mixed sc__law_mixed rfl (by decide) (fun cdv A outer s H E l TP hr => ?_) (fun _ _ _ => rfl)
  have sc := sc__law_mixed
  exact (ss_cons (s_parOO 2 3 rfl rfl (fun t1 t2 h1 h2 => ps_par (by rfl) sc.nd rfl rfl (by decide) rfl rfl (pa_cons h1 (pa_cons h2 pa_nil)) (by rfl)) (n_cb r_list (fun t h => pe_callTy call_list_of (by rfl) T.g_list (by decide +kernel) h) (ab_cons (bE (e_var 1 (pv 1) rfl)) ab_nil)) (n_lst a_nil)) (ss_cons (s_while 100000 (passes_of rfl) (t_cmp r_ne (op_neX hr.units) (b_var 2 (pv 2)) (bE (nE (n_lst a_nil))) (nomark _)) (ss_one (s_appPop 3 2 (by decide) rfl rfl (fun tj h => ps_expr (pe_bm PySem.F.plainAttrs_list PySem.F.slot_list_append PySem.F.type_list_append mt_append (pv 3) (pa_cons (pe_bm PySem.F.plainAttrs_list PySem.F.slot_list_pop PySem.F.type_list_pop mt_popAt (pv 2) (pa_cons h pa_nil)) pa_nil))) (e_callS ⟨rfl, rfl⟩ rfl rfl (fun t h => pe_call (ok__law_draw T) (hr.mono (by decide)) (by rfl) T.m__law_draw T.f__law_draw.kp (b__law_draw T) .nil (passes_call (takes_of rfl rfl rfl rfl) fun _ _ _ _ h => h) h) (a_cons (e_var 0 (pv 0) rfl) (a_cons (e_cb r_lenA (fun t h => pe_callB cr_lenA (by rfl) T.g_len (by decide +kernel) h) (ab_cons (b_var 2 (pv 2)) ab_nil)) a_nil)) (by exact (len_cons (len_cons len_nil))))))) (ss_one (s_retO 3 (pv 3) rfl))))
theorem b__law_mixed (T : Txt K mg A) : Binds K A.d__law_mixed ["state", "several"] [] := T.f__law_mixed.binds (ps := ["state", "several"]) fun _ _ _ _ _ _ us hl => match us, hl with | [_, _], _ => rfl
theorem sc__law_fillings : FnScope ["many", "found", "lap", "filling"] ["many"] (defScope (top 61)) := ⟨rfl, rfl, rfl, by decide +kernel, rfl, by decide +kernel, by decide +kernel⟩
theorem ok__law_fillings (T : Txt K mg A) : FnOk P w K mg base (L2.CX P w) 1 A.a__law_fillings A.d__law_fillings ["many"] (spP K mg 1 G__law_fillings) := by
  refine okP [] (g := g__law_fillings) T.f__law_fillings sc__law_fillings rfl (by decide) (fun cdv A outer s H E l T0 hr => ?_) (fun _ _ => rfl)
  have sc := sc__law_fillings
  exact (ss_cons (s_asg 1 rfl (fun te h => ps_set (i := 1) sc.nd rfl (by first | exact Or.inl rfl | exact Or.inr rfl) h) (nE (n_lst (a_cons (e_tup a_nil) a_nil)))) (ss_cons (s_forR1 rfl (passes_of rfl) (fun ta h => pi_range1 (by rfl) T.g_range h) (a_cons (e_var 0 (pv 0) rfl) a_nil) (pg_name (i := 2) sc.nd rfl (by first | exact Or.inl rfl | exact Or.inr rfl)) (tg_name 2 rfl) (ss_one (s_asg 1 rfl (fun te h => ps_set (i := 1) sc.nd rfl (by first | exact Or.inl rfl | exact Or.inr rfl) h) (nE (n_cb r_sortedA (fun t h => pe_callB (cr_sortA rfl) (by rfl) T.g_sorted (by decide +kernel) h) (ab_cons (bE (nE (n_cat (fun t u h1 h2 => pe_op op_cat h1 h2) (bE (nE (n_lc rfl (tg_name 3 rfl) rfl rfl (fun wi hi => pe_lc (own := [("filling", 3)]) rfl sc.nd hi (blkOk_by (N := ["many", "found", "lap", "filling"]) (sc := defScope (top 61)) (by decide +kernel)) (fun _ _ _ _ _ => (pg_name (i := 3) sc.nd rfl (by first | exact Or.inl rfl | exact Or.inr rfl))) (fun _ _ _ _ _ => tYes_ok) (fun _ _ _ _ _ => (e_bin r_add (fun t u h1 h2 => pe_op op_addA h1 h2) (bE (e_var 3 (pv 3) rfl)) (bE (e_tup (a_cons e_int a_nil)))))) (bE (e_var 1 (pv 1) rfl))))) (bE (nE (n_lc rfl (tg_name 3 rfl) rfl rfl (fun wi hi => pe_lc (own := [("filling", 3)]) rfl sc.nd hi (blkOk_by (N := ["many", "found", "lap", "filling"]) (sc := defScope (top 61)) (by decide +kernel)) (fun _ _ _ _ _ => (pg_name (i := 3) sc.nd rfl (by first | exact Or.inl rfl | exact Or.inr rfl))) (fun _ _ _ _ _ => tYes_ok) (fun _ _ _ _ _ => (e_bin r_add (fun t u h1 h2 => pe_op op_addA h1 h2) (bE (e_var 3 (pv 3) rfl)) (bE (e_tup (a_cons e_int a_nil)))))) (bE (e_var 1 (pv 1) rfl)))))))) ab_nil))))) (by exact (len_cons len_nil))) (ss_one (s_ret (e_var 1 (pv 1) rfl)))))
theorem b__law_fillings (T : Txt K mg A) : Binds K A.d__law_fillings ["many"] [] := T.f__law_fillings.binds (ps := ["many"]) fun _ _ _ _ _ _ us hl => match us, hl with | [_], _ => rfl
theorem sc__law_worth : FnScope ["literal", "filling"] ["literal", "filling"] (defScope (top 62)) := ⟨rfl, rfl, rfl, by decide +kernel, rfl, by decide +kernel, by decide +kernel⟩
theorem ok__law_worth (T : Txt K mg A) : FnOk P w K mg base (L2.CX P w) 1 A.a__law_worth A.d__law_worth ["literal", "filling"] (spP K mg 2 G__law_worth) := by
  refine okP [] (g := g__law_worth) T.f__law_worth sc__law_worth rfl (by decide) (fun cdv A outer s H E l T0 hr => ?_) (fun _ _ => rfl)
  have sc := sc__law_worth
  exact (ss_one (s_ret (e_if (t_cmp r_gt op_gt (bE (e_var 0 (pv 0) rfl)) (bE e_int) (nomark _)) (e_bin r_ixA (fun t u h1 h2 => pe_ix (ix_all (hu_of hr)) h1 h2 (fun _ _ => rfl)) (bE (e_var 1 (pv 1) rfl)) (bE (e_bin r_sub (fun t u h1 h2 => pe_op op_sub h1 h2) (bE (e_var 0 (pv 0) rfl)) (bE e_int)))) (e_bin r_sub (fun t u h1 h2 => pe_op op_sub h1 h2) (bE e_int) (bE (e_bin r_ixA (fun t u h1 h2 => pe_ix (ix_all (hu_of hr)) h1 h2 (fun _ _ => rfl)) (bE (e_var 1 (pv 1) rfl)) (bE (e_bin r_sub (fun t u h1 h2 => pe_op op_sub h1 h2) (bE (e_bin r_sub (fun t u h1 h2 => pe_op op_sub h1 h2) (bE e_int) (bE (e_var 0 (pv 0) rfl)))) (bE e_int)))))))))
theorem b__law_worth (T : Txt K mg A) : Binds K A.d__law_worth ["literal", "filling"] [] := T.f__law_worth.binds (ps := ["literal", "filling"]) fun _ _ _ _ _ _ us hl => match us, hl with | [_, _], _ => rfl
theorem sc__law_comes : FnScope ["terms", "filling", "weight", "literal"] ["terms", "filling"] (defScope (top 63)) := ⟨rfl, rfl, rfl, by decide +kernel, rfl, by decide +kernel, by decide +kernel⟩
theorem ok__law_comes (T : Txt K mg A) : FnOk P w K mg base (L2.CX P w) 2 A.a__law_comes A.d__law_comes ["terms", "filling"] (spP K mg 2 G__law_comes) := by
  refine okP [] (g := g__law_comes) T.f__law_comes sc__law_comes rfl (by decide) (fun cdv A outer s H E l T0 hr => ?_) (fun _ _ => rfl)
  have sc := sc__law_comes
  exact (ss_one (s_ret (e_cb r_sum (fun t h => pe_callB (cr_sum rfl) (by rfl) T.g_sum (by decide +kernel) h) (ab_cons (bE (nE (n_lc rfl (tg_tup [2, 3] rfl rfl) rfl rfl (fun wi hi => pe_lc (own := [("weight", 2), ("literal", 3)]) rfl sc.nd hi (blkOk_by (N := ["terms", "filling", "weight", "literal"]) (sc := defScope (top 63)) (by decide +kernel)) (fun _ _ _ _ _ => (pg_tup rfl (pgs_cons (pg_name (i := 2) sc.nd rfl (by first | exact Or.inl rfl | exact Or.inr rfl)) (pgs_cons (pg_name (i := 3) sc.nd rfl (by first | exact Or.inl rfl | exact Or.inr rfl)) pgs_nil)))) (fun _ _ _ _ _ => (tOne_ok (t_cmp r_eq (op_eqX hr.units) (bE (e_callP [] ⟨rfl, rfl⟩ (fun _ => Dens.nil) rfl (fun t h => pe_call (ok__law_worth T) (hr.mono (by decide)) (by rfl) T.m__law_worth T.f__law_worth.kp (b__law_worth T) .nil passL h) (a_cons (e_var 3 (pv 3) rfl) (a_cons (e_var 1 (pv 1) rfl) a_nil)) (by exact (len_cons (len_cons len_nil))))) (bE e_int) (nomark _)))) (fun _ _ _ _ _ => (e_var 2 (pv 2) rfl))) (bE (e_var 0 (pv 0) rfl))))) ab_nil))))
theorem b__law_comes (T : Txt K mg A) : Binds K A.d__law_comes ["terms", "filling"] [] := T.f__law_comes.binds (ps := ["terms", "filling"]) fun _ _ _ _ _ _ us hl => match us, hl with | [_, _], _ => rfl
theorem sc__law_holds : FnScope ["row", "filling"] ["row", "filling"] (defScope (top 64)) := ⟨rfl, rfl, rfl, by decide +kernel, rfl, by decide +kernel, by decide +kernel⟩
theorem ok__law_holds (T : Txt K mg A) : FnOk P w K mg base (L2.CX P w) 3 A.a__law_holds A.d__law_holds ["row", "filling"] (spP K mg 2 G__law_holds) := by
  refine okP [] (g := g__law_holds) T.f__law_holds sc__law_holds rfl (by decide) (fun cdv A outer s H E l T0 hr => ?_) (fun _ _ => rfl)
  have sc := sc__law_holds
  exact (ss_one (s_ret (e_bin r_ge (fun t u h1 h2 => pe_cmpR op_ge h1 h2 (nomark _)) (bE (e_callP [] ⟨rfl, rfl⟩ (fun _ => Dens.nil) rfl (fun t h => pe_call (ok__law_comes T) (hr.mono (by decide)) (by rfl) T.m__law_comes T.f__law_comes.kp (b__law_comes T) .nil (passes_call (takes_of rfl rfl rfl rfl) fun _ _ _ _ h => h) h) (a_cons (e_bin r_ixA (fun t u h1 h2 => pe_ix (ix_all (hu_of hr)) h1 h2 (fun _ _ => rfl)) (bE (e_var 0 (pv 0) rfl)) (bE e_int)) (a_cons (e_var 1 (pv 1) rfl) a_nil)) (by exact (len_cons (len_cons len_nil))))) (bE (e_bin r_ixA (fun t u h1 h2 => pe_ix (ix_all (hu_of hr)) h1 h2 (fun _ _ => rfl)) (bE (e_var 0 (pv 0) rfl)) (bE e_int))))))
theorem b__law_holds (T : Txt K mg A) : Binds K A.d__law_holds ["row", "filling"] [] := T.f__law_holds.binds (ps := ["row", "filling"]) fun _ _ _ _ _ _ us hl => match us, hl with | [_, _], _ => rfl
theorem sc__law_led : FnScope ["witness", "filling", "image"] ["witness", "filling"] (defScope (top 65)) := ⟨rfl, rfl, rfl, by decide +kernel, rfl, by decide +kernel, by decide +kernel⟩
theorem ok__law_led (T : Txt K mg A) : FnOk P w K mg base (L2.CX P w) 2 A.a__law_led A.d__law_led ["witness", "filling"] (spP K mg 2 G__law_led) := by
  refine okP [] (g := g__law_led) T.f__law_led sc__law_led rfl (by decide) (fun cdv A outer s H E l T0 hr => ?_) (fun _ _ => rfl)
  have sc := sc__law_led
  exact (ss_one (s_ret (e_cb r_tuple (fun t h => pe_callTy call_tuple_of (by rfl) T.g_tuple (by decide +kernel) h) (ab_cons (bE (nE (n_lc rfl (tg_name 2 rfl) rfl rfl (fun wi hi => pe_lc (own := [("image", 2)]) rfl sc.nd hi (blkOk_by (N := ["witness", "filling", "image"]) (sc := defScope (top 65)) (by decide +kernel)) (fun _ _ _ _ _ => (pg_name (i := 2) sc.nd rfl (by first | exact Or.inl rfl | exact Or.inr rfl))) (fun _ _ _ _ _ => tYes_ok) (fun _ _ _ _ _ => (e_if (t_val (e_isi .str (by intro h; cases h) rfl (fun te h => pe_callB call_isi (by rfl) T.g_isinstance (by decide +kernel) (pa_cons h (pa_cons (pe_bltn (by rfl) T.g_str (by decide +kernel) rfl) pa_nil))) (bE (e_var 2 (pv 2) rfl)))) (e_cb r_int (fun t h => pe_callTy call_int1 (by rfl) T.g_int (by decide +kernel) h) (ab_cons (bE (e_bin r_eq (fun t u h1 h2 => pe_cmpR (op_eqX hr.units) h1 h2 (nomark _)) (bE (e_var 2 (pv 2) rfl)) (bE e_str))) ab_nil)) (e_callP [] ⟨rfl, rfl⟩ (fun _ => Dens.nil) rfl (fun t h => pe_call (ok__law_worth T) (hr.mono (by decide)) (by rfl) T.m__law_worth T.f__law_worth.kp (b__law_worth T) .nil passL h) (a_cons (e_var 2 (pv 2) rfl) (a_cons (e_var 1 (pv 1) rfl) a_nil)) (by exact (len_cons (len_cons len_nil))))))) (bE (e_var 0 (pv 0) rfl))))) ab_nil))))
theorem b__law_led (T : Txt K mg A) : Binds K A.d__law_led ["witness", "filling"] [] := T.f__law_led.binds (ps := ["witness", "filling"]) fun _ _ _ _ _ _ us hl => match us, hl with | [_, _], _ => rfl
theorem sc__law_terms : FnScope ["state", "many", "most", "found", "way", "variable", "weight"] ["state", "many", "most"] (defScope (top 66)) := ⟨rfl, rfl, rfl, by decide +kernel, rfl, by decide +kernel, by decide +kernel⟩
theorem ok__law_terms (T : Txt K mg A) : FnOk P w K mg base (L2.CX P w) 2 A.a__law_terms A.d__law_terms ["state", "many", "most"] (spS K mg 3 G__law_terms) := by
  refine okS [3] (g := g__law_terms) T.f__law_terms sc__law_terms rfl (by decide) (fun cdv A outer s H E l TP hr => ?_) (fun _ _ _ => rfl)
  have sc := sc__law_terms
  exact (ss_cons (s_parO 3 4 rfl rfl (fun t1 t2 h1 h2 => ps_par (by rfl) sc.nd rfl rfl (by decide) rfl rfl (pa_cons h1 (pa_cons h2 pa_nil)) (by rfl)) (n_lst a_nil) (e_callS ⟨rfl, rfl⟩ rfl rfl (fun t h => pe_call (ok__law_draw T) (hr.mono (by decide)) (by rfl) T.m__law_draw T.f__law_draw.kp (b__law_draw T) .nil (passes_call (takes_of rfl rfl rfl rfl) fun _ _ _ _ h => h) h) (a_cons (e_var 0 (pv 0) rfl) (a_cons e_int a_nil)) (by exact (len_cons (len_cons len_nil))))) (ss_cons (s_forR2 rfl (passes_of rfl) (fun ta h => pi_range2 (by rfl) T.g_range h) (a_cons e_int (a_cons (e_bin r_add (fun t u h1 h2 => pe_op op_addA h1 h2) (bE (e_var 1 (pv 1) rfl)) (bE e_int)) a_nil)) (pg_name (i := 5) sc.nd rfl (by first | exact Or.inl rfl | exact Or.inr rfl)) (tg_name 5 rfl) (ss_one (s_if (PW.pt (w_or (t_cmp r_eq (op_eqX hr.units) (bE (e_var 4 (pv 4) rfl)) (bE e_int) (nomark _)) (w_or1 (t_cmp r_gt op_gt (bE (e_callS ⟨rfl, rfl⟩ rfl rfl (fun t h => pe_call (ok__law_draw T) (hr.mono (by decide)) (by rfl) T.m__law_draw T.f__law_draw.kp (b__law_draw T) .nil (passes_call (takes_of rfl rfl rfl rfl) fun _ _ _ _ h => h) h) (a_cons (e_var 0 (pv 0) rfl) (a_cons e_int a_nil)) (by exact (len_cons (len_cons len_nil))))) (bE e_int) (nomark _))))) (ss_cons (s_asg 6 rfl (fun te h => ps_set (i := 6) sc.nd rfl (by first | exact Or.inl rfl | exact Or.inr rfl) h) (e_if (t_cmp r_eq (op_eqX hr.units) (bE (e_var 4 (pv 4) rfl)) (bE e_int) (nomark _)) e_int (e_bin r_add (fun t u h1 h2 => pe_op op_addA h1 h2) (bE e_int) (bE (e_callS ⟨rfl, rfl⟩ rfl rfl (fun t h => pe_call (ok__law_draw T) (hr.mono (by decide)) (by rfl) T.m__law_draw T.f__law_draw.kp (b__law_draw T) .nil (passes_call (takes_of rfl rfl rfl rfl) fun _ _ _ _ h => h) h) (a_cons (e_var 0 (pv 0) rfl) (a_cons (e_var 2 (pv 2) rfl) a_nil)) (by exact (len_cons (len_cons len_nil)))))))) (ss_one (s_app 3 rfl (fun te h => ps_expr (pe_bm PySem.F.plainAttrs_list PySem.F.slot_list_append PySem.F.type_list_append mt_append (pv 3) (pa_cons h pa_nil))) (e_tup (a_cons (e_var 6 (pv 6) rfl) (a_cons (e_if (t_cmp r_eq (op_eqX hr.units) (bE (e_callS ⟨rfl, rfl⟩ rfl rfl (fun t h => pe_call (ok__law_draw T) (hr.mono (by decide)) (by rfl) T.m__law_draw T.f__law_draw.kp (b__law_draw T) .nil (passes_call (takes_of rfl rfl rfl rfl) fun _ _ _ _ h => h) h) (a_cons (e_var 0 (pv 0) rfl) (a_cons e_int a_nil)) (by exact (len_cons (len_cons len_nil))))) (bE e_int) (nomark _)) (e_var 5 (pv 5) rfl) (e_bin r_sub (fun t u h1 h2 => pe_op op_sub h1 h2) (bE e_int) (bE (e_var 5 (pv 5) rfl)))) a_nil)))))) ss_nil)) (by exact (len_cons (len_cons len_nil)))) (ss_one (s_ret (e_cb r_tuple (fun t h => pe_callTy call_tuple_of (by rfl) T.g_tuple (by decide +kernel) h) (ab_cons (b_var 3 (pv 3)) ab_nil))))))
theorem b__law_terms (T : Txt K mg A) : Binds K A.d__law_terms ["state", "many", "most"] [] := T.f__law_terms.binds (ps := ["state", "many", "most"]) fun _ _ _ _ _ _ us hl => match us, hl with | [_, _, _], _ => rfl
theorem sc__law_row : FnScope ["state", "many", "most", "terms", "total_here", "weight", "literal", "way"] ["state", "many", "most"] (defScope (top 67)) := ⟨rfl, rfl, rfl, by decide +kernel, rfl, by decide +kernel, by decide +kernel⟩
theorem ok__law_row (T : Txt K mg A) : FnOk P w K mg base (L2.CX P w) 3 A.a__law_row A.d__law_row ["state", "many", "most"] (spS K mg 3 G__law_row) := by
  refine okS [] (g := g__law_row) T.f__law_row sc__law_row rfl (by decide) (fun cdv A outer s H E l TP hr => ?_) (fun _ _ _ => rfl)
  have sc := sc__law_row
  exact (ss_cons (s_asg 3 rfl (fun te h => ps_set (i := 3) sc.nd rfl (by first | exact Or.inl rfl | exact Or.inr rfl) h) (e_callS ⟨rfl, rfl⟩ rfl rfl (fun t h => pe_call (ok__law_terms T) (hr.mono (by decide)) (by rfl) T.m__law_terms T.f__law_terms.kp (b__law_terms T) .nil (passes_call (takes_of rfl rfl rfl rfl) fun _ _ _ _ h => h) h) (a_cons (e_var 0 (pv 0) rfl) (a_cons (e_var 1 (pv 1) rfl) (a_cons (e_var 2 (pv 2) rfl) a_nil))) (by exact (len_cons (len_cons (len_cons len_nil)))))) (ss_cons (s_asg 4 rfl (fun te h => ps_set (i := 4) sc.nd rfl (by first | exact Or.inl rfl | exact Or.inr rfl) h) (e_cb r_sum (fun t h => pe_callB (cr_sum rfl) (by rfl) T.g_sum (by decide +kernel) h) (ab_cons (bE (nE (n_lc rfl (tg_tup [5, 6] rfl rfl) rfl rfl (fun wi hi => pe_lc (own := [("weight", 5), ("literal", 6)]) rfl sc.nd hi (blkOk_by (N := ["state", "many", "most", "terms", "total_here", "weight", "literal", "way"]) (sc := defScope (top 67)) (by decide +kernel)) (fun _ _ _ _ _ => (pg_tup rfl (pgs_cons (pg_name (i := 5) sc.nd rfl (by first | exact Or.inl rfl | exact Or.inr rfl)) (pgs_cons (pg_name (i := 6) sc.nd rfl (by first | exact Or.inl rfl | exact Or.inr rfl)) pgs_nil)))) (fun _ _ _ _ _ => tYes_ok) (fun _ _ _ _ _ => (e_var 5 (pv 5) rfl))) (bE (e_var 3 (pv 3) rfl))))) ab_nil))) (ss_cons (s_asg 7 rfl (fun te h => ps_set (i := 7) sc.nd rfl (by first | exact Or.inl rfl | exact Or.inr rfl) h) (e_callS ⟨rfl, rfl⟩ rfl rfl (fun t h => pe_call (ok__law_draw T) (hr.mono (by decide)) (by rfl) T.m__law_draw T.f__law_draw.kp (b__law_draw T) .nil (passes_call (takes_of rfl rfl rfl rfl) fun _ _ _ _ h => h) h) (a_cons (e_var 0 (pv 0) rfl) (a_cons e_int a_nil)) (by exact (len_cons (len_cons len_nil))))) (ss_cons (s_if (t_cmp r_eq (op_eqX hr.units) (bE (e_var 7 (pv 7) rfl)) (bE e_int) (nomark _)) (ss_one (s_ret (e_tup (a_cons (e_var 3 (pv 3) rfl) (a_cons (e_callS ⟨rfl, rfl⟩ rfl rfl (fun t h => pe_call (ok__law_pick T) (hr.mono (by decide)) (by rfl) T.m__law_pick T.f__law_pick.kp (b__law_pick T) .nil (passes_call (takes_of rfl rfl rfl rfl) fun _ _ _ _ h => h) h) (a_cons (e_var 0 (pv 0) rfl) (a_cons (nE (n_lst (a_cons e_int (a_cons (e_var 4 (pv 4) rfl) (a_cons (e_bin r_add (fun t u h1 h2 => pe_op op_addA h1 h2) (bE (e_var 4 (pv 4) rfl)) (bE e_int)) a_nil))))) a_nil)) (by exact (len_cons (len_cons len_nil)))) a_nil))))) ss_nil) (ss_one (s_ret (e_tup (a_cons (e_var 3 (pv 3) rfl) (a_cons (e_if (t_cmp r_lt op_lt (bE (e_var 7 (pv 7) rfl)) (bE e_int) (nomark _)) (e_callS ⟨rfl, rfl⟩ rfl rfl (fun t h => pe_call (ok__law_draw T) (hr.mono (by decide)) (by rfl) T.m__law_draw T.f__law_draw.kp (b__law_draw T) .nil (passes_call (takes_of rfl rfl rfl rfl) fun _ _ _ _ h => h) h) (a_cons (e_var 0 (pv 0) rfl) (a_cons (e_bin r_add (fun t u h1 h2 => pe_op op_addA h1 h2) (bE (e_var 4 (pv 4) rfl)) (bE e_int)) a_nil)) (by exact (len_cons (len_cons len_nil)))) (e_bin r_sub (fun t u h1 h2 => pe_op op_sub h1 h2) (bE (e_bin r_divW (fun t u h1 h2 => pe_op op_fdivW h1 h2) (bE (e_bin r_add (fun t u h1 h2 => pe_op op_addA h1 h2) (bE (e_var 4 (pv 4) rfl)) (bE e_int))) (bE e_int))) (bE (e_cb r_int (fun t h => pe_callTy call_int1 (by rfl) T.g_int (by decide +kernel) h) (ab_cons (bE (e_and (e_bin r_eq (fun t u h1 h2 => pe_cmpR (op_eqX hr.units) h1 h2 (nomark _)) (bE (e_var 7 (pv 7) rfl)) (bE e_int)) (e_one (e_bin r_gt (fun t u h1 h2 => pe_cmpR op_gt h1 h2 (nomark _)) (bE (e_var 4 (pv 4) rfl)) (bE e_int))))) ab_nil))))) a_nil)))))))))
theorem b__law_row (T : Txt K mg A) : Binds K A.d__law_row ["state", "many", "most"] [] := T.f__law_row.binds (ps := ["state", "many", "most"]) fun _ _ _ _ _ _ us hl => match us, hl with | [_, _, _], _ => rfl
theorem sc__law_witness : FnScope ["state", "many", "found", "way", "spot", "variable"] ["state", "many"] (defScope (top 68)) := ⟨rfl, rfl, rfl, by decide +kernel, rfl, by decide +kernel, by decide +kernel⟩
theorem ok__law_witness (T : Txt K mg A) : FnOk P w K mg base (L2.CX P w) 3 A.a__law_witness A.d__law_witness ["state", "many"] (spS K mg 2 G__law_witness) := by
  refine okS [2] (g := g__law_witness) T.f__law_witness sc__law_witness rfl (by decide) (fun cdv A outer s H E l TP hr => ?_) (fun _ _ _ => rfl)
  have sc := sc__law_witness
  exact (ss_cons (s_parO 2 3 rfl rfl (fun t1 t2 h1 h2 => ps_par (by rfl) sc.nd rfl rfl (by decide) rfl rfl (pa_cons h1 (pa_cons h2 pa_nil)) (by rfl)) (n_lrg2 (fun t u h1 h2 => pe_listRg rfl (by rfl) T.g_list (prg_2 (by rfl) T.g_range h1 h2)) e_int (e_bin r_add (fun t u h1 h2 => pe_op op_addA h1 h2) (bE (e_var 1 (pv 1) rfl)) (bE e_int))) (e_callS ⟨rfl, rfl⟩ rfl rfl (fun t h => pe_call (ok__law_draw T) (hr.mono (by decide)) (by rfl) T.m__law_draw T.f__law_draw.kp (b__law_draw T) .nil (passes_call (takes_of rfl rfl rfl rfl) fun _ _ _ _ h => h) h) (a_cons (e_var 0 (pv 0) rfl) (a_cons e_int a_nil)) (by exact (len_cons (len_cons len_nil))))) (ss_cons (s_forR1 rfl (passes_of rfl) (fun ta h => pi_range1 (by rfl) T.g_range h) (a_cons (e_var 1 (pv 1) rfl) a_nil) (pg_name (i := 4) sc.nd rfl (by first | exact Or.inl rfl | exact Or.inr rfl)) (tg_name 4 rfl) (ss_one (s_if (PW.pt (w_or (t_cmp r_eq (op_eqX hr.units) (bE (e_var 3 (pv 3) rfl)) (bE e_int) (nomark _)) (w_or1 (t_cmp r_eq (op_eqX hr.units) (bE (e_callS ⟨rfl, rfl⟩ rfl rfl (fun t h => pe_call (ok__law_draw T) (hr.mono (by decide)) (by rfl) T.m__law_draw T.f__law_draw.kp (b__law_draw T) .nil (passes_call (takes_of rfl rfl rfl rfl) fun _ _ _ _ h => h) h) (a_cons (e_var 0 (pv 0) rfl) (a_cons e_int a_nil)) (by exact (len_cons (len_cons len_nil))))) (bE e_int) (nomark _))))) (ss_cons (s_asg 5 rfl (fun te h => ps_set (i := 5) sc.nd rfl (by first | exact Or.inl rfl | exact Or.inr rfl) h) (e_bin r_add (fun t u h1 h2 => pe_op op_addA h1 h2) (bE e_int) (bE (e_callS ⟨rfl, rfl⟩ rfl rfl (fun t h => pe_call (ok__law_draw T) (hr.mono (by decide)) (by rfl) T.m__law_draw T.f__law_draw.kp (b__law_draw T) .nil (passes_call (takes_of rfl rfl rfl rfl) fun _ _ _ _ h => h) h) (a_cons (e_var 0 (pv 0) rfl) (a_cons (e_var 1 (pv 1) rfl) a_nil)) (by exact (len_cons (len_cons len_nil))))))) (ss_one (s_setA 2 rfl (fun te tj h hj => ps_asg h (pg_sub (pv 2) hj (set_all (hu_of hr)))) (e_var 4 (pv 4) rfl) (e_callS ⟨rfl, rfl⟩ rfl rfl (fun t h => pe_call (ok__law_pick T) (hr.mono (by decide)) (by rfl) T.m__law_pick T.f__law_pick.kp (b__law_pick T) .nil (passes_call (takes_of rfl rfl rfl rfl) fun _ _ _ _ h => h) h) (a_cons (e_var 0 (pv 0) rfl) (a_cons (nE (n_lst (a_cons e_str (a_cons e_str (a_cons (e_var 5 (pv 5) rfl) (a_cons (e_bin r_sub (fun t u h1 h2 => pe_op op_sub h1 h2) (bE e_int) (bE (e_var 5 (pv 5) rfl))) a_nil)))))) a_nil)) (by exact (len_cons (len_cons len_nil))))))) ss_nil)) (by exact (len_cons len_nil))) (ss_one (s_ret (e_cb r_tuple (fun t h => pe_callTy call_tuple_of (by rfl) T.g_tuple (by decide +kernel) h) (ab_cons (b_var 2 (pv 2)) ab_nil))))))
theorem b__law_witness (T : Txt K mg A) : Binds K A.d__law_witness ["state", "many"] [] := T.f__law_witness.binds (ps := ["state", "many"]) fun _ _ _ _ _ _ us hl => match us, hl with | [_, _], _ => rfl
theorem sc__law_exchange : FnScope ["state", "many", "line", "item"] ["state", "many"] (defScope (top 69)) := ⟨rfl, rfl, rfl, by decide +kernel, rfl, by decide +kernel, by decide +kernel⟩
theorem ok__law_exchange (T : Txt K mg A) : FnOk P w K mg base (L2.CX P w) 3 A.a__law_exchange A.d__law_exchange ["state", "many"] (spS K mg 2 G__law_exchange) := by
  refine okS [] (g := g__law_exchange) T.f__law_exchange sc__law_exchange rfl (by decide) (fun cdv A outer s H E l TP hr => ?_) (fun _ _ _ => rfl)
  have sc := sc__law_exchange
  exact (ss_cons (s_asg 2 rfl (fun te h => ps_set (i := 2) sc.nd rfl (by first | exact Or.inl rfl | exact Or.inr rfl) h) (e_if (t_cmp r_gt op_gt (bE (e_callS ⟨rfl, rfl⟩ rfl rfl (fun t h => pe_call (ok__law_draw T) (hr.mono (by decide)) (by rfl) T.m__law_draw T.f__law_draw.kp (b__law_draw T) .nil (passes_call (takes_of rfl rfl rfl rfl) fun _ _ _ _ h => h) h) (a_cons (e_var 0 (pv 0) rfl) (a_cons e_int a_nil)) (by exact (len_cons (len_cons len_nil))))) (bE e_int) (nomark _)) (e_callS ⟨rfl, rfl⟩ rfl rfl (fun t h => pe_call (ok__law_mixed T) (hr.mono (by decide)) (by rfl) T.m__law_mixed T.f__law_mixed.kp (b__law_mixed T) .nil (passes_call (takes_of rfl rfl rfl rfl) fun _ _ _ _ h => h) h) (a_cons (e_var 0 (pv 0) rfl) (a_cons (nE (n_lrg2 (fun t u h1 h2 => pe_listRg rfl (by rfl) T.g_list (prg_2 (by rfl) T.g_range h1 h2)) e_int (e_bin r_add (fun t u h1 h2 => pe_op op_addA h1 h2) (bE (e_var 1 (pv 1) rfl)) (bE e_int)))) a_nil)) (by exact (len_cons (len_cons len_nil)))) (nE (n_lrg2 (fun t u h1 h2 => pe_listRg rfl (by rfl) T.g_list (prg_2 (by rfl) T.g_range h1 h2)) e_int (e_bin r_add (fun t u h1 h2 => pe_op op_addA h1 h2) (bE (e_var 1 (pv 1) rfl)) (bE e_int)))))) (ss_one (s_ret (e_cb r_tuple (fun t h => pe_callTy call_tuple_of (by rfl) T.g_tuple (by decide +kernel) h) (ab_cons (bE (nE (n_lc rfl (tg_name 3 rfl) rfl rfl (fun wi hi => pe_lc (own := [("item", 3)]) rfl sc.nd hi (blkOk_by (N := ["state", "many", "line", "item"]) (sc := defScope (top 69)) (by decide +kernel)) (fun _ _ _ _ _ => (pg_name (i := 3) sc.nd rfl (by first | exact Or.inl rfl | exact Or.inr rfl))) (fun _ _ _ _ _ => tYes_ok) (fun _ _ _ _ _ => (e_if (t_cmp r_gt op_gt (bE (e_callS ⟨rfl, rfl⟩ rfl rfl (fun t h => pe_call (ok__law_draw T) (hr.mono (by decide)) (by rfl) T.m__law_draw T.f__law_draw.kp (b__law_draw T) .nil passL h) (a_cons (e_var 0 (pv 0) rfl) (a_cons e_int a_nil)) (by exact (len_cons (len_cons len_nil))))) (bE e_int) (nomark _)) (e_var 3 (pv 3) rfl) (e_bin r_sub (fun t u h1 h2 => pe_op op_sub h1 h2) (bE e_int) (bE (e_var 3 (pv 3) rfl)))))) (bE (e_var 2 (pv 2) rfl))))) ab_nil)))))
theorem b__law_exchange (T : Txt K mg A) : Binds K A.d__law_exchange ["state", "many"] [] := T.f__law_exchange.binds (ps := ["state", "many"]) fun _ _ _ _ _ _ us hl => match us, hl with | [_, _], _ => rfl
end
end My
namespace My
open PySem PySem.Spec PyProof.Rows L2 VS
def s_law_k05_1 : MS := (asgS 3 (binM gAdd (cM (.int 1)) (callS G__law_draw (consA (varM 1) (consA (cM (.int 6)) nilA)))))
def s_law_k05_2 : MS := (par3S 4 5 6 (consA (callS G__law_row (consA (varM 1) (consA (varM 3) (consA (cM (.int 5)) nilA)))) (consA (callS G__law_witness (consA (varM 1) (consA (varM 3) nilA))) (consA (callS G__law_witness (consA (varM 1) (consA (varM 3) nilA))) nilA))))
def s_law_k05_3 : MS := (parS 7 8 (consA (callS G__law_exchange (consA (varM 1) (consA (varM 3) nilA))) (consA (callP G__law_fillings [] (consA (varM 3) nilA)) nilA)))
def s_law_k05_4 : MS := (parS 9 10 (consA (callP G_behind [] (consA (varM 3) (consA (varM 5) (consA (varM 6) nilA)))) (consA (callP G_led_row [] (consA (varM 3) (consA (varM 5) (consA (varM 4) nilA)))) nilA)))
def t_law_k05_5 : MT := (orT (testM (binM gNe (callP G_holds [] (consA (varM 3) (consA (varM 10) (consA (varM 11) nilA)))) (callP G__law_holds [] (consA (varM 4) (consA (callP G__law_led [] (consA (varM 5) (consA (varM 11) nilA))) nilA))))) (testM (binM gNe (callP G_holds [] (consA (varM 3) (consA (varM 4) (consA (callP G_led_filling [] (consA (varM 3) (consA (varM 5) (consA (varM 11) nilA)))) nilA)))) (callP G__law_holds [] (consA (varM 10) (consA (varM 11) nilA))))))
def t_law_k05_6 : MT := (testM (binM gNe (callP G_led_filling [] (consA (varM 3) (consA (varM 9) (consA (varM 11) nilA)))) (callP G_led_filling [] (consA (varM 3) (consA (varM 5) (consA (callP G_led_filling [] (consA (varM 3) (consA (varM 6) (consA (varM 11) nilA)))) nilA))))))
def t_law_k05_7 : MT := (testM (binM gEq (callP G_holds [] (consA (varM 3) (consA (callP G_led_row [] (consA (varM 3) (consA (varM 5) (consA (callP G_opposite [] (consA (varM 3) (consA (varM 4) nilA))) nilA)))) (consA (varM 11) nilA)))) (callP G_holds [] (consA (varM 3) (consA (varM 10) (consA (varM 11) nilA))))))
def b_law_k05_8 : MS := (seqS (ifS t_law_k05_5 (retS (cM (.bl false))) nextS) (seqS (ifS t_law_k05_6 (retS (cM (.bl false))) nextS) (ifS t_law_k05_7 (retS (cM (.bl false))) nextS)))
def t_law_k05_9 : MT := (testM (binM gNe (callP G_led_row [] (consA (varM 3) (consA (varM 9) (consA (varM 4) nilA)))) (callP G_led_row [] (consA (varM 3) (consA (varM 6) (consA (varM 10) nilA))))))
def s_law_k05_10 : MS := (asgS 14 (callP G_led_literal [] (consA (varM 3) (consA (varM 5) (consA (varM 12) nilA)))))
def t_law_k05_11 : MT := (testM (binM gNe (callP G_led_literal [] (consA (varM 3) (consA (varM 9) (consA (varM 12) nilA)))) (ifM (testM (unM (gIs .str) (varM 14))) (varM 14) (callP G_led_literal [] (consA (varM 3) (consA (varM 6) (consA (varM 14) nilA)))))))
def s_law_k05_12 : MS := (forS (setN 12) (lcR (setN 13) (consA (binM gSub (cM (.int 0)) (varM 3)) (consA (binM gAdd (varM 3) (cM (.int 1))) nilA)) (testM (binM gNe (varM 13) (cM (.int 0)))) (varM 13) [13]) (seqS s_law_k05_10 (ifS t_law_k05_11 (retS (cM (.bl false))) nextS)))
def s_law_k05_13 : MS := (parS 15 16 (consA (callP G_turned [] (consA (varM 3) (consA (varM 7) nilA))) (consA (callS G__law_row (consA (varM 1) (consA (varM 3) (consA (cM (.int 4)) nilA)))) nilA)))
def t_law_k05_14 : MT := (orT (testM (binM gIsntA (callP G_is_exchange [] (consA (varM 3) (consA (varM 15) nilA))) (cM (.bl true)))) (orT (testM (binM gNe (callP G_led_row [] (consA (varM 3) (consA (varM 15) (consA (callP G_led_row [] (consA (varM 3) (consA (varM 7) (consA (varM 4) nilA)))) nilA)))) (varM 4))) (testM (binM gNe (callP G_turned [] (consA (varM 3) (consA (varM 15) nilA))) (varM 7)))))
def t_law_k05_15 : MT := (testM (binM gNe (cbM gSortedA (consA (lcM (setT [17, 12]) (binM gIxA (callP G_led_row [] (consA (varM 3) (consA (varM 7) (consA (varM 4) nilA)))) (cM (.int 0))) (fun _ S => .ok (true, S)) (varM 17) [17, 12]) nilA)) (cbM gSortedA (consA (lcM (setT [17, 12]) (binM gIxA (varM 4) (cM (.int 0))) (fun _ S => .ok (true, S)) (varM 17) [17, 12]) nilA))))
def t_law_k05_16 : MT := (testM (binM gNe (callP G_covers [] (consA (varM 3) (consA (callP G_led_row [] (consA (varM 3) (consA (varM 7) (consA (varM 4) nilA)))) (consA (callP G_led_row [] (consA (varM 3) (consA (varM 7) (consA (varM 16) nilA)))) nilA)))) (callP G_covers [] (consA (varM 3) (consA (varM 4) (consA (varM 16) nilA))))))
def s_law_k05_17 : MS := (asgS 11 (callS G__law_pick (consA (varM 1) (consA (varM 8) nilA))))
def e_law_k05_18 : ME := (ifM (testM (binM gEq (varM 19) (cM (.int 1)))) (cM (.str "yes")) (cM (.str "no")))
def s_law_k05_19 : MS := (asgS 18 (cbM gTuple (consA (lcM (setN 19) (varM 11) (fun _ S => .ok (true, S)) e_law_k05_18 [19]) nilA)))
def s_law_k05_20 : MS := (asgS 20 (callP G_led_row [] (consA (varM 3) (consA (varM 18) (consA (varM 4) nilA)))))
def t_law_k05_21 : MT := (orT (testM (binM gNe (binM gIxA (varM 20) (cM (.int 0))) (tupM nilA))) (orT (testM (binM gNe (binM gEq (binM gIxA (varM 20) (cM (.int 1))) (cM (.int 0))) (callP G__law_holds [] (consA (varM 4) (consA (varM 11) nilA))))) (testM (binM gNe (callP G_led_filling [] (consA (varM 3) (consA (varM 18) (consA (callS G__law_pick (consA (varM 1) (consA (varM 8) nilA))) nilA)))) (varM 11)))))
def b_law_k05_22 : MS := (seqS s_law_k05_1 (seqS s_law_k05_2 (seqS s_law_k05_3 (seqS s_law_k05_4 (seqS (forS (setN 11) (varM 8) b_law_k05_8) (seqS (ifS t_law_k05_9 (retS (cM (.bl false))) nextS) (seqS s_law_k05_12 (seqS s_law_k05_13 (seqS (ifS t_law_k05_14 (retS (cM (.bl false))) nextS) (seqS (ifS t_law_k05_15 (retS (cM (.bl false))) nextS) (seqS (ifS t_law_k05_16 (retS (cM (.bl false))) nextS) (seqS s_law_k05_17 (seqS s_law_k05_19 (seqS s_law_k05_20 (ifS t_law_k05_21 (retS (cM (.bl false))) nextS)))))))))))))))
def s_law_k05_23 : MS := (forR (setN 2) (consA (binM gAdd (cM (.int 4)) (cbM gMin (consA (cbM gLenA (consA (varM 0) nilA)) (consA (cM (.int 6)) nilA)))) nilA) b_law_k05_22)
def g_law_k05 : MS := (seqS s_law_k05_23 (retS (cM (.bl true))))
end My
namespace My
open PySem PySem.Spec PyProof.Rows L2 VS
section
variable {P : Program} {w : World} {K : PySem.W.Frag} {mg : Str → Option Value} {base : Heap} {A : Adr}
theorem sc_law : FnScope ["script", "state", "turn", "many", "row", "one", "other", "exchange", "every", "both", "led", "filling", "literal", "item", "image", "back", "near", "weight", "fixed", "value", "told"] ["script"] (defScope (top 70)) := ⟨rfl, rfl, rfl, by decide +kernel, rfl, by decide +kernel, by decide +kernel⟩
abbrev g_law : MS := g_law_k05
def lawRest : List Stmt := (defBody (top 70)).drop 1
theorem law_rest (T : Txt K mg A) {TP : TPr} {f : Addr} {cdv : Value} {A0 : Around} {outer : List PySem.Env} {s : Shared} {H : Hp} {E : XK} (hgd : A0.guards = some []) (hr : Room 11 (A0.deeper (envOfC "law" (defScope (top 70)) s.heap.objs.size f cdv))) (l : Lay) :
    PSs (cxOf (L2.CX P w) P w K mg base ["script", "state", "turn", "many", "row", "one", "other", "exchange", "every", "both", "led", "filling", "literal", "item", "image", "back", "near", "weight", "fixed", "value", "told"] "law" (defScope (top 70)) f cdv A0 outer s H E) lawRest (tS (bS K mg l TP []) E g_law) := by
  have sc := sc_law
  have hgu : (A0.deeper (envOfC "law" (defScope (top 70)) s.heap.objs.size f cdv)).units + 100 < cLine := by have := hr.un; omega
  exact (ss_cons (s_forR1 rfl (passes_of rfl) (fun ta h => pi_range1 (by rfl) T.g_range h) (a_cons (e_bin r_add (fun t u h1 h2 => pe_op op_addA h1 h2) (bE e_int) (bE (e_cb r_2I (fun t h => pe_callB (call_min2 rfl) (by rfl) T.g_min (by decide +kernel) h) (ab_cons (bE (e_cb r_lenA (fun t h => pe_callB cr_lenA (by rfl) T.g_len (by decide +kernel) h) (ab_cons (bE (e_var 0 (pv 0) rfl)) ab_nil))) (ab_cons (bE e_int) ab_nil))))) a_nil) (pg_name (i := 2) sc.nd rfl (by first | exact Or.inl rfl | exact Or.inr rfl)) (tg_name 2 rfl) (ss_cons (s_asg 3 rfl (fun te h => ps_set (i := 3) sc.nd rfl (by first | exact Or.inl rfl | exact Or.inr rfl) h) (e_bin r_add (fun t u h1 h2 => pe_op op_addA h1 h2) (bE e_int) (bE (e_callS ⟨rfl, rfl⟩ rfl rfl (fun t h => pe_call (ok__law_draw T) (hr.mono (by decide)) (by rfl) T.m__law_draw T.f__law_draw.kp (b__law_draw T) .nil (passes_call (takes_of rfl rfl rfl rfl) fun _ _ _ _ h => h) h) (a_cons (e_var 1 (pv 1) rfl) (a_cons e_int a_nil)) (by exact (len_cons (len_cons len_nil))))))) (ss_cons (s_par3 4 5 6 rfl rfl rfl (fun ta h => ps_par3 (by rfl) sc.nd rfl rfl rfl (by decide) (by decide) (by decide) rfl rfl rfl h (by rfl)) (a_cons (e_callS ⟨rfl, rfl⟩ rfl rfl (fun t h => pe_call (ok__law_row T) (hr.mono (by decide)) (by rfl) T.m__law_row T.f__law_row.kp (b__law_row T) .nil (passes_call (takes_of rfl rfl rfl rfl) fun _ _ _ _ h => h) h) (a_cons (e_var 1 (pv 1) rfl) (a_cons (e_var 3 (pv 3) rfl) (a_cons e_int a_nil))) (by exact (len_cons (len_cons (len_cons len_nil))))) (a_cons (e_callS ⟨rfl, rfl⟩ rfl rfl (fun t h => pe_call (ok__law_witness T) (hr.mono (by decide)) (by rfl) T.m__law_witness T.f__law_witness.kp (b__law_witness T) .nil (passes_call (takes_of rfl rfl rfl rfl) fun _ _ _ _ h => h) h) (a_cons (e_var 1 (pv 1) rfl) (a_cons (e_var 3 (pv 3) rfl) a_nil)) (by exact (len_cons (len_cons len_nil)))) (a_cons (e_callS ⟨rfl, rfl⟩ rfl rfl (fun t h => pe_call (ok__law_witness T) (hr.mono (by decide)) (by rfl) T.m__law_witness T.f__law_witness.kp (b__law_witness T) .nil (passes_call (takes_of rfl rfl rfl rfl) fun _ _ _ _ h => h) h) (a_cons (e_var 1 (pv 1) rfl) (a_cons (e_var 3 (pv 3) rfl) a_nil)) (by exact (len_cons (len_cons len_nil)))) a_nil)))) (ss_cons (s_par 7 8 rfl rfl (fun ta h => ps_par (by rfl) sc.nd rfl rfl (by decide) rfl rfl h (by rfl)) (a_cons (e_callS ⟨rfl, rfl⟩ rfl rfl (fun t h => pe_call (ok__law_exchange T) (hr.mono (by decide)) (by rfl) T.m__law_exchange T.f__law_exchange.kp (b__law_exchange T) .nil (passes_call (takes_of rfl rfl rfl rfl) fun _ _ _ _ h => h) h) (a_cons (e_var 1 (pv 1) rfl) (a_cons (e_var 3 (pv 3) rfl) a_nil)) (by exact (len_cons (len_cons len_nil)))) (a_cons (e_callP [] ⟨rfl, rfl⟩ (fun _ => Dens.nil) rfl (fun t h => pe_call (ok__law_fillings T) (hr.mono (by decide)) (by rfl) T.m__law_fillings T.f__law_fillings.kp (b__law_fillings T) .nil (passes_call (takes_of rfl rfl rfl rfl) fun _ _ _ _ h => h) h) (a_cons (e_var 3 (pv 3) rfl) a_nil) (by exact (len_cons len_nil))) a_nil))) (ss_cons (s_par 9 10 rfl rfl (fun ta h => ps_par (by rfl) sc.nd rfl rfl (by decide) rfl rfl h (by rfl)) (a_cons (e_callP [] ⟨rfl, rfl⟩ (fun _ => Dens.nil) rfl (fun t h => pe_call (ok_behind T) (hr.mono (by decide)) (by rfl) T.m_behind T.f_behind.kp (b_behind T) .nil (passes_call (takes_of rfl rfl rfl rfl) fun _ _ _ _ h => h) h) (a_cons (e_var 3 (pv 3) rfl) (a_cons (e_var 5 (pv 5) rfl) (a_cons (e_var 6 (pv 6) rfl) a_nil))) (by exact (len_cons (len_cons (len_cons len_nil))))) (a_cons (e_callP [] ⟨rfl, rfl⟩ (fun _ => Dens.nil) rfl (fun t h => pe_call (ok_led_row T) (hr.mono (by decide)) (by rfl) T.m_led_row T.f_led_row.kp (b_led_row T) .nil (passes_call (takes_of rfl rfl rfl rfl) fun _ _ _ _ h => h) h) (a_cons (e_var 3 (pv 3) rfl) (a_cons (e_var 5 (pv 5) rfl) (a_cons (e_var 4 (pv 4) rfl) a_nil))) (by exact (len_cons (len_cons (len_cons len_nil))))) a_nil))) (ss_cons (s_for rfl rfl (passes_of rfl) (e_var 8 (pv 8) rfl) (pg_name (i := 11) sc.nd rfl (by first | exact Or.inl rfl | exact Or.inr rfl)) (tg_name 11 rfl) (ss_cons (s_if (PW.pt (w_or (t_cmp r_ne (op_neX hr.units) (bE (e_callP [] ⟨rfl, rfl⟩ (fun _ => Dens.nil) rfl (fun t h => pe_call (ok_holds T) (hr.mono (by decide)) (by rfl) T.m_holds T.f_holds.kp (b_holds T) .nil (passes_call (takes_of rfl rfl rfl rfl) fun _ _ _ _ h => h) h) (a_cons (e_var 3 (pv 3) rfl) (a_cons (e_var 10 (pv 10) rfl) (a_cons (e_var 11 (pv 11) rfl) a_nil))) (by exact (len_cons (len_cons (len_cons len_nil)))))) (bE (e_callP [] ⟨rfl, rfl⟩ (fun _ => Dens.nil) rfl (fun t h => pe_call (ok__law_holds T) (hr.mono (by decide)) (by rfl) T.m__law_holds T.f__law_holds.kp (b__law_holds T) .nil (passes_call (takes_of rfl rfl rfl rfl) fun _ _ _ _ h => h) h) (a_cons (e_var 4 (pv 4) rfl) (a_cons (e_callP [] ⟨rfl, rfl⟩ (fun _ => Dens.nil) rfl (fun t h => pe_call (ok__law_led T) (hr.mono (by decide)) (by rfl) T.m__law_led T.f__law_led.kp (b__law_led T) .nil (passes_call (takes_of rfl rfl rfl rfl) fun _ _ _ _ h => h) h) (a_cons (e_var 5 (pv 5) rfl) (a_cons (e_var 11 (pv 11) rfl) a_nil)) (by exact (len_cons (len_cons len_nil)))) a_nil)) (by exact (len_cons (len_cons len_nil))))) (nomark _)) (w_or1 (t_cmp r_ne (op_neX hr.units) (bE (e_callP [] ⟨rfl, rfl⟩ (fun _ => Dens.nil) rfl (fun t h => pe_call (ok_holds T) (hr.mono (by decide)) (by rfl) T.m_holds T.f_holds.kp (b_holds T) .nil (passes_call (takes_of rfl rfl rfl rfl) fun _ _ _ _ h => h) h) (a_cons (e_var 3 (pv 3) rfl) (a_cons (e_var 4 (pv 4) rfl) (a_cons (e_callP [] ⟨rfl, rfl⟩ (fun _ => Dens.nil) rfl (fun t h => pe_call (ok_led_filling T) (hr.mono (by decide)) (by rfl) T.m_led_filling T.f_led_filling.kp (b_led_filling T) .nil (passes_call (takes_of rfl rfl rfl rfl) fun _ _ _ _ h => h) h) (a_cons (e_var 3 (pv 3) rfl) (a_cons (e_var 5 (pv 5) rfl) (a_cons (e_var 11 (pv 11) rfl) a_nil))) (by exact (len_cons (len_cons (len_cons len_nil))))) a_nil))) (by exact (len_cons (len_cons (len_cons len_nil)))))) (bE (e_callP [] ⟨rfl, rfl⟩ (fun _ => Dens.nil) rfl (fun t h => pe_call (ok__law_holds T) (hr.mono (by decide)) (by rfl) T.m__law_holds T.f__law_holds.kp (b__law_holds T) .nil (passes_call (takes_of rfl rfl rfl rfl) fun _ _ _ _ h => h) h) (a_cons (e_var 10 (pv 10) rfl) (a_cons (e_var 11 (pv 11) rfl) a_nil)) (by exact (len_cons (len_cons len_nil))))) (nomark _))))) (ss_one (s_ret e_bl)) ss_nil) (ss_cons (s_if (t_cmp r_ne (op_neX hr.units) (bE (e_callP [] ⟨rfl, rfl⟩ (fun _ => Dens.nil) rfl (fun t h => pe_call (ok_led_filling T) (hr.mono (by decide)) (by rfl) T.m_led_filling T.f_led_filling.kp (b_led_filling T) .nil (passes_call (takes_of rfl rfl rfl rfl) fun _ _ _ _ h => h) h) (a_cons (e_var 3 (pv 3) rfl) (a_cons (e_var 9 (pv 9) rfl) (a_cons (e_var 11 (pv 11) rfl) a_nil))) (by exact (len_cons (len_cons (len_cons len_nil)))))) (bE (e_callP [] ⟨rfl, rfl⟩ (fun _ => Dens.nil) rfl (fun t h => pe_call (ok_led_filling T) (hr.mono (by decide)) (by rfl) T.m_led_filling T.f_led_filling.kp (b_led_filling T) .nil (passes_call (takes_of rfl rfl rfl rfl) fun _ _ _ _ h => h) h) (a_cons (e_var 3 (pv 3) rfl) (a_cons (e_var 5 (pv 5) rfl) (a_cons (e_callP [] ⟨rfl, rfl⟩ (fun _ => Dens.nil) rfl (fun t h => pe_call (ok_led_filling T) (hr.mono (by decide)) (by rfl) T.m_led_filling T.f_led_filling.kp (b_led_filling T) .nil (passes_call (takes_of rfl rfl rfl rfl) fun _ _ _ _ h => h) h) (a_cons (e_var 3 (pv 3) rfl) (a_cons (e_var 6 (pv 6) rfl) (a_cons (e_var 11 (pv 11) rfl) a_nil))) (by exact (len_cons (len_cons (len_cons len_nil))))) a_nil))) (by exact (len_cons (len_cons (len_cons len_nil)))))) (nomark _)) (ss_one (s_ret e_bl)) ss_nil) (ss_one (s_if (t_cmp r_eq (op_eqX hr.units) (bE (e_callP [] ⟨rfl, rfl⟩ (fun _ => Dens.nil) rfl (fun t h => pe_call (ok_holds T) (hr.mono (by decide)) (by rfl) T.m_holds T.f_holds.kp (b_holds T) .nil (passes_call (takes_of rfl rfl rfl rfl) fun _ _ _ _ h => h) h) (a_cons (e_var 3 (pv 3) rfl) (a_cons (e_callP [] ⟨rfl, rfl⟩ (fun _ => Dens.nil) rfl (fun t h => pe_call (ok_led_row T) (hr.mono (by decide)) (by rfl) T.m_led_row T.f_led_row.kp (b_led_row T) .nil (passes_call (takes_of rfl rfl rfl rfl) fun _ _ _ _ h => h) h) (a_cons (e_var 3 (pv 3) rfl) (a_cons (e_var 5 (pv 5) rfl) (a_cons (e_callP [] ⟨rfl, rfl⟩ (fun _ => Dens.nil) rfl (fun t h => pe_call (ok_opposite T) (hr.mono (by decide)) (by rfl) T.m_opposite T.f_opposite.kp (b_opposite T) .nil (passes_call (takes_of rfl rfl rfl rfl) fun _ _ _ _ h => h) h) (a_cons (e_var 3 (pv 3) rfl) (a_cons (e_var 4 (pv 4) rfl) a_nil)) (by exact (len_cons (len_cons len_nil)))) a_nil))) (by exact (len_cons (len_cons (len_cons len_nil))))) (a_cons (e_var 11 (pv 11) rfl) a_nil))) (by exact (len_cons (len_cons (len_cons len_nil)))))) (bE (e_callP [] ⟨rfl, rfl⟩ (fun _ => Dens.nil) rfl (fun t h => pe_call (ok_holds T) (hr.mono (by decide)) (by rfl) T.m_holds T.f_holds.kp (b_holds T) .nil (passes_call (takes_of rfl rfl rfl rfl) fun _ _ _ _ h => h) h) (a_cons (e_var 3 (pv 3) rfl) (a_cons (e_var 10 (pv 10) rfl) (a_cons (e_var 11 (pv 11) rfl) a_nil))) (by exact (len_cons (len_cons (len_cons len_nil)))))) (nomark _)) (ss_one (s_ret e_bl)) ss_nil))))) (ss_cons (s_if (t_cmp r_ne (op_neX hr.units) (bE (e_callP [] ⟨rfl, rfl⟩ (fun _ => Dens.nil) rfl (fun t h => pe_call (ok_led_row T) (hr.mono (by decide)) (by rfl) T.m_led_row T.f_led_row.kp (b_led_row T) .nil (passes_call (takes_of rfl rfl rfl rfl) fun _ _ _ _ h => h) h) (a_cons (e_var 3 (pv 3) rfl) (a_cons (e_var 9 (pv 9) rfl) (a_cons (e_var 4 (pv 4) rfl) a_nil))) (by exact (len_cons (len_cons (len_cons len_nil)))))) (bE (e_callP [] ⟨rfl, rfl⟩ (fun _ => Dens.nil) rfl (fun t h => pe_call (ok_led_row T) (hr.mono (by decide)) (by rfl) T.m_led_row T.f_led_row.kp (b_led_row T) .nil (passes_call (takes_of rfl rfl rfl rfl) fun _ _ _ _ h => h) h) (a_cons (e_var 3 (pv 3) rfl) (a_cons (e_var 6 (pv 6) rfl) (a_cons (e_var 10 (pv 10) rfl) a_nil))) (by exact (len_cons (len_cons (len_cons len_nil)))))) (nomark _)) (ss_one (s_ret e_bl)) ss_nil) (ss_cons (s_for rfl rfl (passes_of rfl) (nE (n_lcR2 (tg_name 13 rfl) rfl rfl (fun wi hi => pe_lc (own := [("item", 13)]) rfl sc.nd hi (blkOk_by (N := ["script", "state", "turn", "many", "row", "one", "other", "exchange", "every", "both", "led", "filling", "literal", "item", "image", "back", "near", "weight", "fixed", "value", "told"]) (sc := defScope (top 70)) (by decide +kernel)) (fun _ _ _ _ _ => (pg_name (i := 13) sc.nd rfl (by first | exact Or.inl rfl | exact Or.inr rfl))) (fun _ _ _ _ _ => (tOne_ok (t_cmp r_ne (op_neX hr.units) (bE (e_var 13 (pv 13) rfl)) (bE e_int) (nomark _)))) (fun _ _ _ _ _ => (e_var 13 (pv 13) rfl))) (fun ta h => pi_range2 (by rfl) T.g_range h) (a_cons (e_bin r_sub (fun t u h1 h2 => pe_op op_sub h1 h2) (bE e_int) (bE (e_var 3 (pv 3) rfl))) (a_cons (e_bin r_add (fun t u h1 h2 => pe_op op_addA h1 h2) (bE (e_var 3 (pv 3) rfl)) (bE e_int)) a_nil)) lenR2)) (pg_name (i := 12) sc.nd rfl (by first | exact Or.inl rfl | exact Or.inr rfl)) (tg_name 12 rfl) (ss_cons (s_asg 14 rfl (fun te h => ps_set (i := 14) sc.nd rfl (by first | exact Or.inl rfl | exact Or.inr rfl) h) (e_callP [] ⟨rfl, rfl⟩ (fun _ => Dens.nil) rfl (fun t h => pe_call (ok_led_literal T) (hr.mono (by decide)) (by rfl) T.m_led_literal T.f_led_literal.kp (b_led_literal T) .nil (passes_call (takes_of rfl rfl rfl rfl) fun _ _ _ _ h => h) h) (a_cons (e_var 3 (pv 3) rfl) (a_cons (e_var 5 (pv 5) rfl) (a_cons (e_var 12 (pv 12) rfl) a_nil))) (by exact (len_cons (len_cons (len_cons len_nil)))))) (ss_one (s_if (t_cmp r_ne (op_neX hr.units) (bE (e_callP [] ⟨rfl, rfl⟩ (fun _ => Dens.nil) rfl (fun t h => pe_call (ok_led_literal T) (hr.mono (by decide)) (by rfl) T.m_led_literal T.f_led_literal.kp (b_led_literal T) .nil (passes_call (takes_of rfl rfl rfl rfl) fun _ _ _ _ h => h) h) (a_cons (e_var 3 (pv 3) rfl) (a_cons (e_var 9 (pv 9) rfl) (a_cons (e_var 12 (pv 12) rfl) a_nil))) (by exact (len_cons (len_cons (len_cons len_nil)))))) (bE (e_if (t_val (e_isi .str (by intro h; cases h) rfl (fun te h => pe_callB call_isi (by rfl) T.g_isinstance (by decide +kernel) (pa_cons h (pa_cons (pe_bltn (by rfl) T.g_str (by decide +kernel) rfl) pa_nil))) (bE (e_var 14 (pv 14) rfl)))) (e_var 14 (pv 14) rfl) (e_callP [] ⟨rfl, rfl⟩ (fun _ => Dens.nil) rfl (fun t h => pe_call (ok_led_literal T) (hr.mono (by decide)) (by rfl) T.m_led_literal T.f_led_literal.kp (b_led_literal T) .nil (passes_call (takes_of rfl rfl rfl rfl) fun _ _ _ _ h => h) h) (a_cons (e_var 3 (pv 3) rfl) (a_cons (e_var 6 (pv 6) rfl) (a_cons (e_var 14 (pv 14) rfl) a_nil))) (by exact (len_cons (len_cons (len_cons len_nil))))))) (nomark _)) (ss_one (s_ret e_bl)) ss_nil)))) (ss_cons (s_par 15 16 rfl rfl (fun ta h => ps_par (by rfl) sc.nd rfl rfl (by decide) rfl rfl h (by rfl)) (a_cons (e_callP [] ⟨rfl, rfl⟩ (fun _ => Dens.nil) rfl (fun t h => pe_call (ok_turned T) (hr.mono (by decide)) (by rfl) T.m_turned T.f_turned.kp (b_turned T) .nil (passes_call (takes_of rfl rfl rfl rfl) fun _ _ _ _ h => h) h) (a_cons (e_var 3 (pv 3) rfl) (a_cons (e_var 7 (pv 7) rfl) a_nil)) (by exact (len_cons (len_cons len_nil)))) (a_cons (e_callS ⟨rfl, rfl⟩ rfl rfl (fun t h => pe_call (ok__law_row T) (hr.mono (by decide)) (by rfl) T.m__law_row T.f__law_row.kp (b__law_row T) .nil (passes_call (takes_of rfl rfl rfl rfl) fun _ _ _ _ h => h) h) (a_cons (e_var 1 (pv 1) rfl) (a_cons (e_var 3 (pv 3) rfl) (a_cons e_int a_nil))) (by exact (len_cons (len_cons (len_cons len_nil))))) a_nil))) (ss_cons (s_if (PW.pt (w_or (t_cmp r_isntA op_isntA (bE (e_callP [] ⟨rfl, rfl⟩ (fun _ => Dens.nil) rfl (fun t h => pe_call (ok_is_exchange T) (hr.mono (by decide)) (by rfl) T.m_is_exchange T.f_is_exchange.kp (b_is_exchange T) .nil (passes_call (takes_of rfl rfl rfl rfl) fun _ _ _ _ h => h) h) (a_cons (e_var 3 (pv 3) rfl) (a_cons (e_var 15 (pv 15) rfl) a_nil)) (by exact (len_cons (len_cons len_nil))))) (bE e_bl) (nomark _)) (w_or (t_cmp r_ne (op_neX hr.units) (bE (e_callP [] ⟨rfl, rfl⟩ (fun _ => Dens.nil) rfl (fun t h => pe_call (ok_led_row T) (hr.mono (by decide)) (by rfl) T.m_led_row T.f_led_row.kp (b_led_row T) .nil (passes_call (takes_of rfl rfl rfl rfl) fun _ _ _ _ h => h) h) (a_cons (e_var 3 (pv 3) rfl) (a_cons (e_var 15 (pv 15) rfl) (a_cons (e_callP [] ⟨rfl, rfl⟩ (fun _ => Dens.nil) rfl (fun t h => pe_call (ok_led_row T) (hr.mono (by decide)) (by rfl) T.m_led_row T.f_led_row.kp (b_led_row T) .nil (passes_call (takes_of rfl rfl rfl rfl) fun _ _ _ _ h => h) h) (a_cons (e_var 3 (pv 3) rfl) (a_cons (e_var 7 (pv 7) rfl) (a_cons (e_var 4 (pv 4) rfl) a_nil))) (by exact (len_cons (len_cons (len_cons len_nil))))) a_nil))) (by exact (len_cons (len_cons (len_cons len_nil)))))) (bE (e_var 4 (pv 4) rfl)) (nomark _)) (w_or1 (t_cmp r_ne (op_neX hr.units) (bE (e_callP [] ⟨rfl, rfl⟩ (fun _ => Dens.nil) rfl (fun t h => pe_call (ok_turned T) (hr.mono (by decide)) (by rfl) T.m_turned T.f_turned.kp (b_turned T) .nil (passes_call (takes_of rfl rfl rfl rfl) fun _ _ _ _ h => h) h) (a_cons (e_var 3 (pv 3) rfl) (a_cons (e_var 15 (pv 15) rfl) a_nil)) (by exact (len_cons (len_cons len_nil))))) (bE (e_var 7 (pv 7) rfl)) (nomark _)))))) (ss_one (s_ret e_bl)) ss_nil) (ss_cons (s_if (t_cmp r_ne (op_neX hr.units) (bE (nE (n_cb r_sortedA (fun t h => pe_callB (cr_sortA rfl) (by rfl) T.g_sorted (by decide +kernel) h) (ab_cons (bE (nE (n_lc rfl (tg_tup [17, 12] rfl rfl) rfl rfl (fun wi hi => pe_lc (own := [("weight", 17), ("literal", 12)]) rfl sc.nd hi (blkOk_by (N := ["script", "state", "turn", "many", "row", "one", "other", "exchange", "every", "both", "led", "filling", "literal", "item", "image", "back", "near", "weight", "fixed", "value", "told"]) (sc := defScope (top 70)) (by decide +kernel)) (fun _ _ _ _ _ => (pg_tup rfl (pgs_cons (pg_name (i := 17) sc.nd rfl (by first | exact Or.inl rfl | exact Or.inr rfl)) (pgs_cons (pg_name (i := 12) sc.nd rfl (by first | exact Or.inl rfl | exact Or.inr rfl)) pgs_nil)))) (fun _ _ _ _ _ => tYes_ok) (fun _ _ _ _ _ => (e_var 17 (pv 17) rfl))) (bE (e_bin r_ixA (fun t u h1 h2 => pe_ix (ix_all (hu_of hr)) h1 h2 (fun _ _ => rfl)) (bE (e_callP [] ⟨rfl, rfl⟩ (fun _ => Dens.nil) rfl (fun t h => pe_call (ok_led_row T) (hr.mono (by decide)) (by rfl) T.m_led_row T.f_led_row.kp (b_led_row T) .nil (passes_call (takes_of rfl rfl rfl rfl) fun _ _ _ _ h => h) h) (a_cons (e_var 3 (pv 3) rfl) (a_cons (e_var 7 (pv 7) rfl) (a_cons (e_var 4 (pv 4) rfl) a_nil))) (by exact (len_cons (len_cons (len_cons len_nil)))))) (bE e_int)))))) ab_nil)))) (bE (nE (n_cb r_sortedA (fun t h => pe_callB (cr_sortA rfl) (by rfl) T.g_sorted (by decide +kernel) h) (ab_cons (bE (nE (n_lc rfl (tg_tup [17, 12] rfl rfl) rfl rfl (fun wi hi => pe_lc (own := [("weight", 17), ("literal", 12)]) rfl sc.nd hi (blkOk_by (N := ["script", "state", "turn", "many", "row", "one", "other", "exchange", "every", "both", "led", "filling", "literal", "item", "image", "back", "near", "weight", "fixed", "value", "told"]) (sc := defScope (top 70)) (by decide +kernel)) (fun _ _ _ _ _ => (pg_tup rfl (pgs_cons (pg_name (i := 17) sc.nd rfl (by first | exact Or.inl rfl | exact Or.inr rfl)) (pgs_cons (pg_name (i := 12) sc.nd rfl (by first | exact Or.inl rfl | exact Or.inr rfl)) pgs_nil)))) (fun _ _ _ _ _ => tYes_ok) (fun _ _ _ _ _ => (e_var 17 (pv 17) rfl))) (bE (e_bin r_ixA (fun t u h1 h2 => pe_ix (ix_all (hu_of hr)) h1 h2 (fun _ _ => rfl)) (bE (e_var 4 (pv 4) rfl)) (bE e_int)))))) ab_nil)))) (nomark _)) (ss_one (s_ret e_bl)) ss_nil) (ss_cons (s_if (t_cmp r_ne (op_neX hr.units) (bE (e_callP [] ⟨rfl, rfl⟩ (fun _ => Dens.nil) rfl (fun t h => pe_call (ok_covers T) (hr.mono (by decide)) (by rfl) T.m_covers T.f_covers.kp (b_covers T) .nil (passes_call (takes_of rfl rfl rfl rfl) fun _ _ _ _ h => h) h) (a_cons (e_var 3 (pv 3) rfl) (a_cons (e_callP [] ⟨rfl, rfl⟩ (fun _ => Dens.nil) rfl (fun t h => pe_call (ok_led_row T) (hr.mono (by decide)) (by rfl) T.m_led_row T.f_led_row.kp (b_led_row T) .nil (passes_call (takes_of rfl rfl rfl rfl) fun _ _ _ _ h => h) h) (a_cons (e_var 3 (pv 3) rfl) (a_cons (e_var 7 (pv 7) rfl) (a_cons (e_var 4 (pv 4) rfl) a_nil))) (by exact (len_cons (len_cons (len_cons len_nil))))) (a_cons (e_callP [] ⟨rfl, rfl⟩ (fun _ => Dens.nil) rfl (fun t h => pe_call (ok_led_row T) (hr.mono (by decide)) (by rfl) T.m_led_row T.f_led_row.kp (b_led_row T) .nil (passes_call (takes_of rfl rfl rfl rfl) fun _ _ _ _ h => h) h) (a_cons (e_var 3 (pv 3) rfl) (a_cons (e_var 7 (pv 7) rfl) (a_cons (e_var 16 (pv 16) rfl) a_nil))) (by exact (len_cons (len_cons (len_cons len_nil))))) a_nil))) (by exact (len_cons (len_cons (len_cons len_nil)))))) (bE (e_callP [] ⟨rfl, rfl⟩ (fun _ => Dens.nil) rfl (fun t h => pe_call (ok_covers T) (hr.mono (by decide)) (by rfl) T.m_covers T.f_covers.kp (b_covers T) .nil (passes_call (takes_of rfl rfl rfl rfl) fun _ _ _ _ h => h) h) (a_cons (e_var 3 (pv 3) rfl) (a_cons (e_var 4 (pv 4) rfl) (a_cons (e_var 16 (pv 16) rfl) a_nil))) (by exact (len_cons (len_cons (len_cons len_nil)))))) (nomark _)) (ss_one (s_ret e_bl)) ss_nil) (ss_cons (s_asg 11 rfl (fun te h => ps_set (i := 11) sc.nd rfl (by first | exact Or.inl rfl | exact Or.inr rfl) h) (e_callS ⟨rfl, rfl⟩ rfl rfl (fun t h => pe_call (ok__law_pick T) (hr.mono (by decide)) (by rfl) T.m__law_pick T.f__law_pick.kp (b__law_pick T) .nil (passes_call (takes_of rfl rfl rfl rfl) fun _ _ _ _ h => h) h) (a_cons (e_var 1 (pv 1) rfl) (a_cons (e_var 8 (pv 8) rfl) a_nil)) (by exact (len_cons (len_cons len_nil))))) (ss_cons (s_asg 18 rfl (fun te h => ps_set (i := 18) sc.nd rfl (by first | exact Or.inl rfl | exact Or.inr rfl) h) (e_cb r_tuple (fun t h => pe_callTy call_tuple_of (by rfl) T.g_tuple (by decide +kernel) h) (ab_cons (bE (nE (n_lc rfl (tg_name 19 rfl) rfl rfl (fun wi hi => pe_lc (own := [("value", 19)]) rfl sc.nd hi (blkOk_by (N := ["script", "state", "turn", "many", "row", "one", "other", "exchange", "every", "both", "led", "filling", "literal", "item", "image", "back", "near", "weight", "fixed", "value", "told"]) (sc := defScope (top 70)) (by decide +kernel)) (fun _ _ _ _ _ => (pg_name (i := 19) sc.nd rfl (by first | exact Or.inl rfl | exact Or.inr rfl))) (fun _ _ _ _ _ => tYes_ok) (fun _ _ _ _ _ => (e_if (t_cmp r_eq (op_eqX hr.units) (bE (e_var 19 (pv 19) rfl)) (bE e_int) (nomark _)) e_str e_str))) (bE (e_var 11 (pv 11) rfl))))) ab_nil))) (ss_cons (s_asg 20 rfl (fun te h => ps_set (i := 20) sc.nd rfl (by first | exact Or.inl rfl | exact Or.inr rfl) h) (e_callP [] ⟨rfl, rfl⟩ (fun _ => Dens.nil) rfl (fun t h => pe_call (ok_led_row T) (hr.mono (by decide)) (by rfl) T.m_led_row T.f_led_row.kp (b_led_row T) .nil (passes_call (takes_of rfl rfl rfl rfl) fun _ _ _ _ h => h) h) (a_cons (e_var 3 (pv 3) rfl) (a_cons (e_var 18 (pv 18) rfl) (a_cons (e_var 4 (pv 4) rfl) a_nil))) (by exact (len_cons (len_cons (len_cons len_nil)))))) (ss_one (s_if (PW.pt (w_or (t_cmp r_ne (op_neX hr.units) (bE (e_bin r_ixA (fun t u h1 h2 => pe_ix (ix_all (hu_of hr)) h1 h2 (fun _ _ => rfl)) (bE (e_var 20 (pv 20) rfl)) (bE e_int))) (bE (e_tup a_nil)) (nomark _)) (w_or (t_cmp r_ne (op_neX hr.units) (bE (e_bin r_eq (fun t u h1 h2 => pe_cmpR (op_eqX hr.units) h1 h2 (nomark _)) (bE (e_bin r_ixA (fun t u h1 h2 => pe_ix (ix_all (hu_of hr)) h1 h2 (fun _ _ => rfl)) (bE (e_var 20 (pv 20) rfl)) (bE e_int))) (bE e_int))) (bE (e_callP [] ⟨rfl, rfl⟩ (fun _ => Dens.nil) rfl (fun t h => pe_call (ok__law_holds T) (hr.mono (by decide)) (by rfl) T.m__law_holds T.f__law_holds.kp (b__law_holds T) .nil (passes_call (takes_of rfl rfl rfl rfl) fun _ _ _ _ h => h) h) (a_cons (e_var 4 (pv 4) rfl) (a_cons (e_var 11 (pv 11) rfl) a_nil)) (by exact (len_cons (len_cons len_nil))))) (nomark _)) (w_or1 (t_cmp r_ne (op_neX hr.units) (bE (e_callP [] ⟨rfl, rfl⟩ (fun _ => Dens.nil) rfl (fun t h => pe_call (ok_led_filling T) (hr.mono (by decide)) (by rfl) T.m_led_filling T.f_led_filling.kp (b_led_filling T) .nil (passes_call (takes_of rfl rfl rfl rfl) fun _ _ _ _ h => h) h) (a_cons (e_var 3 (pv 3) rfl) (a_cons (e_var 18 (pv 18) rfl) (a_cons (e_callS ⟨rfl, rfl⟩ rfl rfl (fun t h => pe_call (ok__law_pick T) (hr.mono (by decide)) (by rfl) T.m__law_pick T.f__law_pick.kp (b__law_pick T) .nil (passes_call (takes_of rfl rfl rfl rfl) fun _ _ _ _ h => h) h) (a_cons (e_var 1 (pv 1) rfl) (a_cons (e_var 8 (pv 8) rfl) a_nil)) (by exact (len_cons (len_cons len_nil)))) a_nil))) (by exact (len_cons (len_cons (len_cons len_nil)))))) (bE (e_var 11 (pv 11) rfl)) (nomark _)))))) (ss_one (s_ret e_bl)) ss_nil)))))))))))))))) (by exact (len_cons len_nil))) (ss_one (s_ret e_bl)))
end
end My
namespace My
open PySem PySem.Spec L2 VS
theorem gEq_int (a b : Int) : gEq (.int a) (.int b) = some (.bl (a == b)) := rfl
theorem gNe_int (a b : Int) : gNe (.int a) (.int b) = some (.bl (!(a == b))) := rfl
structure Good (k : Nat) (S : DS) : Prop where
  lg : ∀ x ∈ S.large, 0 ≤ x
  ll : S.large.length ≤ 1000
  cl : S.cells.length ≤ 1000
  c0 : ∀ x ∈ S.cells, 0 ≤ x
  l0 : 0 ≤ S.left
  t0 : 0 ≤ S.turn
  t1 : S.turn + k ≤ 1000000000
theorem Good.mono {k j : Nat} {S : DS} (h : Good k S) (l : j ≤ k) : Good j S := ⟨h.lg, h.ll, h.cl, h.c0, h.l0, h.t0, by have := h.t1; omega⟩
abbrev drawW : Nat → MS := whileS (andT (testM (binM gEq (VS.stM 0 fun S => .int S.left) (cM (.int 0)))) (largeT 0)) (popLS 0)
theorem draw_while {env : VS.Env} (he : env[0]? = some (some .st)) : ∀ (n : Nat) (L : List Int) (S : DS) (k : Nat), S.large = L → L.length < n → Good k S → ∃ S', drawW n env S = .ok (.nx env, S') ∧ Good k S'
  | 0, _, _, _, _, h, _ => by omega
  | n + 1, L, S, k, hL, hn, g => by
    have st : VS.stM 0 (fun S => .int S.left) env S = .ok (.int S.left, S) := by simp only [VS.stM, he]
    by_cases h0 : S.left = 0
    · cases hl : S.large with
      | nil =>
        refine ⟨S, ?_, g⟩
        simp only [drawW, whileS, andT, testM, binM, bindM, st, cM, ofO, gEq_int, h0, beq_self_eq_true, if_true, largeT, he, hl, List.isEmpty_nil, Bool.not_true, Bool.false_eq_true, if_false]
      | cons x xs =>
        have g' : Good k { S with left := x, large := xs } := ⟨fun y hy => g.lg y (by rw [hl]; exact List.mem_cons_of_mem _ hy), by have := g.ll; rw [hl] at this; simp at this; show xs.length ≤ 1000; omega, g.cl, g.c0, g.lg x (by rw [hl]; simp), g.t0, g.t1⟩
        obtain ⟨S', h1, h2⟩ := draw_while he n xs { S with left := x, large := xs } k rfl (by rw [← hL, hl] at hn; simp at hn; exact hn) g'
        refine ⟨S', ?_, h2⟩
        have h1' := h1
        unfold drawW at h1'
        simp only [drawW, whileS, andT, testM, binM, bindM, st, cM, ofO, gEq_int, h0, beq_self_eq_true, if_true, largeT, he, hl, List.isEmpty_cons, Bool.not_false, popLS]
        exact h1'
    · refine ⟨S, ?_, g⟩
      have e : (S.left == 0) = false := by simpa using h0
      simp only [drawW, whileS, andT, testM, binM, bindM, st, cM, ofO, gEq_int, e, Bool.false_eq_true, if_false]
theorem lst_ne (ns : List Int) : gNe (.lst (ns.map D.int)) (.lst []) = some (.bl (!ns.isEmpty)) := by
  have h : toPy (.lst (ns.map D.int)) = some (.list (ns.map PyData.int)) := by
    have : ∀ ns : List Int, toPyL (ns.map D.int) = some (ns.map PyData.int) := fun ns => by
      induction ns with
      | nil => rfl
      | cons n ns ih => simp only [List.map_cons, toPyL, toPy, ih]
    simp only [toPy, this, Option.map_some]
  unfold gNe eqD eqD0
  rw [h]
  have e : toPy (.lst []) = some (.list []) := rfl
  rw [e]
  simp only [shaped_ints ns, show SeqAt.shaped (.list []) = true from shaped_ints [], Bool.and_self, if_true, Option.map_some]
  cases ns <;> rfl
theorem divW_lt {x n : Int} (h0 : 0 < n) (h1 : n.natAbs < 2 ^ 2000) : gDivW (.int x) (.int n) = some (.int (x / n)) := by
  have : decide (0 < n ∧ n.natAbs < 2 ^ 2000) = true := decide_eq_true ⟨h0, h1⟩
  simp only [gDivW, gIC, this, if_true]
theorem divW_small {x n : Int} (h0 : 0 < n) (h1 : n < 1073741824) : gDivW (.int x) (.int n) = some (.int (x / n)) := divW_lt h0 (Nat.lt_of_lt_of_le (m := 2 ^ 30) (by omega) (Nat.pow_le_pow_right (by decide) (by decide)))
theorem draw_ok {n : Int} {k : Nat} {S : DS} (h0 : 0 < n) (h1 : n < 1073741824) (g : Good (k + 1) S) : ∃ r S', G__law_draw [.st, .int n] S = .ok (.int r, S') ∧ 0 ≤ r ∧ r < n ∧ Good k S' := by
  obtain ⟨S1, w, g1⟩ := draw_while (env := startE 6 [.st, .int n]) rfl 100000 S.large S (k + 1) rfl (Nat.lt_of_le_of_lt g.ll (by decide)) g
  unfold G__law_draw g__law_draw t__law_draw_1 t__law_draw_2 b__law_draw_3
  have w' : whileS (andT (testM (binM gEq (VS.stM 0 fun S => .int S.left) (cM (.int 0)))) (largeT 0)) (popLS 0) 100000 (startE 6 [.st, .int n]) S = .ok (.nx (startE 6 [.st, .int n]), S1) := w
  simp only [seqS, w']
  by_cases hl : 0 < S1.left
  · refine ⟨S1.left % n, { S1 with left := S1.left / n }, ?_, Int.emod_nonneg _ (by omega), Int.emod_lt_of_pos _ h0, ⟨g1.lg, g1.ll, g1.cl, g1.c0, Int.ediv_nonneg g1.l0 (by omega), g1.t0, by have := g1.t1; show S1.turn + k ≤ _; omega⟩⟩
    have s1 : startE 6 [.st, .int n] = [some .st, some (.int n), none, none, none, none] := rfl
    have d5 : ∀ x, gMod (.int x) (.int n) = some (.int (x % n)) := fun x => by simp only [gIC, h0, decide_true, if_true]
    have d6 : ∀ x, gDivW (.int x) (.int n) = some (.int (x / n)) := fun x => divW_small h0 h1
    simp only [s1, ifS, testM, binM, bindM, VS.stM, List.getElem?_cons_zero, cM, ofO, gII, hl, decide_true, if_true, seqS, asgS, cbM, consA, nilA, gInt, varM, List.getElem?_cons_succ, d5, d6, List.set_cons_succ, List.set_cons_zero, leftS, retS, endS]
  · have hl0 : S1.left = 0 := by have := g1.l0; omega
    have ht := g1.t0
    have ht1 := g1.t1
    generalize et : S1.turn + 1 = t
    have hcell : ∃ c : Int, 0 ≤ c ∧ (ifM (testM (binM gNe (VS.stM 0 fun S => .lst (S.cells.map D.int)) (lstM nilA))) (binM gIxA (VS.stM 0 fun S => .lst (S.cells.map D.int)) (binM gMod (cbM gInt (consA (varM 3) nilA)) (cbM gLenA (consA (VS.stM 0 fun S => .lst (S.cells.map D.int)) nilA)))) (cM (.int 0))) [some .st, some (.int n), none, some (.int t), none, none] { S1 with turn := t } = .ok (.int c, { S1 with turn := t }) := by
      cases hc : S1.cells with
      | nil =>
        refine ⟨0, by omega, ?_⟩
        have e := lst_ne []
        simp only [List.map_nil] at e
        simp [ifM, testM, binM, bindM, VS.stM, lstM, nilA, ofO, hc, e, cM]
      | cons x xs =>
        have hpos : (0 : Int) < ((x :: xs).length : Int) := by simp only [List.length_cons]; omega
        have h1 := Int.emod_nonneg t (Int.ne_of_gt hpos)
        have h2 := Int.emod_lt_of_pos t hpos
        obtain ⟨y, hy⟩ : ∃ y, (x :: xs)[(t % ((x :: xs).length : Int)).toNat]? = some y := ⟨_, List.getElem?_eq_getElem (by omega)⟩
        refine ⟨y, g1.c0 y (by rw [hc]; exact List.mem_of_getElem? hy), ?_⟩
        have e := lst_ne (x :: xs)
        have ix : gIxA (.lst ((x :: xs).map D.int)) (.int (t % ((x :: xs).length : Int))) = some (.int y) := by
          simp only [gIxA, atI, ixN, if_pos h1, List.length_map, if_pos h2, Option.bind_some, List.getElem?_map, hy, Option.map_some]
        simp only [ifM, testM, binM, bindM, VS.stM, List.getElem?_cons_zero, lstM, nilA, List.length_nil, Nat.zero_le, if_true, ofO, hc, e, List.isEmpty_cons, Bool.not_false, cbM, consA, varM, List.getElem?_cons_succ, gInt, gLenA, List.length_map, gMod, gIC, hpos, decide_true, ix]
    obtain ⟨c, c0, hcell⟩ := hcell
    have m0 : 0 ≤ c % 2147483563 := Int.emod_nonneg _ (by omega)
    have m1 : c % 2147483563 < 2147483563 := Int.emod_lt_of_pos _ (by omega)
    have p3 : gPow (.int (c % 2147483563 + 40692 * t + 24681)) (.int 3) = some (.int ((c % 2147483563 + 40692 * t + 24681) ^ 3)) := by
      have : decide (0 ≤ (3 : Int) ∧ (3 : Int) ≤ 1000000 ∧ (c % 2147483563 + 40692 * t + 24681).natAbs < 2 ^ 64) = true := decide_eq_true ⟨by omega, by omega, by omega⟩
      simp only [gPow, gIC, this, if_true]
      rfl
    generalize em : (c % 2147483563 + 40692 * t + 24681) ^ 3 % 2147483629 = m at *
    have q0 : 0 ≤ m := by rw [← em]; exact Int.emod_nonneg _ (by omega)
    have q1 : m < 2147483629 := by rw [← em]; exact Int.emod_lt_of_pos _ (by omega)
    have p5 : gPow (.int (m + 104917 * t)) (.int 5) = some (.int ((m + 104917 * t) ^ 5)) := by
      have : decide (0 ≤ (5 : Int) ∧ (5 : Int) ≤ 1000000 ∧ (m + 104917 * t).natAbs < 2 ^ 64) = true := decide_eq_true ⟨by omega, by omega, by omega⟩
      simp only [gPow, gIC, this, if_true]
      rfl
    refine ⟨(m + 104917 * t) ^ 5 % 2147483579 / 29 % n, { S1 with turn := t }, ?_, Int.emod_nonneg _ (by omega), Int.emod_lt_of_pos _ h0, ⟨g1.lg, g1.ll, g1.cl, g1.c0, g1.l0, by show 0 ≤ t; omega, by show t + k ≤ _; omega⟩⟩
    have mul1 : gMulT (.int 40692) (.int t) = some (.int (40692 * t)) := by simp only [gMulT, gMul]; rw [if_pos (by omega)]
    have mul2 : gMulT (.int 104917) (.int t) = some (.int (104917 * t)) := by simp only [gMulT, gMul]; rw [if_pos (by omega)]
    have d1 : gMod (.int c) (.int 2147483563) = some (.int (c % 2147483563)) := by simp [gIC]
    have d2 : ∀ x, gMod (.int x) (.int 2147483629) = some (.int (x % 2147483629)) := fun x => by simp [gIC]
    have d3 : ∀ x, gMod (.int x) (.int 2147483579) = some (.int (x % 2147483579)) := fun x => by simp [gIC]
    have d4 : ∀ x, gDivW (.int x) (.int 29) = some (.int (x / 29)) := fun x => divW_small (by decide) (by decide)
    have d5 : ∀ x, gMod (.int x) (.int n) = some (.int (x % n)) := fun x => by simp [gIC, h0]
    have s1 : startE 6 [.st, .int n] = [some .st, some (.int n), none, none, none, none] := rfl
    have hlf : decide (0 < S1.left) = false := decide_eq_false hl
    simp only [s1, ifS, testM, binM, bindM, VS.stM, List.getElem?_cons_zero, cM, ofO, gII, hlf, Bool.false_eq_true, if_false, nextS, seqS, asgS, gAdd, et, List.set_cons_succ, List.set_cons_zero, turnS, varM, List.getElem?_cons_succ, hcell, cbM, consA, nilA, gInt, d1, mul1, p3, d2, em, mul2, p5, d3, d4, d5, retS, endS]
end My
namespace My
open PySem PySem.Spec L2 VS
abbrev Trm := List (Int × Int)
def dPair (p : Int × Int) : D := .tup [.int p.1, .int p.2]
def dRow (r : Trm × Int) : D := .tup [.tup (r.1.map dPair), .int r.2]
structure OkT (many : Int) (ts : Trm) : Prop where
  w : ∀ p ∈ ts, 1 ≤ p.1
  l : ∀ p ∈ ts, 1 ≤ p.2.natAbs ∧ (p.2.natAbs : Int) ≤ many
  inc : (ts.map fun p => p.2.natAbs).Pairwise (· < ·)
structure OkR (many : Int) (r : Trm × Int) : Prop where
  t : OkT many r.1
  b : 0 ≤ r.2
theorem atI_nat {α : Type} (xs : List α) (i : Int) (h0 : 0 ≤ i) (h1 : i < xs.length) : ∃ x, xs[i.toNat]? = some x ∧ atI xs i = some x := by
  refine ⟨xs[i.toNat], List.getElem?_eq_getElem (by omega), ?_⟩
  simp only [atI, ixN, if_pos h0, if_pos h1, Option.bind_some]
  exact List.getElem?_eq_getElem (by omega)
theorem pick_ok {ds : List D} {k : Nat} {S : DS} (h : 0 < ds.length) (h1 : ds.length < 1073741824) (g : Good (k + 1) S) : ∃ d S', G__law_pick [.st, .lst ds] S = .ok (d, S') ∧ d ∈ ds ∧ Good k S' := by
  obtain ⟨r, S', e, r0, r1, g'⟩ := draw_ok (n := (ds.length : Int)) (by omega) (by omega) g
  obtain ⟨d, e1, e2⟩ := atI_nat ds r r0 r1
  refine ⟨d, S', ?_, List.mem_of_getElem? e1, g'⟩
  unfold G__law_pick g__law_pick
  simp only [startE, List.map_cons, List.map_nil, List.cons_append, List.nil_append, retS, binM, bindM, varM, List.getElem?_cons_succ, List.getElem?_cons_zero, callS, consA, cbM, nilA, gLenA, ofO, e, gIxA, e2, endS]
theorem loop_inv {set : VS.Env → D → Option VS.Env} {g : MS} (I : Nat → VS.Env → DS → Prop) : ∀ (ds : List D) (i : Nat) (env : VS.Env) (S : DS), I i env S →
    (∀ j d env S, ds[j]? = some d → I (i + j) env S → ∃ env1 env2 S2, set env d = some env1 ∧ g env1 S = .ok (.nx env2, S2) ∧ I (i + j + 1) env2 S2) → ∃ env' S', loopS set g ds env S = .ok (.nx env', S') ∧ I (i + ds.length) env' S'
  | [], i, env, S, h, _ => ⟨env, S, rfl, h⟩
  | d :: ds, i, env, S, h, step => by
    obtain ⟨env1, env2, S2, h1, h2, h3⟩ := step 0 d env S rfl h
    obtain ⟨env', S', h4, h5⟩ := loop_inv I ds (i + 1) env2 S2 h3 fun j d env S hj hi => by
      have e : i + 1 + j = i + (j + 1) := by omega
      rw [e] at hi ⊢
      exact step (j + 1) d env S (by simpa using hj) hi
    refine ⟨env', S', ?_, by rw [List.length_cons, ← Nat.add_assoc, Nat.add_right_comm]; exact h5⟩
    simp only [loopS, h1, h2]
    exact h4
theorem OkT.nil {many : Int} : OkT many [] := ⟨fun p h => (by cases h), fun p h => (by cases h), List.Pairwise.nil⟩
theorem OkT.snoc {many : Int} {ts : Trm} {w l : Int} (h : OkT many ts) (hw : 1 ≤ w) (hl : 1 ≤ l.natAbs ∧ (l.natAbs : Int) ≤ many) (hi : ∀ p ∈ ts, p.2.natAbs < l.natAbs) : OkT many (ts ++ [(w, l)]) := by
  refine ⟨fun p hp => ?_, fun p hp => ?_, ?_⟩
  · rcases List.mem_append.mp hp with z | z
    · exact h.w p z
    · rw [List.mem_singleton.mp z]; exact hw
  · rcases List.mem_append.mp hp with z | z
    · exact h.l p z
    · rw [List.mem_singleton.mp z]; exact hl
  · rw [List.map_append, List.pairwise_append]
    refine ⟨h.inc, List.pairwise_singleton _ _, fun a ha b hb => ?_⟩
    obtain ⟨p, hp, rfl⟩ := List.mem_map.mp ha
    simp at hb
    rw [hb]
    exact hi p hp
def trT : MT := orT (testM (binM gEq (varM 4) (cM (.int 0)))) (testM (binM gGt (callS G__law_draw (consA (varM 0) (consA (cM (.int 3)) nilA))) (cM (.int 0))))
def trW : ME := ifM (testM (binM gEq (varM 4) (cM (.int 1)))) (cM (.int 1)) (binM gAdd (cM (.int 1)) (callS G__law_draw (consA (varM 0) (consA (varM 2) nilA))))
def trL : ME := ifM (testM (binM gEq (callS G__law_draw (consA (varM 0) (consA (cM (.int 2)) nilA))) (cM (.int 0)))) (varM 5) (binM gSub (cM (.int 0)) (varM 5))
def trB : MS := ifS trT (seqS (asgS 6 trW) (appS 3 (tupM (consA (varM 6) (consA trL nilA))))) nextS
theorem terms_ok {many most : Int} {k : Nat} {S : DS} (hm : 1 ≤ many) (hm2 : many ≤ 600) (ho : 1 ≤ most) (ho2 : most ≤ 1000) (g : Good (3 * many.toNat + 1 + k) S) :
    ∃ ts S', G__law_terms [.st, .int many, .int most] S = .ok (.tup (ts.map dPair), S') ∧ OkT many ts ∧ (∀ p ∈ ts, p.1 ≤ most) ∧ ts.length ≤ many.toNat ∧ Good k S' := by
  obtain ⟨way, S1, e1, w0, w1, g1⟩ := draw_ok (n := 4) (k := 3 * many.toNat + k) (by omega) (by omega) (g.mono (by omega))
  let I : Nat → VS.Env → DS → Prop := fun i env S => ∃ (ts : Trm) (x5 x6 : Option D), env = [some .st, some (.int many), some (.int most), some (.lst (ts.map dPair)), some (.int way), x5, x6] ∧ OkT many ts ∧ (∀ p ∈ ts, p.1 ≤ most) ∧ ts.length ≤ i ∧ (∀ p ∈ ts, (p.2.natAbs : Int) ≤ i) ∧ Good (3 * (many.toNat - i) + k) S
  obtain ⟨env', S', h1, ts, x5, x6, rfl, t1, t2, t3, t4, t5⟩ := loop_inv (set := setN 5) (g := trB)
    I (intsD 1 many.toNat) 0 [some .st, some (.int many), some (.int most), some (.lst []), some (.int way), none, none] S1 ⟨[], none, none, rfl, OkT.nil, fun p h => (by cases h), Nat.le_refl _, fun p h => (by cases h), g1.mono (by omega)⟩ (fun j d env S hj hI => by
      rw [Nat.zero_add] at hI ⊢
      have hlt : j < many.toNat := by have := (List.getElem?_eq_some_iff.mp hj).1; simpa [intsD] using this
      rw [intsD_at hlt] at hj
      cases hj
      obtain ⟨ts, x5, x6, rfl, t1, t2, t3, t4, t5⟩ := hI
      -- the first draw, where it is asked for
      have first : ∃ (b : Bool) (S2 : DS), trT [some .st, some (.int many), some (.int most), some (.lst (ts.map dPair)), some (.int way), some (.int (1 + (j : Int))), x6] S = .ok (b, S2) ∧ Good (3 * (many.toNat - j) - 1 + k) S2 := by
        by_cases hw : way = 0
        · refine ⟨true, S, ?_, t5.mono (by omega)⟩
          simp only [trT, orT, testM, binM, bindM, varM, List.getElem?_cons_succ, List.getElem?_cons_zero, cM, ofO, gEq_int, hw, beq_self_eq_true, if_true]
        · obtain ⟨r, S2, e2, r0, r1, g2⟩ := draw_ok (n := 3) (k := 3 * (many.toNat - j) - 1 + k) (by omega) (by omega) (t5.mono (by omega))
          have hf : (way == 0) = false := by simpa using hw
          refine ⟨decide (0 < r), S2, ?_, g2⟩
          simp only [trT, orT, testM, binM, bindM, varM, List.getElem?_cons_succ, List.getElem?_cons_zero, cM, ofO, gEq_int, hf, Bool.false_eq_true, if_false, callS, consA, nilA, e2, gII]
      obtain ⟨b, S2, e2, g2⟩ := first
      cases b with
      | false =>
        refine ⟨_, _, S2, rfl, ?_, ts, some (.int (1 + (j : Int))), x6, rfl, t1, t2, by omega, fun p hp => by have := t4 p hp; omega, g2.mono (by omega)⟩
        simp only [List.set_cons_succ, List.set_cons_zero, trB, ifS, e2, bindM, Bool.false_eq_true, if_false, nextS]
      | true =>
        have second : ∃ (w : Int) (S3 : DS), trW [some .st, some (.int many), some (.int most), some (.lst (ts.map dPair)), some (.int way), some (.int (1 + (j : Int))), x6] S2 = .ok (.int w, S3) ∧ 1 ≤ w ∧ w ≤ most ∧ Good (3 * (many.toNat - j) - 2 + k) S3 := by
          by_cases hw : way = 1
          · refine ⟨1, S2, ?_, by omega, ho, g2.mono (by omega)⟩
            simp only [trW, ifM, testM, binM, bindM, varM, List.getElem?_cons_succ, List.getElem?_cons_zero, cM, ofO, gEq_int, hw, beq_self_eq_true, if_true]
          · obtain ⟨r, S3, e3, r0, r1, g3⟩ := draw_ok (n := most) (k := 3 * (many.toNat - j) - 2 + k) (by omega) (by omega) (g2.mono (by omega))
            have hf : (way == 1) = false := by simpa using hw
            refine ⟨1 + r, S3, ?_, by omega, by omega, g3⟩
            simp only [trW, ifM, testM, binM, bindM, varM, List.getElem?_cons_succ, List.getElem?_cons_zero, cM, ofO, gEq_int, hf, Bool.false_eq_true, if_false, callS, consA, nilA, e3, gAdd]
        obtain ⟨w, S3, e3, w1', w2', g3⟩ := second
        obtain ⟨r, S4, e4, r0, r1, g4⟩ := draw_ok (n := 2) (k := 3 * (many.toNat - j) - 3 + k) (by omega) (by omega) (g3.mono (by omega))
        have hlen : (ts.map dPair).length < 1000000 := by rw [List.length_map]; omega
        refine ⟨_, _, S4, rfl, ?_, ts ++ [(w, if r = 0 then 1 + (j : Int) else -(1 + (j : Int)))], some (.int (1 + (j : Int))), some (.int w), rfl, t1.snoc w1' ?_ ?_, ?_, ?_, ?_, g4.mono (by omega)⟩
        · have e5 : trL [some .st, some (.int many), some (.int most), some (.lst (ts.map dPair)), some (.int way), some (.int (1 + (j : Int))), some (.int w)] S3 = .ok (.int (if r = 0 then 1 + (j : Int) else -(1 + (j : Int))), S4) := by
            by_cases hr : r = 0
            · subst hr
              simp only [trL, ifM, testM, binM, bindM, callS, consA, varM, List.getElem?_cons_zero, List.getElem?_cons_succ, nilA, cM, e4, ofO, gEq_int, beq_self_eq_true, if_true]
            · have hf : (r == 0) = false := by simpa using hr
              simp only [trL, ifM, testM, binM, bindM, callS, consA, varM, List.getElem?_cons_zero, List.getElem?_cons_succ, nilA, cM, e4, ofO, gEq_int, hf, Bool.false_eq_true, if_false, gII, if_neg hr, Int.zero_sub]
          simp only [List.set_cons_succ, List.set_cons_zero, trB, ifS, e2, bindM, if_true, seqS, asgS, e3, appS, List.getElem?_cons_succ, List.getElem?_cons_zero, tupM, consA, varM, e5, nilA, List.length_cons, List.length_nil, Nat.reduceAdd, Nat.reduceLeDiff, hlen, List.map_append, List.map_cons, List.map_nil, dPair]
        · split <;> omega
        · intro p hp
          have := t4 p hp
          show p.2.natAbs < (if r = 0 then 1 + (j : Int) else -(1 + (j : Int))).natAbs
          split <;> omega
        · intro p hp
          rcases List.mem_append.mp hp with z | z
          · exact t2 p z
          · rw [List.mem_singleton.mp z]; exact w2'
        · rw [List.length_append, List.length_singleton]; omega
        · intro p hp
          rcases List.mem_append.mp hp with z | z
          · have := t4 p z; omega
          · rw [List.mem_singleton.mp z]
            show ((if r = 0 then 1 + (j : Int) else -(1 + (j : Int))).natAbs : Int) ≤ _
            split <;> omega)
  have hlen : (intsD 1 many.toNat).length = many.toNat := by simp [intsD]
  rw [Nat.zero_add, hlen] at t3 t5
  refine ⟨ts, S', ?_, t1, t2, t3, t5.mono (by omega)⟩
  have hG : G__law_terms [.st, .int many, .int most] S = endS (seqS (parOS 3 4 (lstM nilA) (callS G__law_draw (consA (varM 0) (consA (cM (.int 4)) nilA)))) (seqS (forR (setN 5) (consA (cM (.int 1)) (consA (binM gAdd (varM 1) (cM (.int 1))) nilA)) trB) (retS (cbM gTuple (consA (varM 3) nilA)))) (startE 7 [.st, .int many, .int most]) S) := rfl
  rw [hG]
  have hr : rangeOf [.int 1, .int (many + 1)] = some (intsD 1 many.toNat) := by
    simp only [rangeOf]
    rw [if_pos (by omega)]
    congr 2
    omega
  have s1 : startE 7 [.st, .int many, .int most] = [some .st, some (.int many), some (.int most), none, none, none, none] := rfl
  simp only [s1, seqS, parOS, lstM, nilA, bindM, List.length_nil, Nat.zero_le, if_true, callS, consA, varM, List.getElem?_cons_zero, cM, e1, List.set_cons_succ, List.set_cons_zero, forR, binM, List.getElem?_cons_succ, ofO, gAdd, hr, h1, retS, cbM, gTuple, endS]
end My
namespace My
open PySem PySem.Spec L2 VS
section
variable {α β : Type} {S : DS}
theorem comp_map {set : VS.Env → D → Option VS.Env} {test : MT} {elt : ME} {env0 : VS.Env} (enc : α → D) (k : α → Bool) (y : α → D) (xs : List α)
    (h : ∀ x ∈ xs, ∃ env1, set env0 (enc x) = some env1 ∧ test env1 S = .ok (k x, S) ∧ (k x = true → elt env1 S = .ok (y x, S))) : compM set test elt env0 (xs.map enc) S = .ok ((xs.filter k).map y, S) := by
  induction xs with
  | nil => rfl
  | cons x xs ih =>
    obtain ⟨env1, h1, h2, h3⟩ := h x List.mem_cons_self
    have ih := ih fun z hz => h z (List.mem_cons_of_mem _ hz)
    simp only [List.map_cons, compM, h1, h2, noX, bindM]
    cases hk : k x with
    | true => simp only [if_true, h3 hk, noX, bindM, ih, List.filter_cons, hk, List.map_cons]
    | false => simp only [Bool.false_eq_true, if_false, ih, List.filter_cons, hk]
theorem comp_all {set : VS.Env → D → Option VS.Env} {elt : ME} {env0 : VS.Env} (enc : α → D) (y : α → D) (xs : List α)
    (h : ∀ x ∈ xs, ∃ env1, set env0 (enc x) = some env1 ∧ elt env1 S = .ok (y x, S)) : compM set (fun _ S => .ok (true, S)) elt env0 (xs.map enc) S = .ok (xs.map y, S) := by
  have := comp_map (set := set) (test := fun _ S => .ok (true, S)) (elt := elt) (env0 := env0) (S := S) enc (fun _ => true) y xs fun x hx => let ⟨e, h1, h2⟩ := h x hx; ⟨e, h1, rfl, fun _ => h2⟩
  rw [this, List.filter_eq_self.mpr (by simp)]
theorem loop_fold {set : VS.Env → D → Option VS.Env} {g : MS} (enc : α → D) (E : β → VS.Env) (step : β → α → β) : ∀ (xs : List α) (b : β), (∀ b, ∀ x ∈ xs, ∃ env1, set (E b) (enc x) = some env1 ∧ g env1 S = .ok (.nx (E (step b x)), S)) →
    loopS set g (xs.map enc) (E b) S = .ok (.nx (E (xs.foldl step b)), S)
  | [], b, _ => rfl
  | x :: xs, b, h => by
    obtain ⟨env1, h1, h2⟩ := h b x List.mem_cons_self
    simp only [List.map_cons, loopS, h1, h2, List.foldl_cons]
    exact loop_fold enc E step xs (step b x) fun b z hz => h b z (List.mem_cons_of_mem _ hz)
theorem loop_foldP {set : VS.Env → D → Option VS.Env} {g : MS} (enc : α → D) (E : β → VS.Env) (step : β → α → β) (P : β → List α → Prop) : ∀ (xs : List α) (b : β), P b xs → (∀ b x xs, P b (x :: xs) → P (step b x) xs ∧ ∃ env1, set (E b) (enc x) = some env1 ∧ g env1 S = .ok (.nx (E (step b x)), S)) →
    loopS set g (xs.map enc) (E b) S = .ok (.nx (E (xs.foldl step b)), S)
  | [], b, _, _ => rfl
  | x :: xs, b, hP, h => by
    obtain ⟨hP', env1, h1, h2⟩ := h b x xs hP
    simp only [List.map_cons, loopS, h1, h2, List.foldl_cons]
    exact loop_foldP enc E step P xs (step b x) hP' h
end
theorem eqD_self {d : D} {p : PyData} (h : toPy d = some p) (hs : SeqAt.shaped p = true) (hr : PyData.eqv p p = true) : eqD d d = some true := by
  unfold eqD
  cases hq : eqS d d with
  | some k => cases d <;> simp [eqS] at hq <;> simp [← hq]
  | none =>
    unfold eqD0
    simp only [h, hs, Bool.and_self, if_true, hr]
theorem lcM_tup {set : VS.Env → D → Option VS.Env} {f elt : ME} {test : MT} {vs : List Nat} {env : VS.Env} {S S1 : DS} {ds : List D} (h : f env S = .ok (.tup ds, S1)) : lcM set f test elt vs env S = bindM (compM set test elt (wipeE env vs) ds S1) fun ys S2 => .ok (.lst ys, S2) := by
  simp only [lcM, h, bindM]
theorem lcM_lst {set : VS.Env → D → Option VS.Env} {f elt : ME} {test : MT} {vs : List Nat} {env : VS.Env} {S S1 : DS} {ds : List D} (h : f env S = .ok (.lst ds, S1)) : lcM set f test elt vs env S = bindM (compM set test elt (wipeE env vs) ds S1) fun ys S2 => .ok (.lst ys, S2) := by
  simp only [lcM, h, bindM]
theorem seq_nx {g1 g2 : MS} {env env' : VS.Env} {S S' : DS} (h : g1 env S = .ok (.nx env', S')) : seqS g1 g2 env S = g2 env' S' := by simp only [seqS, h]
theorem if_no {t : MT} {g1 : MS} {env : VS.Env} {S S' : DS} (h : t env S = .ok (false, S')) : ifS t g1 nextS env S = .ok (.nx env, S') := by simp only [ifS, h, bindM, Bool.false_eq_true, if_false, nextS]
end My
namespace My
open PySem PySem.Spec L2 VS
mutual
def plD : Nat → D → Bool
  | _, .non => true
  | _, .bl _ => true
  | _, .int _ => true
  | _, .str x => PyData.canLay0 (.str x)
  | n + 1, .tup ds => plL n ds
  | n + 1, .lst ds => plL n ds
  | _, _ => false
def plL : Nat → List D → Bool
  | _, [] => true
  | n, d :: ds => plD n d && plL n ds
end
mutual
theorem plD_py : ∀ (n : Nat) (d : D), plD n d = true → ∃ p, toPy d = some p ∧ p.canLay0 = true ∧ p.depth ≤ n ∧ PyData.eqv p p = true
  | _, .non, _ => ⟨.none, rfl, rfl, Nat.zero_le _, rfl⟩
  | _, .bl b, _ => ⟨.bool b, rfl, rfl, Nat.zero_le _, by cases b <;> rfl⟩
  | _, .int i, _ => ⟨.int i, rfl, rfl, Nat.zero_le _, by simp [PyData.eqv]⟩
  | _, .str x, h => ⟨.str x, rfl, by cases ‹Nat› <;> simpa [plD] using h, Nat.zero_le _, by simp [PyData.eqv]⟩
  | n + 1, .tup ds, h => by
    obtain ⟨ps, h1, h2, h3, h4⟩ := plL_py n ds (by simpa [plD] using h)
    exact ⟨.tuple ps, by simp [toPy, h1], by simpa [PyData.canLay0] using h2, by simp only [PyData.depth]; omega, by simpa [PyData.eqv] using h4⟩
  | n + 1, .lst ds, h => by
    obtain ⟨ps, h1, h2, h3, h4⟩ := plL_py n ds (by simpa [plD] using h)
    exact ⟨.list ps, by simp [toPy, h1], by simpa [PyData.canLay0] using h2, by simp only [PyData.depth]; omega, by simpa [PyData.eqv] using h4⟩
  | 0, .tup _, h => by simp [plD] at h
  | 0, .lst _, h => by simp [plD] at h
  | n, .dct _ _, h => by cases n <;> simp [plD] at h
  | n, .exc _ _ _, h => by cases n <;> simp [plD] at h
  | n, .cls _, h => by cases n <;> simp [plD] at h
  | n, .st, h => by cases n <;> simp [plD] at h
  | n, .opq _, h => by cases n <;> simp [plD] at h
  | n, .scr _, h => by cases n <;> simp [plD] at h
theorem plL_py : ∀ (n : Nat) (ds : List D), plL n ds = true → ∃ ps, toPyL ds = some ps ∧ PyData.canLayAll0 ps = true ∧ PyData.depthAll ps ≤ n ∧ PyData.eqvAll ps ps = true
  | _, [], _ => ⟨[], rfl, rfl, Nat.zero_le _, rfl⟩
  | n, d :: ds, h => by
    simp only [plL, Bool.and_eq_true] at h
    obtain ⟨p, h1, h2, h3, h4⟩ := plD_py n d h.1
    obtain ⟨ps, k1, k2, k3, k4⟩ := plL_py n ds h.2
    exact ⟨p :: ps, by simp [toPyL, h1, k1], by simp [PyData.canLayAll0, h2, k2], by simp only [PyData.depthAll]; omega, by simp [PyData.eqvAll, h4, k4]⟩
end
theorem plD_eq {n : Nat} {d : D} (h : plD n d = true) (hn : n ≤ 64) : eqD d d = some true := by
  obtain ⟨p, h1, h2, h3, h4⟩ := plD_py n d h
  refine eqD_self h1 ?_ h4
  unfold SeqAt.shaped
  rw [h2, Bool.true_and]
  exact decide_eq_true (by omega)
theorem gNe_self {n : Nat} {d : D} (h : plD n d = true) (hn : n ≤ 64 := by decide) : gNe d d = some (.bl false) := by simp only [gNe, plD_eq h hn, Option.map_some, Bool.not_true]
theorem gEq_self {n : Nat} {d : D} (h : plD n d = true) (hn : n ≤ 64 := by decide) : gEq d d = some (.bl true) := by simp only [gEq, plD_eq h hn, Option.map_some]
theorem gNe_of {n : Nat} {d e : D} (q : d = e) (h : plD n d = true) (hn : n ≤ 64 := by decide) : gNe d e = some (.bl false) := q ▸ gNe_self h hn
theorem plL_all {n : Nat} {ds : List D} (h : ∀ d ∈ ds, plD n d = true) : plL n ds = true := by
  induction ds with
  | nil => simp [plL]
  | cons d ds ih => simp [plL, h d List.mem_cons_self, ih fun e he => h e (List.mem_cons_of_mem _ he)]
theorem plL_map {α : Type} {n : Nat} {f : α → D} {xs : List α} (h : ∀ x ∈ xs, plD n (f x) = true) : plL n (xs.map f) = true := plL_all fun d hd => by
  obtain ⟨x, hx, rfl⟩ := List.mem_map.mp hd
  exact h x hx
theorem pl_pair (p : Int × Int) : plD 1 (dPair p) = true := by simp [plD, plL, dPair]
theorem pl_row (r : Trm × Int) : plD 3 (dRow r) = true := by
  simp only [plD, plL, dRow, Bool.and_true]
  refine plL_map fun p _ => ?_
  simp [plD, plL, dPair]
theorem pl_ints (f : List Int) : plD 1 (tupDI f) = true := by
  unfold tupDI
  simp only [plD]
  exact plL_map fun x _ => by simp [plD]
theorem pl_intsL (f : List Int) : plD 1 (.lst (f.map D.int)) = true := by
  simp only [plD]
  exact plL_map fun x _ => by simp [plD]
theorem gNe_bl0 (b : Bool) : gNe (.bl b) (.bl b) = some (.bl false) := by cases b <;> rfl
theorem gNe_bl2 (a b : Bool) : gNe (.bl a) (.bl b) = some (.bl (a != b)) := by cases a <;> cases b <;> rfl
theorem gEq_bl2 (a b : Bool) : gEq (.bl a) (.bl b) = some (.bl (a == b)) := by cases a <;> cases b <;> rfl
end My
namespace My
open PySem PySem.Spec L2 VS
theorem toInts_ints : ∀ ns : List Int, toInts (ns.map D.int) = some ns
  | [] => rfl
  | n :: ns => by simp only [List.map_cons, toInts, toInts_ints ns, Option.map_some]
theorem gSum_ints (ns : List Int) : gSum [.lst (ns.map D.int)] = some (.int ns.sum) := by simp only [gSum, toInts_ints, Option.map_some]
def tot (ts : Trm) : Int := (ts.map (·.1)).sum
theorem tot_nonneg {many : Int} {ts : Trm} (h : ∀ p ∈ ts, 1 ≤ p.1) : 0 ≤ tot ts := by
  unfold tot
  induction ts with
  | nil => simp
  | cons p ts ih =>
    have := ih fun q hq => h q (List.mem_cons_of_mem _ hq)
    have := h p List.mem_cons_self
    rw [List.map_cons, List.sum_cons]
    omega
theorem tot_le {most : Int} {ts : Trm} (h : ∀ p ∈ ts, p.1 ≤ most) : tot ts ≤ ts.length * most := by
  unfold tot
  induction ts with
  | nil => simp
  | cons p ts ih =>
    have := ih fun q hq => h q (List.mem_cons_of_mem _ hq)
    have := h p List.mem_cons_self
    rw [List.map_cons, List.sum_cons, List.length_cons, Int.natCast_add, Int.add_mul]
    omega
def rowP : ME := tupM (consA (varM 3) (consA (callS G__law_pick (consA (varM 0) (consA (lstM (consA (cM (.int 0)) (consA (varM 4) (consA (binM gAdd (varM 4) (cM (.int 1))) nilA)))) nilA))) nilA))
def rowQ : ME := ifM (testM (binM gLt (varM 7) (cM (.int 4)))) (callS G__law_draw (consA (varM 0) (consA (binM gAdd (varM 4) (cM (.int 1))) nilA))) (binM gSub (binM gDivW (binM gAdd (varM 4) (cM (.int 1))) (cM (.int 2))) (cbM gInt (consA (andV (binM gEq (varM 7) (cM (.int 4))) (binM gGt (varM 4) (cM (.int 1)))) nilA)))
theorem rowQ_ok {T : D} {many most t way : Int} {k : Nat} {S : DS} {x5 x6 : Option D} (h0 : 0 ≤ t) (h1 : t < 1000000) (g : Good (k + 1) S) : ∃ b S', rowQ [some .st, some (.int many), some (.int most), some T, some (.int t), x5, x6, some (.int way)] S = .ok (.int b, S') ∧ (0 ≤ b ∧ b ≤ t + 1) ∧ Good k S' := by
  by_cases hw : way < 4
  · obtain ⟨r, S', e, r0, r1, g'⟩ := draw_ok (n := t + 1) (by omega) (by omega) g
    refine ⟨r, S', ?_, ⟨r0, by omega⟩, g'⟩
    simp only [rowQ, ifM, testM, binM, bindM, varM, List.getElem?_cons_succ, List.getElem?_cons_zero, cM, ofO, gII, hw, decide_true, if_true, callS, consA, nilA, gAdd, e]
  · have hd : gDivW (.int (t + 1)) (.int 2) = some (.int ((t + 1) / 2)) := divW_small (by decide) (by decide)
    by_cases h4 : way = 4
    · subst h4
      refine ⟨(t + 1) / 2 - (if decide (1 < t) = true then 1 else 0), S, ?_, ?_, g.mono (by omega)⟩
      · simp only [rowQ, ifM, testM, binM, bindM, varM, List.getElem?_cons_succ, List.getElem?_cons_zero, cM, ofO, gII, hw, decide_false, Bool.false_eq_true, if_false, gAdd, hd, cbM, consA, andV, gEq_int, beq_self_eq_true, nilA, gInt]
      · by_cases h : 1 < t
        · simp only [h, decide_true, if_true]; exact ⟨by omega, by omega⟩
        · simp only [h, decide_false, Bool.false_eq_true, if_false]; exact ⟨by omega, by omega⟩
    · have hf : (way == 4) = false := by simpa using h4
      refine ⟨(t + 1) / 2 - 0, S, ?_, ⟨by omega, by omega⟩, g.mono (by omega)⟩
      simp only [rowQ, ifM, testM, binM, bindM, varM, List.getElem?_cons_succ, List.getElem?_cons_zero, cM, ofO, gII, hw, decide_false, Bool.false_eq_true, if_false, gAdd, hd, cbM, consA, andV, gEq_int, hf, nilA, gInt]
theorem lc_weights {ts : Trm} {S : DS} {env0 : VS.Env} {a b : Nat} (ha : (env0.set a (some (.int 0)))[a]? = some (some (.int 0))) (hab : a ≠ b) : compM (setT [a, b]) (fun _ S => .ok (true, S)) (varM a) env0 (ts.map dPair) S = .ok ((ts.map (·.1)).map D.int, S) := by
  have hl : a < env0.length := by
    have := (List.getElem?_eq_some_iff.mp ha).1
    simpa using this
  have e := compM_eq (set := setT [a, b]) (test := fun _ S => .ok (true, S)) (elt := varM a) (env0 := env0) (S := S) (fun _ => true) (fun d => match d with | .tup (x :: _) => x | _ => .non) (ts.map dPair) (fun d hd => by
    obtain ⟨p, _, rfl⟩ := List.mem_map.mp hd
    refine ⟨(env0.set a (some (.int p.1))).set b (some (.int p.2)), rfl, rfl, fun _ => ?_⟩
    have : ((env0.set a (some (.int p.1))).set b (some (.int p.2)))[a]? = some (some (.int p.1)) := by
      rw [List.getElem?_set_ne (Ne.symm hab), List.getElem?_set_self hl]
    simp only [varM, this, dPair])
  rw [e]
  have ft : (ts.map dPair).filter (fun _ => true) = ts.map dPair := List.filter_eq_self.mpr (by simp)
  rw [ft, List.map_map, List.map_map]
  rfl
theorem row_ok' {many most : Int} {k : Nat} {S : DS} (hm : 1 ≤ many) (hm2 : many ≤ 600) (ho : 1 ≤ most) (ho2 : most ≤ 1000) (g : Good (3 * many.toNat + 3 + k) S) : ∃ r S', G__law_row [.st, .int many, .int most] S = .ok (dRow r, S') ∧ OkR many r ∧ (∀ p ∈ r.1, p.1 ≤ most) ∧ r.2 ≤ tot r.1 + 1 ∧ Good k S' := by
  obtain ⟨ts, S1, e1, t1, t2, t3, g1⟩ := terms_ok (k := 2 + k) hm hm2 ho ho2 (g.mono (by omega))
  have t0 := tot_nonneg (many := many) t1.w
  have tl := tot_le t2
  have tb : tot ts < 1000000 := by
    have h1 : (ts.length : Int) ≤ 600 := by omega
    have : (ts.length : Int) * most ≤ 600 * 1000 := Int.mul_le_mul h1 ho2 (by omega) (by omega)
    omega
  obtain ⟨way, S2, e2, w0, w1, g2⟩ := draw_ok (n := 10) (k := 1 + k) (by omega) (by omega) (g1.mono (by omega))
  have hG : G__law_row [.st, .int many, .int most] S = endS (seqS (asgS 3 (callS G__law_terms (consA (varM 0) (consA (varM 1) (consA (varM 2) nilA))))) (seqS (asgS 4 (cbM gSum (consA (lcM (setT [5, 6]) (varM 3) (fun _ S => .ok (true, S)) (varM 5) [5, 6]) nilA))) (seqS (asgS 7 (callS G__law_draw (consA (varM 0) (consA (cM (.int 10)) nilA)))) (seqS (ifS (testM (binM gEq (varM 7) (cM (.int 0)))) (retS rowP) nextS) (retS (tupM (consA (varM 3) (consA rowQ nilA))))))) (startE 8 [.st, .int many, .int most]) S) := rfl
  have s1 : startE 8 [.st, .int many, .int most] = [some .st, some (.int many), some (.int most), none, none, none, none, none] := rfl
  have lw := lc_weights (ts := ts) (S := S1) (env0 := wipeE [some .st, some (.int many), some (.int most), some (.tup (ts.map dPair)), none, none, none, none] [5, 6]) (a := 5) (b := 6) rfl (by decide)
  have gs : gSum [.lst ((ts.map (·.1)).map D.int)] = some (.int (tot ts)) := gSum_ints _
  by_cases hw : way = 0
  · subst hw
    obtain ⟨d, S3, e3, hd, g3⟩ := pick_ok (ds := [.int 0, .int (tot ts), .int (tot ts + 1)]) (k := k) (by simp) (by simp) (g2.mono (by omega))
    obtain ⟨x, rfl, hx⟩ : ∃ x, d = .int x ∧ 0 ≤ x ∧ x ≤ tot ts + 1 := by
      simp only [List.mem_cons, List.not_mem_nil, or_false] at hd
      rcases hd with rfl | rfl | rfl
      · exact ⟨_, rfl, by omega, by omega⟩
      · exact ⟨_, rfl, t0, by omega⟩
      · exact ⟨_, rfl, by omega, by omega⟩
    refine ⟨(ts, x), S3, ?_, ⟨t1, hx.1⟩, t2, hx.2, g3⟩
    rw [hG]
    simp only [s1, seqS, asgS, callS, bindM, consA, varM, List.getElem?_cons_zero, List.getElem?_cons_succ, nilA, e1, List.set_cons_succ, List.set_cons_zero, cbM, lcM, lw, ofO, gs, cM, e2, ifS, testM, binM, gEq_int, beq_self_eq_true, if_true, retS, rowP, tupM, lstM, List.length_cons, List.length_nil, Nat.reduceAdd, Nat.reduceLeDiff, gAdd, e3, endS, dRow]
  · have hf : (way == 0) = false := by simpa using hw
    obtain ⟨b, S3, e3, hb, g3⟩ := rowQ_ok (T := .tup (ts.map dPair)) (many := many) (most := most) (way := way) (x5 := none) (x6 := none) (k := k) t0 tb (g2.mono (by omega))
    refine ⟨(ts, b), S3, ?_, ⟨t1, hb.1⟩, t2, hb.2, g3⟩
    rw [hG]
    simp only [s1, seqS, asgS, callS, bindM, consA, varM, List.getElem?_cons_zero, List.getElem?_cons_succ, nilA, e1, List.set_cons_succ, List.set_cons_zero, cbM, lcM, lw, ofO, gs, cM, e2, ifS, testM, binM, gEq_int, hf, Bool.false_eq_true, if_false, nextS, retS, tupM, e3, List.length_cons, List.length_nil, Nat.reduceAdd, Nat.reduceLeDiff, if_true, endS, dRow]
theorem row_ok {many most : Int} {k : Nat} {S : DS} (hm : 1 ≤ many) (hm2 : many ≤ 600) (ho : 1 ≤ most) (ho2 : most ≤ 1000) (g : Good (3 * many.toNat + 3 + k) S) : ∃ r S', G__law_row [.st, .int many, .int most] S = .ok (dRow r, S') ∧ OkR many r ∧ Good k S' :=
  let ⟨r, S', e, h, _, _, g'⟩ := row_ok' hm hm2 ho ho2 g
  ⟨r, S', e, h, g'⟩
end My
namespace My
open PySem PySem.Spec PyProof.Rows L2 VS
def t__law_changed_1 : MT := (andT (testM (binM gNe (varM 3) (lstM nilA))) (testM (binM gEq (varM 6) (cM (.int 0)))))
def t__law_changed_2 : MT := (andT (testM (binM gNe (varM 3) (lstM nilA))) (testM (binM gLt (varM 6) (cM (.int 3)))))
def t__law_changed_3 : MT := (andT (testM (binM gNe (varM 3) (lstM nilA))) (andT (testM (binM gEq (varM 6) (cM (.int 3)))) (testM (binM gGt (binM gIxA (binM gIxA (varM 3) (varM 7)) (cM (.int 0))) (cM (.int 1))))))
def b__law_changed_4 : MS := (seqS (setA 3 (varM 7) (tupM (consA (binM gSub (binM gIxA (binM gIxA (varM 3) (varM 7)) (cM (.int 0))) (cM (.int 1))) (consA (binM gIxA (binM gIxA (varM 3) (varM 7)) (cM (.int 1))) nilA)))) (asgS 4 (cbM gMax (consA (cM (.int 0)) (consA (binM gSub (varM 4) (callS G__law_draw (consA (varM 0) (consA (cM (.int 2)) nilA)))) nilA)))))
def b__law_changed_5 : MS := (asgS 4 (cbM gMax (consA (cM (.int 0)) (consA (binM gAdd (binM gSub (varM 4) (cM (.int 1))) (callS G__law_draw (consA (varM 0) (consA (cM (.int 2)) nilA)))) nilA))))
def b__law_changed_6 : MS := (setA 3 (varM 7) (tupM (consA (binM gAdd (binM gAdd (binM gIxA (binM gIxA (varM 3) (varM 7)) (cM (.int 0))) (cM (.int 1))) (callS G__law_draw (consA (varM 0) (consA (cM (.int 2)) nilA)))) (consA (binM gIxA (binM gIxA (varM 3) (varM 7)) (cM (.int 1))) nilA))))
def b__law_changed_7 : MS := (seqS (popM 3 (varM 7) (nxUnp [8, 9])) (asgS 4 (cbM gMax (consA (cM (.int 0)) (consA (binM gSub (varM 4) (callS G__law_pick (consA (varM 0) (consA (lstM (consA (varM 8) (consA (binM gSub (varM 8) (cM (.int 1))) (consA (varM 8) nilA)))) nilA)))) nilA)))))
def b__law_changed_8 : MS := (seqS (parS 6 7 (consA (callS G__law_draw (consA (varM 0) (consA (cM (.int 5)) nilA))) (consA (ifM (testM (binM gNe (varM 3) (lstM nilA))) (callS G__law_draw (consA (varM 0) (consA (cbM gLenA (consA (varM 3) nilA)) nilA))) (cM (.int 0))) nilA))) (ifS t__law_changed_1 b__law_changed_7 (ifS t__law_changed_2 b__law_changed_6 (ifS t__law_changed_3 b__law_changed_4 b__law_changed_5))))
def g__law_changed : MS := (seqS (parOS 3 4 (cbM gList (consA (binM gIxA (varM 2) (cM (.int 0))) nilA)) (binM gIxA (varM 2) (cM (.int 1)))) (seqS (forR (setN 5) (consA (binM gAdd (cM (.int 1)) (callS G__law_draw (consA (varM 0) (consA (cM (.int 3)) nilA)))) nilA) b__law_changed_8) (retS (tupM (consA (cbM gTuple (consA (varM 3) nilA)) (consA (varM 4) nilA))))))
def G__law_changed (ds : List D) (S : DS) : Res (D × DS) := endS (g__law_changed (startE 10 ds) S)
end My
namespace My
open PySem PySem.Spec L2 VS
def pyPair (p : Int × Int) : PyData := .tuple [.int p.1, .int p.2]
theorem toPy_pairs (ts : Trm) : toPyL (ts.map dPair) = some (ts.map pyPair) := by
  induction ts with
  | nil => rfl
  | cons p ts ih => simp only [List.map_cons, toPyL, dPair, toPy, Option.map_some, ih, pyPair]
theorem shaped_pairs (ts : Trm) : SeqAt.shaped (.list (ts.map pyPair)) = true := by
  have h1 : ∀ ts : Trm, PyData.canLayAll0 (ts.map pyPair) = true := fun ts => by induction ts with
    | nil => rfl
    | cons n ns ih => simp only [List.map_cons, PyData.canLayAll0, pyPair, PyData.canLay0, ih, Bool.and_self]
  have h2 : ∀ ts : Trm, PyData.depthAll (ts.map pyPair) ≤ 1 := fun ts => by induction ts with
    | nil => exact Nat.zero_le _
    | cons n ns ih =>
      simp only [List.map_cons, PyData.depthAll, pyPair, PyData.depth]
      omega
  unfold SeqAt.shaped
  simp only [PyData.canLay0, h1, PyData.depth, Bool.true_and]
  have := h2 ts
  exact decide_eq_true (by omega)
theorem prs_ne (ts : Trm) : gNe (.lst (ts.map dPair)) (.lst []) = some (.bl (!ts.isEmpty)) := by
  unfold gNe eqD eqD0
  have e : toPy (.lst []) = some (.list []) := rfl
  simp only [eqS, toPy, toPy_pairs, Option.map_some, toPyL, shaped_pairs ts, show SeqAt.shaped (.list []) = true from shaped_ints [], Bool.and_self, if_true]
  cases ts <;> rfl
theorem inc_len : ∀ (l : List Nat) (lo m : Nat), l.Pairwise (· < ·) → (∀ x ∈ l, lo < x ∧ x ≤ m) → l.length ≤ m - lo
  | [], _, _, _, _ => Nat.zero_le _
  | x :: l, lo, m, hp, h => by
    rw [List.pairwise_cons] at hp
    have hx := h x List.mem_cons_self
    have := inc_len l x m hp.2 fun y hy => ⟨hp.1 y hy, (h y (List.mem_cons_of_mem _ hy)).2⟩
    rw [List.length_cons]
    omega
theorem OkT.len {many : Int} {ts : Trm} (h : OkT many ts) : ts.length ≤ many.toNat := by
  have := inc_len (ts.map fun p => p.2.natAbs) 0 many.toNat h.inc fun x hx => by
    obtain ⟨p, hp, rfl⟩ := List.mem_map.mp hx
    have := h.l p hp
    omega
  simpa using this
theorem erase_map {α β : Type} (f : α → β) : ∀ (l : List α) (i : Nat), (l.map f).eraseIdx i = (l.eraseIdx i).map f
  | [], _ => rfl
  | _ :: _, 0 => rfl
  | x :: l, i + 1 => by simp only [List.map_cons, List.eraseIdx_cons_succ, erase_map f l i]
theorem OkT.erase {many : Int} {ts : Trm} (h : OkT many ts) (j : Nat) : OkT many (ts.eraseIdx j) := by
  have sub := List.eraseIdx_sublist ts j
  exact ⟨fun p hp => h.w p (sub.subset hp), fun p hp => h.l p (sub.subset hp), List.Pairwise.sublist (sub.map _) h.inc⟩
theorem OkT.put {many : Int} {ts : Trm} (h : OkT many ts) {j : Nat} {p : Int × Int} (hj : ts[j]? = some p) {w : Int} (hw : 1 ≤ w) : OkT many (ts.set j (w, p.2)) := by
  have hm := List.mem_of_getElem? hj
  refine ⟨fun q hq => ?_, fun q hq => ?_, ?_⟩
  · rcases List.mem_or_eq_of_mem_set hq with z | z
    · exact h.w q z
    · rw [z]; exact hw
  · rcases List.mem_or_eq_of_mem_set hq with z | z
    · exact h.l q z
    · rw [z]; exact h.l p hm
  · have e : (ts.set j (w, p.2)).map (fun p => p.2.natAbs) = ts.map fun p => p.2.natAbs := by
      rw [List.map_set]
      apply List.ext_getElem?
      intro i
      by_cases hi : i = j
      · subst hi
        have hl := (List.getElem?_eq_some_iff.mp hj).1
        rw [List.getElem?_set_self (by simpa using hl), List.getElem?_map, hj]
        rfl
      · rw [List.getElem?_set_ne (Ne.symm hi)]
    rw [e]
    exact h.inc
abbrev chEnv (many : Int) (R : D) (ts : Trm) (b : Int) (x5 x6 x7 x8 x9 : Option D) : VS.Env := [some .st, some (.int many), some R, some (.lst (ts.map dPair)), some (.int b), x5, x6, x7, x8, x9]
def chC0 : MT := testM (binM gNe (varM 3) (lstM nilA))
def chPick : MS := asgS 4 (cbM gMax (consA (cM (.int 0)) (consA (binM gSub (varM 4) (callS G__law_pick (consA (varM 0) (consA (lstM (consA (varM 8) (consA (binM gSub (varM 8) (cM (.int 1))) (consA (varM 8) nilA)))) nilA)))) nilA)))
def chUp : ME := tupM (consA (binM gAdd (binM gAdd (binM gIxA (binM gIxA (varM 3) (varM 7)) (cM (.int 0))) (cM (.int 1))) (callS G__law_draw (consA (varM 0) (consA (cM (.int 2)) nilA)))) (consA (binM gIxA (binM gIxA (varM 3) (varM 7)) (cM (.int 1))) nilA))
def chDn : ME := tupM (consA (binM gSub (binM gIxA (binM gIxA (varM 3) (varM 7)) (cM (.int 0))) (cM (.int 1))) (consA (binM gIxA (binM gIxA (varM 3) (varM 7)) (cM (.int 1))) nilA))
def chLow : MS := asgS 4 (cbM gMax (consA (cM (.int 0)) (consA (binM gSub (varM 4) (callS G__law_draw (consA (varM 0) (consA (cM (.int 2)) nilA)))) nilA)))
def chElse : MS := asgS 4 (cbM gMax (consA (cM (.int 0)) (consA (binM gAdd (binM gSub (varM 4) (cM (.int 1))) (callS G__law_draw (consA (varM 0) (consA (cM (.int 2)) nilA)))) nilA)))
def chGt : MT := testM (binM gGt (binM gIxA (binM gIxA (varM 3) (varM 7)) (cM (.int 0))) (cM (.int 1)))
def chSpot : ME := ifM chC0 (callS G__law_draw (consA (varM 0) (consA (cbM gLenA (consA (varM 3) nilA)) nilA))) (cM (.int 0))
def chB : MS := seqS (parS 6 7 (consA (callS G__law_draw (consA (varM 0) (consA (cM (.int 5)) nilA))) (consA chSpot nilA))) (ifS (andT chC0 (testM (binM gEq (varM 6) (cM (.int 0))))) (seqS (popM 3 (varM 7) (nxUnp [8, 9])) chPick) (ifS (andT chC0 (testM (binM gLt (varM 6) (cM (.int 3))))) (setA 3 (varM 7) chUp) (ifS (andT chC0 (andT (testM (binM gEq (varM 6) (cM (.int 3)))) chGt)) (seqS (setA 3 (varM 7) chDn) chLow) chElse)))
section
variable {many b way spot : Int} {R : D} {ts : Trm} {x5 x6 x7 x8 x9 : Option D} {S : DS} {k : Nat}
theorem max0 (x : Int) : gMax [.int 0, .int x] = some (.int (if x > 0 then x else 0)) := rfl
theorem max0_nn (x : Int) : 0 ≤ (if x > 0 then x else (0 : Int)) := by split <;> omega
theorem chC0_eq : chC0 (chEnv many R ts b x5 x6 x7 x8 x9) S = .ok (!ts.isEmpty, S) := by
  simp only [chC0, testM, binM, bindM, varM, chEnv, List.getElem?_cons_succ, List.getElem?_cons_zero, lstM, nilA, List.length_nil, Nat.zero_le, if_true, ofO, prs_ne]
theorem chElse_ok (g : Good (k + 1) S) : ∃ b' S', chElse (chEnv many R ts b x5 x6 x7 x8 x9) S = .ok (.nx (chEnv many R ts b' x5 x6 x7 x8 x9), S') ∧ 0 ≤ b' ∧ Good k S' := by
  obtain ⟨r, S', e, r0, r1, g'⟩ := draw_ok (n := 2) (by omega) (by omega) g
  refine ⟨_, S', ?_, max0_nn (b - 1 + r), g'⟩
  simp only [chElse, asgS, cbM, consA, cM, bindM, binM, varM, chEnv, List.getElem?_cons_succ, List.getElem?_cons_zero, ofO, gII, callS, nilA, e, gAdd, max0, List.set_cons_succ, List.set_cons_zero]
theorem chLow_ok (g : Good (k + 1) S) : ∃ b' S', chLow (chEnv many R ts b x5 x6 x7 x8 x9) S = .ok (.nx (chEnv many R ts b' x5 x6 x7 x8 x9), S') ∧ 0 ≤ b' ∧ Good k S' := by
  obtain ⟨r, S', e, r0, r1, g'⟩ := draw_ok (n := 2) (by omega) (by omega) g
  refine ⟨_, S', ?_, max0_nn (b - r), g'⟩
  simp only [chLow, asgS, cbM, consA, cM, bindM, binM, varM, chEnv, List.getElem?_cons_succ, List.getElem?_cons_zero, ofO, gII, callS, nilA, e, max0, List.set_cons_succ, List.set_cons_zero]
theorem chPick_ok {w : Int} (g : Good (k + 1) S) : ∃ b' S', chPick (chEnv many R ts b x5 x6 x7 (some (.int w)) x9) S = .ok (.nx (chEnv many R ts b' x5 x6 x7 (some (.int w)) x9), S') ∧ 0 ≤ b' ∧ Good k S' := by
  obtain ⟨d, S', e, hd, g'⟩ := pick_ok (ds := [.int w, .int (w - 1), .int w]) (by simp) (by simp) g
  obtain ⟨x, rfl⟩ : ∃ x, d = .int x := by
    simp only [List.mem_cons, List.not_mem_nil, or_false] at hd
    rcases hd with rfl | rfl | rfl <;> exact ⟨_, rfl⟩
  refine ⟨_, S', ?_, max0_nn (b - x), g'⟩
  simp only [chPick, asgS, cbM, consA, cM, bindM, binM, varM, chEnv, List.getElem?_cons_succ, List.getElem?_cons_zero, ofO, gII, callS, nilA, lstM, List.length_cons, List.length_nil, Nat.reduceAdd, Nat.reduceLeDiff, if_true, e, max0, List.set_cons_succ, List.set_cons_zero]
theorem ix_pair {p : Int × Int} (h0 : 0 ≤ spot) (h1 : spot < ts.length) (hp : ts[spot.toNat]? = some p) : gIxA (.lst (ts.map dPair)) (.int spot) = some (dPair p) := by
  simp only [gIxA, atI, ixN, if_pos h0, List.length_map, if_pos h1, Option.bind_some, List.getElem?_map, hp, Option.map_some]
theorem ix0 (p : Int × Int) : gIxA (dPair p) (.int 0) = some (.int p.1) := rfl
theorem ix1 (p : Int × Int) : gIxA (dPair p) (.int 1) = some (.int p.2) := rfl
theorem chB_ok (hb : 0 ≤ b) (ht : OkT many ts) (hm2 : many ≤ 600) (g : Good (k + 3) S) :
    ∃ ts' b' x6' x7' x8' x9' S', chB (chEnv many R ts b x5 x6 x7 x8 x9) S = .ok (.nx (chEnv many R ts' b' x5 x6' x7' x8' x9'), S') ∧ OkT many ts' ∧ 0 ≤ b' ∧ Good k S' := by
  obtain ⟨way, S1, e1, w0, w1, g1⟩ := draw_ok (n := 5) (k := k + 2) (by omega) (by omega) (g.mono (by omega))
  have hlen := ht.len
  cases hts : ts with
  | nil =>
    have sp : chSpot (chEnv many R [] b x5 x6 x7 x8 x9) S1 = .ok (.int 0, S1) := by
      simp only [chSpot, ifM, chC0_eq, bindM, List.isEmpty_nil, Bool.not_true, Bool.false_eq_true, if_false, cM]
    obtain ⟨b', S2, e2, hb', g2⟩ := chElse_ok (many := many) (R := R) (ts := []) (b := b) (x5 := x5) (x6 := some (.int way)) (x7 := some (.int 0)) (x8 := x8) (x9 := x9) (k := k) (S := S1) (g1.mono (by omega))
    refine ⟨[], b', some (.int way), some (.int 0), x8, x9, S2, ?_, OkT.nil, hb', g2⟩
    have c0 := @chC0_eq many b R [] x5 (some (.int way)) (some (.int 0)) x8 x9 S1
    have hp : parS 6 7 (consA (callS G__law_draw (consA (varM 0) (consA (cM (.int 5)) nilA))) (consA chSpot nilA)) (chEnv many R [] b x5 x6 x7 x8 x9) S = .ok (.nx (chEnv many R [] b x5 (some (.int way)) (some (.int 0)) x8 x9), S1) := by
      have sp' := sp
      simp only [chEnv] at sp'
      simp only [parS, consA, callS, bindM, varM, chEnv, List.getElem?_cons_zero, cM, nilA, e1, sp', List.set_cons_succ, List.set_cons_zero]
    simp only [chB, seqS, hp, ifS, andT, c0, bindM, List.isEmpty_nil, Bool.not_true, Bool.false_eq_true, if_false, e2]
  | cons q qs =>
    have hpos : (0 : Int) < (ts.length : Int) := by rw [hts]; simp only [List.length_cons]; omega
    obtain ⟨spot, S2, e2, s0, s1, g2⟩ := draw_ok (n := (ts.length : Int)) (k := k + 1) hpos (by omega) (g1.mono (by omega))
    obtain ⟨p, hp⟩ : ∃ p, ts[spot.toNat]? = some p := ⟨_, List.getElem?_eq_getElem (by omega)⟩
    rw [← hts]
    have hne : (!ts.isEmpty) = true := by rw [hts]; rfl
    have hix := ix_pair s0 s1 hp
    have hw := ht.w p (List.mem_of_getElem? hp)
    have hpar : parS 6 7 (consA (callS G__law_draw (consA (varM 0) (consA (cM (.int 5)) nilA))) (consA chSpot nilA)) (chEnv many R ts b x5 x6 x7 x8 x9) S = .ok (.nx (chEnv many R ts b x5 (some (.int way)) (some (.int spot)) x8 x9), S2) := by
      have sp : chSpot (chEnv many R ts b x5 x6 x7 x8 x9) S1 = .ok (.int spot, S2) := by
        simp only [chSpot, ifM, chC0_eq, bindM, hne, if_true, callS, consA, varM, chEnv, List.getElem?_cons_succ, List.getElem?_cons_zero, cbM, nilA, ofO, gLenA, List.length_map, e2]
      simp only [chEnv] at sp
      simp only [parS, consA, callS, bindM, varM, chEnv, List.getElem?_cons_zero, cM, nilA, e1, sp, List.set_cons_succ, List.set_cons_zero]
    have c0 := @chC0_eq many b R ts x5 (some (.int way)) (some (.int spot)) x8 x9 S2
    have sq : seqIndex? spot (ts.map dPair).length = some spot.toNat := by
      unfold seqIndex?
      rw [List.length_map]
      simp only [if_neg (show ¬ spot < 0 by omega)]
      rw [if_pos (by simp; omega)]
    have hn : ixN (ts.map dPair).length spot = some spot.toNat := by
      rw [List.length_map]
      simp only [ixN, if_pos s0, if_pos s1]
    by_cases h0 : way = 0
    · subst h0
      obtain ⟨b', S3, e3, hb', g3⟩ := chPick_ok (many := many) (R := R) (ts := ts.eraseIdx spot.toNat) (b := b) (x5 := x5) (x6 := some (.int 0)) (x7 := some (.int spot)) (w := p.1) (x9 := some (.int p.2)) (k := k) (S := S2) g2
      refine ⟨ts.eraseIdx spot.toNat, b', some (.int 0), some (.int spot), some (.int p.1), some (.int p.2), S3, ?_, ht.erase spot.toNat, hb', g3⟩
      have hpop : popM 3 (varM 7) (nxUnp [8, 9]) (chEnv many R ts b x5 (some (.int 0)) (some (.int spot)) x8 x9) S2 = .ok (.nx (chEnv many R (ts.eraseIdx spot.toNat) b x5 (some (.int 0)) (some (.int spot)) (some (.int p.1)) (some (.int p.2))), S2) := by
        have hp2 : (ts.map dPair)[spot.toNat]? = some (dPair p) := by rw [List.getElem?_map, hp]; rfl
        have he : (ts.map dPair).eraseIdx spot.toNat = (ts.eraseIdx spot.toNat).map dPair := erase_map dPair ts spot.toNat
        simp only [popM, chEnv, List.getElem?_cons_succ, List.getElem?_cons_zero, varM, bindM, if_pos (show -1000000 ≤ spot ∧ spot ≤ 1000000 by omega), sq, hp2, he, List.set_cons_succ, List.set_cons_zero, nxUnp, dPair, List.length_cons, List.length_nil, if_true, setAll]
      have cond : andT chC0 (testM (binM gEq (varM 6) (cM (.int 0)))) (chEnv many R ts b x5 (some (.int 0)) (some (.int spot)) x8 x9) S2 = .ok (true, S2) := by
        simp only [andT, c0, bindM, hne, if_true, testM, binM, varM, chEnv, List.getElem?_cons_succ, List.getElem?_cons_zero, cM, ofO, gEq_int, beq_self_eq_true]
      simp only [chB, seqS, hpar, ifS, cond, bindM, if_true, hpop, e3]
    · have hf0 : (way == 0) = false := by simpa using h0
      have cond0 : andT chC0 (testM (binM gEq (varM 6) (cM (.int 0)))) (chEnv many R ts b x5 (some (.int way)) (some (.int spot)) x8 x9) S2 = .ok (false, S2) := by
        simp only [andT, c0, bindM, hne, if_true, testM, binM, varM, chEnv, List.getElem?_cons_succ, List.getElem?_cons_zero, cM, ofO, gEq_int, hf0]
      by_cases h3 : way < 3
      · obtain ⟨r, S3, e3, r0, r1, g3⟩ := draw_ok (n := 2) (k := k) (by omega) (by omega) g2
        refine ⟨ts.set spot.toNat (p.1 + 1 + r, p.2), b, some (.int way), some (.int spot), x8, x9, S3, ?_, ht.put hp (by omega), hb, g3⟩
        have cond1 : andT chC0 (testM (binM gLt (varM 6) (cM (.int 3)))) (chEnv many R ts b x5 (some (.int way)) (some (.int spot)) x8 x9) S2 = .ok (true, S2) := by
          simp only [andT, c0, bindM, hne, if_true, testM, binM, varM, chEnv, List.getElem?_cons_succ, List.getElem?_cons_zero, cM, ofO, gII, h3, decide_true]
        have hup : chUp (chEnv many R ts b x5 (some (.int way)) (some (.int spot)) x8 x9) S2 = .ok (dPair (p.1 + 1 + r, p.2), S3) := by
          show chUp _ _ = .ok (.tup [.int (p.1 + 1 + r), .int p.2], S3)
          simp only [chUp, tupM, consA, binM, bindM, varM, chEnv, List.getElem?_cons_succ, List.getElem?_cons_zero, ofO, hix, cM, ix0, gAdd, callS, nilA, e3, ix1, List.length_cons, List.length_nil, Nat.reduceAdd, Nat.reduceLeDiff, if_true]
        have hset : (ts.map dPair).set spot.toNat (dPair (p.1 + 1 + r, p.2)) = (ts.set spot.toNat (p.1 + 1 + r, p.2)).map dPair := (List.map_set ..).symm
        simp only [chEnv] at hup
        simp only [chB, seqS, hpar, ifS, cond0, cond1, bindM, Bool.false_eq_true, if_false, if_true]
        simp only [setA, chEnv, hup, bindM, List.getElem?_cons_succ, List.getElem?_cons_zero, varM, hn, hset, List.set_cons_succ, List.set_cons_zero]
      · have cond1 : andT chC0 (testM (binM gLt (varM 6) (cM (.int 3)))) (chEnv many R ts b x5 (some (.int way)) (some (.int spot)) x8 x9) S2 = .ok (false, S2) := by
          simp only [andT, c0, bindM, hne, if_true, testM, binM, varM, chEnv, List.getElem?_cons_succ, List.getElem?_cons_zero, cM, ofO, gII, h3, decide_false]
        have gt : chGt (chEnv many R ts b x5 (some (.int way)) (some (.int spot)) x8 x9) S2 = .ok (decide (1 < p.1), S2) := by
          simp only [chGt, testM, binM, bindM, varM, chEnv, List.getElem?_cons_succ, List.getElem?_cons_zero, ofO, hix, cM, ix0, gII]
        by_cases h4 : way = 3 ∧ 1 < p.1
        · obtain ⟨rfl, hp1⟩ := h4
          have cond2 : andT chC0 (andT (testM (binM gEq (varM 6) (cM (.int 3)))) chGt) (chEnv many R ts b x5 (some (.int 3)) (some (.int spot)) x8 x9) S2 = .ok (true, S2) := by
            have t3 : testM (binM gEq (varM 6) (cM (.int 3))) (chEnv many R ts b x5 (some (.int 3)) (some (.int spot)) x8 x9) S2 = .ok (true, S2) := by
              simp only [testM, binM, bindM, varM, chEnv, List.getElem?_cons_succ, List.getElem?_cons_zero, cM, ofO, gEq_int, beq_self_eq_true]
            simp only [andT, c0, bindM, hne, if_true, t3, gt, hp1, decide_true]
          obtain ⟨b', S3, e3, hb', g3⟩ := chLow_ok (many := many) (R := R) (ts := ts.set spot.toNat (p.1 - 1, p.2)) (b := b) (x5 := x5) (x6 := some (.int 3)) (x7 := some (.int spot)) (x8 := x8) (x9 := x9) (k := k) (S := S2) g2
          refine ⟨ts.set spot.toNat (p.1 - 1, p.2), b', some (.int 3), some (.int spot), x8, x9, S3, ?_, ht.put hp (show 1 ≤ p.1 - 1 by omega), hb', g3⟩
          have hdn : chDn (chEnv many R ts b x5 (some (.int 3)) (some (.int spot)) x8 x9) S2 = .ok (dPair (p.1 - 1, p.2), S2) := by
            show chDn _ _ = .ok (.tup [.int (p.1 - 1), .int p.2], S2)
            simp only [chDn, tupM, consA, binM, bindM, varM, chEnv, List.getElem?_cons_succ, List.getElem?_cons_zero, ofO, hix, cM, ix0, gII, nilA, ix1, List.length_cons, List.length_nil, Nat.reduceAdd, Nat.reduceLeDiff, if_true]
          have hset : (ts.map dPair).set spot.toNat (dPair (p.1 - 1, p.2)) = (ts.set spot.toNat (p.1 - 1, p.2)).map dPair := (List.map_set ..).symm
          have hs : setA 3 (varM 7) chDn (chEnv many R ts b x5 (some (.int 3)) (some (.int spot)) x8 x9) S2 = .ok (.nx (chEnv many R (ts.set spot.toNat (p.1 - 1, p.2)) b x5 (some (.int 3)) (some (.int spot)) x8 x9), S2) := by
            simp only [chEnv] at hdn
            simp only [setA, chEnv, hdn, bindM, List.getElem?_cons_succ, List.getElem?_cons_zero, varM, hn, hset, List.set_cons_succ, List.set_cons_zero]
          simp only [chB, seqS, hpar, ifS, cond0, cond1, cond2, bindM, Bool.false_eq_true, if_false, if_true, hs, e3]
        · have cond2 : andT chC0 (andT (testM (binM gEq (varM 6) (cM (.int 3)))) chGt) (chEnv many R ts b x5 (some (.int way)) (some (.int spot)) x8 x9) S2 = .ok (false, S2) := by
            have t3 : testM (binM gEq (varM 6) (cM (.int 3))) (chEnv many R ts b x5 (some (.int way)) (some (.int spot)) x8 x9) S2 = .ok (way == 3, S2) := by
              simp only [testM, binM, bindM, varM, chEnv, List.getElem?_cons_succ, List.getElem?_cons_zero, cM, ofO, gEq_int]
            by_cases hw3 : way = 3
            · have : ¬ 1 < p.1 := fun z => h4 ⟨hw3, z⟩
              subst hw3
              simp only [andT, c0, bindM, hne, if_true, t3, gt, this, decide_false, beq_self_eq_true]
            · have hf : (way == 3) = false := by simpa using hw3
              simp only [andT, c0, bindM, hne, if_true, t3, hf, Bool.false_eq_true, if_false]
          obtain ⟨b', S3, e3, hb', g3⟩ := chElse_ok (many := many) (R := R) (ts := ts) (b := b) (x5 := x5) (x6 := some (.int way)) (x7 := some (.int spot)) (x8 := x8) (x9 := x9) (k := k) (S := S2) g2
          refine ⟨ts, b', some (.int way), some (.int spot), x8, x9, S3, ?_, ht, hb', g3⟩
          simp only [chB, seqS, hpar, ifS, cond0, cond1, cond2, bindM, Bool.false_eq_true, if_false, e3]
theorem changed_ok {r : Trm × Int} (hr : OkR many r) (hm2 : many ≤ 600) (g : Good (k + 10) S) : ∃ r' S', G__law_changed [.st, .int many, dRow r] S = .ok (dRow r', S') ∧ OkR many r' ∧ Good k S' := by
  obtain ⟨n, S1, e1, n0, n1, g1⟩ := draw_ok (n := 3) (k := k + 9) (by omega) (by omega) (g.mono (by omega))
  let I : Nat → VS.Env → DS → Prop := fun i env S => ∃ (ts : Trm) (b : Int) (x5 x6 x7 x8 x9 : Option D), env = chEnv many (dRow r) ts b x5 x6 x7 x8 x9 ∧ OkT many ts ∧ 0 ≤ b ∧ Good (k + 3 * (3 - i)) S
  have hlen : (intsD 0 (1 + n).toNat).length = (1 + n).toNat := by simp [intsD]
  obtain ⟨env', S', h1, ts, b, x5, x6, x7, x8, x9, rfl, t1, t2, t3⟩ := loop_inv (set := setN 5) (g := chB) I (intsD 0 (1 + n).toNat) 0 (chEnv many (dRow r) r.1 r.2 none none none none none) S1 ⟨r.1, r.2, _, _, _, _, _, rfl, hr.t, hr.b, g1.mono (by omega)⟩ (fun j d env S hj hI => by
    rw [Nat.zero_add] at hI ⊢
    have hlt : j < (1 + n).toNat := by have := (List.getElem?_eq_some_iff.mp hj).1; rwa [hlen] at this
    rw [intsD_at hlt] at hj
    cases hj
    obtain ⟨ts, b, x5, x6, x7, x8, x9, rfl, t1, t2, t3⟩ := hI
    obtain ⟨ts', b', x6', x7', x8', x9', S2, e2, u1, u2, u3⟩ := chB_ok (many := many) (R := dRow r) (x5 := some (.int (0 + (j : Int)))) (x6 := x6) (x7 := x7) (x8 := x8) (x9 := x9) (k := k + 3 * (3 - (j + 1))) t2 t1 hm2 (t3.mono (by omega))
    exact ⟨_, _, S2, rfl, e2, ts', b', _, x6', x7', x8', x9', rfl, u1, u2, u3⟩)
  refine ⟨(ts, b), S', ?_, ⟨t1, t2⟩, t3.mono (by omega)⟩
  have hG : G__law_changed [.st, .int many, dRow r] S = endS (seqS (parOS 3 4 (cbM gList (consA (binM gIxA (varM 2) (cM (.int 0))) nilA)) (binM gIxA (varM 2) (cM (.int 1)))) (seqS (forR (setN 5) (consA (binM gAdd (cM (.int 1)) (callS G__law_draw (consA (varM 0) (consA (cM (.int 3)) nilA)))) nilA) chB) (retS (tupM (consA (cbM gTuple (consA (varM 3) nilA)) (consA (varM 4) nilA))))) (startE 10 [.st, .int many, dRow r]) S) := rfl
  have s1 : startE 10 [.st, .int many, dRow r] = [some .st, some (.int many), some (dRow r), none, none, none, none, none, none, none] := rfl
  have i0 : gIxA (dRow r) (.int 0) = some (.tup (r.1.map dPair)) := rfl
  have i1 : gIxA (dRow r) (.int 1) = some (.int r.2) := rfl
  have hr : rangeOf [.int (1 + n)] = some (intsD 0 (1 + n).toNat) := by
    simp only [rangeOf]
    rw [if_pos (by omega)]
  show G__law_changed _ _ = .ok (.tup [.tup (ts.map dPair), .int b], S')
  rw [hG]
  simp only [chEnv] at h1
  simp only [s1, seqS, parOS, cbM, consA, binM, bindM, varM, List.getElem?_cons_succ, List.getElem?_cons_zero, cM, ofO, i0, i1, nilA, gList, List.set_cons_succ, List.set_cons_zero, forR, callS, e1, gAdd, hr, h1, retS, tupM, gTuple, List.length_cons, List.length_nil, Nat.reduceAdd, Nat.reduceLeDiff, if_true, endS]
end
end My
namespace My
open PySem PySem.Spec L2 VS
theorem num_int (i : Int) : G_is_number [.int i] = .ok (.bl true) := rfl
theorem from_int (a b : Int) : G_is_number_from [.int a, .int b] = .ok (.bl (decide (a ≤ b))) := rfl
theorem btw_int (a b c : Int) : G_is_number_between [.int a, .int b, .int c] = .ok (.bl (decide (a ≤ b) && decide (b ≤ c))) := by
  by_cases h : a ≤ b
  · have : G_is_number_between [.int a, .int b, .int c] = endP (retS (andV (callP G_is_number [] (consA (varM 1) nilA)) (chM gLe gLe (varM 0) (varM 1) (varM 2))) (startE 3 [.int a, .int b, .int c]) S0) := rfl
    rw [this]
    have s1 : startE 3 [.int a, .int b, .int c] = [some (.int a), some (.int b), some (.int c)] := rfl
    simp only [s1, retS, andV, callP, consA, varM, nilA, bindM, List.getElem?_cons_succ, List.getElem?_cons_zero, List.append_nil, num_int, liftP, chM, gII, ofO, h, decide_true, Bool.true_and, endP]
  · have : G_is_number_between [.int a, .int b, .int c] = endP (retS (andV (callP G_is_number [] (consA (varM 1) nilA)) (chM gLe gLe (varM 0) (varM 1) (varM 2))) (startE 3 [.int a, .int b, .int c]) S0) := rfl
    rw [this]
    have s1 : startE 3 [.int a, .int b, .int c] = [some (.int a), some (.int b), some (.int c)] := rfl
    simp only [s1, retS, andV, callP, consA, varM, nilA, bindM, List.getElem?_cons_succ, List.getElem?_cons_zero, List.append_nil, num_int, liftP, chM, gII, ofO, h, decide_false, Bool.false_and, endP]
def litOk (many l : Int) : Bool := decide (-many ≤ l) && decide (l ≤ many) && !(l == 0)
theorem lit_int (many l : Int) : G_is_literal_of [.int many, .int l] = .ok (.bl (litOk many l)) := by
  have : G_is_literal_of [.int many, .int l] = endP (retS (andV (callP G_is_number_between [] (consA (unM gNeg (varM 0)) (consA (varM 1) (consA (varM 0) nilA)))) (binM gNe (varM 1) (cM (.int 0)))) (startE 2 [.int many, .int l]) S0) := rfl
  rw [this]
  have s1 : startE 2 [.int many, .int l] = [some (.int many), some (.int l)] := rfl
  unfold litOk
  cases h : decide (-many ≤ l) && decide (l ≤ many) with
  | true => simp only [s1, retS, andV, callP, consA, unM, varM, nilA, bindM, List.getElem?_cons_succ, List.getElem?_cons_zero, gNeg, ofO, List.append_nil, btw_int, h, liftP, binM, cM, gNe_int, endP, Bool.true_and]
  | false => simp only [s1, retS, andV, callP, consA, unM, varM, nilA, bindM, List.getElem?_cons_succ, List.getElem?_cons_zero, gNeg, ofO, List.append_nil, btw_int, h, liftP, endP, Bool.false_and]
def absI (l : Int) : Int := if l < 0 then -l else l
theorem absI_nat (l : Int) : absI l = l.natAbs := by unfold absI; split <;> omega
def pairOk (many size w l : Int) : Bool := decide (1 ≤ w) && litOk many l && !decide (absI l ≤ size)
def atC : MT := orT (notT (testM (callP G_is_number_from [] (consA (cM (.int 1)) (consA (varM 4) nilA))))) (orT (notT (testM (callP G_is_literal_of [] (consA (varM 0) (consA (varM 5) nilA))))) (testM (binM gLe (cbM gAbs (consA (varM 5) nilA)) (varM 2))))
def atB : MS := seqS (ifS (notT (testM (callP G_is_pair [] (consA (varM 3) nilA)))) (retS (cM (.bl false))) nextS) (seqS (unpS [4, 5] (varM 3)) (seqS (ifS atC (retS (cM (.bl false))) nextS) (asgS 2 (cbM gAbs (consA (varM 5) nilA)))))
theorem atC_eq {many size w l : Int} {T X3 : D} {S : DS} : atC [some (.int many), some T, some (.int size), some X3, some (.int w), some (.int l)] S = .ok (!pairOk many size w l, S) := by
  unfold pairOk
  cases h1 : decide (1 ≤ w) with
  | false => simp only [atC, orT, notT, testM, callP, consA, cM, varM, nilA, bindM, List.getElem?_cons_succ, List.getElem?_cons_zero, List.append_nil, from_int, h1, liftP, Bool.not_false, if_true, Bool.false_and]
  | true =>
    cases h2 : litOk many l with
    | false => simp only [atC, orT, notT, testM, callP, consA, cM, varM, nilA, bindM, List.getElem?_cons_succ, List.getElem?_cons_zero, List.append_nil, from_int, h1, liftP, Bool.not_true, Bool.false_eq_true, if_false, lit_int, h2, Bool.not_false, if_true, Bool.true_and, Bool.false_and]
    | true => simp only [atC, orT, notT, testM, callP, consA, cM, varM, nilA, bindM, List.getElem?_cons_succ, List.getElem?_cons_zero, List.append_nil, from_int, h1, liftP, Bool.not_true, Bool.false_eq_true, if_false, lit_int, h2, binM, cbM, gAbs, ofO, gII, Bool.true_and, Bool.not_not, absI] <;> rfl
theorem pair_is (p : Int × Int) : G_is_pair [dPair p] = .ok (.bl true) := rfl
theorem atB_eq {many size : Int} {T : D} {p : Int × Int} {x4 x5 : Option D} {S : DS} : atB [some (.int many), some T, some (.int size), some (dPair p), x4, x5] S = if pairOk many size p.1 p.2 = true then .ok (.nx [some (.int many), some T, some (.int (absI p.2)), some (dPair p), some (.int p.1), some (.int p.2)], S) else .ok (.rt (.bl false), S) := by
  have hu : unpS [4, 5] (varM 3) [some (.int many), some T, some (.int size), some (dPair p), x4, x5] S = .ok (.nx [some (.int many), some T, some (.int size), some (dPair p), some (.int p.1), some (.int p.2)], S) := rfl
  have ht : notT (testM (callP G_is_pair [] (consA (varM 3) nilA))) [some (.int many), some T, some (.int size), some (dPair p), x4, x5] S = .ok (false, S) := by
    simp only [notT, testM, callP, consA, varM, nilA, bindM, List.getElem?_cons_succ, List.getElem?_cons_zero, List.append_nil, pair_is, liftP, Bool.not_true]
  have hc := @atC_eq many size p.1 p.2 T (dPair p) S
  cases h : pairOk many size p.1 p.2 with
  | true =>
    rw [h] at hc
    rw [if_pos rfl]
    simp only [atB, seqS, ifS, ht, bindM, Bool.false_eq_true, if_false, nextS, hu, hc, Bool.not_true, asgS, cbM, consA, varM, nilA, List.getElem?_cons_succ, List.getElem?_cons_zero, gAbs, ofO, List.set_cons_succ, List.set_cons_zero, absI]
  | false =>
    rw [h] at hc
    rw [if_neg (by simp)]
    simp only [atB, seqS, ifS, ht, bindM, Bool.false_eq_true, if_false, nextS, hu, hc, Bool.not_false, if_true, retS, cM]
def okFrom (many : Int) : Int → Trm → Bool
  | _, [] => true
  | size, p :: r => pairOk many size p.1 p.2 && okFrom many (absI p.2) r
theorem at_loop {many : Int} {T : D} {S : DS} : ∀ (ts : Trm) (size : Int) (x3 x4 x5 : Option D), (okFrom many size ts = true → ∃ env, loopS (setN 3) atB (ts.map dPair) [some (.int many), some T, some (.int size), x3, x4, x5] S = .ok (.nx env, S)) ∧
    (okFrom many size ts = false → loopS (setN 3) atB (ts.map dPair) [some (.int many), some T, some (.int size), x3, x4, x5] S = .ok (.rt (.bl false), S))
  | [], size, x3, x4, x5 => ⟨fun _ => ⟨_, rfl⟩, fun h => (by cases h)⟩
  | p :: ts, size, x3, x4, x5 => by
    have hb := @atB_eq many size T p x4 x5 S
    obtain ⟨i1, i2⟩ := at_loop (many := many) (T := T) (S := S) ts (absI p.2) (some (dPair p)) (some (.int p.1)) (some (.int p.2))
    have hs : setN 3 [some (.int many), some T, some (.int size), x3, x4, x5] (dPair p) = some [some (.int many), some T, some (.int size), some (dPair p), x4, x5] := rfl
    cases h : pairOk many size p.1 p.2 with
    | true =>
      rw [h, if_pos rfl] at hb
      simp only [okFrom, h, Bool.true_and, List.map_cons, loopS, hs, hb]
      exact ⟨i1, i2⟩
    | false =>
      rw [h, if_neg (by simp)] at hb
      simp only [okFrom, h, Bool.false_and, List.map_cons, loopS, hs, hb]
      exact ⟨fun z => (by cases z), fun _ => trivial⟩
theorem terms_is (many : Int) (ts : Trm) : G_are_terms_of [.int many, .tup (ts.map dPair)] = .ok (.bl (okFrom many 0 ts)) := by
  have hG : G_are_terms_of [.int many, .tup (ts.map dPair)] = endP (seqS (ifS (notT (testM (unM (gIs .tuple) (varM 1)))) (retS (cM (.bl false))) nextS) (seqS (asgS 2 (cM (.int 0))) (seqS (forS (setN 3) (varM 1) atB) (retS (cM (.bl true))))) (startE 6 [.int many, .tup (ts.map dPair)]) S0) := rfl
  have s1 : startE 6 [.int many, .tup (ts.map dPair)] = [some (.int many), some (.tup (ts.map dPair)), none, none, none, none] := rfl
  obtain ⟨i1, i2⟩ := at_loop (many := many) (T := .tup (ts.map dPair)) (S := S0) ts 0 none none none
  rw [hG]
  cases h : okFrom many 0 ts with
  | true =>
    obtain ⟨env, e⟩ := i1 h
    simp only [s1, seqS, ifS, notT, testM, unM, varM, bindM, List.getElem?_cons_succ, List.getElem?_cons_zero, gIs, isKb, ofO, Bool.not_true, Bool.false_eq_true, if_false, nextS, asgS, cM, List.set_cons_succ, List.set_cons_zero, forS, e, retS, endP]
  | false =>
    have e := i2 h
    simp only [s1, seqS, ifS, notT, testM, unM, varM, bindM, List.getElem?_cons_succ, List.getElem?_cons_zero, gIs, isKb, ofO, Bool.not_true, Bool.false_eq_true, if_false, nextS, asgS, cM, List.set_cons_succ, List.set_cons_zero, forS, e, endP]
theorem row_is (many : Int) (ts : Trm) (b : D) (k : Bool) (hb : G_is_number_from [.int 0, b] = .ok (.bl k)) : G_is_row_of [.int many, .tup [.tup (ts.map dPair), b]] = .ok (.bl (okFrom many 0 ts && k)) := by
  have hG : G_is_row_of [.int many, .tup [.tup (ts.map dPair), b]] = endP (retS (andV (callP G_is_pair [] (consA (varM 1) nilA)) (andV (callP G_are_terms_of [] (consA (varM 0) (consA (binM gIxA (varM 1) (cM (.int 0))) nilA))) (callP G_is_number_from [] (consA (cM (.int 0)) (consA (binM gIxA (varM 1) (cM (.int 1))) nilA))))) (startE 2 [.int many, .tup [.tup (ts.map dPair), b]]) S0) := rfl
  have s1 : startE 2 [.int many, .tup [.tup (ts.map dPair), b]] = [some (.int many), some (.tup [.tup (ts.map dPair), b])] := rfl
  have hp : G_is_pair [.tup [.tup (ts.map dPair), b]] = .ok (.bl true) := rfl
  have i0 : gIxA (.tup [.tup (ts.map dPair), b]) (.int 0) = some (.tup (ts.map dPair)) := rfl
  have i1 : gIxA (.tup [.tup (ts.map dPair), b]) (.int 1) = some b := rfl
  rw [hG]
  cases h : okFrom many 0 ts with
  | true => simp only [s1, retS, andV, callP, consA, varM, nilA, bindM, List.getElem?_cons_succ, List.getElem?_cons_zero, List.append_nil, hp, liftP, binM, cM, ofO, i0, i1, terms_is, h, hb, Bool.true_and, endP]
  | false => simp only [s1, retS, andV, callP, consA, varM, nilA, bindM, List.getElem?_cons_succ, List.getElem?_cons_zero, List.append_nil, hp, liftP, binM, cM, ofO, i0, terms_is, h, Bool.false_and, endP]
theorem okT_from {many : Int} : ∀ (ts : Trm) (size : Nat), OkT many ts → (∀ p ∈ ts, size < p.2.natAbs) → okFrom many size ts = true
  | [], _, _, _ => rfl
  | p :: ts, size, h, hs => by
    have h1 := h.w p List.mem_cons_self
    have h2 := h.l p List.mem_cons_self
    have h3 := hs p List.mem_cons_self
    have hinc := h.inc
    rw [List.map_cons, List.pairwise_cons] at hinc
    have hr : OkT many ts := ⟨fun q hq => h.w q (List.mem_cons_of_mem _ hq), fun q hq => h.l q (List.mem_cons_of_mem _ hq), hinc.2⟩
    have ih := okT_from ts p.2.natAbs hr fun q hq => hinc.1 _ (List.mem_map.mpr ⟨q, hq, rfl⟩)
    have hp : pairOk many size p.1 p.2 = true := by
      unfold pairOk litOk
      rw [absI_nat]
      simp only [Bool.and_eq_true, decide_eq_true_eq, Bool.not_eq_true', beq_eq_false_iff_ne, decide_eq_false_iff_not]
      omega
    simp only [okFrom, hp, Bool.true_and, absI_nat]
    exact ih
theorem okR_is {many : Int} {r : Trm × Int} (h : OkR many r) : G_is_row_of [.int many, dRow r] = .ok (.bl true) := by
  have h1 := okT_from r.1 0 h.t fun p hp => by have := (h.t.l p hp).1; omega
  have := row_is many r.1 (.int r.2) true (by rw [from_int, decide_eq_true h.b])
  rw [show ((0 : Nat) : Int) = 0 from rfl] at h1
  rw [h1] at this
  exact this
end My
namespace My
open PySem PySem.Spec PyProof.Rows L2 VS
def g__law_bad_many : MS := (retS (callS G__law_pick (consA (varM 0) (consA (lstM (consA (cM (.int 0)) (consA (unM gNeg (cM (.int 1))) (consA (cM (.int 601)) (consA (binM gPow (cM (.int 10)) (cM (.int 9))) (consA (cM .non) (consA (cM (.bl true)) (consA (cM (.str "3")) (consA (tupM (consA (cM (.int 3)) nilA)) (consA (lstM (consA (cM (.int 2)) nilA)) (consA (cM (.dct [] [])) nilA))))))))))) nilA))))
def G__law_bad_many (ds : List D) (S : DS) : Res (D × DS) := endS (g__law_bad_many (startE 1 ds) S)
end My
namespace My
open PySem PySem.Spec PyProof.Rows L2 VS
def b__law_bad_row_1 : MS := (appS 2 (tupM (consA (tupM (consA (tupM (consA (cM (.int 1)) (consA (cM (.int 2)) nilA))) (consA (tupM (consA (cM (.int 1)) (consA (cM (.int 1)) nilA))) nilA))) (consA (cM (.int 1)) nilA))))
def g__law_bad_row : MS := (seqS (asgS 2 (lstM (consA (cM .non) (consA (cM (.int 5)) (consA (cM (.str "row")) (consA (tupM nilA) (consA (tupM (consA (tupM nilA) (consA (cM (.int 0)) (consA (cM (.int 0)) nilA)))) (consA (lstM (consA (tupM nilA) (consA (cM (.int 0)) nilA))) (consA (tupM (consA (lstM nilA) (consA (cM (.int 0)) nilA))) (consA (tupM (consA (tupM nilA) (consA (unM gNeg (cM (.int 1))) nilA))) (consA (tupM (consA (tupM nilA) (consA (cM (.bl true)) nilA))) (consA (tupM (consA (tupM nilA) (consA (cM .non) nilA))) (consA (tupM (consA (tupM (consA (tupM (consA (cM (.int 1)) (consA (cM (.int 1)) nilA))) nilA)) (consA (cM (.str "1")) nilA))) (consA (cM (.dct [] [])) nilA)))))))))))))) (seqS (asgS 2 (binM gCat (varM 2) (lstM (consA (tupM (consA (tupM (consA (tupM (consA (cM (.int 0)) (consA (cM (.int 1)) nilA))) nilA)) (consA (cM (.int 0)) nilA))) (consA (tupM (consA (tupM (consA (tupM (consA (unM gNeg (cM (.int 1))) (consA (cM (.int 1)) nilA))) nilA)) (consA (cM (.int 0)) nilA))) (consA (tupM (consA (tupM (consA (tupM (consA (cM (.bl true)) (consA (cM (.int 1)) nilA))) nilA)) (consA (cM (.int 1)) nilA))) (consA (tupM (consA (tupM (consA (tupM (consA (cM (.int 1)) (consA (cM (.int 0)) nilA))) nilA)) (consA (cM (.int 0)) nilA))) (consA (tupM (consA (tupM (consA (tupM (consA (cM (.int 1)) (consA (binM gAdd (varM 1) (cM (.int 1))) nilA))) nilA)) (consA (cM (.int 1)) nilA))) (consA (tupM (consA (tupM (consA (tupM (consA (cM (.int 1)) (consA (cM (.bl true)) nilA))) nilA)) (consA (cM (.int 1)) nilA))) nilA))))))))) (seqS (asgS 2 (binM gCat (varM 2) (lstM (consA (tupM (consA (tupM (consA (tupM (consA (cM (.int 1)) (consA (cM (.int 1)) nilA))) (consA (tupM (consA (cM (.int 1)) (consA (cM (.int 1)) nilA))) nilA))) (consA (cM (.int 1)) nilA))) (consA (tupM (consA (tupM (consA (tupM (consA (cM (.int 1)) (consA (cM (.int 1)) nilA))) (consA (tupM (consA (cM (.int 2)) (consA (unM gNeg (cM (.int 1))) nilA))) nilA))) (consA (cM (.int 1)) nilA))) (consA (tupM (consA (tupM (consA (tupM (consA (cM (.int 1)) (consA (cM (.int 1)) (consA (cM (.int 1)) nilA)))) nilA)) (consA (cM (.int 1)) nilA))) (consA (tupM (consA (lstM (consA (tupM (consA (cM (.int 1)) (consA (cM (.int 1)) nilA))) nilA)) (consA (cM (.int 1)) nilA))) (consA (tupM (consA (tupM (consA (lstM (consA (cM (.int 1)) (consA (cM (.int 1)) nilA))) nilA)) (consA (cM (.int 1)) nilA))) (consA (tupM (consA (tupM (consA (tupM (consA (cM (.int 1)) (consA (cM .non) nilA))) nilA)) (consA (cM (.int 0)) nilA))) nilA))))))))) (seqS (ifS (testM (binM gGt (varM 1) (cM (.int 1)))) b__law_bad_row_1 nextS) (retS (callS G__law_pick (consA (varM 0) (consA (varM 2) nilA))))))))
def G__law_bad_row (ds : List D) (S : DS) : Res (D × DS) := endS (g__law_bad_row (startE 3 ds) S)
end My
namespace My
open PySem PySem.Spec L2 VS
def bmE : ME := lstM (consA (cM (.int 0)) (consA (unM gNeg (cM (.int 1))) (consA (cM (.int 601)) (consA (binM gPow (cM (.int 10)) (cM (.int 9))) (consA (cM .non) (consA (cM (.bl true)) (consA (cM (.str "3")) (consA (tupM (consA (cM (.int 3)) nilA)) (consA (lstM (consA (cM (.int 2)) nilA)) (consA (cM (.dct [] [])) nilA))))))))))
def bmL : List D := [.int 0, .int (-1), .int 601, .int 1000000000, .non, .bl true, .str "3", .tup [.int 3], .lst [.int 2], .dct [] []]
theorem bmE_eq (env : VS.Env) (S : DS) : bmE env S = .ok (.lst bmL, S) := rfl
theorem badMany_ok {k : Nat} {S : DS} (g : Good (k + 1) S) : ∃ d S', G__law_bad_many [.st] S = .ok (d, S') ∧ G_is_number_between [.int 1, d, .int 600] = .ok (.bl false) ∧ Good k S' := by
  obtain ⟨d, S', e, hd, g'⟩ := pick_ok (ds := bmL) (k := k) (by decide) (by decide) g
  refine ⟨d, S', ?_, ?_, g'⟩
  · have hG : G__law_bad_many [.st] S = endS (retS (callS G__law_pick (consA (varM 0) (consA bmE nilA))) (startE 1 [.st]) S) := rfl
    have s1 : startE 1 [.st] = [some .st] := rfl
    rw [hG]
    simp only [s1, retS, callS, consA, varM, nilA, bindM, List.getElem?_cons_zero, bmE_eq, e, endS]
  · simp only [bmL, List.mem_cons, List.not_mem_nil, or_false] at hd
    rcases hd with rfl | rfl | rfl | rfl | rfl | rfl | rfl | rfl | rfl | rfl <;> rfl
def brL1 : List D := [.non, .int 5, .str "row", .tup [], .tup [.tup [], .int 0, .int 0], .lst [.tup [], .int 0], .tup [.lst [], .int 0], .tup [.tup [], .int (-1)], .tup [.tup [], .bl true], .tup [.tup [], .non], .tup [.tup [dPair (1, 1)], .str "1"], .dct [] []]
def brL2 (many : Int) : List D := [.tup [.tup [dPair (0, 1)], .int 0], .tup [.tup [dPair (-1, 1)], .int 0], .tup [.tup [.tup [.bl true, .int 1]], .int 1], .tup [.tup [dPair (1, 0)], .int 0], .tup [.tup [dPair (1, many + 1)], .int 1], .tup [.tup [.tup [.int 1, .bl true]], .int 1]]
def brL3 : List D := [.tup [.tup [dPair (1, 1), dPair (1, 1)], .int 1], .tup [.tup [dPair (1, 1), dPair (2, -1)], .int 1], .tup [.tup [.tup [.int 1, .int 1, .int 1]], .int 1], .tup [.lst [dPair (1, 1)], .int 1], .tup [.tup [.lst [.int 1, .int 1]], .int 1], .tup [.tup [.tup [.int 1, .non]], .int 0]]
def brX : D := .tup [.tup [dPair (1, 2), dPair (1, 1)], .int 1]
theorem br1 {many : Int} : ∀ d ∈ brL1, G_is_row_of [.int many, d] = .ok (.bl false) := fun d hd => by
  simp only [brL1, List.mem_cons, List.not_mem_nil, or_false] at hd
  rcases hd with rfl | rfl | rfl | rfl | rfl | rfl | rfl | rfl | rfl | rfl | rfl | rfl
  all_goals first | rfl | (have := row_is many [(1, 1)] (.str "1") false rfl; rw [Bool.and_false] at this; exact this)
theorem br2 {many : Int} (hm : 1 ≤ many) : ∀ d ∈ brL2 many, G_is_row_of [.int many, d] = .ok (.bl false) := fun d hd => by
  simp only [brL2, List.mem_cons, List.not_mem_nil, or_false] at hd
  rcases hd with rfl | rfl | rfl | rfl | rfl | rfl
  · exact row_is many [(0, 1)] (.int 0) true rfl
  · exact row_is many [(-1, 1)] (.int 0) true rfl
  · rfl
  · have := row_is many [(1, 0)] (.int 0) true rfl
    have e : okFrom many 0 [((1 : Int), (0 : Int))] = false := by simp [okFrom, pairOk, litOk]
    rw [e] at this
    exact this
  · have := row_is many [(1, many + 1)] (.int 1) true rfl
    have e : okFrom many 0 [((1 : Int), many + 1)] = false := by
      have h : decide (many + 1 ≤ many) = false := decide_eq_false (by omega)
      simp [okFrom, pairOk, litOk, h]
    rw [e] at this
    exact this
  · rfl
theorem br3 {many : Int} : ∀ d ∈ brL3, G_is_row_of [.int many, d] = .ok (.bl false) := fun d hd => by
  simp only [brL3, List.mem_cons, List.not_mem_nil, or_false] at hd
  rcases hd with rfl | rfl | rfl | rfl | rfl | rfl
  · have := row_is many [(1, 1), (1, 1)] (.int 1) true rfl
    have e : okFrom many 0 [((1 : Int), (1 : Int)), (1, 1)] = false := by simp [okFrom, pairOk]
    rw [e] at this
    exact this
  · have := row_is many [(1, 1), (2, -1)] (.int 1) true rfl
    have e : okFrom many 0 [((1 : Int), (1 : Int)), (2, -1)] = false := by
      have h : absI (-1) ≤ absI 1 := by decide
      simp [okFrom, pairOk, h]
    rw [e] at this
    exact this
  · rfl
  · rfl
  · rfl
  · rfl
theorem brx {many : Int} : G_is_row_of [.int many, brX] = .ok (.bl false) := by
  have := row_is many [(1, 2), (1, 1)] (.int 1) true rfl
  have e : okFrom many 0 [((1 : Int), (2 : Int)), (1, 1)] = false := by
    have h : absI 1 ≤ absI 2 := by decide
    simp [okFrom, pairOk, h]
  rw [e] at this
  exact this
end My
namespace My
open PySem PySem.Spec L2 VS
def brE1 : ME := (lstM (consA (cM .non) (consA (cM (.int 5)) (consA (cM (.str "row")) (consA (tupM nilA) (consA (tupM (consA (tupM nilA) (consA (cM (.int 0)) (consA (cM (.int 0)) nilA)))) (consA (lstM (consA (tupM nilA) (consA (cM (.int 0)) nilA))) (consA (tupM (consA (lstM nilA) (consA (cM (.int 0)) nilA))) (consA (tupM (consA (tupM nilA) (consA (unM gNeg (cM (.int 1))) nilA))) (consA (tupM (consA (tupM nilA) (consA (cM (.bl true)) nilA))) (consA (tupM (consA (tupM nilA) (consA (cM .non) nilA))) (consA (tupM (consA (tupM (consA (tupM (consA (cM (.int 1)) (consA (cM (.int 1)) nilA))) nilA)) (consA (cM (.str "1")) nilA))) (consA (cM (.dct [] [])) nilA)))))))))))))
def brE2 : ME := (lstM (consA (tupM (consA (tupM (consA (tupM (consA (cM (.int 0)) (consA (cM (.int 1)) nilA))) nilA)) (consA (cM (.int 0)) nilA))) (consA (tupM (consA (tupM (consA (tupM (consA (unM gNeg (cM (.int 1))) (consA (cM (.int 1)) nilA))) nilA)) (consA (cM (.int 0)) nilA))) (consA (tupM (consA (tupM (consA (tupM (consA (cM (.bl true)) (consA (cM (.int 1)) nilA))) nilA)) (consA (cM (.int 1)) nilA))) (consA (tupM (consA (tupM (consA (tupM (consA (cM (.int 1)) (consA (cM (.int 0)) nilA))) nilA)) (consA (cM (.int 0)) nilA))) (consA (tupM (consA (tupM (consA (tupM (consA (cM (.int 1)) (consA (binM gAdd (varM 1) (cM (.int 1))) nilA))) nilA)) (consA (cM (.int 1)) nilA))) (consA (tupM (consA (tupM (consA (tupM (consA (cM (.int 1)) (consA (cM (.bl true)) nilA))) nilA)) (consA (cM (.int 1)) nilA))) nilA)))))))
def brE3 : ME := (lstM (consA (tupM (consA (tupM (consA (tupM (consA (cM (.int 1)) (consA (cM (.int 1)) nilA))) (consA (tupM (consA (cM (.int 1)) (consA (cM (.int 1)) nilA))) nilA))) (consA (cM (.int 1)) nilA))) (consA (tupM (consA (tupM (consA (tupM (consA (cM (.int 1)) (consA (cM (.int 1)) nilA))) (consA (tupM (consA (cM (.int 2)) (consA (unM gNeg (cM (.int 1))) nilA))) nilA))) (consA (cM (.int 1)) nilA))) (consA (tupM (consA (tupM (consA (tupM (consA (cM (.int 1)) (consA (cM (.int 1)) (consA (cM (.int 1)) nilA)))) nilA)) (consA (cM (.int 1)) nilA))) (consA (tupM (consA (lstM (consA (tupM (consA (cM (.int 1)) (consA (cM (.int 1)) nilA))) nilA)) (consA (cM (.int 1)) nilA))) (consA (tupM (consA (tupM (consA (lstM (consA (cM (.int 1)) (consA (cM (.int 1)) nilA))) nilA)) (consA (cM (.int 1)) nilA))) (consA (tupM (consA (tupM (consA (tupM (consA (cM (.int 1)) (consA (cM .non) nilA))) nilA)) (consA (cM (.int 0)) nilA))) nilA)))))))
def brEX : ME := (tupM (consA (tupM (consA (tupM (consA (cM (.int 1)) (consA (cM (.int 2)) nilA))) (consA (tupM (consA (cM (.int 1)) (consA (cM (.int 1)) nilA))) nilA))) (consA (cM (.int 1)) nilA)))
theorem brE1_eq (env : VS.Env) (S : DS) : brE1 env S = .ok (.lst brL1, S) := rfl
theorem brE2_eq (many : Int) (x : Option D) (S : DS) : brE2 [some .st, some (.int many), x] S = .ok (.lst (brL2 many), S) := rfl
theorem brE3_eq (env : VS.Env) (S : DS) : brE3 env S = .ok (.lst brL3, S) := rfl
theorem brEX_eq (env : VS.Env) (S : DS) : brEX env S = .ok (brX, S) := rfl
theorem badRow_ok {many : Int} {k : Nat} {S : DS} (hm : 1 ≤ many) (g : Good (k + 1) S) : ∃ d S', G__law_bad_row [.st, .int many] S = .ok (d, S') ∧ G_is_row_of [.int many, d] = .ok (.bl false) ∧ Good k S' := by
  have hG : G__law_bad_row [.st, .int many] S = endS (seqS (asgS 2 brE1) (seqS (asgS 2 (binM gCat (varM 2) brE2)) (seqS (asgS 2 (binM gCat (varM 2) brE3)) (seqS (ifS (testM (binM gGt (varM 1) (cM (.int 1)))) (appS 2 brEX) nextS) (retS (callS G__law_pick (consA (varM 0) (consA (varM 2) nilA))))))) (startE 3 [.st, .int many]) S) := rfl
  have s1 : startE 3 [.st, .int many] = [some .st, some (.int many), none] := rfl
  have c1 : gCat (.lst brL1) (.lst (brL2 many)) = some (.lst (brL1 ++ brL2 many)) := rfl
  have c2 : gCat (.lst (brL1 ++ brL2 many)) (.lst brL3) = some (.lst (brL1 ++ brL2 many ++ brL3)) := rfl
  have all : ∀ d ∈ brL1 ++ brL2 many ++ brL3, G_is_row_of [.int many, d] = .ok (.bl false) := fun d hd => by
    rcases List.mem_append.mp hd with h | h
    · rcases List.mem_append.mp h with h | h
      · exact br1 d h
      · exact br2 hm d h
    · exact br3 d h
  have hl : (brL1 ++ brL2 many ++ brL3).length = 24 := rfl
  by_cases h1 : 1 < many
  · obtain ⟨d, S', e, hd, g'⟩ := pick_ok (ds := brL1 ++ brL2 many ++ brL3 ++ [brX]) (k := k) (by rw [List.length_append, hl]; decide) (by rw [List.length_append, hl]; decide) g
    refine ⟨d, S', ?_, ?_, g'⟩
    · rw [hG]
      simp only [s1, seqS, asgS, bindM, brE1_eq, List.set_cons_succ, List.set_cons_zero, binM, varM, List.getElem?_cons_succ, List.getElem?_cons_zero, brE2_eq, brE3_eq, ofO, c1, c2, ifS, testM, cM, gII, h1, decide_true, if_true, appS, brEX_eq, hl, retS, callS, consA, nilA, e, endS]
      first | done | (rw [if_pos (by decide)]; simp only [List.set_cons_succ, List.set_cons_zero, List.getElem?_cons_succ, List.getElem?_cons_zero, e])
    · rcases List.mem_append.mp hd with h | h
      · exact all d h
      · rw [List.mem_singleton.mp h]; exact brx
  · obtain ⟨d, S', e, hd, g'⟩ := pick_ok (ds := brL1 ++ brL2 many ++ brL3) (k := k) (by rw [hl]; decide) (by rw [hl]; decide) g
    refine ⟨d, S', ?_, all d hd, g'⟩
    rw [hG]
    simp only [s1, seqS, asgS, bindM, brE1_eq, List.set_cons_succ, List.set_cons_zero, binM, varM, List.getElem?_cons_succ, List.getElem?_cons_zero, brE2_eq, brE3_eq, ofO, c1, c2, ifS, testM, cM, gII, h1, decide_false, Bool.false_eq_true, if_false, nextS, retS, callS, consA, nilA, e, endS]
theorem many_good {many : Int} (h : 1 ≤ many) (h2 : many ≤ 600) : G_check_many [.int many, .int 600] = .ok .non := by
  have hG : G_check_many [.int many, .int 600] = endP (ifS (notT (testM (callP G_is_number_between [] (consA (cM (.int 1)) (consA (varM 0) (consA (varM 1) nilA)))))) (raiseS "BadMany") nextS (startE 2 [.int many, .int 600]) S0) := rfl
  have s1 : startE 2 [.int many, .int 600] = [some (.int many), some (.int 600)] := rfl
  rw [hG]
  simp only [s1, ifS, notT, testM, callP, consA, cM, varM, nilA, bindM, List.getElem?_cons_succ, List.getElem?_cons_zero, List.append_nil, btw_int, decide_eq_true h, decide_eq_true h2, Bool.and_self, liftP, Bool.not_true, Bool.false_eq_true, if_false, nextS, endP]
theorem many_bad {d : D} (h : G_is_number_between [.int 1, d, .int 600] = .ok (.bl false)) : G_check_many [d, .int 600] = .exc "BadMany" "" [] := by
  have hG : G_check_many [d, .int 600] = endP (ifS (notT (testM (callP G_is_number_between [] (consA (cM (.int 1)) (consA (varM 0) (consA (varM 1) nilA)))))) (raiseS "BadMany") nextS (startE 2 [d, .int 600]) S0) := rfl
  have s1 : startE 2 [d, .int 600] = [some d, some (.int 600)] := rfl
  rw [hG]
  simp only [s1, ifS, notT, testM, callP, consA, cM, varM, nilA, bindM, List.getElem?_cons_succ, List.getElem?_cons_zero, List.append_nil, h, liftP, Bool.not_false, if_true, raiseS, endP]
theorem row_check {m d : D} {k : Bool} (h : G_is_row_of [m, d] = .ok (.bl k)) : G_check_row [m, d] = if k = true then .ok .non else .exc "BadRow" "" [] := by
  have hG : G_check_row [m, d] = endP (ifS (notT (testM (callP G_is_row_of [] (consA (varM 0) (consA (varM 1) nilA))))) (raiseS "BadRow") nextS (startE 2 [m, d]) S0) := rfl
  have s1 : startE 2 [m, d] = [some m, some d] := rfl
  rw [hG]
  cases k with
  | true => simp only [s1, ifS, notT, testM, callP, consA, varM, nilA, bindM, List.getElem?_cons_succ, List.getElem?_cons_zero, List.append_nil, h, liftP, Bool.not_true, Bool.false_eq_true, if_false, nextS, endP, if_true]
  | false => simp only [s1, ifS, notT, testM, callP, consA, varM, nilA, bindM, List.getElem?_cons_succ, List.getElem?_cons_zero, List.append_nil, h, liftP, Bool.not_false, if_true, raiseS, endP, Bool.false_eq_true, if_false]
end My
namespace My
open PySem PySem.Spec L2 VS
def wt : Trm → Int → Int
  | [], _ => 0
  | p :: r, l => if p.2 = l then p.1 else wt r l
def miss (r q : Trm) : Int := (r.map fun p => if p.1 - wt q p.2 > 0 then p.1 - wt q p.2 else 0).sum
theorem covers_def (m o t : D) : G_covers [m, o, t] = endP (seqS (dropS (callP G_check_many [.int 600] (consA (varM 0) nilA))) (seqS (dropS (callP G_check_row [] (consA (varM 0) (consA (varM 1) nilA)))) (seqS (dropS (callP G_check_row [] (consA (varM 0) (consA (varM 2) nilA)))) (retS (callP G_is_covered [] (consA (varM 2) (consA (lstM (consA (varM 1) nilA)) nilA)))))) (startE 3 [m, o, t]) S0) := rfl
theorem cv_start (m o t : D) : startE 3 [m, o, t] = [some m, some o, some t] := rfl
theorem covers_bad1 {d x y : D} (h : G_is_number_between [.int 1, d, .int 600] = .ok (.bl false)) : G_covers [d, x, y] = .exc "BadMany" "" [] := by
  rw [covers_def, cv_start]
  simp only [seqS, dropS, callP, consA, varM, nilA, bindM, List.getElem?_cons_zero, List.cons_append, List.nil_append, many_bad h, liftP, endP]
section
variable {many : Int}
theorem covers_bad2 {x y : D} (hm : 1 ≤ many) (hm2 : many ≤ 600) (h : G_is_row_of [.int many, x] = .ok (.bl false)) : G_covers [.int many, x, y] = .exc "BadRow" "" [] := by
  rw [covers_def, cv_start]
  have e := row_check h
  rw [if_neg (by simp)] at e
  simp only [seqS, dropS, callP, consA, varM, nilA, bindM, List.getElem?_cons_zero, List.getElem?_cons_succ, List.cons_append, List.nil_append, many_good hm hm2, liftP, e, endP]
theorem covers_bad3 {x y : D} (hm : 1 ≤ many) (hm2 : many ≤ 600) (h1 : G_is_row_of [.int many, x] = .ok (.bl true)) (h : G_is_row_of [.int many, y] = .ok (.bl false)) : G_covers [.int many, x, y] = .exc "BadRow" "" [] := by
  rw [covers_def, cv_start]
  have e1 := row_check h1
  rw [if_pos rfl] at e1
  have e := row_check h
  rw [if_neg (by simp)] at e
  simp only [seqS, dropS, callP, consA, varM, nilA, bindM, List.getElem?_cons_zero, List.getElem?_cons_succ, List.cons_append, List.nil_append, many_good hm hm2, liftP, e1, e, endP]
def litK (ts : Trm) : List Key := ts.map fun p => Sum.inl p.2
theorem dlook_wt : ∀ (ts : Trm) (l : Int), (dlook (litK ts) (ts.map fun p => D.int p.1) (.inl l)).getD (.int 0) = .int (wt ts l)
  | [], l => rfl
  | p :: ts, l => by
    simp only [litK, List.map_cons, dlook, wt, Sum.inl.injEq]
    by_cases h : p.2 = l
    · rw [if_pos h, if_pos h]; rfl
    · rw [if_neg h, if_neg h]; exact dlook_wt ts l
theorem OkT.lits {ts : Trm} (h : OkT many ts) : (ts.map (·.2)).Nodup := by
  have := h.inc
  rw [List.pairwise_map] at this
  rw [List.nodup_iff_pairwise_ne, List.pairwise_map]
  exact this.imp fun {a b} h z => by rw [z] at h; exact Nat.lt_irrefl _ h
theorem compD_lits {env0 : VS.Env} {S : DS} (he : env0.length = 7) : ∀ (ts pre : Trm), ((pre ++ ts).map (·.2)).Nodup → compD (setT [3, 4]) (fun _ S => .ok (true, S)) (varM 4) (varM 3) env0 (ts.map dPair) (litK pre) (pre.map fun p => D.int p.1) S = .ok (.dct (litK (pre ++ ts)) ((pre ++ ts).map fun p => D.int p.1), S)
  | [], pre, _ => by rw [List.append_nil]; rfl
  | p :: ts, pre, h => by
    have hs : setT [3, 4] env0 (dPair p) = some ((env0.set 3 (some (.int p.1))).set 4 (some (.int p.2))) := rfl
    have h5 : varM 4 ((env0.set 3 (some (.int p.1))).set 4 (some (.int p.2))) S = .ok (.int p.2, S) := by
      simp only [varM]
      rw [List.getElem?_set_self (by rw [List.length_set, he]; decide)]
    have h4 : varM 3 ((env0.set 3 (some (.int p.1))).set 4 (some (.int p.2))) S = .ok (.int p.1, S) := by
      simp only [varM]
      rw [List.getElem?_set_ne (by decide), List.getElem?_set_self (by rw [he]; decide)]
    have hno : dhas (litK pre) (.inl p.2) = false := by
      unfold dhas litK
      rw [List.any_map, List.any_eq_false]
      intro q hq
      simp only [Function.comp, decide_eq_true_eq, Sum.inl.injEq]
      intro z
      rw [List.map_append, List.nodup_append] at h
      exact h.2.2 q.2 (List.mem_map.mpr ⟨q, hq, rfl⟩) p.2 (by simp) z
    have ih := compD_lits he ts (pre ++ [p]) (by rw [List.append_assoc]; exact h) (S := S)
    simp only [List.map_cons, compD, hs, noX, bindM, if_true, h5, h4, keyD, dputK, dputV, hno, Bool.false_eq_true, if_false]
    have e1 : litK pre ++ [Sum.inl p.2] = litK (pre ++ [p]) := by simp [litK]
    have e2 : (pre.map fun p => D.int p.1) ++ [D.int p.1] = (pre ++ [p]).map fun p => D.int p.1 := by simp
    rw [e1, e2, ih, List.append_assoc]
    rfl
theorem missing_ok (r q : Trm) : G_missing_in [.tup (r.map dPair), .dct (litK q) (q.map fun p => D.int p.1)] = .ok (.int (miss r q)) := by
  have hG : ∀ x y : D, G_missing_in [x, y] = endP (retS (cbM gSum (consA (lcM (setT [2, 3]) (varM 0) (fun _ S => .ok (true, S)) (cbM gMax (consA (cM (.int 0)) (consA (binM gSub (varM 2) (get2M (varM 1) (varM 3) (cM (.int 0)))) nilA))) [2, 3]) nilA)) [some x, some y, none, none] S0) := fun _ _ => rfl
  have cl := compM_eq (set := setT [2, 3]) (test := fun _ S => .ok (true, S)) (elt := cbM gMax (consA (cM (.int 0)) (consA (binM gSub (varM 2) (get2M (varM 1) (varM 3) (cM (.int 0)))) nilA))) (env0 := wipeE [some (.tup (r.map dPair)), some (.dct (litK q) (q.map fun p => D.int p.1)), none, none] [2, 3]) (S := S0)
    (fun _ => true) (fun d => match d with | .tup [.int w, .int l] => .int (if w - wt q l > 0 then w - wt q l else 0) | _ => .non) (r.map dPair) (fun d hd => by
      obtain ⟨p, _, rfl⟩ := List.mem_map.mp hd
      refine ⟨[some (.tup (r.map dPair)), some (.dct (litK q) (q.map fun p => D.int p.1)), some (.int p.1), some (.int p.2)], rfl, rfl, fun _ => ?_⟩
      have g2 : gGet2 (.dct (litK q) (q.map fun p => D.int p.1)) (.int p.2) (.int 0) = some (.int (wt q p.2)) := by
        simp only [gGet2, keyD, Option.map_some, dlook_wt]
      simp only [cbM, consA, cM, bindM, binM, varM, List.getElem?_cons_succ, List.getElem?_cons_zero, get2M, g2, ofO, gII, nilA, max0, dPair])
  have ft : (r.map dPair).filter (fun _ => true) = r.map dPair := List.filter_eq_self.mpr (by simp)
  rw [ft, List.map_map] at cl
  have em : (r.map ((fun d => match d with | .tup [.int w, .int l] => D.int (if w - wt q l > 0 then w - wt q l else 0) | _ => .non) ∘ dPair)) = (r.map fun p => if p.1 - wt q p.2 > 0 then p.1 - wt q p.2 else 0).map D.int := by
    rw [List.map_map]
    rfl
  rw [em] at cl
  have gs := gSum_ints (r.map fun p => if p.1 - wt q p.2 > 0 then p.1 - wt q p.2 else 0)
  rw [hG]
  simp only [retS, cbM, consA, lcM, varM, bindM, List.getElem?_cons_zero, cl, nilA, gs, ofO, endP, miss]
theorem miss_nonneg (r q : Trm) : 0 ≤ miss r q := by
  unfold miss
  induction r with
  | nil => simp
  | cons p r ih =>
    rw [List.map_cons, List.sum_cons]
    split <;> omega
theorem is_covered_ok {r q : Trm × Int} (hq : OkR many q) : G_is_covered [dRow q, .lst [dRow r]] = .ok (.bl (decide (q.2 ≤ r.2 - miss r.1 q.1))) := by
  have hG : ∀ x y : D, G_is_covered [x, y] = endP (seqS (asgS 2 (dcM (setT [3, 4]) (binM gIxA (varM 0) (cM (.int 0))) (fun _ S => .ok (true, S)) (varM 4) (varM 3) [3, 4])) (seqS (forS (setT [5, 6]) (varM 1) (ifS (andT (testM (binM gGe (varM 6) (binM gIxA (varM 0) (cM (.int 1))))) (testM (binM gGe (binM gSub (varM 6) (callP G_missing_in [] (consA (varM 5) (consA (varM 2) nilA)))) (binM gIxA (varM 0) (cM (.int 1)))))) (retS (cM (.bl true))) nextS)) (retS (cM (.bl false)))) [some x, some y, none, none, none, none, none] S0) := fun _ _ => rfl
  have q0 : gIxA (dRow q) (.int 0) = some (.tup (q.1.map dPair)) := rfl
  have q1 : gIxA (dRow q) (.int 1) = some (.int q.2) := rfl
  have cd := compD_lits (env0 := wipeE [some (dRow q), some (.lst [dRow r]), none, none, none, none, none] [3, 4]) (S := S0) rfl q.1 [] (by rw [List.nil_append]; exact hq.t.lits)
  simp only [List.nil_append] at cd
  have cd' : compD (setT [3, 4]) (fun _ S => .ok (true, S)) (varM 4) (varM 3) (wipeE [some (dRow q), some (.lst [dRow r]), none, none, none, none, none] [3, 4]) (q.1.map dPair) [] [] S0 = .ok (.dct (litK q.1) (q.1.map fun p => D.int p.1), S0) := cd
  have hs : setT [5, 6] [some (dRow q), some (.lst [dRow r]), some (.dct (litK q.1) (q.1.map fun p => D.int p.1)), none, none, none, none] (dRow r) = some [some (dRow q), some (.lst [dRow r]), some (.dct (litK q.1) (q.1.map fun p => D.int p.1)), none, none, some (.tup (r.1.map dPair)), some (.int r.2)] := rfl
  have mo := missing_ok r.1 q.1
  have mn := miss_nonneg r.1 q.1
  rw [hG]
  by_cases h1 : q.2 ≤ r.2
  · by_cases h2 : q.2 ≤ r.2 - miss r.1 q.1
    · simp only [seqS, asgS, dcM, binM, cM, varM, bindM, List.getElem?_cons_zero, List.getElem?_cons_succ, q0, q1, cd', List.set_cons_succ, List.set_cons_zero, ofO, forS, loopS, hs, ifS, andT, testM, gII, h1, decide_true, if_true, callP, consA, nilA, List.cons_append, List.nil_append, mo, liftP, h2, retS, endP]
    · simp only [seqS, asgS, dcM, binM, cM, varM, bindM, List.getElem?_cons_zero, List.getElem?_cons_succ, q0, q1, cd', List.set_cons_succ, List.set_cons_zero, ofO, forS, loopS, hs, ifS, andT, testM, gII, h1, decide_true, if_true, callP, consA, nilA, List.cons_append, List.nil_append, mo, liftP, h2, decide_false, Bool.false_eq_true, if_false, nextS, retS, endP]
  · have h2 : ¬ q.2 ≤ r.2 - miss r.1 q.1 := by omega
    simp only [seqS, asgS, dcM, binM, cM, varM, bindM, List.getElem?_cons_zero, List.getElem?_cons_succ, q0, q1, cd', List.set_cons_succ, List.set_cons_zero, ofO, forS, loopS, hs, ifS, andT, testM, gII, h1, h2, decide_false, Bool.false_eq_true, if_false, nextS, retS, endP]
theorem covers_ok {r q : Trm × Int} (hm : 1 ≤ many) (hm2 : many ≤ 600) (hr : OkR many r) (hq : OkR many q) : G_covers [.int many, dRow r, dRow q] = .ok (.bl (decide (q.2 ≤ r.2 - miss r.1 q.1))) := by
  rw [covers_def, cv_start]
  have e1 := row_check (okR_is hr)
  have e2 := row_check (okR_is hq)
  rw [if_pos rfl] at e1 e2
  have ic := is_covered_ok (r := r) hq
  simp only [seqS, dropS, callP, consA, varM, nilA, bindM, List.getElem?_cons_zero, List.getElem?_cons_succ, List.cons_append, List.nil_append, many_good hm hm2, liftP, e1, e2, retS, lstM, List.length_cons, List.length_nil, Nat.reduceAdd, Nat.reduceLeDiff, if_true, ic, endP]
end
end My
namespace My
open PySem PySem.Spec L2 VS
def wv (f : List Int) (l : Int) : Int := if 0 < l then f.getD (l - 1).toNat 0 else 1 - f.getD (0 - l - 1).toNat 0
def cm (ts : Trm) (f : List Int) : Int := ((ts.filter fun p => wv f p.2 == 1).map (·.1)).sum
def FlOk (n : Nat) (f : List Int) : Prop := f.length = n ∧ ∀ x ∈ f, x = 0 ∨ x = 1
def sumL : Nat → (Int → Int) → Int
  | 0, _ => 0
  | n + 1, F => sumL n F + F ((n : Int) + 1) + F (-((n : Int) + 1))
abbrev InL (n : Nat) (l : Int) : Prop := 1 ≤ l.natAbs ∧ l.natAbs ≤ n
theorem sumL_le {F G : Int → Int} : ∀ n : Nat, (∀ l, InL n l → F l ≤ G l) → sumL n F ≤ sumL n G
  | 0, _ => Int.le_refl _
  | n + 1, h => by
    have h1 := sumL_le n fun l hl => h l ⟨hl.1, by have := hl.2; omega⟩
    have h2 := h ((n : Int) + 1) ⟨by omega, by omega⟩
    have h3 := h (-((n : Int) + 1)) ⟨by omega, by omega⟩
    simp only [sumL]
    omega
theorem sumL_congr {F G : Int → Int} (n : Nat) (h : ∀ l, InL n l → F l = G l) : sumL n F = sumL n G :=
  Int.le_antisymm (sumL_le n fun l hl => Int.le_of_eq (h l hl)) (sumL_le n fun l hl => Int.le_of_eq (h l hl).symm)
theorem sumL_add {F G : Int → Int} : ∀ n : Nat, sumL n (fun l => F l + G l) = sumL n F + sumL n G
  | 0 => rfl
  | n + 1 => by
    have := sumL_add (F := F) (G := G) n
    simp only [sumL]
    omega
theorem sumL_upd {F G : Int → Int} {l : Int} : ∀ n : Nat, InL n l → (∀ m, m ≠ l → G m = F m) → sumL n G = sumL n F + (G l - F l)
  | 0, h, _ => by have := h.1; have := h.2; omega
  | n + 1, h, hg => by
    simp only [sumL]
    by_cases e : l.natAbs = n + 1
    · have hs : sumL n G = sumL n F := sumL_congr n fun m hm => hg m fun z => by subst z; have := hm.2; omega
      rcases Int.natAbs_eq l with q | q
      · have e1 : l = (n : Int) + 1 := by omega
        have := hg (-((n : Int) + 1)) (by omega)
        rw [hs, this, e1]
        omega
      · have e1 : l = -((n : Int) + 1) := by omega
        have := hg ((n : Int) + 1) (by omega)
        rw [hs, this, e1]
        omega
    · have ih := sumL_upd (F := F) (G := G) n ⟨h.1, by have := h.2; omega⟩ hg
      have h1 := hg ((n : Int) + 1) (by omega)
      have h2 := hg (-((n : Int) + 1)) (by omega)
      rw [ih, h1, h2]
      omega
theorem wt_none : ∀ {ts : Trm} {l : Int}, l ∉ ts.map (·.2) → wt ts l = 0
  | [], _, _ => rfl
  | p :: ts, l, h => by
    simp only [List.map_cons, List.mem_cons, not_or] at h
    simp only [wt, if_neg (Ne.symm h.1)]
    exact wt_none h.2
theorem wt_nn : ∀ {ts : Trm} (l : Int), (∀ p ∈ ts, 1 ≤ p.1) → 0 ≤ wt ts l
  | [], _, _ => Int.le_refl _
  | p :: ts, l, h => by
    simp only [wt]
    split
    · have := h p List.mem_cons_self; omega
    · exact wt_nn l fun q hq => h q (List.mem_cons_of_mem _ hq)
theorem wt_side : ∀ {ts : Trm} {l : Int}, (ts.map fun p => p.2.natAbs).Pairwise (· < ·) → l ≠ 0 → wt ts l = 0 ∨ wt ts (-l) = 0
  | [], _, _, _ => .inl rfl
  | p :: ts, l, h, hl => by
    rw [List.map_cons, List.pairwise_cons] at h
    have no : ∀ m : Int, m.natAbs = p.2.natAbs → wt ts m = 0 := fun m hm => wt_none fun z => by
      obtain ⟨q, hq, e⟩ := List.mem_map.mp z
      have := h.1 q.2.natAbs (List.mem_map.mpr ⟨q, hq, rfl⟩)
      rw [e] at this
      omega
    by_cases h1 : p.2 = l
    · right
      have h2 : p.2 ≠ -l := by omega
      simp only [wt, if_neg h2]
      exact no _ (by omega)
    · by_cases h2 : p.2 = -l
      · left
        simp only [wt, if_neg h1]
        exact no _ (by omega)
      · simp only [wt, if_neg h1, if_neg h2]
        exact wt_side h.2 hl
theorem sumL_zero : ∀ n : Nat, sumL n (fun _ => 0) = 0
  | 0 => rfl
  | n + 1 => by simp only [sumL, sumL_zero n]; rfl
theorem sum_terms (h : Int → Int → Int) (h0 : ∀ l, h l 0 = 0) {n : Nat} : ∀ ts : Trm, (ts.map (·.2)).Nodup → (∀ p ∈ ts, InL n p.2) → (ts.map fun p => h p.2 p.1).sum = sumL n fun l => h l (wt ts l)
  | [], _, _ => by
    have z : (fun l => h l (wt [] l)) = fun _ => 0 := funext fun l => h0 l
    rw [z, sumL_zero]
    rfl
  | p :: ts, hn, hl => by
    rw [List.map_cons, List.nodup_cons] at hn
    have ih := sum_terms h h0 (n := n) ts hn.2 fun q hq => hl q (List.mem_cons_of_mem _ hq)
    have up := sumL_upd (F := fun l => h l (wt ts l)) (G := fun l => h l (wt (p :: ts) l)) (l := p.2) n (hl p List.mem_cons_self) fun m hm => by
      simp only [wt, if_neg (Ne.symm hm)]
    rw [List.map_cons, List.sum_cons, ih, up]
    have e : wt ts p.2 = 0 := wt_none hn.1
    simp only [wt, if_pos, e, h0]
    omega
theorem cm_sum (ts : Trm) (f : List Int) : cm ts f = (ts.map fun p => if wv f p.2 = 1 then p.1 else 0).sum := by
  unfold cm
  induction ts with
  | nil => rfl
  | cons p ts ih =>
    by_cases h : wv f p.2 = 1
    · have hb : (wv f p.2 == 1) = true := by simpa using h
      rw [List.filter_cons_of_pos (by simpa using h), List.map_cons, List.sum_cons, ih, List.map_cons, List.sum_cons, if_pos h]
    · rw [List.filter_cons_of_neg (by simpa using h), ih, List.map_cons, List.sum_cons, if_neg h]
      omega
section
variable {many : Int} {r q : Trm}
theorem OkT.inL (h : OkT many r) : ∀ p ∈ r, InL many.toNat p.2 := fun p hp => by
  have := h.l p hp
  exact ⟨this.1, by omega⟩
theorem cm_L (h : OkT many r) (f : List Int) : cm r f = sumL many.toNat fun l => if wv f l = 1 then wt r l else 0 := by
  rw [cm_sum]
  exact sum_terms (fun l w => if wv f l = 1 then w else 0) (fun l => by simp) r h.lits h.inL
theorem miss_L (h : OkT many r) (hq : OkT many q) : miss r q = sumL many.toNat fun l => if wt r l - wt q l > 0 then wt r l - wt q l else 0 := by
  unfold miss
  exact sum_terms (fun l w => if w - wt q l > 0 then w - wt q l else 0) (fun l => by have := wt_nn l hq.w; show (if 0 - wt q l > 0 then 0 - wt q l else 0) = 0; rw [if_neg (by omega)]) r h.lits h.inL
theorem fact_ge (h : OkT many r) (hq : OkT many q) (f : List Int) : cm r f ≤ cm q f + miss r q := by
  rw [cm_L h, cm_L hq, miss_L h hq, ← sumL_add]
  refine sumL_le _ fun l _ => ?_
  have := wt_nn l hq.w
  split <;> split <;> omega
theorem fact_eq (h : OkT many r) (hq : OkT many q) : ∃ f, FlOk many.toNat f ∧ cm r f = cm q f + miss r q := by
  let C : Int → Bool := fun v => decide (wt q v ≤ wt r v ∧ wt r (-v) ≤ wt q (-v))
  let f : List Int := (List.range many.toNat).map fun (i : Nat) => if C ((i : Int) + 1) = true then 1 else 0
  refine ⟨f, ⟨by simp [f], fun x hx => ?_⟩, ?_⟩
  · obtain ⟨i, _, rfl⟩ := List.mem_map.mp hx
    split
    · exact .inr rfl
    · exact .inl rfl
  · rw [cm_L h, cm_L hq, miss_L h hq, ← sumL_add]
    refine sumL_congr _ fun l hl => ?_
    have get : ∀ v : Int, 1 ≤ v → v ≤ many.toNat → f.getD (v - 1).toNat 0 = if C v = true then 1 else 0 := fun v v1 v2 => by
      have hlt : (v - 1).toNat < many.toNat := by omega
      have e : ((v - 1).toNat : Int) + 1 = v := by omega
      simp only [f, List.getD_eq_getElem?_getD, List.getElem?_map, List.getElem?_range hlt, Option.map_some, Option.getD_some, e]
    have s1 := wt_side (l := l) h.inc (by have := hl.1; omega)
    have s2 := wt_side (l := l) hq.inc (by have := hl.1; omega)
    have n1 := wt_nn l h.w
    have n2 := wt_nn l hq.w
    have n3 := wt_nn (-l) h.w
    have n4 := wt_nn (-l) hq.w
    by_cases hp : 0 < l
    · have e : wv f l = if C l = true then 1 else 0 := by
        unfold wv
        rw [if_pos hp]
        exact get l (by omega) (by have := hl.2; omega)
      by_cases hc : C l = true
      · have := of_decide_eq_true hc
        have e1 : wv f l = 1 := by rw [e, if_pos hc]
        rw [if_pos e1, if_pos e1]
        split <;> omega
      · have := of_decide_eq_false (by simpa using hc : C l = false)
        have e1 : ¬ wv f l = 1 := by rw [e, if_neg hc]; decide
        rw [if_neg e1, if_neg e1]
        split <;> omega
    · have e : wv f l = 1 - if C (-l) = true then 1 else 0 := by
        unfold wv
        rw [if_neg hp]
        have e0 : 0 - l - 1 = -l - 1 := by omega
        rw [e0, get (-l) (by have := hl.1; omega) (by have := hl.2; omega)]
      by_cases hc : C (-l) = true
      · have := of_decide_eq_true hc
        rw [Int.neg_neg] at this
        have e1 : ¬ wv f l = 1 := by rw [e, if_pos hc]; decide
        rw [if_neg e1, if_neg e1]
        split <;> omega
      · have := of_decide_eq_false (by simpa using hc : C (-l) = false)
        rw [Int.neg_neg] at this
        have e1 : wv f l = 1 := by rw [e, if_neg hc]; decide
        rw [if_pos e1, if_pos e1]
        split <;> omega
theorem fact {b c : Int} (h : OkT many r) (hq : OkT many q) : (∀ f, FlOk many.toNat f → ¬ (cm q f - c < cm r f - b)) ↔ c ≤ b - miss r q := by
  constructor
  · intro k
    obtain ⟨f, f1, f2⟩ := fact_eq h hq
    have := k f f1
    omega
  · intro k f _
    have := fact_ge h hq f
    omega
end
end My
namespace My
open PySem PySem.Spec L2 VS
abbrev Asc := List (Int × Int)
def kyA (m : Asc) : List Key := m.map fun p => Sum.inl p.1
def vlA (m : Asc) : List D := m.map fun p => D.int p.2
def dAsc (m : Asc) : D := .dct (kyA m) (vlA m)
def look : Asc → Int → Int
  | [], _ => 0
  | p :: m, v => if p.1 = v then p.2 else look m v
def hasA (m : Asc) (v : Int) : Bool := m.any fun p => decide (p.1 = v)
def putA (m : Asc) (v c : Int) : Asc := if hasA m v = true then m.map (fun p => if p.1 = v then (p.1, c) else p) else m ++ [(v, c)]
theorem dlook_asc : ∀ (m : Asc) (v : Int), (dlook (kyA m) (vlA m) (.inl v)).getD (.int 0) = .int (look m v)
  | [], _ => rfl
  | p :: m, v => by
    simp only [kyA, vlA, List.map_cons, dlook, look, Sum.inl.injEq]
    by_cases h : p.1 = v
    · simp only [if_pos h, Option.getD_some]
    · simp only [if_neg h]; exact dlook_asc m v
theorem dlook_has : ∀ (m : Asc) (v : Int), hasA m v = true → dlook (kyA m) (vlA m) (.inl v) = some (.int (look m v))
  | [], _, h => by simp [hasA] at h
  | p :: m, v, h => by
    simp only [kyA, vlA, List.map_cons, dlook, look, Sum.inl.injEq]
    by_cases e : p.1 = v
    · simp only [if_pos e]
    · simp only [if_neg e]
      refine dlook_has m v ?_
      simpa [hasA, e] using h
theorem dhas_asc (m : Asc) (v : Int) : dhas (kyA m) (.inl v) = hasA m v := by
  simp [dhas, kyA, hasA, List.any_map, Function.comp_def]
theorem dputK_asc (m : Asc) (v c : Int) : dputK (kyA m) (.inl v) = kyA (putA m v c) := by
  unfold dputK putA
  rw [dhas_asc]
  cases hasA m v with
  | true =>
    simp only [if_true, kyA, List.map_map]
    apply List.map_congr_left
    intro p _
    simp only [Function.comp]
    split <;> rfl
  | false => simp [kyA]
theorem drepl_asc : ∀ (m : Asc) (v c : Int), drepl (kyA m) (vlA m) (.inl v) (.int c) = vlA (m.map fun p => if p.1 = v then (p.1, c) else p)
  | [], _, _ => rfl
  | p :: m, v, c => by
    have ih := drepl_asc m v c
    simp only [kyA, vlA, List.map_cons, drepl, Sum.inl.injEq] at ih ⊢
    rw [ih]
    by_cases e : p.1 = v <;> simp [e]
theorem dputV_asc (m : Asc) (v c : Int) : dputV (kyA m) (vlA m) (.inl v) (.int c) = vlA (putA m v c) := by
  unfold dputV putA
  rw [dhas_asc]
  cases hasA m v with
  | true => simp only [if_true]; exact drepl_asc m v c
  | false => simp [vlA]
theorem putA_keys (m : Asc) (v c : Int) : (putA m v c).map (·.1) = if hasA m v = true then m.map (·.1) else m.map (·.1) ++ [v] := by
  unfold putA
  cases hasA m v with
  | true =>
    simp only [if_true, List.map_map]
    apply List.map_congr_left
    intro p _
    simp only [Function.comp]
    split <;> rfl
  | false => simp
theorem hasA_mem {m : Asc} {v : Int} : hasA m v = true ↔ v ∈ m.map (·.1) := by
  simp [hasA]
theorem putA_len (m : Asc) (v c : Int) : (putA m v c).length ≤ m.length + 1 := by
  unfold putA; split <;> simp
theorem putA_nodup {m : Asc} {v c : Int} (h : (m.map (·.1)).Nodup) : ((putA m v c).map (·.1)).Nodup := by
  rw [putA_keys]
  cases e : hasA m v with
  | true => simpa using h
  | false =>
    simp only [Bool.false_eq_true, if_false]
    refine List.nodup_append.mpr ⟨h, by simp, fun a ha b hb hab => ?_⟩
    simp at hb
    subst hb hab
    rw [hasA_mem.mpr ha] at e
    cases e
theorem putA_mem {m : Asc} {v c x : Int} : x ∈ (putA m v c).map (·.1) ↔ x ∈ m.map (·.1) ∨ x = v := by
  rw [putA_keys]
  cases e : hasA m v with
  | true =>
    have := hasA_mem.mp e
    simp only [if_true]
    exact ⟨.inl, fun h => h.elim id fun z => z ▸ this⟩
  | false => simp
theorem look_not {m : Asc} {v : Int} (h : v ∉ m.map (·.1)) : look m v = 0 := by
  induction m with
  | nil => rfl
  | cons p m ih =>
    simp only [List.map_cons, List.mem_cons, not_or] at h
    simp only [look, if_neg (Ne.symm h.1), ih h.2]
def sumA (m : Asc) (f : List Int) : Int := (m.map fun p => p.2 * wv f p.1).sum
theorem sumA_repl {f : List Int} {v c : Int} : ∀ {m : Asc}, (m.map (·.1)).Nodup → v ∈ m.map (·.1) → sumA (m.map fun p => if p.1 = v then (p.1, c) else p) f = sumA m f + (c - look m v) * wv f v
  | [], _, h => by simp at h
  | p :: m, hn, h => by
    simp only [List.map_cons, List.nodup_cons] at hn
    by_cases e : p.1 = v
    · have hm : m.map (fun p => if p.1 = v then (p.1, c) else p) = m := by
        conv => rhs; rw [← List.map_id m]
        apply List.map_congr_left
        intro q hq
        have : q.1 ≠ v := fun z => hn.1 (by rw [e, ← z]; exact List.mem_map.mpr ⟨q, hq, rfl⟩)
        simp [this]
      simp only [sumA, List.map_cons, List.sum_cons, look, if_pos e, hm]
      rw [e, Int.sub_mul]
      omega
    · have hv : v ∈ m.map (·.1) := by
        simp only [List.map_cons, List.mem_cons] at h
        exact h.resolve_left (Ne.symm e)
      have ih := sumA_repl (f := f) (c := c) hn.2 hv
      simp only [sumA, List.map_cons, List.sum_cons, look, if_neg e] at ih ⊢
      omega
theorem sumA_put {f : List Int} {m : Asc} {v c : Int} (hn : (m.map (·.1)).Nodup) : sumA (putA m v c) f = sumA m f + (c - look m v) * wv f v := by
  unfold putA
  cases e : hasA m v with
  | true => simp only [if_true]; exact sumA_repl hn (hasA_mem.mp e)
  | false =>
    have : v ∉ m.map (·.1) := fun z => by rw [hasA_mem.mpr z] at e; cases e
    simp [sumA, look_not this]
abbrev N1 := Asc × Int × Option D × Option D
def step1 (s : N1) (p : Int × Int) : N1 := if 0 < p.2 then (putA s.1 p.2 (look s.1 p.2 + p.1), s.2.1, some (.int p.1), some (.int p.2)) else (putA s.1 (-p.2) (look s.1 (-p.2) - p.1), s.2.1 - p.1, some (.int p.1), some (.int p.2))
def fold1 (s : Trm) (b : Int) : N1 := s.foldl step1 ([], b, none, none)
abbrev N2 := Trm × Int × Option D × Option D
def step2 (m : Asc) (s : N2) (v : Int) : N2 := if 0 < look m v then (s.1 ++ [(look m v, v)], s.2.1, some (.int (look m v)), some (.int v)) else if look m v < 0 then (s.1 ++ [(-look m v, -v)], s.2.1 - look m v, some (.int (look m v)), some (.int v)) else (s.1, s.2.1, some (.int (look m v)), some (.int v))
def keysA (m : Asc) : List Int := (m.map (·.1)).mergeSort fun a b => decide (a ≤ b)
def fold2 (s : Trm) (b : Int) : N2 := (keysA (fold1 s b).1).foldl (step2 (fold1 s b).1) ([], (fold1 s b).2.1, (fold1 s b).2.2.1, none)
def normLow (s : Trm) (b : Int) : Int := (fold2 s b).2.1
def normal (s : Trm) (b : Int) : Trm × Int := ((fold2 s b).1, if normLow s b > 0 then normLow s b else 0)
def sv (s : Trm) (f : List Int) : Int := (s.map fun p => p.1 * wv f p.2).sum
theorem sv_cons (p : Int × Int) (s : Trm) (f : List Int) : sv (p :: s) f = p.1 * wv f p.2 + sv s f := by simp [sv]
theorem sv_nil (f : List Int) : sv [] f = 0 := rfl
theorem sv_app (s t : Trm) (f : List Int) : sv (s ++ t) f = sv s f + sv t f := by simp [sv]
theorem wv_neg (f : List Int) {l : Int} (h : l ≠ 0) : wv f (-l) = 1 - wv f l := by
  unfold wv
  by_cases h0 : 0 < l
  · rw [if_neg (by omega), if_pos h0]
    congr 3
    omega
  · rw [if_pos (by omega), if_neg h0]
    have : (-l - 1).toNat = (0 - l - 1).toNat := by congr 1; omega
    rw [this]; omega
structure Inv1 (many : Int) (m : Asc) : Prop where
  nd : (m.map (·.1)).Nodup
  rg : ∀ v ∈ m.map (·.1), 1 ≤ v ∧ v ≤ many
theorem inv1_put {many : Int} {m : Asc} {v c : Int} (h : Inv1 many m) (hv : 1 ≤ v ∧ v ≤ many) : Inv1 many (putA m v c) :=
  ⟨putA_nodup h.nd, fun x hx => (putA_mem.mp hx).elim (h.rg x) fun z => z ▸ hv⟩
theorem fold1_ok {many : Int} (f : List Int) : ∀ (s : Trm) (a : N1), Inv1 many a.1 → (∀ p ∈ s, 1 ≤ p.2.natAbs ∧ (p.2.natAbs : Int) ≤ many) →
    Inv1 many (s.foldl step1 a).1 ∧ sumA (s.foldl step1 a).1 f - (s.foldl step1 a).2.1 = sumA a.1 f - a.2.1 + sv s f
  | [], a, h, _ => ⟨h, by simp [sv]⟩
  | p :: s, a, h, hs => by
    have hp := hs p List.mem_cons_self
    have ih := fold1_ok f s (step1 a p) (by
      unfold step1
      split
      · exact inv1_put h (by omega)
      · exact inv1_put h (by omega)) fun q hq => hs q (List.mem_cons_of_mem _ hq)
    rw [List.foldl_cons]
    refine ⟨ih.1, ?_⟩
    rw [ih.2, sv_cons]
    unfold step1
    by_cases h0 : 0 < p.2
    · simp only [if_pos h0]
      rw [sumA_put h.nd, show look a.1 p.2 + p.1 - look a.1 p.2 = p.1 by omega]
      omega
    · simp only [if_neg h0]
      rw [sumA_put h.nd, show look a.1 (-p.2) - p.1 - look a.1 (-p.2) = -p.1 by omega, wv_neg f (by omega), Int.neg_mul, Int.mul_sub, Int.mul_one]
      omega
theorem perm_keys (m : Asc) : (keysA m).Perm (m.map (·.1)) := List.mergeSort_perm _ _
theorem keys_sorted {m : Asc} (h : (m.map (·.1)).Nodup) : (keysA m).Pairwise (· < ·) := by
  have h1 : (keysA m).Pairwise fun a b => decide (a ≤ b) = true := List.pairwise_mergeSort (le := fun a b : Int => decide (a ≤ b)) (fun a b c x y => by simp at *; omega) (fun a b => by simp; omega) _
  have h2 : (keysA m).Nodup := (perm_keys m).nodup_iff.mpr h
  exact h1.imp₂ (fun a b x y => by have := of_decide_eq_true x; omega) h2
theorem cm_snoc (ts : Trm) (p : Int × Int) (f : List Int) : cm (ts ++ [p]) f = cm ts f + if wv f p.2 = 1 then p.1 else 0 := by
  rw [cm_sum, cm_sum]; simp
theorem wv01 {n : Nat} {f : List Int} (h : FlOk n f) {l : Int} (hl : 1 ≤ l.natAbs ∧ l.natAbs ≤ n) : wv f l = 0 ∨ wv f l = 1 := by
  unfold wv
  split
  · have : (l - 1).toNat < f.length := by rw [h.1]; omega
    have e : f.getD (l - 1).toNat 0 = f[(l - 1).toNat] := by rw [List.getD_eq_getElem?_getD, List.getElem?_eq_getElem this]; rfl
    rw [e]
    exact h.2 _ (List.getElem_mem this)
  · have : (0 - l - 1).toNat < f.length := by rw [h.1]; omega
    have e : f.getD (0 - l - 1).toNat 0 = f[(0 - l - 1).toNat] := by rw [List.getD_eq_getElem?_getD, List.getElem?_eq_getElem this]; rfl
    rw [e]
    rcases h.2 _ (List.getElem_mem this) with z | z <;> rw [z] <;> omega
structure Inv2 (many : Int) (a : N2) (ks : List Int) : Prop where
  t : OkT many a.1
  lt : ∀ p ∈ a.1, ∀ v ∈ ks, (p.2.natAbs : Int) < v
theorem step2_ok {many : Int} {m : Asc} {a : N2} {v : Int} {ks : List Int} (hv : 1 ≤ v ∧ v ≤ many) (hs : (v :: ks).Pairwise (· < ·)) (h : Inv2 many a (v :: ks)) : Inv2 many (step2 m a v) ks := by
  rw [List.pairwise_cons] at hs
  have old : ∀ p ∈ a.1, (p.2.natAbs : Int) < v := fun p hp => h.lt p hp v List.mem_cons_self
  unfold step2
  split
  · refine ⟨h.t.snoc (by omega) (by omega) fun p hp => by have := old p hp; omega, fun p hp u hu => ?_⟩
    rcases List.mem_append.mp hp with z | z
    · exact h.lt p z u (List.mem_cons_of_mem _ hu)
    · rw [List.mem_singleton.mp z]; have := hs.1 u hu; show (v.natAbs : Int) < u; omega
  · split
    · refine ⟨h.t.snoc (by omega) (by omega) fun p hp => by have := old p hp; omega, fun p hp u hu => ?_⟩
      rcases List.mem_append.mp hp with z | z
      · exact h.lt p z u (List.mem_cons_of_mem _ hu)
      · rw [List.mem_singleton.mp z]; have := hs.1 u hu; show ((-v).natAbs : Int) < u; omega
    · exact ⟨h.t, fun p hp u hu => h.lt p hp u (List.mem_cons_of_mem _ hu)⟩
theorem step2_sum {many : Int} {m : Asc} {a : N2} {v : Int} {f : List Int} (hf : FlOk many.toNat f) (hv : 1 ≤ v ∧ v ≤ many) : cm (step2 m a v).1 f - (step2 m a v).2.1 = cm a.1 f - a.2.1 + look m v * wv f v := by
  have h01 := wv01 hf (l := v) (by omega)
  unfold step2
  split
  · simp only [cm_snoc]
    rcases h01 with z | z <;> rw [z] <;> simp <;> omega
  · split
    · simp only [cm_snoc]
      rw [wv_neg f (by omega)]
      rcases h01 with z | z <;> rw [z] <;> simp <;> omega
    · have : look m v = 0 := by omega
      rw [this, Int.zero_mul]
      show cm a.1 f - a.2.1 = cm a.1 f - a.2.1 + 0
      omega
theorem fold2_ok {many : Int} {m : Asc} : ∀ (ks : List Int) (a : N2), ks.Pairwise (· < ·) → (∀ v ∈ ks, 1 ≤ v ∧ v ≤ many) → Inv2 many a ks →
    OkT many (ks.foldl (step2 m) a).1 ∧ ∀ f, FlOk many.toNat f → cm (ks.foldl (step2 m) a).1 f - (ks.foldl (step2 m) a).2.1 = cm a.1 f - a.2.1 + (ks.map fun v => look m v * wv f v).sum
  | [], a, _, _, h => ⟨h.t, fun f _ => by simp⟩
  | v :: ks, a, hp, hr, h => by
    have hv := hr v List.mem_cons_self
    obtain ⟨i1, i2⟩ := fold2_ok ks (step2 m a v) (List.pairwise_cons.mp hp).2 (fun u hu => hr u (List.mem_cons_of_mem _ hu)) (step2_ok hv hp h)
    rw [List.foldl_cons]
    refine ⟨i1, fun f hf => ?_⟩
    rw [i2 f hf, step2_sum hf hv, List.map_cons, List.sum_cons]
    omega
theorem sum_look {f : List Int} : ∀ {m : Asc}, (m.map (·.1)).Nodup → ((m.map (·.1)).map fun v => look m v * wv f v).sum = sumA m f
  | [], _ => rfl
  | p :: m, h => by
    simp only [List.map_cons, List.nodup_cons] at h
    have ih := sum_look (f := f) h.2
    have e : (m.map (·.1)).map (fun v => look (p :: m) v * wv f v) = (m.map (·.1)).map fun v => look m v * wv f v := by
      apply List.map_congr_left
      intro v hv
      have : p.1 ≠ v := fun z => h.1 (z ▸ hv)
      simp [look, this]
    simp only [List.map_cons, List.sum_cons, sumA] at ih ⊢
    rw [show (List.map (fun p => p.fst) m).map (fun v => look (p :: m) v * wv f v) = _ from e, ih]
    simp [look]
theorem sum_perm {l m : List Int} (h : l.Perm m) : l.sum = m.sum := by
  induction h with
  | nil => rfl
  | cons x _ ih => simp [ih]
  | swap x y l => simp; omega
  | trans _ _ h1 h2 => exact h1.trans h2
theorem normal_ok {many : Int} {s : Trm} {b : Int} (hs : ∀ p ∈ s, 1 ≤ p.2.natAbs ∧ (p.2.natAbs : Int) ≤ many) : OkR many (normal s b) ∧ ∀ f, FlOk many.toNat f → cm (normal s b).1 f - normLow s b = sv s f - b := by
  have h1 := fun f => fold1_ok (many := many) f s ([], b, none, none) ⟨by simp, by simp⟩ hs
  have hi := (h1 []).1
  have hk := keys_sorted hi.nd
  have hr : ∀ v ∈ keysA (fold1 s b).1, 1 ≤ v ∧ v ≤ many := fun v hv => hi.rg v ((perm_keys _).mem_iff.mp hv)
  obtain ⟨h2, h3⟩ := fold2_ok (m := (fold1 s b).1) (keysA (fold1 s b).1) ([], (fold1 s b).2.1, (fold1 s b).2.2.1, none) hk hr ⟨OkT.nil, fun p hp => by simp at hp⟩
  refine ⟨⟨h2, by unfold normal; simp only; split <;> omega⟩, fun f hf => ?_⟩
  have e1 := h3 f hf
  have e2 := (h1 f).2
  have e3 : ((keysA (fold1 s b).1).map fun v => look (fold1 s b).1 v * wv f v).sum = sumA (fold1 s b).1 f := by
    rw [sum_perm ((perm_keys (fold1 s b).1).map _)]
    exact sum_look hi.nd
  rw [e3] at e1
  have e4 : cm ([] : Trm) f = 0 := by rw [cm_sum]; rfl
  have e5 : sumA ([] : Asc) f = 0 := rfl
  show cm (fold2 s b).1 f - (fold2 s b).2.1 = _
  unfold fold2
  simp only [e4] at e1
  simp only [e5] at e2
  have e6 : (s.foldl step1 ([], b, none, none)) = fold1 s b := rfl
  rw [e6] at e2
  omega
abbrev nE1 (Sd : D) (bd : D) (s : N1) : VS.Env := [some Sd, some bd, some (dAsc s.1), some (.int s.2.1), s.2.2.1, s.2.2.2, none, none]
theorem nb1 {Sd bd : D} {S : DS} (s : N1) (p : Int × Int) (hl : s.1.length < 1000000) : ∃ env1, setT [4, 5] (nE1 Sd bd s) (dPair p) = some env1 ∧ (ifS (testM (binM gGt (varM 5) (cM (.int 0)))) b_normal_row_1 b_normal_row_2) env1 S = .ok (.nx (nE1 Sd bd (step1 s p)), S) := by
  refine ⟨[some Sd, some bd, some (dAsc s.1), some (.int s.2.1), some (.int p.1), some (.int p.2), none, none], rfl, ?_⟩
  have hk : (kyA s.1).length < 1000000 := by simpa [kyA] using hl
  by_cases h : 0 < p.2
  · have e1 : (dlook (kyA s.1) (vlA s.1) (.inl p.2)).getD (.int 0) = .int (look s.1 p.2) := dlook_asc _ _
    simp only [startE, List.map_cons, List.map_nil, Nat.reduceSub, List.replicate_succ, List.replicate_zero, seqS, ifS, retS, asgS, dropS, nextS, retN, unpS, parS, par3S, parOS, appS, setA, popM, nxSet, nxUnp, appPopM, forS, forR, forE, raiseS, varM, cM, unM, binM, chM, tupM, lstM, nilA, consA, testM, andT, orT, notT, andV, orV, notV, ifM, cbM, callP, callS, bindM, ofO, liftP, endP, endS, get2M, gGet2, VS.keyD, setAll, setN, setT, wipeE, List.getElem?_cons_zero, List.getElem?_cons_succ, List.set_cons_zero, List.set_cons_succ, List.append_nil, List.cons_append, List.nil_append, List.length_cons, List.length_nil, Nat.zero_add, Nat.reduceAdd, Nat.reduceLeDiff, Nat.zero_le, if_true, if_false, Bool.false_eq_true, Bool.not_true, Bool.not_false, gII, gAdd, gEq_int, gNe_int, reduceCtorEq, dAsc, h, decide_true, b_normal_row_1, Option.map_some, e1, hk, dputK_asc s.1 p.2 (look s.1 p.2 + p.1), dputV_asc, step1, nE1]
  · have e1 : (dlook (kyA s.1) (vlA s.1) (.inl (-p.2))).getD (.int 0) = .int (look s.1 (-p.2)) := dlook_asc _ _
    simp only [startE, List.map_cons, List.map_nil, Nat.reduceSub, List.replicate_succ, List.replicate_zero, seqS, ifS, retS, asgS, dropS, nextS, retN, unpS, parS, par3S, parOS, appS, setA, popM, nxSet, nxUnp, appPopM, forS, forR, forE, raiseS, varM, cM, unM, binM, chM, tupM, lstM, nilA, consA, testM, andT, orT, notT, andV, orV, notV, ifM, cbM, callP, callS, bindM, ofO, liftP, endP, endS, get2M, gGet2, VS.keyD, setAll, setN, setT, wipeE, List.getElem?_cons_zero, List.getElem?_cons_succ, List.set_cons_zero, List.set_cons_succ, List.append_nil, List.cons_append, List.nil_append, List.length_cons, List.length_nil, Nat.zero_add, Nat.reduceAdd, Nat.reduceLeDiff, Nat.zero_le, if_true, if_false, Bool.false_eq_true, Bool.not_true, Bool.not_false, gII, gAdd, gEq_int, gNe_int, reduceCtorEq, dAsc, h, decide_false, b_normal_row_2, gNeg, Option.map_some, e1, hk, dputK_asc s.1 (-p.2) (look s.1 (-p.2) - p.1), dputV_asc, step1, nE1]
theorem fold1_len : ∀ (s : Trm) (a : N1), (s.foldl step1 a).1.length ≤ a.1.length + s.length
  | [], a => by simp
  | p :: s, a => by
    have h1 := fold1_len s (step1 a p)
    have h2 : (step1 a p).1.length ≤ a.1.length + 1 := by unfold step1; split <;> exact putA_len _ _ _
    simp only [List.foldl_cons, List.length_cons]
    omega
theorem intKeys_asc : ∀ m : Asc, intKeys (kyA m) = some (m.map (·.1))
  | [] => rfl
  | p :: m => by
    have := intKeys_asc m
    simp only [kyA] at this
    simp [kyA, intKeys, this]
abbrev nE2 (Sd bd : D) (m : Asc) (x5 : Option D) (s : N2) : VS.Env := [some Sd, some bd, some (dAsc m), some (.int s.2.1), s.2.2.1, x5, some (.lst (s.1.map dPair)), s.2.2.2]
theorem nb2 {Sd bd : D} {m : Asc} {x5 : Option D} {S : DS} (s : N2) (v : Int) (hv : hasA m v = true) (hl : s.1.length < 1000000) : ∃ env1, setN 7 (nE2 Sd bd m x5 s) (.int v) = some env1 ∧ b_normal_row_4 env1 S = .ok (.nx (nE2 Sd bd m x5 (step2 m s v)), S) := by
  refine ⟨[some Sd, some bd, some (dAsc m), some (.int s.2.1), s.2.2.1, x5, some (.lst (s.1.map dPair)), some (.int v)], rfl, ?_⟩
  have e1 : gIxA (dAsc m) (.int v) = some (.int (look m v)) := by unfold dAsc gIxA; exact dlook_has m v hv
  have hl2 : (s.1.map dPair).length < 1000000 := by simpa using hl
  by_cases h : 0 < look m v
  · have h2 : ¬ look m v < 0 := by omega
    simp only [startE, List.map_cons, List.map_nil, Nat.reduceSub, List.replicate_succ, List.replicate_zero, seqS, ifS, retS, asgS, dropS, nextS, retN, unpS, parS, par3S, parOS, appS, setA, popM, nxSet, nxUnp, appPopM, forS, forR, forE, raiseS, varM, cM, unM, binM, chM, tupM, lstM, nilA, consA, testM, andT, orT, notT, andV, orV, notV, ifM, cbM, callP, callS, bindM, ofO, liftP, endP, endS, get2M, gGet2, VS.keyD, setAll, setN, setT, wipeE, List.getElem?_cons_zero, List.getElem?_cons_succ, List.set_cons_zero, List.set_cons_succ, List.append_nil, List.cons_append, List.nil_append, List.length_cons, List.length_nil, Nat.zero_add, Nat.reduceAdd, Nat.reduceLeDiff, Nat.zero_le, if_true, if_false, Bool.false_eq_true, Bool.not_true, Bool.not_false, gII, gAdd, gEq_int, gNe_int, reduceCtorEq, b_normal_row_4, e1, h, h2, decide_true, decide_false, hl2, step2, nE2, List.map_append, List.map_cons, List.map_nil, dPair]
  · by_cases h2 : look m v < 0
    · simp only [startE, List.map_cons, List.map_nil, Nat.reduceSub, List.replicate_succ, List.replicate_zero, seqS, ifS, retS, asgS, dropS, nextS, retN, unpS, parS, par3S, parOS, appS, setA, popM, nxSet, nxUnp, appPopM, forS, forR, forE, raiseS, varM, cM, unM, binM, chM, tupM, lstM, nilA, consA, testM, andT, orT, notT, andV, orV, notV, ifM, cbM, callP, callS, bindM, ofO, liftP, endP, endS, get2M, gGet2, VS.keyD, setAll, setN, setT, wipeE, List.getElem?_cons_zero, List.getElem?_cons_succ, List.set_cons_zero, List.set_cons_succ, List.append_nil, List.cons_append, List.nil_append, List.length_cons, List.length_nil, Nat.zero_add, Nat.reduceAdd, Nat.reduceLeDiff, Nat.zero_le, if_true, if_false, Bool.false_eq_true, Bool.not_true, Bool.not_false, gII, gAdd, gEq_int, gNe_int, reduceCtorEq, b_normal_row_4, b_normal_row_3, e1, h, h2, decide_true, decide_false, hl2, gNeg, step2, nE2, List.map_append, List.map_cons, List.map_nil, dPair]
    · simp only [startE, List.map_cons, List.map_nil, Nat.reduceSub, List.replicate_succ, List.replicate_zero, seqS, ifS, retS, asgS, dropS, nextS, retN, unpS, parS, par3S, parOS, appS, setA, popM, nxSet, nxUnp, appPopM, forS, forR, forE, raiseS, varM, cM, unM, binM, chM, tupM, lstM, nilA, consA, testM, andT, orT, notT, andV, orV, notV, ifM, cbM, callP, callS, bindM, ofO, liftP, endP, endS, get2M, gGet2, VS.keyD, setAll, setN, setT, wipeE, List.getElem?_cons_zero, List.getElem?_cons_succ, List.set_cons_zero, List.set_cons_succ, List.append_nil, List.cons_append, List.nil_append, List.length_cons, List.length_nil, Nat.zero_add, Nat.reduceAdd, Nat.reduceLeDiff, Nat.zero_le, if_true, if_false, Bool.false_eq_true, Bool.not_true, Bool.not_false, gII, gAdd, gEq_int, gNe_int, reduceCtorEq, b_normal_row_4, b_normal_row_3, e1, h, h2, decide_true, decide_false, hl2, gNeg, step2, nE2, List.map_append, List.map_cons, List.map_nil, dPair]
theorem fold2_len {m : Asc} : ∀ (ks : List Int) (a : N2), (ks.foldl (step2 m) a).1.length ≤ a.1.length + ks.length
  | [], a => by simp
  | v :: ks, a => by
    have h1 := fold2_len (m := m) ks (step2 m a v)
    have h2 : (step2 m a v).1.length ≤ a.1.length + 1 := by
      unfold step2
      split
      · simp
      · split <;> simp
    simp only [List.foldl_cons, List.length_cons]
    omega
theorem normal_row_ok {many : Int} {s : Trm} {b : Int} (hm : many ≤ 63) (hs : ∀ p ∈ s, 1 ≤ p.2.natAbs ∧ (p.2.natAbs : Int) ≤ many) (hl : s.length ≤ 100000) : G_normal_row [.lst (s.map dPair), .int b] = .ok (dRow (normal s b)) := by
  have hi := (fold1_ok (many := many) [] s ([], b, none, none) ⟨by simp, by simp⟩ hs).1
  have l1 : ∀ k, k ≤ s.length → ((s.take k).foldl step1 ([], b, none, none)).1.length ≤ k := fun k hk => by
    have := fold1_len (s.take k) ([], b, none, none)
    simp at this
    omega
  have h1 := loop_foldP (S := S0) (set := setT [4, 5]) (g := ifS (testM (binM gGt (varM 5) (cM (.int 0)))) b_normal_row_1 b_normal_row_2) dPair (nE1 (.lst (s.map dPair)) (.int b)) step1 (fun a xs => a.1.length + xs.length ≤ s.length) s ([], b, none, none) (by simp) (fun a p xs ha => by
    simp only [List.length_cons] at ha
    refine ⟨?_, nb1 a p (by omega)⟩
    have : (step1 a p).1.length ≤ a.1.length + 1 := by unfold step1; split <;> exact putA_len _ _ _
    omega)
  have hk : (kyA (fold1 s b).1).length < 64 := by
    have e : (kyA (fold1 s b).1).length = (keysA (fold1 s b).1).length := by rw [(perm_keys _).length_eq]; simp [kyA]
    have hr : ∀ v ∈ keysA (fold1 s b).1, 1 ≤ v ∧ v ≤ many := fun v hv => hi.rg v ((perm_keys _).mem_iff.mp hv)
    have := inc_len ((keysA (fold1 s b).1).map Int.toNat) 0 63 (by
      rw [List.pairwise_map]
      exact (keys_sorted hi.nd).imp_of_mem fun {x y} hx hy h => by have := hr x hx; have := hr y hy; omega) fun x hx => by
      obtain ⟨v, hv, rfl⟩ := List.mem_map.mp hx
      have := hr v hv
      omega
    rw [e]
    simp at this
    omega
  have h2 := loop_foldP (S := S0) (set := setN 7) (g := b_normal_row_4) D.int (nE2 (.lst (s.map dPair)) (.int b) (fold1 s b).1 (fold1 s b).2.2.2) (step2 (fold1 s b).1) (fun a xs => (∀ v ∈ xs, hasA (fold1 s b).1 v = true) ∧ a.1.length + xs.length < 64) (keysA (fold1 s b).1) ([], (fold1 s b).2.1, (fold1 s b).2.2.1, none) ⟨fun v hv => hasA_mem.mpr ((perm_keys _).mem_iff.mp hv), by
      have : (keysA (fold1 s b).1).length = (kyA (fold1 s b).1).length := by rw [(perm_keys _).length_eq]; simp [kyA]
      simp only [List.length_nil]; omega⟩ (fun a v xs ha => by
    obtain ⟨hv, ha⟩ := ha
    simp only [List.length_cons] at ha
    refine ⟨⟨fun u hu => hv u (List.mem_cons_of_mem _ hu), ?_⟩, nb2 a v (hv v List.mem_cons_self) (by omega)⟩
    have : (step2 (fold1 s b).1 a v).1.length ≤ a.1.length + 1 := by
      unfold step2
      split
      · simp
      · split <;> simp
    omega)
  have h1' : loopS (setT [4, 5]) (ifS (testM (binM gGt (varM 5) (cM (.int 0)))) b_normal_row_1 b_normal_row_2) (s.map dPair) [some (.lst (s.map dPair)), some (.int b), some (.dct [] []), some (.int b), none, none, none, none] S0 = .ok (.nx (nE1 (.lst (s.map dPair)) (.int b) (fold1 s b)), S0) := h1
  have h2' : loopS (setN 7) b_normal_row_4 ((keysA (fold1 s b).1).map D.int) [some (.lst (s.map dPair)), some (.int b), some (dAsc (fold1 s b).1), some (.int (fold1 s b).2.1), (fold1 s b).2.2.1, (fold1 s b).2.2.2, some (.lst []), none] S0 = .ok (.nx (nE2 (.lst (s.map dPair)) (.int b) (fold1 s b).1 (fold1 s b).2.2.2 (fold2 s b)), S0) := h2
  have hs0 : startE 8 [.lst (s.map dPair), .int b] = [some (.lst (s.map dPair)), some (.int b), none, none, none, none, none, none] := rfl
  have hso : gSortedA [dAsc (fold1 s b).1] = some (.lst ((keysA (fold1 s b).1).map D.int)) := by
    simp only [dAsc, gSortedA, if_pos hk, intKeys_asc, Option.map_some]
    rfl
  unfold G_normal_row g_normal_row
  simp only [startE, List.map_cons, List.map_nil, Nat.reduceSub, List.replicate_succ, List.replicate_zero, seqS, ifS, retS, asgS, dropS, nextS, retN, unpS, parS, par3S, parOS, appS, setA, popM, nxSet, nxUnp, appPopM, forS, forR, forE, raiseS, varM, cM, unM, binM, chM, tupM, lstM, nilA, consA, testM, andT, orT, notT, andV, orV, notV, ifM, cbM, callP, callS, bindM, ofO, liftP, endP, endS, get2M, gGet2, VS.keyD, setAll, setN, setT, wipeE, List.getElem?_cons_zero, List.getElem?_cons_succ, List.set_cons_zero, List.set_cons_succ, List.append_nil, List.cons_append, List.nil_append, List.length_cons, List.length_nil, Nat.zero_add, Nat.reduceAdd, Nat.reduceLeDiff, Nat.zero_le, if_true, if_false, Bool.false_eq_true, Bool.not_true, Bool.not_false, gII, gAdd, gEq_int, gNe_int, reduceCtorEq, hs0, h1', nE1, hso, h2', nE2, gTuple, dRow, normal, normLow, max0]
  rfl
end My
namespace My
open PySem PySem.Spec L2 VS
theorem sorted_ext : ∀ {r q : Trm}, (r.map fun p => p.2.natAbs).Pairwise (· < ·) → (q.map fun p => p.2.natAbs).Pairwise (· < ·) → (∀ p, p ∈ r ↔ p ∈ q) → r = q
  | [], [], _, _, _ => rfl
  | [], b :: q, _, _, h => by have := (h b).mpr List.mem_cons_self; simp at this
  | a :: r, [], _, _, h => by have := (h a).mp List.mem_cons_self; simp at this
  | a :: r, b :: q, h1, h2, h => by
    simp only [List.map_cons, List.pairwise_cons] at h1 h2
    have ha : ∀ p ∈ r, a.2.natAbs < p.2.natAbs := fun p hp => h1.1 _ (List.mem_map.mpr ⟨p, hp, rfl⟩)
    have hb : ∀ p ∈ q, b.2.natAbs < p.2.natAbs := fun p hp => h2.1 _ (List.mem_map.mpr ⟨p, hp, rfl⟩)
    have e : a = b := by
      rcases List.mem_cons.mp ((h a).mp List.mem_cons_self) with z | z
      · exact z
      · rcases List.mem_cons.mp ((h b).mpr List.mem_cons_self) with y | y
        · exact y.symm
        · have := hb a z; have := ha b y; omega
    subst e
    rw [sorted_ext h1.2 h2.2 fun p => ?_]
    constructor
    · intro hp
      rcases List.mem_cons.mp ((h p).mp (List.mem_cons_of_mem _ hp)) with z | z
      · have := ha p hp; rw [z] at this; omega
      · exact z
    · intro hp
      rcases List.mem_cons.mp ((h p).mpr (List.mem_cons_of_mem _ hp)) with z | z
      · have := hb p hp; rw [z] at this; omega
      · exact z
theorem wt_mem : ∀ {ts : Trm} {l : Int}, wt ts l ≠ 0 → (wt ts l, l) ∈ ts
  | [], l, h => by simp [wt] at h
  | p :: ts, l, h => by
    unfold wt at h ⊢
    split at h
    · rename_i e
      rw [if_pos e, ← e]
      exact List.mem_cons_self
    · rename_i e
      rw [if_neg e]
      exact List.mem_cons_of_mem _ (wt_mem h)
theorem wt_of : ∀ {ts : Trm} {p : Int × Int}, (ts.map (·.2)).Nodup → p ∈ ts → wt ts p.2 = p.1
  | [], _, _, h => by simp at h
  | q :: ts, p, hn, h => by
    simp only [List.map_cons, List.nodup_cons] at hn
    unfold wt
    rcases List.mem_cons.mp h with z | z
    · subst z; rw [if_pos rfl]
    · have : q.2 ≠ p.2 := fun e => hn.1 (e ▸ List.mem_map.mpr ⟨p, z, rfl⟩)
      rw [if_neg this]
      exact wt_of hn.2 z
theorem sum_zero : ∀ {l : List Int}, (∀ x ∈ l, 0 ≤ x) → l.sum ≤ 0 → ∀ x ∈ l, x = 0
  | [], _, _ => by simp
  | y :: l, h, hs => by
    have h1 := h y List.mem_cons_self
    have h2 : 0 ≤ l.sum := by
      clear hs
      induction l with
      | nil => simp
      | cons z l ih =>
        have := h z (by simp)
        have := ih (fun x hx => h x (by simp at hx ⊢; rcases hx with e | e <;> simp [e]))
        simp; omega
    simp only [List.sum_cons] at hs
    intro x hx
    rcases List.mem_cons.mp hx with z | z
    · subst z; omega
    · exact sum_zero (fun x hx => h x (List.mem_cons_of_mem _ hx)) (by omega) x z
theorem miss_zero {r q : Trm} (h : miss r q ≤ 0) : ∀ p ∈ r, p.1 ≤ wt q p.2 := fun p hp => by
  have := sum_zero (l := r.map fun (p : Int × Int) => if p.1 - wt q p.2 > 0 then p.1 - wt q p.2 else 0) (fun x hx => by
    obtain ⟨p, _, rfl⟩ := List.mem_map.mp hx
    show (0 : Int) ≤ if p.1 - wt q p.2 > 0 then p.1 - wt q p.2 else 0
    split <;> omega) h _ (List.mem_map.mpr ⟨p, hp, rfl⟩)
  split at this <;> omega
theorem terms_unique {many : Int} {r q : Trm} (hr : OkT many r) (hq : OkT many q) (h1 : ∀ p ∈ r, p.1 ≤ wt q p.2) (h2 : ∀ p ∈ q, p.1 ≤ wt r p.2) : r = q := by
  have half : ∀ {r q : Trm}, OkT many r → OkT many q → (∀ p ∈ r, p.1 ≤ wt q p.2) → (∀ p ∈ q, p.1 ≤ wt r p.2) → ∀ p ∈ r, p ∈ q := fun {r q} hr hq h1 h2 p hp => by
    have w := hr.w p hp
    have a := h1 p hp
    have m := wt_mem (ts := q) (l := p.2) (by omega)
    have c := h2 _ m
    simp only at c
    rw [wt_of hr.lits hp] at c
    have e : wt q p.2 = p.1 := by omega
    rw [e] at m
    exact m
  exact sorted_ext hr.inc hq.inc fun p => ⟨half hr hq h1 h2 p, half hq hr h2 h1 p⟩
theorem row_unique {many : Int} {r q : Trm × Int} (hr : OkR many r) (hq : OkR many q) (h : ∀ f, FlOk many.toNat f → cm r.1 f - r.2 = cm q.1 f - q.2) : r = q := by
  have a := (fact (b := r.2) (c := q.2) hr.t hq.t).mp fun f hf => by have := h f hf; omega
  have b := (fact (b := q.2) (c := r.2) hq.t hr.t).mp fun f hf => by have := h f hf; omega
  have c := miss_nonneg r.1 q.1
  have d := miss_nonneg q.1 r.1
  have e := terms_unique hr.t hq.t (miss_zero (by omega)) (miss_zero (by omega))
  have g : r.2 = q.2 := by omega
  exact Prod.ext e g
theorem cm_zero {many : Int} {r : Trm} (h : OkT many r) : ∃ f, FlOk many.toNat f ∧ cm r f = 0 := by
  obtain ⟨f, h1, h2⟩ := fact_eq (r := []) (q := r) OkT.nil h
  have h3 : miss [] r = 0 := rfl
  have h4 : cm [] f = 0 := rfl
  refine ⟨f, h1, ?_⟩
  omega
theorem cm_nonneg {many : Int} {r : Trm} (h : OkT many r) (f : List Int) : 0 ≤ cm r f := by
  have := fact_ge (r := []) (q := r) (many := many) OkT.nil h f
  have h3 : miss [] r = 0 := rfl
  have h4 : cm [] f = 0 := rfl
  omega
theorem normal_holds {many : Int} {s : Trm} {b : Int} (hs : ∀ p ∈ s, 1 ≤ p.2.natAbs ∧ (p.2.natAbs : Int) ≤ many) {f : List Int} (hf : FlOk many.toNat f) : (normal s b).2 ≤ cm (normal s b).1 f ↔ b ≤ sv s f := by
  obtain ⟨h1, h2⟩ := normal_ok (b := b) hs
  have h3 := h2 f hf
  have h4 := cm_nonneg h1.t f
  have e : (normal s b).2 = if normLow s b > 0 then normLow s b else 0 := rfl
  rw [e]
  split <;> omega
theorem normal_sur {many : Int} {s : Trm} {b : Int} (hs : ∀ p ∈ s, 1 ≤ p.2.natAbs ∧ (p.2.natAbs : Int) ≤ many) : ∃ a : Int, 0 ≤ a ∧ (∀ f, FlOk many.toNat f → cm (normal s b).1 f - (normal s b).2 = sv s f - b - a ∧ (0 < a → a ≤ sv s f - b)) ∧ ∃ f, FlOk many.toNat f ∧ sv s f - b ≤ a := by
  obtain ⟨h1, h2⟩ := normal_ok (b := b) hs
  have e : (normal s b).2 = if normLow s b > 0 then normLow s b else 0 := rfl
  obtain ⟨f0, hf0, hz⟩ := cm_zero h1.t
  have h0 := h2 f0 hf0
  by_cases hl : normLow s b > 0
  · refine ⟨0, Int.le_refl _, fun f hf => ⟨?_, fun h => absurd h (by omega)⟩, f0, hf0, by omega⟩
    have := h2 f hf
    rw [e, if_pos hl]
    omega
  · refine ⟨-normLow s b, by omega, fun f hf => ?_, f0, hf0, by omega⟩
    have := h2 f hf
    have := cm_nonneg h1.t f
    rw [e, if_neg hl]
    exact ⟨by omega, fun _ => by omega⟩
end My
namespace My
open PySem PySem.Spec PyProof.Rows L2 VS
def g__law_excess : MS := (retS (binM gSub (callP G__law_comes [] (consA (binM gIxA (varM 0) (cM (.int 0))) (consA (varM 1) nilA))) (binM gIxA (varM 0) (cM (.int 1)))))
def G__law_excess (ds : List D) : RP := endP (g__law_excess (startE 2 ds) S0)
end My
namespace My
open PySem PySem.Spec PyProof.Rows L2 VS
def g__law_total : MS := (retS (cbM gSum (consA (lcM (setT [1, 2]) (binM gIxA (varM 0) (cM (.int 0))) (fun _ S => .ok (true, S)) (varM 1) [1, 2]) nilA)))
def G__law_total (ds : List D) : RP := endP (g__law_total (startE 3 ds) S0)
end My
namespace My
open PySem PySem.Spec L2 VS
theorem ix_f (f : List Int) (i : Int) (h0 : 0 ≤ i) (h1 : i < f.length) : gIxA (tupDI f) (.int i) = some (.int (f.getD i.toNat 0)) := by
  have hlt : i.toNat < f.length := by omega
  simp only [tupDI, gIxA, atI, ixN, if_pos h0, List.length_map, if_pos h1, Option.bind_some, List.getElem?_map, List.getElem?_eq_getElem hlt, Option.map_some, List.getD_eq_getElem?_getD, Option.getD_some]
theorem worth_ok {f : List Int} {l : Int} (h : InL f.length l) : G__law_worth [.int l, tupDI f] = .ok (.int (wv f l)) := by
  have hG : G__law_worth [.int l, tupDI f] = endP (retS (ifM (testM (binM gGt (varM 0) (cM (.int 0)))) (binM gIxA (varM 1) (binM VS.gSub (varM 0) (cM (.int 1)))) (binM VS.gSub (cM (.int 1)) (binM gIxA (varM 1) (binM VS.gSub (binM VS.gSub (cM (.int 0)) (varM 0)) (cM (.int 1)))))) (startE 2 [.int l, tupDI f]) S0) := rfl
  have s1 : startE 2 [.int l, tupDI f] = [some (.int l), some (tupDI f)] := rfl
  rw [hG]
  have := h.1
  have := h.2
  by_cases hp : 0 < l
  · have e := ix_f f (l - 1) (by omega) (by omega)
    simp only [s1, retS, ifM, testM, binM, bindM, varM, List.getElem?_cons_zero, List.getElem?_cons_succ, cM, ofO, gII, hp, decide_true, if_true, e, endP, wv]
  · have e := ix_f f (0 - l - 1) (by omega) (by omega)
    simp only [s1, retS, ifM, testM, binM, bindM, varM, List.getElem?_cons_zero, List.getElem?_cons_succ, cM, ofO, gII, hp, decide_false, Bool.false_eq_true, if_false, e, endP, wv]
theorem comes_ok {ts : Trm} {f : List Int} (h : ∀ p ∈ ts, InL f.length p.2) : G__law_comes [.tup (ts.map dPair), tupDI f] = .ok (.int (cm ts f)) := by
  have hG : G__law_comes [.tup (ts.map dPair), tupDI f] = endP (retS (cbM gSum (consA (lcM (setT [2, 3]) (varM 0) (testM (binM gEq (callP G__law_worth [] (consA (varM 3) (consA (varM 1) nilA))) (cM (.int 1)))) (varM 2) [2, 3]) nilA)) (startE 4 [.tup (ts.map dPair), tupDI f]) S0) := rfl
  have s1 : startE 4 [.tup (ts.map dPair), tupDI f] = [some (.tup (ts.map dPair)), some (tupDI f), none, none] := rfl
  have cl := compM_eq (set := setT [2, 3]) (test := testM (binM gEq (callP G__law_worth [] (consA (varM 3) (consA (varM 1) nilA))) (cM (.int 1)))) (elt := varM 2) (env0 := wipeE [some (.tup (ts.map dPair)), some (tupDI f), none, none] [2, 3]) (S := S0)
    (fun d => match d with | .tup [.int _, .int l] => wv f l == 1 | _ => false) (fun d => match d with | .tup [.int w, .int _] => .int w | _ => .non) (ts.map dPair) (fun d hd => by
      obtain ⟨p, hp, rfl⟩ := List.mem_map.mp hd
      refine ⟨[some (.tup (ts.map dPair)), some (tupDI f), some (.int p.1), some (.int p.2)], rfl, ?_, fun _ => rfl⟩
      simp only [testM, binM, bindM, callP, consA, varM, List.getElem?_cons_zero, List.getElem?_cons_succ, nilA, List.append_nil, worth_ok (h p hp), liftP, cM, ofO, gEq_int, dPair])
  have em : (((ts.map dPair).filter fun d => match d with | .tup [.int _, .int l] => wv f l == 1 | _ => false).map fun d => match d with | .tup [.int w, .int _] => .int w | _ => .non) = ((ts.filter fun p => wv f p.2 == 1).map (·.1)).map D.int := by
    rw [List.filter_map, List.map_map, List.map_map]
    rfl
  rw [em] at cl
  have gs := gSum_ints ((ts.filter fun p => wv f p.2 == 1).map (·.1))
  rw [hG]
  simp only [s1, retS, cbM, consA, lcM, varM, List.getElem?_cons_zero, bindM, cl, nilA, gs, ofO, endP]
  rfl
section
variable {r : Trm × Int} {f : List Int}
theorem holds_ok (h : ∀ p ∈ r.1, InL f.length p.2) : G__law_holds [dRow r, tupDI f] = .ok (.bl (decide (r.2 ≤ cm r.1 f))) := by
  have hG : G__law_holds [dRow r, tupDI f] = endP (retS (binM gGe (callP G__law_comes [] (consA (binM gIxA (varM 0) (cM (.int 0))) (consA (varM 1) nilA))) (binM gIxA (varM 0) (cM (.int 1)))) (startE 2 [dRow r, tupDI f]) S0) := rfl
  have s1 : startE 2 [dRow r, tupDI f] = [some (dRow r), some (tupDI f)] := rfl
  have r0 : gIxA (dRow r) (.int 0) = some (.tup (r.1.map dPair)) := rfl
  have r1 : gIxA (dRow r) (.int 1) = some (.int r.2) := rfl
  rw [hG]
  simp only [s1, retS, binM, callP, consA, varM, List.getElem?_cons_zero, List.getElem?_cons_succ, cM, bindM, ofO, r0, nilA, List.append_nil, comes_ok h, liftP, r1, gII, endP]
theorem excess_ok (h : ∀ p ∈ r.1, InL f.length p.2) : G__law_excess [dRow r, tupDI f] = .ok (.int (cm r.1 f - r.2)) := by
  have hG : G__law_excess [dRow r, tupDI f] = endP (retS (binM VS.gSub (callP G__law_comes [] (consA (binM gIxA (varM 0) (cM (.int 0))) (consA (varM 1) nilA))) (binM gIxA (varM 0) (cM (.int 1)))) (startE 2 [dRow r, tupDI f]) S0) := rfl
  have s1 : startE 2 [dRow r, tupDI f] = [some (dRow r), some (tupDI f)] := rfl
  have r0 : gIxA (dRow r) (.int 0) = some (.tup (r.1.map dPair)) := rfl
  have r1 : gIxA (dRow r) (.int 1) = some (.int r.2) := rfl
  rw [hG]
  simp only [s1, retS, binM, callP, consA, varM, List.getElem?_cons_zero, List.getElem?_cons_succ, cM, bindM, ofO, r0, nilA, List.append_nil, comes_ok h, liftP, r1, gII, endP]
theorem total_ok : G__law_total [dRow r] = .ok (.int (tot r.1)) := by
  have hG : G__law_total [dRow r] = endP (retS (cbM gSum (consA (lcM (setT [1, 2]) (binM gIxA (varM 0) (cM (.int 0))) (fun _ S => .ok (true, S)) (varM 1) [1, 2]) nilA)) (startE 3 [dRow r]) S0) := rfl
  have s1 : startE 3 [dRow r] = [some (dRow r), none, none] := rfl
  have r0 : gIxA (dRow r) (.int 0) = some (.tup (r.1.map dPair)) := rfl
  have lw := lc_weights (ts := r.1) (S := S0) (env0 := wipeE [some (dRow r), none, none] [1, 2]) (a := 1) (b := 2) rfl (by decide)
  have gs : gSum [.lst ((r.1.map (·.1)).map D.int)] = some (.int (tot r.1)) := gSum_ints _
  rw [hG]
  simp only [s1, retS, cbM, consA, lcM, binM, varM, List.getElem?_cons_zero, cM, bindM, ofO, r0, lw, nilA, gs, endP]
end
def flB : MS := asgS 1 (cbM gSortedA (consA (binM gCat (lcM (setN 3) (varM 1) (fun _ S => .ok (true, S)) (binM gAdd (varM 3) (tupM (consA (cM (.int 0)) nilA))) [3]) (lcM (setN 3) (varM 1) (fun _ S => .ok (true, S)) (binM gAdd (varM 3) (tupM (consA (cM (.int 1)) nilA))) [3])) nilA))
theorem lc_snoc {x2 : Option D} {m : D} {fs : List (List Int)} (b : Int) (hl : ∀ f ∈ fs, f.length ≤ 1000) : lcM (setN 3) (varM 1) (fun _ S => .ok (true, S)) (binM gAdd (varM 3) (tupM (consA (cM (.int b)) nilA))) [3] [some m, some (.lst (fs.map tupDI)), x2, none] S0 = .ok (.lst ((fs.map (· ++ [b])).map tupDI), S0) := by
  have cl := compM_eq (set := setN 3) (test := fun _ S => .ok (true, S)) (elt := binM gAdd (varM 3) (tupM (consA (cM (.int b)) nilA))) (env0 := wipeE [some m, some (.lst (fs.map tupDI)), x2, none] [3]) (S := S0)
    (fun _ => true) (fun d => match d with | .tup ds => .tup (ds ++ [.int b]) | _ => .non) (fs.map tupDI) (fun d hd => by
      obtain ⟨f, hf, rfl⟩ := List.mem_map.mp hd
      refine ⟨[some m, some (.lst (fs.map tupDI)), x2, some (tupDI f)], rfl, rfl, fun _ => ?_⟩
      have e : gAdd (tupDI f) (.tup [.int b]) = some (.tup (f.map D.int ++ [.int b])) := by
        have := hl f hf
        simp only [gAdd, tupDI, List.length_map, List.length_singleton]
        rw [if_pos (by omega)]
      simp only [binM, bindM, varM, List.getElem?_cons_zero, List.getElem?_cons_succ, tupM, consA, cM, nilA, List.length_cons, List.length_nil, Nat.reduceAdd, Nat.reduceLeDiff, if_true, e, ofO]
      rfl)
  have ft : (fs.map tupDI).filter (fun _ => true) = fs.map tupDI := List.filter_eq_self.mpr (by simp)
  rw [ft, List.map_map] at cl
  have em : fs.map ((fun d => match d with | .tup ds => .tup (ds ++ [.int b]) | _ => .non) ∘ tupDI) = (fs.map (· ++ [b])).map tupDI := by
    rw [List.map_map]
    refine List.map_congr_left fun f _ => ?_
    simp [tupDI]
  rw [em] at cl
  simp only [lcM, varM, List.getElem?_cons_zero, List.getElem?_cons_succ, bindM, cl]
def Fls (i : Nat) (fs : List (List Int)) : Prop := (∀ f, f ∈ fs ↔ FlOk i f) ∧ fs.length = 2 ^ i
theorem fls_step {i : Nat} {fs gs : List (List Int)} (h : Fls i fs) (hp : gs.Perm (fs.map (· ++ [0]) ++ fs.map (· ++ [1]))) : Fls (i + 1) gs := by
  refine ⟨fun f => ?_, by rw [hp.length_eq, List.length_append, List.length_map, List.length_map, h.2, Nat.pow_succ]; omega⟩
  rw [hp.mem_iff, List.mem_append, List.mem_map, List.mem_map]
  constructor
  · rintro (⟨g, hg, rfl⟩ | ⟨g, hg, rfl⟩)
    · obtain ⟨h1, h2⟩ := (h.1 g).mp hg
      refine ⟨by rw [List.length_append, h1]; rfl, fun x hx => ?_⟩
      rcases List.mem_append.mp hx with z | z
      · exact h2 x z
      · exact .inl (List.mem_singleton.mp z)
    · obtain ⟨h1, h2⟩ := (h.1 g).mp hg
      refine ⟨by rw [List.length_append, h1]; rfl, fun x hx => ?_⟩
      rcases List.mem_append.mp hx with z | z
      · exact h2 x z
      · exact .inr (List.mem_singleton.mp z)
  · rintro ⟨h1, h2⟩
    have hne : f ≠ [] := fun z => by rw [z] at h1; cases h1
    have e := List.dropLast_concat_getLast hne
    have hd : FlOk i f.dropLast := ⟨by rw [List.length_dropLast, h1]; rfl, fun x hx => h2 x ((List.dropLast_sublist f).subset hx)⟩
    rcases h2 _ (List.getLast_mem hne) with z | z
    · rw [z] at e
      exact .inl ⟨f.dropLast, (h.1 _).mpr hd, e⟩
    · rw [z] at e
      exact .inr ⟨f.dropLast, (h.1 _).mpr hd, e⟩
theorem fillings_ok {many : Int} (hm : 1 ≤ many) (hm2 : many ≤ 6) : ∃ fs, G__law_fillings [.int many] = .ok (.lst (fs.map tupDI)) ∧ Fls many.toNat fs := by
  let I : Nat → VS.Env → DS → Prop := fun i env S => ∃ (fs : List (List Int)) (x2 : Option D), env = [some (.int many), some (.lst (fs.map tupDI)), x2, none] ∧ S = S0 ∧ Fls i fs
  have hlen : (intsD 0 many.toNat).length = many.toNat := by simp [intsD]
  obtain ⟨env', S', h1, fs, x2, rfl, rfl, h2⟩ := loop_inv (set := setN 2) (g := flB) I (intsD 0 many.toNat) 0 [some (.int many), some (.lst [.tup []]), none, none] S0
    ⟨[[]], none, rfl, rfl, fun f => by simp only [FlOk, List.mem_singleton, List.length_eq_zero_iff]; exact ⟨fun z => ⟨z, fun x hx => by rw [z] at hx; cases hx⟩, fun z => z.1⟩, rfl⟩ (fun j d env S hj hI => by
      rw [Nat.zero_add] at hI ⊢
      have hlt : j < many.toNat := by have := (List.getElem?_eq_some_iff.mp hj).1; rwa [hlen] at this
      rw [intsD_at hlt] at hj
      cases hj
      obtain ⟨fs, x2, rfl, rfl, h⟩ := hI
      have l0 : ∀ f ∈ fs, f.length ≤ 1000 := fun f hf => by have := ((h.1 f).mp hf).1; omega
      have a0 := lc_snoc (x2 := some (.int (0 + (j : Int)))) (m := .int many) 0 l0
      have a1 := lc_snoc (x2 := some (.int (0 + (j : Int)))) (m := .int many) 1 l0
      have hb : 2 ^ j ≤ 64 := by
        have : j ≤ 6 := by omega
        calc 2 ^ j ≤ 2 ^ 6 := Nat.pow_le_pow_right (by decide) this
          _ = 64 := by decide
      have cat : gCat (.lst ((fs.map (· ++ [(0 : Int)])).map tupDI)) (.lst ((fs.map (· ++ [(1 : Int)])).map tupDI)) = some (.lst ((fs.map (· ++ [0]) ++ fs.map (· ++ [1])).map tupDI)) := by
        simp only [gCat, List.length_map, h.2, List.map_append]
        rw [if_pos (by omega)]
      have hne : ∀ g ∈ fs.map (· ++ [(0 : Int)]) ++ fs.map (· ++ [1]), g ≠ [] := fun g hg => by
        rcases List.mem_append.mp hg with z | z <;> obtain ⟨f, _, rfl⟩ := List.mem_map.mp z <;> simp
      have hpos : fs ≠ [] := fun z => by
        have := h.2
        rw [z] at this
        have := Nat.two_pow_pos j
        simp at *
        omega
      have srt : gSortedA [.lst ((fs.map (· ++ [(0 : Int)]) ++ fs.map (· ++ [1])).map tupDI)] = some (.lst (((fs.map (· ++ [0]) ++ fs.map (· ++ [1])).mergeSort leI).map tupDI)) := by
        have hi : intsOfD ((fs.map (· ++ [(0 : Int)]) ++ fs.map (· ++ [1])).map tupDI) = none := by
          cases fs with
          | nil => exact absurd rfl hpos
          | cons f fs => rfl
        simp only [gSortedA]
        rw [if_pos (by simp only [List.length_map, List.length_append, h.2]; omega), hi, tupsOfD_tups _ hne]
        rfl
      refine ⟨_, _, S0, rfl, ?_, _, some (.int (0 + (j : Int))), rfl, rfl, fls_step h (List.mergeSort_perm _ leI)⟩
      simp only [List.set_cons_succ, List.set_cons_zero, flB, asgS, cbM, consA, binM, bindM, a0, a1, ofO, cat, nilA, srt])
  rw [Nat.zero_add, hlen] at h2
  refine ⟨fs, ?_, h2⟩
  have hG : G__law_fillings [.int many] = endP (seqS (asgS 1 (lstM (consA (tupM nilA) nilA))) (seqS (forR (setN 2) (consA (varM 0) nilA) flB) (retS (varM 1))) (startE 4 [.int many]) S0) := rfl
  have s1 : startE 4 [.int many] = [some (.int many), none, none, none] := rfl
  have hr : rangeOf [.int many] = some (intsD 0 many.toNat) := by
    simp only [rangeOf]
    rw [if_pos (by omega)]
  rw [hG]
  simp only [s1, seqS, asgS, lstM, consA, tupM, nilA, bindM, List.length_nil, List.length_cons, Nat.zero_le, if_true, Nat.reduceAdd, Nat.reduceLeDiff, List.set_cons_succ, List.set_cons_zero, forR, varM, List.getElem?_cons_zero, hr, h1, retS, List.getElem?_cons_succ, endP]
end My
namespace My
open PySem PySem.Spec L2 VS
section
variable {many : Int} {f : List Int}
theorem gAbs_int (l : Int) : gAbs [.int l] = some (.int (absI l)) := rfl
theorem wor_ok {l : Int} (h : InL f.length l) : G_worth_of [.int l, tupDI f] = .ok (.int (wv f l)) := by
  have hs : startE 3 [.int l, tupDI f] = [some (.int l), some (tupDI f), none] := rfl
  have h1 := h.1
  have h2 := h.2
  have ea := absI_nat l
  have e := ix_f f (absI l - 1) (by omega) (by omega)
  unfold G_worth_of g_worth_of
  by_cases hp : 0 < l
  · have : absI l = l := by omega
    rw [this] at e
    simp only [startE, List.map_cons, List.map_nil, Nat.reduceSub, List.replicate_succ, List.replicate_zero, seqS, ifS, retS, asgS, dropS, nextS, retN, unpS, parS, par3S, parOS, appS, setA, popM, nxSet, nxUnp, appPopM, forS, forR, forE, raiseS, varM, cM, unM, binM, chM, tupM, lstM, nilA, consA, testM, andT, orT, notT, andV, orV, notV, ifM, cbM, callP, callS, bindM, ofO, liftP, endP, endS, get2M, gGet2, VS.keyD, setAll, setN, setT, wipeE, List.getElem?_cons_zero, List.getElem?_cons_succ, List.set_cons_zero, List.set_cons_succ, List.append_nil, List.cons_append, List.nil_append, List.length_cons, List.length_nil, Nat.zero_add, Nat.reduceAdd, Nat.reduceLeDiff, Nat.zero_le, if_true, if_false, Bool.false_eq_true, Bool.not_true, Bool.not_false, gII, gAdd, gEq_int, gNe_int, reduceCtorEq, hs, gAbs_int, this, e, hp, decide_true, wv]
  · have : (absI l - 1).toNat = (0 - l - 1).toNat := by omega
    rw [this] at e
    simp only [startE, List.map_cons, List.map_nil, Nat.reduceSub, List.replicate_succ, List.replicate_zero, seqS, ifS, retS, asgS, dropS, nextS, retN, unpS, parS, par3S, parOS, appS, setA, popM, nxSet, nxUnp, appPopM, forS, forR, forE, raiseS, varM, cM, unM, binM, chM, tupM, lstM, nilA, consA, testM, andT, orT, notT, andV, orV, notV, ifM, cbM, callP, callS, bindM, ofO, liftP, endP, endS, get2M, gGet2, VS.keyD, setAll, setN, setT, wipeE, List.getElem?_cons_zero, List.getElem?_cons_succ, List.set_cons_zero, List.set_cons_succ, List.append_nil, List.cons_append, List.nil_append, List.length_cons, List.length_nil, Nat.zero_add, Nat.reduceAdd, Nat.reduceLeDiff, Nat.zero_le, if_true, if_false, Bool.false_eq_true, Bool.not_true, Bool.not_false, gII, gAdd, gEq_int, gNe_int, reduceCtorEq, hs, gAbs_int, e, hp, decide_false, wv]
theorem sum_at_ok {ts : Trm} (h : ∀ p ∈ ts, InL f.length p.2) : G_sum_at [.tup (ts.map dPair), tupDI f] = .ok (.int (cm ts f)) := by
  have hs : startE 4 [.tup (ts.map dPair), tupDI f] = [some (.tup (ts.map dPair)), some (tupDI f), none, none] := rfl
  have cl := comp_map (set := setT [2, 3]) (test := t_sum_at_1) (elt := varM 2) (env0 := [some (.tup (ts.map dPair)), some (tupDI f), none, none]) (S := S0) dPair (fun p => wv f p.2 == 1) (fun p => D.int p.1) ts fun p hp => by
    refine ⟨[some (.tup (ts.map dPair)), some (tupDI f), some (.int p.1), some (.int p.2)], rfl, ?_, fun _ => rfl⟩
    simp only [startE, List.map_cons, List.map_nil, Nat.reduceSub, List.replicate_succ, List.replicate_zero, seqS, ifS, retS, asgS, dropS, nextS, retN, unpS, parS, par3S, parOS, appS, setA, popM, nxSet, nxUnp, appPopM, forS, forR, forE, raiseS, varM, cM, unM, binM, chM, tupM, lstM, nilA, consA, testM, andT, orT, notT, andV, orV, notV, ifM, cbM, callP, callS, bindM, ofO, liftP, endP, endS, get2M, gGet2, VS.keyD, setAll, setN, setT, wipeE, List.getElem?_cons_zero, List.getElem?_cons_succ, List.set_cons_zero, List.set_cons_succ, List.append_nil, List.cons_append, List.nil_append, List.length_cons, List.length_nil, Nat.zero_add, Nat.reduceAdd, Nat.reduceLeDiff, Nat.zero_le, if_true, if_false, Bool.false_eq_true, Bool.not_true, Bool.not_false, gII, gAdd, gEq_int, gNe_int, reduceCtorEq, t_sum_at_1, wor_ok (h p hp)]
  have gs : gSum [.lst ((ts.filter fun p => wv f p.2 == 1).map fun p => D.int p.1)] = some (.int (cm ts f)) := by
    have := gSum_ints ((ts.filter fun p => wv f p.2 == 1).map (·.1))
    rw [List.map_map] at this
    exact this
  unfold G_sum_at g_sum_at
  simp only [startE, List.map_cons, List.map_nil, Nat.reduceSub, List.replicate_succ, List.replicate_zero, seqS, ifS, retS, asgS, dropS, nextS, retN, unpS, parS, par3S, parOS, appS, setA, popM, nxSet, nxUnp, appPopM, forS, forR, forE, raiseS, varM, cM, unM, binM, chM, tupM, lstM, nilA, consA, testM, andT, orT, notT, andV, orV, notV, ifM, cbM, callP, callS, bindM, ofO, liftP, endP, endS, get2M, gGet2, VS.keyD, setAll, setN, setT, wipeE, List.getElem?_cons_zero, List.getElem?_cons_succ, List.set_cons_zero, List.set_cons_succ, List.append_nil, List.cons_append, List.nil_append, List.length_cons, List.length_nil, Nat.zero_add, Nat.reduceAdd, Nat.reduceLeDiff, Nat.zero_le, if_true, if_false, Bool.false_eq_true, Bool.not_true, Bool.not_false, gII, gAdd, gEq_int, gNe_int, reduceCtorEq, hs, lcM, cl, gs]
theorem holds_at_ok {r : Trm × Int} (h : ∀ p ∈ r.1, InL f.length p.2) : G_holds_at [dRow r, tupDI f] = .ok (.bl (decide (r.2 ≤ cm r.1 f))) := by
  have hs : startE 2 [dRow r, tupDI f] = [some (dRow r), some (tupDI f)] := rfl
  have i0 : gIxA (dRow r) (.int 0) = some (.tup (r.1.map dPair)) := rfl
  have i1 : gIxA (dRow r) (.int 1) = some (.int r.2) := rfl
  unfold G_holds_at g_holds_at
  simp only [startE, List.map_cons, List.map_nil, Nat.reduceSub, List.replicate_succ, List.replicate_zero, seqS, ifS, retS, asgS, dropS, nextS, retN, unpS, parS, par3S, parOS, appS, setA, popM, nxSet, nxUnp, appPopM, forS, forR, forE, raiseS, varM, cM, unM, binM, chM, tupM, lstM, nilA, consA, testM, andT, orT, notT, andV, orV, notV, ifM, cbM, callP, callS, bindM, ofO, liftP, endP, endS, get2M, gGet2, VS.keyD, setAll, setN, setT, wipeE, List.getElem?_cons_zero, List.getElem?_cons_succ, List.set_cons_zero, List.set_cons_succ, List.append_nil, List.cons_append, List.nil_append, List.length_cons, List.length_nil, Nat.zero_add, Nat.reduceAdd, Nat.reduceLeDiff, Nat.zero_le, if_true, if_false, Bool.false_eq_true, Bool.not_true, Bool.not_false, gII, gAdd, gEq_int, gNe_int, reduceCtorEq, hs, i0, i1, sum_at_ok h]
theorem is_filling_ok (hm : 0 ≤ many) (hf : FlOk many.toNat f) : G_is_filling_of [.int many, tupDI f] = .ok (.bl true) := by
  have hs : startE 3 [.int many, .tup (f.map D.int)] = [some (.int many), some (.tup (f.map D.int)), none] := rfl
  have cl := comp_all (set := setN 2) (elt := e_is_filling_of_2) (env0 := [some (.int many), some (.tup (f.map D.int)), none]) (S := S0) D.int (fun _ => D.bl true) f fun x hx => by
    refine ⟨[some (.int many), some (.tup (f.map D.int)), some (.int x)], rfl, ?_⟩
    have : (decide ((0 : Int) ≤ x) && decide (x ≤ 1)) = true := by rcases hf.2 x hx with z | z <;> rw [z] <;> rfl
    simp only [startE, List.map_cons, List.map_nil, Nat.reduceSub, List.replicate_succ, List.replicate_zero, seqS, ifS, retS, asgS, dropS, nextS, retN, unpS, parS, par3S, parOS, appS, setA, popM, nxSet, nxUnp, appPopM, forS, forR, forE, raiseS, varM, cM, unM, binM, chM, tupM, lstM, nilA, consA, testM, andT, orT, notT, andV, orV, notV, ifM, cbM, callP, callS, bindM, ofO, liftP, endP, endS, get2M, gGet2, VS.keyD, setAll, setN, setT, wipeE, List.getElem?_cons_zero, List.getElem?_cons_succ, List.set_cons_zero, List.set_cons_succ, List.append_nil, List.cons_append, List.nil_append, List.length_cons, List.length_nil, Nat.zero_add, Nat.reduceAdd, Nat.reduceLeDiff, Nat.zero_le, if_true, if_false, Bool.false_eq_true, Bool.not_true, Bool.not_false, gII, gAdd, gEq_int, gNe_int, reduceCtorEq, e_is_filling_of_2, btw_int, this]
  have ga : gAll [.lst (f.map fun _ => D.bl true)] = some (.bl true) := by
    have h1 : toBls (f.map fun _ => D.bl true) = some (f.map fun _ => true) := by
      clear cl hs hf
      induction f with
      | nil => rfl
      | cons x f ih => simp [toBls, ih]
    simp [gAll, h1]
  have hl : (((f.map D.int).length : Int) == many) = true := by rw [List.length_map, hf.1]; simp; omega
  have hl2 : ((f.length : Int) == many) = true := by rw [hf.1]; simp; omega
  unfold G_is_filling_of g_is_filling_of t_is_filling_of_1
  simp only [startE, List.map_cons, List.map_nil, Nat.reduceSub, List.replicate_succ, List.replicate_zero, seqS, ifS, retS, asgS, dropS, nextS, retN, unpS, parS, par3S, parOS, appS, setA, popM, nxSet, nxUnp, appPopM, forS, forR, forE, raiseS, varM, cM, unM, binM, chM, tupM, lstM, nilA, consA, testM, andT, orT, notT, andV, orV, notV, ifM, cbM, callP, callS, bindM, ofO, liftP, endP, endS, get2M, gGet2, VS.keyD, setAll, setN, setT, wipeE, List.getElem?_cons_zero, List.getElem?_cons_succ, List.set_cons_zero, List.set_cons_succ, List.append_nil, List.cons_append, List.nil_append, List.length_cons, List.length_nil, Nat.zero_add, Nat.reduceAdd, Nat.reduceLeDiff, Nat.zero_le, if_true, if_false, Bool.false_eq_true, Bool.not_true, Bool.not_false, gII, gAdd, gEq_int, gNe_int, reduceCtorEq, hs, tupDI, gIs, isKb, gLenA, List.length_map, hl2, lcM, cl, ga]
theorem check_filling_ok (hm : 0 ≤ many) (hf : FlOk many.toNat f) : G_check_filling [.int many, tupDI f] = .ok .non := by
  have hs : startE 2 [.int many, tupDI f] = [some (.int many), some (tupDI f)] := rfl
  unfold G_check_filling g_check_filling t_check_filling_1
  simp only [startE, List.map_cons, List.map_nil, Nat.reduceSub, List.replicate_succ, List.replicate_zero, seqS, ifS, retS, asgS, dropS, nextS, retN, unpS, parS, par3S, parOS, appS, setA, popM, nxSet, nxUnp, appPopM, forS, forR, forE, raiseS, varM, cM, unM, binM, chM, tupM, lstM, nilA, consA, testM, andT, orT, notT, andV, orV, notV, ifM, cbM, callP, callS, bindM, ofO, liftP, endP, endS, get2M, gGet2, VS.keyD, setAll, setN, setT, wipeE, List.getElem?_cons_zero, List.getElem?_cons_succ, List.set_cons_zero, List.set_cons_succ, List.append_nil, List.cons_append, List.nil_append, List.length_cons, List.length_nil, Nat.zero_add, Nat.reduceAdd, Nat.reduceLeDiff, Nat.zero_le, if_true, if_false, Bool.false_eq_true, Bool.not_true, Bool.not_false, gII, gAdd, gEq_int, gNe_int, reduceCtorEq, hs, is_filling_ok hm hf]
theorem check_row_ok {r : Trm × Int} (hr : OkR many r) : G_check_row [.int many, dRow r] = .ok .non := by
  rw [row_check (okR_is hr), if_pos rfl]
theorem check_lit_ok {l : Int} (h : litOk many l = true) : G_check_literal [.int many, .int l] = .ok .non := by
  have hs : startE 2 [.int many, .int l] = [some (.int many), some (.int l)] := rfl
  unfold G_check_literal g_check_literal t_check_literal_1
  simp only [startE, List.map_cons, List.map_nil, Nat.reduceSub, List.replicate_succ, List.replicate_zero, seqS, ifS, retS, asgS, dropS, nextS, retN, unpS, parS, par3S, parOS, appS, setA, popM, nxSet, nxUnp, appPopM, forS, forR, forE, raiseS, varM, cM, unM, binM, chM, tupM, lstM, nilA, consA, testM, andT, orT, notT, andV, orV, notV, ifM, cbM, callP, callS, bindM, ofO, liftP, endP, endS, get2M, gGet2, VS.keyD, setAll, setN, setT, wipeE, List.getElem?_cons_zero, List.getElem?_cons_succ, List.set_cons_zero, List.set_cons_succ, List.append_nil, List.cons_append, List.nil_append, List.length_cons, List.length_nil, Nat.zero_add, Nat.reduceAdd, Nat.reduceLeDiff, Nat.zero_le, if_true, if_false, Bool.false_eq_true, Bool.not_true, Bool.not_false, gII, gAdd, gEq_int, gNe_int, reduceCtorEq, hs, lit_int, h]
theorem inL_of {r : Trm × Int} (hr : OkR many r) (hf : FlOk many.toNat f) : ∀ p ∈ r.1, InL f.length p.2 := fun p hp => by rw [hf.1]; exact hr.t.inL p hp
theorem p_holds_ok {r : Trm × Int} (hm : 1 ≤ many) (hm2 : many ≤ 600) (hr : OkR many r) (hf : FlOk many.toNat f) : G_holds [.int many, dRow r, tupDI f] = .ok (.bl (decide (r.2 ≤ cm r.1 f))) := by
  have hs : startE 3 [.int many, dRow r, tupDI f] = [some (.int many), some (dRow r), some (tupDI f)] := rfl
  unfold G_holds g_holds
  simp only [startE, List.map_cons, List.map_nil, Nat.reduceSub, List.replicate_succ, List.replicate_zero, seqS, ifS, retS, asgS, dropS, nextS, retN, unpS, parS, par3S, parOS, appS, setA, popM, nxSet, nxUnp, appPopM, forS, forR, forE, raiseS, varM, cM, unM, binM, chM, tupM, lstM, nilA, consA, testM, andT, orT, notT, andV, orV, notV, ifM, cbM, callP, callS, bindM, ofO, liftP, endP, endS, get2M, gGet2, VS.keyD, setAll, setN, setT, wipeE, List.getElem?_cons_zero, List.getElem?_cons_succ, List.set_cons_zero, List.set_cons_succ, List.append_nil, List.cons_append, List.nil_append, List.length_cons, List.length_nil, Nat.zero_add, Nat.reduceAdd, Nat.reduceLeDiff, Nat.zero_le, if_true, if_false, Bool.false_eq_true, Bool.not_true, Bool.not_false, gII, gAdd, gEq_int, gNe_int, reduceCtorEq, hs, many_good hm hm2, check_row_ok hr, check_filling_ok (by omega) hf, holds_at_ok (inL_of hr hf)]
end
end My
namespace My
open PySem PySem.Spec L2 VS
inductive Im where
  | lit (l : Int) | yes | no
deriving DecidableEq
def dIm : Im → D
  | .lit l => .int l
  | .yes => .str "yes"
  | .no => .str "no"
def dWit (W : List Im) : D := .tup (W.map dIm)
def opI : Im → Im
  | .lit l => .lit (-l)
  | .yes => .no
  | .no => .yes
def imOf (W : List Im) (l : Int) : Im := if 0 < l then W.getD (absI l - 1).toNat .no else opI (W.getD (absI l - 1).toNat .no)
structure OkW (many : Int) (W : List Im) : Prop where
  len : W.length = many.toNat
  im : ∀ l, Im.lit l ∈ W → 1 ≤ l.natAbs ∧ (l.natAbs : Int) ≤ many
def wvI (f : List Int) : Im → Int
  | .lit l => wv f l
  | .yes => 1
  | .no => 0
def ledF (W : List Im) (f : List Int) : List Int := W.map (wvI f)
def ledI (W : List Im) : Im → Im
  | .lit l => imOf W l
  | .yes => .yes
  | .no => .no
def isLit : Im → Bool
  | .lit _ => true
  | _ => false
theorem shS_yes : SeqAt.shaped (.str "yes") = true := by decide +kernel
theorem shS_no : SeqAt.shaped (.str "no") = true := by decide +kernel
theorem gEq_str {x y : Str} (hx : SeqAt.shaped (.str x) = true) (hy : SeqAt.shaped (.str y) = true) : gEq (.str x) (.str y) = some (.bl (x == y)) := by
  unfold gEq eqD eqD0
  simp only [eqS, toPy, hx, hy, Bool.and_self, if_true, Option.map_some, PyData.eqv]
theorem gEq_ints {i : Int} {y : Str} (hy : SeqAt.shaped (.str y) = true) : gEq (.int i) (.str y) = some (.bl false) := by
  unfold gEq eqD eqD0
  simp only [eqS, toPy, hy, show SeqAt.shaped (.int i) = true from rfl, Bool.and_self, if_true, Option.map_some, PyData.eqv]
theorem gNe_Eq {d e : D} {b : Bool} (h : gEq d e = some (.bl b)) : gNe d e = some (.bl (!b)) := by
  unfold gEq at h
  unfold gNe
  cases hq : eqD d e with
  | none => rw [hq] at h; cases h
  | some k => rw [hq] at h; cases h; rfl
theorem yes_no : (("yes" : Str) == ("no" : Str)) = false := by decide +kernel
theorem no_yes : (("no" : Str) == ("yes" : Str)) = false := by decide +kernel
theorem eq_yes (i : Im) : gEq (dIm i) (.str "yes") = some (.bl (i == .yes)) := by
  cases i with
  | lit l => exact gEq_ints shS_yes
  | yes => rw [dIm, gEq_str shS_yes shS_yes]; simp
  | no => rw [dIm, gEq_str shS_no shS_yes, no_yes]; rfl
theorem eq_no (i : Im) : gEq (dIm i) (.str "no") = some (.bl (i == .no)) := by
  cases i with
  | lit l => exact gEq_ints shS_no
  | yes => rw [dIm, gEq_str shS_yes shS_no, yes_no]; rfl
  | no => rw [dIm, gEq_str shS_no shS_no]; simp
theorem ne_no (i : Im) : gNe (dIm i) (.str "no") = some (.bl (!(i == .no))) := gNe_Eq (eq_no i)
theorem in_yn (i : Im) : gInX (dIm i) (.tup [.str "yes", .str "no"]) = some (.bl (!isLit i)) := by cases i <;> rfl
theorem is_str (i : Im) : gIs .str (dIm i) = some (.bl (!isLit i)) := by cases i <;> rfl
theorem opp_im (i : Im) : G__opposite_image [dIm i] = .ok (dIm (opI i)) := by
  have hs : startE 1 [dIm i] = [some (dIm i)] := rfl
  unfold G__opposite_image g__opposite_image
  have e1 := eq_yes i
  have e2 := eq_no i
  cases i with
  | lit l =>
    simp only [startE, List.map_cons, List.map_nil, Nat.reduceSub, List.replicate_succ, List.replicate_zero, seqS, ifS, retS, asgS, dropS, nextS, retN, unpS, parS, par3S, parOS, appS, setA, popM, nxSet, nxUnp, appPopM, forS, forR, forE, raiseS, varM, cM, unM, binM, chM, tupM, lstM, nilA, consA, testM, andT, orT, notT, andV, orV, notV, ifM, cbM, callP, callS, bindM, ofO, liftP, endP, endS, get2M, gGet2, VS.keyD, setAll, setN, setT, wipeE, List.getElem?_cons_zero, List.getElem?_cons_succ, List.set_cons_zero, List.set_cons_succ, List.append_nil, List.cons_append, List.nil_append, List.length_cons, List.length_nil, Nat.zero_add, Nat.reduceAdd, Nat.reduceLeDiff, Nat.zero_le, if_true, if_false, Bool.false_eq_true, Bool.not_true, Bool.not_false, gII, gAdd, gEq_int, gNe_int, reduceCtorEq, hs, e1, e2, show ((Im.lit l) == Im.yes) = false from rfl, show ((Im.lit l) == Im.no) = false from rfl]
    rfl
  | yes =>
    simp only [dIm] at e1 e2
    simp only [startE, List.map_cons, List.map_nil, Nat.reduceSub, List.replicate_succ, List.replicate_zero, seqS, ifS, retS, asgS, dropS, nextS, retN, unpS, parS, par3S, parOS, appS, setA, popM, nxSet, nxUnp, appPopM, forS, forR, forE, raiseS, varM, cM, unM, binM, chM, tupM, lstM, nilA, consA, testM, andT, orT, notT, andV, orV, notV, ifM, cbM, callP, callS, bindM, ofO, liftP, endP, endS, get2M, gGet2, VS.keyD, setAll, setN, setT, wipeE, List.getElem?_cons_zero, List.getElem?_cons_succ, List.set_cons_zero, List.set_cons_succ, List.append_nil, List.cons_append, List.nil_append, List.length_cons, List.length_nil, Nat.zero_add, Nat.reduceAdd, Nat.reduceLeDiff, Nat.zero_le, if_true, if_false, Bool.false_eq_true, Bool.not_true, Bool.not_false, gII, gAdd, gEq_int, gNe_int, reduceCtorEq, e1, e2, show (Im.yes == Im.yes) = true from rfl, opI, dIm]
  | no =>
    simp only [dIm] at e1 e2
    simp only [startE, List.map_cons, List.map_nil, Nat.reduceSub, List.replicate_succ, List.replicate_zero, seqS, ifS, retS, asgS, dropS, nextS, retN, unpS, parS, par3S, parOS, appS, setA, popM, nxSet, nxUnp, appPopM, forS, forR, forE, raiseS, varM, cM, unM, binM, chM, tupM, lstM, nilA, consA, testM, andT, orT, notT, andV, orV, notV, ifM, cbM, callP, callS, bindM, ofO, liftP, endP, endS, get2M, gGet2, VS.keyD, setAll, setN, setT, wipeE, List.getElem?_cons_zero, List.getElem?_cons_succ, List.set_cons_zero, List.set_cons_succ, List.append_nil, List.cons_append, List.nil_append, List.length_cons, List.length_nil, Nat.zero_add, Nat.reduceAdd, Nat.reduceLeDiff, Nat.zero_le, if_true, if_false, Bool.false_eq_true, Bool.not_true, Bool.not_false, gII, gAdd, gEq_int, gNe_int, reduceCtorEq, e1, e2, show (Im.no == Im.yes) = false from rfl, show (Im.no == Im.no) = true from rfl, opI, dIm]
theorem pl_im (i : Im) : plD 0 (dIm i) = true := by
  cases i with
  | lit l => rfl
  | yes => simp only [dIm, plD]; decide +kernel
  | no => simp only [dIm, plD]; decide +kernel
theorem pl_wit (W : List Im) : plD 1 (dWit W) = true := by
  unfold dWit
  simp only [plD]
  exact plL_map fun x _ => pl_im x
section
variable {many : Int} {W U : List Im} {f : List Int}
theorem ix_w (i : Int) (h0 : 0 ≤ i) (h1 : i < W.length) : gIxA (dWit W) (.int i) = some (dIm (W.getD i.toNat .no)) := by
  have hlt : i.toNat < W.length := by omega
  simp only [dWit, gIxA, atI, ixN, if_pos h0, List.length_map, if_pos h1, Option.bind_some, List.getElem?_map, List.getElem?_eq_getElem hlt, Option.map_some, List.getD_eq_getElem?_getD, Option.getD_some]
theorem image_ok {l : Int} (h : InL W.length l) : G_image_of [dWit W, .int l] = .ok (dIm (imOf W l)) := by
  have hs : startE 3 [dWit W, .int l] = [some (dWit W), some (.int l), none] := rfl
  have h1 := h.1
  have h2 := h.2
  have ea := absI_nat l
  have e := ix_w (W := W) (absI l - 1) (by omega) (by omega)
  unfold G_image_of g_image_of
  by_cases hp : 0 < l
  · simp only [startE, List.map_cons, List.map_nil, Nat.reduceSub, List.replicate_succ, List.replicate_zero, seqS, ifS, retS, asgS, dropS, nextS, retN, unpS, parS, par3S, parOS, appS, setA, popM, nxSet, nxUnp, appPopM, forS, forR, forE, raiseS, varM, cM, unM, binM, chM, tupM, lstM, nilA, consA, testM, andT, orT, notT, andV, orV, notV, ifM, cbM, callP, callS, bindM, ofO, liftP, endP, endS, get2M, gGet2, VS.keyD, setAll, setN, setT, wipeE, List.getElem?_cons_zero, List.getElem?_cons_succ, List.set_cons_zero, List.set_cons_succ, List.append_nil, List.cons_append, List.nil_append, List.length_cons, List.length_nil, Nat.zero_add, Nat.reduceAdd, Nat.reduceLeDiff, Nat.zero_le, if_true, if_false, Bool.false_eq_true, Bool.not_true, Bool.not_false, gII, gAdd, gEq_int, gNe_int, reduceCtorEq, hs, gAbs_int, e, hp, decide_true, imOf]
  · simp only [startE, List.map_cons, List.map_nil, Nat.reduceSub, List.replicate_succ, List.replicate_zero, seqS, ifS, retS, asgS, dropS, nextS, retN, unpS, parS, par3S, parOS, appS, setA, popM, nxSet, nxUnp, appPopM, forS, forR, forE, raiseS, varM, cM, unM, binM, chM, tupM, lstM, nilA, consA, testM, andT, orT, notT, andV, orV, notV, ifM, cbM, callP, callS, bindM, ofO, liftP, endP, endS, get2M, gGet2, VS.keyD, setAll, setN, setT, wipeE, List.getElem?_cons_zero, List.getElem?_cons_succ, List.set_cons_zero, List.set_cons_succ, List.append_nil, List.cons_append, List.nil_append, List.length_cons, List.length_nil, Nat.zero_add, Nat.reduceAdd, Nat.reduceLeDiff, Nat.zero_le, if_true, if_false, Bool.false_eq_true, Bool.not_true, Bool.not_false, gII, gAdd, gEq_int, gNe_int, reduceCtorEq, hs, gAbs_int, e, hp, decide_false, imOf, opp_im]
theorem woi_ok {i : Im} (h : ∀ l, i = .lit l → InL f.length l) : G__worth_of_image [dIm i, tupDI f] = .ok (.int (wvI f i)) := by
  have hs : startE 2 [dIm i, tupDI f] = [some (dIm i), some (tupDI f)] := rfl
  unfold G__worth_of_image g__worth_of_image
  cases i with
  | lit l =>
    have e1 := eq_yes (.lit l)
    have e2 := eq_no (.lit l)
    have e3 := wor_ok (h l rfl)
    simp only [dIm] at e1 e2
    simp only [startE, List.map_cons, List.map_nil, Nat.reduceSub, List.replicate_succ, List.replicate_zero, seqS, ifS, retS, asgS, dropS, nextS, retN, unpS, parS, par3S, parOS, appS, setA, popM, nxSet, nxUnp, appPopM, forS, forR, forE, raiseS, varM, cM, unM, binM, chM, tupM, lstM, nilA, consA, testM, andT, orT, notT, andV, orV, notV, ifM, cbM, callP, callS, bindM, ofO, liftP, endP, endS, get2M, gGet2, VS.keyD, setAll, setN, setT, wipeE, List.getElem?_cons_zero, List.getElem?_cons_succ, List.set_cons_zero, List.set_cons_succ, List.append_nil, List.cons_append, List.nil_append, List.length_cons, List.length_nil, Nat.zero_add, Nat.reduceAdd, Nat.reduceLeDiff, Nat.zero_le, if_true, if_false, Bool.false_eq_true, Bool.not_true, Bool.not_false, gII, gAdd, gEq_int, gNe_int, reduceCtorEq, e1, e2, show ((Im.lit l) == Im.yes) = false from rfl, show ((Im.lit l) == Im.no) = false from rfl, dIm, e3, wvI]
  | yes =>
    have e1 := eq_yes .yes
    simp only [startE, List.map_cons, List.map_nil, Nat.reduceSub, List.replicate_succ, List.replicate_zero, seqS, ifS, retS, asgS, dropS, nextS, retN, unpS, parS, par3S, parOS, appS, setA, popM, nxSet, nxUnp, appPopM, forS, forR, forE, raiseS, varM, cM, unM, binM, chM, tupM, lstM, nilA, consA, testM, andT, orT, notT, andV, orV, notV, ifM, cbM, callP, callS, bindM, ofO, liftP, endP, endS, get2M, gGet2, VS.keyD, setAll, setN, setT, wipeE, List.getElem?_cons_zero, List.getElem?_cons_succ, List.set_cons_zero, List.set_cons_succ, List.append_nil, List.cons_append, List.nil_append, List.length_cons, List.length_nil, Nat.zero_add, Nat.reduceAdd, Nat.reduceLeDiff, Nat.zero_le, if_true, if_false, Bool.false_eq_true, Bool.not_true, Bool.not_false, gII, gAdd, gEq_int, gNe_int, reduceCtorEq, hs, e1, show (Im.yes == Im.yes) = true from rfl, wvI]
  | no =>
    have e1 := eq_yes .no
    have e2 := eq_no .no
    simp only [startE, List.map_cons, List.map_nil, Nat.reduceSub, List.replicate_succ, List.replicate_zero, seqS, ifS, retS, asgS, dropS, nextS, retN, unpS, parS, par3S, parOS, appS, setA, popM, nxSet, nxUnp, appPopM, forS, forR, forE, raiseS, varM, cM, unM, binM, chM, tupM, lstM, nilA, consA, testM, andT, orT, notT, andV, orV, notV, ifM, cbM, callP, callS, bindM, ofO, liftP, endP, endS, get2M, gGet2, VS.keyD, setAll, setN, setT, wipeE, List.getElem?_cons_zero, List.getElem?_cons_succ, List.set_cons_zero, List.set_cons_succ, List.append_nil, List.cons_append, List.nil_append, List.length_cons, List.length_nil, Nat.zero_add, Nat.reduceAdd, Nat.reduceLeDiff, Nat.zero_le, if_true, if_false, Bool.false_eq_true, Bool.not_true, Bool.not_false, gII, gAdd, gEq_int, gNe_int, reduceCtorEq, hs, e1, e2, show (Im.no == Im.yes) = false from rfl, show (Im.no == Im.no) = true from rfl, wvI]
theorem okW_in (hW : OkW many W) (hf : FlOk many.toNat f) {i : Im} (hi : i ∈ W) : ∀ l, i = .lit l → InL f.length l := fun l e => by
  subst e
  have := hW.im l hi
  rw [hf.1]
  exact ⟨this.1, by omega⟩
theorem gTuple_lst (ds : List D) : gTuple [.lst ds] = some (.tup ds) := rfl
theorem filling_led_ok (hW : OkW many W) (hf : FlOk many.toNat f) : G_filling_led [dWit W, tupDI f] = .ok (tupDI (ledF W f)) := by
  have hs : startE 3 [.tup (W.map dIm), tupDI f] = [some (.tup (W.map dIm)), some (tupDI f), none] := rfl
  have cl := comp_all (set := setN 2) (elt := e_filling_led_1) (env0 := [some (.tup (W.map dIm)), some (tupDI f), none]) (S := S0) dIm (fun i => D.int (wvI f i)) W fun i hi => by
    refine ⟨[some (.tup (W.map dIm)), some (tupDI f), some (dIm i)], rfl, ?_⟩
    simp only [startE, List.map_cons, List.map_nil, Nat.reduceSub, List.replicate_succ, List.replicate_zero, seqS, ifS, retS, asgS, dropS, nextS, retN, unpS, parS, par3S, parOS, appS, setA, popM, nxSet, nxUnp, appPopM, forS, forR, forE, raiseS, varM, cM, unM, binM, chM, tupM, lstM, nilA, consA, testM, andT, orT, notT, andV, orV, notV, ifM, cbM, callP, callS, bindM, ofO, liftP, endP, endS, get2M, gGet2, VS.keyD, setAll, setN, setT, wipeE, List.getElem?_cons_zero, List.getElem?_cons_succ, List.set_cons_zero, List.set_cons_succ, List.append_nil, List.cons_append, List.nil_append, List.length_cons, List.length_nil, Nat.zero_add, Nat.reduceAdd, Nat.reduceLeDiff, Nat.zero_le, if_true, if_false, Bool.false_eq_true, Bool.not_true, Bool.not_false, gII, gAdd, gEq_int, gNe_int, reduceCtorEq, e_filling_led_1, woi_ok (okW_in hW hf hi)]
  unfold G_filling_led g_filling_led
  simp only [startE, List.map_cons, List.map_nil, Nat.reduceSub, List.replicate_succ, List.replicate_zero, seqS, ifS, retS, asgS, dropS, nextS, retN, unpS, parS, par3S, parOS, appS, setA, popM, nxSet, nxUnp, appPopM, forS, forR, forE, raiseS, varM, cM, unM, binM, chM, tupM, lstM, nilA, consA, testM, andT, orT, notT, andV, orV, notV, ifM, cbM, callP, callS, bindM, ofO, liftP, endP, endS, get2M, gGet2, VS.keyD, setAll, setN, setT, wipeE, List.getElem?_cons_zero, List.getElem?_cons_succ, List.set_cons_zero, List.set_cons_succ, List.append_nil, List.cons_append, List.nil_append, List.length_cons, List.length_nil, Nat.zero_add, Nat.reduceAdd, Nat.reduceLeDiff, Nat.zero_le, if_true, if_false, Bool.false_eq_true, Bool.not_true, Bool.not_false, gII, gAdd, gEq_int, gNe_int, reduceCtorEq, dWit, hs, lcM, cl, gTuple_lst]
  rw [show tupDI (ledF W f) = .tup ((W.map (wvI f)).map D.int) from rfl, List.map_map]
  rfl
theorem opI_opI (i : Im) : opI (opI i) = i := by cases i <;> simp [opI]
theorem ledI_ok {i : Im} (h : ∀ l, i = .lit l → InL W.length l) : G__led_image [dWit W, dIm i] = .ok (dIm (ledI W i)) := by
  have hs : startE 2 [dWit W, dIm i] = [some (dWit W), some (dIm i)] := rfl
  unfold G__led_image g__led_image t__led_image_1
  cases i with
  | lit l =>
    have e1 := in_yn (.lit l)
    have e3 := image_ok (h l rfl)
    simp only [dIm] at e1
    simp only [startE, List.map_cons, List.map_nil, Nat.reduceSub, List.replicate_succ, List.replicate_zero, seqS, ifS, retS, asgS, dropS, nextS, retN, unpS, parS, par3S, parOS, appS, setA, popM, nxSet, nxUnp, appPopM, forS, forR, forE, raiseS, varM, cM, unM, binM, chM, tupM, lstM, nilA, consA, testM, andT, orT, notT, andV, orV, notV, ifM, cbM, callP, callS, bindM, ofO, liftP, endP, endS, get2M, gGet2, VS.keyD, setAll, setN, setT, wipeE, List.getElem?_cons_zero, List.getElem?_cons_succ, List.set_cons_zero, List.set_cons_succ, List.append_nil, List.cons_append, List.nil_append, List.length_cons, List.length_nil, Nat.zero_add, Nat.reduceAdd, Nat.reduceLeDiff, Nat.zero_le, if_true, if_false, Bool.false_eq_true, Bool.not_true, Bool.not_false, gII, gAdd, gEq_int, gNe_int, reduceCtorEq, e1, isLit, dIm, e3, ledI]
  | yes =>
    have e1 := in_yn .yes
    simp only [startE, List.map_cons, List.map_nil, Nat.reduceSub, List.replicate_succ, List.replicate_zero, seqS, ifS, retS, asgS, dropS, nextS, retN, unpS, parS, par3S, parOS, appS, setA, popM, nxSet, nxUnp, appPopM, forS, forR, forE, raiseS, varM, cM, unM, binM, chM, tupM, lstM, nilA, consA, testM, andT, orT, notT, andV, orV, notV, ifM, cbM, callP, callS, bindM, ofO, liftP, endP, endS, get2M, gGet2, VS.keyD, setAll, setN, setT, wipeE, List.getElem?_cons_zero, List.getElem?_cons_succ, List.set_cons_zero, List.set_cons_succ, List.append_nil, List.cons_append, List.nil_append, List.length_cons, List.length_nil, Nat.zero_add, Nat.reduceAdd, Nat.reduceLeDiff, Nat.zero_le, if_true, if_false, Bool.false_eq_true, Bool.not_true, Bool.not_false, gII, gAdd, gEq_int, gNe_int, reduceCtorEq, hs, e1, isLit, ledI]
  | no =>
    have e1 := in_yn .no
    simp only [startE, List.map_cons, List.map_nil, Nat.reduceSub, List.replicate_succ, List.replicate_zero, seqS, ifS, retS, asgS, dropS, nextS, retN, unpS, parS, par3S, parOS, appS, setA, popM, nxSet, nxUnp, appPopM, forS, forR, forE, raiseS, varM, cM, unM, binM, chM, tupM, lstM, nilA, consA, testM, andT, orT, notT, andV, orV, notV, ifM, cbM, callP, callS, bindM, ofO, liftP, endP, endS, get2M, gGet2, VS.keyD, setAll, setN, setT, wipeE, List.getElem?_cons_zero, List.getElem?_cons_succ, List.set_cons_zero, List.set_cons_succ, List.append_nil, List.cons_append, List.nil_append, List.length_cons, List.length_nil, Nat.zero_add, Nat.reduceAdd, Nat.reduceLeDiff, Nat.zero_le, if_true, if_false, Bool.false_eq_true, Bool.not_true, Bool.not_false, gII, gAdd, gEq_int, gNe_int, reduceCtorEq, hs, e1, isLit, ledI]
def behW (U W : List Im) : List Im := U.map (ledI W)
theorem behind_w_ok (hU : OkW many U) (hW : OkW many W) : G_witness_behind [dWit U, dWit W] = .ok (dWit (behW U W)) := by
  have hs : startE 3 [.tup (U.map dIm), dWit W] = [some (.tup (U.map dIm)), some (dWit W), none] := rfl
  have cl := comp_all (set := setN 2) (elt := e_witness_behind_1) (env0 := [some (.tup (U.map dIm)), some (dWit W), none]) (S := S0) dIm (fun i => dIm (ledI W i)) U fun i hi => by
    refine ⟨[some (.tup (U.map dIm)), some (dWit W), some (dIm i)], rfl, ?_⟩
    have := ledI_ok (W := W) (i := i) fun l e => by subst e; have := hU.im l hi; exact ⟨this.1, by rw [hW.len]; omega⟩
    simp only [startE, List.map_cons, List.map_nil, Nat.reduceSub, List.replicate_succ, List.replicate_zero, seqS, ifS, retS, asgS, dropS, nextS, retN, unpS, parS, par3S, parOS, appS, setA, popM, nxSet, nxUnp, appPopM, forS, forR, forE, raiseS, varM, cM, unM, binM, chM, tupM, lstM, nilA, consA, testM, andT, orT, notT, andV, orV, notV, ifM, cbM, callP, callS, bindM, ofO, liftP, endP, endS, get2M, gGet2, VS.keyD, setAll, setN, setT, wipeE, List.getElem?_cons_zero, List.getElem?_cons_succ, List.set_cons_zero, List.set_cons_succ, List.append_nil, List.cons_append, List.nil_append, List.length_cons, List.length_nil, Nat.zero_add, Nat.reduceAdd, Nat.reduceLeDiff, Nat.zero_le, if_true, if_false, Bool.false_eq_true, Bool.not_true, Bool.not_false, gII, gAdd, gEq_int, gNe_int, reduceCtorEq, e_witness_behind_1, this]
  unfold G_witness_behind g_witness_behind
  have e1 : G__led_image = G__led_image := rfl
  rw [show dWit U = .tup (U.map dIm) from rfl]
  simp only [startE, List.map_cons, List.map_nil, Nat.reduceSub, List.replicate_succ, List.replicate_zero, seqS, ifS, retS, asgS, dropS, nextS, retN, unpS, parS, par3S, parOS, appS, setA, popM, nxSet, nxUnp, appPopM, forS, forR, forE, raiseS, varM, cM, unM, binM, chM, tupM, lstM, nilA, consA, testM, andT, orT, notT, andV, orV, notV, ifM, cbM, callP, callS, bindM, ofO, liftP, endP, endS, get2M, gGet2, VS.keyD, setAll, setN, setT, wipeE, List.getElem?_cons_zero, List.getElem?_cons_succ, List.set_cons_zero, List.set_cons_succ, List.append_nil, List.cons_append, List.nil_append, List.length_cons, List.length_nil, Nat.zero_add, Nat.reduceAdd, Nat.reduceLeDiff, Nat.zero_le, if_true, if_false, Bool.false_eq_true, Bool.not_true, Bool.not_false, gII, gAdd, gEq_int, gNe_int, reduceCtorEq, hs, lcM, cl, gTuple_lst]
  rw [show dWit (behW U W) = .tup ((U.map (ledI W)).map dIm) from rfl, List.map_map]
  rfl
def sumsW (W : List Im) (ts : Trm) : Trm := ts.filterMap fun p => match imOf W p.2 with
  | .lit l => some (p.1, l)
  | _ => none
def yesW (W : List Im) (ts : Trm) : Int := (ts.map fun p => if imOf W p.2 = .yes then p.1 else 0).sum
abbrev rlE (W : List Im) (r : Trm × Int) (s : Trm × Int × Option D × Option D × Option D) : VS.Env := [some (dWit W), some (dRow r), some (.lst (s.1.map dPair)), some (.int s.2.1), s.2.2.1, s.2.2.2.1, s.2.2.2.2]
def rlS (W : List Im) (s : Trm × Int × Option D × Option D × Option D) (p : Int × Int) : Trm × Int × Option D × Option D × Option D := match imOf W p.2 with
  | .yes => (s.1, s.2.1 - p.1, some (.int p.1), some (.int p.2), some (.str "yes"))
  | .no => (s.1, s.2.1, some (.int p.1), some (.int p.2), some (.str "no"))
  | .lit l => (s.1 ++ [(p.1, l)], s.2.1, some (.int p.1), some (.int p.2), some (.int l))
theorem rl_step {r : Trm × Int} (s : Trm × Int × Option D × Option D × Option D) (p : Int × Int) (hp : InL W.length p.2) (hl : s.1.length < 1000000) : ∃ env1, setT [4, 5] (rlE W r s) (dPair p) = some env1 ∧ b_row_led_2 env1 S0 = .ok (.nx (rlE W r (rlS W s p)), S0) := by
  refine ⟨[some (dWit W), some (dRow r), some (.lst (s.1.map dPair)), some (.int s.2.1), some (.int p.1), some (.int p.2), s.2.2.2.2], rfl, ?_⟩
  have e := image_ok hp
  have hl2 : (s.1.map dPair).length < 1000000 := by simpa using hl
  cases hi : imOf W p.2 with
  | yes =>
    rw [hi] at e
    have e1 := eq_yes .yes
    simp only [dIm] at e e1
    simp only [startE, List.map_cons, List.map_nil, Nat.reduceSub, List.replicate_succ, List.replicate_zero, seqS, ifS, retS, asgS, dropS, nextS, retN, unpS, parS, par3S, parOS, appS, setA, popM, nxSet, nxUnp, appPopM, forS, forR, forE, raiseS, varM, cM, unM, binM, chM, tupM, lstM, nilA, consA, testM, andT, orT, notT, andV, orV, notV, ifM, cbM, callP, callS, bindM, ofO, liftP, endP, endS, get2M, gGet2, VS.keyD, setAll, setN, setT, wipeE, List.getElem?_cons_zero, List.getElem?_cons_succ, List.set_cons_zero, List.set_cons_succ, List.append_nil, List.cons_append, List.nil_append, List.length_cons, List.length_nil, Nat.zero_add, Nat.reduceAdd, Nat.reduceLeDiff, Nat.zero_le, if_true, if_false, Bool.false_eq_true, Bool.not_true, Bool.not_false, gII, gAdd, gEq_int, gNe_int, reduceCtorEq, b_row_led_2, e, e1, rlS, hi, rlE, show (Im.yes == Im.yes) = true from rfl]
  | no =>
    rw [hi] at e
    have e1 := eq_yes .no
    have e2 := ne_no .no
    simp only [dIm] at e e1 e2
    simp only [startE, List.map_cons, List.map_nil, Nat.reduceSub, List.replicate_succ, List.replicate_zero, seqS, ifS, retS, asgS, dropS, nextS, retN, unpS, parS, par3S, parOS, appS, setA, popM, nxSet, nxUnp, appPopM, forS, forR, forE, raiseS, varM, cM, unM, binM, chM, tupM, lstM, nilA, consA, testM, andT, orT, notT, andV, orV, notV, ifM, cbM, callP, callS, bindM, ofO, liftP, endP, endS, get2M, gGet2, VS.keyD, setAll, setN, setT, wipeE, List.getElem?_cons_zero, List.getElem?_cons_succ, List.set_cons_zero, List.set_cons_succ, List.append_nil, List.cons_append, List.nil_append, List.length_cons, List.length_nil, Nat.zero_add, Nat.reduceAdd, Nat.reduceLeDiff, Nat.zero_le, if_true, if_false, Bool.false_eq_true, Bool.not_true, Bool.not_false, gII, gAdd, gEq_int, gNe_int, reduceCtorEq, b_row_led_2, b_row_led_1, e, e1, e2, rlS, hi, rlE, show (Im.no == Im.yes) = false from rfl, show (Im.no == Im.no) = true from rfl]
  | lit l =>
    rw [hi] at e
    have e1 := eq_yes (.lit l)
    have e2 := ne_no (.lit l)
    simp only [dIm] at e e1 e2
    simp only [startE, List.map_cons, List.map_nil, Nat.reduceSub, List.replicate_succ, List.replicate_zero, seqS, ifS, retS, asgS, dropS, nextS, retN, unpS, parS, par3S, parOS, appS, setA, popM, nxSet, nxUnp, appPopM, forS, forR, forE, raiseS, varM, cM, unM, binM, chM, tupM, lstM, nilA, consA, testM, andT, orT, notT, andV, orV, notV, ifM, cbM, callP, callS, bindM, ofO, liftP, endP, endS, get2M, gGet2, VS.keyD, setAll, setN, setT, wipeE, List.getElem?_cons_zero, List.getElem?_cons_succ, List.set_cons_zero, List.set_cons_succ, List.append_nil, List.cons_append, List.nil_append, List.length_cons, List.length_nil, Nat.zero_add, Nat.reduceAdd, Nat.reduceLeDiff, Nat.zero_le, if_true, if_false, Bool.false_eq_true, Bool.not_true, Bool.not_false, gII, gAdd, gEq_int, gNe_int, reduceCtorEq, b_row_led_2, b_row_led_1, e, e1, e2, rlS, hi, rlE, show ((Im.lit l) == Im.yes) = false from rfl, show ((Im.lit l) == Im.no) = false from rfl, hl2, List.map_append, List.map_cons, List.map_nil, dPair]
theorem rl_fold : ∀ (ts : Trm) (s : Trm × Int × Option D × Option D × Option D), (ts.foldl (rlS W) s).1 = s.1 ++ sumsW W ts ∧ (ts.foldl (rlS W) s).2.1 = s.2.1 - yesW W ts
  | [], s => by simp [sumsW, yesW]
  | p :: ts, s => by
    obtain ⟨i1, i2⟩ := rl_fold ts (rlS W s p)
    rw [List.foldl_cons, i1, i2]
    cases hi : imOf W p.2 with
    | yes => simp [rlS, hi, sumsW, yesW]; omega
    | no => simp [rlS, hi, sumsW, yesW]
    | lit l => simp [rlS, hi, sumsW, yesW]
def ledR (W : List Im) (r : Trm × Int) : Trm × Int := normal (sumsW W r.1) (r.2 - yesW W r.1)
theorem imOf_ok (hW : OkW many W) {l m : Int} (hl : InL many.toNat l) (h : imOf W l = .lit m) : 1 ≤ m.natAbs ∧ (m.natAbs : Int) ≤ many := by
  have ea := absI_nat l
  have h1 := hl.1
  have h2 := hl.2
  have hlt : (absI l - 1).toNat < W.length := by rw [hW.len]; omega
  have hm : W.getD (absI l - 1).toNat .no ∈ W := by rw [List.getD_eq_getElem?_getD, List.getElem?_eq_getElem hlt]; exact List.getElem_mem hlt
  unfold imOf at h
  split at h
  · rw [h] at hm; exact hW.im m hm
  · have e : W.getD (absI l - 1).toNat .no = .lit (-m) := by rw [← opI_opI (W.getD _ _), h]; rfl
    rw [e] at hm
    have := hW.im (-m) hm
    omega
theorem sumsW_ok {r : Trm × Int} (hW : OkW many W) (hr : OkR many r) : ∀ p ∈ sumsW W r.1, 1 ≤ p.2.natAbs ∧ (p.2.natAbs : Int) ≤ many := fun p hp => by
  obtain ⟨q, hq, e⟩ := List.mem_filterMap.mp hp
  cases hi : imOf W q.2 with
  | yes => simp [hi] at e
  | no => simp [hi] at e
  | lit l =>
    simp [hi] at e
    subst e
    exact imOf_ok hW (hr.t.inL q hq) hi
theorem row_led_ok {r : Trm × Int} (hm : many ≤ 63) (hW : OkW many W) (hr : OkR many r) : G_row_led [dWit W, dRow r] = .ok (dRow (ledR W r)) := by
  have hs : startE 7 [dWit W, dRow r] = [some (dWit W), some (dRow r), none, none, none, none, none] := rfl
  have i0 : gIxA (dRow r) (.int 0) = some (.tup (r.1.map dPair)) := rfl
  have i1 : gIxA (dRow r) (.int 1) = some (.int r.2) := rfl
  have hlen := hr.t.len
  have lp := loop_foldP (S := S0) (set := setT [4, 5]) (g := b_row_led_2) dPair (rlE W r) (rlS W) (fun s xs => s.1.length + xs.length ≤ 1000 ∧ ∀ p ∈ xs, InL W.length p.2) r.1 ([], r.2, none, none, none) ⟨by simp; omega, fun p hp => by rw [hW.len]; exact hr.t.inL p hp⟩ (fun s p xs ⟨h1, h2⟩ => by
    simp only [List.length_cons] at h1
    refine ⟨⟨?_, fun q hq => h2 q (List.mem_cons_of_mem _ hq)⟩, rl_step s p (h2 p List.mem_cons_self) (by omega)⟩
    unfold rlS
    split <;> simp <;> omega)
  obtain ⟨f1, f2⟩ := rl_fold (W := W) r.1 ([], r.2, none, none, none)
  have lp' : loopS (setT [4, 5]) b_row_led_2 (r.1.map dPair) [some (dWit W), some (dRow r), some (.lst []), some (.int r.2), none, none, none] S0 = .ok (.nx (rlE W r (r.1.foldl (rlS W) ([], r.2, none, none, none))), S0) := lp
  have hn := normal_row_ok (b := r.2 - yesW W r.1) hm (sumsW_ok hW hr) (by
    have : (sumsW W r.1).length ≤ r.1.length := List.length_filterMap_le _ _
    omega)
  unfold G_row_led g_row_led
  simp only [startE, List.map_cons, List.map_nil, Nat.reduceSub, List.replicate_succ, List.replicate_zero, seqS, ifS, retS, asgS, dropS, nextS, retN, unpS, parS, par3S, parOS, appS, setA, popM, nxSet, nxUnp, appPopM, forS, forR, forE, raiseS, varM, cM, unM, binM, chM, tupM, lstM, nilA, consA, testM, andT, orT, notT, andV, orV, notV, ifM, cbM, callP, callS, bindM, ofO, liftP, endP, endS, get2M, gGet2, VS.keyD, setAll, setN, setT, wipeE, List.getElem?_cons_zero, List.getElem?_cons_succ, List.set_cons_zero, List.set_cons_succ, List.append_nil, List.cons_append, List.nil_append, List.length_cons, List.length_nil, Nat.zero_add, Nat.reduceAdd, Nat.reduceLeDiff, Nat.zero_le, if_true, if_false, Bool.false_eq_true, Bool.not_true, Bool.not_false, gII, gAdd, gEq_int, gNe_int, reduceCtorEq, hs, i0, i1, lp', rlE, f1, f2, hn, ledR]
end
end My
namespace My
open PySem PySem.Spec L2 VS
section
variable {many : Int} {W U : List Im} {f : List Int} {r q : Trm × Int}
theorem cm_sv {ts : Trm} {n : Nat} (hf : FlOk n f) (h : ∀ p ∈ ts, InL n p.2) : cm ts f = sv ts f := by
  rw [cm_sum]
  unfold sv
  congr 1
  apply List.map_congr_left
  intro p hp
  rcases wv01 hf (h p hp) with z | z <;> rw [z] <;> simp
theorem getD_mem {α : Type} {l : List α} {i : Nat} {d : α} (h : i < l.length) : l.getD i d ∈ l := by
  rw [List.getD_eq_getElem?_getD, List.getElem?_eq_getElem h]
  exact List.getElem_mem h
theorem wvI_01 (hW : OkW many W) (hf : FlOk many.toNat f) {i : Im} (hi : i ∈ W) : wvI f i = 0 ∨ wvI f i = 1 := by
  cases i with
  | lit l => have := hW.im l hi; exact wv01 hf ⟨this.1, by omega⟩
  | yes => exact .inr rfl
  | no => exact .inl rfl
theorem ledF_ok (hW : OkW many W) (hf : FlOk many.toNat f) : FlOk many.toNat (ledF W f) := by
  refine ⟨by unfold ledF; rw [List.length_map, hW.len], fun x hx => ?_⟩
  obtain ⟨i, hi, rfl⟩ := List.mem_map.mp hx
  exact wvI_01 hW hf hi
theorem wvI_opI {i : Im} (h : ∀ l, i = .lit l → l ≠ 0) : wvI f (opI i) = 1 - wvI f i := by
  cases i with
  | lit l => exact wv_neg f (h l rfl)
  | yes => rfl
  | no => rfl
theorem wv_led (hW : OkW many W) {l : Int} (hl : InL many.toNat l) : wv (ledF W f) l = wvI f (imOf W l) := by
  have ea := absI_nat l
  have h1 := hl.1
  have h2 := hl.2
  have hlt : (absI l - 1).toNat < W.length := by rw [hW.len]; omega
  have e : (ledF W f).getD (absI l - 1).toNat 0 = wvI f (W.getD (absI l - 1).toNat .no) := by
    unfold ledF
    rw [List.getD_eq_getElem?_getD, List.getElem?_map, List.getElem?_eq_getElem hlt, List.getD_eq_getElem?_getD, List.getElem?_eq_getElem hlt]
    rfl
  unfold wv imOf
  by_cases h0 : 0 < l
  · rw [if_pos h0, if_pos h0, ← e, show (l - 1).toNat = (absI l - 1).toNat by omega]
  · rw [if_neg h0, if_neg h0, wvI_opI, ← e, show (0 - l - 1).toNat = (absI l - 1).toNat by omega]
    intro m hm
    have := hW.im m (hm ▸ getD_mem hlt)
    omega
theorem sv_led (hW : OkW many W) : ∀ {ts : Trm}, (∀ p ∈ ts, InL many.toNat p.2) → sv (sumsW W ts) f = sv ts (ledF W f) - yesW W ts
  | [], _ => by simp [sumsW, yesW, sv]
  | p :: ts, h => by
    have ih := sv_led hW (ts := ts) fun q hq => h q (List.mem_cons_of_mem _ hq)
    have e := wv_led (f := f) hW (h p List.mem_cons_self)
    rw [sv_cons, e]
    cases hi : imOf W p.2 with
    | yes =>
      have e1 : sumsW W (p :: ts) = sumsW W ts := by simp [sumsW, hi]
      have e2 : yesW W (p :: ts) = p.1 + yesW W ts := by simp [yesW, hi]
      rw [e1, e2, ih]
      simp only [wvI, Int.mul_one]
      omega
    | no =>
      have e1 : sumsW W (p :: ts) = sumsW W ts := by simp [sumsW, hi]
      have e2 : yesW W (p :: ts) = yesW W ts := by simp [yesW, hi]
      rw [e1, e2, ih]
      simp only [wvI, Int.mul_zero]
      omega
    | lit l =>
      have e1 : sumsW W (p :: ts) = (p.1, l) :: sumsW W ts := by simp [sumsW, hi]
      have e2 : yesW W (p :: ts) = yesW W ts := by simp [yesW, hi]
      rw [e1, e2, sv_cons, ih]
      simp only [wvI]
      omega
def sur (r : Trm × Int) (f : List Int) : Int := cm r.1 f - r.2
theorem sur_led (hW : OkW many W) (hr : OkR many r) (hf : FlOk many.toNat f) : sv (sumsW W r.1) f - (r.2 - yesW W r.1) = sur r (ledF W f) := by
  rw [sv_led hW hr.t.inL, sur, cm_sv (ledF_ok hW hf) hr.t.inL]
  omega
theorem ledR_ok (hW : OkW many W) (hr : OkR many r) : OkR many (ledR W r) := (normal_ok (sumsW_ok hW hr)).1
theorem led_sur (hW : OkW many W) (hr : OkR many r) : ∃ a : Int, 0 ≤ a ∧ (∀ f, FlOk many.toNat f → sur (ledR W r) f = sur r (ledF W f) - a ∧ (0 < a → a ≤ sur r (ledF W f))) ∧ ∃ f, FlOk many.toNat f ∧ sur r (ledF W f) ≤ a := by
  obtain ⟨a, h1, h2, f, h3, h4⟩ := normal_sur (b := r.2 - yesW W r.1) (sumsW_ok hW hr)
  refine ⟨a, h1, fun f hf => ?_, f, h3, by rw [← sur_led hW hr h3]; exact h4⟩
  have := h2 f hf
  rw [sur_led hW hr hf] at this
  exact this
theorem led_holds (hW : OkW many W) (hr : OkR many r) (hf : FlOk many.toNat f) : (ledR W r).2 ≤ cm (ledR W r).1 f ↔ r.2 ≤ cm r.1 (ledF W f) := by
  have h := normal_holds (b := r.2 - yesW W r.1) (sumsW_ok hW hr) hf
  have e := sur_led hW hr hf
  unfold sur at e
  unfold ledR
  rw [h]
  omega
theorem imOf_beh (hU : OkW many U) {l : Int} (hl : InL many.toNat l) : imOf (behW U W) l = ledI W (imOf U l) := by
  have ea := absI_nat l
  have h1 := hl.1
  have h2 := hl.2
  have hlt : (absI l - 1).toNat < U.length := by rw [hU.len]; omega
  have e : (behW U W).getD (absI l - 1).toNat .no = ledI W (U.getD (absI l - 1).toNat .no) := by
    unfold behW
    rw [List.getD_eq_getElem?_getD, List.getElem?_map, List.getElem?_eq_getElem hlt, List.getD_eq_getElem?_getD, List.getElem?_eq_getElem hlt]
    rfl
  unfold imOf
  rw [e]
  by_cases h0 : 0 < l
  · rw [if_pos h0, if_pos h0]
  · rw [if_neg h0, if_neg h0]
    cases hu : U.getD (absI l - 1).toNat .no with
    | yes => rfl
    | no => rfl
    | lit m =>
      have hm := hU.im m (hu ▸ getD_mem hlt)
      show opI (imOf W m) = imOf W (-m)
      unfold imOf
      have em : absI (-m) = absI m := by unfold absI; split <;> split <;> omega
      rw [em]
      by_cases hm0 : 0 < m
      · rw [if_pos hm0, if_neg (by omega)]
      · rw [if_neg hm0, if_pos (by omega), opI_opI]
theorem imOf_in (hW : OkW many W) {m l : Int} (hl : InL many.toNat l) (h : imOf W l = .lit m) : 1 ≤ m.natAbs ∧ (m.natAbs : Int) ≤ many := imOf_ok hW hl h
theorem behW_ok (hU : OkW many U) (hW : OkW many W) : OkW many (behW U W) := by
  refine ⟨by unfold behW; rw [List.length_map, hU.len], fun l hl => ?_⟩
  obtain ⟨i, hi, e⟩ := List.mem_map.mp hl
  cases i with
  | lit m =>
    have := hU.im m hi
    exact imOf_ok hW (l := m) ⟨this.1, by omega⟩ e
  | yes => cases e
  | no => cases e
theorem ledF_beh (hU : OkW many U) (hW : OkW many W) : ledF (behW U W) f = ledF U (ledF W f) := by
  unfold behW
  show (U.map (ledI W)).map (wvI f) = U.map (wvI (ledF W f))
  rw [List.map_map]
  apply List.map_congr_left
  intro i hi
  cases i with
  | lit m =>
    have := hU.im m hi
    show wvI f (imOf W m) = wv (ledF W f) m
    rw [wv_led hW ⟨this.1, by omega⟩]
  | yes => rfl
  | no => rfl
theorem ledR_beh (hU : OkW many U) (hW : OkW many W) (hr : OkR many r) : ledR (behW U W) r = ledR W (ledR U r) := by
  have hB := behW_ok hU hW
  have h1 := ledR_ok hU hr
  refine row_unique (ledR_ok hB hr) (ledR_ok hW h1) fun f hf => ?_
  obtain ⟨a, a0, a1, fa, ha, a2⟩ := led_sur hB hr
  obtain ⟨b, b0, b1, fb, hb, b2⟩ := led_sur hU hr
  obtain ⟨c, c0, c1, fc, hc, c2⟩ := led_sur hW h1
  have e : a = b + c := by
    have x1 := a1 fc hc
    rw [ledF_beh hU hW] at x1
    have x2 := b1 (ledF W fc) (ledF_ok hW hc)
    have y1 := c1 fa ha
    have y2 := b1 (ledF W fa) (ledF_ok hW ha)
    rw [ledF_beh hU hW] at a2
    have z := x1.2
    have z2 := y1.2
    have z3 := y2.2
    have z4 := x2.2
    have w1 := y2.1
    have w2 := x2.1
    have p1 : ¬ (b + c < a) := fun h => by
      have := z (by omega)
      omega
    have p2 : ¬ (a < b + c) := fun h => by
      by_cases hc0 : 0 < c
      · have := z2 hc0
        omega
      · have := z3 (by omega)
        omega
    omega
  have x := (a1 f hf).1
  rw [ledF_beh hU hW] at x
  have y := (c1 f hf).1
  have z := (b1 (ledF W f) (ledF_ok hW hf)).1
  show sur (ledR (behW U W) r) f = sur (ledR W (ledR U r)) f
  omega
def oppR (r : Trm × Int) : Trm × Int := (r.1.map fun p => (p.1, -p.2), if tot r.1 - r.2 + 1 > 0 then tot r.1 - r.2 + 1 else 0)
theorem oppR_ok (hr : OkR many r) : OkR many (oppR r) := by
  refine ⟨⟨fun p hp => ?_, fun p hp => ?_, ?_⟩, by unfold oppR; simp only; split <;> omega⟩
  · obtain ⟨q, hq, rfl⟩ := List.mem_map.mp hp; exact hr.t.w q hq
  · obtain ⟨q, hq, rfl⟩ := List.mem_map.mp hp; simpa using hr.t.l q hq
  · have : ((oppR r).1.map fun p => p.2.natAbs) = r.1.map fun p => p.2.natAbs := by
      unfold oppR
      rw [List.map_map]
      apply List.map_congr_left
      intro p _
      simp
    rw [this]
    exact hr.t.inc
theorem sv_opp : ∀ {ts : Trm}, (∀ p ∈ ts, p.2 ≠ 0) → sv (ts.map fun p => (p.1, -p.2)) f = tot ts - sv ts f
  | [], _ => by simp [sv, tot]
  | p :: ts, h => by
    have ih := sv_opp (ts := ts) fun q hq => h q (List.mem_cons_of_mem _ hq)
    rw [List.map_cons, sv_cons, sv_cons, ih, wv_neg f (h p List.mem_cons_self), Int.mul_sub, Int.mul_one]
    simp only [tot, List.map_cons, List.sum_cons]
    omega
theorem opp_holds (hr : OkR many r) (hf : FlOk many.toNat f) : (oppR r).2 ≤ cm (oppR r).1 f ↔ ¬ r.2 ≤ cm r.1 f := by
  have h1 := cm_sv hf (oppR_ok hr).t.inL
  have h2 := cm_sv hf hr.t.inL
  have h3 : sv (oppR r).1 f = tot r.1 - sv r.1 f := sv_opp fun p hp => by have := (hr.t.l p hp).1; omega
  have h4 := cm_nonneg (oppR_ok hr).t f
  have e : (oppR r).2 = if tot r.1 - r.2 + 1 > 0 then tot r.1 - r.2 + 1 else 0 := rfl
  rw [e]
  split <;> omega
theorem weight_sum_ok (ts : Trm) : G_weight_sum [.tup (ts.map dPair)] = .ok (.int (tot ts)) := by
  have cl := comp_all (set := setT [1, 2]) (elt := varM 1) (env0 := [some (.tup (ts.map dPair)), none, none]) (S := S0) dPair (fun p => D.int p.1) ts fun p hp => ⟨[some (.tup (ts.map dPair)), some (.int p.1), some (.int p.2)], rfl, rfl⟩
  have gs : gSum [.lst (ts.map fun p => D.int p.1)] = some (.int (tot ts)) := by
    have := gSum_ints (ts.map (·.1))
    rw [List.map_map] at this
    exact this
  unfold G_weight_sum g_weight_sum
  simp only [startE, List.map_cons, List.map_nil, Nat.reduceSub, List.replicate_succ, List.replicate_zero, seqS, ifS, retS, asgS, dropS, nextS, retN, unpS, parS, par3S, parOS, appS, setA, popM, nxSet, nxUnp, appPopM, forS, forR, forE, raiseS, varM, cM, unM, binM, chM, tupM, lstM, nilA, consA, testM, andT, orT, notT, andV, orV, notV, ifM, cbM, callP, callS, bindM, ofO, liftP, endP, endS, get2M, gGet2, VS.keyD, setAll, setN, setT, wipeE, List.getElem?_cons_zero, List.getElem?_cons_succ, List.set_cons_zero, List.set_cons_succ, List.append_nil, List.cons_append, List.nil_append, List.length_cons, List.length_nil, Nat.zero_add, Nat.reduceAdd, Nat.reduceLeDiff, Nat.zero_le, if_true, if_false, Bool.false_eq_true, Bool.not_true, Bool.not_false, gII, gAdd, gEq_int, gNe_int, reduceCtorEq, lcM, cl, gs]
theorem opp_terms_ok (ts : Trm) : G_opposite_terms [.tup (ts.map dPair)] = .ok (.tup ((ts.map fun p => (p.1, -p.2)).map dPair)) := by
  have cl := comp_all (set := setT [1, 2]) (elt := tupM (consA (varM 1) (consA (unM gNeg (varM 2)) nilA))) (env0 := [some (.tup (ts.map dPair)), none, none]) (S := S0) dPair (fun p => dPair (p.1, -p.2)) ts fun p hp => ⟨[some (.tup (ts.map dPair)), some (.int p.1), some (.int p.2)], rfl, rfl⟩
  unfold G_opposite_terms g_opposite_terms
  simp only [startE, List.map_cons, List.map_nil, Nat.reduceSub, List.replicate_succ, List.replicate_zero, seqS, ifS, retS, asgS, dropS, nextS, retN, unpS, parS, par3S, parOS, appS, setA, popM, nxSet, nxUnp, appPopM, forS, forR, forE, raiseS, varM, cM, unM, binM, chM, tupM, lstM, nilA, consA, testM, andT, orT, notT, andV, orV, notV, ifM, cbM, callP, callS, bindM, ofO, liftP, endP, endS, get2M, gGet2, VS.keyD, setAll, setN, setT, wipeE, List.getElem?_cons_zero, List.getElem?_cons_succ, List.set_cons_zero, List.set_cons_succ, List.append_nil, List.cons_append, List.nil_append, List.length_cons, List.length_nil, Nat.zero_add, Nat.reduceAdd, Nat.reduceLeDiff, Nat.zero_le, if_true, if_false, Bool.false_eq_true, Bool.not_true, Bool.not_false, gII, gAdd, gEq_int, gNe_int, reduceCtorEq, lcM, cl, gTuple_lst]
  rw [List.map_map]
  rfl
theorem opp_row_ok : G_opposite_row [dRow r] = .ok (dRow (oppR r)) := by
  unfold G_opposite_row g_opposite_row
  simp only [startE, List.map_cons, List.map_nil, Nat.reduceSub, List.replicate_succ, List.replicate_zero, seqS, ifS, retS, asgS, dropS, nextS, retN, unpS, parS, par3S, parOS, appS, setA, popM, nxSet, nxUnp, appPopM, forS, forR, forE, raiseS, varM, cM, unM, binM, chM, tupM, lstM, nilA, consA, testM, andT, orT, notT, andV, orV, notV, ifM, cbM, callP, callS, bindM, ofO, liftP, endP, endS, get2M, gGet2, VS.keyD, setAll, setN, setT, wipeE, List.getElem?_cons_zero, List.getElem?_cons_succ, List.set_cons_zero, List.set_cons_succ, List.append_nil, List.cons_append, List.nil_append, List.length_cons, List.length_nil, Nat.zero_add, Nat.reduceAdd, Nat.reduceLeDiff, Nat.zero_le, if_true, if_false, Bool.false_eq_true, Bool.not_true, Bool.not_false, gII, gAdd, gEq_int, gNe_int, reduceCtorEq, dRow, opp_terms_ok, weight_sum_ok, max0, oppR]
theorem opposite_ok (hm : 1 ≤ many) (hm2 : many ≤ 600) (hr : OkR many r) : G_opposite [.int many, dRow r] = .ok (dRow (oppR r)) := by
  unfold G_opposite g_opposite
  simp only [startE, List.map_cons, List.map_nil, Nat.reduceSub, List.replicate_succ, List.replicate_zero, seqS, ifS, retS, asgS, dropS, nextS, retN, unpS, parS, par3S, parOS, appS, setA, popM, nxSet, nxUnp, appPopM, forS, forR, forE, raiseS, varM, cM, unM, binM, chM, tupM, lstM, nilA, consA, testM, andT, orT, notT, andV, orV, notV, ifM, cbM, callP, callS, bindM, ofO, liftP, endP, endS, get2M, gGet2, VS.keyD, setAll, setN, setT, wipeE, List.getElem?_cons_zero, List.getElem?_cons_succ, List.set_cons_zero, List.set_cons_succ, List.append_nil, List.cons_append, List.nil_append, List.length_cons, List.length_nil, Nat.zero_add, Nat.reduceAdd, Nat.reduceLeDiff, Nat.zero_le, if_true, if_false, Bool.false_eq_true, Bool.not_true, Bool.not_false, gII, gAdd, gEq_int, gNe_int, reduceCtorEq, many_good hm hm2, check_row_ok hr, opp_row_ok]
theorem is_image_ok {i : Im} (h : ∀ l, i = .lit l → 1 ≤ l.natAbs ∧ (l.natAbs : Int) ≤ many) : G__is_image [.int many, dIm i] = .ok (.bl true) := by
  have e := in_yn i
  unfold G__is_image g__is_image
  cases i with
  | lit l =>
    have hl : litOk many l = true := by have := h l rfl; simp [litOk]; omega
    simp only [startE, List.map_cons, List.map_nil, Nat.reduceSub, List.replicate_succ, List.replicate_zero, seqS, ifS, retS, asgS, dropS, nextS, retN, unpS, parS, par3S, parOS, appS, setA, popM, nxSet, nxUnp, appPopM, forS, forR, forE, raiseS, varM, cM, unM, binM, chM, tupM, lstM, nilA, consA, testM, andT, orT, notT, andV, orV, notV, ifM, cbM, callP, callS, bindM, ofO, liftP, endP, endS, get2M, gGet2, VS.keyD, setAll, setN, setT, wipeE, List.getElem?_cons_zero, List.getElem?_cons_succ, List.set_cons_zero, List.set_cons_succ, List.append_nil, List.cons_append, List.nil_append, List.length_cons, List.length_nil, Nat.zero_add, Nat.reduceAdd, Nat.reduceLeDiff, Nat.zero_le, if_true, if_false, Bool.false_eq_true, Bool.not_true, Bool.not_false, gII, gAdd, gEq_int, gNe_int, reduceCtorEq, dIm, lit_int, hl]
  | yes =>
    have e2 : G_is_literal_of [.int many, .str "yes"] = .ok (.bl false) := rfl
    simp only [dIm] at e
    simp only [startE, List.map_cons, List.map_nil, Nat.reduceSub, List.replicate_succ, List.replicate_zero, seqS, ifS, retS, asgS, dropS, nextS, retN, unpS, parS, par3S, parOS, appS, setA, popM, nxSet, nxUnp, appPopM, forS, forR, forE, raiseS, varM, cM, unM, binM, chM, tupM, lstM, nilA, consA, testM, andT, orT, notT, andV, orV, notV, ifM, cbM, callP, callS, bindM, ofO, liftP, endP, endS, get2M, gGet2, VS.keyD, setAll, setN, setT, wipeE, List.getElem?_cons_zero, List.getElem?_cons_succ, List.set_cons_zero, List.set_cons_succ, List.append_nil, List.cons_append, List.nil_append, List.length_cons, List.length_nil, Nat.zero_add, Nat.reduceAdd, Nat.reduceLeDiff, Nat.zero_le, if_true, if_false, Bool.false_eq_true, Bool.not_true, Bool.not_false, gII, gAdd, gEq_int, gNe_int, reduceCtorEq, dIm, e2, e, isLit]
  | no =>
    have e2 : G_is_literal_of [.int many, .str "no"] = .ok (.bl false) := rfl
    simp only [dIm] at e
    simp only [startE, List.map_cons, List.map_nil, Nat.reduceSub, List.replicate_succ, List.replicate_zero, seqS, ifS, retS, asgS, dropS, nextS, retN, unpS, parS, par3S, parOS, appS, setA, popM, nxSet, nxUnp, appPopM, forS, forR, forE, raiseS, varM, cM, unM, binM, chM, tupM, lstM, nilA, consA, testM, andT, orT, notT, andV, orV, notV, ifM, cbM, callP, callS, bindM, ofO, liftP, endP, endS, get2M, gGet2, VS.keyD, setAll, setN, setT, wipeE, List.getElem?_cons_zero, List.getElem?_cons_succ, List.set_cons_zero, List.set_cons_succ, List.append_nil, List.cons_append, List.nil_append, List.length_cons, List.length_nil, Nat.zero_add, Nat.reduceAdd, Nat.reduceLeDiff, Nat.zero_le, if_true, if_false, Bool.false_eq_true, Bool.not_true, Bool.not_false, gII, gAdd, gEq_int, gNe_int, reduceCtorEq, dIm, e2, e, isLit]
theorem is_witness_ok (hm : 0 ≤ many) (hW : OkW many W) : G_is_witness_of [.int many, dWit W] = .ok (.bl true) := by
  have cl := comp_all (set := setN 2) (elt := e_is_witness_of_2) (env0 := [some (.int many), some (.tup (W.map dIm)), none]) (S := S0) dIm (fun _ => D.bl true) W fun i hi => by
    refine ⟨[some (.int many), some (.tup (W.map dIm)), some (dIm i)], rfl, ?_⟩
    simp only [startE, List.map_cons, List.map_nil, Nat.reduceSub, List.replicate_succ, List.replicate_zero, seqS, ifS, retS, asgS, dropS, nextS, retN, unpS, parS, par3S, parOS, appS, setA, popM, nxSet, nxUnp, appPopM, forS, forR, forE, raiseS, varM, cM, unM, binM, chM, tupM, lstM, nilA, consA, testM, andT, orT, notT, andV, orV, notV, ifM, cbM, callP, callS, bindM, ofO, liftP, endP, endS, get2M, gGet2, VS.keyD, setAll, setN, setT, wipeE, List.getElem?_cons_zero, List.getElem?_cons_succ, List.set_cons_zero, List.set_cons_succ, List.append_nil, List.cons_append, List.nil_append, List.length_cons, List.length_nil, Nat.zero_add, Nat.reduceAdd, Nat.reduceLeDiff, Nat.zero_le, if_true, if_false, Bool.false_eq_true, Bool.not_true, Bool.not_false, gII, gAdd, gEq_int, gNe_int, reduceCtorEq, e_is_witness_of_2, is_image_ok fun l e => hW.im l (e ▸ hi)]
  have ga : gAll [.lst (W.map fun _ => D.bl true)] = some (.bl true) := by
    have h1 : ∀ W : List Im, toBls (W.map fun _ => D.bl true) = some (W.map fun _ => true) := fun W => by
      induction W with
      | nil => rfl
      | cons x f ih => simp [toBls, ih]
    simp [gAll, h1]
  have hl2 : ((W.length : Int) == many) = true := by rw [hW.len]; simp; omega
  unfold G_is_witness_of g_is_witness_of t_is_witness_of_1
  simp only [startE, List.map_cons, List.map_nil, Nat.reduceSub, List.replicate_succ, List.replicate_zero, seqS, ifS, retS, asgS, dropS, nextS, retN, unpS, parS, par3S, parOS, appS, setA, popM, nxSet, nxUnp, appPopM, forS, forR, forE, raiseS, varM, cM, unM, binM, chM, tupM, lstM, nilA, consA, testM, andT, orT, notT, andV, orV, notV, ifM, cbM, callP, callS, bindM, ofO, liftP, endP, endS, get2M, gGet2, VS.keyD, setAll, setN, setT, wipeE, List.getElem?_cons_zero, List.getElem?_cons_succ, List.set_cons_zero, List.set_cons_succ, List.append_nil, List.cons_append, List.nil_append, List.length_cons, List.length_nil, Nat.zero_add, Nat.reduceAdd, Nat.reduceLeDiff, Nat.zero_le, if_true, if_false, Bool.false_eq_true, Bool.not_true, Bool.not_false, gII, gAdd, gEq_int, gNe_int, reduceCtorEq, dWit, gIs, isKb, gLenA, List.length_map, hl2, lcM, cl, ga]
theorem check_witness_ok (hm : 0 ≤ many) (hW : OkW many W) : G_check_witness [.int many, dWit W] = .ok .non := by
  unfold G_check_witness g_check_witness t_check_witness_1
  simp only [startE, List.map_cons, List.map_nil, Nat.reduceSub, List.replicate_succ, List.replicate_zero, seqS, ifS, retS, asgS, dropS, nextS, retN, unpS, parS, par3S, parOS, appS, setA, popM, nxSet, nxUnp, appPopM, forS, forR, forE, raiseS, varM, cM, unM, binM, chM, tupM, lstM, nilA, consA, testM, andT, orT, notT, andV, orV, notV, ifM, cbM, callP, callS, bindM, ofO, liftP, endP, endS, get2M, gGet2, VS.keyD, setAll, setN, setT, wipeE, List.getElem?_cons_zero, List.getElem?_cons_succ, List.set_cons_zero, List.set_cons_succ, List.append_nil, List.cons_append, List.nil_append, List.length_cons, List.length_nil, Nat.zero_add, Nat.reduceAdd, Nat.reduceLeDiff, Nat.zero_le, if_true, if_false, Bool.false_eq_true, Bool.not_true, Bool.not_false, gII, gAdd, gEq_int, gNe_int, reduceCtorEq, is_witness_ok hm hW]
theorem led_row_ok (hm : 1 ≤ many) (hm2 : many ≤ 63) (hW : OkW many W) (hr : OkR many r) : G_led_row [.int many, dWit W, dRow r] = .ok (dRow (ledR W r)) := by
  unfold G_led_row g_led_row
  simp only [startE, List.map_cons, List.map_nil, Nat.reduceSub, List.replicate_succ, List.replicate_zero, seqS, ifS, retS, asgS, dropS, nextS, retN, unpS, parS, par3S, parOS, appS, setA, popM, nxSet, nxUnp, appPopM, forS, forR, forE, raiseS, varM, cM, unM, binM, chM, tupM, lstM, nilA, consA, testM, andT, orT, notT, andV, orV, notV, ifM, cbM, callP, callS, bindM, ofO, liftP, endP, endS, get2M, gGet2, VS.keyD, setAll, setN, setT, wipeE, List.getElem?_cons_zero, List.getElem?_cons_succ, List.set_cons_zero, List.set_cons_succ, List.append_nil, List.cons_append, List.nil_append, List.length_cons, List.length_nil, Nat.zero_add, Nat.reduceAdd, Nat.reduceLeDiff, Nat.zero_le, if_true, if_false, Bool.false_eq_true, Bool.not_true, Bool.not_false, gII, gAdd, gEq_int, gNe_int, reduceCtorEq, many_good hm (by omega : many ≤ 600), check_witness_ok (by omega) hW, check_row_ok hr, row_led_ok hm2 hW hr]
theorem led_filling_ok (hm : 1 ≤ many) (hm2 : many ≤ 600) (hW : OkW many W) (hf : FlOk many.toNat f) : G_led_filling [.int many, dWit W, tupDI f] = .ok (tupDI (ledF W f)) := by
  unfold G_led_filling g_led_filling
  simp only [startE, List.map_cons, List.map_nil, Nat.reduceSub, List.replicate_succ, List.replicate_zero, seqS, ifS, retS, asgS, dropS, nextS, retN, unpS, parS, par3S, parOS, appS, setA, popM, nxSet, nxUnp, appPopM, forS, forR, forE, raiseS, varM, cM, unM, binM, chM, tupM, lstM, nilA, consA, testM, andT, orT, notT, andV, orV, notV, ifM, cbM, callP, callS, bindM, ofO, liftP, endP, endS, get2M, gGet2, VS.keyD, setAll, setN, setT, wipeE, List.getElem?_cons_zero, List.getElem?_cons_succ, List.set_cons_zero, List.set_cons_succ, List.append_nil, List.cons_append, List.nil_append, List.length_cons, List.length_nil, Nat.zero_add, Nat.reduceAdd, Nat.reduceLeDiff, Nat.zero_le, if_true, if_false, Bool.false_eq_true, Bool.not_true, Bool.not_false, gII, gAdd, gEq_int, gNe_int, reduceCtorEq, many_good hm hm2, check_witness_ok (by omega) hW, check_filling_ok (by omega) hf, filling_led_ok hW hf]
theorem led_literal_ok {l : Int} (hm : 1 ≤ many) (hm2 : many ≤ 600) (hW : OkW many W) (hl : InL many.toNat l) : G_led_literal [.int many, dWit W, .int l] = .ok (dIm (imOf W l)) := by
  have h1 := hl.1
  have h2 := hl.2
  have hk : litOk many l = true := by simp [litOk]; omega
  unfold G_led_literal g_led_literal
  simp only [startE, List.map_cons, List.map_nil, Nat.reduceSub, List.replicate_succ, List.replicate_zero, seqS, ifS, retS, asgS, dropS, nextS, retN, unpS, parS, par3S, parOS, appS, setA, popM, nxSet, nxUnp, appPopM, forS, forR, forE, raiseS, varM, cM, unM, binM, chM, tupM, lstM, nilA, consA, testM, andT, orT, notT, andV, orV, notV, ifM, cbM, callP, callS, bindM, ofO, liftP, endP, endS, get2M, gGet2, VS.keyD, setAll, setN, setT, wipeE, List.getElem?_cons_zero, List.getElem?_cons_succ, List.set_cons_zero, List.set_cons_succ, List.append_nil, List.cons_append, List.nil_append, List.length_cons, List.length_nil, Nat.zero_add, Nat.reduceAdd, Nat.reduceLeDiff, Nat.zero_le, if_true, if_false, Bool.false_eq_true, Bool.not_true, Bool.not_false, gII, gAdd, gEq_int, gNe_int, reduceCtorEq, many_good hm hm2, check_witness_ok (by omega) hW, check_lit_ok hk, image_ok (W := W) (l := l) (by rw [hW.len]; exact hl)]
theorem behind_ok (hm : 1 ≤ many) (hm2 : many ≤ 600) (hU : OkW many U) (hW : OkW many W) : G_behind [.int many, dWit U, dWit W] = .ok (dWit (behW U W)) := by
  unfold G_behind g_behind
  simp only [startE, List.map_cons, List.map_nil, Nat.reduceSub, List.replicate_succ, List.replicate_zero, seqS, ifS, retS, asgS, dropS, nextS, retN, unpS, parS, par3S, parOS, appS, setA, popM, nxSet, nxUnp, appPopM, forS, forR, forE, raiseS, varM, cM, unM, binM, chM, tupM, lstM, nilA, consA, testM, andT, orT, notT, andV, orV, notV, ifM, cbM, callP, callS, bindM, ofO, liftP, endP, endS, get2M, gGet2, VS.keyD, setAll, setN, setT, wipeE, List.getElem?_cons_zero, List.getElem?_cons_succ, List.set_cons_zero, List.set_cons_succ, List.append_nil, List.cons_append, List.nil_append, List.length_cons, List.length_nil, Nat.zero_add, Nat.reduceAdd, Nat.reduceLeDiff, Nat.zero_le, if_true, if_false, Bool.false_eq_true, Bool.not_true, Bool.not_false, gII, gAdd, gEq_int, gNe_int, reduceCtorEq, many_good hm hm2, check_witness_ok (by omega) hU, check_witness_ok (by omega) hW, behind_w_ok hU hW]
theorem law_led_ok (hW : OkW many W) (hf : FlOk many.toNat f) : G__law_led [dWit W, tupDI f] = .ok (tupDI (ledF W f)) := by
  have cl := comp_all (set := setN 2) (elt := e__law_led_1) (env0 := [some (.tup (W.map dIm)), some (tupDI f), none]) (S := S0) dIm (fun i => D.int (wvI f i)) W fun i hi => by
    refine ⟨[some (.tup (W.map dIm)), some (tupDI f), some (dIm i)], rfl, ?_⟩
    have e := is_str i
    have e2 := eq_yes i
    cases i with
    | lit l =>
      simp only [dIm] at e e2
      have e3 := worth_ok (okW_in hW hf hi l rfl)
      simp only [startE, List.map_cons, List.map_nil, Nat.reduceSub, List.replicate_succ, List.replicate_zero, seqS, ifS, retS, asgS, dropS, nextS, retN, unpS, parS, par3S, parOS, appS, setA, popM, nxSet, nxUnp, appPopM, forS, forR, forE, raiseS, varM, cM, unM, binM, chM, tupM, lstM, nilA, consA, testM, andT, orT, notT, andV, orV, notV, ifM, cbM, callP, callS, bindM, ofO, liftP, endP, endS, get2M, gGet2, VS.keyD, setAll, setN, setT, wipeE, List.getElem?_cons_zero, List.getElem?_cons_succ, List.set_cons_zero, List.set_cons_succ, List.append_nil, List.cons_append, List.nil_append, List.length_cons, List.length_nil, Nat.zero_add, Nat.reduceAdd, Nat.reduceLeDiff, Nat.zero_le, if_true, if_false, Bool.false_eq_true, Bool.not_true, Bool.not_false, gII, gAdd, gEq_int, gNe_int, reduceCtorEq, e__law_led_1, e, isLit, e3, wvI, dIm]
    | yes => simp only [startE, List.map_cons, List.map_nil, Nat.reduceSub, List.replicate_succ, List.replicate_zero, seqS, ifS, retS, asgS, dropS, nextS, retN, unpS, parS, par3S, parOS, appS, setA, popM, nxSet, nxUnp, appPopM, forS, forR, forE, raiseS, varM, cM, unM, binM, chM, tupM, lstM, nilA, consA, testM, andT, orT, notT, andV, orV, notV, ifM, cbM, callP, callS, bindM, ofO, liftP, endP, endS, get2M, gGet2, VS.keyD, setAll, setN, setT, wipeE, List.getElem?_cons_zero, List.getElem?_cons_succ, List.set_cons_zero, List.set_cons_succ, List.append_nil, List.cons_append, List.nil_append, List.length_cons, List.length_nil, Nat.zero_add, Nat.reduceAdd, Nat.reduceLeDiff, Nat.zero_le, if_true, if_false, Bool.false_eq_true, Bool.not_true, Bool.not_false, gII, gAdd, gEq_int, gNe_int, reduceCtorEq, e__law_led_1, e, e2, isLit, show (Im.yes == Im.yes) = true from rfl, gInt, wvI]
    | no => simp only [startE, List.map_cons, List.map_nil, Nat.reduceSub, List.replicate_succ, List.replicate_zero, seqS, ifS, retS, asgS, dropS, nextS, retN, unpS, parS, par3S, parOS, appS, setA, popM, nxSet, nxUnp, appPopM, forS, forR, forE, raiseS, varM, cM, unM, binM, chM, tupM, lstM, nilA, consA, testM, andT, orT, notT, andV, orV, notV, ifM, cbM, callP, callS, bindM, ofO, liftP, endP, endS, get2M, gGet2, VS.keyD, setAll, setN, setT, wipeE, List.getElem?_cons_zero, List.getElem?_cons_succ, List.set_cons_zero, List.set_cons_succ, List.append_nil, List.cons_append, List.nil_append, List.length_cons, List.length_nil, Nat.zero_add, Nat.reduceAdd, Nat.reduceLeDiff, Nat.zero_le, if_true, if_false, Bool.false_eq_true, Bool.not_true, Bool.not_false, gII, gAdd, gEq_int, gNe_int, reduceCtorEq, e__law_led_1, e, e2, isLit, show (Im.no == Im.yes) = false from rfl, gInt, wvI]
  unfold G__law_led g__law_led
  simp only [startE, List.map_cons, List.map_nil, Nat.reduceSub, List.replicate_succ, List.replicate_zero, seqS, ifS, retS, asgS, dropS, nextS, retN, unpS, parS, par3S, parOS, appS, setA, popM, nxSet, nxUnp, appPopM, forS, forR, forE, raiseS, varM, cM, unM, binM, chM, tupM, lstM, nilA, consA, testM, andT, orT, notT, andV, orV, notV, ifM, cbM, callP, callS, bindM, ofO, liftP, endP, endS, get2M, gGet2, VS.keyD, setAll, setN, setT, wipeE, List.getElem?_cons_zero, List.getElem?_cons_succ, List.set_cons_zero, List.set_cons_succ, List.append_nil, List.cons_append, List.nil_append, List.length_cons, List.length_nil, Nat.zero_add, Nat.reduceAdd, Nat.reduceLeDiff, Nat.zero_le, if_true, if_false, Bool.false_eq_true, Bool.not_true, Bool.not_false, gII, gAdd, gEq_int, gNe_int, reduceCtorEq, dWit, lcM, cl, gTuple_lst]
  rw [show tupDI (ledF W f) = .tup ((W.map (wvI f)).map D.int) from rfl, List.map_map]
  rfl
end
end My
namespace My
open PySem PySem.Spec L2 VS
structure OkX (many : Int) (E : List Int) : Prop where
  len : E.length = many.toNat
  rg : ∀ l ∈ E, 1 ≤ l.natAbs ∧ (l.natAbs : Int) ≤ many
  nd : (E.map Int.natAbs).Nodup
def litW (E : List Int) : List Im := E.map Im.lit
theorem litW_d (E : List Int) : dWit (litW E) = tupDI E := by
  unfold dWit litW tupDI
  rw [List.map_map]
  rfl
section
variable {many : Int} {E : List Int}
theorem OkX.w (h : OkX many E) : OkW many (litW E) := ⟨by unfold litW; rw [List.length_map, h.len], fun l hl => by
  obtain ⟨m, hm, e⟩ := List.mem_map.mp hl
  cases e
  exact h.rg _ hm⟩
theorem compI_nodup {set : VS.Env → D → Option VS.Env} {elt : ME} {env0 : VS.Env} {S : DS} (a : Int → Int) : ∀ (xs : List Int) (acc : List Int), (∀ x ∈ xs, ∃ env1, set env0 (.int x) = some env1 ∧ elt env1 S = .ok (.int (a x), S)) → (acc ++ xs.map a).Nodup →
    compI set (fun _ S => .ok (true, S)) elt env0 (xs.map D.int) acc S = .ok (acc ++ xs.map a, S)
  | [], acc, _, _ => by simp [compI]
  | x :: xs, acc, h, hn => by
    obtain ⟨env1, h1, h2⟩ := h x List.mem_cons_self
    have hn' : ((acc ++ [a x]) ++ xs.map a).Nodup := by simpa using hn
    have hx : acc.contains (a x) = false := by
      cases hc : acc.contains (a x) with
      | false => rfl
      | true =>
        have hm : a x ∈ acc := by simpa using hc
        rw [List.nodup_append] at hn
        exact absurd rfl (hn.2.2 (a x) hm (a x) (by simp))
    have ih := compI_nodup a xs (acc ++ [a x]) (fun y hy => h y (List.mem_cons_of_mem _ hy)) hn'
    simp only [List.map_cons, compI, h1, noX, bindM, if_true, h2, hx, Bool.false_eq_true, if_false, ih]
    simp
theorem natAbs_absI (E : List Int) : E.map absI = (E.map Int.natAbs).map Int.ofNat := by
  rw [List.map_map]
  apply List.map_congr_left
  intro x _
  exact absI_nat x
theorem nodup_absI (h : (E.map Int.natAbs).Nodup) : (E.map absI).Nodup := by
  rw [natAbs_absI]
  exact List.Pairwise.map _ (fun a b hab e => hab (Int.ofNat.inj e)) h
theorem unlike_ok (h : (E.map Int.natAbs).Nodup) (hl : E.length ≤ 4000) : G_are_unlike [tupDI E] = .ok (.bl true) := by
  have c := compI_nodup (set := setN 1) (elt := cbM gAbs (consA (varM 1) nilA)) (env0 := [some (.tup (E.map D.int)), none]) (S := S0) absI E [] (fun x _ => ⟨[some (.tup (E.map D.int)), some (.int x)], rfl, rfl⟩) (by simpa using nodup_absI h)
  have hl2 : (E.map D.int).length ≤ 4000 := by simpa using hl
  unfold G_are_unlike g_are_unlike
  simp only [startE, List.map_cons, List.map_nil, Nat.reduceSub, List.replicate_succ, List.replicate_zero, seqS, ifS, retS, asgS, dropS, nextS, retN, unpS, parS, par3S, parOS, appS, setA, popM, nxSet, nxUnp, appPopM, forS, forR, forE, raiseS, varM, cM, unM, binM, chM, tupM, lstM, nilA, consA, testM, andT, orT, notT, andV, orV, notV, ifM, cbM, callP, callS, bindM, ofO, liftP, endP, endS, get2M, gGet2, VS.keyD, setAll, setN, setT, wipeE, List.getElem?_cons_zero, List.getElem?_cons_succ, List.set_cons_zero, List.set_cons_succ, List.append_nil, List.cons_append, List.nil_append, List.length_cons, List.length_nil, Nat.zero_add, Nat.reduceAdd, Nat.reduceLeDiff, Nat.zero_le, if_true, if_false, Bool.false_eq_true, Bool.not_true, Bool.not_false, gII, gAdd, gEq_int, gNe_int, reduceCtorEq, tupDI, scLenM, hl, c, gLenA, List.length_map, beq_self_eq_true]
theorem inV_ints (x : Str) : ∀ E : List Int, inV (.str x) (E.map V.int) = false
  | [] => rfl
  | l :: E => by
    have := inV_ints x E
    simp only [inV, List.map_cons, List.any_cons] at this ⊢
    rw [this]
    rfl
theorem in_ints (x : Str) (E : List Int) : gInX (.str x) (tupDI E) = some (.bl false) := by
  have h : ∀ E : List Int, flatsOf (E.map D.int) = some (E.map V.int) := fun E => by
    induction E with
    | nil => rfl
    | cons l E ih => simp [flatsOf, flatOf, ih]
  simp only [gInX, inX, inDA, inD', tupDI, flatOf, h, inV_ints, Option.map_some]
theorem is_exch_ok (hm : 0 ≤ many) (hm2 : many ≤ 600) (h : OkX many E) : G_is_exchange_of [.int many, tupDI E] = .ok (.bl true) := by
  have e1 := is_witness_ok hm h.w
  rw [litW_d] at e1
  have e2 := unlike_ok h.nd (by rw [h.len]; omega)
  unfold G_is_exchange_of g_is_exchange_of t_is_exchange_of_1
  simp only [startE, List.map_cons, List.map_nil, Nat.reduceSub, List.replicate_succ, List.replicate_zero, seqS, ifS, retS, asgS, dropS, nextS, retN, unpS, parS, par3S, parOS, appS, setA, popM, nxSet, nxUnp, appPopM, forS, forR, forE, raiseS, varM, cM, unM, binM, chM, tupM, lstM, nilA, consA, testM, andT, orT, notT, andV, orV, notV, ifM, cbM, callP, callS, bindM, ofO, liftP, endP, endS, get2M, gGet2, VS.keyD, setAll, setN, setT, wipeE, List.getElem?_cons_zero, List.getElem?_cons_succ, List.set_cons_zero, List.set_cons_succ, List.append_nil, List.cons_append, List.nil_append, List.length_cons, List.length_nil, Nat.zero_add, Nat.reduceAdd, Nat.reduceLeDiff, Nat.zero_le, if_true, if_false, Bool.false_eq_true, Bool.not_true, Bool.not_false, gII, gAdd, gEq_int, gNe_int, reduceCtorEq, e1, in_ints, e2]
theorem is_exchange_ok (hm : 1 ≤ many) (hm2 : many ≤ 600) (h : OkX many E) : G_is_exchange [.int many, tupDI E] = .ok (.bl true) := by
  unfold G_is_exchange g_is_exchange
  simp only [startE, List.map_cons, List.map_nil, Nat.reduceSub, List.replicate_succ, List.replicate_zero, seqS, ifS, retS, asgS, dropS, nextS, retN, unpS, parS, par3S, parOS, appS, setA, popM, nxSet, nxUnp, appPopM, forS, forR, forE, raiseS, varM, cM, unM, binM, chM, tupM, lstM, nilA, consA, testM, andT, orT, notT, andV, orV, notV, ifM, cbM, callP, callS, bindM, ofO, liftP, endP, endS, get2M, gGet2, VS.keyD, setAll, setN, setT, wipeE, List.getElem?_cons_zero, List.getElem?_cons_succ, List.set_cons_zero, List.set_cons_succ, List.append_nil, List.cons_append, List.nil_append, List.length_cons, List.length_nil, Nat.zero_add, Nat.reduceAdd, Nat.reduceLeDiff, Nat.zero_le, if_true, if_false, Bool.false_eq_true, Bool.not_true, Bool.not_false, gII, gAdd, gEq_int, gNe_int, reduceCtorEq, many_good hm hm2, is_exch_ok (by omega) hm2 h]
theorem check_exch_ok (hm : 0 ≤ many) (hm2 : many ≤ 600) (h : OkX many E) : G_check_exchange [.int many, tupDI E] = .ok .non := by
  unfold G_check_exchange g_check_exchange t_check_exchange_1
  simp only [startE, List.map_cons, List.map_nil, Nat.reduceSub, List.replicate_succ, List.replicate_zero, seqS, ifS, retS, asgS, dropS, nextS, retN, unpS, parS, par3S, parOS, appS, setA, popM, nxSet, nxUnp, appPopM, forS, forR, forE, raiseS, varM, cM, unM, binM, chM, tupM, lstM, nilA, consA, testM, andT, orT, notT, andV, orV, notV, ifM, cbM, callP, callS, bindM, ofO, liftP, endP, endS, get2M, gGet2, VS.keyD, setAll, setN, setT, wipeE, List.getElem?_cons_zero, List.getElem?_cons_succ, List.set_cons_zero, List.set_cons_succ, List.append_nil, List.cons_append, List.nil_append, List.length_cons, List.length_nil, Nat.zero_add, Nat.reduceAdd, Nat.reduceLeDiff, Nat.zero_le, if_true, if_false, Bool.false_eq_true, Bool.not_true, Bool.not_false, gII, gAdd, gEq_int, gNe_int, reduceCtorEq, is_exch_ok hm hm2 h]
def en : Int → List Int → List (Int × Int)
  | _, [] => []
  | k, l :: E => (k, l) :: en (k + 1) E
theorem en_enum : ∀ (E : List Int) (k : Nat), enumD k (E.map D.int) = (en k E).map dPair
  | [], _ => rfl
  | l :: E, k => by
    have := en_enum E (k + 1)
    simp only [List.map_cons, enumD, en, this, dPair]
    rfl
theorem en_mem : ∀ {E : List Int} {k : Int} {p : Int × Int}, p ∈ en k E ↔ ∃ i : Nat, E[i]? = some p.2 ∧ p.1 = k + i
  | [], k, p => by simp [en]
  | l :: E, k, p => by
    simp only [en, List.mem_cons, en_mem (E := E)]
    constructor
    · rintro (rfl | ⟨i, h1, h2⟩)
      · exact ⟨0, rfl, by simp⟩
      · exact ⟨i + 1, by simpa using h1, by rw [h2]; omega⟩
    · rintro ⟨i, h1, h2⟩
      cases i with
      | zero => simp at h1; exact .inl (Prod.ext (by rw [h2]; simp) h1.symm)
      | succ i => exact .inr ⟨i, by simpa using h1, by rw [h2]; omega⟩
theorem en_snd : ∀ (E : List Int) (k : Int), (en k E).map (·.2) = E
  | [], _ => rfl
  | l :: E, k => by simp [en, en_snd E (k + 1)]
def tV (p : Int × Int) : Int × Int := (absI p.2, if 0 < p.2 then p.1 + 1 else -(p.1 + 1))
def tA (E : List Int) : Asc := (en 0 E).map tV
theorem tA_keys (E : List Int) : (tA E).map (·.1) = E.map absI := by
  unfold tA
  rw [List.map_map]
  conv => rhs; rw [← en_snd E 0, List.map_map]
  rfl
theorem put_new {m : Asc} {v c : Int} (h : v ∉ m.map (·.1)) : putA m v c = m ++ [(v, c)] := by
  unfold putA
  rw [if_neg fun z => h (hasA_mem.mp z)]
theorem put_fold : ∀ (ps : List (Int × Int)) (m : Asc), ((m.map (·.1)) ++ ps.map fun p => absI p.2).Nodup → ps.foldl (fun m p => putA m (tV p).1 (tV p).2) m = m ++ ps.map tV
  | [], m, _ => by simp
  | p :: ps, m, h => by
    have hn : absI p.2 ∉ m.map (·.1) := fun z => by
      rw [List.nodup_append] at h
      exact absurd rfl (h.2.2 _ z _ (by simp))
    rw [List.foldl_cons, put_new (show (tV p).1 ∉ _ from hn), put_fold ps _ (by simpa [tV] using h)]
    simp
abbrev teE (E : List Int) (s : Asc × Option D × Option D) : VS.Env := [some (tupDI E), some (dAsc s.1), s.2.1, s.2.2, none]
theorem te_step (s : Asc × Option D × Option D) (p : Int × Int) (hp : p.2 ≠ 0) (hl : s.1.length < 1000000) : ∃ env1, setT [2, 3] (teE E s) (dPair p) = some env1 ∧ b_exchange_turned_2 env1 S0 = .ok (.nx (teE E (putA s.1 (tV p).1 (tV p).2, some (.int p.1), some (.int p.2))), S0) := by
  refine ⟨[some (tupDI E), some (dAsc s.1), some (.int p.1), some (.int p.2), none], rfl, ?_⟩
  have hk : (kyA s.1).length < 1000000 := by simpa [kyA] using hl
  by_cases h : 0 < p.2
  · have e : absI p.2 = p.2 := by have := absI_nat p.2; omega
    simp only [startE, List.map_cons, List.map_nil, Nat.reduceSub, List.replicate_succ, List.replicate_zero, seqS, ifS, retS, asgS, dropS, nextS, retN, unpS, parS, par3S, parOS, appS, setA, popM, nxSet, nxUnp, appPopM, forS, forR, forE, raiseS, varM, cM, unM, binM, chM, tupM, lstM, nilA, consA, testM, andT, orT, notT, andV, orV, notV, ifM, cbM, callP, callS, bindM, ofO, liftP, endP, endS, get2M, gGet2, VS.keyD, setAll, setN, setT, wipeE, List.getElem?_cons_zero, List.getElem?_cons_succ, List.set_cons_zero, List.set_cons_succ, List.append_nil, List.cons_append, List.nil_append, List.length_cons, List.length_nil, Nat.zero_add, Nat.reduceAdd, Nat.reduceLeDiff, Nat.zero_le, if_true, if_false, Bool.false_eq_true, Bool.not_true, Bool.not_false, gII, gAdd, gEq_int, gNe_int, reduceCtorEq, b_exchange_turned_2, h, decide_true, dAsc, hk, dputK_asc s.1 p.2 (p.1 + 1), dputV_asc, tV, e, teE]
  · have e : absI p.2 = -p.2 := by have := absI_nat p.2; omega
    simp only [startE, List.map_cons, List.map_nil, Nat.reduceSub, List.replicate_succ, List.replicate_zero, seqS, ifS, retS, asgS, dropS, nextS, retN, unpS, parS, par3S, parOS, appS, setA, popM, nxSet, nxUnp, appPopM, forS, forR, forE, raiseS, varM, cM, unM, binM, chM, tupM, lstM, nilA, consA, testM, andT, orT, notT, andV, orV, notV, ifM, cbM, callP, callS, bindM, ofO, liftP, endP, endS, get2M, gGet2, VS.keyD, setAll, setN, setT, wipeE, List.getElem?_cons_zero, List.getElem?_cons_succ, List.set_cons_zero, List.set_cons_succ, List.append_nil, List.cons_append, List.nil_append, List.length_cons, List.length_nil, Nat.zero_add, Nat.reduceAdd, Nat.reduceLeDiff, Nat.zero_le, if_true, if_false, Bool.false_eq_true, Bool.not_true, Bool.not_false, gII, gAdd, gEq_int, gNe_int, reduceCtorEq, b_exchange_turned_2, b_exchange_turned_1, h, decide_false, gNeg, dAsc, hk, dputK_asc s.1 (-p.2) (-(p.1 + 1)), dputV_asc, tV, e, teE]
def turnX (E : List Int) : List Int := (keysA (tA E)).map (look (tA E))
theorem turned_ok (hm : many ≤ 63) (h : OkX many E) : G_exchange_turned [tupDI E] = .ok (tupDI (turnX E)) := by
  have hlen : ∀ k, (en k E).length = E.length := fun k => by rw [← List.length_map (f := (·.2)), en_snd]
  have lp := loop_foldP (S := S0) (set := setT [2, 3]) (g := b_exchange_turned_2) dPair (teE E) (fun s p => (putA s.1 (tV p).1 (tV p).2, some (.int p.1), some (.int p.2))) (fun s xs => s.1.length + xs.length ≤ 1000 ∧ ∀ p ∈ xs, p.2 ≠ 0) (en 0 E) ([], none, none) ⟨by rw [hlen, h.len]; simp; omega, fun p hp => by
      obtain ⟨i, hi, _⟩ := en_mem.mp hp
      have := h.rg p.2 (List.mem_of_getElem? hi)
      omega⟩ (fun s p xs ⟨h1, h2⟩ => by
    simp only [List.length_cons] at h1
    refine ⟨⟨?_, fun q hq => h2 q (List.mem_cons_of_mem _ hq)⟩, te_step s p (h2 p List.mem_cons_self) (by omega)⟩
    have := putA_len s.1 (tV p).1 (tV p).2
    simp only
    omega)
  have hf : ∀ (ps : List (Int × Int)) (s : Asc × Option D × Option D), (ps.foldl (fun s p => (putA s.1 (tV p).1 (tV p).2, some (D.int p.1), some (D.int p.2))) s).1 = ps.foldl (fun m p => putA m (tV p).1 (tV p).2) s.1 := fun ps => by
    induction ps with
    | nil => exact fun _ => rfl
    | cons p ps ih => exact fun s => by rw [List.foldl_cons, List.foldl_cons, ih]
  have hA : ((en 0 E).foldl (fun s p => (putA s.1 (tV p).1 (tV p).2, some (D.int p.1), some (D.int p.2))) (([], none, none) : Asc × Option D × Option D)).1 = tA E := by
    rw [hf, put_fold]
    · rfl
    · have : ((en 0 E).map fun p => absI p.2) = E.map absI := by
        conv => rhs; rw [← en_snd E 0, List.map_map]
        rfl
      simpa [this] using nodup_absI h.nd
  have e0 : enumD 0 (E.map D.int) = (en 0 E).map dPair := en_enum E 0
  have hk : (kyA (tA E)).length < 64 := by
    have : (kyA (tA E)).length = E.length := by simp [kyA, tA, hlen]
    rw [this, h.len]; omega
  generalize hs : (en 0 E).foldl (fun s p => (putA s.1 (tV p).1 (tV p).2, some (D.int p.1), some (D.int p.2))) (([], none, none) : Asc × Option D × Option D) = s at lp hA
  have lp' : loopS (setT [2, 3]) b_exchange_turned_2 ((en 0 E).map dPair) [some (.tup (E.map D.int)), some (.dct [] []), none, none, none] S0 = .ok (.nx [some (.tup (E.map D.int)), some (dAsc (tA E)), s.2.1, s.2.2, none], S0) := by rw [← hA]; exact lp
  have hso : gSortedA [dAsc (tA E)] = some (.lst ((keysA (tA E)).map D.int)) := by
    simp only [dAsc, gSortedA, if_pos hk, intKeys_asc, Option.map_some]
    rfl
  have cl := comp_all (set := setN 4) (elt := binM gIxA (varM 1) (varM 4)) (env0 := [some (.tup (E.map D.int)), some (dAsc (tA E)), s.2.1, s.2.2, none]) (S := S0) D.int (fun v => D.int (look (tA E) v)) (keysA (tA E)) fun v hv => by
    refine ⟨[some (.tup (E.map D.int)), some (dAsc (tA E)), s.2.1, s.2.2, some (.int v)], rfl, ?_⟩
    have e1 : gIxA (dAsc (tA E)) (.int v) = some (.int (look (tA E) v)) := by unfold dAsc gIxA; exact dlook_has _ v (hasA_mem.mpr ((perm_keys _).mem_iff.mp hv))
    simp only [startE, List.map_cons, List.map_nil, Nat.reduceSub, List.replicate_succ, List.replicate_zero, seqS, ifS, retS, asgS, dropS, nextS, retN, unpS, parS, par3S, parOS, appS, setA, popM, nxSet, nxUnp, appPopM, forS, forR, forE, raiseS, varM, cM, unM, binM, chM, tupM, lstM, nilA, consA, testM, andT, orT, notT, andV, orV, notV, ifM, cbM, callP, callS, bindM, ofO, liftP, endP, endS, get2M, gGet2, VS.keyD, setAll, setN, setT, wipeE, List.getElem?_cons_zero, List.getElem?_cons_succ, List.set_cons_zero, List.set_cons_succ, List.append_nil, List.cons_append, List.nil_append, List.length_cons, List.length_nil, Nat.zero_add, Nat.reduceAdd, Nat.reduceLeDiff, Nat.zero_le, if_true, if_false, Bool.false_eq_true, Bool.not_true, Bool.not_false, gII, gAdd, gEq_int, gNe_int, reduceCtorEq, e1]
  unfold G_exchange_turned g_exchange_turned
  simp only [startE, List.map_cons, List.map_nil, Nat.reduceSub, List.replicate_succ, List.replicate_zero, seqS, ifS, retS, asgS, dropS, nextS, retN, unpS, parS, par3S, parOS, appS, setA, popM, nxSet, nxUnp, appPopM, forS, forR, forE, raiseS, varM, cM, unM, binM, chM, tupM, lstM, nilA, consA, testM, andT, orT, notT, andV, orV, notV, ifM, cbM, callP, callS, bindM, ofO, liftP, endP, endS, get2M, gGet2, VS.keyD, setAll, setN, setT, wipeE, List.getElem?_cons_zero, List.getElem?_cons_succ, List.set_cons_zero, List.set_cons_succ, List.append_nil, List.cons_append, List.nil_append, List.length_cons, List.length_nil, Nat.zero_add, Nat.reduceAdd, Nat.reduceLeDiff, Nat.zero_le, if_true, if_false, Bool.false_eq_true, Bool.not_true, Bool.not_false, gII, gAdd, gEq_int, gNe_int, reduceCtorEq, tupDI, e0, lp', hso, lcM, cl, gTuple_lst]
  unfold turnX
  rw [List.map_map]
  rfl
theorem p_turned_ok (hm : 1 ≤ many) (hm2 : many ≤ 63) (h : OkX many E) : G_turned [.int many, tupDI E] = .ok (tupDI (turnX E)) := by
  unfold G_turned g_turned
  simp only [startE, List.map_cons, List.map_nil, Nat.reduceSub, List.replicate_succ, List.replicate_zero, seqS, ifS, retS, asgS, dropS, nextS, retN, unpS, parS, par3S, parOS, appS, setA, popM, nxSet, nxUnp, appPopM, forS, forR, forE, raiseS, varM, cM, unM, binM, chM, tupM, lstM, nilA, consA, testM, andT, orT, notT, andV, orV, notV, ifM, cbM, callP, callS, bindM, ofO, liftP, endP, endS, get2M, gGet2, VS.keyD, setAll, setN, setT, wipeE, List.getElem?_cons_zero, List.getElem?_cons_succ, List.set_cons_zero, List.set_cons_succ, List.append_nil, List.cons_append, List.nil_append, List.length_cons, List.length_nil, Nat.zero_add, Nat.reduceAdd, Nat.reduceLeDiff, Nat.zero_le, if_true, if_false, Bool.false_eq_true, Bool.not_true, Bool.not_false, gII, gAdd, gEq_int, gNe_int, reduceCtorEq, many_good hm (by omega : many ≤ 600), check_exch_ok (by omega) (by omega) h, turned_ok hm2 h]
end
end My
namespace My
open PySem PySem.Spec L2 VS
section
variable {many : Int} {E : List Int} {f : List Int} {r q : Trm × Int}
theorem sorted_full : ∀ (l : List Int) (lo : Int), l.Pairwise (· < ·) → (∀ x ∈ l, lo < x ∧ x ≤ lo + l.length) → l = (List.range l.length).map fun (i : Nat) => lo + 1 + i
  | [], _, _, _ => rfl
  | x :: l, lo, hp, h => by
    rw [List.pairwise_cons] at hp
    have hx := h x List.mem_cons_self
    have h1 : ∀ y ∈ l, x < y ∧ y ≤ lo + (x :: l).length := fun y hy => ⟨hp.1 y hy, (h y (List.mem_cons_of_mem _ hy)).2⟩
    have h2 : (l.length : Int) ≤ lo + (x :: l).length - x := by
      have := inc_len (l.map fun y => (y - lo).toNat) (x - lo).toNat (x :: l).length (by
        rw [List.pairwise_map]
        exact hp.2.imp_of_mem fun {a b} ha hb hab => by have := h1 a ha; have := h1 b hb; omega) fun z hz => by
        obtain ⟨y, hy, rfl⟩ := List.mem_map.mp hz
        have := h1 y hy
        simp only [List.length_cons] at this ⊢
        omega
      simp only [List.length_cons, List.length_map] at this hx ⊢
      omega
    have e : x = lo + 1 := by simp only [List.length_cons] at h2; omega
    have ih := sorted_full l (lo + 1) hp.2 fun y hy => by
      have := h1 y hy
      simp only [List.length_cons] at this
      omega
    rw [List.length_cons, List.range_succ_eq_map, List.map_cons, List.map_map]
    have e2 : (List.range l.length).map ((fun (i : Nat) => lo + 1 + (i : Int)) ∘ Nat.succ) = (List.range l.length).map fun (i : Nat) => lo + 1 + 1 + (i : Int) := by
      apply List.map_congr_left
      intro i _
      simp only [Function.comp, Nat.succ_eq_add_one]
      omega
    rw [e2, ← ih, e]
    simp
theorem keys_full (h : OkX many E) : keysA (tA E) = (List.range many.toNat).map fun (i : Nat) => 1 + (i : Int) := by
  have hn : ((tA E).map (·.1)).Nodup := by rw [tA_keys]; exact nodup_absI h.nd
  have hlen : (keysA (tA E)).length = many.toNat := by rw [(perm_keys _).length_eq, tA_keys, List.length_map, h.len]
  have := sorted_full (keysA (tA E)) 0 (keys_sorted hn) fun x hx => by
    have hx := (perm_keys _).mem_iff.mp hx
    rw [tA_keys] at hx
    obtain ⟨l, hl, rfl⟩ := List.mem_map.mp hx
    have := h.rg l hl
    have := absI_nat l
    rw [hlen]
    omega
  rw [this, hlen]
  simp
theorem look_of {m : Asc} {p : Int × Int} (hn : (m.map (·.1)).Nodup) (hp : p ∈ m) : look m p.1 = p.2 := by
  induction m with
  | nil => simp at hp
  | cons a m ih =>
    simp only [List.map_cons, List.nodup_cons] at hn
    rcases List.mem_cons.mp hp with z | z
    · subst z; simp [look]
    · have : a.1 ≠ p.1 := fun e => hn.1 (e ▸ List.mem_map.mpr ⟨p, z, rfl⟩)
      simp only [look, if_neg this]
      exact ih hn.2 z
def imX (E : List Int) (l : Int) : Int := if 0 < l then E.getD (absI l - 1).toNat 0 else -E.getD (absI l - 1).toNat 0
theorem imX_im {l : Int} (h : InL E.length l) : imOf (litW E) l = .lit (imX E l) := by
  have ea := absI_nat l
  have h1 := h.1
  have h2 := h.2
  have hlt : (absI l - 1).toNat < E.length := by omega
  have e : (litW E).getD (absI l - 1).toNat .no = .lit (E.getD (absI l - 1).toNat 0) := by
    unfold litW
    rw [List.getD_eq_getElem?_getD, List.getElem?_map, List.getElem?_eq_getElem hlt, List.getD_eq_getElem?_getD, List.getElem?_eq_getElem hlt]
    rfl
  unfold imOf imX
  rw [e]
  split <;> rfl
theorem turnX_at (h : OkX many E) {i : Nat} (hi : i < many.toNat) : (turnX E)[i]? = some (look (tA E) (1 + (i : Int))) := by
  unfold turnX
  rw [keys_full h, List.map_map]
  simp [hi]
theorem turnX_len (h : OkX many E) : (turnX E).length = many.toNat := by
  unfold turnX
  rw [keys_full h]
  simp
theorem at_of (h : OkX many E) {i : Nat} {l : Int} (hl : E[i]? = some l) : look (tA E) (absI l) = if 0 < l then (i : Int) + 1 else -((i : Int) + 1) := by
  have hn : ((tA E).map (·.1)).Nodup := by rw [tA_keys]; exact nodup_absI h.nd
  have hm : ((i : Int), l) ∈ en 0 E := en_mem.mpr ⟨i, hl, by simp⟩
  exact look_of (p := tV ((i : Int), l)) hn (List.mem_map.mpr ⟨_, hm, rfl⟩)
theorem surj (h : OkX many E) {j : Nat} (hj : j < many.toNat) : ∃ (i : Nat) (l : Int), E[i]? = some l ∧ absI l = (j : Int) + 1 := by
  have : (1 + (j : Int)) ∈ keysA (tA E) := by rw [keys_full h]; exact List.mem_map.mpr ⟨j, List.mem_range.mpr hj, rfl⟩
  have := (perm_keys _).mem_iff.mp this
  rw [tA_keys] at this
  obtain ⟨l, hl, e⟩ := List.mem_map.mp this
  obtain ⟨i, hi⟩ := List.getElem?_of_mem hl
  exact ⟨i, l, hi, by omega⟩
theorem nd_idx (h : OkX many E) {i j : Nat} {l m : Int} (hi : E[i]? = some l) (hj : E[j]? = some m) (e : absI l = absI m) : i = j := by
  have hn := nodup_absI h.nd
  have h1 : (E.map absI)[i]? = some (absI l) := by rw [List.getElem?_map, hi]; rfl
  have h2 : (E.map absI)[j]? = some (absI l) := by rw [List.getElem?_map, hj, e]; rfl
  obtain ⟨a1, b1⟩ := List.getElem?_eq_some_iff.mp h1
  obtain ⟨a2, b2⟩ := List.getElem?_eq_some_iff.mp h2
  rw [List.nodup_iff_pairwise_ne, List.pairwise_iff_getElem] at hn
  rcases Nat.lt_trichotomy i j with z | z | z
  · exact absurd (b1.trans b2.symm) (hn i j a1 a2 z)
  · exact z
  · exact absurd (b2.trans b1.symm) (hn j i a2 a1 z)
theorem turn_eq (h : OkX many E) {i : Nat} {l : Int} (hl : E[i]? = some l) : imX (turnX E) l = (i : Int) + 1 := by
  have hr := h.rg l (List.mem_of_getElem? hl)
  have ea := absI_nat l
  have e1 := turnX_at h (i := (absI l - 1).toNat) (by omega)
  rw [show (1 + (((absI l - 1).toNat : Nat) : Int)) = absI l by omega, at_of h hl] at e1
  unfold imX
  rw [List.getD_eq_getElem?_getD, e1]
  simp only [Option.getD_some]
  split <;> rename_i h0
  · simp [h0]
  · simp [h0]
theorem turnX_ok (h : OkX many E) : OkX many (turnX E) := by
  have vals : ∀ j, j < many.toNat → ∃ (i : Nat) (l : Int), E[i]? = some l ∧ absI l = (j : Int) + 1 ∧ (turnX E)[j]? = some (if 0 < l then (i : Int) + 1 else -((i : Int) + 1)) := fun j hj => by
    obtain ⟨i, l, h1, h2⟩ := surj h hj
    refine ⟨i, l, h1, h2, ?_⟩
    rw [turnX_at h hj, show (1 + (j : Int)) = absI l by omega, at_of h h1]
  have hl := turnX_len h
  refine ⟨hl, fun x hx => ?_, ?_⟩
  · obtain ⟨j, hj⟩ := List.getElem?_of_mem hx
    have hlt : j < many.toNat := by rw [← hl]; exact (List.getElem?_eq_some_iff.mp hj).1
    obtain ⟨i, l, h1, h2, h3⟩ := vals j hlt
    rw [hj] at h3
    cases h3
    have := (List.getElem?_eq_some_iff.mp h1).1
    rw [h.len] at this
    split <;> omega
  · rw [List.nodup_iff_pairwise_ne, List.pairwise_iff_getElem]
    intro a b ha hb hab e
    rw [List.length_map] at ha hb
    obtain ⟨i, l, h1, h2, h3⟩ := vals a (by omega)
    obtain ⟨i', l', h1', h2', h3'⟩ := vals b (by omega)
    rw [List.getElem_map, List.getElem_map] at e
    have g1 := (List.getElem?_eq_some_iff.mp h3).2
    have g2 := (List.getElem?_eq_some_iff.mp h3').2
    rw [g1, g2] at e
    have : i = i' := by split at e <;> split at e <;> omega
    subst this
    rw [h1] at h1'
    cases h1'
    omega
theorem imX_at {l : Int} {v : Int} (hl : 1 ≤ l.natAbs) (hv : E[(absI l - 1).toNat]? = some v) : imX E l = if 0 < l then v else -v := by
  unfold imX
  rw [List.getD_eq_getElem?_getD, hv]
  rfl
theorem turn_eq2 (h : OkX many E) {j : Nat} {m : Int} (hm : (turnX E)[j]? = some m) : imX E m = (j : Int) + 1 := by
  have hj : j < many.toNat := by rw [← turnX_len h]; exact (List.getElem?_eq_some_iff.mp hm).1
  obtain ⟨i, l, h1, h2⟩ := surj h hj
  rw [turnX_at h hj, show (1 + (j : Int)) = absI l by omega, at_of h h1] at hm
  have ea := absI_nat l
  by_cases h0 : 0 < l
  · rw [if_pos h0] at hm
    cases hm
    have e : absI ((i : Int) + 1) = (i : Int) + 1 := by have := absI_nat ((i : Int) + 1); omega
    rw [imX_at (v := l) (by omega) (by rw [e]; simpa using h1), if_pos (by omega)]
    omega
  · rw [if_neg h0] at hm
    cases hm
    have e : absI (-((i : Int) + 1)) = (i : Int) + 1 := by have := absI_nat (-((i : Int) + 1)); omega
    rw [imX_at (v := l) (by omega) (by rw [e]; simpa using h1), if_neg (by omega)]
    omega
theorem turn_turn (h : OkX many E) : turnX (turnX E) = E := by
  have hB := turnX_ok h
  apply List.ext_getElem?
  intro m
  by_cases hm : m < many.toNat
  · obtain ⟨j, b, h1, h2⟩ := surj hB hm
    have e1 := turn_eq hB h1
    have e2 := turn_eq2 h h1
    have hb := hB.rg b (List.mem_of_getElem? h1)
    have hab := absI_nat b
    have c1 := turnX_at hB hm
    obtain ⟨v, hv⟩ : ∃ v, E[m]? = some v := ⟨_, List.getElem?_eq_getElem (by rw [h.len]; exact hm)⟩
    have hidx : (absI b - 1).toNat = m := by omega
    rw [imX_at (E := turnX (turnX E)) (v := look (tA (turnX E)) (1 + (m : Int))) hb.1 (by rw [hidx]; exact c1)] at e1
    rw [imX_at (E := E) (v := v) hb.1 (by rw [hidx]; exact hv)] at e2
    rw [c1, hv]
    congr 1
    split at e1 <;> split at e2 <;> omega
  · rw [List.getElem?_eq_none (by rw [turnX_len hB]; omega), List.getElem?_eq_none (by rw [h.len]; omega)]
theorem led_x (hE : OkX many E) (hB : OkX many B) (h : ∀ (i : Nat) (l : Int), E[i]? = some l → imX B l = (i : Int) + 1) (hf : FlOk many.toNat f) : ledF (litW E) (ledF (litW B) f) = f := by
  apply List.ext_getElem?
  intro i
  unfold ledF litW
  rw [List.getElem?_map, List.getElem?_map]
  by_cases hi : i < many.toNat
  · obtain ⟨l, hl⟩ : ∃ l, E[i]? = some l := ⟨_, List.getElem?_eq_getElem (by rw [hE.len]; exact hi)⟩
    have hr := hE.rg l (List.mem_of_getElem? hl)
    rw [hl]
    have hin : InL many.toNat l := ⟨hr.1, by omega⟩
    have e := wv_led (f := f) hB.w hin
    rw [imX_im (by rw [hB.len]; exact hin), h i l hl] at e
    have hlt : i < f.length := by rw [hf.1]; exact hi
    rw [List.getElem?_eq_getElem hlt]
    show some (wv (ledF (litW B) f) l) = _
    rw [e]
    show some (wv f ((i : Int) + 1)) = _
    unfold wv
    rw [if_pos (by omega), show ((i : Int) + 1 - 1).toNat = i by omega, List.getD_eq_getElem?_getD, List.getElem?_eq_getElem hlt]
    rfl
  · rw [List.getElem?_eq_none (by rw [hE.len]; omega), List.getElem?_eq_none (by rw [hf.1]; omega)]
    rfl
theorem led_back (h : OkX many E) (hf : FlOk many.toNat f) : ledF (litW E) (ledF (litW (turnX E)) f) = f := led_x h (turnX_ok h) (fun i l hl => turn_eq h hl) hf
theorem led_back2 (h : OkX many E) (hf : FlOk many.toNat f) : ledF (litW (turnX E)) (ledF (litW E) f) = f := led_x (turnX_ok h) h (fun i l hl => turn_eq2 h hl) hf
theorem sur_x (h : OkX many E) (hr : OkR many r) (hf : FlOk many.toNat f) : sur (ledR (litW E) r) f = sur r (ledF (litW E) f) := by
  obtain ⟨a, a0, a1, _⟩ := led_sur h.w hr
  have x := (a1 f hf).1
  obtain ⟨g, hg, hz⟩ := cm_zero hr.t
  have y := (a1 (ledF (litW (turnX E)) g) (ledF_ok (turnX_ok h).w hg)).2
  rw [led_back h hg] at y
  have : sur r g = 0 - r.2 := by unfold sur; rw [hz]
  have := hr.b
  have : ¬ 0 < a := fun z => by have := y z; omega
  omega
theorem row_back (h : OkX many E) (hr : OkR many r) : ledR (litW (turnX E)) (ledR (litW E) r) = r := by
  have hB := turnX_ok h
  have h1 := ledR_ok h.w hr
  refine row_unique (ledR_ok hB.w h1) hr fun f hf => ?_
  have e1 := sur_x hB h1 hf
  have e2 := sur_x h hr (ledF_ok hB.w hf)
  rw [led_back h hf] at e2
  unfold sur at e1 e2
  omega
theorem row_weights (h : OkX many E) (hr : OkR many r) : ((ledR (litW E) r).1.map (·.1)).Perm (r.1.map (·.1)) := by
  let le : Int × Int → Int × Int → Bool := fun a b => decide (a.2.natAbs ≤ b.2.natAbs)
  let g : Int × Int → Int × Int := fun p => (p.1, imX E p.2)
  have hin := hr.t.inL
  have rg : ∀ p ∈ r.1, 1 ≤ (g p).2.natAbs ∧ ((g p).2.natAbs : Int) ≤ many := fun p hp => imOf_ok h.w (hin p hp) (imX_im (by rw [h.len]; exact hin p hp))
  have nd : ((r.1.map g).map fun p => p.2.natAbs).Nodup := by
    rw [List.map_map, List.nodup_iff_pairwise_ne, List.pairwise_map]
    have hinc := hr.t.inc
    rw [List.pairwise_map] at hinc
    refine hinc.imp_of_mem fun {a b} ha hb hab e => ?_
    have i1 := hin a ha
    have i2 := hin b hb
    have a1 := absI_nat a.2
    have a2 := absI_nat b.2
    obtain ⟨u, hu⟩ : ∃ u, E[(absI a.2 - 1).toNat]? = some u := ⟨_, List.getElem?_eq_getElem (by rw [h.len]; have := i1.1; have := i1.2; omega)⟩
    obtain ⟨v, hv⟩ : ∃ v, E[(absI b.2 - 1).toNat]? = some v := ⟨_, List.getElem?_eq_getElem (by rw [h.len]; have := i2.1; have := i2.2; omega)⟩
    simp only [Function.comp, g] at e
    rw [imX_at i1.1 hu, imX_at i2.1 hv] at e
    have := nd_idx h hu hv (by have := absI_nat u; have := absI_nat v; split at e <;> split at e <;> omega)
    have := i1.1
    have := i2.1
    omega
  have pm : (r.1.map g).mergeSort le |>.Perm (r.1.map g) := List.mergeSort_perm _ _
  have hq : OkR many ((r.1.map g).mergeSort le, r.2) := by
    refine ⟨⟨fun p hp => ?_, fun p hp => ?_, ?_⟩, hr.b⟩
    · obtain ⟨q, hq, rfl⟩ := List.mem_map.mp (pm.mem_iff.mp hp); exact hr.t.w q hq
    · obtain ⟨q, hq, rfl⟩ := List.mem_map.mp (pm.mem_iff.mp hp); exact rg q hq
    · have p1 : ((r.1.map g).mergeSort le).Pairwise fun a b => le a b = true := List.pairwise_mergeSort (le := le) (fun a b c x y => by simp [le] at *; omega) (fun a b => by simp [le]; omega) _
      have p2 : (((r.1.map g).mergeSort le).map fun p => p.2.natAbs).Nodup := (pm.map _).nodup_iff.mpr nd
      rw [List.pairwise_map]
      rw [List.nodup_iff_pairwise_ne, List.pairwise_map] at p2
      exact p1.imp₂ (fun a b x y => by have := of_decide_eq_true x; omega) p2
  have e : ledR (litW E) r = ((r.1.map g).mergeSort le, r.2) := by
    refine row_unique (ledR_ok h.w hr) hq fun f hf => ?_
    have x := sur_x h hr hf
    unfold sur at x
    rw [x, cm_sv hf hq.t.inL, cm_sv (ledF_ok h.w hf) hin]
    have y : sv ((r.1.map g).mergeSort le) f = sv (r.1.map g) f := sum_perm (pm.map _)
    have z : sv (r.1.map g) f = sv r.1 (ledF (litW E) f) := by
      unfold sv
      rw [List.map_map]
      congr 1
      apply List.map_congr_left
      intro p hp
      simp only [Function.comp, g]
      rw [wv_led h.w (hin p hp), imX_im (by rw [h.len]; exact hin p hp)]
      rfl
    rw [y, z]
  rw [e]
  have := pm.map (·.1)
  rw [List.map_map] at this
  exact this
theorem due_x (h : OkX many E) (hr : OkR many r) (hq : OkR many q) : ((ledR (litW E) q).2 ≤ (ledR (litW E) r).2 - miss (ledR (litW E) r).1 (ledR (litW E) q).1) ↔ q.2 ≤ r.2 - miss r.1 q.1 := by
  rw [← fact (ledR_ok h.w hr).t (ledR_ok h.w hq).t, ← fact hr.t hq.t]
  constructor
  · intro k f hf
    have e := k (ledF (litW (turnX E)) f) (ledF_ok (turnX_ok h).w hf)
    have x := sur_x h hr (ledF_ok (turnX_ok h).w hf)
    have y := sur_x h hq (ledF_ok (turnX_ok h).w hf)
    rw [led_back h hf] at x y
    unfold sur at x y
    omega
  · intro k f hf
    have e := k (ledF (litW E) f) (ledF_ok h.w hf)
    have x := sur_x h hr hf
    have y := sur_x h hq hf
    unfold sur at x y
    omega
end
end My
namespace My
open PySem PySem.Spec L2 VS
inductive All2 {α β : Type} (R : α → β → Prop) : List α → List β → Prop where
  | nil : All2 R [] []
  | cons {a : α} {b : β} {as : List α} {bs : List β} : R a b → All2 R as bs → All2 R (a :: as) (b :: bs)
theorem All2.map_eq {α β γ : Type} {R : α → β → Prop} {u : α → γ} {v : β → γ} (h : ∀ a b, R a b → u a = v b) : ∀ {as : List α} {bs : List β}, All2 R as bs → as.map u = bs.map v
  | _, _, .nil => rfl
  | _, _, .cons r s => by rw [List.map_cons, List.map_cons, h _ _ r, s.map_eq h]
theorem All2.mem {α β : Type} {R : α → β → Prop} {b : β} : ∀ {as : List α} {bs : List β}, All2 R as bs → b ∈ bs → ∃ a ∈ as, R a b
  | _, _, .nil, h => by simp at h
  | _, _, .cons r s, h => by
    rcases List.mem_cons.mp h with z | z
    · subst z; exact ⟨_, List.mem_cons_self, r⟩
    · obtain ⟨a, h1, h2⟩ := s.mem z; exact ⟨a, List.mem_cons_of_mem _ h1, h2⟩
theorem All2.length {α β : Type} {R : α → β → Prop} : ∀ {as : List α} {bs : List β}, All2 R as bs → as.length = bs.length
  | _, _, .nil => rfl
  | _, _, .cons _ s => by rw [List.length_cons, List.length_cons, s.length]
theorem comp_st {α β : Type} {set : VS.Env → D → Option VS.Env} {elt : ME} {env0 : VS.Env} (c : Nat) (enc : α → D) (encb : β → D) (R : α → β → Prop) : ∀ (xs : List α) (k : Nat) (S : DS), Good (c * xs.length + k) S →
    (∀ x ∈ xs, ∀ (k : Nat) (S : DS), Good (c + k) S → ∃ env1 y S', set env0 (enc x) = some env1 ∧ elt env1 S = .ok (encb y, S') ∧ R x y ∧ Good k S') → ∃ ys S', compM set (fun _ S => .ok (true, S)) elt env0 (xs.map enc) S = .ok (ys.map encb, S') ∧ All2 R xs ys ∧ Good k S'
  | [], k, S, g, _ => ⟨[], S, rfl, .nil, g.mono (by simp)⟩
  | x :: xs, k, S, g, h => by
    obtain ⟨env1, y, S1, h1, h2, h3, g1⟩ := h x List.mem_cons_self (c * xs.length + k) S (g.mono (by rw [List.length_cons, Nat.mul_succ]; omega))
    obtain ⟨ys, S2, h4, h5, g2⟩ := comp_st c enc encb R xs k S1 g1 fun z hz => h z (List.mem_cons_of_mem _ hz)
    refine ⟨y :: ys, S2, ?_, .cons h3 h5, g2⟩
    simp only [List.map_cons, compM, h1, noX, bindM, if_true, h2, h4]
def upto (n : Nat) : List Int := (List.range n).map fun (i : Nat) => 1 + (i : Int)
theorem upto_d (n : Nat) : intsD 1 n = (upto n).map D.int := by unfold intsD upto; rw [List.map_map]; rfl
theorem range_upto {many : Int} (h : 0 ≤ many) (h2 : many ≤ 1000) : rangeOf [.int 1, .int (many + 1)] = some ((upto many.toNat).map D.int) := by
  rw [← upto_d]
  simp only [rangeOf]
  rw [if_pos (by omega), show (many + 1 - 1).toNat = many.toNat by omega]
theorem upto_len (n : Nat) : (upto n).length = n := by simp [upto]
theorem upto_rg {n : Nat} {x : Int} (h : x ∈ upto n) : 1 ≤ x ∧ x ≤ n := by
  obtain ⟨i, hi, rfl⟩ := List.mem_map.mp h
  have := List.mem_range.mp hi
  omega
theorem upto_nd (n : Nat) : ((upto n).map Int.natAbs).Nodup := by
  unfold upto
  rw [List.map_map, List.nodup_iff_pairwise_ne, List.pairwise_map]
  have := List.nodup_range (n := n)
  rw [List.nodup_iff_pairwise_ne] at this
  exact this.imp fun h e => h (by simp only [Function.comp] at e; omega)
theorem ints_ne (ns : List Int) : gNe (.lst (ns.map D.int)) (.lst []) = some (.bl (!ns.isEmpty)) := lst_ne ns
theorem mixed_while : ∀ (n : Nat) (line found : List Int) (S : DS) (k : Nat) (x : D), line.length < n → found.length + line.length ≤ 1000 → Good (line.length + k) S →
    ∃ (out : List Int) (S' : DS), whileS (testM (binM gNe (varM 2) (lstM nilA))) b__law_mixed_1 n [some .st, some x, some (.lst (line.map D.int)), some (.lst (found.map D.int))] S = .ok (.nx [some .st, some x, some (.lst []), some (.lst (out.map D.int))], S') ∧ out.Perm (found ++ line) ∧ Good k S'
  | 0, _, _, _, _, _, h, _, _ => by omega
  | n + 1, line, found, S, k, x, hn, hl, g => by
    by_cases hz : line = []
    · subst hz
      refine ⟨found, S, ?_, by simp, g.mono (by simp)⟩
      have e := ints_ne []
      simp only [List.map_nil] at e
      simp only [whileS]
      simp only [startE, List.map_cons, List.map_nil, Nat.reduceSub, List.replicate_succ, List.replicate_zero, seqS, ifS, retS, asgS, dropS, nextS, retN, unpS, parS, par3S, parOS, appS, setA, popM, nxSet, nxUnp, appPopM, forS, forR, forE, raiseS, varM, cM, unM, binM, chM, tupM, lstM, nilA, consA, testM, andT, orT, notT, andV, orV, notV, ifM, cbM, callP, callS, bindM, ofO, liftP, endP, endS, get2M, gGet2, VS.keyD, setAll, setN, setT, wipeE, List.getElem?_cons_zero, List.getElem?_cons_succ, List.set_cons_zero, List.set_cons_succ, List.append_nil, List.cons_append, List.nil_append, List.length_cons, List.length_nil, Nat.zero_add, Nat.reduceAdd, Nat.reduceLeDiff, Nat.zero_le, if_true, if_false, Bool.false_eq_true, Bool.not_true, Bool.not_false, gII, gAdd, gEq_int, gNe_int, reduceCtorEq, e, List.isEmpty_nil]
    · have hz2 : line.isEmpty = false := by cases line <;> simp_all
      have hp0 : 0 < line.length := List.length_pos_iff.mpr hz
      obtain ⟨i, S1, e, r0, r1, g1⟩ := draw_ok (n := (line.length : Int)) (k := line.length - 1 + k) (by omega) (by omega) (g.mono (by omega))
      have hlt : i.toNat < line.length := by omega
      obtain ⟨v, hv⟩ : ∃ v, line[i.toNat]? = some v := ⟨_, List.getElem?_eq_getElem hlt⟩
      have hel : (line.eraseIdx i.toNat).length = line.length - 1 := List.length_eraseIdx_of_lt hlt
      obtain ⟨out, S2, h1, h2, g2⟩ := mixed_while n (line.eraseIdx i.toNat) (found ++ [v]) S1 k x (by rw [hel]; omega) (by rw [List.length_append, hel, List.length_singleton]; omega) (g1.mono (by rw [hel]; omega))
      have e1 := ints_ne line
      have hq : seqIndex? i line.length = some i.toNat := by
        unfold seqIndex?
        simp only [if_neg (show ¬ i < 0 by omega)]
        rw [if_pos (by simp; omega)]
      have hv2 : (line.map D.int)[i.toNat]? = some (.int v) := by rw [List.getElem?_map, hv]; rfl
      have he : (line.map D.int).eraseIdx i.toNat = (line.eraseIdx i.toNat).map D.int := erase_map D.int _ _
      have hb : -1000000 ≤ i ∧ i ≤ 1000000 ∧ (found.map D.int).length < 1000000 := ⟨by omega, by omega, by rw [List.length_map]; omega⟩
      have hf : found.map D.int ++ [.int v] = (found ++ [v]).map D.int := by simp
      refine ⟨out, S2, ?_, h2.trans ?_, g2⟩
      · rw [← h1]
        simp only [whileS]
        have step : b__law_mixed_1 [some .st, some x, some (.lst (line.map D.int)), some (.lst (found.map D.int))] S = .ok (.nx [some .st, some x, some (.lst ((line.eraseIdx i.toNat).map D.int)), some (.lst ((found ++ [v]).map D.int))], S1) := by
          unfold b__law_mixed_1
          simp only [startE, List.map_cons, List.map_nil, Nat.reduceSub, List.replicate_succ, List.replicate_zero, seqS, ifS, retS, asgS, dropS, nextS, retN, unpS, parS, par3S, parOS, appS, setA, popM, nxSet, nxUnp, appPopM, forS, forR, forE, raiseS, varM, cM, unM, binM, chM, tupM, lstM, nilA, consA, testM, andT, orT, notT, andV, orV, notV, ifM, cbM, callP, callS, bindM, ofO, liftP, endP, endS, get2M, gGet2, VS.keyD, setAll, setN, setT, wipeE, List.getElem?_cons_zero, List.getElem?_cons_succ, List.set_cons_zero, List.set_cons_succ, List.append_nil, List.cons_append, List.nil_append, List.length_cons, List.length_nil, Nat.zero_add, Nat.reduceAdd, Nat.reduceLeDiff, Nat.zero_le, if_true, if_false, Bool.false_eq_true, Bool.not_true, Bool.not_false, gII, gAdd, gEq_int, gNe_int, reduceCtorEq, gLenA, List.length_map, e, hq, hv2, he]
          rw [List.length_map] at hb
          rw [if_pos hb, hf]
        simp only [startE, List.map_cons, List.map_nil, Nat.reduceSub, List.replicate_succ, List.replicate_zero, seqS, ifS, retS, asgS, dropS, nextS, retN, unpS, parS, par3S, parOS, appS, setA, popM, nxSet, nxUnp, appPopM, forS, forR, forE, raiseS, varM, cM, unM, binM, chM, tupM, lstM, nilA, consA, testM, andT, orT, notT, andV, orV, notV, ifM, cbM, callP, callS, bindM, ofO, liftP, endP, endS, get2M, gGet2, VS.keyD, setAll, setN, setT, wipeE, List.getElem?_cons_zero, List.getElem?_cons_succ, List.set_cons_zero, List.set_cons_succ, List.append_nil, List.cons_append, List.nil_append, List.length_cons, List.length_nil, Nat.zero_add, Nat.reduceAdd, Nat.reduceLeDiff, Nat.zero_le, if_true, if_false, Bool.false_eq_true, Bool.not_true, Bool.not_false, gII, gAdd, gEq_int, gNe_int, reduceCtorEq, e1, hz2, step]
      · rw [List.append_assoc]
        refine List.Perm.append_left _ ?_
        have : line = line.take i.toNat ++ v :: line.drop (i.toNat + 1) := by
          obtain ⟨_, hh⟩ := List.getElem?_eq_some_iff.mp hv
          rw [← hh, ← List.drop_eq_getElem_cons hlt, List.take_append_drop]
        have h3 : line.eraseIdx i.toNat = line.take i.toNat ++ line.drop (i.toNat + 1) := List.eraseIdx_eq_take_drop_succ _ _
        rw [h3]
        conv => rhs; rw [this]
        exact (List.perm_middle (a := v) (l₁ := line.take i.toNat) (l₂ := line.drop (i.toNat + 1))).symm
theorem mixed_ok {line : List Int} {k : Nat} {S : DS} (hl : line.length ≤ 1000) (g : Good (line.length + k) S) : ∃ (out : List Int) (S' : DS), G__law_mixed [.st, .lst (line.map D.int)] S = .ok (.lst (out.map D.int), S') ∧ out.Perm line ∧ Good k S' := by
  obtain ⟨out, S', h1, h2, g'⟩ := mixed_while 100000 line [] S k (.lst (line.map D.int)) (by omega) (by simpa using hl) g
  simp only [List.map_nil] at h1
  refine ⟨out, S', ?_, by simpa using h2, g'⟩
  unfold G__law_mixed g__law_mixed
  simp only [startE, List.map_cons, List.map_nil, Nat.reduceSub, List.replicate_succ, List.replicate_zero, seqS, ifS, retS, asgS, dropS, nextS, retN, unpS, parS, par3S, parOS, appS, setA, popM, nxSet, nxUnp, appPopM, forS, forR, forE, raiseS, varM, cM, unM, binM, chM, tupM, lstM, nilA, consA, testM, andT, orT, notT, andV, orV, notV, ifM, cbM, callP, callS, bindM, ofO, liftP, endP, endS, get2M, gGet2, VS.keyD, setAll, setN, setT, wipeE, List.getElem?_cons_zero, List.getElem?_cons_succ, List.set_cons_zero, List.set_cons_succ, List.append_nil, List.cons_append, List.nil_append, List.length_cons, List.length_nil, Nat.zero_add, Nat.reduceAdd, Nat.reduceLeDiff, Nat.zero_le, if_true, if_false, Bool.false_eq_true, Bool.not_true, Bool.not_false, gII, gAdd, gEq_int, gNe_int, reduceCtorEq, gList, h1]
def lineE : ME := ifM (testM (binM gGt (callS G__law_draw (consA (varM 0) (consA (cM (.int 3)) nilA))) (cM (.int 0)))) (callS G__law_mixed (consA (varM 0) (consA (lrg2 (cM (.int 1)) (binM gAdd (varM 1) (cM (.int 1)))) nilA))) (lrg2 (cM (.int 1)) (binM gAdd (varM 1) (cM (.int 1))))
theorem exch_def : g__law_exchange = seqS (asgS 2 lineE) (retS (cbM gTuple (consA (lcM (setN 3) (varM 2) (fun _ S => .ok (true, S)) e__law_exchange_1 [3]) nilA))) := rfl
theorem exch_ok {many : Int} {k : Nat} {S : DS} (hm : 1 ≤ many) (hm2 : many ≤ 600) (g : Good (2 * many.toNat + 1 + k) S) : ∃ (E : List Int) (S' : DS), G__law_exchange [.st, .int many] S = .ok (tupDI E, S') ∧ OkX many E ∧ Good k S' := by
  obtain ⟨r, S1, e1, r0, r1, g1⟩ := draw_ok (n := 3) (k := 2 * many.toNat + k) (by omega) (by omega) (g.mono (by omega))
  have hr := range_upto (many := many) (by omega) (by omega)
  have hlen : ((upto many.toNat).map D.int).length ≤ 1000000 := by rw [List.length_map, upto_len]; omega
  have hul : (upto many.toNat).length ≤ 1000000 := by rw [upto_len]; omega
  -- the line
  have line : ∃ (L : List Int) (S2 : DS), lineE [some .st, some (.int many), none, none] S = .ok (.lst (L.map D.int), S2) ∧ L.Perm (upto many.toNat) ∧ Good (many.toNat + k) S2 := by
    by_cases hp : 0 < r
    · obtain ⟨out, S2, h1, h2, g2⟩ := mixed_ok (line := upto many.toNat) (k := many.toNat + k) (S := S1) (by rw [upto_len]; omega) (g1.mono (by rw [upto_len]; omega))
      refine ⟨out, S2, ?_, h2, g2⟩
      simp only [startE, List.map_cons, List.map_nil, Nat.reduceSub, List.replicate_succ, List.replicate_zero, seqS, ifS, retS, asgS, dropS, nextS, retN, unpS, parS, par3S, parOS, appS, setA, popM, nxSet, nxUnp, appPopM, forS, forR, forE, raiseS, varM, cM, unM, binM, chM, tupM, lstM, nilA, consA, testM, andT, orT, notT, andV, orV, notV, ifM, cbM, callP, callS, bindM, ofO, liftP, endP, endS, get2M, gGet2, VS.keyD, setAll, setN, setT, wipeE, List.getElem?_cons_zero, List.getElem?_cons_succ, List.set_cons_zero, List.set_cons_succ, List.append_nil, List.cons_append, List.nil_append, List.length_cons, List.length_nil, Nat.zero_add, Nat.reduceAdd, Nat.reduceLeDiff, Nat.zero_le, if_true, if_false, Bool.false_eq_true, Bool.not_true, Bool.not_false, gII, gAdd, gEq_int, gNe_int, reduceCtorEq, lineE, e1, hp, decide_true, lrg2, hr, List.length_map, hul, h1]
    · refine ⟨upto many.toNat, S1, ?_, .refl _, g1.mono (by omega)⟩
      simp only [startE, List.map_cons, List.map_nil, Nat.reduceSub, List.replicate_succ, List.replicate_zero, seqS, ifS, retS, asgS, dropS, nextS, retN, unpS, parS, par3S, parOS, appS, setA, popM, nxSet, nxUnp, appPopM, forS, forR, forE, raiseS, varM, cM, unM, binM, chM, tupM, lstM, nilA, consA, testM, andT, orT, notT, andV, orV, notV, ifM, cbM, callP, callS, bindM, ofO, liftP, endP, endS, get2M, gGet2, VS.keyD, setAll, setN, setT, wipeE, List.getElem?_cons_zero, List.getElem?_cons_succ, List.set_cons_zero, List.set_cons_succ, List.append_nil, List.cons_append, List.nil_append, List.length_cons, List.length_nil, Nat.zero_add, Nat.reduceAdd, Nat.reduceLeDiff, Nat.zero_le, if_true, if_false, Bool.false_eq_true, Bool.not_true, Bool.not_false, gII, gAdd, gEq_int, gNe_int, reduceCtorEq, lineE, e1, hp, decide_false, lrg2, hr, List.length_map, hul]
  obtain ⟨L, S2, hL, hperm, g2⟩ := line
  obtain ⟨ys, S3, h4, h5, g3⟩ := comp_st (set := setN 3) (elt := e__law_exchange_1) (env0 := [some .st, some (.int many), some (.lst (L.map D.int)), none]) 1 D.int D.int (fun x y : Int => y.natAbs = x.natAbs) L k S2 (g2.mono (by rw [hperm.length_eq, upto_len]; omega)) fun x hx k S g => by
    obtain ⟨q, S', e2, q0, q1, g'⟩ := draw_ok (n := 3) (k := k) (by omega) (by omega) (g.mono (by omega))
    by_cases hq : 0 < q
    · refine ⟨[some .st, some (.int many), some (.lst (L.map D.int)), some (.int x)], x, S', rfl, ?_, rfl, g'⟩
      simp only [startE, List.map_cons, List.map_nil, Nat.reduceSub, List.replicate_succ, List.replicate_zero, seqS, ifS, retS, asgS, dropS, nextS, retN, unpS, parS, par3S, parOS, appS, setA, popM, nxSet, nxUnp, appPopM, forS, forR, forE, raiseS, varM, cM, unM, binM, chM, tupM, lstM, nilA, consA, testM, andT, orT, notT, andV, orV, notV, ifM, cbM, callP, callS, bindM, ofO, liftP, endP, endS, get2M, gGet2, VS.keyD, setAll, setN, setT, wipeE, List.getElem?_cons_zero, List.getElem?_cons_succ, List.set_cons_zero, List.set_cons_succ, List.append_nil, List.cons_append, List.nil_append, List.length_cons, List.length_nil, Nat.zero_add, Nat.reduceAdd, Nat.reduceLeDiff, Nat.zero_le, if_true, if_false, Bool.false_eq_true, Bool.not_true, Bool.not_false, gII, gAdd, gEq_int, gNe_int, reduceCtorEq, e__law_exchange_1, e2, hq, decide_true]
    · refine ⟨[some .st, some (.int many), some (.lst (L.map D.int)), some (.int x)], 0 - x, S', rfl, ?_, by omega, g'⟩
      simp only [startE, List.map_cons, List.map_nil, Nat.reduceSub, List.replicate_succ, List.replicate_zero, seqS, ifS, retS, asgS, dropS, nextS, retN, unpS, parS, par3S, parOS, appS, setA, popM, nxSet, nxUnp, appPopM, forS, forR, forE, raiseS, varM, cM, unM, binM, chM, tupM, lstM, nilA, consA, testM, andT, orT, notT, andV, orV, notV, ifM, cbM, callP, callS, bindM, ofO, liftP, endP, endS, get2M, gGet2, VS.keyD, setAll, setN, setT, wipeE, List.getElem?_cons_zero, List.getElem?_cons_succ, List.set_cons_zero, List.set_cons_succ, List.append_nil, List.cons_append, List.nil_append, List.length_cons, List.length_nil, Nat.zero_add, Nat.reduceAdd, Nat.reduceLeDiff, Nat.zero_le, if_true, if_false, Bool.false_eq_true, Bool.not_true, Bool.not_false, gII, gAdd, gEq_int, gNe_int, reduceCtorEq, e__law_exchange_1, e2, hq, decide_false]
  have hab : L.map Int.natAbs = ys.map Int.natAbs := h5.map_eq fun a b h => h.symm
  have hperm2 : (ys.map Int.natAbs).Perm ((upto many.toNat).map Int.natAbs) := hab ▸ hperm.map _
  refine ⟨ys, S3, ?_, ⟨?_, fun l hl => ?_, ?_⟩, g3⟩
  · unfold G__law_exchange
    rw [exch_def]
    simp only [startE, List.map_cons, List.map_nil, Nat.reduceSub, List.replicate_succ, List.replicate_zero, seqS, ifS, retS, asgS, dropS, nextS, retN, unpS, parS, par3S, parOS, appS, setA, popM, nxSet, nxUnp, appPopM, forS, forR, forE, raiseS, varM, cM, unM, binM, chM, tupM, lstM, nilA, consA, testM, andT, orT, notT, andV, orV, notV, ifM, cbM, callP, callS, bindM, ofO, liftP, endP, endS, get2M, gGet2, VS.keyD, setAll, setN, setT, wipeE, List.getElem?_cons_zero, List.getElem?_cons_succ, List.set_cons_zero, List.set_cons_succ, List.append_nil, List.cons_append, List.nil_append, List.length_cons, List.length_nil, Nat.zero_add, Nat.reduceAdd, Nat.reduceLeDiff, Nat.zero_le, if_true, if_false, Bool.false_eq_true, Bool.not_true, Bool.not_false, gII, gAdd, gEq_int, gNe_int, reduceCtorEq, hL, lcM, h4, gTuple_lst, tupDI]
  · rw [← h5.length, hperm.length_eq, upto_len]
  · obtain ⟨x, hx, e⟩ := h5.mem hl
    have := upto_rg (hperm.mem_iff.mp hx)
    omega
  · exact hperm2.nodup_iff.mpr (upto_nd _)
theorem wit_ok {many : Int} {k : Nat} {S : DS} (hm : 1 ≤ many) (hm2 : many ≤ 600) (g : Good (3 * many.toNat + 1 + k) S) : ∃ (W : List Im) (S' : DS), G__law_witness [.st, .int many] S = .ok (dWit W, S') ∧ OkW many W ∧ Good k S' := by
  obtain ⟨way, S1, e1, w0, w1, g1⟩ := draw_ok (n := 4) (k := 3 * many.toNat + k) (by omega) (by omega) (g.mono (by omega))
  have hr := range_upto (many := many) (by omega) (by omega)
  have hul : (upto many.toNat).length ≤ 1000000 := by rw [upto_len]; omega
  let I : Nat → VS.Env → DS → Prop := fun i env S => ∃ (W : List Im) (x4 x5 : Option D), env = [some .st, some (.int many), some (.lst (W.map dIm)), some (.int way), x4, x5] ∧ OkW many W ∧ Good (3 * (many.toNat - i) + k) S
  have W0 : OkW many ((upto many.toNat).map Im.lit) := ⟨by rw [List.length_map, upto_len], fun l hl => by
    obtain ⟨x, hx, e⟩ := List.mem_map.mp hl
    cases e
    have := upto_rg hx
    omega⟩
  have hW0 : (upto many.toNat).map D.int = ((upto many.toNat).map Im.lit).map dIm := by rw [List.map_map]; rfl
  obtain ⟨env', S', h1, W, x4, x5, rfl, hW, g'⟩ := loop_inv (set := setN 4) (g := ifS t__law_witness_1 b__law_witness_2 nextS) I (intsD 0 many.toNat) 0 [some .st, some (.int many), some (.lst ((upto many.toNat).map D.int)), some (.int way), none, none] S1 ⟨(upto many.toNat).map Im.lit, none, none, by rw [hW0], W0, g1.mono (by omega)⟩ (fun j d env S hj hI => by
    rw [Nat.zero_add] at hI ⊢
    have hlt : j < many.toNat := by have := (List.getElem?_eq_some_iff.mp hj).1; simpa [intsD] using this
    rw [intsD_at hlt] at hj
    cases hj
    obtain ⟨W, x4, x5, rfl, hW, g⟩ := hI
    have first : ∃ (b : Bool) (S2 : DS), t__law_witness_1 [some .st, some (.int many), some (.lst (W.map dIm)), some (.int way), some (.int (0 + (j : Int))), x5] S = .ok (b, S2) ∧ Good (3 * (many.toNat - j) - 1 + k) S2 := by
      by_cases hw : way = 0
      · refine ⟨true, S, ?_, g.mono (by omega)⟩
        simp only [startE, List.map_cons, List.map_nil, Nat.reduceSub, List.replicate_succ, List.replicate_zero, seqS, ifS, retS, asgS, dropS, nextS, retN, unpS, parS, par3S, parOS, appS, setA, popM, nxSet, nxUnp, appPopM, forS, forR, forE, raiseS, varM, cM, unM, binM, chM, tupM, lstM, nilA, consA, testM, andT, orT, notT, andV, orV, notV, ifM, cbM, callP, callS, bindM, ofO, liftP, endP, endS, get2M, gGet2, VS.keyD, setAll, setN, setT, wipeE, List.getElem?_cons_zero, List.getElem?_cons_succ, List.set_cons_zero, List.set_cons_succ, List.append_nil, List.cons_append, List.nil_append, List.length_cons, List.length_nil, Nat.zero_add, Nat.reduceAdd, Nat.reduceLeDiff, Nat.zero_le, if_true, if_false, Bool.false_eq_true, Bool.not_true, Bool.not_false, gII, gAdd, gEq_int, gNe_int, reduceCtorEq, t__law_witness_1, hw, beq_self_eq_true]
      · obtain ⟨r, S2, e2, r0, r1, g2⟩ := draw_ok (n := 3) (k := 3 * (many.toNat - j) - 1 + k) (by omega) (by omega) (g.mono (by omega))
        have hf : (way == 0) = false := by simpa using hw
        refine ⟨r == 0, S2, ?_, g2⟩
        simp only [startE, List.map_cons, List.map_nil, Nat.reduceSub, List.replicate_succ, List.replicate_zero, seqS, ifS, retS, asgS, dropS, nextS, retN, unpS, parS, par3S, parOS, appS, setA, popM, nxSet, nxUnp, appPopM, forS, forR, forE, raiseS, varM, cM, unM, binM, chM, tupM, lstM, nilA, consA, testM, andT, orT, notT, andV, orV, notV, ifM, cbM, callP, callS, bindM, ofO, liftP, endP, endS, get2M, gGet2, VS.keyD, setAll, setN, setT, wipeE, List.getElem?_cons_zero, List.getElem?_cons_succ, List.set_cons_zero, List.set_cons_succ, List.append_nil, List.cons_append, List.nil_append, List.length_cons, List.length_nil, Nat.zero_add, Nat.reduceAdd, Nat.reduceLeDiff, Nat.zero_le, if_true, if_false, Bool.false_eq_true, Bool.not_true, Bool.not_false, gII, gAdd, gEq_int, gNe_int, reduceCtorEq, t__law_witness_1, hf, e2]
    obtain ⟨b, S2, e2, g2⟩ := first
    cases b with
    | false =>
      refine ⟨_, _, S2, rfl, ?_, W, some (.int (0 + (j : Int))), x5, rfl, hW, g2.mono (by omega)⟩
      simp only [startE, List.map_cons, List.map_nil, Nat.reduceSub, List.replicate_succ, List.replicate_zero, seqS, ifS, retS, asgS, dropS, nextS, retN, unpS, parS, par3S, parOS, appS, setA, popM, nxSet, nxUnp, appPopM, forS, forR, forE, raiseS, varM, cM, unM, binM, chM, tupM, lstM, nilA, consA, testM, andT, orT, notT, andV, orV, notV, ifM, cbM, callP, callS, bindM, ofO, liftP, endP, endS, get2M, gGet2, VS.keyD, setAll, setN, setT, wipeE, List.getElem?_cons_zero, List.getElem?_cons_succ, List.set_cons_zero, List.set_cons_succ, List.append_nil, List.cons_append, List.nil_append, List.length_cons, List.length_nil, Nat.zero_add, Nat.reduceAdd, Nat.reduceLeDiff, Nat.zero_le, if_true, if_false, Bool.false_eq_true, Bool.not_true, Bool.not_false, gII, gAdd, gEq_int, gNe_int, reduceCtorEq, e2]
    | true =>
      obtain ⟨v, S3, e3, v0, v1, g3⟩ := draw_ok (n := many) (k := 3 * (many.toNat - j) - 2 + k) (by omega) (by omega) (g2.mono (by omega))
      obtain ⟨d, S4, e4, hd, g4⟩ := pick_ok (ds := [.str "yes", .str "no", .int (1 + v), .int (0 - (1 + v))]) (k := 3 * (many.toNat - j) - 3 + k) (by simp) (by simp) (g3.mono (by omega))
      obtain ⟨im, rfl, him⟩ : ∃ im, d = dIm im ∧ ∀ l, im = .lit l → 1 ≤ l.natAbs ∧ (l.natAbs : Int) ≤ many := by
        simp only [List.mem_cons, List.not_mem_nil, or_false] at hd
        rcases hd with rfl | rfl | rfl | rfl
        · exact ⟨.yes, rfl, fun l h => by cases h⟩
        · exact ⟨.no, rfl, fun l h => by cases h⟩
        · exact ⟨.lit (1 + v), rfl, fun l h => by cases h; omega⟩
        · exact ⟨.lit (0 - (1 + v)), rfl, fun l h => by cases h; omega⟩
      have hix : ixN (W.map dIm).length (0 + (j : Int)) = some j := by
        rw [List.length_map, hW.len]
        unfold ixN
        rw [if_pos (by omega), if_pos (by omega)]
        congr 1
        omega
      have hset : (W.map dIm).set j (dIm im) = (W.set j im).map dIm := (List.map_set ..).symm
      refine ⟨_, _, S4, rfl, ?_, W.set j im, some (.int (0 + (j : Int))), some (.int (1 + v)), rfl, ⟨by rw [List.length_set, hW.len], fun l hl => ?_⟩, g4.mono (by omega)⟩
      · simp only [startE, List.map_cons, List.map_nil, Nat.reduceSub, List.replicate_succ, List.replicate_zero, seqS, ifS, retS, asgS, dropS, nextS, retN, unpS, parS, par3S, parOS, appS, setA, popM, nxSet, nxUnp, appPopM, forS, forR, forE, raiseS, varM, cM, unM, binM, chM, tupM, lstM, nilA, consA, testM, andT, orT, notT, andV, orV, notV, ifM, cbM, callP, callS, bindM, ofO, liftP, endP, endS, get2M, gGet2, VS.keyD, setAll, setN, setT, wipeE, List.getElem?_cons_zero, List.getElem?_cons_succ, List.set_cons_zero, List.set_cons_succ, List.append_nil, List.cons_append, List.nil_append, List.length_cons, List.length_nil, Nat.zero_add, Nat.reduceAdd, Nat.reduceLeDiff, Nat.zero_le, if_true, if_false, Bool.false_eq_true, Bool.not_true, Bool.not_false, gII, gAdd, gEq_int, gNe_int, reduceCtorEq, e2, b__law_witness_2, e3, e4, hix, hset]
      · rcases List.mem_or_eq_of_mem_set hl with z | z
        · exact hW.im l z
        · exact him l z.symm)
  have hr2 : rangeOf [.int many] = some (intsD 0 many.toNat) := by
    simp only [rangeOf]
    rw [if_pos (by omega)]
  refine ⟨W, S', ?_, hW, g'.mono (by omega)⟩
  unfold G__law_witness g__law_witness
  simp only [startE, List.map_cons, List.map_nil, Nat.reduceSub, List.replicate_succ, List.replicate_zero, seqS, ifS, retS, asgS, dropS, nextS, retN, unpS, parS, par3S, parOS, appS, setA, popM, nxSet, nxUnp, appPopM, forS, forR, forE, raiseS, varM, cM, unM, binM, chM, tupM, lstM, nilA, consA, testM, andT, orT, notT, andV, orV, notV, ifM, cbM, callP, callS, bindM, ofO, liftP, endP, endS, get2M, gGet2, VS.keyD, setAll, setN, setT, wipeE, List.getElem?_cons_zero, List.getElem?_cons_succ, List.set_cons_zero, List.set_cons_succ, List.append_nil, List.cons_append, List.nil_append, List.length_cons, List.length_nil, Nat.zero_add, Nat.reduceAdd, Nat.reduceLeDiff, Nat.zero_le, if_true, if_false, Bool.false_eq_true, Bool.not_true, Bool.not_false, gII, gAdd, gEq_int, gNe_int, reduceCtorEq, lrg2, hr, List.length_map, hul, e1, hr2, h1, gTuple_lst, dWit]
end My
namespace My
open PySem PySem.Spec L2 VS
theorem begun_good (ns : List Int) (hn : ns.length ≤ 63) : Good 100000 (begun ns) := by
  refine ⟨fun x hx => ?_, ?_, ?_, fun x hx => ?_, by show (0 : Int) ≤ 0; omega, by show (0 : Int) ≤ 0; omega, by show (0 : Int) + 100000 ≤ 1000000000; omega⟩
  · simp only [begun, List.mem_map, List.mem_filter] at hx
    obtain ⟨y, ⟨_, h⟩, rfl⟩ := hx
    have := of_decide_eq_true h
    omega
  · have : (begun ns).large.length ≤ ns.length := by
      simp only [begun, List.length_map]
      exact Nat.le_trans (List.length_filter_le _ _) (by simp)
    omega
  · simp only [begun, List.length_map]; omega
  · simp only [begun, List.mem_map] at hx
    obtain ⟨y, _, rfl⟩ := hx
    omega
abbrev eA (scr : D) (x2 : Option D) (many : Int) (r : Trm × Int) (U W : List Im) (E : List Int) (fs : List (List Int)) (x11 x12 x13 x14 x15 x16 x17 x18 x19 x20 : Option D) : VS.Env :=
  [some scr, some .st, x2, some (.int many), some (dRow r), some (dWit U), some (dWit W), some (tupDI E), some (.lst (fs.map tupDI)), some (dWit (behW U W)), some (dRow (ledR U r)), x11, x12, x13, x14, x15, x16, x17, x18, x19, x20]
structure C5 (many : Int) (r : Trm × Int) (U W : List Im) (E : List Int) (fs : List (List Int)) : Prop where
  m1 : 1 ≤ many
  m2 : many ≤ 6
  r : OkR many r
  U : OkW many U
  W : OkW many W
  E : OkX many E
  fs : Fls many.toNat fs
section
variable {scr : D} {x2 x11 x12 x13 x14 x15 x16 x17 x18 x19 x20 : Option D} {many : Int} {r n : Trm × Int} {U W : List Im} {E : List Int} {fs : List (List Int)} {S : DS} {f : List Int}
theorem led_row_x (hm : 1 ≤ many) (hm2 : many ≤ 63) (hE : OkX many E) (hr : OkR many r) : G_led_row [.int many, tupDI E, dRow r] = .ok (dRow (ledR (litW E) r)) := by
  rw [← litW_d]; exact led_row_ok hm hm2 hE.w hr
theorem t5_ok (c : C5 many r U W E fs) (hf : FlOk many.toNat f) : t_law_k05_5 (eA scr x2 many r U W E fs (some (tupDI f)) x12 x13 x14 x15 x16 x17 x18 x19 x20) S = .ok (false, S) := by
  have m1 := c.m1
  have m2 := c.m2
  have h1 := p_holds_ok m1 (by omega) (ledR_ok c.U c.r) hf
  have h2 := law_led_ok c.U hf
  have h3 := holds_ok (inL_of c.r (ledF_ok c.U hf))
  have h4 := led_filling_ok m1 (by omega) c.U hf
  have h5 := p_holds_ok m1 (by omega) c.r (ledF_ok c.U hf)
  have h6 := holds_ok (inL_of (ledR_ok c.U c.r) hf)
  have e : decide ((ledR U r).2 ≤ cm (ledR U r).1 f) = decide (r.2 ≤ cm r.1 (ledF U f)) := decide_eq_decide.mpr (led_holds c.U c.r hf)
  unfold t_law_k05_5
  simp only [startE, List.map_cons, List.map_nil, Nat.reduceSub, List.replicate_succ, List.replicate_zero, seqS, ifS, retS, asgS, dropS, nextS, retN, unpS, parS, par3S, parOS, appS, setA, popM, nxSet, nxUnp, appPopM, forS, forR, forE, raiseS, varM, cM, unM, binM, chM, tupM, lstM, nilA, consA, testM, andT, orT, notT, andV, orV, notV, ifM, cbM, callP, callS, bindM, ofO, liftP, endP, endS, get2M, gGet2, VS.keyD, setAll, setN, setT, wipeE, List.getElem?_cons_zero, List.getElem?_cons_succ, List.set_cons_zero, List.set_cons_succ, List.append_nil, List.cons_append, List.nil_append, List.length_cons, List.length_nil, Nat.zero_add, Nat.reduceAdd, Nat.reduceLeDiff, Nat.zero_le, if_true, if_false, Bool.false_eq_true, Bool.not_true, Bool.not_false, gII, gAdd, gEq_int, gNe_int, reduceCtorEq, h1, h2, h3, h4, h5, h6, e, gNe_bl2, bne_self_eq_false]
theorem t6_ok (c : C5 many r U W E fs) (hf : FlOk many.toNat f) : t_law_k05_6 (eA scr x2 many r U W E fs (some (tupDI f)) x12 x13 x14 x15 x16 x17 x18 x19 x20) S = .ok (false, S) := by
  have m1 := c.m1
  have m2 := c.m2
  have h1 := led_filling_ok m1 (by omega) (behW_ok c.U c.W) hf
  have h2 := led_filling_ok m1 (by omega) c.W hf
  have h3 := led_filling_ok m1 (by omega) c.U (ledF_ok c.W hf)
  have e := gNe_self (pl_ints (ledF U (ledF W f)))
  unfold t_law_k05_6
  simp only [startE, List.map_cons, List.map_nil, Nat.reduceSub, List.replicate_succ, List.replicate_zero, seqS, ifS, retS, asgS, dropS, nextS, retN, unpS, parS, par3S, parOS, appS, setA, popM, nxSet, nxUnp, appPopM, forS, forR, forE, raiseS, varM, cM, unM, binM, chM, tupM, lstM, nilA, consA, testM, andT, orT, notT, andV, orV, notV, ifM, cbM, callP, callS, bindM, ofO, liftP, endP, endS, get2M, gGet2, VS.keyD, setAll, setN, setT, wipeE, List.getElem?_cons_zero, List.getElem?_cons_succ, List.set_cons_zero, List.set_cons_succ, List.append_nil, List.cons_append, List.nil_append, List.length_cons, List.length_nil, Nat.zero_add, Nat.reduceAdd, Nat.reduceLeDiff, Nat.zero_le, if_true, if_false, Bool.false_eq_true, Bool.not_true, Bool.not_false, gII, gAdd, gEq_int, gNe_int, reduceCtorEq, h1, h2, h3, ledF_beh c.U c.W, e]
theorem t7_ok (c : C5 many r U W E fs) (hf : FlOk many.toNat f) : t_law_k05_7 (eA scr x2 many r U W E fs (some (tupDI f)) x12 x13 x14 x15 x16 x17 x18 x19 x20) S = .ok (false, S) := by
  have m1 := c.m1
  have m2 := c.m2
  have h1 := opposite_ok m1 (by omega) c.r
  have h2 := led_row_ok m1 (by omega) c.U (oppR_ok c.r)
  have h3 := p_holds_ok m1 (by omega) (ledR_ok c.U (oppR_ok c.r)) hf
  have h4 := p_holds_ok m1 (by omega) (ledR_ok c.U c.r) hf
  have e : (decide ((ledR U (oppR r)).2 ≤ cm (ledR U (oppR r)).1 f) == decide ((ledR U r).2 ≤ cm (ledR U r).1 f)) = false := by
    have a := led_holds c.U (oppR_ok c.r) hf
    have b := opp_holds c.r (ledF_ok c.U hf)
    have d := led_holds c.U c.r hf
    rw [b] at a
    rw [← d] at a
    by_cases z : (ledR U r).2 ≤ cm (ledR U r).1 f
    · rw [decide_eq_true z, decide_eq_false (fun y => a.mp y z)]; rfl
    · rw [decide_eq_false z, decide_eq_true (a.mpr z)]; rfl
  unfold t_law_k05_7
  simp only [startE, List.map_cons, List.map_nil, Nat.reduceSub, List.replicate_succ, List.replicate_zero, seqS, ifS, retS, asgS, dropS, nextS, retN, unpS, parS, par3S, parOS, appS, setA, popM, nxSet, nxUnp, appPopM, forS, forR, forE, raiseS, varM, cM, unM, binM, chM, tupM, lstM, nilA, consA, testM, andT, orT, notT, andV, orV, notV, ifM, cbM, callP, callS, bindM, ofO, liftP, endP, endS, get2M, gGet2, VS.keyD, setAll, setN, setT, wipeE, List.getElem?_cons_zero, List.getElem?_cons_succ, List.set_cons_zero, List.set_cons_succ, List.append_nil, List.cons_append, List.nil_append, List.length_cons, List.length_nil, Nat.zero_add, Nat.reduceAdd, Nat.reduceLeDiff, Nat.zero_le, if_true, if_false, Bool.false_eq_true, Bool.not_true, Bool.not_false, gII, gAdd, gEq_int, gNe_int, reduceCtorEq, h1, h2, h3, h4, gEq_bl2, e]
theorem b8_ok (c : C5 many r U W E fs) (hf : FlOk many.toNat f) : b_law_k05_8 (eA scr x2 many r U W E fs (some (tupDI f)) x12 x13 x14 x15 x16 x17 x18 x19 x20) S = .ok (.nx (eA scr x2 many r U W E fs (some (tupDI f)) x12 x13 x14 x15 x16 x17 x18 x19 x20), S) := by
  unfold b_law_k05_8
  simp only [seqS, ifS, t5_ok c hf, t6_ok c hf, t7_ok c hf, bindM, Bool.false_eq_true, if_false, nextS]
theorem loop8 (c : C5 many r U W E fs) : ∃ y11, forS (setN 11) (varM 8) b_law_k05_8 (eA scr x2 many r U W E fs x11 x12 x13 x14 x15 x16 x17 x18 x19 x20) S = .ok (.nx (eA scr x2 many r U W E fs y11 x12 x13 x14 x15 x16 x17 x18 x19 x20), S) := by
  have lp := loop_foldP (S := S) (set := setN 11) (g := b_law_k05_8) tupDI (fun y => eA scr x2 many r U W E fs y x12 x13 x14 x15 x16 x17 x18 x19 x20) (fun _ f => some (tupDI f)) (fun _ xs => ∀ f ∈ xs, FlOk many.toNat f) fs x11 (fun f hf => (c.fs.1 f).mp hf) (fun y f xs h => ⟨fun g hg => h g (List.mem_cons_of_mem _ hg), _, rfl, b8_ok c (h f List.mem_cons_self)⟩)
  refine ⟨fs.foldl (fun _ f => some (tupDI f)) x11, ?_⟩
  simp only [forS, varM, List.getElem?_cons_succ, List.getElem?_cons_zero, bindM, lp]
theorem t9_ok (c : C5 many r U W E fs) : t_law_k05_9 (eA scr x2 many r U W E fs x11 x12 x13 x14 x15 x16 x17 x18 x19 x20) S = .ok (false, S) := by
  have m1 := c.m1
  have m2 := c.m2
  have h1 := led_row_ok m1 (by omega) (behW_ok c.U c.W) c.r
  have h2 := led_row_ok m1 (by omega) c.W (ledR_ok c.U c.r)
  have e := gNe_self (pl_row (ledR W (ledR U r)))
  unfold t_law_k05_9
  simp only [startE, List.map_cons, List.map_nil, Nat.reduceSub, List.replicate_succ, List.replicate_zero, seqS, ifS, retS, asgS, dropS, nextS, retN, unpS, parS, par3S, parOS, appS, setA, popM, nxSet, nxUnp, appPopM, forS, forR, forE, raiseS, varM, cM, unM, binM, chM, tupM, lstM, nilA, consA, testM, andT, orT, notT, andV, orV, notV, ifM, cbM, callP, callS, bindM, ofO, liftP, endP, endS, get2M, gGet2, VS.keyD, setAll, setN, setT, wipeE, List.getElem?_cons_zero, List.getElem?_cons_succ, List.set_cons_zero, List.set_cons_succ, List.append_nil, List.cons_append, List.nil_append, List.length_cons, List.length_nil, Nat.zero_add, Nat.reduceAdd, Nat.reduceLeDiff, Nat.zero_le, if_true, if_false, Bool.false_eq_true, Bool.not_true, Bool.not_false, gII, gAdd, gEq_int, gNe_int, reduceCtorEq, h1, h2, ledR_beh c.U c.W c.r, e]
theorem b12_ok (c : C5 many r U W E fs) {l : Int} (hl : InL many.toNat l) : ∃ y14, (seqS s_law_k05_10 (ifS t_law_k05_11 (retS (cM (.bl false))) nextS)) (eA scr x2 many r U W E fs x11 (some (.int l)) x13 x14 x15 x16 x17 x18 x19 x20) S = .ok (.nx (eA scr x2 many r U W E fs x11 (some (.int l)) x13 y14 x15 x16 x17 x18 x19 x20), S) := by
  have m1 := c.m1
  have m2 := c.m2
  have h1 := led_literal_ok m1 (by omega) c.U hl
  have h2 := led_literal_ok m1 (by omega) (behW_ok c.U c.W) hl
  have hs := is_str (imOf U l)
  have e := gNe_self (pl_im (ledI W (imOf U l)))
  refine ⟨some (dIm (imOf U l)), ?_⟩
  unfold s_law_k05_10 t_law_k05_11
  cases hi : imOf U l with
  | lit m =>
    rw [hi] at hs h1 e
    have hin := imOf_ok c.U hl hi
    have h3 := led_literal_ok (l := m) m1 (by omega) c.W ⟨hin.1, by omega⟩
    have e2 : ledI W (.lit m) = imOf W m := rfl
    rw [e2] at e
    have h4 : imOf (behW U W) l = imOf W m := by rw [imOf_beh c.U hl, hi]; rfl
    rw [h4] at h2
    simp only [dIm] at hs h1
    simp only [startE, List.map_cons, List.map_nil, Nat.reduceSub, List.replicate_succ, List.replicate_zero, seqS, ifS, retS, asgS, dropS, nextS, retN, unpS, parS, par3S, parOS, appS, setA, popM, nxSet, nxUnp, appPopM, forS, forR, forE, raiseS, varM, cM, unM, binM, chM, tupM, lstM, nilA, consA, testM, andT, orT, notT, andV, orV, notV, ifM, cbM, callP, callS, bindM, ofO, liftP, endP, endS, get2M, gGet2, VS.keyD, setAll, setN, setT, wipeE, List.getElem?_cons_zero, List.getElem?_cons_succ, List.set_cons_zero, List.set_cons_succ, List.append_nil, List.cons_append, List.nil_append, List.length_cons, List.length_nil, Nat.zero_add, Nat.reduceAdd, Nat.reduceLeDiff, Nat.zero_le, if_true, if_false, Bool.false_eq_true, Bool.not_true, Bool.not_false, gII, gAdd, gEq_int, gNe_int, reduceCtorEq, h1, h2, hs, isLit, h3, e]
    rfl
  | yes =>
    rw [hi] at hs h1 e
    have h4 : imOf (behW U W) l = .yes := by rw [imOf_beh c.U hl, hi]; rfl
    rw [h4] at h2
    have e2 : ledI W .yes = .yes := rfl
    rw [e2] at e
    simp only [dIm] at hs h1 h2 e
    simp only [startE, List.map_cons, List.map_nil, Nat.reduceSub, List.replicate_succ, List.replicate_zero, seqS, ifS, retS, asgS, dropS, nextS, retN, unpS, parS, par3S, parOS, appS, setA, popM, nxSet, nxUnp, appPopM, forS, forR, forE, raiseS, varM, cM, unM, binM, chM, tupM, lstM, nilA, consA, testM, andT, orT, notT, andV, orV, notV, ifM, cbM, callP, callS, bindM, ofO, liftP, endP, endS, get2M, gGet2, VS.keyD, setAll, setN, setT, wipeE, List.getElem?_cons_zero, List.getElem?_cons_succ, List.set_cons_zero, List.set_cons_succ, List.append_nil, List.cons_append, List.nil_append, List.length_cons, List.length_nil, Nat.zero_add, Nat.reduceAdd, Nat.reduceLeDiff, Nat.zero_le, if_true, if_false, Bool.false_eq_true, Bool.not_true, Bool.not_false, gII, gAdd, gEq_int, gNe_int, reduceCtorEq, h1, h2, hs, isLit, e, dIm]
  | no =>
    rw [hi] at hs h1 e
    have h4 : imOf (behW U W) l = .no := by rw [imOf_beh c.U hl, hi]; rfl
    rw [h4] at h2
    have e2 : ledI W .no = .no := rfl
    rw [e2] at e
    simp only [dIm] at hs h1 h2 e
    simp only [startE, List.map_cons, List.map_nil, Nat.reduceSub, List.replicate_succ, List.replicate_zero, seqS, ifS, retS, asgS, dropS, nextS, retN, unpS, parS, par3S, parOS, appS, setA, popM, nxSet, nxUnp, appPopM, forS, forR, forE, raiseS, varM, cM, unM, binM, chM, tupM, lstM, nilA, consA, testM, andT, orT, notT, andV, orV, notV, ifM, cbM, callP, callS, bindM, ofO, liftP, endP, endS, get2M, gGet2, VS.keyD, setAll, setN, setT, wipeE, List.getElem?_cons_zero, List.getElem?_cons_succ, List.set_cons_zero, List.set_cons_succ, List.append_nil, List.cons_append, List.nil_append, List.length_cons, List.length_nil, Nat.zero_add, Nat.reduceAdd, Nat.reduceLeDiff, Nat.zero_le, if_true, if_false, Bool.false_eq_true, Bool.not_true, Bool.not_false, gII, gAdd, gEq_int, gNe_int, reduceCtorEq, h1, h2, hs, isLit, e, dIm]
theorem s12_ok (c : C5 many r U W E fs) : ∃ y12 y14, s_law_k05_12 (eA scr x2 many r U W E fs x11 x12 x13 x14 x15 x16 x17 x18 x19 x20) S = .ok (.nx (eA scr x2 many r U W E fs x11 y12 x13 y14 x15 x16 x17 x18 x19 x20), S) := by
  have m1 := c.m1
  have m2 := c.m2
  have hr : rangeOf [.int (0 - many), .int (many + 1)] = some (intsD (0 - many) (2 * many.toNat + 1)) := by
    simp only [rangeOf]
    rw [if_pos (by omega)]
    congr 2
    omega
  have hd : intsD (0 - many) (2 * many.toNat + 1) = ((List.range (2 * many.toNat + 1)).map fun (i : Nat) => 0 - many + (i : Int)).map D.int := by unfold intsD; rw [List.map_map]; rfl
  have cl := comp_map (set := setN 13) (test := testM (binM gNe (varM 13) (cM (.int 0)))) (elt := varM 13) (env0 := eA scr x2 many r U W E fs x11 x12 none x14 x15 x16 x17 x18 x19 x20) (S := S) D.int (fun x => !(x == 0)) D.int ((List.range (2 * many.toNat + 1)).map fun (i : Nat) => 0 - many + (i : Int)) fun x _ => ⟨eA scr x2 many r U W E fs x11 x12 (some (.int x)) x14 x15 x16 x17 x18 x19 x20, rfl, rfl, fun _ => rfl⟩
  generalize hL : ((List.range (2 * many.toNat + 1)).map fun (i : Nat) => 0 - many + (i : Int)).filter (fun x => !(x == 0)) = L at cl
  have hin : ∀ l ∈ L, InL many.toNat l := fun l hl => by
    rw [← hL] at hl
    obtain ⟨h1, h2⟩ := List.mem_filter.mp hl
    obtain ⟨i, hi, rfl⟩ := List.mem_map.mp h1
    have := List.mem_range.mp hi
    have h3 : 0 - many + (i : Int) ≠ 0 := by simpa using h2
    exact ⟨by omega, by omega⟩
  have lp := loop_inv (set := setN 12) (g := seqS s_law_k05_10 (ifS t_law_k05_11 (retS (cM (.bl false))) nextS)) (fun _ env S1 => ∃ y12 y14, env = eA scr x2 many r U W E fs x11 y12 x13 y14 x15 x16 x17 x18 x19 x20 ∧ S1 = S) (L.map D.int) 0 (eA scr x2 many r U W E fs x11 x12 x13 x14 x15 x16 x17 x18 x19 x20) S ⟨x12, x14, rfl, rfl⟩ (fun j d env S1 hj ⟨y12, y14, he, hS⟩ => by
    subst he hS
    obtain ⟨l, hl, rfl⟩ := List.mem_map.mp (List.mem_of_getElem? hj)
    obtain ⟨z, hz⟩ := b12_ok (scr := scr) (x2 := x2) (x11 := x11) (x13 := x13) (x14 := y14) (x15 := x15) (x16 := x16) (x17 := x17) (x18 := x18) (x19 := x19) (x20 := x20) (S := S1) c (hin l hl)
    exact ⟨_, _, _, rfl, hz, some (.int l), z, rfl, rfl⟩)
  obtain ⟨env', S', h1, y12, y14, rfl, rfl⟩ := lp
  refine ⟨y12, y14, ?_⟩
  have hlc : lcR (setN 13) (consA (binM VS.gSub (cM (.int 0)) (varM 3)) (consA (binM gAdd (varM 3) (cM (.int 1))) nilA)) (testM (binM gNe (varM 13) (cM (.int 0)))) (varM 13) [13] (eA scr x2 many r U W E fs x11 x12 x13 x14 x15 x16 x17 x18 x19 x20) S' = .ok (.lst (L.map D.int), S') := by
    simp only [eA] at cl
    have hlen : ((List.range (2 * many.toNat + 1)).map fun (i : Nat) => 0 - many + (i : Int)).length ≤ 1000000 := by simp; omega
    simp only [startE, List.map_cons, List.map_nil, Nat.reduceSub, List.replicate_succ, List.replicate_zero, seqS, ifS, retS, asgS, dropS, nextS, retN, unpS, parS, par3S, parOS, appS, setA, popM, nxSet, nxUnp, appPopM, forS, forR, forE, raiseS, varM, cM, unM, binM, chM, tupM, lstM, nilA, consA, testM, andT, orT, notT, andV, orV, notV, ifM, cbM, callP, callS, bindM, ofO, liftP, endP, endS, get2M, gGet2, VS.keyD, setAll, setN, setT, wipeE, List.getElem?_cons_zero, List.getElem?_cons_succ, List.set_cons_zero, List.set_cons_succ, List.append_nil, List.cons_append, List.nil_append, List.length_cons, List.length_nil, Nat.zero_add, Nat.reduceAdd, Nat.reduceLeDiff, Nat.zero_le, if_true, if_false, Bool.false_eq_true, Bool.not_true, Bool.not_false, gII, gAdd, gEq_int, gNe_int, reduceCtorEq, lcR, hr, hd, List.length_map D.int, hlen, cl]
  unfold s_law_k05_12
  simp only [forS, hlc, bindM, h1]
theorem turned_x (c : C5 many r U W E fs) : G_turned [.int many, tupDI E] = .ok (tupDI (turnX E)) := p_turned_ok c.m1 (by have := c.m2; omega) c.E
theorem t14_ok (c : C5 many r U W E fs) : t_law_k05_14 (eA scr x2 many r U W E fs x11 x12 x13 x14 (some (tupDI (turnX E))) x16 x17 x18 x19 x20) S = .ok (false, S) := by
  have m1 := c.m1
  have m2 := c.m2
  have hB := turnX_ok c.E
  have h1 := is_exchange_ok m1 (by omega) hB
  have h2 := led_row_x m1 (by omega) c.E c.r
  have h3 := led_row_x m1 (by omega) hB (ledR_ok c.E.w c.r)
  rw [row_back c.E c.r] at h3
  have h4 := p_turned_ok m1 (by omega) hB
  rw [turn_turn c.E] at h4
  have e1 := gNe_self (pl_row r)
  have e2 := gNe_self (pl_ints E)
  have e3 : gIsntA (.bl true) (.bl true) = some (.bl false) := rfl
  unfold t_law_k05_14
  simp only [startE, List.map_cons, List.map_nil, Nat.reduceSub, List.replicate_succ, List.replicate_zero, seqS, ifS, retS, asgS, dropS, nextS, retN, unpS, parS, par3S, parOS, appS, setA, popM, nxSet, nxUnp, appPopM, forS, forR, forE, raiseS, varM, cM, unM, binM, chM, tupM, lstM, nilA, consA, testM, andT, orT, notT, andV, orV, notV, ifM, cbM, callP, callS, bindM, ofO, liftP, endP, endS, get2M, gGet2, VS.keyD, setAll, setN, setT, wipeE, List.getElem?_cons_zero, List.getElem?_cons_succ, List.set_cons_zero, List.set_cons_succ, List.append_nil, List.cons_append, List.nil_append, List.length_cons, List.length_nil, Nat.zero_add, Nat.reduceAdd, Nat.reduceLeDiff, Nat.zero_le, if_true, if_false, Bool.false_eq_true, Bool.not_true, Bool.not_false, gII, gAdd, gEq_int, gNe_int, reduceCtorEq, h1, h2, h3, h4, e1, e2, e3]
theorem sorted_ints (ws : List Int) (h : ws.length ≤ 1000000) : gSortedA [.lst (ws.map D.int)] = some (.lst ((ws.mergeSort fun a b => decide (a ≤ b)).map D.int)) := by
  have h2 : (ws.map D.int).length ≤ 1000000 := by simpa using h
  simp only [gSortedA, if_pos h2, intsOfD_ints]
theorem sort_perm {a b : List Int} (h : a.Perm b) : (a.mergeSort fun a b => decide (a ≤ b)) = b.mergeSort fun a b => decide (a ≤ b) := by
  have s : ∀ l : List Int, (l.mergeSort fun a b => decide (a ≤ b)).Pairwise fun a b : Int => a ≤ b := fun l => by
    have := List.pairwise_mergeSort (le := fun a b : Int => decide (a ≤ b)) (fun a b c x y => by simp at *; omega) (fun a b => by simp; omega) l
    exact this.imp fun h => by simpa using h
  exact List.Perm.eq_of_pairwise (le := fun a b : Int => a ≤ b) (fun a b _ _ x y => by omega) (s a) (s b) ((List.mergeSort_perm _ _).trans (h.trans (List.mergeSort_perm _ _).symm))
theorem t15_ok (c : C5 many r U W E fs) : t_law_k05_15 (eA scr x2 many r U W E fs x11 x12 x13 x14 x15 x16 x17 x18 x19 x20) S = .ok (false, S) := by
  have m1 := c.m1
  have m2 := c.m2
  have h1 := led_row_x m1 (by omega) c.E c.r
  have i0 : ∀ r : Trm × Int, gIxA (dRow r) (.int 0) = some (.tup (r.1.map dPair)) := fun _ => rfl
  have cl : ∀ (ts : Trm), compM (setT [17, 12]) (fun _ S => .ok (true, S)) (varM 17) [some scr, some .st, x2, some (.int many), some (dRow r), some (dWit U), some (dWit W), some (tupDI E), some (.lst (fs.map tupDI)), some (dWit (behW U W)), some (dRow (ledR U r)), x11, none, x13, x14, x15, x16, none, x18, x19, x20] (ts.map dPair) S = .ok ((ts.map (·.1)).map D.int, S) := fun ts => by
    rw [List.map_map]
    exact comp_all dPair (fun p => D.int p.1) ts fun p _ => ⟨[some scr, some .st, x2, some (.int many), some (dRow r), some (dWit U), some (dWit W), some (tupDI E), some (.lst (fs.map tupDI)), some (dWit (behW U W)), some (dRow (ledR U r)), x11, some (.int p.2), x13, x14, x15, x16, some (.int p.1), x18, x19, x20], rfl, rfl⟩
  have l1 : ∀ {q : Trm × Int}, OkR many q → (q.1.map (·.1)).length ≤ 1000000 := fun {q} hq => by have := hq.t.len; simp; omega
  have e1 := sorted_ints ((ledR (litW E) r).1.map (·.1)) (l1 (ledR_ok c.E.w c.r))
  have e2 := sorted_ints (r.1.map (·.1)) (l1 c.r)
  rw [sort_perm (row_weights c.E c.r)] at e1
  have e3 := gNe_self (pl_intsL ((r.1.map (·.1)).mergeSort fun a b => decide (a ≤ b)))
  unfold t_law_k05_15
  simp only [startE, List.map_cons, List.map_nil, Nat.reduceSub, List.replicate_succ, List.replicate_zero, seqS, ifS, retS, asgS, dropS, nextS, retN, unpS, parS, par3S, parOS, appS, setA, popM, nxSet, nxUnp, appPopM, forS, forR, forE, raiseS, varM, cM, unM, binM, chM, tupM, lstM, nilA, consA, testM, andT, orT, notT, andV, orV, notV, ifM, cbM, callP, callS, bindM, ofO, liftP, endP, endS, get2M, gGet2, VS.keyD, setAll, setN, setT, wipeE, List.getElem?_cons_zero, List.getElem?_cons_succ, List.set_cons_zero, List.set_cons_succ, List.append_nil, List.cons_append, List.nil_append, List.length_cons, List.length_nil, Nat.zero_add, Nat.reduceAdd, Nat.reduceLeDiff, Nat.zero_le, if_true, if_false, Bool.false_eq_true, Bool.not_true, Bool.not_false, gII, gAdd, gEq_int, gNe_int, reduceCtorEq, h1, i0, lcM, cl, e1, e2, e3]
theorem t16_ok (c : C5 many r U W E fs) (hn : OkR many n) : t_law_k05_16 (eA scr x2 many r U W E fs x11 x12 x13 x14 x15 (some (dRow n)) x17 x18 x19 x20) S = .ok (false, S) := by
  have m1 := c.m1
  have m2 := c.m2
  have h1 := led_row_x m1 (by omega) c.E c.r
  have h2 := led_row_x m1 (by omega) c.E hn
  have h3 := covers_ok m1 (by omega) (ledR_ok c.E.w c.r) (ledR_ok c.E.w hn)
  have h4 := covers_ok m1 (by omega) c.r hn
  have e : decide ((ledR (litW E) n).2 ≤ (ledR (litW E) r).2 - miss (ledR (litW E) r).1 (ledR (litW E) n).1) = decide (n.2 ≤ r.2 - miss r.1 n.1) := decide_eq_decide.mpr (due_x c.E c.r hn)
  unfold t_law_k05_16
  simp only [startE, List.map_cons, List.map_nil, Nat.reduceSub, List.replicate_succ, List.replicate_zero, seqS, ifS, retS, asgS, dropS, nextS, retN, unpS, parS, par3S, parOS, appS, setA, popM, nxSet, nxUnp, appPopM, forS, forR, forE, raiseS, varM, cM, unM, binM, chM, tupM, lstM, nilA, consA, testM, andT, orT, notT, andV, orV, notV, ifM, cbM, callP, callS, bindM, ofO, liftP, endP, endS, get2M, gGet2, VS.keyD, setAll, setN, setT, wipeE, List.getElem?_cons_zero, List.getElem?_cons_succ, List.set_cons_zero, List.set_cons_succ, List.append_nil, List.cons_append, List.nil_append, List.length_cons, List.length_nil, Nat.zero_add, Nat.reduceAdd, Nat.reduceLeDiff, Nat.zero_le, if_true, if_false, Bool.false_eq_true, Bool.not_true, Bool.not_false, gII, gAdd, gEq_int, gNe_int, reduceCtorEq, h1, h2, h3, h4, e, gNe_bl2, bne_self_eq_false]
def fixW (f : List Int) : List Im := f.map fun x => if x = 1 then .yes else .no
theorem fixW_ok (hf : FlOk many.toNat f) : OkW many (fixW f) := ⟨by unfold fixW; rw [List.length_map, hf.1], fun l hl => by
  obtain ⟨x, _, e⟩ := List.mem_map.mp hl
  split at e <;> cases e⟩
theorem fix_led (hf : FlOk many.toNat f) (g : List Int) : ledF (fixW f) g = f := by
  unfold ledF fixW
  rw [List.map_map]
  conv => rhs; rw [← List.map_id f]
  apply List.map_congr_left
  intro x hx
  rcases hf.2 x hx with z | z <;> subst z <;> rfl
theorem fix_im (hf : FlOk many.toNat f) {l : Int} (hl : InL many.toNat l) : imOf (fixW f) l = if wv f l = 1 then .yes else .no := by
  have e := wv_led (f := f) (fixW_ok hf) hl
  rw [fix_led hf] at e
  have h1 := hl.1
  have h2 := hl.2
  have ea := absI_nat l
  have hlt : (absI l - 1).toNat < f.length := by rw [hf.1]; omega
  have hc : ∀ l', imOf (fixW f) l ≠ .lit l' := fun l' h => by
    have hm : (fixW f).getD (absI l - 1).toNat .no ∈ fixW f := getD_mem (by unfold fixW; rw [List.length_map]; exact hlt)
    obtain ⟨x, _, ex⟩ := List.mem_map.mp hm
    unfold imOf at h
    rw [← ex] at h
    split at h <;> split at h <;> cases h
  cases hi : imOf (fixW f) l with
  | lit l' => exact absurd hi (hc l')
  | yes => rw [hi] at e; rw [e]; rfl
  | no => rw [hi] at e; rw [e]; rfl
theorem fix_sums (hf : FlOk many.toNat f) {ts : Trm} (h : ∀ p ∈ ts, InL many.toNat p.2) : sumsW (fixW f) ts = [] := by
  unfold sumsW
  rw [List.filterMap_eq_nil_iff]
  intro p hp
  rw [fix_im hf (h p hp)]
  by_cases z : wv f p.2 = 1 <;> simp [z]
theorem fix_yes (hf : FlOk many.toNat f) {ts : Trm} (h : ∀ p ∈ ts, InL many.toNat p.2) : yesW (fixW f) ts = cm ts f := by
  unfold yesW
  rw [cm_sum]
  congr 1
  apply List.map_congr_left
  intro p hp
  rw [fix_im hf (h p hp)]
  split <;> simp
theorem fix_row (hr : OkR many r) (hf : FlOk many.toNat f) : ledR (fixW f) r = ([], if r.2 - cm r.1 f > 0 then r.2 - cm r.1 f else 0) := by
  unfold ledR
  rw [fix_sums hf hr.t.inL, fix_yes hf hr.t.inL]
  simp [normal, normLow, fold2, fold1, keysA]
theorem s19_ok (hf : FlOk many.toNat f) : s_law_k05_19 (eA scr x2 many r U W E fs (some (tupDI f)) x12 x13 x14 x15 x16 x17 x18 x19 x20) S = .ok (.nx (eA scr x2 many r U W E fs (some (tupDI f)) x12 x13 x14 x15 x16 x17 (some (dWit (fixW f))) x19 x20), S) := by
  have cl := comp_all (set := setN 19) (elt := e_law_k05_18) (env0 := eA scr x2 many r U W E fs (some (tupDI f)) x12 x13 x14 x15 x16 x17 x18 none x20) (S := S) D.int (fun x => dIm (if x = 1 then .yes else .no)) f fun x hx => by
    refine ⟨eA scr x2 many r U W E fs (some (tupDI f)) x12 x13 x14 x15 x16 x17 x18 (some (.int x)) x20, rfl, ?_⟩
    rcases hf.2 x hx with z | z <;> subst z <;> rfl
  have hl : lcM (setN 19) (varM 11) (fun _ S => .ok (true, S)) e_law_k05_18 [19] (eA scr x2 many r U W E fs (some (tupDI f)) x12 x13 x14 x15 x16 x17 x18 x19 x20) S = .ok (.lst (f.map fun x => dIm (if x = 1 then .yes else .no)), S) := by
    rw [lcM_tup (ds := f.map D.int) (S1 := S) rfl]
    simp only [wipeE, List.set_cons_succ, List.set_cons_zero, cl, bindM]
  have e : dWit (fixW f) = .tup (f.map fun x => dIm (if x = 1 then .yes else .no)) := by unfold dWit fixW; rw [List.map_map]; rfl
  unfold s_law_k05_19
  rw [e]
  simp only [asgS, cbM, consA, nilA, hl, bindM, gTuple_lst, ofO, List.set_cons_succ, List.set_cons_zero]
theorem t21_ok (c : C5 many r U W E fs) (hf : FlOk many.toNat f) {k : Nat} (g : Good (k + 1) S) : ∃ S', t_law_k05_21 (eA scr x2 many r U W E fs (some (tupDI f)) x12 x13 x14 x15 x16 x17 (some (dWit (fixW f))) x19 (some (dRow (ledR (fixW f) r)))) S = .ok (false, S') ∧ Good k S' := by
  have m1 := c.m1
  have m2 := c.m2
  have hlen : (fs.map tupDI).length = 2 ^ many.toNat := by rw [List.length_map, c.fs.2]
  have hpow : 2 ^ many.toNat ≤ 2 ^ 6 := Nat.pow_le_pow_right (by decide) (by omega)
  obtain ⟨d, S', e1, hd, g'⟩ := pick_ok (ds := fs.map tupDI) (k := k) (by rw [hlen]; exact Nat.two_pow_pos _) (by rw [hlen]; omega) g
  obtain ⟨f2, hf2, rfl⟩ := List.mem_map.mp hd
  have hf2 := (c.fs.1 f2).mp hf2
  refine ⟨S', ?_, g'⟩
  have h1 := fix_row c.r hf
  have h2 := holds_ok (inL_of c.r hf)
  have h3 := led_filling_ok m1 (by omega) (fixW_ok hf) hf2
  rw [fix_led hf] at h3
  have i0 : gIxA (dRow (ledR (fixW f) r)) (.int 0) = some (.tup []) := by rw [h1]; rfl
  have i1 : gIxA (dRow (ledR (fixW f) r)) (.int 1) = some (.int (if r.2 - cm r.1 f > 0 then r.2 - cm r.1 f else 0)) := by rw [h1]; rfl
  have e2 := gNe_self (d := .tup []) (n := 1) rfl
  have e3 : ((if r.2 - cm r.1 f > 0 then r.2 - cm r.1 f else 0) == (0 : Int)) = decide (r.2 ≤ cm r.1 f) := by
    by_cases z : r.2 ≤ cm r.1 f
    · rw [if_neg (by omega), decide_eq_true z]; rfl
    · rw [if_pos (by omega), decide_eq_false z]; simp; omega
  have e4 := gNe_self (pl_ints f)
  unfold t_law_k05_21
  simp only [startE, List.map_cons, List.map_nil, Nat.reduceSub, List.replicate_succ, List.replicate_zero, seqS, ifS, retS, asgS, dropS, nextS, retN, unpS, parS, par3S, parOS, appS, setA, popM, nxSet, nxUnp, appPopM, forS, forR, forE, raiseS, varM, cM, unM, binM, chM, tupM, lstM, nilA, consA, testM, andT, orT, notT, andV, orV, notV, ifM, cbM, callP, callS, bindM, ofO, liftP, endP, endS, get2M, gGet2, VS.keyD, setAll, setN, setT, wipeE, List.getElem?_cons_zero, List.getElem?_cons_succ, List.set_cons_zero, List.set_cons_succ, List.append_nil, List.cons_append, List.nil_append, List.length_cons, List.length_nil, Nat.zero_add, Nat.reduceAdd, Nat.reduceLeDiff, Nat.zero_le, if_true, if_false, Bool.false_eq_true, Bool.not_true, Bool.not_false, gII, gAdd, gEq_int, gNe_int, reduceCtorEq, i0, i1, e2, e3, h2, gNe_bl2, bne_self_eq_false, e1, h3, e4]
theorem body_ok {K : Nat} {y3 y4 y5 y6 y7 y8 y9 y10 : Option D} (g : Good (130 + K) S) : ∃ z3 z4 z5 z6 z7 z8 z9 z10 z11 z12 z13 z14 z15 z16 z17 z18 z19 z20 S', b_law_k05_22 [some scr, some .st, x2, y3, y4, y5, y6, y7, y8, y9, y10, x11, x12, x13, x14, x15, x16, x17, x18, x19, x20] S = .ok (.nx [some scr, some .st, x2, z3, z4, z5, z6, z7, z8, z9, z10, z11, z12, z13, z14, z15, z16, z17, z18, z19, z20], S') ∧ Good K S' := by
  obtain ⟨v, S1, e1, v0, v1, g1⟩ := draw_ok (n := 6) (k := 120 + K) (by omega) (by omega) (g.mono (by omega))
  generalize hm : 1 + v = many
  have m1 : 1 ≤ many := by omega
  have m2 : many ≤ 6 := by omega
  obtain ⟨r, S2, e2, hr, g2⟩ := row_ok (many := many) (most := 5) (k := 90 + K) m1 (by omega) (by omega) (by omega) (g1.mono (by omega))
  obtain ⟨U, S3, e3, hU, g3⟩ := wit_ok (many := many) (k := 70 + K) m1 (by omega) (g2.mono (by omega))
  obtain ⟨W, S4, e4, hW, g4⟩ := wit_ok (many := many) (k := 50 + K) m1 (by omega) (g3.mono (by omega))
  obtain ⟨E, S5, e5, hE, g5⟩ := exch_ok (many := many) (k := 30 + K) m1 (by omega) (g4.mono (by omega))
  obtain ⟨fs, e6, hfs⟩ := fillings_ok m1 m2
  have c : C5 many r U W E fs := ⟨m1, m2, hr, hU, hW, hE, hfs⟩
  have a1 : s_law_k05_1 [some scr, some .st, x2, y3, y4, y5, y6, y7, y8, y9, y10, x11, x12, x13, x14, x15, x16, x17, x18, x19, x20] S = .ok (.nx [some scr, some .st, x2, some (.int many), y4, y5, y6, y7, y8, y9, y10, x11, x12, x13, x14, x15, x16, x17, x18, x19, x20], S1) := by
    unfold s_law_k05_1
    simp only [startE, List.map_cons, List.map_nil, Nat.reduceSub, List.replicate_succ, List.replicate_zero, seqS, ifS, retS, asgS, dropS, nextS, retN, unpS, parS, par3S, parOS, appS, setA, popM, nxSet, nxUnp, appPopM, forS, forR, forE, raiseS, varM, cM, unM, binM, chM, tupM, lstM, nilA, consA, testM, andT, orT, notT, andV, orV, notV, ifM, cbM, callP, callS, bindM, ofO, liftP, endP, endS, get2M, gGet2, VS.keyD, setAll, setN, setT, wipeE, List.getElem?_cons_zero, List.getElem?_cons_succ, List.set_cons_zero, List.set_cons_succ, List.append_nil, List.cons_append, List.nil_append, List.length_cons, List.length_nil, Nat.zero_add, Nat.reduceAdd, Nat.reduceLeDiff, Nat.zero_le, if_true, if_false, Bool.false_eq_true, Bool.not_true, Bool.not_false, gII, gAdd, gEq_int, gNe_int, reduceCtorEq, e1, hm]
  have a2 : s_law_k05_2 [some scr, some .st, x2, some (.int many), y4, y5, y6, y7, y8, y9, y10, x11, x12, x13, x14, x15, x16, x17, x18, x19, x20] S1 = .ok (.nx [some scr, some .st, x2, some (.int many), some (dRow r), some (dWit U), some (dWit W), y7, y8, y9, y10, x11, x12, x13, x14, x15, x16, x17, x18, x19, x20], S4) := by
    unfold s_law_k05_2
    simp only [startE, List.map_cons, List.map_nil, Nat.reduceSub, List.replicate_succ, List.replicate_zero, seqS, ifS, retS, asgS, dropS, nextS, retN, unpS, parS, par3S, parOS, appS, setA, popM, nxSet, nxUnp, appPopM, forS, forR, forE, raiseS, varM, cM, unM, binM, chM, tupM, lstM, nilA, consA, testM, andT, orT, notT, andV, orV, notV, ifM, cbM, callP, callS, bindM, ofO, liftP, endP, endS, get2M, gGet2, VS.keyD, setAll, setN, setT, wipeE, List.getElem?_cons_zero, List.getElem?_cons_succ, List.set_cons_zero, List.set_cons_succ, List.append_nil, List.cons_append, List.nil_append, List.length_cons, List.length_nil, Nat.zero_add, Nat.reduceAdd, Nat.reduceLeDiff, Nat.zero_le, if_true, if_false, Bool.false_eq_true, Bool.not_true, Bool.not_false, gII, gAdd, gEq_int, gNe_int, reduceCtorEq, e2, e3, e4]
  have a3 : s_law_k05_3 [some scr, some .st, x2, some (.int many), some (dRow r), some (dWit U), some (dWit W), y7, y8, y9, y10, x11, x12, x13, x14, x15, x16, x17, x18, x19, x20] S4 = .ok (.nx [some scr, some .st, x2, some (.int many), some (dRow r), some (dWit U), some (dWit W), some (tupDI E), some (.lst (fs.map tupDI)), y9, y10, x11, x12, x13, x14, x15, x16, x17, x18, x19, x20], S5) := by
    unfold s_law_k05_3
    simp only [startE, List.map_cons, List.map_nil, Nat.reduceSub, List.replicate_succ, List.replicate_zero, seqS, ifS, retS, asgS, dropS, nextS, retN, unpS, parS, par3S, parOS, appS, setA, popM, nxSet, nxUnp, appPopM, forS, forR, forE, raiseS, varM, cM, unM, binM, chM, tupM, lstM, nilA, consA, testM, andT, orT, notT, andV, orV, notV, ifM, cbM, callP, callS, bindM, ofO, liftP, endP, endS, get2M, gGet2, VS.keyD, setAll, setN, setT, wipeE, List.getElem?_cons_zero, List.getElem?_cons_succ, List.set_cons_zero, List.set_cons_succ, List.append_nil, List.cons_append, List.nil_append, List.length_cons, List.length_nil, Nat.zero_add, Nat.reduceAdd, Nat.reduceLeDiff, Nat.zero_le, if_true, if_false, Bool.false_eq_true, Bool.not_true, Bool.not_false, gII, gAdd, gEq_int, gNe_int, reduceCtorEq, e5, e6]
  have b1 := behind_ok m1 (by omega : many ≤ 600) hU hW
  have b2 := led_row_ok m1 (by omega : many ≤ 63) hU hr
  have a4 : s_law_k05_4 [some scr, some .st, x2, some (.int many), some (dRow r), some (dWit U), some (dWit W), some (tupDI E), some (.lst (fs.map tupDI)), y9, y10, x11, x12, x13, x14, x15, x16, x17, x18, x19, x20] S5 = .ok (.nx (eA scr x2 many r U W E fs x11 x12 x13 x14 x15 x16 x17 x18 x19 x20), S5) := by
    unfold s_law_k05_4
    simp only [startE, List.map_cons, List.map_nil, Nat.reduceSub, List.replicate_succ, List.replicate_zero, seqS, ifS, retS, asgS, dropS, nextS, retN, unpS, parS, par3S, parOS, appS, setA, popM, nxSet, nxUnp, appPopM, forS, forR, forE, raiseS, varM, cM, unM, binM, chM, tupM, lstM, nilA, consA, testM, andT, orT, notT, andV, orV, notV, ifM, cbM, callP, callS, bindM, ofO, liftP, endP, endS, get2M, gGet2, VS.keyD, setAll, setN, setT, wipeE, List.getElem?_cons_zero, List.getElem?_cons_succ, List.set_cons_zero, List.set_cons_succ, List.append_nil, List.cons_append, List.nil_append, List.length_cons, List.length_nil, Nat.zero_add, Nat.reduceAdd, Nat.reduceLeDiff, Nat.zero_le, if_true, if_false, Bool.false_eq_true, Bool.not_true, Bool.not_false, gII, gAdd, gEq_int, gNe_int, reduceCtorEq, b1, b2]
  obtain ⟨z11, a5⟩ := loop8 (scr := scr) (x2 := x2) (x11 := x11) (x12 := x12) (x13 := x13) (x14 := x14) (x15 := x15) (x16 := x16) (x17 := x17) (x18 := x18) (x19 := x19) (x20 := x20) (S := S5) c
  have a6 := if_no (g1 := retS (cM (.bl false))) (t9_ok (scr := scr) (x2 := x2) (x11 := z11) (x12 := x12) (x13 := x13) (x14 := x14) (x15 := x15) (x16 := x16) (x17 := x17) (x18 := x18) (x19 := x19) (x20 := x20) (S := S5) c)
  obtain ⟨z12, z14, a7⟩ := s12_ok (scr := scr) (x2 := x2) (x11 := z11) (x12 := x12) (x13 := x13) (x14 := x14) (x15 := x15) (x16 := x16) (x17 := x17) (x18 := x18) (x19 := x19) (x20 := x20) (S := S5) c
  obtain ⟨n, S6, e7, hn, g6⟩ := row_ok (many := many) (most := 4) (k := 4 + K) m1 (by omega) (by omega) (by omega) (g5.mono (by omega))
  have b3 := turned_x c
  have a8 : s_law_k05_13 (eA scr x2 many r U W E fs z11 z12 x13 z14 x15 x16 x17 x18 x19 x20) S5 = .ok (.nx (eA scr x2 many r U W E fs z11 z12 x13 z14 (some (tupDI (turnX E))) (some (dRow n)) x17 x18 x19 x20), S6) := by
    unfold s_law_k05_13
    simp only [startE, List.map_cons, List.map_nil, Nat.reduceSub, List.replicate_succ, List.replicate_zero, seqS, ifS, retS, asgS, dropS, nextS, retN, unpS, parS, par3S, parOS, appS, setA, popM, nxSet, nxUnp, appPopM, forS, forR, forE, raiseS, varM, cM, unM, binM, chM, tupM, lstM, nilA, consA, testM, andT, orT, notT, andV, orV, notV, ifM, cbM, callP, callS, bindM, ofO, liftP, endP, endS, get2M, gGet2, VS.keyD, setAll, setN, setT, wipeE, List.getElem?_cons_zero, List.getElem?_cons_succ, List.set_cons_zero, List.set_cons_succ, List.append_nil, List.cons_append, List.nil_append, List.length_cons, List.length_nil, Nat.zero_add, Nat.reduceAdd, Nat.reduceLeDiff, Nat.zero_le, if_true, if_false, Bool.false_eq_true, Bool.not_true, Bool.not_false, gII, gAdd, gEq_int, gNe_int, reduceCtorEq, b3, e7]
  have a9 := if_no (g1 := retS (cM (.bl false))) (t14_ok (scr := scr) (x2 := x2) (x11 := z11) (x12 := z12) (x13 := x13) (x14 := z14) (x16 := some (dRow n)) (x17 := x17) (x18 := x18) (x19 := x19) (x20 := x20) (S := S6) c)
  have a10 := if_no (g1 := retS (cM (.bl false))) (t15_ok (scr := scr) (x2 := x2) (x11 := z11) (x12 := z12) (x13 := x13) (x14 := z14) (x15 := some (tupDI (turnX E))) (x16 := some (dRow n)) (x17 := x17) (x18 := x18) (x19 := x19) (x20 := x20) (S := S6) c)
  have a11 := if_no (g1 := retS (cM (.bl false))) (t16_ok (scr := scr) (x2 := x2) (x11 := z11) (x12 := z12) (x13 := x13) (x14 := z14) (x15 := some (tupDI (turnX E))) (x17 := x17) (x18 := x18) (x19 := x19) (x20 := x20) (S := S6) c hn)
  have hlen : (fs.map tupDI).length = 2 ^ many.toNat := by rw [List.length_map, hfs.2]
  have hpow : 2 ^ many.toNat ≤ 2 ^ 6 := Nat.pow_le_pow_right (by decide) (by omega)
  obtain ⟨d, S7, e8, hd, g7⟩ := pick_ok (ds := fs.map tupDI) (k := 1 + K) (by rw [hlen]; exact Nat.two_pow_pos _) (by rw [hlen]; omega) (g6.mono (by omega))
  obtain ⟨f, hf, rfl⟩ := List.mem_map.mp hd
  have hf := (hfs.1 f).mp hf
  have a12 : s_law_k05_17 (eA scr x2 many r U W E fs z11 z12 x13 z14 (some (tupDI (turnX E))) (some (dRow n)) x17 x18 x19 x20) S6 = .ok (.nx (eA scr x2 many r U W E fs (some (tupDI f)) z12 x13 z14 (some (tupDI (turnX E))) (some (dRow n)) x17 x18 x19 x20), S7) := by
    unfold s_law_k05_17
    simp only [startE, List.map_cons, List.map_nil, Nat.reduceSub, List.replicate_succ, List.replicate_zero, seqS, ifS, retS, asgS, dropS, nextS, retN, unpS, parS, par3S, parOS, appS, setA, popM, nxSet, nxUnp, appPopM, forS, forR, forE, raiseS, varM, cM, unM, binM, chM, tupM, lstM, nilA, consA, testM, andT, orT, notT, andV, orV, notV, ifM, cbM, callP, callS, bindM, ofO, liftP, endP, endS, get2M, gGet2, VS.keyD, setAll, setN, setT, wipeE, List.getElem?_cons_zero, List.getElem?_cons_succ, List.set_cons_zero, List.set_cons_succ, List.append_nil, List.cons_append, List.nil_append, List.length_cons, List.length_nil, Nat.zero_add, Nat.reduceAdd, Nat.reduceLeDiff, Nat.zero_le, if_true, if_false, Bool.false_eq_true, Bool.not_true, Bool.not_false, gII, gAdd, gEq_int, gNe_int, reduceCtorEq, e8]
  have a13 := s19_ok (scr := scr) (x2 := x2) (many := many) (r := r) (U := U) (W := W) (E := E) (fs := fs) (x12 := z12) (x13 := x13) (x14 := z14) (x15 := some (tupDI (turnX E))) (x16 := some (dRow n)) (x17 := x17) (x18 := x18) (x19 := x19) (x20 := x20) (S := S7) hf
  have b4 := led_row_ok m1 (by omega : many ≤ 63) (fixW_ok hf) hr
  have a14 : s_law_k05_20 (eA scr x2 many r U W E fs (some (tupDI f)) z12 x13 z14 (some (tupDI (turnX E))) (some (dRow n)) x17 (some (dWit (fixW f))) x19 x20) S7 = .ok (.nx (eA scr x2 many r U W E fs (some (tupDI f)) z12 x13 z14 (some (tupDI (turnX E))) (some (dRow n)) x17 (some (dWit (fixW f))) x19 (some (dRow (ledR (fixW f) r)))), S7) := by
    unfold s_law_k05_20
    simp only [startE, List.map_cons, List.map_nil, Nat.reduceSub, List.replicate_succ, List.replicate_zero, seqS, ifS, retS, asgS, dropS, nextS, retN, unpS, parS, par3S, parOS, appS, setA, popM, nxSet, nxUnp, appPopM, forS, forR, forE, raiseS, varM, cM, unM, binM, chM, tupM, lstM, nilA, consA, testM, andT, orT, notT, andV, orV, notV, ifM, cbM, callP, callS, bindM, ofO, liftP, endP, endS, get2M, gGet2, VS.keyD, setAll, setN, setT, wipeE, List.getElem?_cons_zero, List.getElem?_cons_succ, List.set_cons_zero, List.set_cons_succ, List.append_nil, List.cons_append, List.nil_append, List.length_cons, List.length_nil, Nat.zero_add, Nat.reduceAdd, Nat.reduceLeDiff, Nat.zero_le, if_true, if_false, Bool.false_eq_true, Bool.not_true, Bool.not_false, gII, gAdd, gEq_int, gNe_int, reduceCtorEq, b4]
  obtain ⟨S8, e9, g8⟩ := t21_ok (scr := scr) (x2 := x2) (x12 := z12) (x13 := x13) (x14 := z14) (x15 := some (tupDI (turnX E))) (x16 := some (dRow n)) (x17 := x17) (x19 := x19) (S := S7) c hf (k := K) (g7.mono (by omega))
  have a15 := if_no (g1 := retS (cM (.bl false))) e9
  refine ⟨some (.int many), some (dRow r), some (dWit U), some (dWit W), some (tupDI E), some (.lst (fs.map tupDI)), some (dWit (behW U W)), some (dRow (ledR U r)), some (tupDI f), z12, x13, z14, some (tupDI (turnX E)), some (dRow n), x17, some (dWit (fixW f)), x19, some (dRow (ledR (fixW f) r)), S8, ?_, g8⟩
  unfold b_law_k05_22
  rw [seq_nx a1, seq_nx a2, seq_nx a3, seq_nx a4, seq_nx a5, seq_nx a6, seq_nx a7, seq_nx a8, seq_nx a9, seq_nx a10, seq_nx a11, seq_nx a12, seq_nx a13, seq_nx a14, a15]
end
abbrev lI (ns : List Int) : Nat → VS.Env → DS → Prop := fun i env S => ∃ y2 y3 y4 y5 y6 y7 y8 y9 y10 y11 y12 y13 y14 y15 y16 y17 y18 y19 y20, env = [some (.scr ns), some .st, y2, y3, y4, y5, y6, y7, y8, y9, y10, y11, y12, y13, y14, y15, y16, y17, y18, y19, y20] ∧ Good (130 * (10 - i)) S
theorem law_loop (ns : List Int) (m : Nat) (hm : m ≤ 10) {S : DS} (hg : Good 1300 S) : ∃ env' S', loopS (setN 2) b_law_k05_22 (intsD 0 m) [some (.scr ns), some .st, none, none, none, none, none, none, none, none, none, none, none, none, none, none, none, none, none, none, none] S = .ok (.nx env', S') := by
  obtain ⟨env', S', h, _⟩ := loop_inv (set := setN 2) (g := b_law_k05_22) (lI ns) (intsD 0 m) 0 _ S ⟨none, none, none, none, none, none, none, none, none, none, none, none, none, none, none, none, none, none, none, rfl, hg.mono (by omega)⟩ (fun j d env S hj hI => by
    rw [Nat.zero_add] at hI ⊢
    have hlt : j < m := by have := (List.getElem?_eq_some_iff.mp hj).1; simpa [intsD] using this
    obtain ⟨y2, y3, y4, y5, y6, y7, y8, y9, y10, y11, y12, y13, y14, y15, y16, y17, y18, y19, y20, rfl, g⟩ := hI
    obtain ⟨z3, z4, z5, z6, z7, z8, z9, z10, z11, z12, z13, z14, z15, z16, z17, z18, z19, z20, S', h, g'⟩ := body_ok (scr := .scr ns) (x2 := some d) (x11 := y11) (x12 := y12) (x13 := y13) (x14 := y14) (x15 := y15) (x16 := y16) (x17 := y17) (x18 := y18) (x19 := y19) (x20 := y20) (y3 := y3) (y4 := y4) (y5 := y5) (y6 := y6) (y7 := y7) (y8 := y8) (y9 := y9) (y10 := y10) (K := 130 * (10 - (j + 1))) (S := S) (g.mono (by omega))
    exact ⟨_, _, S', rfl, h, _, _, _, _, _, _, _, _, _, _, _, _, _, _, _, _, _, _, _, rfl, g'⟩)
  exact ⟨env', S', h⟩
theorem range_m (a b : Int) (ns : List Int) (h0 : 0 ≤ a) (h1 : 0 ≤ b) (h2 : a + b ≤ 1000) : ∃ m : Nat, (m : Int) ≤ a + b ∧ rangeOf [.int (a + (if (b : Int) < (ns.length : Int) then b else (ns.length : Int)))] = some (intsD 0 m) := by
  refine ⟨(a + (if (b : Int) < (ns.length : Int) then b else (ns.length : Int))).toNat, by split <;> omega, ?_⟩
  simp only [rangeOf]
  rw [if_pos (by split <;> omega)]
theorem law_true' (ns : List Int) (hn : ns.length ≤ 63) : ∃ S', g_law_k05 (some (.scr ns) :: some .st :: List.replicate 19 none) (begun ns) = .ok (.rt (.bl true), S') := by
  obtain ⟨m, hm, hr⟩ := range_m 4 6 ns (by omega) (by omega) (by omega)
  obtain ⟨env', S', h⟩ := law_loop ns m (by omega) ((begun_good ns hn).mono (by omega))
  refine ⟨S', ?_⟩
  have hE : (some (D.scr ns) :: some D.st :: List.replicate 19 none) = [some (.scr ns), some .st, none, none, none, none, none, none, none, none, none, none, none, none, none, none, none, none, none, none, none] := rfl
  have hA : consA (binM gAdd (cM (.int 4)) (cbM gMin (consA (cbM gLenA (consA (varM 0) nilA)) (consA (cM (.int 6)) nilA)))) nilA [some (.scr ns), some .st, none, none, none, none, none, none, none, none, none, none, none, none, none, none, none, none, none, none, none] (begun ns) = .ok ([.int (4 + (if (6 : Int) < (ns.length : Int) then 6 else (ns.length : Int)))], begun ns) := rfl
  have h1 : s_law_k05_23 [some (.scr ns), some .st, none, none, none, none, none, none, none, none, none, none, none, none, none, none, none, none, none, none, none] (begun ns) = .ok (.nx env', S') := by
    unfold s_law_k05_23 forR
    rw [hA]
    simp only [bindM, hr]
    exact h
  rw [hE]
  unfold g_law_k05
  rw [seq_nx h1]
  rfl
end My
namespace My
open PySem PySem.Spec PyProof.Rows L2 VS
section
variable {P : Program} {w : World} {K : PySem.W.Frag} {mg : Str → Option Value} {base : Heap} {A : Adr}
theorem law_done (T : Txt K mg A) {fa : Addr} {oc dc pm ct kV : Value} {od an : Option Addr} {cc : Value} {osl : Array (Option Value)} {w : World} (lk : K.lookup fa = some ⟨oc, od, .func (PySem.W.fnOf "law" "law" (defArgs (top 70)) (defBody (top 70)) (defScope (top 70)) .none kV dc pm an cc ct), osl⟩) (hcd : PySem.W.codeIn K cc "law" = true)
    (hb : ∀ (s : Shared) (u : Value), BindsTo s (PySem.W.fnOf "law" "law" (defArgs (top 70)) (defBody (top 70)) (defScope (top 70)) .none kV dc pm an cc ct) ⟨[u], []⟩ ((["script"] : List Str).zip [u]))
    (math : ∀ ns : List Int, ns.length ≤ 63 → ∃ S', g_law (some (.scr ns) :: some .st :: List.replicate 19 none) (begun ns) = .ok (.rt (.bl true), S'))
    {s₁ : Shared} {a : Addr} {ns : List Int} {base : Heap} {H : Hp} (hl : ns.length ≤ 63) (e0 : Env0 P w K mg base callerA [] s₁ H) (hS : SqL K H a (ns.map V.int)) (hno : ∀ b o, H b = some o → b ∈ ([] : List Addr) ∨ NoTbl o) :
    codeAny (model P w) callerA (.call (.ref fa) ⟨[.ref a], []⟩) (CR (L2.CX P w) [] P w H s₁ (fun v _ => v = .bl true) fun _ _ _ => False) s₁ := by
  have sc := sc_law
  have hgd : callerA.guards = some [] := rfl
  have hr0 : Room 12 callerA := ⟨rfl, by decide, by decide⟩
  refine LamX.run_ofS (k := 11) (N := ["script", "state", "turn", "many", "row", "one", "other", "exchange", "every", "both", "led", "filling", "literal", "item", "image", "back", "near", "weight", "fixed", "value", "told"]) (ps := ["script"]) (us := [.ref a]) (vs := [.ref a]) lk hcd sc hr0 e0 (hb s₁ (.ref a)) (.cons rfl .nil) rfl fun hr => ?_
  refine ⟨_, pss_cons (ps_set (i := 1) sc.nd rfl (by first | exact Or.inl rfl | exact Or.inr rfl) (pe_call (ok__law_begun T) (hr.mono (by decide)) (by rfl) T.m__law_begun T.f__law_begun.kp (b__law_begun T) .nil (passes_call (takes_of rfl rfl rfl rfl) fun _ _ _ _ h => h) (pa_cons (pv 0) pa_nil))) (PSs.ex fun l => law_rest T (TP := exT fun _ => none) hgd hr l), ?_⟩
  exact ⟨_, rfl, law_start0 (N := 20) hS hno (Nat.le_trans hl (by decide)) rfl rfl (math ns hl) (by decide) (fun _ => rfl)⟩
theorem all_mk {P : Program} {w : World} {h : Heap} {fa : Addr} (X : K.In h) (G : h.Ns mainGlobals mg) (hfa : mg "law" = some (.ref fa)) (own : LamX.OwnTab K fa h) (math : ∀ ns : List Int, ns.length ≤ 63 → ∃ S', g_law (some (.scr ns) :: some .st :: List.replicate 19 none) (begun ns) = .ok (.rt (.bl true), S'))
    {C_BadExchange : Addr}
    {C_BadFilling : Addr}
    {C_BadLiteral : Addr}
    {C_BadMany : Addr}
    {C_BadRow : Addr}
    {C_BadWitness : Addr}
    {C_WitnessError : Addr}
    {f_is_number : Addr} {od_is_number an_is_number : Option Addr} {sl_is_number : Array (Option Value)} {oc_is_number kV_is_number dc_is_number pm_is_number cd_is_number ct_is_number : Value}
    {f_is_number_from : Addr} {od_is_number_from an_is_number_from : Option Addr} {sl_is_number_from : Array (Option Value)} {oc_is_number_from kV_is_number_from dc_is_number_from pm_is_number_from cd_is_number_from ct_is_number_from : Value}
    {f_is_number_between : Addr} {od_is_number_between an_is_number_between : Option Addr} {sl_is_number_between : Array (Option Value)} {oc_is_number_between kV_is_number_between dc_is_number_between pm_is_number_between cd_is_number_between ct_is_number_between : Value}
    {f_is_pair : Addr} {od_is_pair an_is_pair : Option Addr} {sl_is_pair : Array (Option Value)} {oc_is_pair kV_is_pair dc_is_pair pm_is_pair cd_is_pair ct_is_pair : Value}
    {f_is_literal_of : Addr} {od_is_literal_of an_is_literal_of : Option Addr} {sl_is_literal_of : Array (Option Value)} {oc_is_literal_of kV_is_literal_of dc_is_literal_of pm_is_literal_of cd_is_literal_of ct_is_literal_of : Value}
    {f_are_terms_of : Addr} {od_are_terms_of an_are_terms_of : Option Addr} {sl_are_terms_of : Array (Option Value)} {oc_are_terms_of kV_are_terms_of dc_are_terms_of pm_are_terms_of cd_are_terms_of ct_are_terms_of : Value}
    {f_is_row_of : Addr} {od_is_row_of an_is_row_of : Option Addr} {sl_is_row_of : Array (Option Value)} {oc_is_row_of kV_is_row_of dc_is_row_of pm_is_row_of cd_is_row_of ct_is_row_of : Value}
    {f_is_filling_of : Addr} {od_is_filling_of an_is_filling_of : Option Addr} {sl_is_filling_of : Array (Option Value)} {oc_is_filling_of kV_is_filling_of dc_is_filling_of pm_is_filling_of cd_is_filling_of ct_is_filling_of : Value}
    {f_are_unlike : Addr} {od_are_unlike an_are_unlike : Option Addr} {sl_are_unlike : Array (Option Value)} {oc_are_unlike kV_are_unlike dc_are_unlike pm_are_unlike cd_are_unlike ct_are_unlike : Value}
    {f_check_many : Addr} {od_check_many an_check_many : Option Addr} {sl_check_many : Array (Option Value)} {oc_check_many kV_check_many dc_check_many pm_check_many cd_check_many ct_check_many : Value}
    {T_check_many : Addr} {tc_check_many : Value} {td_check_many : Option Addr} {tsl_check_many : Array (Option Value)} {tn_check_many : Nat} {tk_check_many : Tok}
    {f_check_literal : Addr} {od_check_literal an_check_literal : Option Addr} {sl_check_literal : Array (Option Value)} {oc_check_literal kV_check_literal dc_check_literal pm_check_literal cd_check_literal ct_check_literal : Value}
    {f_check_row : Addr} {od_check_row an_check_row : Option Addr} {sl_check_row : Array (Option Value)} {oc_check_row kV_check_row dc_check_row pm_check_row cd_check_row ct_check_row : Value}
    {f_check_filling : Addr} {od_check_filling an_check_filling : Option Addr} {sl_check_filling : Array (Option Value)} {oc_check_filling kV_check_filling dc_check_filling pm_check_filling cd_check_filling ct_check_filling : Value}
    {f_opposite_terms : Addr} {od_opposite_terms an_opposite_terms : Option Addr} {sl_opposite_terms : Array (Option Value)} {oc_opposite_terms kV_opposite_terms dc_opposite_terms pm_opposite_terms cd_opposite_terms ct_opposite_terms : Value}
    {f_weight_sum : Addr} {od_weight_sum an_weight_sum : Option Addr} {sl_weight_sum : Array (Option Value)} {oc_weight_sum kV_weight_sum dc_weight_sum pm_weight_sum cd_weight_sum ct_weight_sum : Value}
    {f_opposite_row : Addr} {od_opposite_row an_opposite_row : Option Addr} {sl_opposite_row : Array (Option Value)} {oc_opposite_row kV_opposite_row dc_opposite_row pm_opposite_row cd_opposite_row ct_opposite_row : Value}
    {f_opposite : Addr} {od_opposite an_opposite : Option Addr} {sl_opposite : Array (Option Value)} {oc_opposite kV_opposite dc_opposite pm_opposite cd_opposite ct_opposite : Value}
    {f_worth_of : Addr} {od_worth_of an_worth_of : Option Addr} {sl_worth_of : Array (Option Value)} {oc_worth_of kV_worth_of dc_worth_of pm_worth_of cd_worth_of ct_worth_of : Value}
    {f_sum_at : Addr} {od_sum_at an_sum_at : Option Addr} {sl_sum_at : Array (Option Value)} {oc_sum_at kV_sum_at dc_sum_at pm_sum_at cd_sum_at ct_sum_at : Value}
    {f_holds_at : Addr} {od_holds_at an_holds_at : Option Addr} {sl_holds_at : Array (Option Value)} {oc_holds_at kV_holds_at dc_holds_at pm_holds_at cd_holds_at ct_holds_at : Value}
    {f_holds : Addr} {od_holds an_holds : Option Addr} {sl_holds : Array (Option Value)} {oc_holds kV_holds dc_holds pm_holds cd_holds ct_holds : Value}
    {f_missing_in : Addr} {od_missing_in an_missing_in : Option Addr} {sl_missing_in : Array (Option Value)} {oc_missing_in kV_missing_in dc_missing_in pm_missing_in cd_missing_in ct_missing_in : Value}
    {f_is_covered : Addr} {od_is_covered an_is_covered : Option Addr} {sl_is_covered : Array (Option Value)} {oc_is_covered kV_is_covered dc_is_covered pm_is_covered cd_is_covered ct_is_covered : Value}
    {f_covers : Addr} {od_covers an_covers : Option Addr} {sl_covers : Array (Option Value)} {oc_covers kV_covers dc_covers pm_covers cd_covers ct_covers : Value}
    {f_normal_row : Addr} {od_normal_row an_normal_row : Option Addr} {sl_normal_row : Array (Option Value)} {oc_normal_row kV_normal_row dc_normal_row pm_normal_row cd_normal_row ct_normal_row : Value}
    {f__is_image : Addr} {od__is_image an__is_image : Option Addr} {sl__is_image : Array (Option Value)} {oc__is_image kV__is_image dc__is_image pm__is_image cd__is_image ct__is_image : Value}
    {f_is_witness_of : Addr} {od_is_witness_of an_is_witness_of : Option Addr} {sl_is_witness_of : Array (Option Value)} {oc_is_witness_of kV_is_witness_of dc_is_witness_of pm_is_witness_of cd_is_witness_of ct_is_witness_of : Value}
    {f_check_witness : Addr} {od_check_witness an_check_witness : Option Addr} {sl_check_witness : Array (Option Value)} {oc_check_witness kV_check_witness dc_check_witness pm_check_witness cd_check_witness ct_check_witness : Value}
    {f__opposite_image : Addr} {od__opposite_image an__opposite_image : Option Addr} {sl__opposite_image : Array (Option Value)} {oc__opposite_image kV__opposite_image dc__opposite_image pm__opposite_image cd__opposite_image ct__opposite_image : Value}
    {f_image_of : Addr} {od_image_of an_image_of : Option Addr} {sl_image_of : Array (Option Value)} {oc_image_of kV_image_of dc_image_of pm_image_of cd_image_of ct_image_of : Value}
    {f_led_literal : Addr} {od_led_literal an_led_literal : Option Addr} {sl_led_literal : Array (Option Value)} {oc_led_literal kV_led_literal dc_led_literal pm_led_literal cd_led_literal ct_led_literal : Value}
    {f_row_led : Addr} {od_row_led an_row_led : Option Addr} {sl_row_led : Array (Option Value)} {oc_row_led kV_row_led dc_row_led pm_row_led cd_row_led ct_row_led : Value}
    {f_led_row : Addr} {od_led_row an_led_row : Option Addr} {sl_led_row : Array (Option Value)} {oc_led_row kV_led_row dc_led_row pm_led_row cd_led_row ct_led_row : Value}
    {f__worth_of_image : Addr} {od__worth_of_image an__worth_of_image : Option Addr} {sl__worth_of_image : Array (Option Value)} {oc__worth_of_image kV__worth_of_image dc__worth_of_image pm__worth_of_image cd__worth_of_image ct__worth_of_image : Value}
    {f_filling_led : Addr} {od_filling_led an_filling_led : Option Addr} {sl_filling_led : Array (Option Value)} {oc_filling_led kV_filling_led dc_filling_led pm_filling_led cd_filling_led ct_filling_led : Value}
    {f_led_filling : Addr} {od_led_filling an_led_filling : Option Addr} {sl_led_filling : Array (Option Value)} {oc_led_filling kV_led_filling dc_led_filling pm_led_filling cd_led_filling ct_led_filling : Value}
    {f__led_image : Addr} {od__led_image an__led_image : Option Addr} {sl__led_image : Array (Option Value)} {oc__led_image kV__led_image dc__led_image pm__led_image cd__led_image ct__led_image : Value}
    {f_witness_behind : Addr} {od_witness_behind an_witness_behind : Option Addr} {sl_witness_behind : Array (Option Value)} {oc_witness_behind kV_witness_behind dc_witness_behind pm_witness_behind cd_witness_behind ct_witness_behind : Value}
    {f_behind : Addr} {od_behind an_behind : Option Addr} {sl_behind : Array (Option Value)} {oc_behind kV_behind dc_behind pm_behind cd_behind ct_behind : Value}
    {f_is_exchange_of : Addr} {od_is_exchange_of an_is_exchange_of : Option Addr} {sl_is_exchange_of : Array (Option Value)} {oc_is_exchange_of kV_is_exchange_of dc_is_exchange_of pm_is_exchange_of cd_is_exchange_of ct_is_exchange_of : Value}
    {f_is_exchange : Addr} {od_is_exchange an_is_exchange : Option Addr} {sl_is_exchange : Array (Option Value)} {oc_is_exchange kV_is_exchange dc_is_exchange pm_is_exchange cd_is_exchange ct_is_exchange : Value}
    {f_check_exchange : Addr} {od_check_exchange an_check_exchange : Option Addr} {sl_check_exchange : Array (Option Value)} {oc_check_exchange kV_check_exchange dc_check_exchange pm_check_exchange cd_check_exchange ct_check_exchange : Value}
    {f_exchange_turned : Addr} {od_exchange_turned an_exchange_turned : Option Addr} {sl_exchange_turned : Array (Option Value)} {oc_exchange_turned kV_exchange_turned dc_exchange_turned pm_exchange_turned cd_exchange_turned ct_exchange_turned : Value}
    {f_turned : Addr} {od_turned an_turned : Option Addr} {sl_turned : Array (Option Value)} {oc_turned kV_turned dc_turned pm_turned cd_turned ct_turned : Value}
    {f__law_begun : Addr} {od__law_begun an__law_begun : Option Addr} {sl__law_begun : Array (Option Value)} {oc__law_begun kV__law_begun dc__law_begun pm__law_begun cd__law_begun ct__law_begun : Value}
    {f__law_draw : Addr} {od__law_draw an__law_draw : Option Addr} {sl__law_draw : Array (Option Value)} {oc__law_draw kV__law_draw dc__law_draw pm__law_draw cd__law_draw ct__law_draw : Value}
    {f__law_pick : Addr} {od__law_pick an__law_pick : Option Addr} {sl__law_pick : Array (Option Value)} {oc__law_pick kV__law_pick dc__law_pick pm__law_pick cd__law_pick ct__law_pick : Value}
    {f__law_mixed : Addr} {od__law_mixed an__law_mixed : Option Addr} {sl__law_mixed : Array (Option Value)} {oc__law_mixed kV__law_mixed dc__law_mixed pm__law_mixed cd__law_mixed ct__law_mixed : Value}
    {f__law_fillings : Addr} {od__law_fillings an__law_fillings : Option Addr} {sl__law_fillings : Array (Option Value)} {oc__law_fillings kV__law_fillings dc__law_fillings pm__law_fillings cd__law_fillings ct__law_fillings : Value}
    {f__law_worth : Addr} {od__law_worth an__law_worth : Option Addr} {sl__law_worth : Array (Option Value)} {oc__law_worth kV__law_worth dc__law_worth pm__law_worth cd__law_worth ct__law_worth : Value}
    {f__law_comes : Addr} {od__law_comes an__law_comes : Option Addr} {sl__law_comes : Array (Option Value)} {oc__law_comes kV__law_comes dc__law_comes pm__law_comes cd__law_comes ct__law_comes : Value}
    {f__law_holds : Addr} {od__law_holds an__law_holds : Option Addr} {sl__law_holds : Array (Option Value)} {oc__law_holds kV__law_holds dc__law_holds pm__law_holds cd__law_holds ct__law_holds : Value}
    {f__law_led : Addr} {od__law_led an__law_led : Option Addr} {sl__law_led : Array (Option Value)} {oc__law_led kV__law_led dc__law_led pm__law_led cd__law_led ct__law_led : Value}
    {f__law_terms : Addr} {od__law_terms an__law_terms : Option Addr} {sl__law_terms : Array (Option Value)} {oc__law_terms kV__law_terms dc__law_terms pm__law_terms cd__law_terms ct__law_terms : Value}
    {f__law_row : Addr} {od__law_row an__law_row : Option Addr} {sl__law_row : Array (Option Value)} {oc__law_row kV__law_row dc__law_row pm__law_row cd__law_row ct__law_row : Value}
    {f__law_witness : Addr} {od__law_witness an__law_witness : Option Addr} {sl__law_witness : Array (Option Value)} {oc__law_witness kV__law_witness dc__law_witness pm__law_witness cd__law_witness ct__law_witness : Value}
    {f__law_exchange : Addr} {od__law_exchange an__law_exchange : Option Addr} {sl__law_exchange : Array (Option Value)} {oc__law_exchange kV__law_exchange dc__law_exchange pm__law_exchange cd__law_exchange ct__law_exchange : Value}
    {f_law cA : Addr} {oc_law dc_law pm_law ct_law kV_law : Value} {od_law an_law : Option Addr} {sl_law : Array (Option Value)}
    (ac_BadExchange : PySem.W.nsIn K mainGlobals "BadExchange" = some (some (.ref C_BadExchange)))
    (ac_BadFilling : PySem.W.nsIn K mainGlobals "BadFilling" = some (some (.ref C_BadFilling)))
    (ac_BadLiteral : PySem.W.nsIn K mainGlobals "BadLiteral" = some (some (.ref C_BadLiteral)))
    (ac_BadMany : PySem.W.nsIn K mainGlobals "BadMany" = some (some (.ref C_BadMany)))
    (ac_BadRow : PySem.W.nsIn K mainGlobals "BadRow" = some (some (.ref C_BadRow)))
    (ac_BadWitness : PySem.W.nsIn K mainGlobals "BadWitness" = some (some (.ref C_BadWitness)))
    (ac_WitnessError : PySem.W.nsIn K mainGlobals "WitnessError" = some (some (.ref C_WitnessError)))
    (a_is_number : PySem.W.nsIn K mainGlobals "is_number" = some (some (.ref f_is_number)))
    (l_is_number : K.lookup f_is_number = some ⟨oc_is_number, od_is_number, .func (PySem.W.fnOf "is_number" "is_number" (defArgs (top 10)) (defBody (top 10)) (defScope (top 10)) .none kV_is_number dc_is_number pm_is_number an_is_number cd_is_number ct_is_number), sl_is_number⟩)
    (c_is_number : PySem.W.codeIn K cd_is_number "is_number" = true)
    (k_is_number : PySem.W.keepIn K (.ref f_is_number) = true)
    (a_is_number_from : PySem.W.nsIn K mainGlobals "is_number_from" = some (some (.ref f_is_number_from)))
    (l_is_number_from : K.lookup f_is_number_from = some ⟨oc_is_number_from, od_is_number_from, .func (PySem.W.fnOf "is_number_from" "is_number_from" (defArgs (top 11)) (defBody (top 11)) (defScope (top 11)) .none kV_is_number_from dc_is_number_from pm_is_number_from an_is_number_from cd_is_number_from ct_is_number_from), sl_is_number_from⟩)
    (c_is_number_from : PySem.W.codeIn K cd_is_number_from "is_number_from" = true)
    (k_is_number_from : PySem.W.keepIn K (.ref f_is_number_from) = true)
    (a_is_number_between : PySem.W.nsIn K mainGlobals "is_number_between" = some (some (.ref f_is_number_between)))
    (l_is_number_between : K.lookup f_is_number_between = some ⟨oc_is_number_between, od_is_number_between, .func (PySem.W.fnOf "is_number_between" "is_number_between" (defArgs (top 12)) (defBody (top 12)) (defScope (top 12)) .none kV_is_number_between dc_is_number_between pm_is_number_between an_is_number_between cd_is_number_between ct_is_number_between), sl_is_number_between⟩)
    (c_is_number_between : PySem.W.codeIn K cd_is_number_between "is_number_between" = true)
    (k_is_number_between : PySem.W.keepIn K (.ref f_is_number_between) = true)
    (a_is_pair : PySem.W.nsIn K mainGlobals "is_pair" = some (some (.ref f_is_pair)))
    (l_is_pair : K.lookup f_is_pair = some ⟨oc_is_pair, od_is_pair, .func (PySem.W.fnOf "is_pair" "is_pair" (defArgs (top 13)) (defBody (top 13)) (defScope (top 13)) .none kV_is_pair dc_is_pair pm_is_pair an_is_pair cd_is_pair ct_is_pair), sl_is_pair⟩)
    (c_is_pair : PySem.W.codeIn K cd_is_pair "is_pair" = true)
    (k_is_pair : PySem.W.keepIn K (.ref f_is_pair) = true)
    (a_is_literal_of : PySem.W.nsIn K mainGlobals "is_literal_of" = some (some (.ref f_is_literal_of)))
    (l_is_literal_of : K.lookup f_is_literal_of = some ⟨oc_is_literal_of, od_is_literal_of, .func (PySem.W.fnOf "is_literal_of" "is_literal_of" (defArgs (top 14)) (defBody (top 14)) (defScope (top 14)) .none kV_is_literal_of dc_is_literal_of pm_is_literal_of an_is_literal_of cd_is_literal_of ct_is_literal_of), sl_is_literal_of⟩)
    (c_is_literal_of : PySem.W.codeIn K cd_is_literal_of "is_literal_of" = true)
    (k_is_literal_of : PySem.W.keepIn K (.ref f_is_literal_of) = true)
    (a_are_terms_of : PySem.W.nsIn K mainGlobals "are_terms_of" = some (some (.ref f_are_terms_of)))
    (l_are_terms_of : K.lookup f_are_terms_of = some ⟨oc_are_terms_of, od_are_terms_of, .func (PySem.W.fnOf "are_terms_of" "are_terms_of" (defArgs (top 15)) (defBody (top 15)) (defScope (top 15)) .none kV_are_terms_of dc_are_terms_of pm_are_terms_of an_are_terms_of cd_are_terms_of ct_are_terms_of), sl_are_terms_of⟩)
    (c_are_terms_of : PySem.W.codeIn K cd_are_terms_of "are_terms_of" = true)
    (k_are_terms_of : PySem.W.keepIn K (.ref f_are_terms_of) = true)
    (a_is_row_of : PySem.W.nsIn K mainGlobals "is_row_of" = some (some (.ref f_is_row_of)))
    (l_is_row_of : K.lookup f_is_row_of = some ⟨oc_is_row_of, od_is_row_of, .func (PySem.W.fnOf "is_row_of" "is_row_of" (defArgs (top 16)) (defBody (top 16)) (defScope (top 16)) .none kV_is_row_of dc_is_row_of pm_is_row_of an_is_row_of cd_is_row_of ct_is_row_of), sl_is_row_of⟩)
    (c_is_row_of : PySem.W.codeIn K cd_is_row_of "is_row_of" = true)
    (k_is_row_of : PySem.W.keepIn K (.ref f_is_row_of) = true)
    (a_is_filling_of : PySem.W.nsIn K mainGlobals "is_filling_of" = some (some (.ref f_is_filling_of)))
    (l_is_filling_of : K.lookup f_is_filling_of = some ⟨oc_is_filling_of, od_is_filling_of, .func (PySem.W.fnOf "is_filling_of" "is_filling_of" (defArgs (top 17)) (defBody (top 17)) (defScope (top 17)) .none kV_is_filling_of dc_is_filling_of pm_is_filling_of an_is_filling_of cd_is_filling_of ct_is_filling_of), sl_is_filling_of⟩)
    (c_is_filling_of : PySem.W.codeIn K cd_is_filling_of "is_filling_of" = true)
    (k_is_filling_of : PySem.W.keepIn K (.ref f_is_filling_of) = true)
    (a_are_unlike : PySem.W.nsIn K mainGlobals "are_unlike" = some (some (.ref f_are_unlike)))
    (l_are_unlike : K.lookup f_are_unlike = some ⟨oc_are_unlike, od_are_unlike, .func (PySem.W.fnOf "are_unlike" "are_unlike" (defArgs (top 18)) (defBody (top 18)) (defScope (top 18)) .none kV_are_unlike dc_are_unlike pm_are_unlike an_are_unlike cd_are_unlike ct_are_unlike), sl_are_unlike⟩)
    (c_are_unlike : PySem.W.codeIn K cd_are_unlike "are_unlike" = true)
    (k_are_unlike : PySem.W.keepIn K (.ref f_are_unlike) = true)
    (a_check_many : PySem.W.nsIn K mainGlobals "check_many" = some (some (.ref f_check_many)))
    (l_check_many : K.lookup f_check_many = some ⟨oc_check_many, od_check_many, .func (PySem.W.fnOf "check_many" "check_many" (defArgs (top 19)) (defBody (top 19)) (defScope (top 19)) (.ref T_check_many) kV_check_many dc_check_many pm_check_many an_check_many cd_check_many ct_check_many), sl_check_many⟩)
    (t_check_many : K.lookup T_check_many = some ⟨tc_check_many, td_check_many, .seq [Value.int 600 tk_check_many].toArray tn_check_many, tsl_check_many⟩)
    (c_check_many : PySem.W.codeIn K cd_check_many "check_many" = true)
    (k_check_many : PySem.W.keepIn K (.ref f_check_many) = true)
    (a_check_literal : PySem.W.nsIn K mainGlobals "check_literal" = some (some (.ref f_check_literal)))
    (l_check_literal : K.lookup f_check_literal = some ⟨oc_check_literal, od_check_literal, .func (PySem.W.fnOf "check_literal" "check_literal" (defArgs (top 20)) (defBody (top 20)) (defScope (top 20)) .none kV_check_literal dc_check_literal pm_check_literal an_check_literal cd_check_literal ct_check_literal), sl_check_literal⟩)
    (c_check_literal : PySem.W.codeIn K cd_check_literal "check_literal" = true)
    (k_check_literal : PySem.W.keepIn K (.ref f_check_literal) = true)
    (a_check_row : PySem.W.nsIn K mainGlobals "check_row" = some (some (.ref f_check_row)))
    (l_check_row : K.lookup f_check_row = some ⟨oc_check_row, od_check_row, .func (PySem.W.fnOf "check_row" "check_row" (defArgs (top 21)) (defBody (top 21)) (defScope (top 21)) .none kV_check_row dc_check_row pm_check_row an_check_row cd_check_row ct_check_row), sl_check_row⟩)
    (c_check_row : PySem.W.codeIn K cd_check_row "check_row" = true)
    (k_check_row : PySem.W.keepIn K (.ref f_check_row) = true)
    (a_check_filling : PySem.W.nsIn K mainGlobals "check_filling" = some (some (.ref f_check_filling)))
    (l_check_filling : K.lookup f_check_filling = some ⟨oc_check_filling, od_check_filling, .func (PySem.W.fnOf "check_filling" "check_filling" (defArgs (top 22)) (defBody (top 22)) (defScope (top 22)) .none kV_check_filling dc_check_filling pm_check_filling an_check_filling cd_check_filling ct_check_filling), sl_check_filling⟩)
    (c_check_filling : PySem.W.codeIn K cd_check_filling "check_filling" = true)
    (k_check_filling : PySem.W.keepIn K (.ref f_check_filling) = true)
    (a_opposite_terms : PySem.W.nsIn K mainGlobals "opposite_terms" = some (some (.ref f_opposite_terms)))
    (l_opposite_terms : K.lookup f_opposite_terms = some ⟨oc_opposite_terms, od_opposite_terms, .func (PySem.W.fnOf "opposite_terms" "opposite_terms" (defArgs (top 32)) (defBody (top 32)) (defScope (top 32)) .none kV_opposite_terms dc_opposite_terms pm_opposite_terms an_opposite_terms cd_opposite_terms ct_opposite_terms), sl_opposite_terms⟩)
    (c_opposite_terms : PySem.W.codeIn K cd_opposite_terms "opposite_terms" = true)
    (k_opposite_terms : PySem.W.keepIn K (.ref f_opposite_terms) = true)
    (a_weight_sum : PySem.W.nsIn K mainGlobals "weight_sum" = some (some (.ref f_weight_sum)))
    (l_weight_sum : K.lookup f_weight_sum = some ⟨oc_weight_sum, od_weight_sum, .func (PySem.W.fnOf "weight_sum" "weight_sum" (defArgs (top 28)) (defBody (top 28)) (defScope (top 28)) .none kV_weight_sum dc_weight_sum pm_weight_sum an_weight_sum cd_weight_sum ct_weight_sum), sl_weight_sum⟩)
    (c_weight_sum : PySem.W.codeIn K cd_weight_sum "weight_sum" = true)
    (k_weight_sum : PySem.W.keepIn K (.ref f_weight_sum) = true)
    (a_opposite_row : PySem.W.nsIn K mainGlobals "opposite_row" = some (some (.ref f_opposite_row)))
    (l_opposite_row : K.lookup f_opposite_row = some ⟨oc_opposite_row, od_opposite_row, .func (PySem.W.fnOf "opposite_row" "opposite_row" (defArgs (top 33)) (defBody (top 33)) (defScope (top 33)) .none kV_opposite_row dc_opposite_row pm_opposite_row an_opposite_row cd_opposite_row ct_opposite_row), sl_opposite_row⟩)
    (c_opposite_row : PySem.W.codeIn K cd_opposite_row "opposite_row" = true)
    (k_opposite_row : PySem.W.keepIn K (.ref f_opposite_row) = true)
    (a_opposite : PySem.W.nsIn K mainGlobals "opposite" = some (some (.ref f_opposite)))
    (l_opposite : K.lookup f_opposite = some ⟨oc_opposite, od_opposite, .func (PySem.W.fnOf "opposite" "opposite" (defArgs (top 24)) (defBody (top 24)) (defScope (top 24)) .none kV_opposite dc_opposite pm_opposite an_opposite cd_opposite ct_opposite), sl_opposite⟩)
    (c_opposite : PySem.W.codeIn K cd_opposite "opposite" = true)
    (k_opposite : PySem.W.keepIn K (.ref f_opposite) = true)
    (a_worth_of : PySem.W.nsIn K mainGlobals "worth_of" = some (some (.ref f_worth_of)))
    (l_worth_of : K.lookup f_worth_of = some ⟨oc_worth_of, od_worth_of, .func (PySem.W.fnOf "worth_of" "worth_of" (defArgs (top 29)) (defBody (top 29)) (defScope (top 29)) .none kV_worth_of dc_worth_of pm_worth_of an_worth_of cd_worth_of ct_worth_of), sl_worth_of⟩)
    (c_worth_of : PySem.W.codeIn K cd_worth_of "worth_of" = true)
    (k_worth_of : PySem.W.keepIn K (.ref f_worth_of) = true)
    (a_sum_at : PySem.W.nsIn K mainGlobals "sum_at" = some (some (.ref f_sum_at)))
    (l_sum_at : K.lookup f_sum_at = some ⟨oc_sum_at, od_sum_at, .func (PySem.W.fnOf "sum_at" "sum_at" (defArgs (top 30)) (defBody (top 30)) (defScope (top 30)) .none kV_sum_at dc_sum_at pm_sum_at an_sum_at cd_sum_at ct_sum_at), sl_sum_at⟩)
    (c_sum_at : PySem.W.codeIn K cd_sum_at "sum_at" = true)
    (k_sum_at : PySem.W.keepIn K (.ref f_sum_at) = true)
    (a_holds_at : PySem.W.nsIn K mainGlobals "holds_at" = some (some (.ref f_holds_at)))
    (l_holds_at : K.lookup f_holds_at = some ⟨oc_holds_at, od_holds_at, .func (PySem.W.fnOf "holds_at" "holds_at" (defArgs (top 31)) (defBody (top 31)) (defScope (top 31)) .none kV_holds_at dc_holds_at pm_holds_at an_holds_at cd_holds_at ct_holds_at), sl_holds_at⟩)
    (c_holds_at : PySem.W.codeIn K cd_holds_at "holds_at" = true)
    (k_holds_at : PySem.W.keepIn K (.ref f_holds_at) = true)
    (a_holds : PySem.W.nsIn K mainGlobals "holds" = some (some (.ref f_holds)))
    (l_holds : K.lookup f_holds = some ⟨oc_holds, od_holds, .func (PySem.W.fnOf "holds" "holds" (defArgs (top 25)) (defBody (top 25)) (defScope (top 25)) .none kV_holds dc_holds pm_holds an_holds cd_holds ct_holds), sl_holds⟩)
    (c_holds : PySem.W.codeIn K cd_holds "holds" = true)
    (k_holds : PySem.W.keepIn K (.ref f_holds) = true)
    (a_missing_in : PySem.W.nsIn K mainGlobals "missing_in" = some (some (.ref f_missing_in)))
    (l_missing_in : K.lookup f_missing_in = some ⟨oc_missing_in, od_missing_in, .func (PySem.W.fnOf "missing_in" "missing_in" (defArgs (top 35)) (defBody (top 35)) (defScope (top 35)) .none kV_missing_in dc_missing_in pm_missing_in an_missing_in cd_missing_in ct_missing_in), sl_missing_in⟩)
    (c_missing_in : PySem.W.codeIn K cd_missing_in "missing_in" = true)
    (k_missing_in : PySem.W.keepIn K (.ref f_missing_in) = true)
    (a_is_covered : PySem.W.nsIn K mainGlobals "is_covered" = some (some (.ref f_is_covered)))
    (l_is_covered : K.lookup f_is_covered = some ⟨oc_is_covered, od_is_covered, .func (PySem.W.fnOf "is_covered" "is_covered" (defArgs (top 34)) (defBody (top 34)) (defScope (top 34)) .none kV_is_covered dc_is_covered pm_is_covered an_is_covered cd_is_covered ct_is_covered), sl_is_covered⟩)
    (c_is_covered : PySem.W.codeIn K cd_is_covered "is_covered" = true)
    (k_is_covered : PySem.W.keepIn K (.ref f_is_covered) = true)
    (a_covers : PySem.W.nsIn K mainGlobals "covers" = some (some (.ref f_covers)))
    (l_covers : K.lookup f_covers = some ⟨oc_covers, od_covers, .func (PySem.W.fnOf "covers" "covers" (defArgs (top 26)) (defBody (top 26)) (defScope (top 26)) .none kV_covers dc_covers pm_covers an_covers cd_covers ct_covers), sl_covers⟩)
    (c_covers : PySem.W.codeIn K cd_covers "covers" = true)
    (k_covers : PySem.W.keepIn K (.ref f_covers) = true)
    (a_normal_row : PySem.W.nsIn K mainGlobals "normal_row" = some (some (.ref f_normal_row)))
    (l_normal_row : K.lookup f_normal_row = some ⟨oc_normal_row, od_normal_row, .func (PySem.W.fnOf "normal_row" "normal_row" (defArgs (top 27)) (defBody (top 27)) (defScope (top 27)) .none kV_normal_row dc_normal_row pm_normal_row an_normal_row cd_normal_row ct_normal_row), sl_normal_row⟩)
    (c_normal_row : PySem.W.codeIn K cd_normal_row "normal_row" = true)
    (k_normal_row : PySem.W.keepIn K (.ref f_normal_row) = true)
    (a__is_image : PySem.W.nsIn K mainGlobals "_is_image" = some (some (.ref f__is_image)))
    (l__is_image : K.lookup f__is_image = some ⟨oc__is_image, od__is_image, .func (PySem.W.fnOf "_is_image" "_is_image" (defArgs (top 43)) (defBody (top 43)) (defScope (top 43)) .none kV__is_image dc__is_image pm__is_image an__is_image cd__is_image ct__is_image), sl__is_image⟩)
    (c__is_image : PySem.W.codeIn K cd__is_image "_is_image" = true)
    (k__is_image : PySem.W.keepIn K (.ref f__is_image) = true)
    (a_is_witness_of : PySem.W.nsIn K mainGlobals "is_witness_of" = some (some (.ref f_is_witness_of)))
    (l_is_witness_of : K.lookup f_is_witness_of = some ⟨oc_is_witness_of, od_is_witness_of, .func (PySem.W.fnOf "is_witness_of" "is_witness_of" (defArgs (top 44)) (defBody (top 44)) (defScope (top 44)) .none kV_is_witness_of dc_is_witness_of pm_is_witness_of an_is_witness_of cd_is_witness_of ct_is_witness_of), sl_is_witness_of⟩)
    (c_is_witness_of : PySem.W.codeIn K cd_is_witness_of "is_witness_of" = true)
    (k_is_witness_of : PySem.W.keepIn K (.ref f_is_witness_of) = true)
    (a_check_witness : PySem.W.nsIn K mainGlobals "check_witness" = some (some (.ref f_check_witness)))
    (l_check_witness : K.lookup f_check_witness = some ⟨oc_check_witness, od_check_witness, .func (PySem.W.fnOf "check_witness" "check_witness" (defArgs (top 46)) (defBody (top 46)) (defScope (top 46)) .none kV_check_witness dc_check_witness pm_check_witness an_check_witness cd_check_witness ct_check_witness), sl_check_witness⟩)
    (c_check_witness : PySem.W.codeIn K cd_check_witness "check_witness" = true)
    (k_check_witness : PySem.W.keepIn K (.ref f_check_witness) = true)
    (a__opposite_image : PySem.W.nsIn K mainGlobals "_opposite_image" = some (some (.ref f__opposite_image)))
    (l__opposite_image : K.lookup f__opposite_image = some ⟨oc__opposite_image, od__opposite_image, .func (PySem.W.fnOf "_opposite_image" "_opposite_image" (defArgs (top 53)) (defBody (top 53)) (defScope (top 53)) .none kV__opposite_image dc__opposite_image pm__opposite_image an__opposite_image cd__opposite_image ct__opposite_image), sl__opposite_image⟩)
    (c__opposite_image : PySem.W.codeIn K cd__opposite_image "_opposite_image" = true)
    (k__opposite_image : PySem.W.keepIn K (.ref f__opposite_image) = true)
    (a_image_of : PySem.W.nsIn K mainGlobals "image_of" = some (some (.ref f_image_of)))
    (l_image_of : K.lookup f_image_of = some ⟨oc_image_of, od_image_of, .func (PySem.W.fnOf "image_of" "image_of" (defArgs (top 48)) (defBody (top 48)) (defScope (top 48)) .none kV_image_of dc_image_of pm_image_of an_image_of cd_image_of ct_image_of), sl_image_of⟩)
    (c_image_of : PySem.W.codeIn K cd_image_of "image_of" = true)
    (k_image_of : PySem.W.keepIn K (.ref f_image_of) = true)
    (a_led_literal : PySem.W.nsIn K mainGlobals "led_literal" = some (some (.ref f_led_literal)))
    (l_led_literal : K.lookup f_led_literal = some ⟨oc_led_literal, od_led_literal, .func (PySem.W.fnOf "led_literal" "led_literal" (defArgs (top 37)) (defBody (top 37)) (defScope (top 37)) .none kV_led_literal dc_led_literal pm_led_literal an_led_literal cd_led_literal ct_led_literal), sl_led_literal⟩)
    (c_led_literal : PySem.W.codeIn K cd_led_literal "led_literal" = true)
    (k_led_literal : PySem.W.keepIn K (.ref f_led_literal) = true)
    (a_row_led : PySem.W.nsIn K mainGlobals "row_led" = some (some (.ref f_row_led)))
    (l_row_led : K.lookup f_row_led = some ⟨oc_row_led, od_row_led, .func (PySem.W.fnOf "row_led" "row_led" (defArgs (top 49)) (defBody (top 49)) (defScope (top 49)) .none kV_row_led dc_row_led pm_row_led an_row_led cd_row_led ct_row_led), sl_row_led⟩)
    (c_row_led : PySem.W.codeIn K cd_row_led "row_led" = true)
    (k_row_led : PySem.W.keepIn K (.ref f_row_led) = true)
    (a_led_row : PySem.W.nsIn K mainGlobals "led_row" = some (some (.ref f_led_row)))
    (l_led_row : K.lookup f_led_row = some ⟨oc_led_row, od_led_row, .func (PySem.W.fnOf "led_row" "led_row" (defArgs (top 38)) (defBody (top 38)) (defScope (top 38)) .none kV_led_row dc_led_row pm_led_row an_led_row cd_led_row ct_led_row), sl_led_row⟩)
    (c_led_row : PySem.W.codeIn K cd_led_row "led_row" = true)
    (k_led_row : PySem.W.keepIn K (.ref f_led_row) = true)
    (a__worth_of_image : PySem.W.nsIn K mainGlobals "_worth_of_image" = some (some (.ref f__worth_of_image)))
    (l__worth_of_image : K.lookup f__worth_of_image = some ⟨oc__worth_of_image, od__worth_of_image, .func (PySem.W.fnOf "_worth_of_image" "_worth_of_image" (defArgs (top 55)) (defBody (top 55)) (defScope (top 55)) .none kV__worth_of_image dc__worth_of_image pm__worth_of_image an__worth_of_image cd__worth_of_image ct__worth_of_image), sl__worth_of_image⟩)
    (c__worth_of_image : PySem.W.codeIn K cd__worth_of_image "_worth_of_image" = true)
    (k__worth_of_image : PySem.W.keepIn K (.ref f__worth_of_image) = true)
    (a_filling_led : PySem.W.nsIn K mainGlobals "filling_led" = some (some (.ref f_filling_led)))
    (l_filling_led : K.lookup f_filling_led = some ⟨oc_filling_led, od_filling_led, .func (PySem.W.fnOf "filling_led" "filling_led" (defArgs (top 52)) (defBody (top 52)) (defScope (top 52)) .none kV_filling_led dc_filling_led pm_filling_led an_filling_led cd_filling_led ct_filling_led), sl_filling_led⟩)
    (c_filling_led : PySem.W.codeIn K cd_filling_led "filling_led" = true)
    (k_filling_led : PySem.W.keepIn K (.ref f_filling_led) = true)
    (a_led_filling : PySem.W.nsIn K mainGlobals "led_filling" = some (some (.ref f_led_filling)))
    (l_led_filling : K.lookup f_led_filling = some ⟨oc_led_filling, od_led_filling, .func (PySem.W.fnOf "led_filling" "led_filling" (defArgs (top 39)) (defBody (top 39)) (defScope (top 39)) .none kV_led_filling dc_led_filling pm_led_filling an_led_filling cd_led_filling ct_led_filling), sl_led_filling⟩)
    (c_led_filling : PySem.W.codeIn K cd_led_filling "led_filling" = true)
    (k_led_filling : PySem.W.keepIn K (.ref f_led_filling) = true)
    (a__led_image : PySem.W.nsIn K mainGlobals "_led_image" = some (some (.ref f__led_image)))
    (l__led_image : K.lookup f__led_image = some ⟨oc__led_image, od__led_image, .func (PySem.W.fnOf "_led_image" "_led_image" (defArgs (top 54)) (defBody (top 54)) (defScope (top 54)) .none kV__led_image dc__led_image pm__led_image an__led_image cd__led_image ct__led_image), sl__led_image⟩)
    (c__led_image : PySem.W.codeIn K cd__led_image "_led_image" = true)
    (k__led_image : PySem.W.keepIn K (.ref f__led_image) = true)
    (a_witness_behind : PySem.W.nsIn K mainGlobals "witness_behind" = some (some (.ref f_witness_behind)))
    (l_witness_behind : K.lookup f_witness_behind = some ⟨oc_witness_behind, od_witness_behind, .func (PySem.W.fnOf "witness_behind" "witness_behind" (defArgs (top 50)) (defBody (top 50)) (defScope (top 50)) .none kV_witness_behind dc_witness_behind pm_witness_behind an_witness_behind cd_witness_behind ct_witness_behind), sl_witness_behind⟩)
    (c_witness_behind : PySem.W.codeIn K cd_witness_behind "witness_behind" = true)
    (k_witness_behind : PySem.W.keepIn K (.ref f_witness_behind) = true)
    (a_behind : PySem.W.nsIn K mainGlobals "behind" = some (some (.ref f_behind)))
    (l_behind : K.lookup f_behind = some ⟨oc_behind, od_behind, .func (PySem.W.fnOf "behind" "behind" (defArgs (top 40)) (defBody (top 40)) (defScope (top 40)) .none kV_behind dc_behind pm_behind an_behind cd_behind ct_behind), sl_behind⟩)
    (c_behind : PySem.W.codeIn K cd_behind "behind" = true)
    (k_behind : PySem.W.keepIn K (.ref f_behind) = true)
    (a_is_exchange_of : PySem.W.nsIn K mainGlobals "is_exchange_of" = some (some (.ref f_is_exchange_of)))
    (l_is_exchange_of : K.lookup f_is_exchange_of = some ⟨oc_is_exchange_of, od_is_exchange_of, .func (PySem.W.fnOf "is_exchange_of" "is_exchange_of" (defArgs (top 45)) (defBody (top 45)) (defScope (top 45)) .none kV_is_exchange_of dc_is_exchange_of pm_is_exchange_of an_is_exchange_of cd_is_exchange_of ct_is_exchange_of), sl_is_exchange_of⟩)
    (c_is_exchange_of : PySem.W.codeIn K cd_is_exchange_of "is_exchange_of" = true)
    (k_is_exchange_of : PySem.W.keepIn K (.ref f_is_exchange_of) = true)
    (a_is_exchange : PySem.W.nsIn K mainGlobals "is_exchange" = some (some (.ref f_is_exchange)))
    (l_is_exchange : K.lookup f_is_exchange = some ⟨oc_is_exchange, od_is_exchange, .func (PySem.W.fnOf "is_exchange" "is_exchange" (defArgs (top 41)) (defBody (top 41)) (defScope (top 41)) .none kV_is_exchange dc_is_exchange pm_is_exchange an_is_exchange cd_is_exchange ct_is_exchange), sl_is_exchange⟩)
    (c_is_exchange : PySem.W.codeIn K cd_is_exchange "is_exchange" = true)
    (k_is_exchange : PySem.W.keepIn K (.ref f_is_exchange) = true)
    (a_check_exchange : PySem.W.nsIn K mainGlobals "check_exchange" = some (some (.ref f_check_exchange)))
    (l_check_exchange : K.lookup f_check_exchange = some ⟨oc_check_exchange, od_check_exchange, .func (PySem.W.fnOf "check_exchange" "check_exchange" (defArgs (top 47)) (defBody (top 47)) (defScope (top 47)) .none kV_check_exchange dc_check_exchange pm_check_exchange an_check_exchange cd_check_exchange ct_check_exchange), sl_check_exchange⟩)
    (c_check_exchange : PySem.W.codeIn K cd_check_exchange "check_exchange" = true)
    (k_check_exchange : PySem.W.keepIn K (.ref f_check_exchange) = true)
    (a_exchange_turned : PySem.W.nsIn K mainGlobals "exchange_turned" = some (some (.ref f_exchange_turned)))
    (l_exchange_turned : K.lookup f_exchange_turned = some ⟨oc_exchange_turned, od_exchange_turned, .func (PySem.W.fnOf "exchange_turned" "exchange_turned" (defArgs (top 51)) (defBody (top 51)) (defScope (top 51)) .none kV_exchange_turned dc_exchange_turned pm_exchange_turned an_exchange_turned cd_exchange_turned ct_exchange_turned), sl_exchange_turned⟩)
    (c_exchange_turned : PySem.W.codeIn K cd_exchange_turned "exchange_turned" = true)
    (k_exchange_turned : PySem.W.keepIn K (.ref f_exchange_turned) = true)
    (a_turned : PySem.W.nsIn K mainGlobals "turned" = some (some (.ref f_turned)))
    (l_turned : K.lookup f_turned = some ⟨oc_turned, od_turned, .func (PySem.W.fnOf "turned" "turned" (defArgs (top 42)) (defBody (top 42)) (defScope (top 42)) .none kV_turned dc_turned pm_turned an_turned cd_turned ct_turned), sl_turned⟩)
    (c_turned : PySem.W.codeIn K cd_turned "turned" = true)
    (k_turned : PySem.W.keepIn K (.ref f_turned) = true)
    (a__law_begun : PySem.W.nsIn K mainGlobals "_law_begun" = some (some (.ref f__law_begun)))
    (l__law_begun : K.lookup f__law_begun = some ⟨oc__law_begun, od__law_begun, .func (PySem.W.fnOf "_law_begun" "_law_begun" (defArgs (top 57)) (defBody (top 57)) (defScope (top 57)) .none kV__law_begun dc__law_begun pm__law_begun an__law_begun cd__law_begun ct__law_begun), sl__law_begun⟩)
    (c__law_begun : PySem.W.codeIn K cd__law_begun "_law_begun" = true)
    (k__law_begun : PySem.W.keepIn K (.ref f__law_begun) = true)
    (a__law_draw : PySem.W.nsIn K mainGlobals "_law_draw" = some (some (.ref f__law_draw)))
    (l__law_draw : K.lookup f__law_draw = some ⟨oc__law_draw, od__law_draw, .func (PySem.W.fnOf "_law_draw" "_law_draw" (defArgs (top 58)) (defBody (top 58)) (defScope (top 58)) .none kV__law_draw dc__law_draw pm__law_draw an__law_draw cd__law_draw ct__law_draw), sl__law_draw⟩)
    (c__law_draw : PySem.W.codeIn K cd__law_draw "_law_draw" = true)
    (k__law_draw : PySem.W.keepIn K (.ref f__law_draw) = true)
    (a__law_pick : PySem.W.nsIn K mainGlobals "_law_pick" = some (some (.ref f__law_pick)))
    (l__law_pick : K.lookup f__law_pick = some ⟨oc__law_pick, od__law_pick, .func (PySem.W.fnOf "_law_pick" "_law_pick" (defArgs (top 59)) (defBody (top 59)) (defScope (top 59)) .none kV__law_pick dc__law_pick pm__law_pick an__law_pick cd__law_pick ct__law_pick), sl__law_pick⟩)
    (c__law_pick : PySem.W.codeIn K cd__law_pick "_law_pick" = true)
    (k__law_pick : PySem.W.keepIn K (.ref f__law_pick) = true)
    (a__law_mixed : PySem.W.nsIn K mainGlobals "_law_mixed" = some (some (.ref f__law_mixed)))
    (l__law_mixed : K.lookup f__law_mixed = some ⟨oc__law_mixed, od__law_mixed, .func (PySem.W.fnOf "_law_mixed" "_law_mixed" (defArgs (top 60)) (defBody (top 60)) (defScope (top 60)) .none kV__law_mixed dc__law_mixed pm__law_mixed an__law_mixed cd__law_mixed ct__law_mixed), sl__law_mixed⟩)
    (c__law_mixed : PySem.W.codeIn K cd__law_mixed "_law_mixed" = true)
    (k__law_mixed : PySem.W.keepIn K (.ref f__law_mixed) = true)
    (a__law_fillings : PySem.W.nsIn K mainGlobals "_law_fillings" = some (some (.ref f__law_fillings)))
    (l__law_fillings : K.lookup f__law_fillings = some ⟨oc__law_fillings, od__law_fillings, .func (PySem.W.fnOf "_law_fillings" "_law_fillings" (defArgs (top 61)) (defBody (top 61)) (defScope (top 61)) .none kV__law_fillings dc__law_fillings pm__law_fillings an__law_fillings cd__law_fillings ct__law_fillings), sl__law_fillings⟩)
    (c__law_fillings : PySem.W.codeIn K cd__law_fillings "_law_fillings" = true)
    (k__law_fillings : PySem.W.keepIn K (.ref f__law_fillings) = true)
    (a__law_worth : PySem.W.nsIn K mainGlobals "_law_worth" = some (some (.ref f__law_worth)))
    (l__law_worth : K.lookup f__law_worth = some ⟨oc__law_worth, od__law_worth, .func (PySem.W.fnOf "_law_worth" "_law_worth" (defArgs (top 62)) (defBody (top 62)) (defScope (top 62)) .none kV__law_worth dc__law_worth pm__law_worth an__law_worth cd__law_worth ct__law_worth), sl__law_worth⟩)
    (c__law_worth : PySem.W.codeIn K cd__law_worth "_law_worth" = true)
    (k__law_worth : PySem.W.keepIn K (.ref f__law_worth) = true)
    (a__law_comes : PySem.W.nsIn K mainGlobals "_law_comes" = some (some (.ref f__law_comes)))
    (l__law_comes : K.lookup f__law_comes = some ⟨oc__law_comes, od__law_comes, .func (PySem.W.fnOf "_law_comes" "_law_comes" (defArgs (top 63)) (defBody (top 63)) (defScope (top 63)) .none kV__law_comes dc__law_comes pm__law_comes an__law_comes cd__law_comes ct__law_comes), sl__law_comes⟩)
    (c__law_comes : PySem.W.codeIn K cd__law_comes "_law_comes" = true)
    (k__law_comes : PySem.W.keepIn K (.ref f__law_comes) = true)
    (a__law_holds : PySem.W.nsIn K mainGlobals "_law_holds" = some (some (.ref f__law_holds)))
    (l__law_holds : K.lookup f__law_holds = some ⟨oc__law_holds, od__law_holds, .func (PySem.W.fnOf "_law_holds" "_law_holds" (defArgs (top 64)) (defBody (top 64)) (defScope (top 64)) .none kV__law_holds dc__law_holds pm__law_holds an__law_holds cd__law_holds ct__law_holds), sl__law_holds⟩)
    (c__law_holds : PySem.W.codeIn K cd__law_holds "_law_holds" = true)
    (k__law_holds : PySem.W.keepIn K (.ref f__law_holds) = true)
    (a__law_led : PySem.W.nsIn K mainGlobals "_law_led" = some (some (.ref f__law_led)))
    (l__law_led : K.lookup f__law_led = some ⟨oc__law_led, od__law_led, .func (PySem.W.fnOf "_law_led" "_law_led" (defArgs (top 65)) (defBody (top 65)) (defScope (top 65)) .none kV__law_led dc__law_led pm__law_led an__law_led cd__law_led ct__law_led), sl__law_led⟩)
    (c__law_led : PySem.W.codeIn K cd__law_led "_law_led" = true)
    (k__law_led : PySem.W.keepIn K (.ref f__law_led) = true)
    (a__law_terms : PySem.W.nsIn K mainGlobals "_law_terms" = some (some (.ref f__law_terms)))
    (l__law_terms : K.lookup f__law_terms = some ⟨oc__law_terms, od__law_terms, .func (PySem.W.fnOf "_law_terms" "_law_terms" (defArgs (top 66)) (defBody (top 66)) (defScope (top 66)) .none kV__law_terms dc__law_terms pm__law_terms an__law_terms cd__law_terms ct__law_terms), sl__law_terms⟩)
    (c__law_terms : PySem.W.codeIn K cd__law_terms "_law_terms" = true)
    (k__law_terms : PySem.W.keepIn K (.ref f__law_terms) = true)
    (a__law_row : PySem.W.nsIn K mainGlobals "_law_row" = some (some (.ref f__law_row)))
    (l__law_row : K.lookup f__law_row = some ⟨oc__law_row, od__law_row, .func (PySem.W.fnOf "_law_row" "_law_row" (defArgs (top 67)) (defBody (top 67)) (defScope (top 67)) .none kV__law_row dc__law_row pm__law_row an__law_row cd__law_row ct__law_row), sl__law_row⟩)
    (c__law_row : PySem.W.codeIn K cd__law_row "_law_row" = true)
    (k__law_row : PySem.W.keepIn K (.ref f__law_row) = true)
    (a__law_witness : PySem.W.nsIn K mainGlobals "_law_witness" = some (some (.ref f__law_witness)))
    (l__law_witness : K.lookup f__law_witness = some ⟨oc__law_witness, od__law_witness, .func (PySem.W.fnOf "_law_witness" "_law_witness" (defArgs (top 68)) (defBody (top 68)) (defScope (top 68)) .none kV__law_witness dc__law_witness pm__law_witness an__law_witness cd__law_witness ct__law_witness), sl__law_witness⟩)
    (c__law_witness : PySem.W.codeIn K cd__law_witness "_law_witness" = true)
    (k__law_witness : PySem.W.keepIn K (.ref f__law_witness) = true)
    (a__law_exchange : PySem.W.nsIn K mainGlobals "_law_exchange" = some (some (.ref f__law_exchange)))
    (l__law_exchange : K.lookup f__law_exchange = some ⟨oc__law_exchange, od__law_exchange, .func (PySem.W.fnOf "_law_exchange" "_law_exchange" (defArgs (top 69)) (defBody (top 69)) (defScope (top 69)) .none kV__law_exchange dc__law_exchange pm__law_exchange an__law_exchange cd__law_exchange ct__law_exchange), sl__law_exchange⟩)
    (c__law_exchange : PySem.W.codeIn K cd__law_exchange "_law_exchange" = true)
    (k__law_exchange : PySem.W.keepIn K (.ref f__law_exchange) = true)
    (cx_BadExchange : PySem.W.excIn K C_BadExchange [.type "ValueError", .type "Exception", .type "BaseException", .type "object"] "ValueError.__new__" = true)
    (ck_BadExchange : PySem.W.keepIn K (.ref C_BadExchange) = true)
    (cb_BadExchange : PySem.W.subIn K (.ref C_BadExchange) (.type "BaseException") = some true)
    (ct_BadExchange_ : PySem.W.typeIn K (.ref C_BadExchange) = some (.type "type"))
    (cx_BadFilling : PySem.W.excIn K C_BadFilling [.type "ValueError", .type "Exception", .type "BaseException", .type "object"] "ValueError.__new__" = true)
    (ck_BadFilling : PySem.W.keepIn K (.ref C_BadFilling) = true)
    (cb_BadFilling : PySem.W.subIn K (.ref C_BadFilling) (.type "BaseException") = some true)
    (ct_BadFilling_ : PySem.W.typeIn K (.ref C_BadFilling) = some (.type "type"))
    (cx_BadLiteral : PySem.W.excIn K C_BadLiteral [.type "ValueError", .type "Exception", .type "BaseException", .type "object"] "ValueError.__new__" = true)
    (ck_BadLiteral : PySem.W.keepIn K (.ref C_BadLiteral) = true)
    (cb_BadLiteral : PySem.W.subIn K (.ref C_BadLiteral) (.type "BaseException") = some true)
    (ct_BadLiteral_ : PySem.W.typeIn K (.ref C_BadLiteral) = some (.type "type"))
    (cx_BadMany : PySem.W.excIn K C_BadMany [.type "ValueError", .type "Exception", .type "BaseException", .type "object"] "ValueError.__new__" = true)
    (ck_BadMany : PySem.W.keepIn K (.ref C_BadMany) = true)
    (cb_BadMany : PySem.W.subIn K (.ref C_BadMany) (.type "BaseException") = some true)
    (ct_BadMany_ : PySem.W.typeIn K (.ref C_BadMany) = some (.type "type"))
    (cx_BadRow : PySem.W.excIn K C_BadRow [.type "ValueError", .type "Exception", .type "BaseException", .type "object"] "ValueError.__new__" = true)
    (ck_BadRow : PySem.W.keepIn K (.ref C_BadRow) = true)
    (cb_BadRow : PySem.W.subIn K (.ref C_BadRow) (.type "BaseException") = some true)
    (ct_BadRow_ : PySem.W.typeIn K (.ref C_BadRow) = some (.type "type"))
    (cx_BadWitness : PySem.W.excIn K C_BadWitness [.type "ValueError", .type "Exception", .type "BaseException", .type "object"] "ValueError.__new__" = true)
    (ck_BadWitness : PySem.W.keepIn K (.ref C_BadWitness) = true)
    (cb_BadWitness : PySem.W.subIn K (.ref C_BadWitness) (.type "BaseException") = some true)
    (ct_BadWitness_ : PySem.W.typeIn K (.ref C_BadWitness) = some (.type "type"))
    (cx_WitnessError : PySem.W.excIn K C_WitnessError [.type "ValueError", .type "Exception", .type "BaseException", .type "object"] "ValueError.__new__" = true)
    (ck_WitnessError : PySem.W.keepIn K (.ref C_WitnessError) = true)
    (cb_WitnessError : PySem.W.subIn K (.ref C_WitnessError) (.type "BaseException") = some true)
    (ct_WitnessError_ : PySem.W.typeIn K (.ref C_WitnessError) = some (.type "type"))
    (xg_BadMany : PySem.W.findIn K (.ref C_BadMany) "__getattribute__" = some (some (.builtin "BaseException.__getattribute__")))
    (xk_BadMany : PySem.W.findIn K (.ref C_BadMany) "__getattr__" = some none)
    (xd_BadMany : PySem.W.hasDictIn K C_BadMany = true)
    (xa_BadMany : PySem.W.findIn K (.ref C_BadMany) "__class__" = some (some (.builtin "object.__class__")))
    (xm_BadMany : PySem.W.mroIn K C_BadMany (.type "object") = some true)
    (s_BadMany : PySem.W.subIn K (.ref C_BadMany) (.ref C_WitnessError) = some true)
    (xg_BadLiteral : PySem.W.findIn K (.ref C_BadLiteral) "__getattribute__" = some (some (.builtin "BaseException.__getattribute__")))
    (xk_BadLiteral : PySem.W.findIn K (.ref C_BadLiteral) "__getattr__" = some none)
    (xd_BadLiteral : PySem.W.hasDictIn K C_BadLiteral = true)
    (xa_BadLiteral : PySem.W.findIn K (.ref C_BadLiteral) "__class__" = some (some (.builtin "object.__class__")))
    (xm_BadLiteral : PySem.W.mroIn K C_BadLiteral (.type "object") = some true)
    (s_BadLiteral : PySem.W.subIn K (.ref C_BadLiteral) (.ref C_WitnessError) = some true)
    (xg_BadRow : PySem.W.findIn K (.ref C_BadRow) "__getattribute__" = some (some (.builtin "BaseException.__getattribute__")))
    (xk_BadRow : PySem.W.findIn K (.ref C_BadRow) "__getattr__" = some none)
    (xd_BadRow : PySem.W.hasDictIn K C_BadRow = true)
    (xa_BadRow : PySem.W.findIn K (.ref C_BadRow) "__class__" = some (some (.builtin "object.__class__")))
    (xm_BadRow : PySem.W.mroIn K C_BadRow (.type "object") = some true)
    (s_BadRow : PySem.W.subIn K (.ref C_BadRow) (.ref C_WitnessError) = some true)
    (xg_BadFilling : PySem.W.findIn K (.ref C_BadFilling) "__getattribute__" = some (some (.builtin "BaseException.__getattribute__")))
    (xk_BadFilling : PySem.W.findIn K (.ref C_BadFilling) "__getattr__" = some none)
    (xd_BadFilling : PySem.W.hasDictIn K C_BadFilling = true)
    (xa_BadFilling : PySem.W.findIn K (.ref C_BadFilling) "__class__" = some (some (.builtin "object.__class__")))
    (xm_BadFilling : PySem.W.mroIn K C_BadFilling (.type "object") = some true)
    (s_BadFilling : PySem.W.subIn K (.ref C_BadFilling) (.ref C_WitnessError) = some true)
    (xg_BadWitness : PySem.W.findIn K (.ref C_BadWitness) "__getattribute__" = some (some (.builtin "BaseException.__getattribute__")))
    (xk_BadWitness : PySem.W.findIn K (.ref C_BadWitness) "__getattr__" = some none)
    (xd_BadWitness : PySem.W.hasDictIn K C_BadWitness = true)
    (xa_BadWitness : PySem.W.findIn K (.ref C_BadWitness) "__class__" = some (some (.builtin "object.__class__")))
    (xm_BadWitness : PySem.W.mroIn K C_BadWitness (.type "object") = some true)
    (s_BadWitness : PySem.W.subIn K (.ref C_BadWitness) (.ref C_WitnessError) = some true)
    (xg_BadExchange : PySem.W.findIn K (.ref C_BadExchange) "__getattribute__" = some (some (.builtin "BaseException.__getattribute__")))
    (xk_BadExchange : PySem.W.findIn K (.ref C_BadExchange) "__getattr__" = some none)
    (xd_BadExchange : PySem.W.hasDictIn K C_BadExchange = true)
    (xa_BadExchange : PySem.W.findIn K (.ref C_BadExchange) "__class__" = some (some (.builtin "object.__class__")))
    (xm_BadExchange : PySem.W.mroIn K C_BadExchange (.type "object") = some true)
    (s_BadExchange : PySem.W.subIn K (.ref C_BadExchange) (.ref C_WitnessError) = some true)
    (xd_WitnessError : PySem.W.hasDictIn K C_WitnessError = true)
    (xn : PySem.W.specialIn K (.builtin "object.__class__") "__get__" = some (some (.builtin "getset_descriptor.__get__")))
    (xt : PySem.W.takesIn K (.builtin "object.__class__") = some true)
    (z_abs : PySem.W.nsIn K mainGlobals "abs" = some none)
    (z_all : PySem.W.nsIn K mainGlobals "all" = some none)
    (z_bool : PySem.W.nsIn K mainGlobals "bool" = some none)
    (z_enumerate : PySem.W.nsIn K mainGlobals "enumerate" = some none)
    (z_int : PySem.W.nsIn K mainGlobals "int" = some none)
    (z_isinstance : PySem.W.nsIn K mainGlobals "isinstance" = some none)
    (z_len : PySem.W.nsIn K mainGlobals "len" = some none)
    (z_list : PySem.W.nsIn K mainGlobals "list" = some none)
    (z_max : PySem.W.nsIn K mainGlobals "max" = some none)
    (z_min : PySem.W.nsIn K mainGlobals "min" = some none)
    (z_range : PySem.W.nsIn K mainGlobals "range" = some none)
    (z_sorted : PySem.W.nsIn K mainGlobals "sorted" = some none)
    (z_str : PySem.W.nsIn K mainGlobals "str" = some none)
    (z_sum : PySem.W.nsIn K mainGlobals "sum" = some none)
    (z_tuple : PySem.W.nsIn K mainGlobals "tuple" = some none)
    (a_law : PySem.W.nsIn K mainGlobals "law" = some (some (.ref f_law)))
    (l_law : K.lookup f_law = some ⟨oc_law, od_law, .func (PySem.W.fnOf "law" "law" (defArgs (top 70)) (defBody (top 70)) (defScope (top 70)) .none kV_law dc_law pm_law an_law (.ref cA) ct_law), sl_law⟩)
    (c_law : PySem.W.codeIn K (.ref cA) "law" = true) : LawRun P w K 63 mg fa h := by
  have e := hfa.symm.trans (PySem.W.mg_of X G a_law)
  cases e
  have T : Txt K mg ⟨f_is_number, PySem.W.fnOf "is_number" "is_number" (defArgs (top 10)) (defBody (top 10)) (defScope (top 10)) .none kV_is_number dc_is_number pm_is_number an_is_number cd_is_number ct_is_number, f_is_number_from, PySem.W.fnOf "is_number_from" "is_number_from" (defArgs (top 11)) (defBody (top 11)) (defScope (top 11)) .none kV_is_number_from dc_is_number_from pm_is_number_from an_is_number_from cd_is_number_from ct_is_number_from, f_is_number_between, PySem.W.fnOf "is_number_between" "is_number_between" (defArgs (top 12)) (defBody (top 12)) (defScope (top 12)) .none kV_is_number_between dc_is_number_between pm_is_number_between an_is_number_between cd_is_number_between ct_is_number_between, f_is_pair, PySem.W.fnOf "is_pair" "is_pair" (defArgs (top 13)) (defBody (top 13)) (defScope (top 13)) .none kV_is_pair dc_is_pair pm_is_pair an_is_pair cd_is_pair ct_is_pair, f_is_literal_of, PySem.W.fnOf "is_literal_of" "is_literal_of" (defArgs (top 14)) (defBody (top 14)) (defScope (top 14)) .none kV_is_literal_of dc_is_literal_of pm_is_literal_of an_is_literal_of cd_is_literal_of ct_is_literal_of, f_are_terms_of, PySem.W.fnOf "are_terms_of" "are_terms_of" (defArgs (top 15)) (defBody (top 15)) (defScope (top 15)) .none kV_are_terms_of dc_are_terms_of pm_are_terms_of an_are_terms_of cd_are_terms_of ct_are_terms_of, f_is_row_of, PySem.W.fnOf "is_row_of" "is_row_of" (defArgs (top 16)) (defBody (top 16)) (defScope (top 16)) .none kV_is_row_of dc_is_row_of pm_is_row_of an_is_row_of cd_is_row_of ct_is_row_of, f_is_filling_of, PySem.W.fnOf "is_filling_of" "is_filling_of" (defArgs (top 17)) (defBody (top 17)) (defScope (top 17)) .none kV_is_filling_of dc_is_filling_of pm_is_filling_of an_is_filling_of cd_is_filling_of ct_is_filling_of, f_are_unlike, PySem.W.fnOf "are_unlike" "are_unlike" (defArgs (top 18)) (defBody (top 18)) (defScope (top 18)) .none kV_are_unlike dc_are_unlike pm_are_unlike an_are_unlike cd_are_unlike ct_are_unlike, f_check_many, PySem.W.fnOf "check_many" "check_many" (defArgs (top 19)) (defBody (top 19)) (defScope (top 19)) (.ref T_check_many) kV_check_many dc_check_many pm_check_many an_check_many cd_check_many ct_check_many, f_check_literal, PySem.W.fnOf "check_literal" "check_literal" (defArgs (top 20)) (defBody (top 20)) (defScope (top 20)) .none kV_check_literal dc_check_literal pm_check_literal an_check_literal cd_check_literal ct_check_literal, f_check_row, PySem.W.fnOf "check_row" "check_row" (defArgs (top 21)) (defBody (top 21)) (defScope (top 21)) .none kV_check_row dc_check_row pm_check_row an_check_row cd_check_row ct_check_row, f_check_filling, PySem.W.fnOf "check_filling" "check_filling" (defArgs (top 22)) (defBody (top 22)) (defScope (top 22)) .none kV_check_filling dc_check_filling pm_check_filling an_check_filling cd_check_filling ct_check_filling, f_opposite_terms, PySem.W.fnOf "opposite_terms" "opposite_terms" (defArgs (top 32)) (defBody (top 32)) (defScope (top 32)) .none kV_opposite_terms dc_opposite_terms pm_opposite_terms an_opposite_terms cd_opposite_terms ct_opposite_terms, f_weight_sum, PySem.W.fnOf "weight_sum" "weight_sum" (defArgs (top 28)) (defBody (top 28)) (defScope (top 28)) .none kV_weight_sum dc_weight_sum pm_weight_sum an_weight_sum cd_weight_sum ct_weight_sum, f_opposite_row, PySem.W.fnOf "opposite_row" "opposite_row" (defArgs (top 33)) (defBody (top 33)) (defScope (top 33)) .none kV_opposite_row dc_opposite_row pm_opposite_row an_opposite_row cd_opposite_row ct_opposite_row, f_opposite, PySem.W.fnOf "opposite" "opposite" (defArgs (top 24)) (defBody (top 24)) (defScope (top 24)) .none kV_opposite dc_opposite pm_opposite an_opposite cd_opposite ct_opposite, f_worth_of, PySem.W.fnOf "worth_of" "worth_of" (defArgs (top 29)) (defBody (top 29)) (defScope (top 29)) .none kV_worth_of dc_worth_of pm_worth_of an_worth_of cd_worth_of ct_worth_of, f_sum_at, PySem.W.fnOf "sum_at" "sum_at" (defArgs (top 30)) (defBody (top 30)) (defScope (top 30)) .none kV_sum_at dc_sum_at pm_sum_at an_sum_at cd_sum_at ct_sum_at, f_holds_at, PySem.W.fnOf "holds_at" "holds_at" (defArgs (top 31)) (defBody (top 31)) (defScope (top 31)) .none kV_holds_at dc_holds_at pm_holds_at an_holds_at cd_holds_at ct_holds_at, f_holds, PySem.W.fnOf "holds" "holds" (defArgs (top 25)) (defBody (top 25)) (defScope (top 25)) .none kV_holds dc_holds pm_holds an_holds cd_holds ct_holds, f_missing_in, PySem.W.fnOf "missing_in" "missing_in" (defArgs (top 35)) (defBody (top 35)) (defScope (top 35)) .none kV_missing_in dc_missing_in pm_missing_in an_missing_in cd_missing_in ct_missing_in, f_is_covered, PySem.W.fnOf "is_covered" "is_covered" (defArgs (top 34)) (defBody (top 34)) (defScope (top 34)) .none kV_is_covered dc_is_covered pm_is_covered an_is_covered cd_is_covered ct_is_covered, f_covers, PySem.W.fnOf "covers" "covers" (defArgs (top 26)) (defBody (top 26)) (defScope (top 26)) .none kV_covers dc_covers pm_covers an_covers cd_covers ct_covers, f_normal_row, PySem.W.fnOf "normal_row" "normal_row" (defArgs (top 27)) (defBody (top 27)) (defScope (top 27)) .none kV_normal_row dc_normal_row pm_normal_row an_normal_row cd_normal_row ct_normal_row, f__is_image, PySem.W.fnOf "_is_image" "_is_image" (defArgs (top 43)) (defBody (top 43)) (defScope (top 43)) .none kV__is_image dc__is_image pm__is_image an__is_image cd__is_image ct__is_image, f_is_witness_of, PySem.W.fnOf "is_witness_of" "is_witness_of" (defArgs (top 44)) (defBody (top 44)) (defScope (top 44)) .none kV_is_witness_of dc_is_witness_of pm_is_witness_of an_is_witness_of cd_is_witness_of ct_is_witness_of, f_check_witness, PySem.W.fnOf "check_witness" "check_witness" (defArgs (top 46)) (defBody (top 46)) (defScope (top 46)) .none kV_check_witness dc_check_witness pm_check_witness an_check_witness cd_check_witness ct_check_witness, f__opposite_image, PySem.W.fnOf "_opposite_image" "_opposite_image" (defArgs (top 53)) (defBody (top 53)) (defScope (top 53)) .none kV__opposite_image dc__opposite_image pm__opposite_image an__opposite_image cd__opposite_image ct__opposite_image, f_image_of, PySem.W.fnOf "image_of" "image_of" (defArgs (top 48)) (defBody (top 48)) (defScope (top 48)) .none kV_image_of dc_image_of pm_image_of an_image_of cd_image_of ct_image_of, f_led_literal, PySem.W.fnOf "led_literal" "led_literal" (defArgs (top 37)) (defBody (top 37)) (defScope (top 37)) .none kV_led_literal dc_led_literal pm_led_literal an_led_literal cd_led_literal ct_led_literal, f_row_led, PySem.W.fnOf "row_led" "row_led" (defArgs (top 49)) (defBody (top 49)) (defScope (top 49)) .none kV_row_led dc_row_led pm_row_led an_row_led cd_row_led ct_row_led, f_led_row, PySem.W.fnOf "led_row" "led_row" (defArgs (top 38)) (defBody (top 38)) (defScope (top 38)) .none kV_led_row dc_led_row pm_led_row an_led_row cd_led_row ct_led_row, f__worth_of_image, PySem.W.fnOf "_worth_of_image" "_worth_of_image" (defArgs (top 55)) (defBody (top 55)) (defScope (top 55)) .none kV__worth_of_image dc__worth_of_image pm__worth_of_image an__worth_of_image cd__worth_of_image ct__worth_of_image, f_filling_led, PySem.W.fnOf "filling_led" "filling_led" (defArgs (top 52)) (defBody (top 52)) (defScope (top 52)) .none kV_filling_led dc_filling_led pm_filling_led an_filling_led cd_filling_led ct_filling_led, f_led_filling, PySem.W.fnOf "led_filling" "led_filling" (defArgs (top 39)) (defBody (top 39)) (defScope (top 39)) .none kV_led_filling dc_led_filling pm_led_filling an_led_filling cd_led_filling ct_led_filling, f__led_image, PySem.W.fnOf "_led_image" "_led_image" (defArgs (top 54)) (defBody (top 54)) (defScope (top 54)) .none kV__led_image dc__led_image pm__led_image an__led_image cd__led_image ct__led_image, f_witness_behind, PySem.W.fnOf "witness_behind" "witness_behind" (defArgs (top 50)) (defBody (top 50)) (defScope (top 50)) .none kV_witness_behind dc_witness_behind pm_witness_behind an_witness_behind cd_witness_behind ct_witness_behind, f_behind, PySem.W.fnOf "behind" "behind" (defArgs (top 40)) (defBody (top 40)) (defScope (top 40)) .none kV_behind dc_behind pm_behind an_behind cd_behind ct_behind, f_is_exchange_of, PySem.W.fnOf "is_exchange_of" "is_exchange_of" (defArgs (top 45)) (defBody (top 45)) (defScope (top 45)) .none kV_is_exchange_of dc_is_exchange_of pm_is_exchange_of an_is_exchange_of cd_is_exchange_of ct_is_exchange_of, f_is_exchange, PySem.W.fnOf "is_exchange" "is_exchange" (defArgs (top 41)) (defBody (top 41)) (defScope (top 41)) .none kV_is_exchange dc_is_exchange pm_is_exchange an_is_exchange cd_is_exchange ct_is_exchange, f_check_exchange, PySem.W.fnOf "check_exchange" "check_exchange" (defArgs (top 47)) (defBody (top 47)) (defScope (top 47)) .none kV_check_exchange dc_check_exchange pm_check_exchange an_check_exchange cd_check_exchange ct_check_exchange, f_exchange_turned, PySem.W.fnOf "exchange_turned" "exchange_turned" (defArgs (top 51)) (defBody (top 51)) (defScope (top 51)) .none kV_exchange_turned dc_exchange_turned pm_exchange_turned an_exchange_turned cd_exchange_turned ct_exchange_turned, f_turned, PySem.W.fnOf "turned" "turned" (defArgs (top 42)) (defBody (top 42)) (defScope (top 42)) .none kV_turned dc_turned pm_turned an_turned cd_turned ct_turned, f__law_begun, PySem.W.fnOf "_law_begun" "_law_begun" (defArgs (top 57)) (defBody (top 57)) (defScope (top 57)) .none kV__law_begun dc__law_begun pm__law_begun an__law_begun cd__law_begun ct__law_begun, f__law_draw, PySem.W.fnOf "_law_draw" "_law_draw" (defArgs (top 58)) (defBody (top 58)) (defScope (top 58)) .none kV__law_draw dc__law_draw pm__law_draw an__law_draw cd__law_draw ct__law_draw, f__law_pick, PySem.W.fnOf "_law_pick" "_law_pick" (defArgs (top 59)) (defBody (top 59)) (defScope (top 59)) .none kV__law_pick dc__law_pick pm__law_pick an__law_pick cd__law_pick ct__law_pick, f__law_mixed, PySem.W.fnOf "_law_mixed" "_law_mixed" (defArgs (top 60)) (defBody (top 60)) (defScope (top 60)) .none kV__law_mixed dc__law_mixed pm__law_mixed an__law_mixed cd__law_mixed ct__law_mixed, f__law_fillings, PySem.W.fnOf "_law_fillings" "_law_fillings" (defArgs (top 61)) (defBody (top 61)) (defScope (top 61)) .none kV__law_fillings dc__law_fillings pm__law_fillings an__law_fillings cd__law_fillings ct__law_fillings, f__law_worth, PySem.W.fnOf "_law_worth" "_law_worth" (defArgs (top 62)) (defBody (top 62)) (defScope (top 62)) .none kV__law_worth dc__law_worth pm__law_worth an__law_worth cd__law_worth ct__law_worth, f__law_comes, PySem.W.fnOf "_law_comes" "_law_comes" (defArgs (top 63)) (defBody (top 63)) (defScope (top 63)) .none kV__law_comes dc__law_comes pm__law_comes an__law_comes cd__law_comes ct__law_comes, f__law_holds, PySem.W.fnOf "_law_holds" "_law_holds" (defArgs (top 64)) (defBody (top 64)) (defScope (top 64)) .none kV__law_holds dc__law_holds pm__law_holds an__law_holds cd__law_holds ct__law_holds, f__law_led, PySem.W.fnOf "_law_led" "_law_led" (defArgs (top 65)) (defBody (top 65)) (defScope (top 65)) .none kV__law_led dc__law_led pm__law_led an__law_led cd__law_led ct__law_led, f__law_terms, PySem.W.fnOf "_law_terms" "_law_terms" (defArgs (top 66)) (defBody (top 66)) (defScope (top 66)) .none kV__law_terms dc__law_terms pm__law_terms an__law_terms cd__law_terms ct__law_terms, f__law_row, PySem.W.fnOf "_law_row" "_law_row" (defArgs (top 67)) (defBody (top 67)) (defScope (top 67)) .none kV__law_row dc__law_row pm__law_row an__law_row cd__law_row ct__law_row, f__law_witness, PySem.W.fnOf "_law_witness" "_law_witness" (defArgs (top 68)) (defBody (top 68)) (defScope (top 68)) .none kV__law_witness dc__law_witness pm__law_witness an__law_witness cd__law_witness ct__law_witness, f__law_exchange, PySem.W.fnOf "_law_exchange" "_law_exchange" (defArgs (top 69)) (defBody (top 69)) (defScope (top 69)) .none kV__law_exchange dc__law_exchange pm__law_exchange an__law_exchange cd__law_exchange ct__law_exchange, C_BadExchange, C_BadFilling, C_BadLiteral, C_BadMany, C_BadRow, C_BadWitness, C_WitnessError⟩ := {
    m_is_number := PySem.W.mg_of X G a_is_number
    f_is_number := fun_mk (st := top 10) l_is_number c_is_number k_is_number
    m_is_number_from := PySem.W.mg_of X G a_is_number_from
    f_is_number_from := fun_mk (st := top 11) l_is_number_from c_is_number_from k_is_number_from
    m_is_number_between := PySem.W.mg_of X G a_is_number_between
    f_is_number_between := fun_mk (st := top 12) l_is_number_between c_is_number_between k_is_number_between
    m_is_pair := PySem.W.mg_of X G a_is_pair
    f_is_pair := fun_mk (st := top 13) l_is_pair c_is_pair k_is_pair
    m_is_literal_of := PySem.W.mg_of X G a_is_literal_of
    f_is_literal_of := fun_mk (st := top 14) l_is_literal_of c_is_literal_of k_is_literal_of
    m_are_terms_of := PySem.W.mg_of X G a_are_terms_of
    f_are_terms_of := fun_mk (st := top 15) l_are_terms_of c_are_terms_of k_are_terms_of
    m_is_row_of := PySem.W.mg_of X G a_is_row_of
    f_is_row_of := fun_mk (st := top 16) l_is_row_of c_is_row_of k_is_row_of
    m_is_filling_of := PySem.W.mg_of X G a_is_filling_of
    f_is_filling_of := fun_mk (st := top 17) l_is_filling_of c_is_filling_of k_is_filling_of
    m_are_unlike := PySem.W.mg_of X G a_are_unlike
    f_are_unlike := fun_mk (st := top 18) l_are_unlike c_are_unlike k_are_unlike
    m_check_many := PySem.W.mg_of X G a_check_many
    f_check_many := ⟨⟨_, _, _, _, _, _, _, _, _, _, rfl, l_check_many, c_check_many, .inr ⟨by simp, _, _, _, _, rfl, t_check_many, rfl, .cons ⟨_, rfl⟩ .nil⟩, .inl rfl⟩, k_check_many⟩
    m_check_literal := PySem.W.mg_of X G a_check_literal
    f_check_literal := fun_mk (st := top 20) l_check_literal c_check_literal k_check_literal
    m_check_row := PySem.W.mg_of X G a_check_row
    f_check_row := fun_mk (st := top 21) l_check_row c_check_row k_check_row
    m_check_filling := PySem.W.mg_of X G a_check_filling
    f_check_filling := fun_mk (st := top 22) l_check_filling c_check_filling k_check_filling
    m_opposite_terms := PySem.W.mg_of X G a_opposite_terms
    f_opposite_terms := fun_mk (st := top 32) l_opposite_terms c_opposite_terms k_opposite_terms
    m_weight_sum := PySem.W.mg_of X G a_weight_sum
    f_weight_sum := fun_mk (st := top 28) l_weight_sum c_weight_sum k_weight_sum
    m_opposite_row := PySem.W.mg_of X G a_opposite_row
    f_opposite_row := fun_mk (st := top 33) l_opposite_row c_opposite_row k_opposite_row
    m_opposite := PySem.W.mg_of X G a_opposite
    f_opposite := fun_mk (st := top 24) l_opposite c_opposite k_opposite
    m_worth_of := PySem.W.mg_of X G a_worth_of
    f_worth_of := fun_mk (st := top 29) l_worth_of c_worth_of k_worth_of
    m_sum_at := PySem.W.mg_of X G a_sum_at
    f_sum_at := fun_mk (st := top 30) l_sum_at c_sum_at k_sum_at
    m_holds_at := PySem.W.mg_of X G a_holds_at
    f_holds_at := fun_mk (st := top 31) l_holds_at c_holds_at k_holds_at
    m_holds := PySem.W.mg_of X G a_holds
    f_holds := fun_mk (st := top 25) l_holds c_holds k_holds
    m_missing_in := PySem.W.mg_of X G a_missing_in
    f_missing_in := fun_mk (st := top 35) l_missing_in c_missing_in k_missing_in
    m_is_covered := PySem.W.mg_of X G a_is_covered
    f_is_covered := fun_mk (st := top 34) l_is_covered c_is_covered k_is_covered
    m_covers := PySem.W.mg_of X G a_covers
    f_covers := fun_mk (st := top 26) l_covers c_covers k_covers
    m_normal_row := PySem.W.mg_of X G a_normal_row
    f_normal_row := fun_mk (st := top 27) l_normal_row c_normal_row k_normal_row
    m__is_image := PySem.W.mg_of X G a__is_image
    f__is_image := fun_mk (st := top 43) l__is_image c__is_image k__is_image
    m_is_witness_of := PySem.W.mg_of X G a_is_witness_of
    f_is_witness_of := fun_mk (st := top 44) l_is_witness_of c_is_witness_of k_is_witness_of
    m_check_witness := PySem.W.mg_of X G a_check_witness
    f_check_witness := fun_mk (st := top 46) l_check_witness c_check_witness k_check_witness
    m__opposite_image := PySem.W.mg_of X G a__opposite_image
    f__opposite_image := fun_mk (st := top 53) l__opposite_image c__opposite_image k__opposite_image
    m_image_of := PySem.W.mg_of X G a_image_of
    f_image_of := fun_mk (st := top 48) l_image_of c_image_of k_image_of
    m_led_literal := PySem.W.mg_of X G a_led_literal
    f_led_literal := fun_mk (st := top 37) l_led_literal c_led_literal k_led_literal
    m_row_led := PySem.W.mg_of X G a_row_led
    f_row_led := fun_mk (st := top 49) l_row_led c_row_led k_row_led
    m_led_row := PySem.W.mg_of X G a_led_row
    f_led_row := fun_mk (st := top 38) l_led_row c_led_row k_led_row
    m__worth_of_image := PySem.W.mg_of X G a__worth_of_image
    f__worth_of_image := fun_mk (st := top 55) l__worth_of_image c__worth_of_image k__worth_of_image
    m_filling_led := PySem.W.mg_of X G a_filling_led
    f_filling_led := fun_mk (st := top 52) l_filling_led c_filling_led k_filling_led
    m_led_filling := PySem.W.mg_of X G a_led_filling
    f_led_filling := fun_mk (st := top 39) l_led_filling c_led_filling k_led_filling
    m__led_image := PySem.W.mg_of X G a__led_image
    f__led_image := fun_mk (st := top 54) l__led_image c__led_image k__led_image
    m_witness_behind := PySem.W.mg_of X G a_witness_behind
    f_witness_behind := fun_mk (st := top 50) l_witness_behind c_witness_behind k_witness_behind
    m_behind := PySem.W.mg_of X G a_behind
    f_behind := fun_mk (st := top 40) l_behind c_behind k_behind
    m_is_exchange_of := PySem.W.mg_of X G a_is_exchange_of
    f_is_exchange_of := fun_mk (st := top 45) l_is_exchange_of c_is_exchange_of k_is_exchange_of
    m_is_exchange := PySem.W.mg_of X G a_is_exchange
    f_is_exchange := fun_mk (st := top 41) l_is_exchange c_is_exchange k_is_exchange
    m_check_exchange := PySem.W.mg_of X G a_check_exchange
    f_check_exchange := fun_mk (st := top 47) l_check_exchange c_check_exchange k_check_exchange
    m_exchange_turned := PySem.W.mg_of X G a_exchange_turned
    f_exchange_turned := fun_mk (st := top 51) l_exchange_turned c_exchange_turned k_exchange_turned
    m_turned := PySem.W.mg_of X G a_turned
    f_turned := fun_mk (st := top 42) l_turned c_turned k_turned
    m__law_begun := PySem.W.mg_of X G a__law_begun
    f__law_begun := fun_mk (st := top 57) l__law_begun c__law_begun k__law_begun
    m__law_draw := PySem.W.mg_of X G a__law_draw
    f__law_draw := fun_mk (st := top 58) l__law_draw c__law_draw k__law_draw
    m__law_pick := PySem.W.mg_of X G a__law_pick
    f__law_pick := fun_mk (st := top 59) l__law_pick c__law_pick k__law_pick
    m__law_mixed := PySem.W.mg_of X G a__law_mixed
    f__law_mixed := fun_mk (st := top 60) l__law_mixed c__law_mixed k__law_mixed
    m__law_fillings := PySem.W.mg_of X G a__law_fillings
    f__law_fillings := fun_mk (st := top 61) l__law_fillings c__law_fillings k__law_fillings
    m__law_worth := PySem.W.mg_of X G a__law_worth
    f__law_worth := fun_mk (st := top 62) l__law_worth c__law_worth k__law_worth
    m__law_comes := PySem.W.mg_of X G a__law_comes
    f__law_comes := fun_mk (st := top 63) l__law_comes c__law_comes k__law_comes
    m__law_holds := PySem.W.mg_of X G a__law_holds
    f__law_holds := fun_mk (st := top 64) l__law_holds c__law_holds k__law_holds
    m__law_led := PySem.W.mg_of X G a__law_led
    f__law_led := fun_mk (st := top 65) l__law_led c__law_led k__law_led
    m__law_terms := PySem.W.mg_of X G a__law_terms
    f__law_terms := fun_mk (st := top 66) l__law_terms c__law_terms k__law_terms
    m__law_row := PySem.W.mg_of X G a__law_row
    f__law_row := fun_mk (st := top 67) l__law_row c__law_row k__law_row
    m__law_witness := PySem.W.mg_of X G a__law_witness
    f__law_witness := fun_mk (st := top 68) l__law_witness c__law_witness k__law_witness
    m__law_exchange := PySem.W.mg_of X G a__law_exchange
    f__law_exchange := fun_mk (st := top 69) l__law_exchange c__law_exchange k__law_exchange
    k_BadExchange := ⟨PySem.W.mg_of X G ac_BadExchange, cx_BadExchange, ck_BadExchange, cb_BadExchange, ct_BadExchange_⟩
    k_BadFilling := ⟨PySem.W.mg_of X G ac_BadFilling, cx_BadFilling, ck_BadFilling, cb_BadFilling, ct_BadFilling_⟩
    k_BadLiteral := ⟨PySem.W.mg_of X G ac_BadLiteral, cx_BadLiteral, ck_BadLiteral, cb_BadLiteral, ct_BadLiteral_⟩
    k_BadMany := ⟨PySem.W.mg_of X G ac_BadMany, cx_BadMany, ck_BadMany, cb_BadMany, ct_BadMany_⟩
    k_BadRow := ⟨PySem.W.mg_of X G ac_BadRow, cx_BadRow, ck_BadRow, cb_BadRow, ct_BadRow_⟩
    k_BadWitness := ⟨PySem.W.mg_of X G ac_BadWitness, cx_BadWitness, ck_BadWitness, cb_BadWitness, ct_BadWitness_⟩
    k_WitnessError := ⟨PySem.W.mg_of X G ac_WitnessError, cx_WitnessError, ck_WitnessError, cb_WitnessError, ct_WitnessError_⟩
    x_BadMany := ⟨xg_BadMany, xk_BadMany, cb_BadMany, xd_BadMany, xa_BadMany, xn, xt, xm_BadMany⟩
    e_BadMany := PySem.W.exm_ref cb_WitnessError xd_WitnessError ct_WitnessError_ s_BadMany
    x_BadLiteral := ⟨xg_BadLiteral, xk_BadLiteral, cb_BadLiteral, xd_BadLiteral, xa_BadLiteral, xn, xt, xm_BadLiteral⟩
    e_BadLiteral := PySem.W.exm_ref cb_WitnessError xd_WitnessError ct_WitnessError_ s_BadLiteral
    x_BadRow := ⟨xg_BadRow, xk_BadRow, cb_BadRow, xd_BadRow, xa_BadRow, xn, xt, xm_BadRow⟩
    e_BadRow := PySem.W.exm_ref cb_WitnessError xd_WitnessError ct_WitnessError_ s_BadRow
    x_BadFilling := ⟨xg_BadFilling, xk_BadFilling, cb_BadFilling, xd_BadFilling, xa_BadFilling, xn, xt, xm_BadFilling⟩
    e_BadFilling := PySem.W.exm_ref cb_WitnessError xd_WitnessError ct_WitnessError_ s_BadFilling
    x_BadWitness := ⟨xg_BadWitness, xk_BadWitness, cb_BadWitness, xd_BadWitness, xa_BadWitness, xn, xt, xm_BadWitness⟩
    e_BadWitness := PySem.W.exm_ref cb_WitnessError xd_WitnessError ct_WitnessError_ s_BadWitness
    x_BadExchange := ⟨xg_BadExchange, xk_BadExchange, cb_BadExchange, xd_BadExchange, xa_BadExchange, xn, xt, xm_BadExchange⟩
    e_BadExchange := PySem.W.exm_ref cb_WitnessError xd_WitnessError ct_WitnessError_ s_BadExchange
    g_abs := PySem.W.mg_none_of X G z_abs
    g_all := PySem.W.mg_none_of X G z_all
    g_bool := PySem.W.mg_none_of X G z_bool
    g_enumerate := PySem.W.mg_none_of X G z_enumerate
    g_int := PySem.W.mg_none_of X G z_int
    g_isinstance := PySem.W.mg_none_of X G z_isinstance
    g_len := PySem.W.mg_none_of X G z_len
    g_list := PySem.W.mg_none_of X G z_list
    g_max := PySem.W.mg_none_of X G z_max
    g_min := PySem.W.mg_none_of X G z_min
    g_range := PySem.W.mg_none_of X G z_range
    g_sorted := PySem.W.mg_none_of X G z_sorted
    g_str := PySem.W.mg_none_of X G z_str
    g_sum := PySem.W.mg_none_of X G z_sum
    g_tuple := PySem.W.mg_none_of X G z_tuple }
  refine ⟨[], fun p hp => (by simp at hp), fun p hp => (by simp at hp), fun p hp => (by simp at hp), fun s₁ a ns base H hl hK hN hTB e0 hH hS hno => ?_⟩
  exact law_done T l_law c_law (fun s u => .of_eq rfl) math hl e0 hS hno
theorem law_true (ns : List Int) (hn : ns.length ≤ 63) : ∃ S', g_law (some (.scr ns) :: some .st :: List.replicate 19 none) (begun ns) = .ok (.rt (.bl true), S') := law_true' ns hn
end
end My
open PySem PySem.W PyProof.Rows in
set_option maxRecDepth 100000 in
set_option maxHeartbeats 0 in
theorem PySem.Challenge.cw_witnesslog_k05_whole_led_rows_and_led_fi_holds : PySem.Challenge.rw_witnesslog_k05_whole_led_rows_and_led_fi.Holds := by
  w_on; o_law; k_head; (case hw => w_witness2)
  k_fill
  refine VS.walk_G (l := PySem.Challenge.rw_witnesslog_k05_whole_led_rows_and_led_fi) (n := 63) rfl (by decide) rfl (by decide +kernel) (fun w h Y => by first | exact PySem.W.km_in_of Y | exact PySem.W.kIn_of Y) ?F
  case F =>
    intro w mg fa h KX G hmg own
    refine' My.all_mk  KX G hmg own (fun ns hn => My.law_true ns hn) ?ac_BadExchange ?ac_BadFilling ?ac_BadLiteral ?ac_BadMany ?ac_BadRow ?ac_BadWitness ?ac_WitnessError ?a_is_number ?l_is_number ?c_is_number ?k_is_number ?a_is_number_from ?l_is_number_from ?c_is_number_from ?k_is_number_from ?a_is_number_between ?l_is_number_between ?c_is_number_between ?k_is_number_between ?a_is_pair ?l_is_pair ?c_is_pair ?k_is_pair ?a_is_literal_of ?l_is_literal_of ?c_is_literal_of ?k_is_literal_of ?a_are_terms_of ?l_are_terms_of ?c_are_terms_of ?k_are_terms_of ?a_is_row_of ?l_is_row_of ?c_is_row_of ?k_is_row_of ?a_is_filling_of ?l_is_filling_of ?c_is_filling_of ?k_is_filling_of ?a_are_unlike ?l_are_unlike ?c_are_unlike ?k_are_unlike ?a_check_many ?l_check_many ?t_check_many ?c_check_many ?k_check_many ?a_check_literal ?l_check_literal ?c_check_literal ?k_check_literal ?a_check_row ?l_check_row ?c_check_row ?k_check_row ?a_check_filling ?l_check_filling ?c_check_filling ?k_check_filling ?a_opposite_terms ?l_opposite_terms ?c_opposite_terms ?k_opposite_terms ?a_weight_sum ?l_weight_sum ?c_weight_sum ?k_weight_sum ?a_opposite_row ?l_opposite_row ?c_opposite_row ?k_opposite_row ?a_opposite ?l_opposite ?c_opposite ?k_opposite ?a_worth_of ?l_worth_of ?c_worth_of ?k_worth_of ?a_sum_at ?l_sum_at ?c_sum_at ?k_sum_at ?a_holds_at ?l_holds_at ?c_holds_at ?k_holds_at ?a_holds ?l_holds ?c_holds ?k_holds ?a_missing_in ?l_missing_in ?c_missing_in ?k_missing_in ?a_is_covered ?l_is_covered ?c_is_covered ?k_is_covered ?a_covers ?l_covers ?c_covers ?k_covers ?a_normal_row ?l_normal_row ?c_normal_row ?k_normal_row ?a__is_image ?l__is_image ?c__is_image ?k__is_image ?a_is_witness_of ?l_is_witness_of ?c_is_witness_of ?k_is_witness_of ?a_check_witness ?l_check_witness ?c_check_witness ?k_check_witness ?a__opposite_image ?l__opposite_image ?c__opposite_image ?k__opposite_image ?a_image_of ?l_image_of ?c_image_of ?k_image_of ?a_led_literal ?l_led_literal ?c_led_literal ?k_led_literal ?a_row_led ?l_row_led ?c_row_led ?k_row_led ?a_led_row ?l_led_row ?c_led_row ?k_led_row ?a__worth_of_image ?l__worth_of_image ?c__worth_of_image ?k__worth_of_image ?a_filling_led ?l_filling_led ?c_filling_led ?k_filling_led ?a_led_filling ?l_led_filling ?c_led_filling ?k_led_filling ?a__led_image ?l__led_image ?c__led_image ?k__led_image ?a_witness_behind ?l_witness_behind ?c_witness_behind ?k_witness_behind ?a_behind ?l_behind ?c_behind ?k_behind ?a_is_exchange_of ?l_is_exchange_of ?c_is_exchange_of ?k_is_exchange_of ?a_is_exchange ?l_is_exchange ?c_is_exchange ?k_is_exchange ?a_check_exchange ?l_check_exchange ?c_check_exchange ?k_check_exchange ?a_exchange_turned ?l_exchange_turned ?c_exchange_turned ?k_exchange_turned ?a_turned ?l_turned ?c_turned ?k_turned ?a__law_begun ?l__law_begun ?c__law_begun ?k__law_begun ?a__law_draw ?l__law_draw ?c__law_draw ?k__law_draw ?a__law_pick ?l__law_pick ?c__law_pick ?k__law_pick ?a__law_mixed ?l__law_mixed ?c__law_mixed ?k__law_mixed ?a__law_fillings ?l__law_fillings ?c__law_fillings ?k__law_fillings ?a__law_worth ?l__law_worth ?c__law_worth ?k__law_worth ?a__law_comes ?l__law_comes ?c__law_comes ?k__law_comes ?a__law_holds ?l__law_holds ?c__law_holds ?k__law_holds ?a__law_led ?l__law_led ?c__law_led ?k__law_led ?a__law_terms ?l__law_terms ?c__law_terms ?k__law_terms ?a__law_row ?l__law_row ?c__law_row ?k__law_row ?a__law_witness ?l__law_witness ?c__law_witness ?k__law_witness ?a__law_exchange ?l__law_exchange ?c__law_exchange ?k__law_exchange ?cx_BadExchange ?ck_BadExchange ?cb_BadExchange ?ct_BadExchange_ ?cx_BadFilling ?ck_BadFilling ?cb_BadFilling ?ct_BadFilling_ ?cx_BadLiteral ?ck_BadLiteral ?cb_BadLiteral ?ct_BadLiteral_ ?cx_BadMany ?ck_BadMany ?cb_BadMany ?ct_BadMany_ ?cx_BadRow ?ck_BadRow ?cb_BadRow ?ct_BadRow_ ?cx_BadWitness ?ck_BadWitness ?cb_BadWitness ?ct_BadWitness_ ?cx_WitnessError ?ck_WitnessError ?cb_WitnessError ?ct_WitnessError_ ?xg_BadMany ?xk_BadMany ?xd_BadMany ?xa_BadMany ?xm_BadMany ?s_BadMany ?xg_BadLiteral ?xk_BadLiteral ?xd_BadLiteral ?xa_BadLiteral ?xm_BadLiteral ?s_BadLiteral ?xg_BadRow ?xk_BadRow ?xd_BadRow ?xa_BadRow ?xm_BadRow ?s_BadRow ?xg_BadFilling ?xk_BadFilling ?xd_BadFilling ?xa_BadFilling ?xm_BadFilling ?s_BadFilling ?xg_BadWitness ?xk_BadWitness ?xd_BadWitness ?xa_BadWitness ?xm_BadWitness ?s_BadWitness ?xg_BadExchange ?xk_BadExchange ?xd_BadExchange ?xa_BadExchange ?xm_BadExchange ?s_BadExchange ?xd_WitnessError ?xn ?xt ?z_abs ?z_all ?z_bool ?z_enumerate ?z_int ?z_isinstance ?z_len ?z_list ?z_max ?z_min ?z_range ?z_sorted ?z_str ?z_sum ?z_tuple ?a_law ?l_law ?c_law
    (case ac_BadExchange => k_is)
    (case ac_BadFilling => k_is)
    (case ac_BadLiteral => k_is)
    (case ac_BadMany => k_is)
    (case ac_BadRow => k_is)
    (case ac_BadWitness => k_is)
    (case ac_WitnessError => k_is)
    (case a_is_number => k_is)
    (case l_is_number => k_is)
    (case c_is_number => k_is)
    (case k_is_number => k_is)
    (case a_is_number_from => k_is)
    (case l_is_number_from => k_is)
    (case c_is_number_from => k_is)
    (case k_is_number_from => k_is)
    (case a_is_number_between => k_is)
    (case l_is_number_between => k_is)
    (case c_is_number_between => k_is)
    (case k_is_number_between => k_is)
    (case a_is_pair => k_is)
    (case l_is_pair => k_is)
    (case c_is_pair => k_is)
    (case k_is_pair => k_is)
    (case a_is_literal_of => k_is)
    (case l_is_literal_of => k_is)
    (case c_is_literal_of => k_is)
    (case k_is_literal_of => k_is)
    (case a_are_terms_of => k_is)
    (case l_are_terms_of => k_is)
    (case c_are_terms_of => k_is)
    (case k_are_terms_of => k_is)
    (case a_is_row_of => k_is)
    (case l_is_row_of => k_is)
    (case c_is_row_of => k_is)
    (case k_is_row_of => k_is)
    (case a_is_filling_of => k_is)
    (case l_is_filling_of => k_is)
    (case c_is_filling_of => k_is)
    (case k_is_filling_of => k_is)
    (case a_are_unlike => k_is)
    (case l_are_unlike => k_is)
    (case c_are_unlike => k_is)
    (case k_are_unlike => k_is)
    (case a_check_many => k_is)
    (case l_check_many => k_is)
    (case t_check_many => k_is)
    (case c_check_many => k_is)
    (case k_check_many => k_is)
    (case a_check_literal => k_is)
    (case l_check_literal => k_is)
    (case c_check_literal => k_is)
    (case k_check_literal => k_is)
    (case a_check_row => k_is)
    (case l_check_row => k_is)
    (case c_check_row => k_is)
    (case k_check_row => k_is)
    (case a_check_filling => k_is)
    (case l_check_filling => k_is)
    (case c_check_filling => k_is)
    (case k_check_filling => k_is)
    (case a_opposite_terms => k_is)
    (case l_opposite_terms => k_is)
    (case c_opposite_terms => k_is)
    (case k_opposite_terms => k_is)
    (case a_weight_sum => k_is)
    (case l_weight_sum => k_is)
    (case c_weight_sum => k_is)
    (case k_weight_sum => k_is)
    (case a_opposite_row => k_is)
    (case l_opposite_row => k_is)
    (case c_opposite_row => k_is)
    (case k_opposite_row => k_is)
    (case a_opposite => k_is)
    (case l_opposite => k_is)
    (case c_opposite => k_is)
    (case k_opposite => k_is)
    (case a_worth_of => k_is)
    (case l_worth_of => k_is)
    (case c_worth_of => k_is)
    (case k_worth_of => k_is)
    (case a_sum_at => k_is)
    (case l_sum_at => k_is)
    (case c_sum_at => k_is)
    (case k_sum_at => k_is)
    (case a_holds_at => k_is)
    (case l_holds_at => k_is)
    (case c_holds_at => k_is)
    (case k_holds_at => k_is)
    (case a_holds => k_is)
    (case l_holds => k_is)
    (case c_holds => k_is)
    (case k_holds => k_is)
    (case a_missing_in => k_is)
    (case l_missing_in => k_is)
    (case c_missing_in => k_is)
    (case k_missing_in => k_is)
    (case a_is_covered => k_is)
    (case l_is_covered => k_is)
    (case c_is_covered => k_is)
    (case k_is_covered => k_is)
    (case a_covers => k_is)
    (case l_covers => k_is)
    (case c_covers => k_is)
    (case k_covers => k_is)
    (case a_normal_row => k_is)
    (case l_normal_row => k_is)
    (case c_normal_row => k_is)
    (case k_normal_row => k_is)
    (case a__is_image => k_is)
    (case l__is_image => k_is)
    (case c__is_image => k_is)
    (case k__is_image => k_is)
    (case a_is_witness_of => k_is)
    (case l_is_witness_of => k_is)
    (case c_is_witness_of => k_is)
    (case k_is_witness_of => k_is)
    (case a_check_witness => k_is)
    (case l_check_witness => k_is)
    (case c_check_witness => k_is)
    (case k_check_witness => k_is)
    (case a__opposite_image => k_is)
    (case l__opposite_image => k_is)
    (case c__opposite_image => k_is)
    (case k__opposite_image => k_is)
    (case a_image_of => k_is)
    (case l_image_of => k_is)
    (case c_image_of => k_is)
    (case k_image_of => k_is)
    (case a_led_literal => k_is)
    (case l_led_literal => k_is)
    (case c_led_literal => k_is)
    (case k_led_literal => k_is)
    (case a_row_led => k_is)
    (case l_row_led => k_is)
    (case c_row_led => k_is)
    (case k_row_led => k_is)
    (case a_led_row => k_is)
    (case l_led_row => k_is)
    (case c_led_row => k_is)
    (case k_led_row => k_is)
    (case a__worth_of_image => k_is)
    (case l__worth_of_image => k_is)
    (case c__worth_of_image => k_is)
    (case k__worth_of_image => k_is)
    (case a_filling_led => k_is)
    (case l_filling_led => k_is)
    (case c_filling_led => k_is)
    (case k_filling_led => k_is)
    (case a_led_filling => k_is)
    (case l_led_filling => k_is)
    (case c_led_filling => k_is)
    (case k_led_filling => k_is)
    (case a__led_image => k_is)
    (case l__led_image => k_is)
    (case c__led_image => k_is)
    (case k__led_image => k_is)
    (case a_witness_behind => k_is)
    (case l_witness_behind => k_is)
    (case c_witness_behind => k_is)
    (case k_witness_behind => k_is)
    (case a_behind => k_is)
    (case l_behind => k_is)
    (case c_behind => k_is)
    (case k_behind => k_is)
    (case a_is_exchange_of => k_is)
    (case l_is_exchange_of => k_is)
    (case c_is_exchange_of => k_is)
    (case k_is_exchange_of => k_is)
    (case a_is_exchange => k_is)
    (case l_is_exchange => k_is)
    (case c_is_exchange => k_is)
    (case k_is_exchange => k_is)
    (case a_check_exchange => k_is)
    (case l_check_exchange => k_is)
    (case c_check_exchange => k_is)
    (case k_check_exchange => k_is)
    (case a_exchange_turned => k_is)
    (case l_exchange_turned => k_is)
    (case c_exchange_turned => k_is)
    (case k_exchange_turned => k_is)
    (case a_turned => k_is)
    (case l_turned => k_is)
    (case c_turned => k_is)
    (case k_turned => k_is)
    (case a__law_begun => k_is)
    (case l__law_begun => k_is)
    (case c__law_begun => k_is)
    (case k__law_begun => k_is)
    (case a__law_draw => k_is)
    (case l__law_draw => k_is)
    (case c__law_draw => k_is)
    (case k__law_draw => k_is)
    (case a__law_pick => k_is)
    (case l__law_pick => k_is)
    (case c__law_pick => k_is)
    (case k__law_pick => k_is)
    (case a__law_mixed => k_is)
    (case l__law_mixed => k_is)
    (case c__law_mixed => k_is)
    (case k__law_mixed => k_is)
    (case a__law_fillings => k_is)
    (case l__law_fillings => k_is)
    (case c__law_fillings => k_is)
    (case k__law_fillings => k_is)
    (case a__law_worth => k_is)
    (case l__law_worth => k_is)
    (case c__law_worth => k_is)
    (case k__law_worth => k_is)
    (case a__law_comes => k_is)
    (case l__law_comes => k_is)
    (case c__law_comes => k_is)
    (case k__law_comes => k_is)
    (case a__law_holds => k_is)
    (case l__law_holds => k_is)
    (case c__law_holds => k_is)
    (case k__law_holds => k_is)
    (case a__law_led => k_is)
    (case l__law_led => k_is)
    (case c__law_led => k_is)
    (case k__law_led => k_is)
    (case a__law_terms => k_is)
    (case l__law_terms => k_is)
    (case c__law_terms => k_is)
    (case k__law_terms => k_is)
    (case a__law_row => k_is)
    (case l__law_row => k_is)
    (case c__law_row => k_is)
    (case k__law_row => k_is)
    (case a__law_witness => k_is)
    (case l__law_witness => k_is)
    (case c__law_witness => k_is)
    (case k__law_witness => k_is)
    (case a__law_exchange => k_is)
    (case l__law_exchange => k_is)
    (case c__law_exchange => k_is)
    (case k__law_exchange => k_is)
    (case cx_BadExchange => k_exc)
    (case ck_BadExchange => k_is)
    (case cb_BadExchange => k_is)
    (case ct_BadExchange_ => k_is)
    (case cx_BadFilling => k_exc)
    (case ck_BadFilling => k_is)
    (case cb_BadFilling => k_is)
    (case ct_BadFilling_ => k_is)
    (case cx_BadLiteral => k_exc)
    (case ck_BadLiteral => k_is)
    (case cb_BadLiteral => k_is)
    (case ct_BadLiteral_ => k_is)
    (case cx_BadMany => k_exc)
    (case ck_BadMany => k_is)
    (case cb_BadMany => k_is)
    (case ct_BadMany_ => k_is)
    (case cx_BadRow => k_exc)
    (case ck_BadRow => k_is)
    (case cb_BadRow => k_is)
    (case ct_BadRow_ => k_is)
    (case cx_BadWitness => k_exc)
    (case ck_BadWitness => k_is)
    (case cb_BadWitness => k_is)
    (case ct_BadWitness_ => k_is)
    (case cx_WitnessError => k_exc)
    (case ck_WitnessError => k_is)
    (case cb_WitnessError => k_is)
    (case ct_WitnessError_ => k_is)
    (case xg_BadMany => k_is)
    (case xk_BadMany => k_is)
    (case xd_BadMany => k_is)
    (case xa_BadMany => k_is)
    (case xm_BadMany => k_is)
    (case s_BadMany => k_is)
    (case xg_BadLiteral => k_is)
    (case xk_BadLiteral => k_is)
    (case xd_BadLiteral => k_is)
    (case xa_BadLiteral => k_is)
    (case xm_BadLiteral => k_is)
    (case s_BadLiteral => k_is)
    (case xg_BadRow => k_is)
    (case xk_BadRow => k_is)
    (case xd_BadRow => k_is)
    (case xa_BadRow => k_is)
    (case xm_BadRow => k_is)
    (case s_BadRow => k_is)
    (case xg_BadFilling => k_is)
    (case xk_BadFilling => k_is)
    (case xd_BadFilling => k_is)
    (case xa_BadFilling => k_is)
    (case xm_BadFilling => k_is)
    (case s_BadFilling => k_is)
    (case xg_BadWitness => k_is)
    (case xk_BadWitness => k_is)
    (case xd_BadWitness => k_is)
    (case xa_BadWitness => k_is)
    (case xm_BadWitness => k_is)
    (case s_BadWitness => k_is)
    (case xg_BadExchange => k_is)
    (case xk_BadExchange => k_is)
    (case xd_BadExchange => k_is)
    (case xa_BadExchange => k_is)
    (case xm_BadExchange => k_is)
    (case s_BadExchange => k_is)
    (case xd_WitnessError => k_is)
    (case xn => k_is)
    (case xt => k_is)
    (case z_abs => k_is)
    (case z_all => k_is)
    (case z_bool => k_is)
    (case z_enumerate => k_is)
    (case z_int => k_is)
    (case z_isinstance => k_is)
    (case z_len => k_is)
    (case z_list => k_is)
    (case z_max => k_is)
    (case z_min => k_is)
    (case z_range => k_is)
    (case z_sorted => k_is)
    (case z_str => k_is)
    (case z_sum => k_is)
    (case z_tuple => k_is)
    (case a_law => k_is)
    (case l_law => k_is)
    (case c_law => k_is)
