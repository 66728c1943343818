import PyProof.Rows.All
import Wide.All
import OpenK.AllK
import Wide.FinOn
import HandS.ForMost
import HandS.ForExc
import HandS.IsInst
import HandS.Wide
import HandS.Strs
import HandS.TupAny
import HandS.DictComp
import HandS.Defaults
import HandS.Style
import HandS.Small
import KE.KSortTupG
import HandS.TupSets
import HandS.SortInts
import PyProof.ReprRoads
import HandS.EndOwn
import HandS.ExcIs
import HandS.Conv
import KE.GoesMore
import HandS.SetBool
import HandS.More
import HandS.WordsDict
import HandS.CallLocal
import HandS.TupMul
import PyProof.StrOps2
import HandS.Deep
import HandS.RaiseMore
import HandS.HeadHook3
import HandS.ExcInit
import HandS.ExcField
import KE.KDictZip
import HandS.Zip
import HandS.WideBits
import KE.KExcIs
import HandS.Text
import KE.KDictCopyH
import KE.KDictDisplayH
import HandS.SortKw
import HandS.Nested
import PyProof.ReprBulk
import PySem.Challenge.RW_witnesslog_k02_opposites_and_worths
set_option Elab.async false
set_option linter.all false
set_option maxRecDepth 100000
set_option maxHeartbeats 4000000
namespace VS
open PySem PySem.Spec PyProof.Rows L2
inductive D where
  | non | bl (b : Bool) | int (i : Int) | str (x : Str) | tup (xs : List D) | lst (xs : List D) | dct (ks : List Key) (xs : List D)
  | exc (n f : Str) (fs : List D) | cls (n : Str) | st | opq (v : V) | scr (ns : List Int) | odk (k : Nat) | dcT (ks : List (List Key)) (xs : List D) | ins (n : Str) (ns : List Str) (xs : List D)
structure Lay where
  sa : Addr
  la : Addr
  ca : Addr
structure Dc where
  K : PySem.W.Frag
  mg : Str → Option Value
  l : Lay
structure DS where
  large : List Int
  cells : List Int
  left : Int
  turn : Int
def ExO (cls : Value) (dd : Option Addr) (a : Addr) : HO := .ext fun h => ∃ (oe : Obj) (vs : Array Value), h.get? a = some oe ∧ Zc cls dd oe ∧ oe.data = .fields vs
def oddKey (b : Addr) : Nat → Value
  | 0 => .bool true
  | 1 => .none
  | _ => .ref b
def OddO (a b : Addr) (k : Nat) : HO := .ext fun h => ∃ (o : Obj) (es : Array DictEntry) (ep : Nat), h.get? a = some o ∧ (a == sysModules) = false ∧ o.ExactDict ∧ o.data = .dict es ep ∧ es.size = 1 ∧ ∀ e ∈ es.toList, e.key = oddKey b k
mutual
def Den (c : Dc) (F : Hp) : D → V → Prop
  | .non, v => v = .non
  | .bl b, v => v = .bl b
  | .int i, v => v = .int i
  | .str x, v => v = .str x
  | .tup ds, v => ∃ a vs, v = .ref a ∧ SqT c.K F a vs ∧ ds.length ≤ sizeLine ∧ Dens c F ds vs
  | .lst ds, v => ∃ a vs, v = .ref a ∧ F a = some (.lst vs) ∧ ds.length ≤ sizeLine ∧ Dens c F ds vs
  | .dct ks ds, v => ∃ a kv, v = .ref a ∧ F a = some (.dK kv) ∧ kv.map (·.1) = ks ∧ Dens c F ds (kv.map (·.2))
  | .exc n f fs, v => ∃ a C dd us, v = .ref a ∧ c.mg n = some (.ref C) ∧ F a = some (ExO (.ref C) dd a) ∧ Dens c F fs us ∧ (match us with | [] => dd = none | u :: _ => ∃ p, dd = some p ∧ F p = some (.xd [(f, u)]))
  | .cls n, v => ∃ C, v = .ref C ∧ c.mg n = some (.ref C)
  | .st, v => v = .ref c.l.sa
  | .opq w, v => v = w
  | .scr ns, v => ∃ a, v = .ref a ∧ SqL c.K F a (ns.map V.int)
  | .odk k, v => ∃ a b, v = .ref a ∧ F a = some (OddO a b k) ∧ (2 ≤ k → F b = some (.tup [.int 0]))
  | .dcT ks ds, v => ∃ a kv, v = .ref a ∧ F a = some (.dT kv) ∧ kv.map (·.1) = ks ∧ Dens c F ds (kv.map (·.2))
  | .ins n ns ds, v => ∃ a C dx fs, v = .ref a ∧ c.mg n = some (.ref C) ∧ F a = some (.ins C dx fs) ∧ fs.map (·.1) = ns ∧ Dens c F ds (fs.map (·.2))
def Dens (c : Dc) (F : Hp) : List D → List V → Prop
  | [], vs => vs = []
  | d :: ds, vs => ∃ v r, vs = v :: r ∧ Den c F d v ∧ Dens c F ds r
end
section
variable {c : Dc} {F F' : Hp}
theorem sqT_mono {K : PySem.W.Frag} {a : Addr} {vs : List V} (e : Same F F') (h : SqT K F a vs) : SqT K F' a vs := by
  rcases h with (h | ⟨o, h⟩) | h
  · exact .inl (.inl (e _ _ h))
  · exact .inl (.inr ⟨o, e _ _ h⟩)
  · exact .inr h
mutual
theorem Den.mono (e : Same F F') : ∀ (d : D) (v : V), Den c F d v → Den c F' d v
  | .non, _, h => h
  | .bl _, _, h => h
  | .int _, _, h => h
  | .str _, _, h => h
  | .tup ds, _, h => by
    simp only [Den] at h ⊢
    obtain ⟨a, vs, h1, h2, hz, h3⟩ := h
    exact ⟨a, vs, h1, sqT_mono e h2, hz, Dens.mono e ds vs h3⟩
  | .lst ds, _, h => by
    simp only [Den] at h ⊢
    obtain ⟨a, vs, h1, h2, hz, h3⟩ := h
    exact ⟨a, vs, h1, e _ _ h2, hz, Dens.mono e ds vs h3⟩
  | .dct ks ds, _, h => by
    simp only [Den] at h ⊢
    obtain ⟨a, kv, h1, h2, h3, h4⟩ := h
    exact ⟨a, kv, h1, e _ _ h2, h3, Dens.mono e ds _ h4⟩
  | .exc n f fs, _, h => by
    simp only [Den] at h ⊢
    obtain ⟨a, C, dd, us, h1, h2, h3, h4, h5⟩ := h
    refine ⟨a, C, dd, us, h1, h2, e _ _ h3, Dens.mono e fs us h4, ?_⟩
    cases us with
    | nil => exact h5
    | cons u r =>
      obtain ⟨p, q1, q2⟩ := h5
      exact ⟨p, q1, e _ _ q2⟩
  | .cls _, _, h => h
  | .st, _, h => h
  | .opq _, _, h => h
  | .odk _, _, h => by
    obtain ⟨a, b, h1, h2, h3⟩ := h
    exact ⟨a, b, h1, e _ _ h2, fun z => e _ _ (h3 z)⟩
  | .dcT ks ds, _, h => by
    simp only [Den] at h ⊢
    obtain ⟨a, kv, h1, h2, h3, h4⟩ := h
    exact ⟨a, kv, h1, e _ _ h2, h3, Dens.mono e ds _ h4⟩
  | .ins n ns ds, _, h => by
    simp only [Den] at h ⊢
    obtain ⟨a, C, dx, fs, h1, h2, h3, h4, h5⟩ := h
    exact ⟨a, C, dx, fs, h1, h2, e _ _ h3, h4, Dens.mono e ds _ h5⟩
  | .scr _, _, h => by
    simp only [Den] at h ⊢
    obtain ⟨a, h1, h2⟩ := h
    exact ⟨a, h1, e.seq h2⟩
theorem Dens.mono (e : Same F F') : ∀ (ds : List D) (vs : List V), Dens c F ds vs → Dens c F' ds vs
  | [], _, h => h
  | d :: ds, _, h => by
    simp only [Dens] at h ⊢
    obtain ⟨v, r, h1, h2, h3⟩ := h
    exact ⟨v, r, h1, Den.mono e d v h2, Dens.mono e ds r h3⟩
end
theorem Dens.length : ∀ {ds : List D} {vs : List V}, Dens c F ds vs → ds.length = vs.length
  | [], _, h => by simp only [Dens] at h; subst h; rfl
  | d :: ds, _, h => by
    simp only [Dens] at h
    obtain ⟨v, r, rfl, _, h3⟩ := h
    simp [Dens.length h3]
theorem Dens.get : ∀ {ds : List D} {vs : List V} {i : Nat} {v : V}, Dens c F ds vs → vs[i]? = some v → ∃ d, ds[i]? = some d ∧ Den c F d v
  | [], _, i, v, h, e => by simp only [Dens] at h; subst h; simp at e
  | d :: ds, _, i, v, h, e => by
    simp only [Dens] at h
    obtain ⟨w, r, rfl, h2, h3⟩ := h
    cases i with
    | zero => simp at e; subst e; exact ⟨d, rfl, h2⟩
    | succ i => simpa using Dens.get h3 (by simpa using e)
theorem Dens.get' : ∀ {ds : List D} {vs : List V} {i : Nat} {d : D}, Dens c F ds vs → ds[i]? = some d → ∃ v, vs[i]? = some v ∧ Den c F d v
  | [], _, i, v, h, e => by simp at e
  | d :: ds, _, i, v, h, e => by
    simp only [Dens] at h
    obtain ⟨w, r, rfl, h2, h3⟩ := h
    cases i with
    | zero => simp at e; subst e; exact ⟨w, rfl, h2⟩
    | succ i => simpa using Dens.get' h3 (by simpa using e)
theorem Dens.append : ∀ {ds es : List D} {vs ws : List V}, Dens c F ds vs → Dens c F es ws → Dens c F (ds ++ es) (vs ++ ws)
  | [], _, _, _, h, h' => by simp only [Dens] at h; subst h; exact h'
  | d :: ds, _, _, _, h, h' => by
    simp only [Dens] at h
    obtain ⟨w, r, rfl, h2, h3⟩ := h
    exact ⟨w, r ++ _, rfl, h2, Dens.append h3 h'⟩
theorem Dens.one {d : D} {v : V} (h : Den c F d v) : Dens c F [d] [v] := ⟨v, [], rfl, h, rfl⟩
theorem Dens.cons {d : D} {v : V} {ds : List D} {vs : List V} (h : Den c F d v) (h' : Dens c F ds vs) : Dens c F (d :: ds) (v :: vs) := ⟨v, vs, rfl, h, h'⟩
theorem Dens.nil : Dens c F [] [] := rfl
theorem Dens.take : ∀ {ds : List D} {vs : List V} (n : Nat), Dens c F ds vs → Dens c F (ds.take n) (vs.take n)
  | _, _, 0, _ => by simp [Dens]
  | [], _, n + 1, h => by simp only [Dens] at h; subst h; simp [Dens]
  | d :: ds, _, n + 1, h => by
    simp only [Dens] at h
    obtain ⟨w, r, rfl, h2, h3⟩ := h
    exact ⟨w, _, rfl, h2, Dens.take n h3⟩
theorem Dens.drop : ∀ {ds : List D} {vs : List V} (n : Nat), Dens c F ds vs → Dens c F (ds.drop n) (vs.drop n)
  | _, _, 0, h => h
  | [], _, n + 1, h => by simp only [Dens] at h; subst h; simp [Dens]
  | d :: ds, _, n + 1, h => by
    simp only [Dens] at h
    obtain ⟨w, r, rfl, h2, h3⟩ := h
    exact Dens.drop n h3
theorem Dens.set {e : D} {u : V} (q : Den c F e u) : ∀ {ds : List D} {vs : List V} (n : Nat), Dens c F ds vs → Dens c F (ds.set n e) (vs.set n u)
  | [], _, n, h => by simp only [Dens] at h; subst h; simp [Dens]
  | d :: ds, _, 0, h => by
    simp only [Dens] at h
    obtain ⟨w, r, rfl, h2, h3⟩ := h
    exact ⟨u, r, rfl, q, h3⟩
  | d :: ds, _, n + 1, h => by
    simp only [Dens] at h
    obtain ⟨w, r, rfl, h2, h3⟩ := h
    exact ⟨w, _, rfl, h2, Dens.set q n h3⟩
theorem Dens.reverse : ∀ {ds : List D} {vs : List V}, Dens c F ds vs → Dens c F ds.reverse vs.reverse
  | [], _, h => by simp only [Dens] at h; subst h; rfl
  | d :: ds, _, h => by
    simp only [Dens] at h
    obtain ⟨w, r, rfl, h2, h3⟩ := h
    rw [List.reverse_cons, List.reverse_cons]
    exact Dens.append (Dens.reverse h3) (Dens.one h2)
theorem Dens.ints : ∀ {ns : List Int} {vs : List V}, Dens c F (ns.map D.int) vs → vs = ns.map V.int
  | [], _, h => h
  | n :: ns, _, h => by
    simp only [List.map_cons, Dens] at h
    obtain ⟨w, r, rfl, h2, h3⟩ := h
    simp only [Den] at h2
    rw [h2, Dens.ints h3] <;> rfl
theorem Dens.of_ints : ∀ (ns : List Int), Dens c F (ns.map D.int) (ns.map V.int)
  | [] => rfl
  | n :: ns => ⟨_, _, rfl, rfl, Dens.of_ints ns⟩
theorem Dens.bls : ∀ {ns : List Bool} {vs : List V}, Dens c F (ns.map D.bl) vs → vs = ns.map V.bl
  | [], _, h => h
  | n :: ns, _, h => by
    simp only [List.map_cons, Dens] at h
    obtain ⟨w, r, rfl, h2, h3⟩ := h
    simp only [Den] at h2
    rw [h2, Dens.bls h3] <;> rfl
end
def NoTbl (o : HO) : Prop := ∀ ps, o ≠ .tbl ps
def LD (o : HO) : Prop := (∃ vs, o = .lst vs) ∨ (∃ kv, o = .dK kv) ∨ ∃ w a S n, o = L2.SetO w a S n
theorem LD.nt {o : HO} (h : LD o) : NoTbl o := by
  rcases h with ⟨_, rfl⟩ | ⟨_, rfl⟩ | ⟨_, _, _, _, rfl⟩
  · exact fun _ q => by cases q
  · exact fun _ q => by cases q
  · exact fun _ q => by unfold L2.SetO at q; cases q
structure Fits (F O T H : Hp) : Prop where
  f : Same F H
  o : Same O H
  t : Same T H
  fo : ∀ a, O a ≠ none → F a = none
  ft : ∀ a, T a ≠ none → F a = none
  ot : ∀ a, T a ≠ none → O a = none
  nt : ∀ a o, F a = some o → NoTbl o
  ld : ∀ a o, O a = some o → LD o
section
variable {F O T H : Hp}
theorem upd_none {H : Hp} {p : Addr} (e : Same F H) (h : H p = none) : F p = none := e.free h
theorem same_upd {p : Addr} {o : HO} (h : F p = none) : Same F (upd F p o) := fun b u e => by rw [upd_ne (ne_of_none e h)]; exact e
theorem Fits.new {p : Addr} {o : HO} (h : Fits F O T H) (n : H p = none) (nt : NoTbl o := by intro _ q; cases q) : Fits (upd F p o) O T (upd H p o) where
  f := fun b u e => by
    by_cases hb : b = p
    · subst hb; rw [upd_same] at e ⊢; exact e
    · rw [upd_ne hb] at e ⊢; exact h.f b u e
  o := fun b u e => by
    have := h.o b u e
    rw [upd_ne (ne_of_none this n)]; exact this
  t := fun b u e => by
    have := h.t b u e
    rw [upd_ne (ne_of_none this n)]; exact this
  fo := fun a q => by
    have : a ≠ p := fun z => by subst z; exact q (upd_none h.o n)
    rw [upd_ne this]; exact h.fo a q
  ft := fun a q => by
    have : a ≠ p := fun z => by subst z; exact q (upd_none h.t n)
    rw [upd_ne this]; exact h.ft a q
  ot := h.ot
  nt := fun a u q => by
    by_cases hb : a = p
    · subst hb; rw [upd_same] at q; cases q; exact nt
    · rw [upd_ne hb] at q; exact h.nt a u q
  ld := h.ld
theorem Fits.newO {p : Addr} {o : HO} (h : Fits F O T H) (n : H p = none) (ld : LD o := by first | exact .inl ⟨_, rfl⟩ | exact .inr (.inl ⟨_, rfl⟩)) : Fits F (upd O p o) T (upd H p o) where
  o := fun b u e => by
    by_cases hb : b = p
    · subst hb; rw [upd_same] at e ⊢; exact e
    · rw [upd_ne hb] at e ⊢; exact h.o b u e
  f := fun b u e => by
    have := h.f b u e
    rw [upd_ne (ne_of_none this n)]; exact this
  t := fun b u e => by
    have := h.t b u e
    rw [upd_ne (ne_of_none this n)]; exact this
  fo := fun a q => by
    by_cases hb : a = p
    · subst hb; exact upd_none h.f n
    · rw [upd_ne hb] at q; exact h.fo a q
  ft := h.ft
  ot := fun a q => by
    have : a ≠ p := fun z => by subst z; exact q (upd_none h.t n)
    rw [upd_ne this]; exact h.ot a q
  nt := h.nt
  ld := fun a u q => by
    by_cases hb : a = p
    · subst hb; rw [upd_same] at q; cases q; exact ld
    · rw [upd_ne hb] at q; exact h.ld a u q
theorem Fits.setO {p : Addr} {o o' : HO} (h : Fits F O T H) (n : O p = some o) (ld : LD o' := by first | exact .inl ⟨_, rfl⟩ | exact .inr (.inl ⟨_, rfl⟩)) : Fits F (upd O p o') T (upd H p o') where
  o := fun b u e => by
    by_cases hb : b = p
    · subst hb; rw [upd_same] at e ⊢; exact e
    · rw [upd_ne hb] at e ⊢; exact h.o b u e
  f := fun b u e => by
    have nb : b ≠ p := fun z => by subst z; rw [h.fo b (by rw [n]; simp)] at e; cases e
    rw [upd_ne nb]; exact h.f b u e
  t := fun b u e => by
    have nb : b ≠ p := fun z => by subst z; rw [h.ot b (by rw [e]; simp)] at n; cases n
    rw [upd_ne nb]; exact h.t b u e
  fo := fun a q => by
    by_cases hb : a = p
    · subst hb; exact h.fo a (by rw [n]; simp)
    · rw [upd_ne hb] at q; exact h.fo a q
  ft := h.ft
  ot := fun a q => by
    have : a ≠ p := fun z => by subst z; rw [h.ot a q] at n; cases n
    rw [upd_ne this]; exact h.ot a q
  nt := h.nt
  ld := fun a u q => by
    by_cases hb : a = p
    · subst hb; rw [upd_same] at q; cases q; exact ld
    · rw [upd_ne hb] at q; exact h.ld a u q
theorem Fits.less {O' : Hp} (h : Fits F O T H) (s : Same O' O) : Fits F O' T H where
  f := h.f
  o := s.trans h.o
  t := h.t
  fo := fun a q => h.fo a (by
    cases e : O' a with
    | none => exact absurd e q
    | some u => rw [s a u e]; simp)
  ft := h.ft
  ot := fun a q => by
    cases e : O' a with
    | none => rfl
    | some u => have := h.ot a q; rw [s a u e] at this; cases this
  nt := h.nt
  ld := fun a u q => h.ld a u (s a u q)
def del (O : Hp) (p : Addr) : Hp := fun b => if b = p then none else O b
theorem Fits.freeze {p : Addr} {o : HO} (h : Fits F O T H) (n : O p = some o) : Fits (upd F p o) (del O p) T H where
  f := fun b u e => by
    by_cases hb : b = p
    · subst hb; rw [upd_same] at e; rw [← e]; exact h.o _ _ n
    · rw [upd_ne hb] at e; exact h.f b u e
  o := fun b u e => by
    unfold del at e
    split at e
    · cases e
    · exact h.o b u e
  t := h.t
  fo := fun a q => by
    have : a ≠ p := fun z => by subst z; unfold del at q; rw [if_pos rfl] at q; exact q rfl
    rw [upd_ne this]
    unfold del at q
    rw [if_neg this] at q
    exact h.fo a q
  ft := fun a q => by
    have : a ≠ p := fun z => by subst z; rw [h.ot a q] at n; cases n
    rw [upd_ne this]; exact h.ft a q
  ot := fun a q => by
    unfold del
    split
    · rfl
    · exact h.ot a q
  nt := fun a u q => by
    by_cases hb : a = p
    · subst hb; rw [upd_same] at q; cases q; exact (h.ld _ _ n).nt
    · rw [upd_ne hb] at q; exact h.nt a u q
  ld := fun a u q => by
    unfold del at q
    split at q
    · cases q
    · exact h.ld a u q
end
end VS
namespace VS
open PySem PySem.Spec PyProof.Rows L2
abbrev Env := List (Option D)
inductive Res (α : Type) where
  | ok (a : α)
  | exc (n f : Str) (fs : List D) (S : DS)
  | bad
abbrev ME := Env → DS → Res (D × DS)
abbrev MT := Env → DS → Res (Bool × DS)
abbrev MA := Env → DS → Res (List D × DS)
def bindM {α β : Type} (x : Res (α × DS)) (k : α → DS → Res β) : Res β := match x with
  | .ok (a, S) => k a S
  | .exc n f fs S => .exc n f fs S
  | .bad => .bad
def ofO {α : Type} (x : Option α) (S : DS) : Res (α × DS) := match x with
  | some a => .ok (a, S)
  | none => .bad
def stT (l : Lay) (S : DS) (T0 : Hp) : Hp := fun a => if a = l.sa then some (.dK [(Sum.inr "large", .ref l.la), (Sum.inr "cells", .ref l.ca), (Sum.inr "left", .int S.left), (Sum.inr "turn", .int S.turn)])
  else if a = l.la then some (.lst (S.large.map V.int)) else T0 a
def stI (c : Dc) (S : DS) (F : Hp) : Prop := c.l.sa ≠ c.l.la ∧ F c.l.ca = some (.lst (S.cells.map V.int)) ∧ S.cells.length ≤ 1000 ∧ S.large.length ≤ 1000
structure TPr where
  P : Hp → Hp → Prop
  mono : ∀ {T0 F F' : Hp}, P T0 F → Same F F' → P T0 F'
def exT (T : Hp) : TPr := ⟨fun T0 _ => T0 = T, fun h _ => h⟩
structure Bc where
  c : Dc
  stf : Bool
  TP : TPr
  own : List Nat
def Bc.T (b : Bc) (S : DS) (T0 : Hp) : Hp := if b.stf = true then stT b.c.l S T0 else T0
def FitB (b : Bc) (F O : Hp) (S : DS) (H : Hp) : Prop := ∃ T0, b.TP.P T0 F ∧ Fits F O (b.T S T0) H
section
variable {b : Bc} {F O H : Hp} {S : DS} {p : Addr} {u u' : HO}
theorem FitB.f (h : FitB b F O S H) : Same F H := h.choose_spec.2.f
theorem FitB.o (h : FitB b F O S H) : Same O H := h.choose_spec.2.o
theorem FitB.fo (h : FitB b F O S H) : ∀ a, O a ≠ none → F a = none := h.choose_spec.2.fo
theorem FitB.new (h : FitB b F O S H) (n : H p = none) (nt : NoTbl u := by intro _ q; cases q) : FitB b (upd F p u) O S (upd H p u) := let ⟨T0, tp, fit⟩ := h; ⟨T0, b.TP.mono tp (same_upd (upd_none fit.f n)), fit.new n nt⟩
theorem FitB.newO (h : FitB b F O S H) (n : H p = none) (ld : LD u := by first | exact .inl ⟨_, rfl⟩ | exact .inr (.inl ⟨_, rfl⟩)) : FitB b F (upd O p u) S (upd H p u) := let ⟨T0, tp, fit⟩ := h; ⟨T0, tp, fit.newO n ld⟩
theorem FitB.setO (h : FitB b F O S H) (n : O p = some u) (ld : LD u' := by first | exact .inl ⟨_, rfl⟩ | exact .inr (.inl ⟨_, rfl⟩)) : FitB b F (upd O p u') S (upd H p u') := let ⟨T0, tp, fit⟩ := h; ⟨T0, tp, fit.setO n ld⟩
theorem FitB.freeze (h : FitB b F O S H) (n : O p = some u) : FitB b (upd F p u) (del O p) S H := let ⟨T0, tp, fit⟩ := h; ⟨T0, b.TP.mono tp (same_upd (fit.fo p (by rw [n]; simp))), fit.freeze n⟩
theorem FitB.less {O' : Hp} (h : FitB b F O S H) (s : Same O' O) : FitB b F O' S H := let ⟨T0, tp, fit⟩ := h; ⟨T0, tp, fit.less s⟩
end
def Bc.I (b : Bc) (S : DS) (F : Hp) : Prop := b.stf = true → stI b.c S F
theorem Bc.I.mono {b : Bc} {S : DS} {F F' : Hp} (h : b.I S F) (e : Same F F') : b.I S F' := fun q => ⟨(h q).1, e _ _ (h q).2.1, (h q).2.2⟩
def DenB (c : Dc) (F O : Hp) : D → V → Prop
  | .lst ds, v => ∃ a vs, v = .ref a ∧ (F a = some (.lst vs) ∨ O a = some (.lst vs)) ∧ ds.length ≤ sizeLine ∧ Dens c F ds vs
  | .dct ks ds, v => ∃ a kv, v = .ref a ∧ (F a = some (.dK kv) ∨ O a = some (.dK kv)) ∧ kv.map (·.1) = ks ∧ Dens c F ds (kv.map (·.2))
  | d, v => Den c F d v
def OwnD (c : Dc) (F O : Hp) (a : Addr) : D → Prop
  | .lst ds => ∃ vs, O a = some (.lst vs) ∧ ds.length ≤ sizeLine ∧ Dens c F ds vs
  | .dct ks ds => ∃ kv, O a = some (.dK kv) ∧ kv.map (·.1) = ks ∧ Dens c F ds (kv.map (·.2))
  | _ => False
section
variable {c : Dc} {F F' O O' : Hp}
theorem Den.toB {d : D} {v : V} (h : Den c F d v) : DenB c F O d v := by
  cases d with
  | lst ds => simp only [Den] at h; obtain ⟨a, vs, h1, h2, h3⟩ := h; exact ⟨a, vs, h1, .inl h2, h3⟩
  | dct ks ds => simp only [Den] at h; obtain ⟨a, kv, h1, h2, h3⟩ := h; exact ⟨a, kv, h1, .inl h2, h3⟩
  | _ => exact h
theorem DenB.mono (e : Same F F') (eo : Same O O') {d : D} {v : V} (h : DenB c F O d v) : DenB c F' O' d v := by
  cases d with
  | lst ds => obtain ⟨a, vs, h1, h2, hz, h3⟩ := h; exact ⟨a, vs, h1, h2.imp (e _ _) (eo _ _), hz, Dens.mono e _ _ h3⟩
  | dct ks ds => obtain ⟨a, kv, h1, h2, h3⟩ := h; exact ⟨a, kv, h1, h2.imp (e _ _) (eo _ _), h3.1, Dens.mono e _ _ h3.2⟩
  | non => exact Den.mono e _ _ h
  | bl _ => exact Den.mono e _ _ h
  | int _ => exact Den.mono e _ _ h
  | str _ => exact Den.mono e _ _ h
  | tup _ => exact Den.mono e _ _ h
  | exc _ _ _ => exact Den.mono e _ _ h
  | cls _ => exact Den.mono e _ _ h
  | st => exact Den.mono e _ _ h
  | opq _ => exact Den.mono e _ _ h
  | odk _ => exact Den.mono e _ _ h
  | dcT _ _ => exact Den.mono e _ _ h
  | ins _ _ _ => exact Den.mono e _ _ h
  | scr _ => exact Den.mono e _ _ h
theorem OwnD.toB {a : Addr} {d : D} (h : OwnD c F O a d) : DenB c F O d (.ref a) := by
  cases d with
  | lst ds => obtain ⟨vs, h1, h2⟩ := h; exact ⟨a, vs, rfl, .inr h1, h2⟩
  | dct ks ds => obtain ⟨vs, h1, h2⟩ := h; exact ⟨a, vs, rfl, .inr h1, h2⟩
  | _ => exact False.elim h
theorem OwnD.mono (e : Same F F') (eo : ∀ o, O a = some o → O' a = some o) {d : D} (h : OwnD c F O a d) : OwnD c F' O' a d := by
  cases d with
  | lst ds => obtain ⟨vs, h1, hz, h2⟩ := h; exact ⟨vs, eo _ h1, hz, Dens.mono e _ _ h2⟩
  | dct ks ds => obtain ⟨vs, h1, h2, h3⟩ := h; exact ⟨vs, eo _ h1, h2, Dens.mono e _ _ h3⟩
  | _ => exact False.elim h
theorem OwnD.some {a : Addr} {d : D} (h : OwnD c F O a d) : O a ≠ none := by
  cases d with
  | lst ds => obtain ⟨vs, h1, _⟩ := h; rw [h1]; simp
  | dct ks ds => obtain ⟨vs, h1, _⟩ := h; rw [h1]; simp
  | _ => exact False.elim h
end
structure Pre (b : Bc) (F0 O0 F O H : Hp) (σ : L2.St) (env : Env) (S : DS) : Prop where
  fit : FitB b F O S H
  f0 : Same F0 F
  o0 : Same O0 O
  inv : b.I S F
  slot : ∀ i d, env[i]? = some (some d) → i ∉ b.own → ∃ v, σ[i]? = some (some v) ∧ Den b.c F d v
  slotO : ∀ i d, env[i]? = some (some d) → i ∈ b.own → ∃ a, σ[i]? = some (some (.ref a)) ∧ OwnD b.c F O a d ∧ O0 a = none
  sep : ∀ i j a, i ∈ b.own → j ∈ b.own → (∃ d, env[i]? = some (some d)) → (∃ d, env[j]? = some (some d)) → σ[i]? = some (some (.ref a)) → σ[j]? = some (some (.ref a)) → i = j
  len : σ.length = env.length
section
variable {b : Bc} {F0 O0 F O H F' O' H' : Hp} {σ : L2.St} {env : Env} {S S' : DS}
theorem Pre.grow (P : Pre b F0 O0 F O H σ env S) (e : Same F F') (fit : FitB b F' O S' H') (I : b.I S' F') : Pre b F0 O0 F' O H' σ env S' :=
  ⟨fit, P.f0.trans e, P.o0, I, fun i d h n => let ⟨v, h1, h2⟩ := P.slot i d h n; ⟨v, h1, Den.mono e _ _ h2⟩,
    fun i d h n => let ⟨a, h1, h2, h3⟩ := P.slotO i d h n; ⟨a, h1, h2.mono e (fun _ q => q), h3⟩, P.sep, P.len⟩
theorem Pre.moreO (P : Pre b F0 O0 F O H σ env S) (eo : Same O O') (fit : FitB b F O' S H') : Pre b F0 O0 F O' H' σ env S :=
  ⟨fit, P.f0, P.o0.trans eo, P.inv, P.slot, fun i d h n => let ⟨a, h1, h2, h3⟩ := P.slotO i d h n; ⟨a, h1, h2.mono (Same.refl _) (eo _), h3⟩, P.sep, P.len⟩
end
def ExcR (c : Dc) (F : Hp) (n f : Str) (fs : List D) (cls : Value) (dd : Option Addr) : Prop :=
  ∃ C us, c.mg n = some (.ref C) ∧ cls = .ref C ∧ Dens c F fs us ∧ (match us with | [] => dd = none | u :: _ => ∃ p, dd = some p ∧ F p = some (.xd [(f, u)]))
def PostX (b : Bc) (E : XK) (O F : Hp) (n f : Str) (fs : List D) (S' : DS) : Prop :=
  ∀ cls dd F' H', Same F F' → FitB b F' O S' H' → b.I S' F' → ExcR b.c F' n f fs cls dd → E cls dd H'
def Post {α : Type} (b : Bc) (E : XK) (O F : Hp) (r : Res (α × DS)) (k : α → DS → Hp → Hp → Prop) : Prop := match r with
  | .ok (a, S') => ∀ F' H', Same F F' → FitB b F' O S' H' → b.I S' F' → k a S' F' H'
  | .exc n f fs S' => PostX b E O F n f fs S'
  | .bad => False
section
variable {α β : Type} {b : Bc} {E : XK} {O F F' H : Hp} {S : DS}
theorem Post.mono {r : Res (α × DS)} {k : α → DS → Hp → Hp → Prop} (h : Post b E O F r k) (e : Same F F') : Post b E O F' r k := by
  cases r with
  | ok p => obtain ⟨a, S'⟩ := p; exact fun F2 H2 e2 => h F2 H2 (e.trans e2)
  | exc n f fs S' => exact fun cls dd F2 H2 e2 => h cls dd F2 H2 (e.trans e2)
  | bad => exact h
theorem Post.imp {r : Res (α × DS)} {k k' : α → DS → Hp → Hp → Prop} (h : Post b E O F r k) (f : ∀ a S' F' H', Same F F' → FitB b F' O S' H' → b.I S' F' → k a S' F' H' → k' a S' F' H') : Post b E O F r k' := by
  cases r with
  | ok p => obtain ⟨a, S'⟩ := p; exact fun F2 H2 e2 fit I => f a S' F2 H2 e2 fit I (h F2 H2 e2 fit I)
  | exc n f fs S' => exact h
  | bad => exact h
theorem Post.bind {x : Res (α × DS)} {g : α → DS → Res (β × DS)} {k : β → DS → Hp → Hp → Prop} (h : Post b E O F (bindM x g) k) : Post b E O F x (fun a S' F' H' => Post b E O F' (g a S') k) := by
  cases x with
  | ok p => obtain ⟨a, S'⟩ := p; exact fun F2 H2 e2 _ _ => Post.mono (show Post b E O F (g a S') k from h) e2
  | exc n f fs S' => exact h
  | bad => exact h
theorem Post.ofO {x : Option α} {k : α → DS → Hp → Hp → Prop} (h : Post b E O F (ofO x S) k) : ∃ a, x = some a ∧ ∀ F' H', Same F F' → FitB b F' O S H' → b.I S F' → k a S F' H' := by
  cases x with
  | none => exact False.elim h
  | some a => exact ⟨a, rfl, h⟩
end
def tE (b : Bc) (E : XK) (f : ME) : TE := fun σ H Q => ∃ F0 O0 F O env S, Pre b F0 O0 F O H σ env S ∧ Post b E O F (f env S) fun d S' F' H' => ∀ v, Den b.c F' d v → Q v H'
def tB (b : Bc) (E : XK) (f : ME) : TE := fun σ H Q => ∃ F0 O0 F O env S, Pre b F0 O0 F O H σ env S ∧ Post b E O F (f env S) fun d S' F' H' => ∀ v, DenB b.c F' O d v → Q v H'
def tT (b : Bc) (E : XK) (f : MT) : TT := fun σ H Q => ∃ F0 O0 F O env S, Pre b F0 O0 F O H σ env S ∧ Post b E O F (f env S) fun d S' F' H' => Q d H'
def tA (b : Bc) (E : XK) (f : MA) : TA := fun σ H Q => ∃ F0 O0 F O env S, Pre b F0 O0 F O H σ env S ∧ Post b E O F (f env S) fun ds S' F' H' => ∀ vs, Dens b.c F' ds vs → Q vs H'
theorem PE.imp {X : Cx} {e : Expr} {t t' : TE} (h : PE X e t) (i : ∀ σ H Q, t' σ H Q → t σ H Q) : PE X e t' := ⟨fun pins s σ H Q I q => h.run pins s σ H Q I (i σ H Q q)⟩
theorem PT.imp {X : Cx} {e : Expr} {t t' : TT} (h : PT X e t) (i : ∀ σ H Q, t' σ H Q → t σ H Q) : PT X e t' := ⟨fun pins s σ H Q I q => h.run pins s σ H Q I (i σ H Q q)⟩
theorem PW.imp {X : Cx} {e : Expr} {t t' : TT} (h : PW X e t) (i : ∀ σ H Q, t' σ H Q → t σ H Q) : PW X e t' := ⟨fun w pins s σ H Q I q => h.run w pins s σ H Q I (i σ H Q q)⟩
theorem PA.imp {X : Cx} {e : List Expr} {t t' : TA} (h : PA X e t) (i : ∀ σ H Q, t' σ H Q → t σ H Q) : PA X e t' := ⟨fun p pins s σ H Q I q => h.run p pins s σ H Q I (i σ H Q q)⟩
theorem PS.imp {X : Cx} {e : Stmt} {t t' : TS} (h : PS X e t) (i : ∀ D σ H, t' D σ H → t D σ H) : PS X e t' := ⟨fun pins s σ H D I q => h.run pins s σ H D I (i D σ H q)⟩
theorem PSs.imp {X : Cx} {e : List Stmt} {t t' : TS} (h : PSs X e t) (i : ∀ D σ H, t' D σ H → t D σ H) : PSs X e t' := ⟨fun pins s σ H D I q => h.run pins s σ H D I (i D σ H q)⟩
section
variable {X : Cx} {b : Bc} {E : XK} {e e1 e2 : Expr} {es : List Expr} {f f1 f2 : ME} {pos : Pos}
theorem toB (h : PE X e (tB b E f)) : PE X e (tE b E f) ∨ True := .inr trivial
theorem bE (h : PE X e (tE b E f)) : PE X e (tB b E f) := PE.imp h fun σ H Q ⟨F0, O0, F, O, env, S, P, h⟩ => ⟨F0, O0, F, O, env, S, P, h.imp fun d S' F' H' _ _ _ k v hv => k v hv.toB⟩
def varM (i : Nat) : ME := fun env S => match env[i]? with | some (some d) => .ok (d, S) | _ => .bad
def cM (d : D) : ME := fun _ S => .ok (d, S)
theorem e_var (i : Nat) (hE : PE X e (tVar i)) (ho : b.own.contains i = false) : PE X e (tE b E (varM i)) := PE.imp hE fun σ H Q ⟨F0, O0, F, O, env, S, P, h⟩ => by
  unfold varM at h
  cases he : env[i]? with
  | none => rw [he] at h; exact False.elim h
  | some o =>
    cases o with
    | none => rw [he] at h; exact False.elim h
    | some d =>
      rw [he] at h
      obtain ⟨v, h1, h2⟩ := P.slot i d he (by simpa using ho)
      exact ⟨v, h1, h F H (Same.refl _) P.fit P.inv v h2⟩
theorem b_var (i : Nat) (hE : PE X e (tVar i)) : PE X e (tB b E (varM i)) := PE.imp hE fun σ H Q ⟨F0, O0, F, O, env, S, P, h⟩ => by
  unfold varM at h
  cases he : env[i]? with
  | none => rw [he] at h; exact False.elim h
  | some o =>
    cases o with
    | none => rw [he] at h; exact False.elim h
    | some d =>
      rw [he] at h
      by_cases ho : i ∈ b.own
      · obtain ⟨a, h1, h2, _⟩ := P.slotO i d he ho
        exact ⟨_, h1, h F H (Same.refl _) P.fit P.inv _ h2.toB⟩
      · obtain ⟨v, h1, h2⟩ := P.slot i d he ho
        exact ⟨v, h1, h F H (Same.refl _) P.fit P.inv v h2.toB⟩
theorem e_c {v : V} {d : D} (hE : PE X e (tC v)) (hd : ∀ F, Den b.c F d v) : PE X e (tE b E (cM d)) := PE.imp hE fun σ H Q ⟨F0, O0, F, O, env, S, P, h⟩ => h F H (Same.refl _) P.fit P.inv v (hd F)
theorem e_int {i : Int} {j p} : PE X (.Constant (.int i) j p) (tE b E (cM (.int i))) := e_c pe_int fun _ => rfl
theorem e_bl {i : Bool} {j p} : PE X (.Constant (.bool i) j p) (tE b E (cM (.bl i))) := e_c pe_bl fun _ => rfl
theorem e_non {j p} : PE X (.Constant .none j p) (tE b E (cM .non)) := e_c pe_non fun _ => rfl
theorem e_str {x : Str} {j p} : PE X (.Constant (.str x) j p) (tE b E (cM (.str x))) := e_c pe_str fun _ => rfl
def RuleU (c : Dc) (r : V → Hp → VK → Prop) (g : D → Option D) : Prop := ∀ F O T H d v d' Q, Fits F O T H → DenB c F O d v → g d = some d' → (∀ v' F' H', Same F F' → Fits F' O T H' → Den c F' d' v' → Q v' H') → r v H Q
def RuleB (c : Dc) (r : R2) (g : D → D → Option D) : Prop := ∀ F O T H d e v u d' Q, Fits F O T H → DenB c F O d v → DenB c F O e u → g d e = some d' → (∀ v' F' H', Same F F' → Fits F' O T H' → Den c F' d' v' → Q v' H') → r v u H Q
def RuleN (c : Dc) (r : List V → Hp → VK → Prop) (g : List D → Option D) : Prop := ∀ F O T H ds vs d' Q, Fits F O T H → Paired (fun d v => DenB c F O d v) ds vs → g ds = some d' → (∀ v' F' H', Same F F' → Fits F' O T H' → Den c F' d' v' → Q v' H') → r vs H Q
theorem RuleU.run {b : Bc} {r : V → Hp → VK → Prop} {g : D → Option D} (hr : RuleU b.c r g) : ∀ F O S H d v d' Q, FitB b F O S H → DenB b.c F O d v → g d = some d' → (∀ v' F' H', Same F F' → FitB b F' O S H' → Den b.c F' d' v' → Q v' H') → r v H Q :=
  fun F O S H d v d' Q ⟨T0, tp, fit⟩ hv e k => hr F O _ H d v d' Q fit hv e fun v' F' H' s f => k v' F' H' s ⟨T0, b.TP.mono tp s, f⟩
theorem RuleB.run {b : Bc} {r : R2} {g : D → D → Option D} (hr : RuleB b.c r g) : ∀ F O S H d e v u d' Q, FitB b F O S H → DenB b.c F O d v → DenB b.c F O e u → g d e = some d' → (∀ v' F' H', Same F F' → FitB b F' O S H' → Den b.c F' d' v' → Q v' H') → r v u H Q :=
  fun F O S H d e v u d' Q ⟨T0, tp, fit⟩ hv hu e' k => hr F O _ H d e v u d' Q fit hv hu e' fun v' F' H' s f => k v' F' H' s ⟨T0, b.TP.mono tp s, f⟩
theorem RuleN.run {b : Bc} {r : List V → Hp → VK → Prop} {g : List D → Option D} (hr : RuleN b.c r g) : ∀ F O S H ds vs d' Q, FitB b F O S H → Paired (fun d v => DenB b.c F O d v) ds vs → g ds = some d' → (∀ v' F' H', Same F F' → FitB b F' O S H' → Den b.c F' d' v' → Q v' H') → r vs H Q :=
  fun F O S H ds vs d' Q ⟨T0, tp, fit⟩ hv e' k => hr F O _ H ds vs d' Q fit hv e' fun v' F' H' s f => k v' F' H' s ⟨T0, b.TP.mono tp s, f⟩
def unM (g : D → Option D) (f : ME) : ME := fun env S => bindM (f env S) fun d S1 => ofO (g d) S1
def binM (g : D → D → Option D) (f1 f2 : ME) : ME := fun env S => bindM (f1 env S) fun d S1 => bindM (f2 env S1) fun e S2 => ofO (g d e) S2
theorem e_un {r : V → Hp → VK → Prop} {g : D → Option D} (hr : RuleU b.c r g) (h : ∀ t, PE X e1 t → PE X e (tUn r t)) (h1 : PE X e1 (tB b E f1)) : PE X e (tE b E (unM g f1)) :=
  PE.imp (h _ h1) fun σ H Q ⟨F0, O0, F, O, env, S, P, h⟩ => ⟨F0, O0, F, O, env, S, P, (Post.bind h).imp fun d S1 F1 H1 s1 fit1 I1 k v hv => by
    obtain ⟨d', e', k⟩ := Post.ofO k
    exact hr.run (b := b) F1 O _ H1 d v d' Q fit1 hv e' fun v' F' H' s f dv => k F' H' s f (I1.mono s) v' dv⟩
theorem e_bin {r : R2} {g : D → D → Option D} (hr : RuleB b.c r g) (h : ∀ t u, PE X e1 t → PE X e2 u → PE X e (tOp r t u)) (h1 : PE X e1 (tB b E f1)) (h2 : PE X e2 (tB b E f2)) : PE X e (tE b E (binM g f1 f2)) :=
  PE.imp (h _ _ h1 h2) fun σ H Q ⟨F0, O0, F, O, env, S, P, h⟩ => ⟨F0, O0, F, O, env, S, P, (Post.bind h).imp fun d S1 F1 H1 s1 fit1 I1 k v hv => ⟨F0, O0, F1, O, env, S1, P.grow s1 fit1 I1, (Post.bind k).imp fun d2 S2 F2 H2 s2 fit2 I2 k u hu => by
    obtain ⟨d', e', k⟩ := Post.ofO k
    exact hr.run (b := b) F2 O _ H2 d d2 v u d' Q fit2 (hv.mono s2 (Same.refl _)) hu e' fun v' F' H' s f dv => k F' H' s f (I2.mono s) v' dv⟩⟩
end
end VS
namespace VS
open PySem PySem.Spec PyProof.Rows L2
def ObjD (c : Dc) (F : Hp) : D → HO → Prop
  | .lst ds, o => ∃ vs, o = .lst vs ∧ ds.length ≤ sizeLine ∧ Dens c F ds vs
  | .dct ks ds, o => ∃ kv, o = .dK kv ∧ kv.map (·.1) = ks ∧ Dens c F ds (kv.map (·.2))
  | _, _ => False
theorem ObjD.den {c : Dc} {F : Hp} {d : D} {o : HO} {p : Addr} (h : ObjD c F d o) (n : F p = none) : Den c (upd F p o) d (.ref p) := by
  have e := same_upd (o := o) n
  cases d with
  | lst ds => obtain ⟨vs, rfl, hz, h⟩ := h; exact ⟨p, vs, rfl, upd_same, hz, Dens.mono e _ _ h⟩
  | dct ks ds => obtain ⟨kv, rfl, hz, h⟩ := h; exact ⟨p, kv, rfl, upd_same, hz, Dens.mono e _ _ h⟩
  | _ => exact False.elim h
theorem ObjD.ld {c : Dc} {F : Hp} {d : D} {o : HO} (h : ObjD c F d o) : LD o := by
  cases d with
  | lst ds => obtain ⟨vs, rfl, hz, h⟩ := h; exact .inl ⟨_, rfl⟩
  | dct ks ds => obtain ⟨kv, rfl, hz, h⟩ := h; exact .inr (.inl ⟨_, rfl⟩)
  | _ => exact False.elim h
theorem ObjD.own {c : Dc} {F O : Hp} {d : D} {o : HO} {p : Addr} (h : ObjD c F d o) (n : O p = some o) : OwnD c F O p d := by
  cases d with
  | lst ds => obtain ⟨vs, rfl, hz, h⟩ := h; exact ⟨vs, n, hz, h⟩
  | dct ks ds => obtain ⟨kv, rfl, hz, h⟩ := h; exact ⟨kv, n, hz, h⟩
  | _ => exact False.elim h
def tN (b : Bc) (E : XK) (f : ME) : TE := fun σ H Q => ∃ F0 O0 F O env S, Pre b F0 O0 F O H σ env S ∧ Post b E O F (f env S) fun d S' F' H' => ∀ p o, H' p = none → ObjD b.c F' d o → Q (.ref p) (upd H' p o)
def tAB (b : Bc) (E : XK) (f : MA) : TA := fun σ H Q => ∃ F0 O0 F O env S, Pre b F0 O0 F O H σ env S ∧ Post b E O F (f env S) fun ds S' F' H' => ∀ vs, Paired (fun d v => DenB b.c F' O d v) ds vs → Q vs H'
def nilA : MA := fun _ S => .ok ([], S)
def consA (f : ME) (g : MA) : MA := fun env S => bindM (f env S) fun d S1 => bindM (g env S1) fun ds S2 => .ok (d :: ds, S2)
section
variable {X : Cx} {b : Bc} {E : XK} {e e1 e2 : Expr} {es : List Expr} {f f1 f2 : ME} {g : MA} {pos : Pos}
theorem nE (h : PE X e (tN b E f)) : PE X e (tE b E f) := PE.imp h fun σ H Q ⟨F0, O0, F, O, env, S, P, h⟩ => ⟨F0, O0, F, O, env, S, P, by
  revert h
  cases hr : f env S with
  | ok r =>
    obtain ⟨d, S'⟩ := r
    intro h F' H' s fit I p o hp ho
    have nF := upd_none fit.f hp
    exact h (upd F' p o) (upd H' p o) (s.trans (same_upd nF)) (fit.new hp ho.ld.nt) (I.mono (same_upd nF)) _ (ho.den nF)
  | exc n f fs S' => exact fun h => h
  | bad => exact fun h => h⟩
theorem a_nil : PA X [] (tA b E nilA) := PA.imp pa_nil fun σ H Q ⟨F0, O0, F, O, env, S, P, h⟩ => h F H (Same.refl _) P.fit P.inv [] rfl
theorem a_cons (h : PE X e (tE b E f)) (hr : PA X es (tA b E g)) (hs : starEach (e :: es) X.env = (false, eval e X.env) :: starEach es X.env := by rfl) : PA X (e :: es) (tA b E (consA f g)) :=
  PA.imp (pa_cons h hr hs) fun σ H Q ⟨F0, O0, F, O, env, S, P, h⟩ => ⟨F0, O0, F, O, env, S, P, (Post.bind h).imp fun d S1 F1 H1 s1 fit1 I1 k v hv => ⟨F0, O0, F1, O, env, S1, P.grow s1 fit1 I1, (Post.bind k).imp fun ds S2 F2 H2 s2 fit2 I2 k vs hvs =>
    k F2 H2 (Same.refl _) fit2 I2 (v :: vs) (Dens.cons (Den.mono s2 _ _ hv) hvs)⟩⟩
theorem ab_nil : PA X [] (tAB b E nilA) := PA.imp pa_nil fun σ H Q ⟨F0, O0, F, O, env, S, P, h⟩ => h F H (Same.refl _) P.fit P.inv [] .nil
theorem ab_cons (h : PE X e (tB b E f)) (hr : PA X es (tAB b E g)) (hs : starEach (e :: es) X.env = (false, eval e X.env) :: starEach es X.env := by rfl) : PA X (e :: es) (tAB b E (consA f g)) :=
  PA.imp (pa_cons h hr hs) fun σ H Q ⟨F0, O0, F, O, env, S, P, h⟩ => ⟨F0, O0, F, O, env, S, P, (Post.bind h).imp fun d S1 F1 H1 s1 fit1 I1 k v hv => ⟨F0, O0, F1, O, env, S1, P.grow s1 fit1 I1, (Post.bind k).imp fun ds S2 F2 H2 s2 fit2 I2 k vs hvs =>
    k F2 H2 (Same.refl _) fit2 I2 (v :: vs) (.cons (hv.mono s2 (Same.refl _)) hvs)⟩⟩
def tupM (g : MA) : ME := fun env S => bindM (g env S) fun ds S1 => if ds.length ≤ 1000000 then .ok (.tup ds, S1) else .bad
def lstM (g : MA) : ME := fun env S => bindM (g env S) fun ds S1 => if ds.length ≤ 1000000 then .ok (.lst ds, S1) else .bad
theorem million : 1000000 ≤ sizeLine := by rw [sizeLine_eq]; decide
theorem e_tup {x1} (h : PA X es (tA b E g)) : PE X (.Tuple es x1 pos) (tE b E (tupM g)) := PE.imp (pe_tup h) fun σ H Q ⟨F0, O0, F, O, env, S, P, h⟩ => ⟨F0, O0, F, O, env, S, P, (Post.bind h).imp fun ds S1 F1 H1 s1 fit1 I1 k vs hv => by
  by_cases hz : ds.length ≤ 1000000
  · rw [if_pos hz] at k
    refine ⟨by rw [← hv.length]; exact Nat.le_trans hz million, fun p hp => ?_⟩
    have nF := upd_none fit1.f hp
    exact k (upd F1 p (.tup vs)) _ (same_upd nF) (fit1.new hp) (I1.mono (same_upd nF)) _ ⟨p, vs, rfl, SqT.of upd_same, Nat.le_trans hz million, Dens.mono (same_upd nF) _ _ hv⟩
  · rw [if_neg hz] at k
    exact False.elim k⟩
theorem n_lst (h : PA X es (tA b E g)) : PE X (.List es pos) (tN b E (lstM g)) := PE.imp (pe_lst h) fun σ H Q ⟨F0, O0, F, O, env, S, P, h⟩ => ⟨F0, O0, F, O, env, S, P, (Post.bind h).imp fun ds S1 F1 H1 s1 fit1 I1 k vs hv => by
  by_cases hz : ds.length ≤ 1000000
  · rw [if_pos hz] at k
    refine ⟨by rw [← hv.length]; exact Nat.le_trans hz million, fun p hp => ?_⟩
    exact k F1 H1 (Same.refl _) fit1 I1 p (.lst vs) hp ⟨vs, rfl, Nat.le_trans hz million, hv⟩
  · rw [if_neg hz] at k
    exact False.elim k⟩
def testM (f : ME) : MT := fun env S => bindM (f env S) fun d S1 => match d with | .bl k => .ok (k, S1) | _ => .bad
theorem t_val (h : PE X e (tE b E f)) (he : ∀ whole, isTrue e X.env whole = (do let v ← whole; standAt e.pos; holding [v] (truthy v)) := by intro _; rfl) : PT X e (tT b E (testM f)) :=
  PT.imp (pt_val h he) fun σ H Q ⟨F0, O0, F, O, env, S, P, h⟩ => ⟨F0, O0, F, O, env, S, P, (Post.bind h).imp fun d S1 F1 H1 s1 fit1 I1 k v hv => by
    cases d with
    | bl k' =>
      simp only [Den] at hv
      subst hv
      exact ⟨k', rfl, k F1 H1 (Same.refl _) fit1 I1⟩
    | _ => exact False.elim k⟩
theorem t_cmp {op : CmpOp} {r : R2} {gg : D → D → Option D} (hr : RuleB b.c r gg) (ho : OpR X (compareOp op) r) (h1 : PE X e1 (tB b E f1)) (h2 : PE X e2 (tB b E f2)) (hm : behindInMarks op e2 = false) : PT X (.Compare e1 [op] [e2] pos) (tT b E (testM (binM gg f1 f2))) :=
  PT.imp (pt_cmpR ho h1 h2 hm) fun σ H Q ⟨F0, O0, F, O, env, S, P, h⟩ => by
    refine ⟨F0, O0, F, O, env, S, P, ?_⟩
    have h := Post.bind h
    refine (Post.bind h).imp fun d S1 F1 H1 s1 fit1 I1 k v hv => ⟨F0, O0, F1, O, env, S1, P.grow s1 fit1 I1, (Post.bind k).imp fun d2 S2 F2 H2 s2 fit2 I2 k u hu => ?_⟩
    obtain ⟨d', e', k⟩ := Post.ofO k
    refine hr.run (b := b) F2 O _ H2 d d2 v u d' _ fit2 (hv.mono s2 (Same.refl _)) hu e' fun v' F' H' s f dv => ?_
    have k := k F' H' s f (I2.mono s)
    cases d' with
    | bl k' =>
      simp only [Den] at dv
      subst dv
      exact ⟨k', rfl, k F' H' (Same.refl _) f (I2.mono s)⟩
    | _ => exact False.elim k
def andT (f g : MT) : MT := fun env S => bindM (f env S) fun k S1 => if k = true then g env S1 else .ok (false, S1)
def orT (f g : MT) : MT := fun env S => bindM (f env S) fun k S1 => if k = true then .ok (true, S1) else g env S1
def notT (f : MT) : MT := fun env S => bindM (f env S) fun k S1 => .ok (!k, S1)
variable {t1 t2 : MT} {rest : List Expr}
theorem w_and1 (ha : PT X e (tT b E t1)) : PW X (.BoolOp .And [e] pos) (tT b E t1) := pw_and1 ha
theorem w_or1 (ha : PT X e (tT b E t1)) : PW X (.BoolOp .Or [e] pos) (tT b E t1) := pw_or1 ha
theorem w_and (ha : PT X e1 (tT b E t1)) (hb : PW X (.BoolOp .And (e2 :: rest) pos) (tT b E t2)) : PW X (.BoolOp .And (e1 :: e2 :: rest) pos) (tT b E (andT t1 t2)) :=
  PW.imp (pw_and ha hb) fun σ H Q ⟨F0, O0, F, O, env, S, P, h⟩ => ⟨F0, O0, F, O, env, S, P, (Post.bind h).imp fun d S1 F1 H1 s1 fit1 I1 k => by
    cases d with
    | true => exact iteT ⟨F0, O0, F1, O, env, S1, P.grow s1 fit1 I1, k⟩
    | false => exact iteF (k F1 H1 (Same.refl _) fit1 I1)⟩
theorem w_or (ha : PT X e1 (tT b E t1)) (hb : PW X (.BoolOp .Or (e2 :: rest) pos) (tT b E t2)) : PW X (.BoolOp .Or (e1 :: e2 :: rest) pos) (tT b E (orT t1 t2)) :=
  PW.imp (pw_or ha hb) fun σ H Q ⟨F0, O0, F, O, env, S, P, h⟩ => ⟨F0, O0, F, O, env, S, P, (Post.bind h).imp fun d S1 F1 H1 s1 fit1 I1 k => by
    cases d with
    | true => exact iteT (k F1 H1 (Same.refl _) fit1 I1)
    | false => exact iteF ⟨F0, O0, F1, O, env, S1, P.grow s1 fit1 I1, k⟩⟩
theorem t_not (ha : PT X e (tT b E t1)) : PT X (.UnaryOp .Not e pos) (tT b E (notT t1)) :=
  PT.imp (pt_not ha) fun σ H Q ⟨F0, O0, F, O, env, S, P, h⟩ => ⟨F0, O0, F, O, env, S, P, (Post.bind h).imp fun d S1 F1 H1 s1 fit1 I1 k => k F1 H1 (Same.refl _) fit1 I1⟩
def andV (f g : ME) : ME := fun env S => bindM (f env S) fun d S1 => match d with | .bl true => g env S1 | .bl false => .ok (.bl false, S1) | _ => .bad
def orV (f g : ME) : ME := fun env S => bindM (f env S) fun d S1 => match d with | .bl true => .ok (.bl true, S1) | .bl false => g env S1 | _ => .bad
theorem e_one {op} (h : PE X e (tE b E f)) : PE X (.BoolOp op [e] pos) (tE b E f) := pe_one h
theorem e_and (ha : PE X e1 (tE b E f1)) (hb : PE X (.BoolOp .And (e2 :: rest) pos) (tE b E f2)) : PE X (.BoolOp .And (e1 :: e2 :: rest) pos) (tE b E (andV f1 f2)) :=
  PE.imp (pe_and ha hb) fun σ H Q ⟨F0, O0, F, O, env, S, P, h⟩ => ⟨F0, O0, F, O, env, S, P, (Post.bind h).imp fun d S1 F1 H1 s1 fit1 I1 k v hv => by
    cases d with
    | bl k' =>
      simp only [Den] at hv
      subst hv
      refine ⟨k', rfl, ?_⟩
      cases k' with
      | true => exact iteT ⟨F0, O0, F1, O, env, S1, P.grow s1 fit1 I1, k⟩
      | false => exact iteF (k F1 H1 (Same.refl _) fit1 I1 _ rfl)
    | _ => exact False.elim k⟩
def notV (f : ME) : ME := fun env S => bindM (f env S) fun d S1 => match d with | .bl k => .ok (.bl (!k), S1) | _ => .bad
theorem e_not (ha : PE X e1 (tE b E f1)) : PE X (.UnaryOp .Not e1 pos) (tE b E (notV f1)) :=
  PE.imp (pe_not ha) fun σ H Q ⟨F0, O0, F, O, env, S, P, h⟩ => ⟨F0, O0, F, O, env, S, P, (Post.bind h).imp fun d S1 F1 H1 s1 fit1 I1 k v hv => by
    cases d with
    | bl k' =>
      simp only [Den] at hv
      subst hv
      exact ⟨k', rfl, k F1 H1 (Same.refl _) fit1 I1 _ rfl⟩
    | _ => exact False.elim k⟩
def ifM (t : MT) (f g : ME) : ME := fun env S => bindM (t env S) fun k S1 => if k = true then f env S1 else g env S1
theorem e_if (hc : PT X e (tT b E t1)) (ha : PE X e1 (tE b E f1)) (hb : PE X e2 (tE b E f2)) : PE X (.IfExp e e1 e2 pos) (tE b E (ifM t1 f1 f2)) :=
  PE.imp (pe_ifExp hc ha hb) fun σ H Q ⟨F0, O0, F, O, env, S, P, h⟩ => ⟨F0, O0, F, O, env, S, P, (Post.bind h).imp fun d S1 F1 H1 s1 fit1 I1 k => by
    cases d with
    | true => exact iteT ⟨F0, O0, F1, O, env, S1, P.grow s1 fit1 I1, k⟩
    | false => exact iteF ⟨F0, O0, F1, O, env, S1, P.grow s1 fit1 I1, k⟩⟩
def chM (g g' : D → D → Option D) (f1 f2 f3 : ME) : ME := fun env S => bindM (f1 env S) fun d S1 => bindM (f2 env S1) fun e S2 => bindM (ofO (g d e) S2) fun k S3 => match k with | .bl true => bindM (f3 env S3) fun h S4 => ofO (g' e h) S4 | .bl false => .ok (.bl false, S3) | _ => .bad
theorem e_ch {e3 : Expr} {f3 : ME} {r r' : R2} {gg gg' : D → D → Option D} (hr : RuleB b.c r gg) (hr' : RuleB b.c r' gg') (h : ∀ t u w, PE X e1 t → PE X e2 u → PE X e3 w → PE X e (tChain r r' t u w)) (h1 : PE X e1 (tB b E f1)) (h2 : PE X e2 (tB b E f2)) (h3 : PE X e3 (tB b E f3)) :
    PE X e (tE b E (chM gg gg' f1 f2 f3)) := PE.imp (h _ _ _ h1 h2 h3) fun σ H Q ⟨F0, O0, F, O, env, S, P, h⟩ => by
  refine ⟨F0, O0, F, O, env, S, P, (Post.bind h).imp fun d S1 F1 H1 s1 fit1 I1 k v hv => ⟨F0, O0, F1, O, env, S1, P.grow s1 fit1 I1, (Post.bind k).imp fun d2 S2 F2 H2 s2 fit2 I2 k u hu => ?_⟩⟩
  obtain ⟨d', e', k⟩ := Post.ofO (Post.bind k)
  refine hr.run (b := b) F2 O _ H2 d d2 v u d' _ fit2 (hv.mono s2 (Same.refl _)) hu e' fun v' F' H' s f dv => ?_
  have k := k F' H' s f (I2.mono s)
  have P2 := (P.grow s1 fit1 I1).grow s2 fit2 I2
  cases d' with
  | bl k' =>
    simp only [Den] at dv
    subst dv
    refine ⟨k', rfl, ?_⟩
    cases k' with
    | true =>
      refine iteT ⟨F0, O0, F', O, env, S2, P2.grow s f (I2.mono s), (Post.bind k).imp fun d3 S3 F3 H3 s3 fit3 I3 k w hw => ?_⟩
      obtain ⟨d4, e4, k⟩ := Post.ofO k
      exact hr'.run (b := b) F3 O _ H3 d2 d3 u w d4 _ fit3 ((hu.mono s (Same.refl _)).mono s3 (Same.refl _)) hw e4 fun v4 F4 H4 s4 f4 dv4 => k F4 H4 s4 f4 (I3.mono s4) v4 dv4
    | false => exact iteF (k F' H' (Same.refl _) f (I2.mono s) _ rfl)
  | _ => exact False.elim k
def cbM (gg : List D → Option D) (g : MA) : ME := fun env S => bindM (g env S) fun ds S1 => ofO (gg ds) S1
theorem e_cb {r : List V → Hp → VK → Prop} {gg : List D → Option D} (hr : RuleN b.c r gg) (h : ∀ t, PA X es t → PE X e (tCB r t)) (ha : PA X es (tAB b E g)) : PE X e (tE b E (cbM gg g)) :=
  PE.imp (h _ ha) fun σ H Q ⟨F0, O0, F, O, env, S, P, h⟩ => ⟨F0, O0, F, O, env, S, P, (Post.bind h).imp fun ds S1 F1 H1 s1 fit1 I1 k vs hv => by
    obtain ⟨d', e', k⟩ := Post.ofO k
    exact hr.run (b := b) F1 O _ H1 ds vs d' Q fit1 hv e' fun v' F' H' s f dv => k F' H' s f (I1.mono s) v' dv⟩
def RuleNN (c : Dc) (r : List V → Hp → VK → Prop) (g : List D → Option D) : Prop := ∀ F O T H ds vs d' Q, Fits F O T H → Paired (fun d v => DenB c F O d v) ds vs → g ds = some d' → (∀ F' H' p o, Same F F' → Fits F' O T H' → H' p = none → ObjD c F' d' o → Q (.ref p) (upd H' p o)) → r vs H Q
theorem RuleNN.run {b : Bc} {r : List V → Hp → VK → Prop} {g : List D → Option D} (hr : RuleNN b.c r g) : ∀ F O S H ds vs d' Q, FitB b F O S H → Paired (fun d v => DenB b.c F O d v) ds vs → g ds = some d' → (∀ F' H' p o, Same F F' → FitB b F' O S H' → H' p = none → ObjD b.c F' d' o → Q (.ref p) (upd H' p o)) → r vs H Q :=
  fun F O S H ds vs d' Q ⟨T0, tp, fit⟩ hv e' k => hr F O _ H ds vs d' Q fit hv e' fun F' H' p o s f => k F' H' p o s ⟨T0, b.TP.mono tp s, f⟩
theorem n_cb {r : List V → Hp → VK → Prop} {gg : List D → Option D} (hr : RuleNN b.c r gg) (h : ∀ t, PA X es t → PE X e (tCB r t)) (ha : PA X es (tAB b E g)) : PE X e (tN b E (cbM gg g)) :=
  PE.imp (h _ ha) fun σ H Q ⟨F0, O0, F, O, env, S, P, h⟩ => ⟨F0, O0, F, O, env, S, P, (Post.bind h).imp fun ds S1 F1 H1 s1 fit1 I1 k vs hv => by
    obtain ⟨d', e', k⟩ := Post.ofO k
    exact hr.run (b := b) F1 O _ H1 ds vs d' Q fit1 hv e' fun F' H' p o s f hp ho => k F' H' s f (I1.mono s) p o hp ho⟩
end
end VS
namespace VS
open PySem PySem.Spec PyProof.Rows L2
inductive Fl where
  | nx (env : Env) | rt (d : D) | bk (env : Env) | ct (env : Env)
abbrev MS := Env → DS → Res (Fl × DS)
def PostS (b : Bc) (E : XK) (F0 O0 : Hp) (r : Res (Fl × DS)) (Dn : Ends) : Prop := match r with
  | .ok (.nx env', S') => ∀ σ' F' O' H', Pre b F0 O0 F' O' H' σ' env' S' → Dn.nx σ' H'
  | .ok (.bk env', S') => ∀ σ' F' O' H', Pre b F0 O0 F' O' H' σ' env' S' → Dn.bk σ' H'
  | .ok (.ct env', S') => ∀ σ' F' O' H', Pre b F0 O0 F' O' H' σ' env' S' → Dn.ct σ' H'
  | .ok (.rt d, S') => ∀ v F' O' H', Same F0 F' → Same O0 O' → FitB b F' O' S' H' → b.I S' F' → Den b.c F' d v → Dn.rt v H'
  | .exc n f fs S' => ∀ cls dd F' O' H', Same F0 F' → Same O0 O' → FitB b F' O' S' H' → b.I S' F' → ExcR b.c F' n f fs cls dd → E cls dd H'
  | .bad => False
def tS (b : Bc) (E : XK) (g : MS) : TS := fun Dn σ H => ∃ F0 O0 F O env S, Pre b F0 O0 F O H σ env S ∧ PostS b E F0 O0 (g env S) Dn
section
variable {α : Type} {b : Bc} {E : XK} {F0 O0 F O H : Hp} {σ : L2.St} {env : Env} {S : DS} {Dn Dn' : Ends}
theorem PostS.bind {x : Res (α × DS)} {k : α → DS → Res (Fl × DS)} (h : PostS b E F0 O0 (bindM x k) Dn) (s : Same F0 F) (o : Same O0 O) : Post b E O F x fun a S' F' H' => PostS b E F0 O0 (k a S') Dn := by
  cases x with
  | ok p => obtain ⟨a, S'⟩ := p; exact fun F2 H2 e2 _ _ => h
  | exc n f fs S' => exact fun cls dd F' H' e fit I r => h cls dd F' O H' (s.trans e) o fit I r
  | bad => exact h
theorem Pre.base {F1 O1 : Hp} (P : Pre b F1 O1 F O H σ env S) (s : Same F0 F1) (o : Same O0 O1) : Pre b F0 O0 F O H σ env S :=
  ⟨P.fit, s.trans P.f0, o.trans P.o0, P.inv, P.slot, fun i d h n => let ⟨a, h1, h2, h3⟩ := P.slotO i d h n; ⟨a, h1, h2, upd_none o h3⟩, P.sep, P.len⟩
theorem PostS.base {F1 O1 : Hp} {r : Res (Fl × DS)} (h : PostS b E F0 O0 r Dn) (s : Same F0 F1) (o : Same O0 O1) : PostS b E F1 O1 r Dn := by
  cases r with
  | ok p =>
    obtain ⟨a, S'⟩ := p
    cases a with
    | nx env' => exact fun σ' F' O' H' P => h σ' F' O' H' (P.base s o)
    | rt d => exact fun v F' O' H' a b c d e => h v F' O' H' (s.trans a) (o.trans b) c d e
    | bk env' => exact fun σ' F' O' H' P => h σ' F' O' H' (P.base s o)
    | ct env' => exact fun σ' F' O' H' P => h σ' F' O' H' (P.base s o)
  | exc n f fs S' => exact fun cls dd F' O' H' a b => h cls dd F' O' H' (s.trans a) (o.trans b)
  | bad => exact h
end
def nextS : MS := fun env S => .ok (.nx env, S)
def seqS (g1 g2 : MS) : MS := fun env S => match g1 env S with
  | .ok (.nx env', S') => g2 env' S'
  | r => r
def ifS (t : MT) (g1 g2 : MS) : MS := fun env S => bindM (t env S) fun k S1 => if k = true then g1 env S1 else g2 env S1
def retS (f : ME) : MS := fun env S => bindM (f env S) fun d S1 => .ok (.rt d, S1)
def dropS (f : ME) : MS := fun env S => bindM (f env S) fun _ S1 => .ok (.nx env, S1)
def asgS (i : Nat) (f : ME) : MS := fun env S => bindM (f env S) fun d S1 => .ok (.nx (env.set i (some d)), S1)
section
variable {X : Cx} {b : Bc} {E : XK} {e : Expr} {st : Stmt} {rest sa sb : List Stmt} {f : ME} {g g1 g2 : MS} {t : MT} {pos : Pos}
theorem ss_nil : PSs X [] (tS b E nextS) := PSs.imp pss_nil fun Dn σ H ⟨F0, O0, F, O, env, S, P, h⟩ => h σ F O H P
theorem ss_cons (h1 : PS X st (tS b E g1)) (h2 : PSs X rest (tS b E g2)) : PSs X (st :: rest) (tS b E (seqS g1 g2)) := PSs.imp (pss_cons h1 h2) fun Dn σ H ⟨F0, O0, F, O, env, S, P, h⟩ => by
  refine ⟨F0, O0, F, O, env, S, P, ?_⟩
  unfold seqS at h
  cases hr : g1 env S with
  | ok p =>
    rw [hr] at h
    obtain ⟨a, S'⟩ := p
    cases a with
    | nx env' => exact fun σ' F' O' H' P' => ⟨F0, O0, F', O', env', S', P', h⟩
    | rt d => exact h
    | bk env' => exact h
    | ct env' => exact h
  | exc n f fs S' => rw [hr] at h; exact h
  | bad => rw [hr] at h; exact h
theorem ss_one (h1 : PS X st (tS b E g1)) : PSs X [st] (tS b E g1) := pss_one h1
theorem s_if {c : Expr} (hc : PT X c (tT b E t)) (ha : PSs X sa (tS b E g1)) (hb : PSs X sb (tS b E g2)) : PS X (.If c sa sb pos) (tS b E (ifS t g1 g2)) :=
  PS.imp (ps_if hc ha hb) fun Dn σ H ⟨F0, O0, F, O, env, S, P, h⟩ => ⟨F0, O0, F, O, env, S, P, (PostS.bind h P.f0 P.o0).imp fun d S1 F1 H1 s1 fit1 I1 k => by
    cases d with
    | true => exact iteT ⟨F0, O0, F1, O, env, S1, P.grow s1 fit1 I1, k⟩
    | false => exact iteF ⟨F0, O0, F1, O, env, S1, P.grow s1 fit1 I1, k⟩⟩
theorem s_ret (h : PE X e (tE b E f)) : PS X (.Return (some e) pos) (tS b E (retS f)) :=
  PS.imp (ps_ret h) fun Dn σ H ⟨F0, O0, F, O, env, S, P, h⟩ => ⟨F0, O0, F, O, env, S, P, (PostS.bind h P.f0 P.o0).imp fun d S1 F1 H1 s1 fit1 I1 k v hv => k v F1 O H1 (P.f0.trans s1) P.o0 fit1 I1 hv⟩
def retN : MS := fun _ S => .ok (.rt .non, S)
theorem s_drop (h : PE X e (tE b E f)) (hs : swapsWith e none pos.line X.env = pure false := by rfl) : PS X (.Expr e pos) (tS b E (dropS f)) :=
  PS.imp (ps_expr h hs) fun Dn σ H ⟨F0, O0, F, O, env, S, P, h⟩ => ⟨F0, O0, F, O, env, S, P, (PostS.bind h P.f0 P.o0).imp fun d S1 F1 H1 s1 fit1 I1 k v hv => k σ F1 O H1 (P.grow s1 fit1 I1)⟩
theorem get_set {α : Type} {l : List α} {i j : Nat} {a d : α} (h : (l.set i a)[j]? = some d) : (j = i ∧ d = a ∧ i < l.length) ∨ (j ≠ i ∧ l[j]? = some d) := by
  by_cases e : j = i
  · subst e
    by_cases q : j < l.length
    · rw [List.getElem?_set_self q] at h; cases h; exact .inl ⟨rfl, rfl, q⟩
    · rw [List.getElem?_eq_none (by simpa using q)] at h; cases h
  · rw [List.getElem?_set_ne (Ne.symm e)] at h
    exact .inr ⟨e, h⟩
theorem set_ne' {α : Type} {l : List α} {i j : Nat} {a : α} (h : j ≠ i) : (l.set i a)[j]? = l[j]? := List.getElem?_set_ne (Ne.symm h)
theorem Pre.set {F0 O0 F O H : Hp} {σ : L2.St} {env : Env} {S : DS} {i : Nat} {d : D} {v : V} (P : Pre b F0 O0 F O H σ env S) (ho : i ∉ b.own) (hv : Den b.c F d v) : Pre b F0 O0 F O H (σ.set i (some v)) (env.set i (some d)) S where
  fit := P.fit
  f0 := P.f0
  o0 := P.o0
  inv := P.inv
  slot := fun j d' h n => by
    rcases get_set h with ⟨rfl, e, hl⟩ | ⟨ne, h⟩
    · cases e
      exact ⟨v, List.getElem?_set_self (by rw [P.len]; exact hl), hv⟩
    · obtain ⟨u, h1, h2⟩ := P.slot j d' h n
      exact ⟨u, by rw [set_ne' ne]; exact h1, h2⟩
  slotO := fun j d' h n => by
    have ne : j ≠ i := fun z => ho (z ▸ n)
    rw [set_ne' ne] at h
    rw [set_ne' ne]
    exact P.slotO j d' h n
  sep := fun j k a hj hk e1 e2 h1 h2 => by
    have nj : j ≠ i := fun z => ho (z ▸ hj)
    have nk : k ≠ i := fun z => ho (z ▸ hk)
    rw [set_ne' nj] at e1 h1
    rw [set_ne' nk] at e2 h2
    exact P.sep j k a hj hk e1 e2 h1 h2
  len := by simp [P.len]
theorem s_asg (i : Nat) (ho : b.own.contains i = false) (hst : ∀ te, PE X e te → PS X st (tAsg te (gName i))) (h : PE X e (tE b E f)) : PS X st (tS b E (asgS i f)) :=
  PS.imp (hst _ h) fun Dn σ H ⟨F0, O0, F, O, env, S, P, h⟩ => ⟨F0, O0, F, O, env, S, P, (PostS.bind h P.f0 P.o0).imp fun d S1 F1 H1 s1 fit1 I1 k v hv => k _ F1 O H1 ((P.grow s1 fit1 I1).set (by simpa using ho) hv)⟩
theorem Pre.setO {F0 O0 F O H : Hp} {σ : L2.St} {env : Env} {S : DS} {i : Nat} {d : D} {p : Addr} {o : HO} (P : Pre b F0 O0 F O H σ env S) (ho : i ∈ b.own) (hp : H p = none) (hd : ObjD b.c F d o) :
    Pre b F0 O0 F (upd O p o) (upd H p o) (σ.set i (some (.ref p))) (env.set i (some d)) S := by
  have nO := upd_none P.fit.o hp
  have eO : Same O (upd O p o) := same_upd nO
  refine ⟨P.fit.newO hp hd.ld, P.f0, P.o0.trans eO, P.inv, fun j d' h n => ?_, fun j d' h n => ?_, fun j k a hj hk e1 e2 h1 h2 => ?_, by simp [P.len]⟩
  · have ne : j ≠ i := fun z => n (z ▸ ho)
    rw [set_ne' ne] at h ⊢
    exact P.slot j d' h n
  · rcases get_set h with ⟨rfl, e, hl⟩ | ⟨ne, h⟩
    · cases e
      exact ⟨p, List.getElem?_set_self (by rw [P.len]; exact hl), hd.own upd_same, upd_none P.o0 nO⟩
    · obtain ⟨a, h1, h2, h3⟩ := P.slotO j d' h n
      exact ⟨a, by rw [set_ne' ne]; exact h1, h2.mono (Same.refl _) (fun o q => eO _ _ q), h3⟩
  · have other : ∀ {m : Nat} {x : Addr}, m ∈ b.own → (∃ d, env[m]? = some (some d)) → σ[m]? = some (some (.ref x)) → x ≠ p := fun {m x} hm ⟨d, e⟩ hx z => by
      obtain ⟨y, h1, h2, _⟩ := P.slotO m d e hm
      rw [h1] at hx
      cases hx
      exact h2.some (z ▸ nO)
    obtain ⟨d1, e1⟩ := e1
    obtain ⟨d2, e2⟩ := e2
    rcases get_set h1 with ⟨z1, q1, l1⟩ | ⟨n1, h3⟩
    · rcases get_set h2 with ⟨z2, q2, l2⟩ | ⟨n2, h4⟩
      · rw [z1, z2]
      · cases q1
        rw [set_ne' n2] at e2
        exact absurd rfl (other hk ⟨d2, e2⟩ h4)
    · rcases get_set h2 with ⟨z2, q2, l2⟩ | ⟨n2, h4⟩
      · cases q2
        rw [set_ne' n1] at e1
        exact absurd rfl (other hj ⟨d1, e1⟩ h3)
      · rw [set_ne' n1] at e1
        rw [set_ne' n2] at e2
        exact P.sep j k a hj hk ⟨d1, e1⟩ ⟨d2, e2⟩ h3 h4
theorem s_asgO (i : Nat) (ho : b.own.contains i = true) (hst : ∀ te, PE X e te → PS X st (tAsg te (gName i))) (h : PE X e (tN b E f)) : PS X st (tS b E (asgS i f)) :=
  PS.imp (hst _ h) fun Dn σ H ⟨F0, O0, F, O, env, S, P, h⟩ => ⟨F0, O0, F, O, env, S, P, (PostS.bind h P.f0 P.o0).imp fun d S1 F1 H1 s1 fit1 I1 k p o hp hd => k _ F1 _ _ ((P.grow s1 fit1 I1).setO (by simpa using ho) hp hd)⟩
def setAll (env : Env) : List Nat → List D → Env
  | i :: is, d :: ds => setAll (env.set i (some d)) is ds
  | _, _ => env
def gNames : List Nat → TGs
  | [] => gNil
  | i :: is => gCons (gName i) (gNames is)
theorem names_set {F0 O0 F O H : Hp} {S : DS} {Q : L2.St → Hp → Prop} : ∀ (is : List Nat) (ds : List D) (vs : List V) (σ : L2.St) (env : Env), is.all (fun i => !b.own.contains i) = true → ds.length = is.length → Dens b.c F ds vs → Pre b F0 O0 F O H σ env S → (∀ σ', Pre b F0 O0 F O H σ' (setAll env is ds) S → Q σ' H) → gNames is vs σ H Q
  | [], [], vs, σ, env, _, _, hd, P, k => by simp only [Dens] at hd; subst hd; exact ⟨rfl, k σ P⟩
  | i :: is, d :: ds, vs, σ, env, ho, hl, hd, P, k => by
    simp only [Dens] at hd
    obtain ⟨v, r, rfl, h1, h2⟩ := hd
    simp only [List.all_cons, Bool.and_eq_true] at ho
    exact ⟨v, r, rfl, names_set is ds r _ _ ho.2 (by simpa using hl) h2 (P.set (by simpa using ho.1) h1) k⟩
  | [], _ :: _, _, _, _, _, hl, _, _, _ => by simp at hl
  | _ :: _, [], _, _, _, _, hl, _, _, _ => by simp at hl
def unpS (is : List Nat) (f : ME) : MS := fun env S => bindM (f env S) fun d S1 => match d with | .tup ds => if ds.length = is.length then .ok (.nx (setAll env is ds), S1) else .bad | _ => .bad
theorem s_unp (is : List Nat) (hK : b.c.K = X.K) (ho : is.all (fun i => !b.own.contains i) = true) (hst : ∀ te, PE X e te → PS X st (tAsg te (gTup X.K is.length (gNames is)))) (h : PE X e (tE b E f)) : PS X st (tS b E (unpS is f)) :=
  PS.imp (hst _ h) fun Dn σ H ⟨F0, O0, F, O, env, S, P, h⟩ => ⟨F0, O0, F, O, env, S, P, (PostS.bind h P.f0 P.o0).imp fun d S1 F1 H1 s1 fit1 I1 k v hv => by
    cases d with
    | tup ds =>
      by_cases hl : ds.length = is.length
      · simp only [if_pos hl] at k
        simp only [Den] at hv
        obtain ⟨a, vs, rfl, hs, hz, hd⟩ := hv
        rw [hK] at hs
        exact ⟨a, vs, rfl, sqT_mono fit1.f hs, by rw [← hd.length]; exact hl, names_set is ds vs σ env ho hl hd (P.grow s1 fit1 I1) fun σ' P' => k σ' F1 O H1 P'⟩
      · simp only [if_neg hl] at k
        exact False.elim k
    | _ => exact False.elim k⟩
def parS (i j : Nat) (g : MA) : MS := fun env S => bindM (g env S) fun ds S1 => match ds with | [d, e] => .ok (.nx ((env.set i (some d)).set j (some e)), S1) | _ => .bad
theorem s_par {es : List Expr} {ga : MA} (i j : Nat) (hi : b.own.contains i = false) (hj : b.own.contains j = false) (hst : ∀ ta, PA X es ta → PS X st (tPar i j ta)) (h : PA X es (tA b E ga)) : PS X st (tS b E (parS i j ga)) :=
  PS.imp (hst _ h) fun Dn σ H ⟨F0, O0, F, O, env, S, P, h⟩ => ⟨F0, O0, F, O, env, S, P, (PostS.bind h P.f0 P.o0).imp fun ds S1 F1 H1 s1 fit1 I1 k vs hv => by
    match ds, k, hv with
    | [], k, _ => exact False.elim k
    | [_], k, _ => exact False.elim k
    | d :: e :: x :: r, k, _ => exact False.elim k
    | [d, e], k, hv =>
      simp only [Dens] at hv
      obtain ⟨v, r, rfl, h1, w, r2, rfl, h2, rfl⟩ := hv
      exact ⟨v, w, rfl, k _ F1 O H1 (((P.grow s1 fit1 I1).set (by simpa using hi) h1).set (by simpa using hj) h2)⟩⟩
end
end VS
namespace VS
open PySem PySem.Spec PyProof.Rows L2
inductive RP where
  | ok (d : D) | exc (n f : Str) (fs : List D) | bad
def liftP (r : RP) (S : DS) : Res (D × DS) := match r with
  | .ok d => .ok (d, S) | .exc n f fs => .exc n f fs S | .bad => .bad
def S0 : DS := ⟨[], [], 0, 0⟩
def endP (r : Res (Fl × DS)) : RP := match r with
  | .ok (.rt d, _) => .ok d | .ok (.nx _, _) => .ok .non | .exc n f fs _ => .exc n f fs | _ => .bad
def endS (r : Res (Fl × DS)) : Res (D × DS) := match r with
  | .ok (.rt d, S) => .ok (d, S) | .ok (.nx _, S) => .ok (.non, S) | .exc n f fs S => .exc n f fs S | _ => .bad
def startE (n : Nat) (ds : List D) : Env := ds.map some ++ List.replicate (n - ds.length) none
def spP (K : PySem.W.Frag) (mg : Str → Option Value) (m : Nat) (G : List D → RP) : Sp := fun vs H Q E => vs.length = m ∧ ∃ (l : Lay) (F O T : Hp) (ds : List D), Fits F O T H ∧ Dens ⟨K, mg, l⟩ F ds vs ∧ match G ds with
  | .ok d => ∀ v F' H', Same F F' → Fits F' O T H' → Den ⟨K, mg, l⟩ F' d v → Q v H'
  | .exc n f fs => ∀ cls dd F' H', Same F F' → Fits F' O T H' → ExcR ⟨K, mg, l⟩ F' n f fs cls dd → E cls dd H'
  | .bad => False
def spS (K : PySem.W.Frag) (mg : Str → Option Value) (m : Nat) (G : List D → DS → Res (D × DS)) : Sp := fun vs H Q E => vs.length = m ∧ ∃ (l : Lay) (F O T0 : Hp) (ds : List D) (S : DS), Fits F O (stT l S T0) H ∧ stI ⟨K, mg, l⟩ S F ∧ Dens ⟨K, mg, l⟩ F ds vs ∧ match G ds S with
  | .ok (d, S') => ∀ v F' H', Same F F' → Fits F' O (stT l S' T0) H' → stI ⟨K, mg, l⟩ S' F' → Den ⟨K, mg, l⟩ F' d v → Q v H'
  | .exc n f fs S' => ∀ cls dd F' H', Same F F' → Fits F' O (stT l S' T0) H' → stI ⟨K, mg, l⟩ S' F' → ExcR ⟨K, mg, l⟩ F' n f fs cls dd → E cls dd H'
  | .bad => False
section
variable {P : Program} {w : World} {K : PySem.W.Frag} {mg : Str → Option Value} {base : Heap}
theorem start_get {N : List Str} {vs : List V} {i : Nat} {v : V} (h : vs[i]? = some v) : (L2.start N vs)[i]? = some (some v) := by
  unfold L2.start
  have hl := (List.getElem?_eq_some_iff.mp h).1
  rw [List.getElem?_append_left (by simpa using hl), List.getElem?_map, h]
  rfl
theorem startE_get {n : Nat} {ds : List D} {i : Nat} {d : D} (h : (startE n ds)[i]? = some (some d)) : ds[i]? = some d := by
  unfold startE at h
  by_cases hl : i < ds.length
  · rw [List.getElem?_append_left (by simpa using hl), List.getElem?_map] at h
    cases e : ds[i]? with
    | none => rw [e] at h; simp at h
    | some x => rw [e] at h; simp at h; rw [h]
  · rw [List.getElem?_append_right (by simpa using hl)] at h
    rw [List.getElem?_replicate] at h
    split at h <;> simp at h
theorem pre_start {b : Bc} {F O H : Hp} {S : DS} {ds : List D} {vs : List V} {N : List Str} (fit : FitB b F O S H) (I : b.I S F) (hd : Dens b.c F ds vs) (hl : vs.length ≤ N.length) (hown : b.own.all (fun i => decide (vs.length ≤ i)) = true) :
    Pre b F O F O H (L2.start N vs) (startE N.length ds) S where
  fit := fit
  f0 := Same.refl _
  o0 := Same.refl _
  inv := I
  slot := fun i d h _ => by
    obtain ⟨v, h1, h2⟩ := Dens.get' hd (startE_get h)
    exact ⟨v, start_get h1, h2⟩
  slotO := fun i d h n => by
    have h1 := (List.getElem?_eq_some_iff.mp (startE_get h)).1
    have h2 := of_decide_eq_true (List.all_eq_true.mp hown i n)
    rw [hd.length] at h1
    omega
  sep := fun i j a hi hj ⟨d, h⟩ _ _ _ => by
    have h1 := (List.getElem?_eq_some_iff.mp (startE_get h)).1
    have h2 := of_decide_eq_true (List.all_eq_true.mp hown i hi)
    rw [hd.length] at h1
    omega
  len := by
    unfold L2.start startE
    rw [List.length_append, List.length_append, List.length_map, List.length_map, List.length_replicate, List.length_replicate, hd.length]
abbrev bP (K : PySem.W.Frag) (mg : Str → Option Value) (l : Lay) (TP : TPr) (own : List Nat) : Bc := ⟨⟨K, mg, l⟩, false, TP, own⟩
abbrev bS (K : PySem.W.Frag) (mg : Str → Option Value) (l : Lay) (TP : TPr) (own : List Nat) : Bc := ⟨⟨K, mg, l⟩, true, TP, own⟩
theorem okP {x qual : Str} {st : Stmt} {f : Addr} {fd : FuncData} {N ps : List Str} {k : Nat} (own : List Nat) {g : MS} {G : List D → RP} (F : Fun K x qual st f fd) (S : FnScope N ps (defScope st)) (hown : own.all (fun i => decide (ps.length ≤ i)) = true) (hle : ps.length ≤ N.length)
    (hbody : ∀ (cdv : Value) (A : Around) (outer : List PySem.Env) (s : Shared) (H : Hp) (E : XK) (l : Lay) (TP : TPr), Room k (A.deeper (envOfC qual (defScope st) s.heap.objs.size f cdv)) →
      PSs (cxOf (L2.CX P w) P w K mg base N qual (defScope st) f cdv A outer s H E) (defBody st) (tS (bP K mg l TP own) E g))
    (hG : ∀ ds : List D, ds.length = ps.length → endP (g (startE N.length ds) S0) = G ds) : FnOk P w K mg base (L2.CX P w) (k + 1) f fd ps (spP K mg ps.length G) := by
  refine F.okX S (fun vs H Q E h => h.1) fun cdv A outer s H vs Q E hr h => ?_
  obtain ⟨hl, l, Fz, O, T, ds, fit, hd, h⟩ := h
  refine ⟨_, hbody cdv A outer s H E l (exT T) hr, Fz, O, Fz, O, startE N.length ds, S0, pre_start (b := bP K mg l (exT T) own) ⟨T, rfl, fit⟩ (fun q => absurd q Bool.false_ne_true) hd (by rw [hl]; exact hle) (by rw [hl]; exact hown), ?_⟩
  rw [← hG ds (by rw [hd.length]; exact hl)] at h
  revert h
  cases hr : g (startE N.length ds) S0 with
  | ok p =>
    obtain ⟨a, S'⟩ := p
    cases a with
    | nx env' => exact fun h σ' F' O' H' P' => by obtain ⟨_, rfl, q⟩ := P'.fit; exact h _ F' H' P'.f0 (q.less P'.o0) rfl
    | rt d => exact fun h v F' O' H' e1 e2 fit' I' hv => by obtain ⟨_, rfl, q⟩ := fit'; exact h v F' H' e1 (q.less e2) hv
    | bk env' => exact fun h => False.elim h
    | ct env' => exact fun h => False.elim h
  | exc n f fs S' => exact fun h cls dd F' O' H' e1 e2 fit' I' hx => by obtain ⟨_, rfl, q⟩ := fit'; exact h cls dd F' H' e1 (q.less e2) hx
  | bad => exact fun h => False.elim h
theorem okS {x qual : Str} {st : Stmt} {f : Addr} {fd : FuncData} {N ps : List Str} {k : Nat} (own : List Nat) {g : MS} {G : List D → DS → Res (D × DS)} (F : Fun K x qual st f fd) (S : FnScope N ps (defScope st)) (hown : own.all (fun i => decide (ps.length ≤ i)) = true) (hle : ps.length ≤ N.length)
    (hbody : ∀ (cdv : Value) (A : Around) (outer : List PySem.Env) (s : Shared) (H : Hp) (E : XK) (l : Lay) (TP : TPr), Room k (A.deeper (envOfC qual (defScope st) s.heap.objs.size f cdv)) →
      PSs (cxOf (L2.CX P w) P w K mg base N qual (defScope st) f cdv A outer s H E) (defBody st) (tS (bS K mg l TP own) E g))
    (hG : ∀ (ds : List D) (S : DS), ds.length = ps.length → endS (g (startE N.length ds) S) = G ds S) : FnOk P w K mg base (L2.CX P w) (k + 1) f fd ps (spS K mg ps.length G) := by
  refine F.okX S (fun vs H Q E h => h.1) fun cdv A outer s H vs Q E hr h => ?_
  obtain ⟨hl, l, Fz, O, T0, ds, Sd, fit, hI, hd, h⟩ := h
  refine ⟨_, hbody cdv A outer s H E l (exT T0) hr, Fz, O, Fz, O, startE N.length ds, Sd, pre_start (b := bS K mg l (exT T0) own) ⟨T0, rfl, fit⟩ (fun _ => hI) hd (by rw [hl]; exact hle) (by rw [hl]; exact hown), ?_⟩
  rw [← hG ds Sd (by rw [hd.length]; exact hl)] at h
  revert h
  cases hr : g (startE N.length ds) Sd with
  | ok p =>
    obtain ⟨a, S'⟩ := p
    cases a with
    | nx env' => exact fun h σ' F' O' H' P' => by obtain ⟨_, rfl, q⟩ := P'.fit; exact h _ F' H' P'.f0 (q.less P'.o0) (P'.inv rfl) rfl
    | rt d => exact fun h v F' O' H' e1 e2 fit' I' hv => by obtain ⟨_, rfl, q⟩ := fit'; exact h v F' H' e1 (q.less e2) (I' rfl) hv
    | bk env' => exact fun h => False.elim h
    | ct env' => exact fun h => False.elim h
  | exc n f fs S' => exact fun h cls dd F' O' H' e1 e2 fit' I' hx => by obtain ⟨_, rfl, q⟩ := fit'; exact h cls dd F' H' e1 (q.less e2) (I' rfl) hx
  | bad => exact fun h => False.elim h
end
def callP (G : List D → RP) (defs : List D) (g : MA) : ME := fun env S => bindM (g env S) fun ds S1 => liftP (G (ds ++ defs)) S1
def callS (G : List D → DS → Res (D × DS)) (g : MA) : ME := fun env S => bindM (g env S) fun ds S1 => G ds S1
section
variable {X : Cx} {b : Bc} {E : XK} {e : Expr} {es : List Expr} {g : MA} {m : Nat}
theorem e_callP {G : List D → RP} {dvs : List V} (defs : List D) (hc : b.c.K = X.K ∧ b.c.mg = X.mg) (hd : ∀ F, Dens b.c F defs dvs) (hm : es.length + defs.length = m) (h : ∀ t, PA X es t → PE X e (tCall (spP X.K X.mg m G) dvs E t)) (ha : PA X es (tA b E g)) (hlen : ∀ env S ds S', g env S = .ok (ds, S') → ds.length = es.length) :
    PE X e (tE b E (callP G defs g)) := PE.imp (h _ ha) fun σ H Q ⟨F0, O0, F, O, env, S, P, h⟩ => ⟨F0, O0, F, O, env, S, P, by
  have hb := Post.bind h
  revert hb
  cases hr : g env S with
  | ok p =>
    obtain ⟨ds, S1⟩ := p
    have hl := hlen env S ds S1 hr
    intro hb F1 H1 s1 fit1 I1 vs hvs
    have k := hb F1 H1 s1 fit1 I1
    obtain ⟨⟨K, mg, l⟩, stf, TP, own⟩ := b
    obtain ⟨T0, tp, fit1⟩ := fit1
    obtain ⟨h1, h2⟩ := hc
    cases h1
    cases h2
    have hv2 := Dens.append hvs (hd F1)
    refine ⟨by rw [← hv2.length, List.length_append, hl]; exact hm, l, F1, O, _, ds ++ defs, fit1, hv2, ?_⟩
    revert k
    cases hG : G (ds ++ defs) with
    | ok d => exact fun k v F' H' s f dv => k F' H' s ⟨T0, TP.mono tp s, f⟩ (I1.mono s) v dv
    | exc n f fs => exact fun k cls dd F' H' s f x => k cls dd F' H' s ⟨T0, TP.mono tp s, f⟩ (I1.mono s) x
    | bad => exact fun k => False.elim k
  | exc n f fs S' => exact fun h => h
  | bad => exact fun h => h⟩
theorem e_callS {G : List D → DS → Res (D × DS)} (hc : b.c.K = X.K ∧ b.c.mg = X.mg) (hs : b.stf = true) (hm : es.length = m) (h : ∀ t, PA X es t → PE X e (tCall (spS X.K X.mg m G) [] E t)) (ha : PA X es (tA b E g)) (hlen : ∀ env S ds S', g env S = .ok (ds, S') → ds.length = es.length) :
    PE X e (tE b E (callS G g)) := PE.imp (h _ ha) fun σ H Q ⟨F0, O0, F, O, env, S, P, h⟩ => ⟨F0, O0, F, O, env, S, P, by
  have hb := Post.bind h
  revert hb
  cases hr : g env S with
  | ok p =>
    obtain ⟨ds, S1⟩ := p
    have hl := hlen env S ds S1 hr
    intro hb F1 H1 s1 fit1 I1 vs hvs
    have k := hb F1 H1 s1 fit1 I1
    obtain ⟨⟨K, mg, l⟩, stf, TP, own⟩ := b
    obtain ⟨T0, tp, fit1⟩ := fit1
    obtain ⟨h1, h2⟩ := hc
    cases h1
    cases h2
    cases hs
    refine ⟨by rw [List.append_nil, ← hvs.length, hl]; exact hm, l, F1, O, T0, ds, S1, fit1, I1 rfl, by rw [List.append_nil]; exact hvs, ?_⟩
    revert k
    cases hG : G ds S1 with
    | ok q => obtain ⟨d, S2⟩ := q; exact fun k v F' H' s f i dv => k F' H' s ⟨T0, TP.mono tp s, f⟩ (fun _ => i) v dv
    | exc n f fs S2 => exact fun k cls dd F' H' s f i x => k cls dd F' H' s ⟨T0, TP.mono tp s, f⟩ (fun _ => i) x
    | bad => exact fun k => False.elim k
  | exc n f fs S' => exact fun h => h
  | bad => exact fun h => h⟩
theorem len_nil : ∀ (env : Env) S ds S', nilA env S = .ok (ds, S') → ds.length = ([] : List Expr).length := fun _ _ _ _ h => by cases h; rfl
theorem len_cons {e : Expr} {f : ME} (h : ∀ (env : Env) S ds S', g env S = .ok (ds, S') → ds.length = es.length) : ∀ (env : Env) S ds S', consA f g env S = .ok (ds, S') → ds.length = (e :: es).length := fun env S ds S' q => by
  unfold consA at q
  cases h1 : f env S with
  | ok p =>
    obtain ⟨d, S1⟩ := p
    rw [h1] at q
    cases h2 : g env S1 with
    | ok p =>
      obtain ⟨ds', S2⟩ := p
      simp only [bindM, h2] at q
      cases q
      simp [h env S1 ds' _ h2]
    | exc _ _ _ _ => simp only [bindM, h2] at q; cases q
    | bad => simp only [bindM, h2] at q; cases q
  | exc _ _ _ _ => rw [h1] at q; cases q
  | bad => rw [h1] at q; cases q
def raiseS (n : Str) : MS := fun _ S => .exc n "" [] S
theorem s_raise {n : Str} {C : Addr} {st : Stmt} (hmg : b.c.mg n = some (.ref C)) (h : PS X st (fun _ σ H => E (.ref C) none H)) : PS X st (tS b E (raiseS n)) := PS.imp h fun Dn σ H ⟨F0, O0, F, O, env, S, P, h⟩ =>
  h (.ref C) none F O H P.f0 P.o0 P.fit P.inv ⟨C, [], hmg, rfl, rfl, rfl⟩
end
end VS
namespace VS
open PySem PySem.Spec PyProof.Rows L2
section
variable {c : Dc}
def gII (k : Int → Int → D) : D → D → Option D
  | .int i, .int j => some (k i j)
  | _, _ => none
def gIC (C : Int → Int → Bool) (k : Int → Int → D) : D → D → Option D
  | .int i, .int j => if C i j = true then some (k i j) else none
  | _, _ => none
theorem rb_I0 {h : Int → Int → V} {k : Int → Int → D} (hk : ∀ i j F, Den c F (k i j) (h i j)) : RuleB c (rI0 h) (gII k) := by
  intro F O T H d e v u d' Q fit hv hu g q
  cases d <;> cases e <;> simp only [gII, reduceCtorEq, Option.some.injEq] at g
  rename_i i j
  subst g
  exact ⟨i, j, hv, hu, q _ F H (Same.refl _) fit (hk i j F)⟩
theorem rb_IC {Cp : Int → Int → Prop} {Cb : Int → Int → Bool} {h : Int → Int → V} {k : Int → Int → D} (hC : ∀ i j, Cb i j = true → Cp i j) (hk : ∀ i j F, Den c F (k i j) (h i j)) : RuleB c (rI Cp h) (gIC Cb k) := by
  intro F O T H d e v u d' Q fit hv hu g q
  cases d <;> cases e <;> simp only [gIC, reduceCtorEq] at g
  rename_i i j
  by_cases hc : Cb i j = true
  · rw [if_pos hc] at g
    cases g
    exact ⟨i, j, hv, hu, hC i j hc, q _ F H (Same.refl _) fit (hk i j F)⟩
  · rw [if_neg hc] at g
    cases g
abbrev gSub := gII fun i j => .int (i - j)
abbrev gLt := gII fun i j => .bl (decide (i < j))
abbrev gLe := gII fun i j => .bl (decide (i ≤ j))
abbrev gGt := gII fun i j => .bl (decide (j < i))
abbrev gGe := gII fun i j => .bl (decide (j ≤ i))
abbrev gMod := gIC (fun _ j => decide (0 < j)) fun i j => .int (i % j)
abbrev gPow := gIC (fun i j => decide (0 ≤ j ∧ j ≤ 1000000 ∧ i.natAbs < 2 ^ 64)) fun i j => .int (i ^ j.toNat)
theorem r_sub : RuleB c (rI0 fun i j => .int (i - j)) gSub := rb_I0 fun _ _ _ => rfl
theorem r_lt : RuleB c (rI0 fun i j => .bl (decide (i < j))) gLt := rb_I0 fun _ _ _ => rfl
theorem r_le : RuleB c (rI0 fun i j => .bl (decide (i ≤ j))) gLe := rb_I0 fun _ _ _ => rfl
theorem r_gt : RuleB c (rI0 fun i j => .bl (decide (j < i))) gGt := rb_I0 fun _ _ _ => rfl
theorem r_ge : RuleB c (rI0 fun i j => .bl (decide (j ≤ i))) gGe := rb_I0 fun _ _ _ => rfl
theorem r_mod : RuleB c (rI (fun _ j => 0 < j) fun i j => .int (i % j)) gMod := rb_IC (fun _ _ h => of_decide_eq_true h) fun _ _ _ => rfl
theorem r_pow : RuleB c (rI CPow fun i j => .int (i ^ j.toNat)) gPow := rb_IC (fun i j h => (of_decide_eq_true h : 0 ≤ j ∧ j ≤ 1000000 ∧ i.natAbs < 2 ^ 64)) fun _ _ _ => rfl
def gNeg : D → Option D
  | .int i => some (.int (-i))
  | _ => none
theorem r_neg : RuleU c (rU fun i => .int (-i)) gNeg := by
  intro F O T H d v d' Q fit hv g q
  cases d <;> simp only [gNeg, reduceCtorEq, Option.some.injEq] at g
  rename_i i
  subst g
  exact ⟨i, hv, q _ F H (Same.refl _) fit rfl⟩
def rAddA (K : PySem.W.Frag) : R2 := fun x y H Q => rI0 (fun i j => .int (i + j)) x y H Q ∨ rCatA K x y H Q ∨ rCat x y H Q ∨ ∃ i j, x = .str i ∧ y = .str j ∧ i.length + j.length ≤ sizeLine ∧ Q (.str (i ++ j)) H
theorem op_addA {X : Cx} : OpR X (binaryOp .Add) (rAddA X.K) := op_add.or (op_catA.or (op_cat.or op_add_str))
def gAdd : D → D → Option D
  | .int i, .int j => some (.int (i + j))
  | .tup a, .tup b => if a.length + b.length ≤ 1000000 then some (.tup (a ++ b)) else none
  | .lst a, .lst b => if a.length + b.length ≤ 1000000 then some (.lst (a ++ b)) else none
  | .str i, .str j => if i.length + j.length ≤ 1000000 then some (.str (i ++ j)) else none
  | _, _ => none
theorem lenTo {F : Hp} {ds : List D} {vs : List V} (h : Dens c F ds vs) : vs.length = ds.length := h.length.symm
theorem r_add : RuleB c (rAddA c.K) gAdd := by
  intro F O T H d e v u d' Q fit hv hu g q
  cases d <;> cases e <;> simp only [gAdd, reduceCtorEq, Option.some.injEq] at g
  · rename_i i j
    subst g
    exact .inl ⟨i, j, hv, hu, q _ F H (Same.refl _) fit rfl⟩
  · rename_i i j
    split at g <;> cases g
    rename_i hz
    exact .inr (.inr (.inr ⟨i, j, hv, hu, Nat.le_trans hz million, q _ F H (Same.refl _) fit rfl⟩))
  · rename_i a b
    split at g <;> cases g
    rename_i hz
    obtain ⟨p, xs, rfl, h1, z1, h2⟩ := hv
    obtain ⟨p', ys, rfl, h1', z1', h2'⟩ := hu
    refine .inr (.inl ⟨p, p', xs, ys, rfl, rfl, sqT_mono fit.f h1, sqT_mono fit.f h1', by rw [lenTo h2, lenTo h2']; exact Nat.le_trans hz million, fun hx => ?_, fun hx hy => ?_, fun hx hy r hr => ?_⟩)
    · subst hx
      have : a = [] := List.eq_nil_of_length_eq_zero (by rw [h2.length]; rfl)
      subst this
      exact q _ F H (Same.refl _) fit ⟨p', ys, rfl, h1', z1', h2'⟩
    · subst hy
      have : b = [] := List.eq_nil_of_length_eq_zero (by rw [h2'.length]; rfl)
      subst this
      exact q _ F H (Same.refl _) fit ⟨p, xs, rfl, h1, by rw [List.append_nil]; exact z1, by rw [List.append_nil]; exact h2⟩
    · have nF := upd_none fit.f hr
      exact q _ (upd F r _) _ (same_upd nF) (fit.new hr) ⟨r, _, rfl, SqT.of upd_same, by rw [List.length_append]; exact Nat.le_trans hz million, Dens.mono (same_upd nF) _ _ (h2.append h2')⟩
  · rename_i a b
    split at g <;> cases g
    rename_i hz
    obtain ⟨p, xs, rfl, h1, z1, h2⟩ := hv
    obtain ⟨p', ys, rfl, h1', z1', h2'⟩ := hu
    refine .inr (.inr (.inl ⟨p, p', xs, ys, rfl, rfl, h1.elim (fit.f _ _) (fit.o _ _), h1'.elim (fit.f _ _) (fit.o _ _), by rw [lenTo h2, lenTo h2']; exact Nat.le_trans hz million, fun r hr => ?_⟩))
    have nF := upd_none fit.f hr
    exact q _ (upd F r _) _ (same_upd nF) (fit.new hr) ⟨r, _, rfl, upd_same, by rw [List.length_append]; exact Nat.le_trans hz million, Dens.mono (same_upd nF) _ _ (h2.append h2')⟩
def gMul : D → D → Option D
  | .int i, .int j => if (-(2 ^ 64) < i ∧ i < 2 ^ 64) ∨ (-(2 ^ 64) < j ∧ j < 2 ^ 64) then some (.int (i * j)) else none
  | .lst a, .int k => if a.length * k.toNat ≤ 1000000 ∧ k < 1000000 ∧ -1000000 < k then some (.lst (List.replicate k.toNat a).flatten) else none
  | _, _ => none
def rMulA : R2 := fun x y H Q => rI CMul (fun i j => .int (i * j)) x y H Q ∨ rRep x y H Q
theorem op_mulA {X : Cx} : OpR X (binaryOp .Mult) rMulA := op_mul.or op_rep
theorem Dens.rep {F : Hp} {ds : List D} {vs : List V} (h : Dens c F ds vs) : ∀ k : Nat, Dens c F (List.replicate k ds).flatten (List.replicate k vs).flatten
  | 0 => rfl
  | k + 1 => by
    rw [List.replicate_succ, List.replicate_succ, List.flatten_cons, List.flatten_cons]
    exact h.append (Dens.rep h k)
theorem len_rep {α : Type} (l : List α) : ∀ k : Nat, (List.replicate k l).flatten.length = l.length * k
  | 0 => rfl
  | k + 1 => by rw [List.replicate_succ, List.flatten_cons, List.length_append, len_rep l k, Nat.mul_succ, Nat.add_comm]
theorem r_mul : RuleB c rMulA gMul := by
  intro F O T H d e v u d' Q fit hv hu g q
  cases d <;> cases e <;> simp only [gMul, reduceCtorEq] at g
  · rename_i i j
    split at g <;> cases g
    rename_i hz
    exact .inl ⟨i, j, hv, hu, hz, q _ F H (Same.refl _) fit rfl⟩
  · rename_i a k
    split at g <;> cases g
    rename_i hz
    obtain ⟨p, xs, rfl, h1, z1, h2⟩ := hv
    refine .inr ⟨p, k, xs, rfl, hu, h1.elim (fit.f _ _) (fit.o _ _), by omega, by omega, by rw [lenTo h2]; exact Nat.le_trans hz.1 million, fun r hr => ?_⟩
    have nF := upd_none fit.f hr
    exact q _ (upd F r _) _ (same_upd nF) (fit.new hr) ⟨r, _, rfl, upd_same, by rw [len_rep]; exact Nat.le_trans hz.1 million, Dens.mono (same_upd nF) _ _ (h2.rep _)⟩
mutual
def toPy : D → Option PyData
  | .non => some .none
  | .bl b => some (.bool b)
  | .int i => some (.int i)
  | .str x => some (.str x)
  | .tup ds => (toPyL ds).map .tuple
  | .lst ds => (toPyL ds).map .list
  | _ => none
def toPyL : List D → Option (List PyData)
  | [] => some []
  | d :: ds => match toPy d, toPyL ds with
    | some p, some ps => some (p :: ps)
    | _, _ => none
end
theorem SqL_of {K : PySem.W.Frag} {H : Hp} {a : Addr} {xs : List V} (h : H a = some (.lst xs)) : SqL K H a xs := .inl (.inl h)
mutual
theorem dp_of {F H : Hp} (s : Same F H) : ∀ (d : D) (v : V) (p : PyData), Den c F d v → toPy d = some p → Dp c.K H v p
  | .non, _, _, h, e => by cases e; simp only [Den] at h; subst h; exact .non
  | .bl _, _, _, h, e => by cases e; simp only [Den] at h; subst h; exact .bl _
  | .int _, _, _, h, e => by cases e; simp only [Den] at h; subst h; exact .int _
  | .str _, _, _, h, e => by cases e; simp only [Den] at h; subst h; exact .str _
  | .tup ds, _, _, h, e => by
    simp only [toPy, Option.map_eq_some_iff] at e
    obtain ⟨ps, e1, rfl⟩ := e
    simp only [Den] at h
    obtain ⟨a, vs, rfl, h1, _, h2⟩ := h
    exact .tup (sqT_mono s h1) (dpL_of s ds vs ps h2 e1)
  | .lst ds, _, _, h, e => by
    simp only [toPy, Option.map_eq_some_iff] at e
    obtain ⟨ps, e1, rfl⟩ := e
    simp only [Den] at h
    obtain ⟨a, vs, rfl, h1, _, h2⟩ := h
    exact .lst (SqL_of (s _ _ h1)) (dpL_of s ds vs ps h2 e1)
  | .dct _ _, _, _, _, e => by simp [toPy] at e
  | .exc _ _ _, _, _, _, e => by simp [toPy] at e
  | .cls _, _, _, _, e => by simp [toPy] at e
  | .st, _, _, _, e => by simp [toPy] at e
  | .opq _, _, _, _, e => by simp [toPy] at e
  | .odk _, _, _, _, e => by simp [toPy] at e
  | .dcT _ _, _, _, _, e => by simp [toPy] at e
  | .ins _ _ _, _, _, _, e => by simp [toPy] at e
  | .scr _, _, _, _, e => by simp [toPy] at e
theorem dpL_of {F H : Hp} (s : Same F H) : ∀ (ds : List D) (vs : List V) (ps : List PyData), Dens c F ds vs → toPyL ds = some ps → DpAll c.K H vs ps
  | [], _, _, h, e => by simp only [toPyL] at e; cases e; simp only [Dens] at h; subst h; exact .nil
  | d :: ds, _, _, h, e => by
    simp only [Dens] at h
    obtain ⟨v, r, rfl, h1, h2⟩ := h
    simp only [toPyL] at e
    split at e
    · rename_i p ps e1 e2
      cases e
      exact .cons (dp_of s d v p h1 e1) (dpL_of s ds r ps h2 e2)
    · cases e
end
theorem dpB_of {F O T H : Hp} (fit : Fits F O T H) {d : D} {v : V} {p : PyData} (h : DenB c F O d v) (e : toPy d = some p) : Dp c.K H v p := by
  cases d with
  | lst ds =>
    simp only [toPy, Option.map_eq_some_iff] at e
    obtain ⟨ps, e1, rfl⟩ := e
    obtain ⟨a, vs, rfl, h1, _, h2⟩ := h
    exact .lst (SqL_of (h1.elim (fit.f _ _) (fit.o _ _))) (dpL_of fit.f ds vs ps h2 e1)
  | dct ks ds => simp [toPy] at e
  | _ => exact dp_of fit.f _ _ _ h e
def eqD0 (d e : D) : Option Bool := match toPy d, toPy e with
  | some p, some q => if (SeqAt.shaped p && SeqAt.shaped q) = true then some (PyData.eqv p q) else none
  | _, _ => none
def eqS : D → D → Option Bool
  | .str x, .str y => some (x == y)
  | .str _, .int _ => some false
  | .int _, .str _ => some false
  | .str _, .bl _ => some false
  | .bl _, .str _ => some false
  | .str _, .non => some false
  | .non, .str _ => some false
  | _, _ => none
def eqD (d e : D) : Option Bool := match eqS d e with
  | some k => some k
  | none => eqD0 d e
def gEq (d e : D) : Option D := (eqD d e).map .bl
def gNe (d e : D) : Option D := (eqD d e).map fun k => .bl (!k)
theorem eqD_some {d e : D} {k : Bool} (h : eqD0 d e = some k) : ∃ p q, toPy d = some p ∧ toPy e = some q ∧ SeqAt.shaped p = true ∧ SeqAt.shaped q = true ∧ PyData.eqv p q = k := by
  unfold eqD0 at h
  split at h
  · rename_i p q e1 e2
    split at h <;> cases h
    rename_i hs
    rw [Bool.and_eq_true] at hs
    exact ⟨p, q, e1, e2, hs.1, hs.2, rfl⟩
  · cases h
theorem eqS_den {F O : Hp} {d e : D} {v u : V} {k : Bool} (hv : DenB c F O d v) (hu : DenB c F O e u) (h : eqS d e = some k) : scal v u = true ∧ decide (v = u) = k := by
  cases d <;> cases e <;> simp only [eqS, reduceCtorEq, Option.some.injEq] at h <;> subst h
  all_goals (have hv' := hv; have hu' := hu; simp only [DenB, Den] at hv' hu'; subst hv' hu')
  all_goals first
    | exact ⟨rfl, dec_str⟩
    | exact ⟨rfl, decide_eq_false (by intro z; cases z)⟩
abbrev rEqX (K : PySem.W.Frag) : R2 := fun x y H Q => rEqD K x y H Q ∨ rEq x y H Q
abbrev rNeX (K : PySem.W.Frag) : R2 := fun x y H Q => rNeD K x y H Q ∨ rNe x y H Q
theorem op_eqX {X : Cx} (hu : X.A.units + 64 < cLine) : OpR X (compareOp .Eq) (rEqX X.K) := (op_eqD hu).or op_eq
theorem op_neX {X : Cx} (hu : X.A.units + 64 < cLine) : OpR X (compareOp .NotEq) (rNeX X.K) := (op_neD hu).or op_ne
theorem r_eq : RuleB c (rEqX c.K) gEq := by
  intro F O T H d e v u d' Q fit hv hu g q
  simp only [gEq, Option.map_eq_some_iff] at g
  obtain ⟨k, e1, rfl⟩ := g
  cases hs : eqS d e with
  | some k' =>
    have : k' = k := by simp only [eqD, hs, Option.some.injEq] at e1; exact e1
    subst this
    obtain ⟨h1, h2⟩ := eqS_den hv hu hs
    exact .inr ⟨h1, by rw [h2]; exact q _ F H (Same.refl _) fit rfl⟩
  | none =>
    have e1 : eqD0 d e = some k := by simp only [eqD, hs] at e1; exact e1
    obtain ⟨p, p', h1, h2, h3, h4, rfl⟩ := eqD_some e1
    exact .inl ⟨p, p', dpB_of fit hv h1, dpB_of fit hu h2, h3, h4, q _ F H (Same.refl _) fit rfl⟩
theorem r_ne : RuleB c (rNeX c.K) gNe := by
  intro F O T H d e v u d' Q fit hv hu g q
  simp only [gNe, Option.map_eq_some_iff] at g
  obtain ⟨k, e1, rfl⟩ := g
  cases hs : eqS d e with
  | some k' =>
    have : k' = k := by simp only [eqD, hs, Option.some.injEq] at e1; exact e1
    subst this
    obtain ⟨h1, h2⟩ := eqS_den hv hu hs
    exact .inr ⟨h1, by rw [h2]; exact q _ F H (Same.refl _) fit rfl⟩
  | none =>
    have e1 : eqD0 d e = some k := by simp only [eqD, hs] at e1; exact e1
    obtain ⟨p, p', h1, h2, h3, h4, rfl⟩ := eqD_some e1
    exact .inl ⟨p, p', dpB_of fit hv h1, dpB_of fit hu h2, h3, h4, q _ F H (Same.refl _) fit rfl⟩
theorem paired1 {R : D → V → Prop} {d : D} {ds : List D} {vs : List V} (h : Paired R (d :: ds) vs) : ∃ v r, vs = v :: r ∧ R d v ∧ Paired R ds r := by
  cases h with
  | cons a b => exact ⟨_, _, rfl, a, b⟩
theorem paired0 {R : D → V → Prop} {vs : List V} (h : Paired R [] vs) : vs = [] := by cases h; rfl
def gLen : List D → Option D
  | [.lst xs] => some (.int xs.length)
  | [.tup xs] => some (.int xs.length)
  | [.str x] => if x.length ≤ 1000000 then some (.int x.length) else none
  | [.scr ns] => some (.int ns.length)
  | _ => none
theorem r_len : RuleN c (fun xs H Q => ∃ x n, xs = [x] ∧ LenV c.K x H n ∧ Q (.int n) H) gLen := by
  intro F O T H ds vs d' Q fit hv g q
  match ds, g with
  | [.lst xs], g =>
    cases g
    obtain ⟨v, r, rfl, ⟨a, us, rfl, h1, z, h2⟩, h⟩ := paired1 hv
    cases paired0 h
    exact ⟨_, _, rfl, .inl ⟨us, SqL_of (h1.elim (fit.f _ _) (fit.o _ _)), rfl⟩, q _ F H (Same.refl _) fit (by simp [Den, h2.length])⟩
  | [.tup xs], g =>
    cases g
    obtain ⟨v, r, rfl, ⟨a, us, rfl, h1, z, h2⟩, h⟩ := paired1 hv
    cases paired0 h
    exact ⟨_, _, rfl, .inr ⟨us, sqT_mono fit.f h1, rfl⟩, q _ F H (Same.refl _) fit (by simp [Den, h2.length])⟩
  | [.str x], g =>
    simp only [gLen] at g
    split at g <;> cases g
    rename_i hz
    obtain ⟨v, r, rfl, rfl, h⟩ := paired1 hv
    cases paired0 h
    exact ⟨_, _, rfl, ⟨Nat.le_trans hz million, rfl⟩, q _ F H (Same.refl _) fit rfl⟩
  | [.scr ns], g =>
    cases g
    obtain ⟨v, r, rfl, ⟨a, rfl, h1⟩, h⟩ := paired1 hv
    cases paired0 h
    exact ⟨_, _, rfl, .inl ⟨_, fit.f.seq h1, rfl⟩, q _ F H (Same.refl _) fit (by simp [Den])⟩
def gAbs : List D → Option D
  | [.int i] => some (.int (if i < 0 then -i else i))
  | _ => none
theorem r_abs : RuleN c (fun xs H Q => ∃ i, xs = [.int i] ∧ Q (.int (if i < 0 then -i else i)) H) gAbs := by
  intro F O T H ds vs d' Q fit hv g q
  match ds, g with
  | [.int i], g =>
    cases g
    obtain ⟨v, r, rfl, rfl, h⟩ := paired1 hv
    cases paired0 h
    exact ⟨i, rfl, q _ F H (Same.refl _) fit rfl⟩
def gInt : List D → Option D
  | [.int i] => some (.int i)
  | [.bl k] => some (.int (if k then 1 else 0))
  | _ => none
theorem r_int : RuleN c (fun xs H Q => (∃ i, xs = [.int i] ∧ Q (.int i) H) ∨ ∃ k, xs = [.bl k] ∧ Q (.int (if k then 1 else 0)) H) gInt := by
  intro F O T H ds vs d' Q fit hv g q
  match ds, g with
  | [.int i], g =>
    cases g
    obtain ⟨v, r, rfl, rfl, h⟩ := paired1 hv
    cases paired0 h
    exact .inl ⟨i, rfl, q _ F H (Same.refl _) fit rfl⟩
  | [.bl i], g =>
    cases g
    obtain ⟨v, r, rfl, rfl, h⟩ := paired1 hv
    cases paired0 h
    exact .inr ⟨i, rfl, q _ F H (Same.refl _) fit rfl⟩
def g2I (k : Int → Int → Int) : List D → Option D
  | [.int i, .int j] => some (.int (k i j))
  | _ => none
abbrev gMax := g2I fun i j => if j > i then j else i
abbrev gMin := g2I fun i j => if j < i then j else i
theorem r_2I {k : Int → Int → Int} : RuleN c (fun xs H Q => ∃ i j, xs = [.int i, .int j] ∧ Q (.int (k i j)) H) (g2I k) := by
  intro F O T H ds vs d' Q fit hv g q
  match ds, g with
  | [.int i, .int j], g =>
    cases g
    obtain ⟨v, r, rfl, rfl, h⟩ := paired1 hv
    obtain ⟨v2, r2, e2, e3, h3⟩ := paired1 h
    cases paired0 h3
    subst e2
    cases e3
    exact ⟨i, j, rfl, q _ F H (Same.refl _) fit rfl⟩
def toInts : List D → Option (List Int)
  | [] => some []
  | .int i :: r => (toInts r).map (i :: ·)
  | _ :: _ => none
theorem toInts_map : ∀ {ds : List D} {ns : List Int}, toInts ds = some ns → ds = ns.map D.int
  | [], ns, h => by cases h; rfl
  | .int i :: r, ns, h => by
    simp only [toInts, Option.map_eq_some_iff] at h
    obtain ⟨ms, h1, rfl⟩ := h
    rw [toInts_map h1] <;> rfl
  | .non :: _, _, h => by simp [toInts] at h
  | .bl _ :: _, _, h => by simp [toInts] at h
  | .str _ :: _, _, h => by simp [toInts] at h
  | .tup _ :: _, _, h => by simp [toInts] at h
  | .lst _ :: _, _, h => by simp [toInts] at h
  | .dct _ _ :: _, _, h => by simp [toInts] at h
  | .exc _ _ _ :: _, _, h => by simp [toInts] at h
  | .cls _ :: _, _, h => by simp [toInts] at h
  | .st :: _, _, h => by simp [toInts] at h
  | .opq _ :: _, _, h => by simp [toInts] at h
  | .odk _ :: _, _, h => by simp [toInts] at h
  | .dcT _ _ :: _, _, h => by simp [toInts] at h
  | .ins _ _ _ :: _, _, h => by simp [toInts] at h
  | .scr _ :: _, _, h => by simp [toInts] at h
def gSum : List D → Option D
  | [.lst xs] => (toInts xs).map fun ns => .int ns.sum
  | _ => none
theorem r_sum : RuleN c (rSum c.K) gSum := by
  intro F O T H ds vs d' Q fit hv g q
  match ds, g with
  | [.lst xs], g =>
    simp only [gSum, Option.map_eq_some_iff] at g
    obtain ⟨ns, h0, rfl⟩ := g
    obtain ⟨v, r, rfl, ⟨a, us, rfl, h1, z, h2⟩, h⟩ := paired1 hv
    cases paired0 h
    rw [toInts_map h0] at h2
    cases h2.ints
    exact ⟨a, ns, rfl, SqL_of (h1.elim (fit.f _ _) (fit.o _ _)), q _ F H (Same.refl _) fit rfl⟩
def toBls : List D → Option (List Bool)
  | [] => some []
  | .bl i :: r => (toBls r).map (i :: ·)
  | _ :: _ => none
theorem toBls_map : ∀ {ds : List D} {ns : List Bool}, toBls ds = some ns → ds = ns.map D.bl
  | [], ns, h => by cases h; rfl
  | .bl i :: r, ns, h => by
    simp only [toBls, Option.map_eq_some_iff] at h
    obtain ⟨ms, h1, rfl⟩ := h
    rw [toBls_map h1] <;> rfl
  | .non :: _, _, h => by simp [toBls] at h
  | .int _ :: _, _, h => by simp [toBls] at h
  | .str _ :: _, _, h => by simp [toBls] at h
  | .tup _ :: _, _, h => by simp [toBls] at h
  | .lst _ :: _, _, h => by simp [toBls] at h
  | .dct _ _ :: _, _, h => by simp [toBls] at h
  | .exc _ _ _ :: _, _, h => by simp [toBls] at h
  | .cls _ :: _, _, h => by simp [toBls] at h
  | .st :: _, _, h => by simp [toBls] at h
  | .opq _ :: _, _, h => by simp [toBls] at h
  | .odk _ :: _, _, h => by simp [toBls] at h
  | .dcT _ _ :: _, _, h => by simp [toBls] at h
  | .ins _ _ _ :: _, _, h => by simp [toBls] at h
  | .scr _ :: _, _, h => by simp [toBls] at h
def gAll : List D → Option D
  | [.lst xs] => (toBls xs).map fun ns => .bl (ns.all id)
  | _ => none
theorem r_all : RuleN c (rAll c.K) gAll := by
  intro F O T H ds vs d' Q fit hv g q
  match ds, g with
  | [.lst xs], g =>
    simp only [gAll, Option.map_eq_some_iff] at g
    obtain ⟨ns, h0, rfl⟩ := g
    obtain ⟨v, r, rfl, ⟨a, us, rfl, h1, z, h2⟩, h⟩ := paired1 hv
    cases paired0 h
    rw [toBls_map h0] at h2
    cases h2.bls
    exact ⟨a, ns, rfl, SqL_of (h1.elim (fit.f _ _) (fit.o _ _)), q _ F H (Same.refl _) fit rfl⟩
def gTuple : List D → Option D
  | [.lst xs] => some (.tup xs)
  | [.tup xs] => some (.tup xs)
  | _ => none
theorem r_tuple : RuleN c (fun xs H Q => ∃ p ys, xs = [.ref p] ∧ ((SqL c.K H p ys ∧ ∀ l, H l = none → Q (.ref l) (upd H l (.tup ys))) ∨ (SqT c.K H p ys ∧ Q (.ref p) H))) gTuple := by
  intro F O T H ds vs d' Q fit hv g q
  match ds, g with
  | [.lst xs], g =>
    cases g
    obtain ⟨v, r, rfl, ⟨a, us, rfl, h1, z, h2⟩, h⟩ := paired1 hv
    cases paired0 h
    refine ⟨a, us, rfl, .inl ⟨SqL_of (h1.elim (fit.f _ _) (fit.o _ _)), fun r hr => ?_⟩⟩
    have nF := upd_none fit.f hr
    exact q _ (upd F r _) _ (same_upd nF) (fit.new hr) ⟨r, _, rfl, SqT.of upd_same, z, Dens.mono (same_upd nF) _ _ h2⟩
  | [.tup xs], g =>
    cases g
    obtain ⟨v, r, rfl, ⟨a, us, rfl, h1, z, h2⟩, h⟩ := paired1 hv
    cases paired0 h
    exact ⟨a, us, rfl, .inr ⟨sqT_mono fit.f h1, q _ F H (Same.refl _) fit ⟨a, us, rfl, h1, z, h2⟩⟩⟩
def gList : List D → Option D
  | [.lst xs] => some (.lst xs)
  | [.tup xs] => some (.lst xs)
  | _ => none
theorem r_list : RuleNN c (fun xs H Q => ∃ p ys, xs = [.ref p] ∧ (SqL c.K H p ys ∨ SqT c.K H p ys) ∧ ∀ l, H l = none → Q (.ref l) (upd H l (.lst ys))) gList := by
  intro F O T H ds vs d' Q fit hv g q
  match ds, g with
  | [.lst xs], g =>
    cases g
    obtain ⟨v, r, rfl, ⟨a, us, rfl, h1, z, h2⟩, h⟩ := paired1 hv
    cases paired0 h
    exact ⟨a, us, rfl, .inl (SqL_of (h1.elim (fit.f _ _) (fit.o _ _))), fun r hr => q F H r (.lst us) (Same.refl _) fit hr ⟨us, rfl, z, h2⟩⟩
  | [.tup xs], g =>
    cases g
    obtain ⟨v, r, rfl, ⟨a, us, rfl, h1, z, h2⟩, h⟩ := paired1 hv
    cases paired0 h
    exact ⟨a, us, rfl, .inr (sqT_mono fit.f h1), fun r hr => q F H r (.lst us) (Same.refl _) fit hr ⟨us, rfl, z, h2⟩⟩
def gIx : D → D → Option D
  | .lst xs, .int i => atI xs i
  | .tup xs, .int i => atI xs i
  | _, _ => none
theorem Dens.atI {F : Hp} {ds : List D} {vs : List V} {i : Int} {d : D} (h : Dens c F ds vs) (e : L2.atI ds i = some d) : ∃ v, L2.atI vs i = some v ∧ Den c F d v := by
  unfold L2.atI at e ⊢
  rw [← h.length]
  cases hi : ixN ds.length i with
  | none => rw [hi] at e; cases e
  | some j =>
    rw [hi] at e
    exact Dens.get' h e
theorem r_ix : RuleB c (rIx c.K) gIx := by
  intro F O T H d e v u d' Q fit hv hu g q
  cases d <;> cases e <;> simp only [gIx, reduceCtorEq] at g
  · rename_i xs i
    obtain ⟨a, us, rfl, h1, z, h2⟩ := hv
    obtain ⟨w, e1, e2⟩ := h2.atI g
    exact .inr (.inl ⟨a, us, i, w, rfl, hu, sqT_mono fit.f h1, e1, q _ F H (Same.refl _) fit e2⟩)
  · rename_i xs i
    obtain ⟨a, us, rfl, h1, z, h2⟩ := hv
    obtain ⟨w, e1, e2⟩ := h2.atI g
    exact .inl ⟨a, us, i, w, rfl, hu, SqL_of (h1.elim (fit.f _ _) (fit.o _ _)), e1, q _ F H (Same.refl _) fit e2⟩
end
end VS
namespace VS
open PySem PySem.Spec PyProof.Rows L2
def setN (i : Nat) : Env → D → Option Env := fun env d => some (env.set i (some d))
def setT (is : List Nat) : Env → D → Option Env := fun env d => match d with
  | .tup ds => if ds.length = is.length then some (setAll env is ds) else none
  | _ => none
structure Tgt (b : Bc) (K : PySem.W.Frag) (g : TG) (set : Env → D → Option Env) (js : List Nat) : Prop where
  run : ∀ F0 O0 F O H σ env S d v env' (Q : L2.St → Hp → Prop), Pre b F0 O0 F O H σ env S → Den b.c F d v → set env d = some env' → (∀ σ', Pre b F0 O0 F O H σ' env' S → (∀ k, k ∉ js → σ'[k]? = σ[k]?) → σ'.length = σ.length → Q σ' H) → g v σ H Q
section
variable {b : Bc}
theorem tg_name {K : PySem.W.Frag} (i : Nat) (ho : b.own.contains i = false) : Tgt b K (gName i) (setN i) [i] := ⟨fun F0 O0 F O H σ env S d v env' Q P hv e k => by
  cases e
  exact k _ (P.set (by simpa using ho) hv) (fun j hj => set_ne' (by simpa using hj)) (by simp)⟩
theorem names_set2 {F0 O0 F O H : Hp} {S : DS} {Q : L2.St → Hp → Prop} : ∀ (is : List Nat) (ds : List D) (vs : List V) (σ : L2.St) (env : Env), is.all (fun i => !b.own.contains i) = true → ds.length = is.length → Dens b.c F ds vs → Pre b F0 O0 F O H σ env S →
    (∀ σ', Pre b F0 O0 F O H σ' (setAll env is ds) S → (∀ k, k ∉ is → σ'[k]? = σ[k]?) → σ'.length = σ.length → Q σ' H) → gNames is vs σ H Q
  | [], [], vs, σ, env, _, _, hd, P, k => by simp only [Dens] at hd; subst hd; exact ⟨rfl, k σ P (fun _ _ => rfl) rfl⟩
  | i :: is, d :: ds, vs, σ, env, ho, hl, hd, P, k => by
    simp only [Dens] at hd
    obtain ⟨v, r, rfl, h1, h2⟩ := hd
    simp only [List.all_cons, Bool.and_eq_true] at ho
    refine ⟨v, r, rfl, names_set2 is ds r _ _ ho.2 (by simpa using hl) h2 (P.set (by simpa using ho.1) h1) fun σ' P' q ql => k σ' P' (fun j hj => ?_) (by rw [ql]; simp)⟩
    simp only [List.mem_cons, not_or] at hj
    rw [q j hj.2, set_ne' hj.1]
  | [], _ :: _, _, _, _, _, hl, _, _, _ => by simp at hl
  | _ :: _, [], _, _, _, _, hl, _, _, _ => by simp at hl
theorem tg_tup {K : PySem.W.Frag} (is : List Nat) (hK : b.c.K = K) (ho : is.all (fun i => !b.own.contains i) = true) : Tgt b K (gTup K is.length (gNames is)) (setT is) is := ⟨fun F0 O0 F O H σ env S d v env' Q P hv e k => by
  cases d with
  | tup ds =>
    simp only [setT] at e
    split at e <;> cases e
    rename_i hl
    simp only [Den] at hv
    obtain ⟨a, vs, rfl, hs, hz, hd⟩ := hv
    rw [hK] at hs
    exact ⟨a, vs, rfl, sqT_mono P.fit.f hs, by rw [← hd.length]; exact hl, names_set2 is ds vs σ env ho hl hd P k⟩
  | _ => simp [setT] at e⟩
end
def loopS (set : Env → D → Option Env) (g : MS) : List D → MS
  | [], env, S => .ok (.nx env, S)
  | d :: ds, env, S => match set env d with
    | none => .bad
    | some env1 => match g env1 S with
      | .ok (.nx env2, S2) => loopS set g ds env2 S2
      | .ok (.ct env2, S2) => loopS set g ds env2 S2
      | .ok (.bk env2, S2) => .ok (.nx env2, S2)
      | r => r
def forS (set : Env → D → Option Env) (f : ME) (g : MS) : MS := fun env S => bindM (f env S) fun d S1 => match d with
  | .lst ds => loopS set g ds env S1
  | .tup ds => loopS set g ds env S1
  | _ => .bad
section
variable {X : Cx} {b : Bc} {E : XK} {e tg iter : Expr} {body : List Stmt} {f : ME} {g : MS} {pos : Pos} {gt : TG} {set : Env → D → Option Env} {js : List Nat}
theorem loop_turn (ht : Tgt b X.K gt set js) {F1 O0 F' O' H' : Hp} {σ' : L2.St} {env' : Env} {S' : DS} {d : D} {ds : List D} {v : V} {Dn : Ends} {N : L2.St → Hp → Prop} (P : Pre b F1 O0 F' O' H' σ' env' S') (hv : Den b.c F' d v) (h : PostS b E F1 O0 (loopS set g (d :: ds) env' S') Dn)
    (hN : ∀ σ2 H2 F2 O2 env2 S2, Pre b F1 O0 F2 O2 H2 σ2 env2 S2 → PostS b E F1 O0 (loopS set g ds env2 S2) Dn → N σ2 H2) :
    gt v σ' H' fun σ2 H2 => tS b E g { Dn with nx := N, ct := N, bk := Dn.nx } σ2 H2 := by
  unfold loopS at h
  cases hs : set env' d with
  | none => rw [hs] at h; exact False.elim h
  | some env1 =>
    simp only [hs] at h
    refine ht.run F1 O0 F' O' H' σ' env' S' d v env1 _ P hv hs fun σ2 P2 _ _ => ⟨F1, O0, F', O', env1, S', P2, ?_⟩
    revert h
    cases hr : g env1 S' with
    | ok p =>
      obtain ⟨a, S2⟩ := p
      cases a with
      | nx env2 => exact fun h σ3 F3 O3 H3 P3 => hN σ3 H3 F3 O3 env2 S2 P3 h
      | rt d => exact fun h => h
      | bk env2 => exact fun h => h
      | ct env2 => exact fun h σ3 F3 O3 H3 P3 => hN σ3 H3 F3 O3 env2 S2 P3 h
    | exc n f fs S2 => exact fun h => h
    | bad => exact fun h => h
theorem PI.or {tgt l : Expr} {w1 w2 : TI} (h1 : PI X tgt l w1) (h2 : PI X tgt l w2) : PI X tgt l (fun σ H R => w1 σ H R ∨ w2 σ H R) := ⟨fun pins s σ H R I h => h.elim (h1.run pins s σ H R I) (h2.run pins s σ H R I)⟩
theorem drop_at {α : Type} {l : List α} {i : Nat} {d : α} (h : l[i]? = some d) : l.drop i = d :: l.drop (i + 1) := by
  obtain ⟨h1, h2⟩ := List.getElem?_eq_some_iff.mp h
  rw [← h2]
  exact List.drop_eq_getElem_cons h1
theorem s_for (hc : X.calm = true) (hK : b.c.K = X.K) (hp : PassesOwn (model X.prog X.w) X.A X.env X.xe) (hi : PE X iter (tE b E f)) (hg : PG X tg gt) (ht : Tgt b X.K gt set js) (hb : PSs X body (tS b E g))
    (hs : ∀ x, foldedSetIterable iter X.env x = pure x := by intro _; rfl) : PS X (.For tg iter body [] pos) (tS b E (forS set f g)) :=
  PS.imp (ps_for hp hc (PI.or (pi_list hi) (pi_tup hi)) hg hb hs) fun Dn σ H ⟨F0, O0, F, O, env, S, P, h⟩ => by
    have hb := PostS.bind h P.f0 P.o0
    cases hr : f env S with
    | bad => rw [hr] at hb; exact False.elim hb
    | exc n f' fs S' =>
      rw [hr] at hb
      refine .inl ⟨F0, O0, F, O, env, S, P, ?_⟩
      rw [hr]
      exact hb
    | ok p =>
      obtain ⟨d, S1⟩ := p
      cases d with
      | lst ds =>
        refine .inl ⟨F0, O0, F, O, env, S, P, ?_⟩
        rw [hr] at hb ⊢
        intro F1 H1 s1 fit1 I1 v hv
        have k := hb F1 H1 s1 fit1 I1
        obtain ⟨a, vs, rfl, h1, z, h2⟩ := hv
        refine ⟨a, rfl, ⟨vs, SqL_of (fit1.f _ _ h1)⟩, for_list (xs := vs) (fun i σ' H' => ∃ F' O' env' S', Pre b F1 O0 F' O' H' σ' env' S' ∧ PostS b E F1 O0 (loopS set g (ds.drop i) env' S') Dn) ?_ (fun i σ' H' _ ⟨F', O', env', S', P', _⟩ => SqL_of (P'.fit.f _ _ (P'.f0 _ _ h1))) ?_ ?_⟩
        · exact ⟨F1, O, env, S1, ⟨fit1, Same.refl _, P.o0, I1, (P.grow s1 fit1 I1).slot, (P.grow s1 fit1 I1).slotO, P.sep, P.len⟩, PostS.base k (P.f0.trans s1) (Same.refl _)⟩
        · rintro i x σ' H' hx ⟨F', O', env', S', P', k⟩
          obtain ⟨d, e1, e2⟩ := Dens.get h2 hx
          rw [drop_at e1] at k
          exact loop_turn ht P' (Den.mono P'.f0 _ _ e2) k fun σ2 H2 F2 O2 env2 S2 P2 k2 => ⟨F2, O2, env2, S2, P2, k2⟩
        · rintro σ' H' ⟨F', O', env', S', P', k⟩
          rw [← h2.length, List.drop_length] at k
          exact k σ' F' O' H' P'
      | tup ds =>
        refine .inr ⟨F0, O0, F, O, env, S, P, ?_⟩
        rw [hr] at hb ⊢
        intro F1 H1 s1 fit1 I1 v hv
        have k := hb F1 H1 s1 fit1 I1
        obtain ⟨a, vs, rfl, h1, z, h2⟩ := hv
        rw [hK] at h1
        refine ⟨a, rfl, ⟨vs, sqT_mono fit1.f h1⟩, for_tup (xs := vs) (fun i σ' H' => ∃ F' O' env' S', Pre b F1 O0 F' O' H' σ' env' S' ∧ PostS b E F1 O0 (loopS set g (ds.drop i) env' S') Dn) ?_ (fun i σ' H' _ ⟨F', O', env', S', P', _⟩ => sqT_mono P'.fit.f (sqT_mono P'.f0 h1)) ?_ ?_⟩
        · exact ⟨F1, O, env, S1, ⟨fit1, Same.refl _, P.o0, I1, (P.grow s1 fit1 I1).slot, (P.grow s1 fit1 I1).slotO, P.sep, P.len⟩, PostS.base k (P.f0.trans s1) (Same.refl _)⟩
        · rintro i x σ' H' hx ⟨F', O', env', S', P', k⟩
          obtain ⟨d, e1, e2⟩ := Dens.get h2 hx
          rw [drop_at e1] at k
          exact loop_turn ht P' (Den.mono P'.f0 _ _ e2) k fun σ2 H2 F2 O2 env2 S2 P2 k2 => ⟨F2, O2, env2, S2, P2, k2⟩
        · rintro σ' H' ⟨F', O', env', S', P', k⟩
          rw [← h2.length, List.drop_length] at k
          exact k σ' F' O' H' P'
      | _ =>
        refine .inl ⟨F0, O0, F, O, env, S, P, ?_⟩
        rw [hr] at hb ⊢
        exact fun F1 H1 s1 fit1 I1 v hv => False.elim (hb F1 H1 s1 fit1 I1)
def intsD (lo : Int) (n : Nat) : List D := (List.range n).map fun (i : Nat) => D.int (lo + (i : Int))
theorem intsD_at {lo : Int} {n i : Nat} (h : i < n) : (intsD lo n)[i]? = some (.int (lo + i)) := by simp [intsD, h]
def rangeOf : List D → Option (List D)
  | [.int j] => if -(2 ^ 62) ≤ j ∧ j < 2 ^ 62 then some (intsD 0 j.toNat) else none
  | [.int i, .int j] => if -(2 ^ 62) ≤ i ∧ i < 2 ^ 62 ∧ -(2 ^ 62) ≤ j ∧ j < 2 ^ 62 then some (intsD i (j - i).toNat) else none
  | _ => none
def forR (set : Env → D → Option Env) (fa : MA) (g : MS) : MS := fun env S => bindM (fa env S) fun ds S1 => match rangeOf ds with
  | some xs => loopS set g xs env S1
  | none => .bad
theorem range_go {lo : Int} {n : Nat} (ht : Tgt b X.K gt set js) {F1 O0 F O H : Hp} {σ : L2.St} {env : Env} {S : DS} {Dn : Ends} (P : Pre b F1 O0 F O H σ env S) (h : PostS b E F1 O0 (loopS set g (intsD lo n) env S) Dn) :
    ∃ W : Nat → Nat → L2.St → Hp → Prop, (∃ m, W 0 m σ H) ∧ ∀ i m σ H, W i m σ H →
      ((Itr lo n).stop i H ∧ Dn.nx σ H) ∨ ((Itr lo n).go i H ∧ ∃ N : L2.St → Hp → Prop, (∀ σ' H', N σ' H' → ∃ m', m' < m ∧ W (i + 1) m' σ' H') ∧ ∀ x H', (Itr lo n).yld i H x H' → gt x σ H' fun σ2 H2 => tS b E g { Dn with nx := N, ct := N, bk := Dn.nx } σ2 H2) := by
  refine for_range (fun i σ' H' => ∃ F' O' env' S', Pre b F1 O0 F' O' H' σ' env' S' ∧ PostS b E F1 O0 (loopS set g ((intsD lo n).drop i) env' S') Dn) ⟨F, O, env, S, P, h⟩ ?_ ?_
  · rintro i σ' H' hi ⟨F', O', env', S', P', k⟩
    rw [drop_at (intsD_at hi)] at k
    exact loop_turn ht P' (d := D.int (lo + i)) (v := .int (lo + i)) rfl k fun σ2 H2 F2 O2 env2 S2 P2 k2 => ⟨F2, O2, env2, S2, P2, k2⟩
  · rintro σ' H' ⟨F', O', env', S', P', k⟩
    have : (intsD lo n).drop n = [] := List.drop_eq_nil_of_le (by simp [intsD])
    rw [this] at k
    exact k σ' F' O' H' P'
theorem s_forR1 {e1 : Expr} {ga : MA} (hc : X.calm = true) (hp : PassesOwn (model X.prog X.w) X.A X.env X.xe) (hi : ∀ ta, PA X [e1] ta → PI X tg iter (iRng1 ta)) (ha : PA X [e1] (tA b E ga)) (hg : PG X tg gt) (ht : Tgt b X.K gt set js) (hb : PSs X body (tS b E g))
    (hl : ∀ env S ds S', ga env S = .ok (ds, S') → ds.length = [e1].length) (hs : ∀ x, foldedSetIterable iter X.env x = pure x := by intro _; rfl) : PS X (.For tg iter body [] pos) (tS b E (forR set ga g)) :=
  PS.imp (ps_for hp hc (hi _ ha) hg hb hs) fun Dn σ H ⟨F0, O0, F, O, env, S, P, h⟩ => by
    have hb := PostS.bind h P.f0 P.o0
    refine ⟨F0, O0, F, O, env, S, P, ?_⟩
    cases hr : ga env S with
    | bad => rw [hr] at hb; exact False.elim hb
    | exc n f' fs S' => rw [hr] at hb; exact hb
    | ok p =>
      obtain ⟨ds, S1⟩ := p
      have hlen := hl env S ds S1 hr
      rw [hr] at hb
      intro F1 H1 s1 fit1 I1 vs hv
      have k := hb F1 H1 s1 fit1 I1
      match ds, hlen, hv, k with
      | [d], _, hv, k =>
        simp only [Dens] at hv
        obtain ⟨v, r, rfl, h1, rfl⟩ := hv
        cases d with
        | int j =>
          simp only [Den] at h1
          subst h1
          simp only [rangeOf] at k
          by_cases hj : -(2 ^ 62) ≤ j ∧ j < 2 ^ 62
          · rw [if_pos hj] at k
            exact ⟨j, rfl, hj.1, hj.2, range_go ht ((P.grow s1 fit1 I1).base (Same.refl _) (Same.refl _)) k⟩
          · rw [if_neg hj] at k
            exact False.elim k
        | _ => exact False.elim k
theorem s_forR2 {e1 e2 : Expr} {ga : MA} (hc : X.calm = true) (hp : PassesOwn (model X.prog X.w) X.A X.env X.xe) (hi : ∀ ta, PA X [e1, e2] ta → PI X tg iter (iRng2 ta)) (ha : PA X [e1, e2] (tA b E ga)) (hg : PG X tg gt) (ht : Tgt b X.K gt set js) (hb : PSs X body (tS b E g))
    (hl : ∀ env S ds S', ga env S = .ok (ds, S') → ds.length = [e1, e2].length) (hs : ∀ x, foldedSetIterable iter X.env x = pure x := by intro _; rfl) : PS X (.For tg iter body [] pos) (tS b E (forR set ga g)) :=
  PS.imp (ps_for hp hc (hi _ ha) hg hb hs) fun Dn σ H ⟨F0, O0, F, O, env, S, P, h⟩ => by
    have hb := PostS.bind h P.f0 P.o0
    refine ⟨F0, O0, F, O, env, S, P, ?_⟩
    cases hr : ga env S with
    | bad => rw [hr] at hb; exact False.elim hb
    | exc n f' fs S' => rw [hr] at hb; exact hb
    | ok p =>
      obtain ⟨ds, S1⟩ := p
      have hlen := hl env S ds S1 hr
      rw [hr] at hb
      intro F1 H1 s1 fit1 I1 vs hv
      have k := hb F1 H1 s1 fit1 I1
      match ds, hlen, hv, k with
      | [d, d2], _, hv, k =>
        simp only [Dens] at hv
        obtain ⟨v, r, rfl, h1, v2, r2, rfl, h2, rfl⟩ := hv
        cases d with
        | int i =>
          cases d2 with
          | int j =>
            simp only [Den] at h1 h2
            subst h1 h2
            simp only [rangeOf] at k
            split at k
            · rename_i xs hx
              split at hx <;> cases hx
              rename_i hj
              exact ⟨i, j, rfl, hj, range_go ht ((P.grow s1 fit1 I1).base (Same.refl _) (Same.refl _)) k⟩
            · exact False.elim k
          | _ => exact False.elim k
        | _ => cases d2 <;> exact False.elim k
end
end VS
namespace VS
open PySem PySem.Spec PyProof.Rows L2
def wipeE (env : Env) : List Nat → Env
  | [] => env
  | v :: vs => (wipeE env vs).set v none
def noX {α : Type} (r : Res α) : Res α := match r with | .exc _ _ _ _ => .bad | r => r
abbrev XF : XK := fun _ _ _ => False
section
variable {b : Bc}
theorem Pre.unset {F0 O0 F O H : Hp} {σ : L2.St} {env : Env} {S : DS} {i : Nat} (P : Pre b F0 O0 F O H σ env S) (ho : i ∉ b.own) : Pre b F0 O0 F O H (σ.set i none) (env.set i none) S where
  fit := P.fit
  f0 := P.f0
  o0 := P.o0
  inv := P.inv
  slot := fun j d' h n => by
    rcases get_set h with ⟨_, e, _⟩ | ⟨ne, h⟩
    · cases e
    · rw [set_ne' ne]; exact P.slot j d' h n
  slotO := fun j d' h n => by
    have ne : j ≠ i := fun z => ho (z ▸ n)
    rw [set_ne' ne] at h ⊢
    exact P.slotO j d' h n
  sep := fun j k a hj hk e1 e2 h1 h2 => by
    have nj : j ≠ i := fun z => ho (z ▸ hj)
    have nk : k ≠ i := fun z => ho (z ▸ hk)
    rw [set_ne' nj] at e1 h1
    rw [set_ne' nk] at e2 h2
    exact P.sep j k a hj hk e1 e2 h1 h2
  len := by simp [P.len]
theorem Pre.wipe {F0 O0 F O H : Hp} {σ : L2.St} {env : Env} {S : DS} (P : Pre b F0 O0 F O H σ env S) : ∀ vs : List Nat, vs.all (fun i => !b.own.contains i) = true → Pre b F0 O0 F O H (L2.wipe σ vs) (wipeE env vs) S
  | [], _ => P
  | v :: vs, h => by
    simp only [List.all_cons, Bool.and_eq_true] at h
    exact (P.wipe vs h.2).unset (by simpa using h.1)
theorem wipe_get {σ : L2.St} : ∀ {vs : List Nat} {k : Nat}, k ∉ vs → (L2.wipe σ vs)[k]? = σ[k]?
  | [], _, _ => rfl
  | v :: vs, k, h => by
    simp only [List.mem_cons, not_or] at h
    show ((L2.wipe σ vs).set v none)[k]? = _
    rw [set_ne' h.1]
    exact wipe_get h.2
theorem wipe_in {σ : L2.St} : ∀ {vs : List Nat} {k : Nat}, k ∈ vs → (L2.wipe σ vs)[k]? = if k < σ.length then some none else none
  | v :: vs, k, h => by
    show ((L2.wipe σ vs).set v none)[k]? = _
    by_cases e : k = v
    · subst e
      by_cases hl : k < σ.length
      · rw [if_pos hl, List.getElem?_set_self (by rw [L2.wipe_length]; exact hl)]
      · rw [if_neg hl, List.getElem?_eq_none (by rw [List.length_set, L2.wipe_length]; omega)]
    · rw [set_ne' e]
      exact wipe_in ((List.mem_cons.mp h).resolve_left e)
theorem wipe_eq {σ σ' : L2.St} {vs js : List Nat} (hl : σ'.length = σ.length) (h : ∀ k, k ∉ js → σ'[k]? = (L2.wipe σ vs)[k]?) (hs : js.all (fun j => vs.contains j) = true) : L2.wipe σ' vs = L2.wipe σ vs := by
  apply List.ext_getElem?
  intro k
  by_cases hk : k ∈ vs
  · rw [wipe_in hk, wipe_in hk, hl]
  · rw [wipe_get hk]
    exact h k fun hj => hk (by simpa using List.all_eq_true.mp hs k hj)
end
def compM (set : Env → D → Option Env) (test : MT) (elt : ME) (env0 : Env) : List D → DS → Res (List D × DS)
  | [], S => .ok ([], S)
  | d :: ds, S => match set env0 d with
    | none => .bad
    | some env1 => bindM (noX (test env1 S)) fun k S1 => if k = true then bindM (noX (elt env1 S1)) fun y S2 => bindM (compM set test elt env0 ds S2) fun ys S3 => .ok (y :: ys, S3) else compM set test elt env0 ds S1
def lcM (set : Env → D → Option Env) (f : ME) (test : MT) (elt : ME) (vs : List Nat) : ME := fun env S => bindM (f env S) fun d S1 => match d with
  | .lst ds => bindM (compM set test elt (wipeE env vs) ds S1) fun ys S2 => .ok (.lst ys, S2)
  | .tup ds => bindM (compM set test elt (wipeE env vs) ds S1) fun ys S2 => .ok (.lst ys, S2)
  | .scr ns => if ns.length ≤ 1000000 then bindM (compM set test elt (wipeE env vs) (ns.map D.int) S1) fun ys S2 => .ok (.lst ys, S2) else .bad
  | _ => .bad
section
variable {X : Cx} {b : Bc} {E : XK} {e tg iter elt : Expr} {ifs : List Expr} {f fe : ME} {test : MT} {pos : Pos} {gt : TG} {set : Env → D → Option Env} {js : List Nat}
theorem Post.noX {α : Type} {O F : Hp} {x : Res (α × DS)} {k : α → DS → Hp → Hp → Prop} (h : Post b E O F (noX x) k) : Post b XF O F x k := by
  cases x with
  | ok p => obtain ⟨a, S'⟩ := p; exact h
  | exc n f fs S' => exact False.elim h
  | bad => exact False.elim h
theorem tYes_ok {X : Cx} : PTs X [] (tT b XF (fun _ S => .ok (true, S))) := ⟨fun pins s σ H Q I ⟨F0, O0, F, O, env, S, P, h⟩ => pts_nil.run pins s σ H Q I (h F H (Same.refl _) P.fit P.inv)⟩
theorem tOne_ok {X : Cx} {c : Expr} (h : PT X c (tT b XF test)) : PTs X [c] (tT b XF test) := pts_one h
theorem bindM_assoc {α β γ : Type} (x : Res (α × DS)) (g : α → DS → Res (β × DS)) (k : β → DS → Res γ) : bindM (bindM x g) k = bindM x fun a S => bindM (g a S) k := by
  cases x with
  | ok p => rfl
  | exc _ _ _ _ => rfl
  | bad => rfl
theorem Post.moreO {α : Type} {O O' F : Hp} {x : Res (α × DS)} {k : α → DS → Hp → Hp → Prop} (h : Post b XF O F x k) (e : Same O O') : Post b XF O' F x k := by
  cases x with
  | ok p => obtain ⟨a, S'⟩ := p; exact fun F' H' s fit I => h F' H' s (fit.less e) I
  | exc n f fs S' => exact fun cls dd F' H' s fit I x => h cls dd F' H' s (fit.less e) I x
  | bad => exact h
theorem FitB.out {b : Bc} {F O H : Hp} {S : DS} {D0 : Addr} {u : HO} (h : FitB b F (upd O D0 u) S H) (hO : O D0 = none) : FitB b F O S (del H D0) := by
  obtain ⟨T0, tp, fit2⟩ := h
  have eO : Same O (upd O D0 u) := same_upd hO
  have n2 : F D0 = none := fit2.fo D0 (by rw [upd_same]; simp)
  have nT : (b.T S T0) D0 = none := by
    cases e : (b.T S T0) D0 with
    | none => rfl
    | some u => have := fit2.ot D0 (by rw [e]; simp); rw [upd_same] at this; cases this
  have ne : ∀ {G : Hp} {a : Addr} {u : HO}, G D0 = none → G a = some u → a ≠ D0 := fun {G a u} n h z => by subst z; rw [n] at h; cases h
  refine ⟨T0, tp, fun a u h => ?_, fun a u h => ?_, fun a u h => ?_, (fit2.less eO).fo, fit2.ft, (fit2.less eO).ot, fit2.nt, (fit2.less eO).ld⟩
  · unfold del; rw [if_neg (ne n2 h)]; exact fit2.f a u h
  · unfold del; rw [if_neg (ne hO h)]; exact fit2.o a u (eO a u h)
  · unfold del; rw [if_neg (ne nT h)]; exact fit2.t a u h
structure Cmp (b : Bc) (E : XK) (O F1 : Hp) (σ : L2.St) (env0 : Env) (K : D → DS → Hp → Hp → Prop) (rest : List D) (go : List D → DS → Res (List D × DS)) (D0 : Addr) (i : Nat) (H : Hp) : Prop where
  ex : ∃ F ys vs S, FitB b F (upd O D0 (.lst vs)) S H ∧ b.I S F ∧ Same F1 F ∧ Dens b.c F ys vs ∧ ys.length ≤ i ∧ Post b E O F (bindM (go rest S) fun zs S2 => .ok (D.lst (ys ++ zs), S2)) K
theorem lc_turn (ht : Tgt b X.K gt set js) {F0 O0 O F1 H H' : Hp} {σ : L2.St} {env : Env} {S : DS} {vs : List Nat} {K : D → DS → Hp → Hp → Prop} {d : D} {ds : List D} {D0 : Addr} {i : Nat} {v : V} (P : Pre b F0 O0 F1 O H σ env S) (hO : O D0 = none)
    (hv : Den b.c F1 d v) (hvs : vs.all (fun i => !b.own.contains i) = true) (hjs : js.all (fun j => vs.contains j) = true) (hi : i < sizeLine)
    (C : Cmp b E O F1 σ (wipeE env vs) K (d :: ds) (compM set test fe (wipeE env vs)) D0 i H') :
    gt v (L2.wipe σ vs) H' fun σ2 H2 => L2.wipe σ2 vs = L2.wipe σ vs ∧ tT b XF test σ2 H2 fun k H3 => if k = true then tE b XF fe σ2 H3 fun y H4 => ∃ acc, H4 D0 = some (.lst acc) ∧ acc.length < sizeLine ∧ Cmp b E O F1 σ (wipeE env vs) K ds (compM set test fe (wipeE env vs)) D0 (i + 1) (upd H4 D0 (.lst (acc ++ [y])))
      else Cmp b E O F1 σ (wipeE env vs) K ds (compM set test fe (wipeE env vs)) D0 (i + 1) H3 := by
  obtain ⟨F2, ys, us, S2, fit2, I2, s2, hd, hl, hp⟩ := C.ex
  have eO : Same O (upd O D0 (.lst us)) := same_upd hO
  have P2 : Pre b F0 O0 F2 (upd O D0 (.lst us)) H' σ env S2 := by
    refine ⟨fit2, P.f0.trans s2, P.o0.trans eO, I2, fun i d h n => ?_, fun i d h n => ?_, P.sep, P.len⟩
    · obtain ⟨v, h1, h2⟩ := P.slot i d h n; exact ⟨v, h1, Den.mono s2 _ _ h2⟩
    · obtain ⟨a, h1, h2, h3⟩ := P.slotO i d h n; exact ⟨a, h1, h2.mono s2 (fun o q => eO _ _ q), h3⟩
  have P3 := P2.wipe vs hvs
  unfold compM at hp
  cases hs : set (wipeE env vs) d with
  | none => simp only [hs] at hp; exact False.elim hp
  | some env1 =>
    simp only [hs] at hp
    rw [bindM_assoc] at hp
    refine ht.run F0 O0 F2 _ H' (L2.wipe σ vs) (wipeE env vs) S2 d v env1 _ P3 (Den.mono s2 _ _ hv) hs fun σ2 P4 q4 l4 => ⟨wipe_eq (by rw [l4, L2.wipe_length]) q4 hjs, F0, O0, F2, _, env1, S2, P4, ((Post.noX (Post.bind hp)).moreO eO).imp fun k S3 F3 H3 s3 fit3 I3 hp => ?_⟩
    cases k with
    | true =>
      refine iteT ⟨F0, O0, F3, _, env1, S3, P4.grow s3 fit3 I3, ?_⟩
      rw [if_pos rfl, bindM_assoc] at hp
      refine ((Post.noX (Post.bind hp)).moreO eO).imp fun y S4 F4 H4 s4 fit4 I4 hp w hw => ⟨us, fit4.o D0 _ upd_same, by rw [← hd.length]; omega, F4, ys ++ [y], us ++ [w], S4, ?_, I4, (s2.trans s3).trans s4, (Dens.mono (s3.trans s4) _ _ hd).append (Dens.one hw), by simp; omega, ?_⟩
      · have := fit4.setO (u' := .lst (us ++ [w])) (upd_same (H := O) (a := D0) (o := .lst us))
        rw [upd_upd] at this
        exact this
      · rw [bindM_assoc] at hp
        simpa [bindM, List.append_assoc] using hp
    | false =>
      rw [if_neg Bool.false_ne_true] at hp
      exact iteF ⟨F3, ys, us, S3, fit3, I3, s2.trans s3, Dens.mono s3 _ _ hd, by omega, hp⟩
theorem lc_end {O F1 H' : Hp} {σ : L2.St} {env : Env} {Q : VK} {vs : List Nat} {D0 : Addr} {i : Nat} (hO : O D0 = none) (hF : F1 D0 = none) (hz : i ≤ sizeLine)
    (C : Cmp b E O F1 σ (wipeE env vs) (fun d S' F' H' => ∀ p o, H' p = none → ObjD b.c F' d o → Q (.ref p) (upd H' p o)) [] (compM set test fe (wipeE env vs)) D0 i H') : Q (.ref D0) H' := by
  obtain ⟨F2, ys, us, S2, fit2, I2, s2, hd, hl, hp⟩ := C.ex
  have eO : Same O (upd O D0 (.lst us)) := same_upd hO
  have n2 : F2 D0 = none := fit2.fo D0 (by rw [upd_same]; simp)
  have hH : H' D0 = some (.lst us) := fit2.o D0 _ upd_same
  have e : upd (del H' D0) D0 (.lst us) = H' := by
    funext a
    by_cases h : a = D0
    · subst h; rw [upd_same, hH]
    · rw [upd_ne h]; unfold del; rw [if_neg h]
  have fit : FitB b F2 O S2 (del H' D0) := fit2.out hO
  have k := hp F2 (del H' D0) (Same.refl _) fit I2 D0 (.lst us) (by unfold del; rw [if_pos rfl]) ⟨us, rfl, by simp; omega, by simpa using hd⟩
  rw [e] at k
  exact k
theorem lc_begin {O F1 H1 : Hp} {σ : L2.St} {env : Env} {S1 : DS} {Q : VK} {vs : List Nat} {D0 : Addr} {ds : List D} (fit1 : FitB b F1 O S1 H1) (I1 : b.I S1 F1) (hD : H1 D0 = none)
    (k : Post b E O F1 (bindM (compM set test fe (wipeE env vs) ds S1) fun ys S2 => .ok (D.lst ys, S2)) (fun d S' F' H' => ∀ p o, H' p = none → ObjD b.c F' d o → Q (.ref p) (upd H' p o))) :
    Cmp b E O F1 σ (wipeE env vs) (fun d S' F' H' => ∀ p o, H' p = none → ObjD b.c F' d o → Q (.ref p) (upd H' p o)) ds (compM set test fe (wipeE env vs)) D0 0 (upd H1 D0 (.lst [])) :=
  ⟨F1, [], [], S1, fit1.newO hD, I1, Same.refl _, rfl, Nat.le_refl _, k⟩
theorem PE.or {t1 t2 : TE} (h1 : PE X e t1) (h2 : PE X e t2) : PE X e (fun σ H Q => t1 σ H Q ∨ t2 σ H Q) := ⟨fun pins s σ H Q I h => h.elim (h1.run pins s σ H Q I) (h2.run pins s σ H Q I)⟩
abbrev iSeqs (K : PySem.W.Frag) (t : TE) (k : TI → TE) : TE := fun σ H Q => k (iList K t) σ H Q ∨ k (iTup K t) σ H Q
theorem lc_imp {vs : List Nat} (hK : b.c.K = X.K) (ht : Tgt b X.K gt set js) (hvs : vs.all (fun i => !b.own.contains i) = true) (hjs : js.all (fun j => vs.contains j) = true) :
    ∀ σ H Q, tN b E (lcM set f test fe vs) σ H Q → iSeqs X.K (tB b E f) (fun wi => tLc wi gt (tT b XF test) (tE b XF fe) vs) σ H Q := fun σ H Q ⟨F0, O0, F, O, env, S, P, h⟩ => by
    have hb := Post.bind h
    cases hr : f env S with
    | bad => rw [hr] at hb; exact False.elim hb
    | exc n f' fs S' =>
      rw [hr] at hb
      refine .inl ⟨F0, O0, F, O, env, S, P, ?_⟩
      rw [hr]
      exact hb
    | ok p =>
      obtain ⟨d, S1⟩ := p
      cases d with
      | lst ds =>
        refine .inl ⟨F0, O0, F, O, env, S, P, ?_⟩
        rw [hr] at hb ⊢
        intro F1 H1 s1 fit1 I1 v hv
        have k := hb F1 H1 s1 fit1 I1
        obtain ⟨a, us, rfl, h1, z, h2⟩ := hv
        refine ⟨a, rfl, ⟨us, SqL_of (h1.elim (fit1.f _ _) (fit1.o _ _))⟩, fun D0 hD => ?_⟩
        have nO := upd_none fit1.o hD
        have nF := upd_none fit1.f hD
        have P1 := P.grow s1 fit1 I1
        refine lc_list (K := X.K) (xs := us) (fun i H' => Cmp b E O F1 σ (wipeE env vs) (fun d S' F' H' => ∀ p o, H' p = none → ObjD b.c F' d o → Q (.ref p) (upd H' p o)) (ds.drop i) (compM set test fe (wipeE env vs)) D0 i H')
          (lc_begin fit1 I1 hD k) (fun i H' _ C => ?_) (fun i x H' hx C => ?_) (fun H' C => ?_)
        · obtain ⟨F2, ys, ws, S2, fit2, _, s2, _⟩ := C.ex
          refine SqL_of (h1.elim (fun q => fit2.f _ _ (s2 _ _ q)) fun q => fit2.o _ _ (same_upd nO _ _ q))
        · obtain ⟨d, e1, e2⟩ := Dens.get h2 hx
          rw [drop_at e1] at C
          have hlt := (List.getElem?_eq_some_iff.mp e1).1
          exact lc_turn ht P1 nO e2 hvs hjs (by omega) C
        · rw [← h2.length, List.drop_length] at C
          exact lc_end nO nF z C
      | tup ds =>
        refine .inr ⟨F0, O0, F, O, env, S, P, ?_⟩
        rw [hr] at hb ⊢
        intro F1 H1 s1 fit1 I1 v hv
        have k := hb F1 H1 s1 fit1 I1
        obtain ⟨a, us, rfl, h1, z, h2⟩ := hv
        rw [hK] at h1
        refine ⟨a, rfl, ⟨us, sqT_mono fit1.f h1⟩, fun D0 hD => ?_⟩
        have nO := upd_none fit1.o hD
        have nF := upd_none fit1.f hD
        have P1 := P.grow s1 fit1 I1
        refine lc_tup (K := X.K) (xs := us) (fun i H' => Cmp b E O F1 σ (wipeE env vs) (fun d S' F' H' => ∀ p o, H' p = none → ObjD b.c F' d o → Q (.ref p) (upd H' p o)) (ds.drop i) (compM set test fe (wipeE env vs)) D0 i H')
          (lc_begin fit1 I1 hD k) (fun i H' _ C => ?_) (fun i x H' hx C => ?_) (fun H' C => ?_)
        · obtain ⟨F2, ys, ws, S2, fit2, _, s2, _⟩ := C.ex
          exact sqT_mono fit2.f (sqT_mono s2 h1)
        · obtain ⟨d, e1, e2⟩ := Dens.get h2 hx
          rw [drop_at e1] at C
          have hlt := (List.getElem?_eq_some_iff.mp e1).1
          exact lc_turn ht P1 nO e2 hvs hjs (by omega) C
        · rw [← h2.length, List.drop_length] at C
          exact lc_end nO nF z C
      | scr ns =>
        refine .inl ⟨F0, O0, F, O, env, S, P, ?_⟩
        rw [hr] at hb ⊢
        intro F1 H1 s1 fit1 I1 v hv
        have k := hb F1 H1 s1 fit1 I1
        by_cases hz : ns.length ≤ 1000000
        · simp only [if_pos hz] at k
          obtain ⟨a, rfl, h1⟩ := hv
          rw [hK] at h1
          have h2 : Dens b.c F1 (ns.map D.int) (ns.map V.int) := Dens.of_ints ns
          have z : (ns.map D.int).length ≤ sizeLine := by rw [List.length_map]; exact Nat.le_trans hz million
          refine ⟨a, rfl, ⟨_, fit1.f.seq h1⟩, fun D0 hD => ?_⟩
          have nO := upd_none fit1.o hD
          have nF := upd_none fit1.f hD
          have P1 := P.grow s1 fit1 I1
          refine lc_list (K := X.K) (xs := ns.map V.int) (fun i H' => Cmp b E O F1 σ (wipeE env vs) (fun d S' F' H' => ∀ p o, H' p = none → ObjD b.c F' d o → Q (.ref p) (upd H' p o)) ((ns.map D.int).drop i) (compM set test fe (wipeE env vs)) D0 i H')
            (lc_begin fit1 I1 hD k) (fun i H' _ C => ?_) (fun i x H' hx C => ?_) (fun H' C => ?_)
          · obtain ⟨F2, ys, ws, S2, fit2, _, s2, _⟩ := C.ex
            exact fit2.f.seq (s2.seq h1)
          · obtain ⟨d, e1, e2⟩ := Dens.get h2 hx
            rw [drop_at e1] at C
            have hlt := (List.getElem?_eq_some_iff.mp e1).1
            exact lc_turn ht P1 nO e2 hvs hjs (by omega) C
          · rw [← h2.length, List.drop_length] at C
            exact lc_end nO nF z C
        · simp only [if_neg hz] at k
          exact False.elim k
      | _ =>
        refine .inl ⟨F0, O0, F, O, env, S, P, ?_⟩
        rw [hr] at hb ⊢
        exact fun F1 H1 s1 fit1 I1 v hv => False.elim (hb F1 H1 s1 fit1 I1)
theorem n_lc {vs : List Nat} (hK : b.c.K = X.K) (ht : Tgt b X.K gt set js) (hvs : vs.all (fun i => !b.own.contains i) = true) (hjs : js.all (fun j => vs.contains j) = true)
    (h : ∀ wi, PI X tg iter wi → PE X e (tLc wi gt (tT b XF test) (tE b XF fe) vs)) (hi : PE X iter (tB b E f)) : PE X e (tN b E (lcM set f test fe vs)) :=
  PE.imp (PE.or (h _ (pi_list hi)) (h _ (pi_tup hi))) (lc_imp hK ht hvs hjs)
theorem PS.or {st : Stmt} {t1 t2 : TS} (h1 : PS X st t1) (h2 : PS X st t2) : PS X st (fun D σ H => t1 D σ H ∨ t2 D σ H) := ⟨fun pins s σ H D I h => h.elim (h1.run pins s σ H D I) (h2.run pins s σ H D I)⟩
theorem s_lcO {st : Stmt} {vs : List Nat} (i : Nat) (ho : b.own.contains i = true) (hK : b.c.K = X.K) (ht : Tgt b X.K gt set js) (hvs : vs.all (fun i => !b.own.contains i) = true) (hjs : js.all (fun j => vs.contains j) = true)
    (h : ∀ wi, PI X tg iter wi → PS X st (tAsg (tLc wi gt (tT b XF test) (tE b XF fe) vs) (gName i))) (hi : PE X iter (tB b E f)) : PS X st (tS b E (asgS i (lcM set f test fe vs))) :=
  PS.imp (PS.or (h _ (pi_list hi)) (h _ (pi_tup hi))) fun Dn σ H ⟨F0, O0, F, O, env, S, P, h⟩ => lc_imp hK ht hvs hjs σ H _ ⟨F0, O0, F, O, env, S, P, (PostS.bind h P.f0 P.o0).imp fun d S1 F1 H1 s1 fit1 I1 k p o hp hd => k _ F1 _ _ ((P.grow s1 fit1 I1).setO (by simpa using ho) hp hd)⟩
theorem nE_imp {g : ME} : ∀ σ H Q, tE b E g σ H Q → tN b E g σ H Q := fun σ H Q ⟨F0, O0, F, O, env, S, P, h⟩ => ⟨F0, O0, F, O, env, S, P, by
  revert h
  cases hr : g env S with
  | ok r =>
    obtain ⟨d, S'⟩ := r
    intro h F' H' s fit I p o hp ho
    have nF := upd_none fit.f hp
    exact h (upd F' p o) (upd H' p o) (s.trans (same_upd nF)) (fit.new hp ho.ld.nt) (I.mono (same_upd nF)) _ (ho.den nF)
  | exc n f fs S' => exact fun h => h
  | bad => exact fun h => h⟩
theorem s_lc {st : Stmt} {vs : List Nat} (i : Nat) (ho : b.own.contains i = false) (hK : b.c.K = X.K) (ht : Tgt b X.K gt set js) (hvs : vs.all (fun i => !b.own.contains i) = true) (hjs : js.all (fun j => vs.contains j) = true)
    (h : ∀ wi, PI X tg iter wi → PS X st (tAsg (tLc wi gt (tT b XF test) (tE b XF fe) vs) (gName i))) (hi : PE X iter (tB b E f)) : PS X st (tS b E (asgS i (lcM set f test fe vs))) :=
  PS.imp (PS.or (h _ (pi_list hi)) (h _ (pi_tup hi))) fun Dn σ H ⟨F0, O0, F, O, env, S, P, h⟩ => lc_imp hK ht hvs hjs σ H _ (nE_imp σ H _ ⟨F0, O0, F, O, env, S, P, (PostS.bind h P.f0 P.o0).imp fun d S1 F1 H1 s1 fit1 I1 k v hv => k _ F1 O H1 ((P.grow s1 fit1 I1).set (by simpa using ho) hv)⟩)
end
end VS
namespace VS
open PySem PySem.Spec PyProof.Rows L2
inductive Kd where
  | int | bool | str | tuple | list | dict | seq
def isKb : Kd → D → Bool
  | .int, .int _ => true
  | .int, .bl _ => true
  | .bool, .bl _ => true
  | .str, .str _ => true
  | .tuple, .tup _ => true
  | .list, .lst _ => true
  | .dict, .dct _ _ => true
  | .seq, .lst _ => true
  | .seq, .tup _ => true
  | _, _ => false
def tyN : D → Option String
  | .non => some "NoneType"
  | .bl _ => some "bool"
  | .int _ => some "int"
  | .str _ => some "str"
  | .tup _ => some "tuple"
  | .lst _ => some "list"
  | .dct _ _ => some "dict"
  | _ => none
def gIs (k : Kd) (d : D) : Option D := match d with
  | .non => some (.bl (isKb k .non))
  | .bl x => some (.bl (isKb k (.bl x)))
  | .int x => some (.bl (isKb k (.int x)))
  | .str x => some (.bl (isKb k (.str x)))
  | .tup x => some (.bl (isKb k (.tup x)))
  | .lst x => some (.bl (isKb k (.lst x)))
  | .dct x y => some (.bl (isKb k (.dct x y)))
  | _ => none
section
variable {c : Dc}
theorem tyx_of {F O T H : Hp} (fit : Fits F O T H) {d : D} {v : V} {t : String} (h : DenB c F O d v) (e : tyN d = some t) : TyX c.K H v (.type t) := by
  cases d with
  | non => cases e; cases (show v = .non from h); exact .base .non
  | bl x => cases e; cases (show v = .bl x from h); exact .base (.bl x)
  | int x => cases e; cases (show v = .int x from h); exact .base (.int x)
  | str x => cases e; cases (show v = .str x from h); exact .base (.str x)
  | tup ds =>
    cases e
    obtain ⟨a, vs, rfl, h1, _, _⟩ := h
    rcases h1 with (h1 | ⟨o, h1⟩) | ⟨o, its, n, h1, h2, _⟩
    · exact .base (.tup (fit.f _ _ h1))
    · exact .fTuple (fit.f _ _ h1)
    · exact .kTuple h1 h2
  | lst ds =>
    cases e
    obtain ⟨a, vs, rfl, h1, _, _⟩ := h
    exact .base (.lst (h1.elim (fit.f _ _) (fit.o _ _)))
  | dct ks ds =>
    cases e
    obtain ⟨a, vs, rfl, h1, _, _⟩ := h
    exact .base (.dK (h1.elim (fit.f _ _) (fit.o _ _)))
  | _ => cases e
def nmK : Kd → String
  | .int => "int" | .bool => "bool" | .str => "str" | .tuple => "tuple" | .list => "list" | .dict => "dict" | .seq => "list"
theorem kit1 (k : Kd) (hk : k ≠ .seq) {d : D} {t : String} (e : tyN d = some t) : kitB t (nmK k) = some (isKb k d) := by
  cases d <;> cases e <;> cases k <;> first | exact absurd rfl hk | (show _ = some true; decide +kernel) | (show _ = some false; decide +kernel)
theorem gIs_some {k : Kd} {d d' : D} (h : gIs k d = some d') : ∃ t, tyN d = some t ∧ d' = .bl (isKb k d) := by
  cases d <;> simp only [gIs, Option.some.injEq, reduceCtorEq] at h <;> exact ⟨_, rfl, h.symm⟩
end
section
variable {X : Cx} {b : Bc} {E : XK} {e e1 : Expr} {f1 : ME}
theorem e_isi (k : Kd) (hk : k ≠ .seq) (hK : b.c.K = X.K) (h : ∀ te, PE X e1 te → PE X e (tCB (rIsi X.K) (tCons te (tCons (tC (.ty (nmK k))) tNil)))) (h1 : PE X e1 (tB b E f1)) : PE X e (tE b E (unM (gIs k) f1)) :=
  PE.imp (h _ h1) fun σ H Q ⟨F0, O0, F, O, env, S, P, h⟩ => ⟨F0, O0, F, O, env, S, P, (Post.bind h).imp fun d S1 F1 H1 s1 fit1 I1 k' v hv => by
    obtain ⟨d', e', k'⟩ := Post.ofO k'
    obtain ⟨t, ht, rfl⟩ := gIs_some e'
    have tx := tyx_of fit1.choose_spec.2 hv ht
    rw [hK] at tx
    exact ⟨v, .ty (nmK k), .type t, .type (nmK k), isKb k d, rfl, .ty _, tx, kit_ty (kit1 k hk ht), k' F1 H1 (Same.refl _) fit1 I1 _ rfl⟩⟩
end
def keyD : D → Option Key
  | .int i => some (.inl i)
  | .str x => some (.inr x)
  | _ => none
def dlook : List Key → List D → Key → Option D
  | k' :: ks, x :: xs, k => if k' = k then some x else dlook ks xs k
  | _, _, _ => none
def drepl : List Key → List D → Key → D → List D
  | k' :: ks, x :: xs, k, d => (if k' = k then d else x) :: drepl ks xs k d
  | _, _, _, _ => []
def dhas (ks : List Key) (k : Key) : Bool := ks.any fun k' => decide (k' = k)
def dputK (ks : List Key) (k : Key) : List Key := if dhas ks k = true then ks else ks ++ [k]
def dputV (ks : List Key) (xs : List D) (k : Key) (d : D) : List D := if dhas ks k = true then drepl ks xs k d else xs ++ [d]
section
variable {c : Dc} {F : Hp}
theorem dlook_val : ∀ {kv : List (Key × V)} {ks : List Key} {xs : List D} {k : Key}, kv.map (·.1) = ks → Dens c F xs (kv.map (·.2)) → (∀ d, dlook ks xs k = some d → ∃ v, valV kv k = some v ∧ Den c F d v) ∧ (dlook ks xs k = none → valV kv k = none)
  | [], _, xs, k, h1, h2 => by
    cases h1
    exact ⟨fun d h => by simp [dlook] at h, fun _ => rfl⟩
  | (k0, v0) :: kv, _, [], k, h1, h2 => by simp [Dens] at h2
  | (k0, v0) :: kv, _, x :: xs, k, h1, h2 => by
    cases h1
    simp only [List.map_cons, Dens, List.cons.injEq] at h2
    obtain ⟨v, r, ⟨rfl, rfl⟩, h3, h4⟩ := h2
    have ih := dlook_val (kv := kv) (k := k) rfl h4
    simp only [dlook, List.map_cons]
    by_cases e : k0 = k
    · rw [if_pos e]
      exact ⟨fun d q => ⟨v0, valV_pos e, by cases q; exact h3⟩, fun q => by cases q⟩
    · rw [if_neg e, valV_neg e]
      exact ih
end
def gGet2 : D → D → D → Option D
  | .dct ks xs, k, x => (keyD k).map fun k => (dlook ks xs k).getD x
  | _, _, _ => none
def get2M (f1 f2 f3 : ME) : ME := fun env S => bindM (f1 env S) fun d S1 => match d with
  | .dct ks xs => bindM (f2 env S1) fun k S2 => bindM (f3 env S2) fun x S3 => ofO (gGet2 (.dct ks xs) k x) S3
  | _ => .bad
end VS
namespace VS
open PySem PySem.Spec PyProof.Rows L2
end VS
namespace VS
open PySem PySem.Spec PyProof.Rows L2
section
variable {P : Program} {w : World} {K : PySem.W.Frag} {mg : Str → Option Value} {base : Heap}
abbrev FunDD (K : PySem.W.Frag) (x qual : Str) (st : Stmt) (dvs : List V) (f : Addr) (fd : FuncData) : Prop := FunD K x qual (defArgs st) (defBody st) (defScope st) dvs [] f fd
theorem okPD {x qual : Str} {st : Stmt} {f : Addr} {fd : FuncData} {dvs : List V} {N ps : List Str} {k : Nat} (own : List Nat) {g : MS} {G : List D → RP} (F : FunDD K x qual st dvs f fd) (S : FnScope N ps (defScope st)) (hown : own.all (fun i => decide (ps.length ≤ i)) = true) (hle : ps.length ≤ N.length)
    (hbody : ∀ (cdv : Value) (A : Around) (outer : List PySem.Env) (s : Shared) (H : Hp) (E : XK) (l : Lay) (TP : TPr), Room k (A.deeper (envOfC qual (defScope st) s.heap.objs.size f cdv)) →
      PSs (cxOf (L2.CX P w) P w K mg base N qual (defScope st) f cdv A outer s H E) (defBody st) (tS (bP K mg l TP own) E g))
    (hG : ∀ ds : List D, ds.length = ps.length → endP (g (startE N.length ds) S0) = G ds) : FnOk P w K mg base (L2.CX P w) (k + 1) f fd ps (spP K mg ps.length G) := by
  refine F.ok S (fun vs H Q E h => h.1) fun cdv A outer s H vs Q E hr h => ?_
  obtain ⟨hl, l, Fz, O, T, ds, fit, hd, h⟩ := h
  refine ⟨_, hbody cdv A outer s H E l (exT T) hr, Fz, O, Fz, O, startE N.length ds, S0, pre_start (b := bP K mg l (exT T) own) ⟨T, rfl, fit⟩ (fun q => absurd q Bool.false_ne_true) hd (by rw [hl]; exact hle) (by rw [hl]; exact hown), ?_⟩
  rw [← hG ds (by rw [hd.length]; exact hl)] at h
  revert h
  cases hr : g (startE N.length ds) S0 with
  | ok p =>
    obtain ⟨a, S'⟩ := p
    cases a with
    | nx env' => exact fun h σ' F' O' H' P' => by obtain ⟨_, rfl, q⟩ := P'.fit; exact h _ F' H' P'.f0 (q.less P'.o0) rfl
    | rt d => exact fun h v F' O' H' e1 e2 fit' I' hv => by obtain ⟨_, rfl, q⟩ := fit'; exact h v F' H' e1 (q.less e2) hv
    | bk env' => exact fun h => False.elim h
    | ct env' => exact fun h => False.elim h
  | exc n f fs S' => exact fun h cls dd F' O' H' e1 e2 fit' I' hx => by obtain ⟨_, rfl, q⟩ := fit'; exact h cls dd F' H' e1 (q.less e2) hx
  | bad => exact fun h => False.elim h
end
structure KlsAt (K : PySem.W.Frag) (mg : Str → Option Value) (n : Str) (C : Addr) : Prop where
  g : mg n = some (.ref C)
  x : PySem.W.excIn K C [.type "ValueError", .type "Exception", .type "BaseException", .type "object"] "ValueError.__new__" = true
  k : PySem.W.keepIn K (.ref C) = true
  b : PySem.W.subIn K (.ref C) (.type "BaseException") = some true
  t : PySem.W.typeIn K (.ref C) = some (.type "type")
end VS
namespace VS
open PySem PySem.Spec PyProof.Rows L2
section
variable {b : Bc} {F0 O0 F O H : Hp} {σ : L2.St} {env : Env} {S : DS}
theorem Pre.chg {i : Nat} {a : Addr} {d d' : D} {o o' : HO} (P : Pre b F0 O0 F O H σ env S) (hi : i ∈ b.own) (he : env[i]? = some (some d)) (ha : σ[i]? = some (some (.ref a))) (hO : O a = some o) (hd : ObjD b.c F d' o') :
    Pre b F0 O0 F (upd O a o') (upd H a o') σ (env.set i (some d')) S := by
  obtain ⟨a', h1, _, hO0⟩ := P.slotO i d he hi
  rw [ha] at h1
  cases h1
  refine ⟨P.fit.setO hO hd.ld, P.f0, fun c u q => ?_, P.inv, fun j e h n => ?_, fun j e h n => ?_, fun j k x hj hk e1 e2 h1 h2 => ?_, by simp [P.len]⟩
  · have ne : c ≠ a := fun z => by subst z; rw [hO0] at q; cases q
    rw [upd_ne ne]; exact P.o0 c u q
  · have ne : j ≠ i := fun z => n (z ▸ hi)
    rw [set_ne' ne] at h
    exact P.slot j e h n
  · rcases get_set h with ⟨rfl, q, _⟩ | ⟨ne, h⟩
    · cases q
      exact ⟨a, ha, hd.own upd_same, hO0⟩
    · obtain ⟨x, h1, h2, h3⟩ := P.slotO j e h n
      have nx : x ≠ a := fun z => ne (P.sep j i a n hi ⟨_, h⟩ ⟨_, he⟩ (z ▸ h1) ha)
      exact ⟨x, h1, h2.mono (Same.refl _) (fun u q => by rw [upd_ne nx]; exact q), h3⟩
  · have back : ∀ m, (∃ e : D, (env.set i (some d'))[m]? = some (some e)) → ∃ e : D, env[m]? = some (some e) := fun m h => by
      obtain ⟨e, q⟩ := h
      rcases get_set q with ⟨rfl, _, _⟩ | ⟨_, q⟩
      · exact ⟨d, he⟩
      · exact ⟨e, q⟩
    exact P.sep j k x hj hk (back j e1) (back k e2) h1 h2
theorem Pre.adopt {i : Nat} {p : Addr} {d : D} {o : HO} (P : Pre b F0 O0 F O H σ env S) (hi : i ∈ b.own) (hO : O p = some o) (hO0 : O0 p = none) (hd : ObjD b.c F d o) (hn : ∀ j, j ∈ b.own → (∃ e, env[j]? = some (some e)) → σ[j]? ≠ some (some (.ref p))) :
    Pre b F0 O0 F O H (σ.set i (some (.ref p))) (env.set i (some d)) S := by
  refine ⟨P.fit, P.f0, P.o0, P.inv, fun j e h n => ?_, fun j e h n => ?_, fun j k x hj hk e1 e2 h1 h2 => ?_, by simp [P.len]⟩
  · have ne : j ≠ i := fun z => n (z ▸ hi)
    rw [set_ne' ne] at h ⊢
    exact P.slot j e h n
  · rcases get_set h with ⟨rfl, q, hl⟩ | ⟨ne, h⟩
    · cases q
      exact ⟨p, List.getElem?_set_self (by rw [P.len]; exact hl), hd.own hO, hO0⟩
    · obtain ⟨x, h1, h2, h3⟩ := P.slotO j e h n
      exact ⟨x, by rw [set_ne' ne]; exact h1, h2, h3⟩
  · obtain ⟨d1, e1⟩ := e1
    obtain ⟨d2, e2⟩ := e2
    rcases get_set h1 with ⟨z1, q1, l1⟩ | ⟨n1, h3⟩
    · rcases get_set h2 with ⟨z2, q2, l2⟩ | ⟨n2, h4⟩
      · rw [z1, z2]
      · cases q1
        rw [set_ne' n2] at e2
        exact absurd h4 (hn k hk ⟨d2, e2⟩)
    · rcases get_set h2 with ⟨z2, q2, l2⟩ | ⟨n2, h4⟩
      · cases q2
        rw [set_ne' n1] at e1
        exact absurd h3 (hn j hj ⟨d1, e1⟩)
      · rw [set_ne' n1] at e1
        rw [set_ne' n2] at e2
        exact P.sep j k x hj hk ⟨d1, e1⟩ ⟨d2, e2⟩ h3 h4
theorem Pre.noslot {p : Addr} (P : Pre b F0 O0 F O H σ env S) (hp : O p = none) : ∀ j, j ∈ b.own → (∃ e, env[j]? = some (some e)) → σ[j]? ≠ some (some (.ref p)) := fun j hj h q => by
  obtain ⟨e, h⟩ := h
  obtain ⟨x, h1, h2, _⟩ := P.slotO j e h hj
  rw [h1] at q
  cases q
  exact h2.some hp
theorem Pre.lstAt {i : Nat} {ds : List D} (P : Pre b F0 O0 F O H σ env S) (hi : i ∈ b.own) (he : env[i]? = some (some (.lst ds))) : ∃ a vs, σ[i]? = some (some (.ref a)) ∧ O a = some (.lst vs) ∧ H a = some (.lst vs) ∧ ds.length ≤ sizeLine ∧ Dens b.c F ds vs := by
  obtain ⟨a, h1, ⟨vs, h2, h3, h4⟩, _⟩ := P.slotO i _ he hi
  exact ⟨a, vs, h1, h2, P.fit.o _ _ h2, h3, h4⟩
end
section
variable {X : Cx} {b : Bc} {E : XK} {e e1 e2 : Expr} {es : List Expr} {st : Stmt} {f f1 f2 : ME} {pos : Pos}
def appS (i : Nat) (f : ME) : MS := fun env S => match env[i]? with
  | some (some (.lst ds)) => bindM (f env S) fun d S1 => if ds.length < 1000000 then .ok (.nx (env.set i (some (.lst (ds ++ [d])))), S1) else .bad
  | _ => .bad
theorem s_app (i : Nat) (ho : b.own.contains i = true) (h : ∀ te, PE X e te → PS X st (tDrop (tBM X.K "list" rAppend (tVar i) (tCons te tNil)))) (he : PE X e (tE b E f)) : PS X st (tS b E (appS i f)) :=
  PS.imp (h _ he) fun Dn σ H ⟨F0, O0, F, O, env, S, P, h⟩ => by
    have hi : i ∈ b.own := by simpa using ho
    unfold appS at h
    split at h
    · rename_i ds hg
      obtain ⟨a, vs, h1, h2, h3, hz, hd⟩ := P.lstAt hi hg
      refine ⟨_, h1, .inl ⟨rfl, vs, SqL_of h3⟩, F0, O0, F, O, env, S, P, (PostS.bind h P.f0 P.o0).imp fun d S1 F1 H1 s1 fit1 I1 k v hv => ?_⟩
      by_cases hz : ds.length < 1000000
      · rw [if_pos hz] at k
        have P1 := P.grow s1 fit1 I1
        have hd1 := Dens.mono s1 _ _ hd
        have hm := million
        refine ⟨a, vs, v, rfl, rfl, fit1.o _ _ h2, by rw [← hd1.length]; omega, ?_⟩
        refine k σ F1 _ _ (P1.chg hi hg h1 h2 (d' := .lst (ds ++ [d])) ⟨_, rfl, ?_, hd1.append (Dens.one hv)⟩)
        rw [List.length_append, List.length_singleton]
        omega
      · rw [if_neg hz] at k
        exact False.elim k
    · exact False.elim h
def popM (i : Nat) (fj : ME) (k : D → Env → DS → Res (Fl × DS)) : MS := fun env S => match env[i]? with
  | some (some (.lst ds)) => bindM (fj env S) fun j S1 => match j with
    | .int j => if -1000000 ≤ j ∧ j ≤ 1000000 then (match seqIndex? j ds.length with
      | some m => (match ds[m]? with
        | some d => k d (env.set i (some (.lst (ds.eraseIdx m)))) S1
        | none => .bad)
      | none => .bad) else .bad
    | _ => .bad
  | _ => .bad
def nxSet (j : Nat) : D → Env → DS → Res (Fl × DS) := fun d env S => .ok (.nx (env.set j (some d)), S)
def nxUnp (is : List Nat) : D → Env → DS → Res (Fl × DS) := fun d env S => match d with
  | .tup ds => if ds.length = is.length then .ok (.nx (setAll env is ds), S) else .bad
  | _ => .bad
def parOS (i j : Nat) (f1 f2 : ME) : MS := fun env S => bindM (f1 env S) fun d S1 => bindM (f2 env S1) fun e S2 => .ok (.nx ((env.set i (some d)).set j (some e)), S2)
theorem s_parO (i j : Nat) (hi : b.own.contains i = true) (hj : b.own.contains j = false) (hst : ∀ t1 t2, PE X e1 t1 → PE X e2 t2 → PS X st (tPar i j (tCons t1 (tCons t2 tNil)))) (h1 : PE X e1 (tN b E f1)) (h2 : PE X e2 (tE b E f2)) : PS X st (tS b E (parOS i j f1 f2)) :=
  PS.imp (hst _ _ h1 h2) fun Dn σ H ⟨F0, O0, F, O, env, S, P, h⟩ => ⟨F0, O0, F, O, env, S, P, (PostS.bind h P.f0 P.o0).imp fun d S1 F1 H1 s1 fit1 I1 k p o hp hd => by
    have P1 := P.grow s1 fit1 I1
    have nO := upd_none fit1.o hp
    have eO : Same O (upd O p o) := same_upd nO
    have P2 : Pre b F0 O0 F1 (upd O p o) (upd H1 p o) σ env S1 := P1.moreO eO (fit1.newO hp hd.ld)
    refine ⟨F0, O0, F1, upd O p o, env, S1, P2, (PostS.bind k P2.f0 P2.o0).imp fun d2 S2 F2 H2 s2 fit2 I2 k v hv => ?_⟩
    have P3 := P2.grow s2 fit2 I2
    refine ⟨_, _, rfl, k _ F2 _ H2 (Pre.set (Pre.adopt P3 (by simpa using hi) upd_same (upd_none P.o0 nO) ?_ ?_) (by simpa using hj) hv)⟩
    · cases d with
      | lst ds => obtain ⟨vs, rfl, hz, q⟩ := hd; exact ⟨vs, rfl, hz, Dens.mono s2 _ _ q⟩
      | dct ks ds => obtain ⟨vs, rfl, hz, q⟩ := hd; exact ⟨vs, rfl, hz, Dens.mono s2 _ _ q⟩
      | _ => exact False.elim hd
    · exact P1.noslot nO⟩
def gCat : D → D → Option D
  | .lst a, .lst b => if a.length + b.length ≤ 1000000 then some (.lst (a ++ b)) else none
  | _, _ => none
theorem n_cat (h : ∀ t u, PE X e1 t → PE X e2 u → PE X e (tOp rCat t u)) (h1 : PE X e1 (tB b E f1)) (h2 : PE X e2 (tB b E f2)) : PE X e (tN b E (binM gCat f1 f2)) :=
  PE.imp (h _ _ h1 h2) fun σ H Q ⟨F0, O0, F, O, env, S, P, h⟩ => ⟨F0, O0, F, O, env, S, P, (Post.bind h).imp fun d S1 F1 H1 s1 fit1 I1 k v hv => ⟨F0, O0, F1, O, env, S1, P.grow s1 fit1 I1, (Post.bind k).imp fun d2 S2 F2 H2 s2 fit2 I2 k u hu => by
    obtain ⟨d', e', k⟩ := Post.ofO k
    have hv := hv.mono s2 (Same.refl _)
    cases d <;> cases d2 <;> simp only [gCat, reduceCtorEq] at e'
    rename_i xs ys
    split at e' <;> cases e'
    rename_i hz
    obtain ⟨p, vs, rfl, q1, z1, q2⟩ := hv
    obtain ⟨p', ws, rfl, q1', z1', q2'⟩ := hu
    refine ⟨p, p', vs, ws, rfl, rfl, q1.elim (fit2.f _ _) (fit2.o _ _), q1'.elim (fit2.f _ _) (fit2.o _ _), by rw [← q2.length, ← q2'.length]; exact Nat.le_trans hz million, fun r hr => ?_⟩
    exact k F2 H2 (Same.refl _) fit2 I2 r _ hr ⟨_, rfl, by rw [List.length_append]; exact Nat.le_trans hz million, q2.append q2'⟩⟩⟩
theorem Pre.frz {F0 O0 F O H : Hp} {σ : L2.St} {env : Env} {S : DS} (i : Nat) (P : Pre b F0 O0 F O H σ env S) : ∃ F' O', Same F F' ∧ Pre { b with own := b.own.filter (· != i) } F0 O0 F' O' H σ env S := by
  have mem : ∀ {j}, j ∈ b.own.filter (· != i) ↔ j ∈ b.own ∧ j ≠ i := fun {j} => by simp
  by_cases hi : i ∈ b.own
  · cases he : env[i]? with
    | none =>
      refine ⟨F, O, Same.refl _, P.fit, P.f0, P.o0, P.inv, fun j d h n => P.slot j d h fun q => ?_, fun j d h n => P.slotO j d h (mem.mp n).1, fun j k a hj hk => P.sep j k a (mem.mp hj).1 (mem.mp hk).1, P.len⟩
      by_cases z : j = i
      · subst z; rw [he] at h; cases h
      · exact n (mem.mpr ⟨q, z⟩)
    | some od =>
      cases od with
      | none =>
        refine ⟨F, O, Same.refl _, P.fit, P.f0, P.o0, P.inv, fun j d h n => P.slot j d h fun q => ?_, fun j d h n => P.slotO j d h (mem.mp n).1, fun j k a hj hk => P.sep j k a (mem.mp hj).1 (mem.mp hk).1, P.len⟩
        by_cases z : j = i
        · subst z; rw [he] at h; cases h
        · exact n (mem.mpr ⟨q, z⟩)
      | some d =>
        obtain ⟨a, h1, h2, h3⟩ := P.slotO i d he hi
        have ex : ∃ o, O a = some o ∧ ObjD b.c F d o := by
          cases d with
          | lst ds => obtain ⟨vs, q, hz, r⟩ := h2; exact ⟨_, q, vs, rfl, hz, r⟩
          | dct ks ds => obtain ⟨kv, q, hz, r⟩ := h2; exact ⟨_, q, kv, rfl, hz, r⟩
          | _ => exact False.elim h2
        obtain ⟨o, ho', hd⟩ := ex
        have nF : F a = none := P.fit.fo a (by rw [ho']; simp)
        have sF : Same F (upd F a o) := same_upd nF
        refine ⟨upd F a o, del O a, sF, P.fit.freeze ho', P.f0.trans sF, fun c u q => ?_, P.inv.mono sF, fun j e h n => ?_, fun j e h n => ?_, fun j k x hj hk => P.sep j k x (mem.mp hj).1 (mem.mp hk).1, P.len⟩
        · have ne : c ≠ a := fun z => by subst z; rw [h3] at q; cases q
          unfold del
          rw [if_neg ne]
          exact P.o0 c u q
        · by_cases z : j = i
          · subst z
            rw [he] at h
            cases h
            exact ⟨_, h1, hd.den nF⟩
          · obtain ⟨v, q1, q2⟩ := P.slot j e h fun q => n (mem.mpr ⟨q, z⟩)
            exact ⟨v, q1, Den.mono sF _ _ q2⟩
        · obtain ⟨hj, z⟩ := mem.mp n
          obtain ⟨x, q1, q2, q3⟩ := P.slotO j e h hj
          have nx : x ≠ a := fun y => z (P.sep j i a hj hi ⟨_, h⟩ ⟨_, he⟩ (y ▸ q1) h1)
          exact ⟨x, q1, q2.mono sF (fun u q => by unfold del; rw [if_neg nx]; exact q), q3⟩
  · have e : b.own.filter (· != i) = b.own := by
      rw [List.filter_eq_self]
      intro j hj
      have : j ≠ i := fun z => hi (z ▸ hj)
      simpa using this
    refine ⟨F, O, Same.refl _, ?_⟩
    rw [e]
    exact P
theorem s_frz (i : Nat) (h : PS X st (tS { b with own := b.own.filter (· != i) } E (retS f))) : PS X st (tS b E (retS f)) := PS.imp h fun Dn σ H ⟨F0, O0, F, O, env, S, P, h⟩ => by
  obtain ⟨F', O', s, P'⟩ := P.frz i
  refine ⟨F0, O0, F', O', env, S, P', ?_⟩
  revert h
  unfold retS
  cases f env S with
  | ok p => obtain ⟨d, S1⟩ := p; exact fun h => h
  | exc n g fs S1 => exact fun h => h
  | bad => exact fun h => h
end
end VS
namespace VS
open PySem PySem.Spec PyProof.Rows L2
section
variable {X : Cx} {b : Bc} {E : XK} {e e1 e2 : Expr} {es : List Expr} {st : Stmt} {f f1 f2 : ME} {pos : Pos} {c : Dc}
theorem n_d0 (h : PE X e tDNewK) : PE X e (tN b E (cM (.dct [] []))) := PE.imp h fun σ H Q ⟨F0, O0, F, O, env, S, P, h⟩ p hp => h F H (Same.refl _) P.fit P.inv p (.dK []) hp ⟨[], rfl, rfl, rfl⟩
end
end VS
namespace VS
open PySem PySem.Spec PyProof.Rows L2
abbrev kLarge : Key := Sum.inr "large"
abbrev kCells : Key := Sum.inr "cells"
abbrev kLeft : Key := Sum.inr "left"
abbrev kTurn : Key := Sum.inr "turn"
def stKV (l : Lay) (S : DS) : List (Key × V) := [(kLarge, .ref l.la), (kCells, .ref l.ca), (kLeft, .int S.left), (kTurn, .int S.turn)]
theorem kne : kLarge ≠ kCells ∧ kLarge ≠ kLeft ∧ kLarge ≠ kTurn ∧ kCells ≠ kLeft ∧ kCells ≠ kTurn ∧ kLeft ≠ kTurn := by decide +kernel
theorem val_large (l : Lay) (S : DS) : valV (stKV l S) kLarge = some (.ref l.la) := valV_pos rfl
theorem val_cells (l : Lay) (S : DS) : valV (stKV l S) kCells = some (.ref l.ca) := (valV_neg kne.1).trans (valV_pos rfl)
theorem val_left (l : Lay) (S : DS) : valV (stKV l S) kLeft = some (.int S.left) := (valV_neg kne.2.1).trans ((valV_neg kne.2.2.2.1).trans (valV_pos rfl))
theorem val_turn (l : Lay) (S : DS) : valV (stKV l S) kTurn = some (.int S.turn) := (valV_neg kne.2.2.1).trans ((valV_neg kne.2.2.2.2.1).trans ((valV_neg kne.2.2.2.2.2).trans (valV_pos rfl)))
theorem put_left (l : Lay) (S : DS) (n : Int) : putK (stKV l S) kLeft (.int n) = stKV l { S with left := n } := by
  unfold putK stKV
  rw [if_pos (by simp)]
  simp only [List.map_cons, List.map_nil, if_neg kne.2.1, if_neg kne.2.2.2.1, if_pos, if_neg (Ne.symm kne.2.2.2.2.2)]
theorem put_turn (l : Lay) (S : DS) (n : Int) : putK (stKV l S) kTurn (.int n) = stKV l { S with turn := n } := by
  unfold putK stKV
  rw [if_pos (by simp)]
  simp only [List.map_cons, List.map_nil, if_neg kne.2.2.1, if_neg kne.2.2.2.2.1, if_pos, if_neg kne.2.2.2.2.2]
theorem stT_sa {l : Lay} {S : DS} {T0 : Hp} : stT l S T0 l.sa = some (.dK (stKV l S)) := if_pos rfl
theorem stT_la {l : Lay} {S : DS} {T0 : Hp} (h : l.sa ≠ l.la) : stT l S T0 l.la = some (.lst (S.large.map V.int)) := (if_neg h.symm).trans (if_pos rfl)
theorem stT_putSa {l : Lay} {S S' : DS} {T0 : Hp} (h : l.sa ≠ l.la) (hl : S'.large = S.large) : upd (stT l S T0) l.sa (.dK (stKV l S')) = stT l S' T0 := by
  funext a
  by_cases e : a = l.sa
  · subst e; rw [upd_same, stT_sa]
  · rw [upd_ne e]; unfold stT; rw [if_neg e, if_neg e, hl]
theorem stT_putLa {l : Lay} {S S' : DS} {T0 : Hp} (h : l.sa ≠ l.la) (h1 : S'.left = S.left) (h2 : S'.turn = S.turn) : upd (stT l S T0) l.la (.lst (S'.large.map V.int)) = stT l S' T0 := by
  funext a
  by_cases e : a = l.la
  · subst e; rw [upd_same, stT_la h]
  · rw [upd_ne e]; unfold stT; rw [if_neg e, if_neg e, h1, h2]
theorem Fits.setT {F O T H : Hp} {p : Addr} {o o' : HO} (h : Fits F O T H) (n : T p = some o) : Fits F O (upd T p o') (upd H p o') where
  t := fun b u e => by
    by_cases hb : b = p
    · subst hb; rw [upd_same] at e ⊢; exact e
    · rw [upd_ne hb] at e ⊢; exact h.t b u e
  f := fun b u e => by
    have nb : b ≠ p := fun z => by subst z; rw [h.ft b (by rw [n]; simp)] at e; cases e
    rw [upd_ne nb]; exact h.f b u e
  o := fun b u e => by
    have nb : b ≠ p := fun z => by subst z; rw [h.ot b (by rw [n]; simp)] at e; cases e
    rw [upd_ne nb]; exact h.o b u e
  fo := h.fo
  ft := fun a q => by
    by_cases hb : a = p
    · subst hb; exact h.ft a (by rw [n]; simp)
    · rw [upd_ne hb] at q; exact h.ft a q
  ot := fun a q => by
    by_cases hb : a = p
    · subst hb; exact h.ot a (by rw [n]; simp)
    · rw [upd_ne hb] at q; exact h.ot a q
  nt := h.nt
  ld := h.ld
section
variable {b : Bc} {F0 O0 F O H : Hp} {σ : L2.St} {env : Env} {S : DS}
theorem Pre.atSa (P : Pre b F0 O0 F O H σ env S) (hs : b.stf = true) : H b.c.l.sa = some (.dK (stKV b.c.l S)) := by
  obtain ⟨T0, tp, fit⟩ := P.fit
  unfold Bc.T at fit
  rw [if_pos hs] at fit
  exact fit.t _ _ stT_sa
theorem Pre.atLa (P : Pre b F0 O0 F O H σ env S) (hs : b.stf = true) : H b.c.l.la = some (.lst (S.large.map V.int)) := by
  obtain ⟨T0, tp, fit⟩ := P.fit
  unfold Bc.T at fit
  rw [if_pos hs] at fit
  exact fit.t _ _ (stT_la (P.inv hs).1)
theorem Pre.setSa {S' : DS} (P : Pre b F0 O0 F O H σ env S) (hs : b.stf = true) (h1 : S'.large = S.large) (h2 : S'.cells = S.cells) : Pre b F0 O0 F O (upd H b.c.l.sa (.dK (stKV b.c.l S'))) σ env S' := by
  refine ⟨?_, P.f0, P.o0, fun q => by have := P.inv q; unfold stI at this ⊢; rw [h1, h2]; exact this, P.slot, P.slotO, P.sep, P.len⟩
  obtain ⟨T0, tp, fit⟩ := P.fit
  refine ⟨T0, tp, ?_⟩
  unfold Bc.T at fit ⊢
  rw [if_pos hs] at fit ⊢
  rw [← stT_putSa (P.inv hs).1 h1]
  exact fit.setT stT_sa
theorem Pre.setLa {S' : DS} (P : Pre b F0 O0 F O H σ env S) (hs : b.stf = true) (h1 : S'.left = S.left) (h2 : S'.turn = S.turn) (h3 : S'.cells = S.cells) (hl : S'.large.length ≤ S.large.length) : Pre b F0 O0 F O (upd H b.c.l.la (.lst (S'.large.map V.int))) σ env S' := by
  refine ⟨?_, P.f0, P.o0, fun q => by have := P.inv q; unfold stI at this ⊢; rw [h3]; exact ⟨this.1, this.2.1, this.2.2.1, Nat.le_trans hl this.2.2.2⟩, P.slot, P.slotO, P.sep, P.len⟩
  obtain ⟨T0, tp, fit⟩ := P.fit
  refine ⟨T0, tp, ?_⟩
  unfold Bc.T at fit ⊢
  rw [if_pos hs] at fit ⊢
  rw [← stT_putLa (P.inv hs).1 h1 h2]
  exact fit.setT (stT_la (P.inv hs).1)
theorem Pre.atSt {i : Nat} (P : Pre b F0 O0 F O H σ env S) (ho : b.own.contains i = false) (h : env[i]? = some (some .st)) : σ[i]? = some (some (.ref b.c.l.sa)) := by
  obtain ⟨v, h1, h2⟩ := P.slot i _ h (by simpa using ho)
  simp only [Den] at h2
  rw [h1, h2]
end
section
variable {X : Cx} {b : Bc} {E : XK} {e e1 e2 o : Expr} {es : List Expr} {st : Stmt} {f f1 f2 : ME} {pos : Pos} {c : Dc}
def stM (i : Nat) (k : DS → D) : ME := fun env S => match env[i]? with | some (some .st) => .ok (k S, S) | _ => .bad
theorem e_stI (i : Nat) (x : Str) (n : DS → Int) (hx : ∀ l S, valV (stKV l S) (Sum.inr x) = some (.int (n S))) (hs : b.stf = true) (ho : b.own.contains i = false) (h : PE X e (tDGet (tVar i) (tC (.str x)))) : PE X e (tE b E (stM i fun S => .int (n S))) := PE.imp h fun σ H Q ⟨F0, O0, F, O, env, S, P, h⟩ => by
  unfold stM at h
  split at h
  · rename_i hg
    exact ⟨_, P.atSt ho hg, _, _, rfl, by rw [← hx b.c.l S]; exact DGet.k (k := Sum.inr x) (P.atSa hs), h F H (Same.refl _) P.fit P.inv _ rfl⟩
  · exact False.elim h
theorem e_left (i : Nat) (hs : b.stf = true) (ho : b.own.contains i = false) (h : PE X e (tDGet (tVar i) (tC (.str "left")))) : PE X e (tE b E (stM i fun S => .int S.left)) := e_stI i "left" (·.left) val_left hs ho h
theorem e_turn (i : Nat) (hs : b.stf = true) (ho : b.own.contains i = false) (h : PE X e (tDGet (tVar i) (tC (.str "turn")))) : PE X e (tE b E (stM i fun S => .int S.turn)) := e_stI i "turn" (·.turn) val_turn hs ho h
theorem e_cells (i : Nat) (hs : b.stf = true) (ho : b.own.contains i = false) (h : PE X e (tDGet (tVar i) (tC (.str "cells")))) : PE X e (tE b E (stM i fun S => .lst (S.cells.map D.int))) := PE.imp h fun σ H Q ⟨F0, O0, F, O, env, S, P, h⟩ => by
  unfold stM at h
  split at h
  · rename_i hg
    have I := P.inv hs
    have hm := million
    exact ⟨_, P.atSt ho hg, _, _, rfl, by rw [← val_cells b.c.l S]; exact DGet.k (k := kCells) (P.atSa hs), h F H (Same.refl _) P.fit P.inv _ ⟨_, _, rfl, I.2.1, by rw [List.length_map]; exact Nat.le_trans I.2.2.1 (Nat.le_trans (by decide) hm), Dens.of_ints _⟩⟩
  · exact False.elim h
theorem shaped_ints (ns : List Int) : SeqAt.shaped (.list (ns.map PyData.int)) = true := by
  have h1 : ∀ ns : List Int, PyData.canLayAll0 (ns.map PyData.int) = true := fun ns => by induction ns with
    | nil => rfl
    | cons n ns ih => simp only [List.map_cons, PyData.canLayAll0, PyData.canLay0, ih, Bool.and_self]
  have h2 : ∀ ns : List Int, PyData.depthAll (ns.map PyData.int) = 0 := fun ns => by induction ns with
    | nil => rfl
    | cons n ns ih => simp only [List.map_cons, PyData.depthAll, PyData.depth, ih, Nat.max_self]
  unfold SeqAt.shaped
  simp only [PyData.canLay0, h1, PyData.depth, h2, Bool.true_and]
  decide
theorem dp_ints {K : PySem.W.Frag} {H : Hp} : ∀ ns : List Int, DpAll K H (ns.map V.int) (ns.map PyData.int)
  | [] => .nil
  | n :: ns => .cons (.int n) (dp_ints ns)
theorem pe_l0 : PE X (.List [] pos) (fun σ H Q => ∀ p, H p = none → Q (.ref p) (upd H p (.lst []))) := PE.imp (pe_lst pa_nil) fun σ H Q k => ⟨Nat.zero_le _, k⟩
def largeT (i : Nat) : MT := fun env S => match env[i]? with | some (some .st) => .ok (!S.large.isEmpty, S) | _ => .bad
theorem t_large (i : Nat) (hs : b.stf = true) (ho : b.own.contains i = false) (h : PT X e (tTest (tOp (rNeD b.c.K) (tDGet (tVar i) (tC (.str "large"))) (fun σ H Q => ∀ p, H p = none → Q (.ref p) (upd H p (.lst [])))))) : PT X e (tT b E (largeT i)) := PT.imp h fun σ H Q ⟨F0, O0, F, O, env, S, P, h⟩ => by
  unfold largeT at h
  split at h
  · rename_i hg
    refine ⟨_, P.atSt ho hg, _, _, rfl, by rw [← val_large b.c.l S]; exact DGet.k (k := kLarge) (P.atSa hs), fun p hp => ?_⟩
    have hla := P.atLa hs
    have np : b.c.l.la ≠ p := ne_of_none hla hp
    have nF := upd_none P.fit.f hp
    refine ⟨.list (S.large.map PyData.int), .list [], .lst (SqL_of (by rw [upd_ne np]; exact hla)) (dp_ints _), .lst (SqL_of upd_same) .nil, shaped_ints _, shaped_ints [], _, rfl, ?_⟩
    have e : (!PyData.eqv (.list (S.large.map PyData.int)) (.list [])) = !S.large.isEmpty := by cases S.large <;> rfl
    rw [e]
    exact h (upd F p (.lst [])) _ (same_upd nF) (P.fit.new hp) (P.inv.mono (same_upd nF))
  · exact False.elim h
def leftS (i : Nat) (f : ME) : MS := fun env S => bindM (f env S) fun d S1 => match d, env[i]? with | .int n, some (some .st) => .ok (.nx env, { S1 with left := n }) | _, _ => .bad
def turnS (i : Nat) (f : ME) : MS := fun env S => bindM (f env S) fun d S1 => match d, env[i]? with | .int n, some (some .st) => .ok (.nx env, { S1 with turn := n }) | _, _ => .bad
theorem stKV_len (l : Lay) (S : DS) : (stKV l S).length < sizeLine := Nat.lt_of_lt_of_le (by decide : 4 < 1000000) million
theorem s_left (i : Nat) (hs : b.stf = true) (ho : b.own.contains i = false) (h : ∀ te, PE X e te → PS X st (tAsg te (L2.gSub (tVar i) (tC (.str "left")) rSetD))) (he : PE X e (tE b E f)) : PS X st (tS b E (leftS i f)) :=
  PS.imp (h _ he) fun Dn σ H ⟨F0, O0, F, O, env, S, P, h⟩ => ⟨F0, O0, F, O, env, S, P, (PostS.bind h P.f0 P.o0).imp fun d S1 F1 H1 s1 fit1 I1 k v hv => by
    have P1 := P.grow s1 fit1 I1
    split at k
    · rename_i n hg
      simp only [Den] at hv
      subst hv
      refine ⟨_, P1.atSt ho hg, ?_⟩
      show rSetD _ _ _ _ _
      unfold rSetD
      refine ⟨_, _, rfl, DPut.k (k := kLeft) (P1.atSa hs) (stKV_len _ _), ?_⟩
      rw [put_left]
      exact k _ F1 O _ (P1.setSa hs rfl rfl)
    · exact False.elim k⟩
theorem s_turn (i : Nat) (hs : b.stf = true) (ho : b.own.contains i = false) (h : ∀ te, PE X e te → PS X st (tAsg te (L2.gSub (tVar i) (tC (.str "turn")) rSetD))) (he : PE X e (tE b E f)) : PS X st (tS b E (turnS i f)) :=
  PS.imp (h _ he) fun Dn σ H ⟨F0, O0, F, O, env, S, P, h⟩ => ⟨F0, O0, F, O, env, S, P, (PostS.bind h P.f0 P.o0).imp fun d S1 F1 H1 s1 fit1 I1 k v hv => by
    have P1 := P.grow s1 fit1 I1
    split at k
    · rename_i n hg
      simp only [Den] at hv
      subst hv
      refine ⟨_, P1.atSt ho hg, ?_⟩
      show rSetD _ _ _ _ _
      unfold rSetD
      refine ⟨_, _, rfl, DPut.k (k := kTurn) (P1.atSa hs) (stKV_len _ _), ?_⟩
      rw [put_turn]
      exact k _ F1 O _ (P1.setSa hs rfl rfl)
    · exact False.elim k⟩
def popLS (i : Nat) : MS := fun env S => match env[i]?, S.large with | some (some .st), n :: ns => .ok (.nx env, { S with left := n, large := ns }) | _, _ => .bad
theorem s_popL (i : Nat) (hs : b.stf = true) (ho : b.own.contains i = false) (h : PS X st (tAsg (tBM X.K "list" rPopAt (tDGet (tVar i) (tC (.str "large"))) (tCons (tC (.int 0)) tNil)) (L2.gSub (tVar i) (tC (.str "left")) rSetD))) : PS X st (tS b E (popLS i)) := PS.imp h fun Dn σ H ⟨F0, O0, F, O, env, S, P, h⟩ => by
  unfold popLS at h
  split at h
  · rename_i n ns hg hl
    have hla := P.atLa hs
    have hm := million
    refine ⟨_, P.atSt ho hg, _, _, rfl, by rw [← val_large b.c.l S]; exact DGet.k (k := kLarge) (P.atSa hs), (show tyV X.K "list" (.ref b.c.l.la) H from .inl ⟨rfl, _, SqL_of hla⟩), b.c.l.la, _, 0, 0, .int n, rfl, rfl, hla, by decide, by decide, ?_, by rw [hl]; rfl, ?_⟩
    · rw [hl]
      simp [seqIndex?]
    · have P1 : Pre b F0 O0 F O (upd H b.c.l.la (.lst (ns.map V.int))) σ env { S with large := ns } := P.setLa (S' := { S with large := ns }) hs rfl rfl rfl (by rw [hl]; simp)
      have e : (S.large.map V.int).eraseIdx 0 = ns.map V.int := by rw [hl]; rfl
      rw [e]
      refine ⟨_, P1.atSt ho hg, ?_⟩
      show rSetD _ _ _ _ _
      unfold rSetD
      refine ⟨_, _, rfl, DPut.k (k := kLeft) (P1.atSa hs) (stKV_len _ _), ?_⟩
      rw [put_left]
      exact h _ F O _ (P1.setSa hs rfl rfl)
  · exact False.elim h
def whileS (t : MT) (g : MS) : Nat → MS
  | 0 => fun _ _ => .bad
  | n + 1 => fun env S => bindM (t env S) fun k S1 => if k = true then (match g env S1 with
    | .ok (.nx env', S') => whileS t g n env' S'
    | .ok (.ct env', S') => whileS t g n env' S'
    | .ok (.bk env', S') => .ok (.nx env', S')
    | .ok (.rt d, S') => .ok (.rt d, S')
    | .exc a b c S' => .exc a b c S'
    | .bad => .bad) else .ok (.nx env, S1)
theorem s_while {body : List Stmt} {t : MT} {g : MS} (n : Nat) (hp : PassesOwn (model X.prog X.w) X.A X.env X.xe) (hc : PT X e (tT b E t)) (hb : PSs X body (tS b E g)) : PS X (.While e body [] pos) (tS b E (whileS t g n)) :=
  PS.imp (ps_while hp hc hb) fun Dn σ H ⟨F0, O0, F, O, env, S, P, h⟩ => by
    refine ⟨fun m σ H => ∃ F O env S, Pre b F0 O0 F O H σ env S ∧ PostS b E F0 O0 (whileS t g m env S) Dn, ⟨n, F, O, env, S, P, h⟩, ?_⟩
    rintro m σ H ⟨F, O, env, S, P, h⟩
    cases m with
    | zero => exact False.elim h
    | succ m =>
      refine ⟨F0, O0, F, O, env, S, P, (PostS.bind h P.f0 P.o0).imp fun k S1 F1 H1 s1 fit1 I1 q => ?_⟩
      have P1 := P.grow s1 fit1 I1
      cases k with
      | false => exact iteF (q _ F1 O H1 P1)
      | true =>
        rw [if_pos rfl] at q
        refine iteT ⟨fun σ' H' => ∃ F O env S, Pre b F0 O0 F O H' σ' env S ∧ PostS b E F0 O0 (whileS t g m env S) Dn, fun σ' H' z => ⟨m, Nat.lt_succ_self m, z⟩, F0, O0, F1, O, env, S1, P1, ?_⟩
        revert q
        cases g env S1 with
        | bad => exact fun q => q
        | exc n f fs S' => exact fun q => q
        | ok p =>
          obtain ⟨a, S'⟩ := p
          cases a with
          | nx env' => exact fun q σ' F' O' H' P' => ⟨F', O', env', S', P', q⟩
          | ct env' => exact fun q σ' F' O' H' P' => ⟨F', O', env', S', P', q⟩
          | bk env' => exact fun q => q
          | rt d => exact fun q => q
end
end VS
namespace VS
open PySem PySem.Spec PyProof.Rows L2
abbrev ltI (a b : List Int) : Bool := lexLt itemOrd (a.map Sum.inl) (b.map Sum.inl)
def rSortTG (K : PySem.W.Frag) : List V → Hp → VK → Prop := fun vs H Q => ∃ (a : Addr) (xs : List V) (nss : List (List Int)), vs = [.ref a] ∧ SqL K H a xs ∧ Paired (fun x ns => TupI K H x ns ∧ ns ≠ []) xs nss ∧
  ∀ (ps : List (V × List Int)) (p : Addr), ps.Perm (xs.zip nss) → ps.Pairwise (fun x y => ltI y.2 x.2 = false) → H p = none → Q (.ref p) (upd H p (.lst (ps.map (·.1))))
theorem items_ints : ∀ {us : List Value} {ns : List Int} (i : Nat), IntsAre us ns → tupItems (fun _ => false) i us = some (ns.map Sum.inl)
  | _, _, _, .nil => rfl
  | _, _, i, .cons n t r => by
    simp only [tupItems, Bool.false_eq_true, if_false, items_ints (i + 1) r, Option.map_some, List.map_cons]
theorem key_tup {h : Heap} {v : Value} {ns : List Int} (x : TS.TupInts h v ns) : G.tupKeyC h (fun _ => false) v = some (ns.map Sum.inl) := by
  obtain ⟨a, xs, rfl, ⟨o, ho, hc, n, hd⟩, hi⟩ := x
  have h1 : G.isTupObj h (.ref a) = true := by simp only [G.isTupObj, ho, hc]; rfl
  unfold G.tupKeyC
  rw [if_pos h1]
  simp only [tupKey, ho, hd]
  exact items_ints 0 hi
theorem tupsOf {h : Heap} : ∀ {us : List Value}, (∀ u ∈ us, ∃ ns, TS.TupInts h u ns ∧ ns ≠ []) → ∃ fs, TupsOf h (fun _ => false) us fs
  | [], _ => ⟨[], .nil⟩
  | u :: us, hu => by
    obtain ⟨fs, r⟩ := tupsOf fun v hv => hu v (List.mem_cons_of_mem _ hv)
    obtain ⟨ns, ⟨a, xs, rfl, ⟨o, ho, hc, n, hd⟩, hi⟩, hne⟩ := hu u List.mem_cons_self
    cases hx : xs.toList with
    | nil => rw [hx] at hi; cases hi; exact absurd rfl hne
    | cons f rest =>
      rw [hx] at hi
      cases hi with
      | cons k t _ => exact ⟨_ :: fs, .cons ⟨a, o, xs, n, rfl, ho, hc, hd, by rw [← Array.getElem?_toList, hx]; rfl, fun _ => ⟨k, t, rfl⟩, fun z => by cases z⟩ r⟩
theorem cr_sortTG {X : Cx} : CallR X (.builtin "sorted") (rSortTG X.K) := by
  intro pins s σ H vs us Q I r h
  obtain ⟨a, xs, nss, rfl, hs, hp, q⟩ := h
  obtain ⟨its, rv, hl, hz⟩ := I.list hs
  rw [Vals.ref1 r]
  have hx : ∀ x ∈ xs, ∃ ns, TupI X.K H x ns ∧ ns ≠ [] := by
    clear q hs rv hz
    induction hp with
    | nil => intro x m; exact absurd m (by simp)
    | cons h1 h2 ih =>
      intro x m
      rcases List.mem_cons.mp m with e | m
      · subst e; exact ⟨_, h1⟩
      · exact ih x m
  obtain ⟨e1, e2⟩ := bkV_refs rv fun x m => by
    obtain ⟨ns, ⟨t, e, _⟩, _⟩ := hx x m
    exact ⟨t, e⟩
  have hT : ∀ u ∈ its, ∃ ns, TS.TupInts s.heap u ns ∧ ns ≠ [] := fun v hv => by
    obtain ⟨t, rfl⟩ := e2 v hv
    have hm : V.ref t ∈ xs := by rw [e1]; exact List.mem_map.mpr ⟨_, hv, rfl⟩
    obtain ⟨ns, ⟨t', e, ht⟩, hn⟩ := hx _ hm
    cases e
    exact ⟨ns, tupI_raw I ht, hn⟩
  have ez : xs.zip nss = its.map fun u => (bkV u, TS.intsOf s.heap u) := by
    have : nss = its.map (TS.intsOf s.heap) := by
      clear q hs hl hz hT hx
      induction rv generalizing nss with
      | nil => cases hp; rfl
      | cons r0 rr ih =>
        cases hp with
        | cons h1 h2 =>
          obtain ⟨⟨t, rfl, ht⟩, _⟩ := h1
          cases r0
          rw [List.map_cons, (tupI_raw I ht).ints, ih _ h2 (by rw [List.map_cons] at e1; exact (List.cons.inj e1).2) fun u m => e2 u (List.mem_cons_of_mem _ m)]
    rw [this, e1]
    clear q hs hl hz hT hx rv e1 this hp e2
    induction its with
    | nil => rfl
    | cons u us ih => simp [ih]
  obtain ⟨fs, hfs⟩ := tupsOf hT
  refine G.sorted_tups (shape := fun _ => false) hl.isList hfs (fun v hv => ?_) (by rw [← rv.length]; exact hz) fun st' p1 p2 p3 => ?_
  · obtain ⟨ns, t, _⟩ := hT v hv
    exact ⟨_, key_tup t⟩
  · have hperm : ((arrOf st').map (·.2)).toList.Perm its := by
      have z := (Array.perm_iff_toList_perm.mp p1).map (·.2)
      rw [pairsOf_toList] at z
      rw [Array.toList_map]
      have zz : ∀ l : List Value, List.map (·.2) (l.zip l) = l := fun l => by induction l <;> simp_all
      exact z.trans (List.Perm.of_eq (zz its))
    have hsame : ∀ p ∈ (arrOf st').toList, p.1 = p.2 ∧ p.1 ∈ its := fun p hp' => by
      have m := (Array.perm_iff_toList_perm.mp p1).mem_iff.mp hp'
      rw [pairsOf_toList] at m
      obtain ⟨e, hm⟩ := mem_zip_self m
      exact ⟨e, hm⟩
    obtain ⟨ep, he'⟩ := PyProof.Rows.sortedAll_at s.heap its ((arrOf st').map (·.2))
    have h3 : ∀ u ∈ ((arrOf st').map (·.2)).toList, ∃ a, u = Value.ref a := fun u hu => e2 u (hperm.mem_iff.mp hu)
    have hpv : (((arrOf st').map (·.2)).toList.map fun u => (bkV u, TS.intsOf s.heap u)).Perm (xs.zip nss) := by rw [ez]; exact hperm.map _
    have em : (((arrOf st').map (·.2)).toList.map fun u => (bkV u, TS.intsOf s.heap u)).map (·.1) = ((arrOf st').map (·.2)).toList.map bkV := by rw [List.map_map]; rfl
    have hlen : (((arrOf st').map (·.2)).toList.map bkV).length ≤ sizeLine := by
      rw [List.length_map, hperm.length_eq, ← rv.length]
      exact hz
    refine ⟨.ref _, upd H (s.heap.objs.size + 1) (.lst (((arrOf st').map (·.2)).toList.map bkV)), I.laid (t' := s.toks) (fun _ _ => PyProof.Rows.sortedAll_old) (Nat.le_succ _) ⟨hlen, _, ep, bkV_vals h3, he'⟩, rfl, ?_⟩
    rw [← em]
    refine q _ _ hpv ?_ (I.hok.fresh (Nat.le_succ _))
    rw [List.pairwise_map, Array.toList_map, List.pairwise_map]
    rw [List.pairwise_iff_getElem]
    intro i j hi hj hij
    have hj' : j < (arrOf st').size := by simpa using hj
    have hi' : i < (arrOf st').size := by simpa using hi
    have hsz : (arrOf st').size = (pairsOf its).size := p1.size_eq
    have k := p2 i j (Nat.le_of_lt hij) (by rw [← hsz]; exact hj')
    have kk : ∀ i (h : i < (arrOf st').size), KK (G.tupKindC s.heap fun _ => false) (arrOf st') i = (TS.intsOf s.heap (arrOf st')[i].2).map Sum.inl := fun i h => by
      unfold KK
      rw [Array.getElem?_eq_getElem h]
      obtain ⟨e, m⟩ := hsame (arrOf st')[i] (by simp)
      obtain ⟨ns, t, _⟩ := hT _ m
      show (G.tupKeyC s.heap (fun _ => false) (arrOf st')[i].1).getD [] = _
      rw [key_tup t, ← e, t.ints]
      rfl
    rw [kk i hi', kk j hj'] at k
    simpa [KeyOrd.kle] using k
def intsOfD : List D → Option (List Int)
  | [] => some []
  | .int i :: ds => (intsOfD ds).map (i :: ·)
  | _ => none
theorem intsOfD_some : ∀ {ds : List D} {ns : List Int}, intsOfD ds = some ns → ds = ns.map D.int
  | [], _, h => by cases h; rfl
  | .int i :: ds, ns, h => by
    simp only [intsOfD, Option.map_eq_some_iff] at h
    obtain ⟨r, h1, rfl⟩ := h
    rw [intsOfD_some h1, List.map_cons]
  | .non :: _, _, h => by simp [intsOfD] at h
  | .bl _ :: _, _, h => by simp [intsOfD] at h
  | .str _ :: _, _, h => by simp [intsOfD] at h
  | .tup _ :: _, _, h => by simp [intsOfD] at h
  | .lst _ :: _, _, h => by simp [intsOfD] at h
  | .dct _ _ :: _, _, h => by simp [intsOfD] at h
  | .exc _ _ _ :: _, _, h => by simp [intsOfD] at h
  | .cls _ :: _, _, h => by simp [intsOfD] at h
  | .st :: _, _, h => by simp [intsOfD] at h
  | .opq _ :: _, _, h => by simp [intsOfD] at h
  | .odk _ :: _, _, h => by simp [intsOfD] at h
  | .dcT _ _ :: _, _, h => by simp [intsOfD] at h
  | .ins _ _ _ :: _, _, h => by simp [intsOfD] at h
  | .scr _ :: _, _, h => by simp [intsOfD] at h
theorem intsOfD_ints : ∀ ns : List Int, intsOfD (ns.map D.int) = some ns
  | [] => rfl
  | n :: ns => by simp only [List.map_cons, intsOfD, intsOfD_ints ns, Option.map_some]
def tupsOfD : List D → Option (List (List Int))
  | [] => some []
  | .tup es :: ds => match intsOfD es, tupsOfD ds with
    | some ns, some r => if ns.isEmpty then none else some (ns :: r)
    | _, _ => none
  | _ => none
def tupDI (ns : List Int) : D := .tup (ns.map D.int)
theorem tupsOfD_some : ∀ {ds : List D} {nss : List (List Int)}, tupsOfD ds = some nss → ds = nss.map tupDI ∧ ∀ ns ∈ nss, ns ≠ []
  | [], _, h => by cases h; exact ⟨rfl, fun _ m => absurd m (by simp)⟩
  | .tup es :: ds, nss, h => by
    simp only [tupsOfD] at h
    split at h
    · rename_i ns r e1 e2
      split at h <;> cases h
      rename_i hne
      obtain ⟨h1, h2⟩ := tupsOfD_some e2
      rw [intsOfD_some e1, h1]
      refine ⟨rfl, fun n m => ?_⟩
      rcases List.mem_cons.mp m with e | m
      · subst e; intro z; subst z; exact hne rfl
      · exact h2 n m
    · cases h
  | .non :: _, _, h => by simp [tupsOfD] at h
  | .bl _ :: _, _, h => by simp [tupsOfD] at h
  | .str _ :: _, _, h => by simp [tupsOfD] at h
  | .int _ :: _, _, h => by simp [tupsOfD] at h
  | .lst _ :: _, _, h => by simp [tupsOfD] at h
  | .dct _ _ :: _, _, h => by simp [tupsOfD] at h
  | .exc _ _ _ :: _, _, h => by simp [tupsOfD] at h
  | .cls _ :: _, _, h => by simp [tupsOfD] at h
  | .st :: _, _, h => by simp [tupsOfD] at h
  | .opq _ :: _, _, h => by simp [tupsOfD] at h
  | .odk _ :: _, _, h => by simp [tupsOfD] at h
  | .dcT _ _ :: _, _, h => by simp [tupsOfD] at h
  | .ins _ _ _ :: _, _, h => by simp [tupsOfD] at h
  | .scr _ :: _, _, h => by simp [tupsOfD] at h
theorem tupsOfD_tups : ∀ nss : List (List Int), (∀ ns ∈ nss, ns ≠ []) → tupsOfD (nss.map tupDI) = some nss
  | [], _ => rfl
  | n :: nss, h => by
    have h1 := h n List.mem_cons_self
    simp only [List.map_cons, tupDI, tupsOfD, intsOfD_ints, tupsOfD_tups nss fun m hm => h m (List.mem_cons_of_mem _ hm)]
    cases n with
    | nil => exact absurd rfl h1
    | cons _ _ => rfl
theorem inl_inj : ∀ {a b : List Int}, a.map (Sum.inl (β := List Nat)) = b.map Sum.inl → a = b
  | [], [], _ => rfl
  | x :: a, y :: b, h => by
    simp only [List.map_cons, List.cons.injEq, Sum.inl.injEq] at h
    rw [h.1, inl_inj h.2]
  | [], _ :: _, h => by simp at h
  | _ :: _, [], h => by simp at h
theorem paired_imp {α β : Type} {R R' : α → β → Prop} (f : ∀ a b, R a b → R' a b) {l : List α} {m : List β} (h : Paired R l m) : Paired R' l m := by
  induction h with
  | nil => exact .nil
  | cons a b ih => exact .cons (f _ _ a) ih
theorem paired_mem {α β : Type} {R : α → β → Prop} {l : List α} {m : List β} (h : Paired R l m) : ∀ x ∈ l.zip m, R x.1 x.2 := by
  induction h with
  | nil => intro x h; simp at h
  | cons a b ih =>
    intro x h
    rw [List.zip_cons_cons] at h
    rcases List.mem_cons.mp h with e | h
    · subst e; exact a
    · exact ih x h
theorem paired_tups {c : Dc} {F H : Hp} (s : Same F H) : ∀ (nss : List (List Int)) (us : List V), (∀ ns ∈ nss, ns ≠ []) → Dens c F (nss.map tupDI) us → Paired (fun x ns => (TupI c.K H x ns ∧ ns ≠ []) ∧ Den c F (tupDI ns) x) us nss
  | [], us, _, h2 => by simp only [List.map_nil, Dens] at h2; subst h2; exact .nil
  | n :: nss, us, hne, h2 => by
    simp only [List.map_cons, Dens] at h2
    obtain ⟨v, r, rfl, hv, hr⟩ := h2
    refine .cons ⟨⟨?_, hne n List.mem_cons_self⟩, hv⟩ (paired_tups s nss r (fun m hm => hne m (List.mem_cons_of_mem _ hm)) hr)
    obtain ⟨t, ws, rfl, hs, _, hd⟩ := hv
    have := hd.ints
    subst this
    exact ⟨t, rfl, sqT_mono s hs⟩
def leI (a b : List Int) : Bool := !ltI b a
theorem leI_anti {a b : List Int} (h1 : leI a b = true) (h2 : leI b a = true) : a = b := by
  have e := (listOrd itemOrd).total (a.map Sum.inl) (b.map Sum.inl) (by simpa [leI] using h2) (by simpa [leI] using h1)
  exact inl_inj e
theorem leI_tr {a b c : List Int} (h1 : leI a b = true) (h2 : leI b c = true) : leI a c = true := by
  have := KeyOrd.kle_trans (O := listOrd itemOrd) (a := a.map Sum.inl) (b := b.map Sum.inl) (c := c.map Sum.inl) (by simpa [leI, KeyOrd.kle] using h1) (by simpa [leI, KeyOrd.kle] using h2)
  simpa [leI, KeyOrd.kle] using this
theorem leI_tot (a b : List Int) : (leI a b || leI b a) = true := by
  cases h : ltI b a with
  | false => simp [leI, h]
  | true =>
    have := KeyOrd.klt_asymm (O := listOrd itemOrd) (a := b.map Sum.inl) (b := a.map Sum.inl) h
    simp only [KeyOrd.kle] at this
    simp [leI, ltI, this]
def gSorted : List D → Option D
  | [.lst ds] => if ds.length ≤ 1000000 then (match intsOfD ds with
      | some ns => some (.lst ((ns.mergeSort fun a b => decide (a ≤ b)).map D.int))
      | none => (tupsOfD ds).map fun nss => .lst ((nss.mergeSort leI).map tupDI)) else none
  | _ => none
def rSort2 (K : PySem.W.Frag) : List V → Hp → VK → Prop := fun vs H Q => rSortTG K vs H Q ∨ rSortedI K vs H Q
theorem cr_sort2 {X : Cx} : CallR X (.builtin "sorted") (rSort2 X.K) := fun pins s σ H vs us Q I r h => h.elim (cr_sortTG pins s σ H vs us Q I r) (cr_sortedI pins s σ H vs us Q I r)
theorem zip_snd {α β : Type} : ∀ {l : List α} {m : List β}, l.length = m.length → (l.zip m).map (·.2) = m
  | [], [], _ => rfl
  | _ :: l, _ :: m, h => by simp only [List.zip_cons_cons, List.map_cons, zip_snd (by simpa using h)]
  | [], _ :: _, h => by simp at h
  | _ :: _, [], h => by simp at h
theorem r_sorted {c : Dc} : RuleNN c (rSort2 c.K) gSorted := by
  intro F O T H ds vs d' Q fit hv g q
  match ds, g with
  | [.lst ds], g =>
    simp only [gSorted] at g
    split at g
    · rename_i hz
      obtain ⟨v, r, rfl, ⟨a, us, rfl, h1, z, h2⟩, h⟩ := paired1 hv
      cases paired0 h
      have hs : SqL c.K H a us := SqL_of (h1.elim (fit.f _ _) (fit.o _ _))
      split at g
      · rename_i ns e
        cases g
        have e2 := intsOfD_some e
        subst e2
        have e3 := h2.ints
        subst e3
        refine .inr ⟨a, ns, rfl, hs, fun ns' p hp hq hn => ?_⟩
        have e4 : ns' = ns.mergeSort fun a b => decide (a ≤ b) := by
          refine List.Perm.eq_of_pairwise (le := fun a b : Int => a ≤ b) (fun a b _ _ x y => by omega) hq ?_ (hp.trans (List.mergeSort_perm _ _).symm)
          have := List.pairwise_mergeSort (le := fun a b : Int => decide (a ≤ b)) (fun a b c x y => by simp at *; omega) (fun a b => by simp; omega) ns
          exact this.imp fun h => by simpa using h
        subst e4
        exact q F H p _ (Same.refl _) fit hn ⟨_, rfl, by rw [List.length_map, List.length_mergeSort]; simpa using z, Dens.of_ints _⟩
      · rename_i e0
        simp only [Option.map_eq_some_iff] at g
        obtain ⟨nss, e, rfl⟩ := g
        obtain ⟨e2, hne⟩ := tupsOfD_some e
        subst e2
        have hp := paired_tups fit.f nss us hne h2
        have hlen : us.length = nss.length := by have := h2.length; simp at this; omega
        refine .inl ⟨a, us, nss, rfl, hs, paired_imp (fun _ _ z => z.1) hp, fun ps p hperm hpw hn => ?_⟩
        have hall : ∀ x ∈ ps, Den c F (tupDI x.2) x.1 := fun x hx => (paired_mem hp x (hperm.mem_iff.mp hx)).2
        have hden : ∀ l : List (V × List Int), (∀ x ∈ l, Den c F (tupDI x.2) x.1) → Dens c F ((l.map (·.2)).map tupDI) (l.map (·.1)) := fun l => by
          induction l with
          | nil => exact fun _ => rfl
          | cons x l ih => exact fun h => ⟨_, _, rfl, h x List.mem_cons_self, ih fun y hy => h y (List.mem_cons_of_mem _ hy)⟩
        have em : ps.map (·.2) = nss.mergeSort leI := by
          refine List.Perm.eq_of_pairwise (le := fun a b => leI a b = true) (fun a b _ _ x y => leI_anti x y) ?_ (List.pairwise_mergeSort (le := leI) (fun a b c => leI_tr) leI_tot nss) ?_
          · rw [List.pairwise_map]
            exact hpw.imp fun h => by simp [leI, h]
          · have := hperm.map (·.2)
            rw [zip_snd hlen] at this
            exact this.trans (List.mergeSort_perm _ _).symm
        rw [← em] at q
        refine q F H p _ (Same.refl _) fit hn ⟨_, rfl, ?_, hden ps hall⟩
        have e5 := congrArg List.length em
        rw [List.length_mergeSort] at e5
        rw [List.length_map, e5]
        simpa using z
    · cases g
end VS
namespace VS
open PySem PySem.Spec PyProof.Rows L2
def reprOk (p : PyData) : Bool := p.showable && !p.hasDict && decide (p.depth ≤ 64) && decide (p.shown.length ≤ 1000000)
def gRepr : List D → Option D
  | [.lst ds] => (toPy (.lst ds)).bind fun p => if reprOk p = true then some (.str p.shown) else none
  | [.tup ds] => (toPy (.tup ds)).bind fun p => if reprOk p = true then some (.str p.shown) else none
  | _ => none
def rRepr (K : PySem.W.Frag) : List V → Hp → VK → Prop := fun vs H Q => ∃ a p, vs = [.ref a] ∧ Dp K H (.ref a) p ∧ reprOk p = true ∧ Q (.str p.shown) H
theorem cr_repr {X : Cx} (hg : X.A.guards = some []) (hu : X.A.units + 100 < cLine) : CallR X (.builtin "repr") (rRepr X.K) := by
  intro pins s σ H vs us Q I r h
  obtain ⟨a, p, rfl, hd, hok, q⟩ := h
  rw [Vals.ref1 r]
  simp only [reprOk, Bool.and_eq_true, Bool.not_eq_true', decide_eq_true_eq] at hok
  obtain ⟨⟨⟨h1, h2⟩, h3⟩, h4⟩ := hok
  obtain ⟨as, rd⟩ := Dp.reads I p (.ref a) (.ref a) hd rfl
  refine repr_of_reads' rd h1 (fun z => by rw [h2] at z; cases z) hg (by omega) (fun b o e => e) (fun h' u tk hk => ?_) (Nat.le_trans h4 million)
  exact ⟨.str p.shown, H, I.kept (t' := tk) hk, ⟨u, rfl⟩, q⟩
theorem r_repr {c : Dc} : RuleN c (rRepr c.K) gRepr := by
  intro F O T H ds vs d' Q fit hv g q
  match ds, g with
  | [.lst ds], g =>
    simp only [gRepr, Option.bind_eq_some_iff] at g
    obtain ⟨p, e, g⟩ := g
    split at g <;> cases g
    rename_i hok
    obtain ⟨v, r, rfl, hd, h⟩ := paired1 hv
    cases paired0 h
    have dp := dpB_of fit hd e
    obtain ⟨a, us, rfl, _⟩ := hd
    exact ⟨a, p, rfl, dp, hok, q _ F H (Same.refl _) fit rfl⟩
  | [.tup ds], g =>
    simp only [gRepr, Option.bind_eq_some_iff] at g
    obtain ⟨p, e, g⟩ := g
    split at g <;> cases g
    rename_i hok
    obtain ⟨v, r, rfl, hd, h⟩ := paired1 hv
    cases paired0 h
    have dp := dpB_of fit hd e
    obtain ⟨a, us, rfl, _⟩ := hd
    exact ⟨a, p, rfl, dp, hok, q _ F H (Same.refl _) fit rfl⟩
end VS
namespace VS
open PySem PySem.Spec PyProof.Rows L2
def pick {α : Type} (π : List Nat) (l : List α) : List α := π.filterMap fun j => l[j]?
def pickK {α : Type} (m : Nat) (π : List Nat) (us ws : List α) : List α := if us.length = 0 ∧ ws.length = m then pick π ws else []
theorem Vals.pick {vs : List V} {us : List Value} (h : Vals vs us) : ∀ π : List Nat, Vals (VS.pick π vs) (VS.pick π us)
  | [] => .nil
  | j :: π => by
    unfold VS.pick
    rw [List.filterMap_cons, List.filterMap_cons]
    cases hv : vs[j]? with
    | none =>
      have : us[j]? = none := by
        rw [List.getElem?_eq_none_iff] at hv ⊢
        rw [← h.length]; exact hv
      rw [this]
      exact Vals.pick h π
    | some v =>
      obtain ⟨u, hu, r⟩ := h.get hv
      rw [hu]
      exact .cons r (Vals.pick h π)
theorem Dens.pick {c : Dc} {F : Hp} {ds : List D} {vs : List V} (h : Dens c F ds vs) : ∀ π : List Nat, Dens c F (VS.pick π ds) (VS.pick π vs)
  | [] => rfl
  | j :: π => by
    unfold VS.pick
    rw [List.filterMap_cons, List.filterMap_cons]
    cases hv : ds[j]? with
    | none =>
      have : vs[j]? = none := by
        rw [List.getElem?_eq_none_iff] at hv ⊢
        rw [← h.length]; exact hv
      rw [this]
      exact Dens.pick h π
    | some d =>
      obtain ⟨v, hv, hd⟩ := Dens.get' h hv
      rw [hv]
      exact ⟨v, _, rfl, hd, Dens.pick h π⟩
theorem kb_of {K : PySem.W.Frag} {x qual : Str} {st : Stmt} {f : Addr} {fd : FuncData} (F : Fun K x qual st f fd) {ps ks : List Str} (π : List Nat) (hps : ps ≠ [])
    (h : ∀ (kV doc pm : Value) (an : Option Addr) (cdv ct : Value) (ws : List Value), ws.length = ks.length → bindArgs (PySem.W.fnOf x qual (defArgs st) (defBody st) (defScope st) .none kV doc pm an cdv ct) ⟨[], ks.zip ws⟩ = pure (ps.zip (pick π ws))) :
    KBinds K fd ps ks (pickK ks.length π) (pickK ks.length π) where
  to := fun s us ws X hl => by
    obtain ⟨oc, od, kV, doc, pm, an, cdv, ct, osl, rfl, lk, hcd⟩ := F.ex
    unfold pickK at hl ⊢
    by_cases hc : us.length = 0 ∧ ws.length = ks.length
    · rw [if_pos hc] at hl ⊢
      have e : us = [] := List.eq_nil_of_length_eq_zero hc.1
      subst e
      exact .of_eq (h kV doc pm an cdv ct ws hc.2)
    · rw [if_neg hc] at hl
      exact absurd (List.eq_nil_of_length_eq_zero hl.symm) hps
  rel := fun {vs us zs ws} r rz => by
    unfold pickK
    rw [r.length, rz.length]
    by_cases hc : us.length = 0 ∧ ws.length = ks.length
    · rw [if_pos hc, if_pos hc]; exact Vals.pick rz π
    · rw [if_neg hc, if_neg hc]; exact .nil
section
variable {X : Cx} {CX : CXT} {k : Nat} {f : Addr} {fd : FuncData} {ps ks : List Str} {sp : Sp} {E : XK} {x : Str} {p pos : Pos} {kws : List Keyword} {tk : TA} {g : List Value → List Value → List Value} {gV : List V → List V → List V}
theorem pe_callK0 (F : FnOk X.prog X.w X.K X.mg X.base CX k f fd ps sp) (hr : Room k X.A) (hg : Gl X x) (hm : X.mg x = some (.ref f)) (hk : PySem.W.keepIn X.K (.ref f) = true) (hb : KBinds X.K fd ps ks g gV) (hx : Passes CX X E) (hkw : PK X kws tk)
    (hall : (backToKw pos (keywordEach kws X.env)).all (·.1.isSome) = true := by rfl) (hks : (backToKw pos (keywordEach kws X.env)).filterMap (·.1) = ks := by rfl) (hdb : (x == ("__debug__" : Str)) = false := by decide)
    (hpl : ((backTo pos (starEach [] X.env)).any (·.1) || (backToKw pos (keywordEach kws X.env)).any (·.1.isNone)) = false := by rfl) :
    PE X (.Call (.Name x p) [] kws pos) (fun σ H Q => tk σ H fun zs H2 => sp (gV [] zs) H2 Q E) := by
  constructor
  intro pins s σ H Q I h
  apply wpAny_Call_Name_kw
  apply ld_glob I hg hm _ hdb
  apply PySem.W.callWith_KW0 (h₀ := X.base) I.ok.mod.kin hk hall _ hpl
  apply thn (hkw.run pos pins s σ H _ I h)
  intro ws s2 hq
  obtain ⟨zs, H2, I2, rz, q2⟩ := hq
  have := run_fnk (vs := []) (us := []) F hr hb hx I2 .nil rz q2
  rw [← hks] at this
  exact ⟨I2.kIn, this⟩
end
section
variable {X : Cx} {b : Bc} {E : XK} {e : Expr} {kws : List Keyword} {f : ME} {g : MA} {m n : Nat} {nm : Option Str} {kpos : Pos}
theorem PK.imp {t t' : TA} (h : PK X kws t) (i : ∀ σ H Q, t' σ H Q → t σ H Q) : PK X kws t' := ⟨fun p pins s σ H Q I q => h.run p pins s σ H Q I (i σ H Q q)⟩
theorem k_nil : PK X [] (tA b E nilA) := PK.imp pk_nil fun σ H Q ⟨F0, O0, F, O, env, S, P, h⟩ => h F H (Same.refl _) P.fit P.inv [] rfl
theorem k_cons (h : PE X e (tE b E f)) (hr : PK X kws (tA b E g)) : PK X (⟨nm, e, kpos⟩ :: kws) (tA b E (consA f g)) :=
  PK.imp (pk_cons h hr) fun σ H Q ⟨F0, O0, F, O, env, S, P, h⟩ => ⟨F0, O0, F, O, env, S, P, (Post.bind h).imp fun d S1 F1 H1 s1 fit1 I1 k v hv => ⟨F0, O0, F1, O, env, S1, P.grow s1 fit1 I1, (Post.bind k).imp fun ds S2 F2 H2 s2 fit2 I2 k vs hvs =>
    k F2 H2 (Same.refl _) fit2 I2 (v :: vs) (Dens.cons (Den.mono s2 _ _ hv) hvs)⟩⟩
def callPK (G : List D → RP) (n : Nat) (π : List Nat) (g : MA) : ME := fun env S => bindM (g env S) fun ds S1 => if ds.length = n ∧ (pick π ds).length = π.length then liftP (G (pick π ds)) S1 else .bad
theorem e_callPK {G : List D → RP} (π : List Nat) (hc : b.c.K = X.K ∧ b.c.mg = X.mg) (hm : π.length = m) (h : ∀ t, PK X kws t → PE X e (fun σ H Q => t σ H fun zs H2 => spP X.K X.mg m G (pickK n π [] zs) H2 Q E)) (ha : PK X kws (tA b E g)) :
    PE X e (tE b E (callPK G n π g)) := PE.imp (h _ ha) fun σ H Q ⟨F0, O0, F, O, env, S, P, h⟩ => ⟨F0, O0, F, O, env, S, P, (Post.bind h).imp fun ds S1 F1 H1 s1 fit1 I1 k vs hvs => by
    by_cases hz : ds.length = n ∧ (pick π ds).length = π.length
    · rw [if_pos hz] at k
      obtain ⟨⟨K, mg, l⟩, stf, TP, own⟩ := b
      obtain ⟨T0, tp, fit1⟩ := fit1
      obtain ⟨h1, h2⟩ := hc
      cases h1
      cases h2
      have hv2 := hvs.pick π
      have e : pickK n π [] vs = pick π vs := by
        unfold pickK
        rw [if_pos ⟨rfl, by rw [← hvs.length]; exact hz.1⟩]
      rw [e]
      refine ⟨by rw [← hv2.length, hz.2]; exact hm, l, F1, O, _, pick π ds, fit1, hv2, ?_⟩
      revert k
      cases hG : G (pick π ds) with
      | ok d => exact fun k v F' H' s f dv => k F' H' s ⟨T0, TP.mono tp s, f⟩ (I1.mono s) v dv
      | exc n f fs => exact fun k cls dd F' H' s f x => k cls dd F' H' s ⟨T0, TP.mono tp s, f⟩ (I1.mono s) x
      | bad => exact fun k => False.elim k
    · rw [if_neg hz] at k
      exact False.elim k⟩
end
end VS
namespace VS
open PySem PySem.Spec PyProof.Rows L2
section
variable {X : Cx} {pins : List (Addr × Obj)} {σ : L2.St} {H : Hp} {s : Shared}
theorem Inv.track {a : Addr} {oe : Obj} {u : HO} (I : Inv X pins σ H s) (na : H a = none) (n0 : X.s_0.heap.get? a = none) (ho : s.heap.get? a = some oe) (nc : ∀ v, oe.data ≠ .cell v) (nL : a ≠ X.env.locals) (np : ∀ p ∈ X.pn ++ pins, p.1 ≠ a)
    (new : ObjOk X.prog X.w (upd H a u) s.heap a u) : Inv X pins σ (upd H a u) s where
  ok := I.ok
  os := I.os
  bare := I.bare
  base := {
    keep := I.base.keep
    slot := I.base.slot
    free := fun b o e n hx => by
      have nb : b ≠ a := fun z => by subst z; rw [n0] at e; cases e
      rw [upd_ne nb]
      exact I.base.free b o e n hx
    there := I.base.there
    tups := fun b xs e => by
      have q := I.base.tups b xs e
      rw [upd_ne (ne_of_none q na)]
      exact q
    frzs := fun b o v e => by
      have q := I.base.frzs b o v e
      rw [upd_ne (ne_of_none q na)]
      exact q
    tbls := fun b ps e => by
      obtain ⟨more, q⟩ := I.base.tbls b ps e
      exact ⟨more, by rw [upd_ne (ne_of_none q na)]; exact q⟩ }
  loc := I.loc
  cell := I.cell
  free := by rw [upd_ne (Ne.symm nL)]; exact I.free
  freeC := fun x c e => by
    have nac : c ≠ a := fun z => by
      subst z
      obtain ⟨v, o, q1, q2⟩ := I.cell x c e
      rw [ho] at q1
      cases q1
      exact nc v q2
    rw [upd_ne nac]
    exact I.freeC x c e
  pin := fun p hp => by
    obtain ⟨h1, h2, h3⟩ := I.pin p hp
    exact ⟨h1, by rw [upd_ne (np p hp)]; exact h2, h3⟩
  hok := fun b o e => by
    by_cases hb : b = a
    · subst hb
      rw [upd_same] at e
      cases e
      exact new
    · rw [upd_ne hb] at e
      exact (I.hok b o e).stay (fun _ _ _ q => q) (fun c q => by rw [upd_ne (ne_of_none q na)]; exact q) fun c xs q => by rw [upd_ne (ne_of_none q na)]; exact q
  len := I.len
end
def wCatch (K : PySem.W.Frag) (c : Value) (m i : Nat) (ts : Addr → Value → Option Addr → TS) (D : Ends) : WX := fun cls d σ H => PySem.W.exmOne K cls c = some true ∧
  ∀ a, H a = none → σ.length = m → ts a cls d { nx := fun σ' H' => H' a = none ∧ D.nx (σ'.set i none) (upd H' a (ExO cls d a)), rt := fun _ _ => False, bk := fun _ _ => False, ct := fun _ _ => False } (σ.set i (some (.ref a))) H
section
variable {X : Cx} {x n : Str} {c : Value} {i : Nat} {body suite : List Stmt} {b₀ : Stmt} {np pos pos' : Pos} {tb : WX → TS} {ts : Addr → Value → Option Addr → TS}
theorem ps_catch (hs : X.stack = X.env :: X.outer) (hf : X.env.frame = some X.env.locals) (hN : X.N.Nodup) (hi : X.N[i]? = some n) (hln : X.env.kindOf n = some .local) (hex : X.ex = []) (hc : Names X x c)
    (hb : ∀ (W : WX) (pn : List (Addr × Obj)) (xe : Value → Shared → Prop), Takes (X.tr pn xe) W → PassesOwn (model X.prog X.w) X.A X.env xe → PSs (X.tr pn xe) body (tb W))
    (hsu : ∀ (a : Addr) (oe : Obj) (cls : Value) (d : Option Addr) (pn : List (Addr × Obj)), PSs (X.suite a ((a, oe) :: pn)) (b₀ :: suite) (ts a cls d)) :
    PS X (.Try body [.ExceptHandler (some (.Name x np)) (some n) (b₀ :: suite) pos'] [] [] pos) (fun D σ H => tb (wCatch X.K c X.N.length i ts D) D σ H) := by
  constructor
  intro pins s σ H D I h
  have ok := I.ok
  have hA : X.A.frames = some (X.env :: X.outer) := ok.frames.trans (by rw [hs])
  have hcatch : Takes (X.tr (X.pn ++ pins) fun e s₁ => wpAny (model X.prog X.w) X.A (noteFrame e X.env) (fun _ s₂ => wpAny (model X.prog X.w) X.A (setFlight e none) (fun _ s₃ =>
      wpAny (model X.prog X.w) X.A (handleBy e X.env [.ExceptHandler (some (.Name x np)) (some n) (b₀ :: suite) pos']) (SP X pins D) X.xe s₃) X.xe s₂) X.xe s₁) (wCatch X.K c X.N.length i ts D) := by
    intro u s' xx
    obtain ⟨a, B, t0, pins', σ', H', cls, d, rfl, J0, nb, up, sky, na, os, ag, hyes, hgo⟩ := xx
    have J := J0.ofTry ok
    have skyX : Sky B (X.env :: X.outer) a (Zc cls d) X.env.locals s'.heap := hs ▸ sky
    have B0 : B.get? a = none := by
      rcases skyX with q | q | q
      · exact q.2.1
      · exact q.2.1
      · exact q.2.1
    show wpAny (model X.prog X.w) X.A (noteFrame (.ref a) X.env) _ _ _
    refine Sky.land Zc.steady hA hf skyX fun h3 fl3 up3 => ?_
    obtain ⟨o3, v3, g3, z3, d3⟩ := fl3.there
    have J3 : Inv X pins σ' H' { s' with heap := h3 } := J.landed nb fl3.1 (up.trans up3) os ag
    -- no frame, made since
    have nofr : a ∉ frs (X.env :: X.outer) := fun hm => by
      obtain ⟨_, o', q, hnf⟩ := fl3.2.2.1.mem hm
      rw [g3] at q
      cases q
      exact hnf _ d3
    have t0a : t0.heap.get? a = none := by
      cases q : t0.heap.get? a with
      | none => rfl
      | some o' =>
        have := nb a o' q (by rw [hs]; exact nofr)
        rw [B0] at this
        cases this
    have nLoc : a ≠ X.env.locals := fun z => nofr (List.mem_filterMap.mpr ⟨X.env, List.mem_cons_self, by rw [hf, z]⟩)
    have nFs : a ∉ X.fs := fun hm => by
      obtain ⟨e, he, q⟩ := List.mem_filterMap.mp hm
      exact nofr (List.mem_filterMap.mpr ⟨e, List.mem_cons_of_mem _ he, q⟩)
    have s0a : X.s_0.heap.get? a = none := by
      cases q : X.s_0.heap.get? a with
      | none => rfl
      | some o' =>
        obtain ⟨o'', q2⟩ := J.base.there a o' q (by rw [hex]; simp)
        rw [t0a] at q2
        cases q2
    have nPin : ∀ p ∈ X.pn ++ pins, p.1 ≠ a := fun p hp z => by
      have q := (J.pin p hp).1
      rw [z, t0a] at q
      cases q
    have S3 := J3.suite g3 d3 na nLoc nFs
    refine wpAny_handleBy_cons (codeAny_handlers_test ?_) (by intro q; cases q)
    have look : PySem.W.Looks (model X.prog X.w) h3 (typeOf (.ref a)) cls := fun _ _ _ _ k q => wpAny_typeOf_ref (k _ _ g3) (by rw [z3.1]; exact q)
    have asks := PySem.W.exm_one (M := model X.prog X.w) J3.kIn look hyes
    have name : ∀ {Q E : Value → Shared → Prop}, Q c { s' with heap := h3 } → wpAny (model X.prog X.w) (X.A.mark (some (.ref a))) (eval (.Name x np) X.env) Q E { s' with heap := h3 } := fun {Q E} q => by
      obtain ⟨hg, hdb, hm⟩ := hc
      rcases hm with hm | ⟨hm, hv, hnn⟩
      · exact ld_glob (X := X.suite a ((a, o3) :: (X.pn ++ pins))) S3 hg hm q hdb
      · exact ld_blt (X := X.suite a ((a, o3) :: (X.pn ++ pins))) S3 hg hm hv q hnn hdb
    refine name (asks.here (codeAny_handlers_suite_as ?_))
    refine HandSPX.lands_againZ fl3 fun h4 fl4 up4 => ?_
    obtain ⟨o4, v4, g4, z4, d4⟩ := fl4.there
    have J4 : Inv X pins σ' H' { s' with heap := h4 } := J.landed nb fl4.1 ((up.trans up3).trans up4) os ag
    have S4 := J4.suite g4 d4 na nLoc nFs
    refine store_ok (X := X.suite a ((a, o4) :: (X.pn ++ pins))) (v := .ref a) S4 hN hi (.inl hln) rfl (fun s5 S5 => ?_) (.inr hln)
    refine wpAny_mono ((hsu a o4 cls d (X.pn ++ pins)).run [] s5 _ H' _ S5 (hgo a na J.len)) (fun fl s6 q6 => ?_) fun _ _ z => z.elim
    cases fl with
    | next =>
      obtain ⟨σ6, H6, S6, n6, k6⟩ := q6
      have g6 := (S6.pin (a, o4) (List.mem_append_left _ List.mem_cons_self)).1
      have J6 : Inv X pins σ6 H6 s6 := S6.unsuite ok
      have nCell : ∀ v, o4.data ≠ .cell v := fun v z => by rw [d4] at z; cases z
      have J7 : Inv X pins σ6 (upd H6 a (ExO cls d a)) s6 := VS.Inv.track J6 n6 s0a g6 nCell nLoc nPin ⟨⟨o4, v4, g6, z4, d4⟩, ⟨o4, g6⟩, fun h1 h2 ⟨oe, vs, q1, q2, q3⟩ st => ⟨oe, vs, st _ q1, q2, q3⟩⟩
      exact gone_ok J7 hN hi hln fun s7 J8 => ⟨_, _, J8, k6⟩
    | brk => obtain ⟨_, _, _, z⟩ := q6; exact z.elim
    | cont => obtain ⟨_, _, _, z⟩ := q6; exact z.elim
    | ret u => obtain ⟨_, _, _, _, _, z⟩ := q6; exact z.elim
  refine wpAny_Try_except (wpAny_mono ((hb _ _ _ hcatch PassesOwn.looking).run [] s σ H D (I.toTry _) h) (fun fl s1 q => ?_) fun _ _ z => z)
  cases fl with
  | next => obtain ⟨σ', H', J', q⟩ := q; exact wpAny_execs_nil ⟨σ', H', J'.ofTry ok, q⟩
  | brk => obtain ⟨σ', H', J', q⟩ := q; exact ⟨σ', H', J'.ofTry ok, q⟩
  | cont => obtain ⟨σ', H', J', q⟩ := q; exact ⟨σ', H', J'.ofTry ok, q⟩
  | ret u => obtain ⟨v, σ', H', J', r, q⟩ := q; exact ⟨v, σ', H', J'.ofTry ok, r, q⟩
end
def TTc (K : PySem.W.Frag) (CS : Addr) : (XK → Hp → VK → Prop) → Hp → VK → Prop := fun tl H Q =>
  tl (fun cls d H' => PySem.W.exmOne K cls (.ref CS) = some true ∧ ∀ a, H' a = none → Q (.ref a) (upd H' a (ExO cls d a))) H fun _ H' => Q .non H'
theorem caught_gives {X : Cx} {Ng : List Str} {x a c n e q : Str} {sg : Scope} {g CS : Addr} {cdg : Value} {j : Nat} {p1 p2 p3 p4 p5 p6 p7 p8 p9 p10 p11 p12 p13 p14 : Pos} (hge : sg.names.lookup e = some .globalImplicit) (hme : X.mg e = some (.ref CS)) (hde : (e == ("__debug__" : Str)) = false)
    (hN : Ng = [a, c, n]) (hnd : Ng.Nodup) (hc : sg.names.lookup c = some .local) (hn : sg.names.lookup n = some .local) (dc : (c == ("__debug__" : Str)) = false) (cc : (c == ("__classdict__" : Str)) = false) (dn : (n == ("__debug__" : Str)) = false) (cn : (n == ("__classdict__" : Str)) = false)
    (hsw : ∀ env : PySem.Env, swapsWith (.Call (.Name a p1) [] [] p2) none p3.line env = pure false) :
    LamX.GivesTo X Ng x sg g cdg [.Assign [.Name c p4] (.Constant .none j p5) p6, .Try [.Expr (.Call (.Name a p1) [] [] p2) p3] [.ExceptHandler (some (.Name e p7)) (some n) [.Assign [.Name c p8] (.Name n p9) p10] p11] [] [] p12, .Return (some (.Name c p13)) p14] a q (TTc X.K CS) := by
  intro f c' s H Q tl act hco h
  subst hN
  have hgl : Gl (cxOf C8.CX0 X.prog X.w X.K X.mg X.base [a, c, n] x sg g cdg X.A X.stack s H C8.E0).nox e := hge
  refine ⟨_, pss_cons (ps_set (i := 1) hnd rfl (.inl hc) pe_non (by rfl) (.inr hc)) (pss_cons (ps_catch (X := (cxOf C8.CX0 X.prog X.w X.K X.mg X.base [a, c, n] x sg g cdg X.A X.stack s H C8.E0).nox) (i := 2) (c := .ref CS)
      (tb := fun W D σ H => ∃ Ech : XK, (∀ cls d σ' H', Ech cls d H' → W cls d σ' H') ∧ σ[0]? = some (some (.ref f)) ∧ H c' = some (LamX.CodeO c' q) ∧ tl Ech H fun _ H1 => D.nx σ H1)
      (ts := fun a cls d => tAsg (tVar 2) (gName 1))
      rfl rfl hnd rfl hn rfl ⟨hgl, hde, .inl hme⟩ (fun W pn xe tk _ => ?_) (fun a oe cls d pn => pss_one (ps_set (i := 1) hnd rfl (.inl hc) (pe_var (i := 2) rfl (.inl hn) dn cn) (by rfl) (.inr hc)))) (pss_one (ps_ret (pe_var (i := 1) rfl (.inl hc) dc cc)))), ?_⟩
  · refine ⟨fun pins s' σ H' D I h' => ?_⟩
    obtain ⟨Ech, hW, h1, h2, h3⟩ := h'
    exact (pss_one (ps_expr (pos := p3) (act W pn xe Ech p1 p2 tk hW) (hsw _))).run pins s' σ H' D I ⟨h1, h2, h3⟩
  · refine ⟨fun cls d H' => PySem.W.exmOne X.K cls (.ref CS) = some true ∧ ∀ a, H' a = none → Q (.ref a) (upd H' a (ExO cls d a)), fun cls d σ' H' hq => ⟨hq.1, fun a na hl => ?_⟩, rfl, hco, ?_⟩
    · have hl : σ'.length = 3 := hl
      obtain ⟨u0, u1, u2, rfl⟩ : ∃ u0 u1 u2, σ' = [u0, u1, u2] := by
        match σ', hl with
        | [u0, u1, u2], _ => exact ⟨_, _, _, rfl⟩
      exact ⟨_, rfl, na, _, rfl, hq.2 a na⟩
    · have eq : (fun (_ : V) (H1 : Hp) => ∃ v, (List.set (L2.start [a, c, n] [V.ref f]) 1 (some V.non))[1]? = some (some v) ∧ Q v H1) = fun _ H1 => Q .non H1 := by
        funext _ H1
        refine propext ⟨fun ⟨v, e, k⟩ => ?_, fun k => ⟨.non, rfl, k⟩⟩
        have e' : some (some V.non) = some (some v) := e
        cases e'
        exact k
      show tl _ H fun (_ : V) (H1 : Hp) => ∃ v, (List.set (L2.start [a, c, n] [V.ref f]) 1 (some V.non))[1]? = some (some v) ∧ Q v H1
      rw [eq]
      exact h
end VS
namespace VS
open PySem PySem.Spec PyProof.Rows L2
def tabT (T : List (Addr × Str)) (l : Lay) : TPr where
  P := fun T0 F => (∀ a, T0 a ≠ none → a ∈ T.map Prod.fst) ∧ (∀ p ∈ T, p.1 ≠ l.sa ∧ p.1 ≠ l.la) ∧ ∀ p ∈ T, ∃ ps : Array Value, T0 p.1 = some (.tbl ps) ∧ TriplesOk ps.toList ∧ ∀ (pos : Pos) (cv : Value), codeAmong pos ps.toList = some cv → ∃ c, cv = .ref c ∧ F c = some (LamX.CodeO c p.2)
  mono := fun {T0 F F'} h s => ⟨h.1, h.2.1, fun p hp => let ⟨ps, h1, h2, h3⟩ := h.2.2 p hp; ⟨ps, h1, h2, fun pos cv hc => let ⟨c, e1, e2⟩ := h3 pos cv hc; ⟨c, e1, s _ _ e2⟩⟩⟩
section
variable {b : Bc} {F O H H1 : Hp} {S : DS} {T : List (Addr × Str)}
theorem code_ne_lst {c : Addr} {q : Str} : ¬ LD (LamX.CodeO c q) := fun h => by
  unfold LamX.CodeO at h
  rcases h with ⟨_, z⟩ | ⟨_, z⟩ | ⟨w, a, S, n, z⟩
  · cases z
  · cases z
  · unfold L2.SetO at z
    have z := HO.ext.inj z
    let oc : Obj := { cls := .none, data := .fields #[.none, .str q 0] }
    let hp : Heap := { objs := Array.replicate (c + 1) oc }
    have hc : hp.get? c = some oc := by
      show (match (Array.replicate (c + 1) oc)[c]? with | some ⟨_, _, .freed, _⟩ => none | o => o) = some oc
      rw [Array.getElem?_replicate, if_pos (Nat.lt_succ_self c)]
    have h1 : L2.SetR w hp a S n := by
      rw [← congrFun z hp]
      exact ⟨oc, #[.none, .str q 0], 0, hc, rfl, rfl⟩
    obtain ⟨o, es, ep, t, ho, _, hd, _⟩ := h1
    have ho' : (match (Array.replicate (c + 1) oc)[a]? with | some ⟨_, _, .freed, _⟩ => none | o => o) = some o := ho
    rw [Array.getElem?_replicate] at ho'
    by_cases ha : a < c + 1
    · rw [if_pos ha] at ho'; cases ho'; cases hd
    · rw [if_neg ha] at ho'; cases ho'
theorem tab_in (h : FitB b F O S H) (hT : b.TP = tabT T b.c.l) (hs : b.stf = true) : LamX.Tabs T H := by
  obtain ⟨T0, tp, fit⟩ := h
  rw [hT] at tp
  obtain ⟨_, h2, h3⟩ := tp
  intro p hp
  obtain ⟨ps, e1, e2, e3⟩ := h3 p hp
  refine ⟨ps, fit.t _ _ ?_, e2, fun pos cv hc => ?_⟩
  · unfold Bc.T stT
    rw [if_pos hs, if_neg (h2 p hp).1, if_neg (h2 p hp).2]
    exact e1
  · obtain ⟨c, e, e'⟩ := e3 pos cv hc
    exact ⟨c, e, fit.f _ _ e'⟩
open Classical in
theorem tab_out (h : FitB b F O S H) (I : b.I S F) (hT : b.TP = tabT T b.c.l) (hs : b.stf = true) (eN : LamX.ExtN H H1) (t1 : LamX.Tabs T H1) : ∃ F1, Same F F1 ∧ FitB b F1 O S H1 := by
  obtain ⟨T0, tp, fit⟩ := h
  have tp' := tp
  rw [hT] at tp
  obtain ⟨h1, h2, h3⟩ := tp
  have hI := I hs
  -- all but the tables of T stay
  have kF : ∀ a o, F a = some o → H1 a = some o := fun a o e => eN a o (fit.f _ _ e) fun ps z => fit.nt a o e ps z
  have kO : ∀ a o, O a = some o → H1 a = some o := fun a o e => eN a o (fit.o _ _ e) fun ps z => (fit.ld a o e).nt ps z
  have tS : ∀ a o, b.T S T0 a = some o → LD o ∨ (a ∈ T.map Prod.fst ∧ T0 a = some o ∧ a ≠ b.c.l.sa ∧ a ≠ b.c.l.la) := fun a o e => by
    unfold Bc.T stT at e
    rw [if_pos hs] at e
    split at e
    · cases e; exact .inl (.inr (.inl ⟨_, rfl⟩))
    · rename_i n1
      split at e
      · cases e; exact .inl (.inl ⟨_, rfl⟩)
      · rename_i n2
        exact .inr ⟨h1 a (by rw [e]; simp), e, n1, n2⟩
  have atP : ∀ p ∈ T, ∃ ps, b.T S T0 p.1 = some (.tbl ps) := fun p hp => by
    obtain ⟨ps, e1, _⟩ := h3 p hp
    refine ⟨ps, ?_⟩
    unfold Bc.T stT
    rw [if_pos hs, if_neg (h2 p hp).1, if_neg (h2 p hp).2]
    exact e1
  let isC : Addr → Prop := fun a => (∃ q, H1 a = some (LamX.CodeO a q)) ∧ O a = none ∧ b.T S T0 a = none
  let F1 : Hp := fun a => match F a with | some o => some o | none => if isC a then H1 a else none
  let T1 : Hp := fun a => if a ∈ T.map Prod.fst then H1 a else none
  have sF : Same F F1 := fun a o e => by show (match F a with | some o => some o | none => if isC a then H1 a else none) = some o; rw [e]
  have F1k : ∀ a o, F1 a = some o → H1 a = some o := fun a o e => by
    have e : (match F a with | some o => some o | none => if isC a then H1 a else none) = some o := e
    split at e
    · rename_i o' q; cases e; exact kF _ _ q
    · split at e
      · exact e
      · cases e
  have dom : ∀ a, b.T S T1 a ≠ none → b.T S T0 a ≠ none := fun a q => by
    unfold Bc.T stT at q ⊢
    rw [if_pos hs] at q ⊢
    split at q
    · rename_i n1; rw [if_pos n1]; simp
    · rename_i n1
      rw [if_neg n1]
      split at q
      · rename_i n2; rw [if_pos n2]; simp
      · rename_i n2
        rw [if_neg n2]
        show T0 a ≠ none
        have q : (if a ∈ T.map Prod.fst then H1 a else none) ≠ none := q
        split at q
        · rename_i hm
          obtain ⟨p, hp, e⟩ := List.mem_map.mp hm
          obtain ⟨ps, e1, _⟩ := h3 p hp
          rw [← e, e1]; simp
        · exact absurd rfl q
  have code : ∀ p ∈ T, ∀ c, H1 c = some (LamX.CodeO c p.2) → F1 c = some (LamX.CodeO c p.2) := fun p hp c e => by
    show (match F c with | some o => some o | none => if isC c then H1 c else none) = some _
    split
    · rename_i o q
      have := kF _ _ q
      rw [e] at this
      exact this.symm
    · have oc : O c = none := by
        cases q : O c with
        | none => rfl
        | some o =>
          have := kO _ _ q
          rw [e] at this
          cases this
          exact absurd (fit.ld _ _ q) code_ne_lst
      have tc : b.T S T0 c = none := by
        cases q : b.T S T0 c with
        | none => rfl
        | some o =>
          rcases tS c o q with z | ⟨hm, z, _⟩
          · have := eN c o (fit.t _ _ q) fun ps z' => z.nt ps z'
            rw [e] at this
            cases this
            exact absurd z code_ne_lst
          · obtain ⟨p', hp', e'⟩ := List.mem_map.mp hm
            obtain ⟨ps, q1, _⟩ := t1 p' hp'
            rw [e', e] at q1
            cases q1
      rw [if_pos (show isC c from ⟨⟨_, e⟩, oc, tc⟩), e]
  refine ⟨F1, sF, T1, ?_, ⟨F1k, kO, fun a o e => ?_, fun a q => ?_, fun a q => ?_, fun a q => fit.ot a (dom a q), fun a o e => ?_, fit.ld⟩⟩
  · rw [hT]
    refine ⟨fun a q => ?_, h2, fun p hp => ?_⟩
    · have q : (if a ∈ T.map Prod.fst then H1 a else none) ≠ none := q
      split at q
      · assumption
      · exact absurd rfl q
    · obtain ⟨ps, q1, q2, q3⟩ := t1 p hp
      refine ⟨ps, (if_pos (List.mem_map.mpr ⟨p, hp, rfl⟩)).trans q1, q2, fun pos cv hc => ?_⟩
      obtain ⟨c, e1, e2⟩ := q3 pos cv hc
      exact ⟨c, e1, code p hp c e2⟩
  · have e' := e
    unfold Bc.T stT at e
    rw [if_pos hs] at e
    split at e
    · rename_i n1
      have q : b.T S T0 a = some o := by unfold Bc.T stT; rw [if_pos hs, if_pos n1]; exact e
      exact eN a o (fit.t _ _ q) fun ps z => by cases e; cases z
    · rename_i n1
      split at e
      · rename_i n2
        have q : b.T S T0 a = some o := by unfold Bc.T stT; rw [if_pos hs, if_neg n1, if_pos n2]; exact e
        exact eN a o (fit.t _ _ q) fun ps z => by cases e; cases z
      · have e : (if a ∈ T.map Prod.fst then H1 a else none) = some o := e
        split at e
        · exact e
        · cases e
  · show (match F a with | some o => some o | none => if isC a then H1 a else none) = none
    rw [fit.fo a q]
    show (if isC a then H1 a else none) = none
    exact if_neg fun z => q z.2.1
  · show (match F a with | some o => some o | none => if isC a then H1 a else none) = none
    rw [fit.ft a (dom a q)]
    show (if isC a then H1 a else none) = none
    exact if_neg fun z => dom a q z.2.2
  · have e : (match F a with | some o => some o | none => if isC a then H1 a else none) = some o := e
    split at e
    · rename_i o' q; cases e; exact fit.nt a _ q
    · split at e
      · rename_i z
        obtain ⟨⟨q, z⟩, _⟩ := z
        rw [z] at e
        cases e
        exact fun ps z => LamX.codeO_ne ps z
      · cases e
end
def caughtM (known : List Str) (f : ME) : ME := fun env S => match f env S with
  | .ok (_, S') => .ok (.non, S')
  | .exc n fl fs S' => if known.contains n = true then .ok (.exc n fl fs, S') else .bad
  | .bad => .bad
section
variable {X : Cx} {b : Bc} {E : XK} {e e1 : Expr} {f f1 : ME} {T : List (Addr × Str)} {CS : Addr}
theorem e_caught (hc : b.c.K = X.K ∧ b.c.mg = X.mg) (hT : b.TP = tabT T b.c.l) (hs : b.stf = true) (known : List Str) (hkn : ∀ n ∈ known, ∀ C, X.mg n = some (.ref C) → PySem.W.exmOne X.K (.ref C) (.ref CS) = some true)
    (h : PE X e (LamX.tLam T (TTc X.K CS) fun E => tE b E f)) : PE X e (tE b E (caughtM known f)) := PE.imp h fun σ H Q ⟨F0, O0, F, O, env, S, P, h⟩ => by
  refine ⟨tab_in P.fit hT hs, fun H1 eN T1 => ?_⟩
  obtain ⟨F1, s1, fit1⟩ := tab_out P.fit P.inv hT hs eN T1
  have P1 := P.grow s1 fit1 (P.inv.mono s1)
  refine ⟨F0, O0, F1, O, env, S, P1, ?_⟩
  revert h
  unfold caughtM
  cases f env S with
  | bad => exact fun h => h
  | ok p => obtain ⟨d, S'⟩ := p; exact fun h F' H' s fit I v _ => h F' H' (s1.trans s) fit I .non rfl
  | exc n fl fs S' =>
    intro h
    by_cases hk : known.contains n = true
    · simp only [if_pos hk] at h
      intro cls dd F' H' s fit I hx
      obtain ⟨C, us, e1, rfl, e3, e4⟩ := hx
      refine ⟨hkn n (by simpa using hk) C (by rw [← hc.2]; exact e1), fun a na => ?_⟩
      have nF := upd_none fit.f na
      have nt : NoTbl (ExO (.ref C) dd a) := fun ps z => by unfold ExO at z; cases z
      have sF := same_upd (o := ExO (.ref C) dd a) nF
      refine h (upd F' a (ExO (.ref C) dd a)) _ ((s1.trans s).trans sF) (fit.new na nt) (I.mono sF) _ ⟨a, C, dd, us, rfl, e1, upd_same, Dens.mono sF _ _ e3, ?_⟩
      cases us with
      | nil => exact e4
      | cons u r => obtain ⟨p, q1, q2⟩ := e4; exact ⟨p, q1, sF _ _ q2⟩
    · simp only [if_neg hk] at h
      exact False.elim h
end
def rIsX (K : PySem.W.Frag) : List V → Hp → VK → Prop := fun xs H Q => ∃ (a A C : Addr) (r : Bool), xs = [.ref a, .ref C] ∧ H a = some (ExO (.ref A) none a) ∧ ExcC K A ∧ PySem.W.kitOne K (.ref A) (.ref C) = some r ∧ Q (.bl r) H
def rIsC (K : PySem.W.Frag) : List V → Hp → VK → Prop := fun xs H Q => rIsi K xs H Q ∨ rIsX K xs H Q
theorem call_isC {X : Cx} : CallR X (.builtin "isinstance") (rIsC X.K) := fun pins s σ H xs us Q I r h => by
  rcases h with h | h
  · exact call_isi pins s σ H xs us Q I r h
  · obtain ⟨a, A, C, k, rfl, hH, hA, e, q⟩ := h
    obtain ⟨u1, u2, rfl, r1, r2⟩ := vals2 r
    obtain rfl : u1 = Value.ref a := r1
    obtain rfl : u2 = Value.ref C := r2
    obtain ⟨⟨oe, vs, g, z, d⟩, _⟩ := (show ObjOk X.prog X.w H s.heap a (ExO (.ref A) none a) from I.hok a _ hH)
    have J : PySem.W.InstAt s.heap a oe A none := by
      obtain ⟨oc, od, oda, osl⟩ := oe
      obtain ⟨z1, z2⟩ := z
      dsimp only at z1 z2 d
      subst z1 z2 d
      exact ⟨g, rfl, rfl, trivial⟩
    exact PySem.W.kia_one (PySem.W.handS_kitx_exc hA.hg hA.hk hA.hs hA.hd hA.ha hA.hn hA.ht hA.hm) I.kIn J e (fun z => nomatch z) fun tk => ⟨.bl k, H, I.kept (t' := tk) fun _ _ z => z, rfl, q⟩
end VS
namespace VS
open PySem PySem.Spec PyProof.Rows L2
theorem compM_eq {set : Env → D → Option Env} {test : MT} {elt : ME} {env0 : Env} {S : DS} (k : D → Bool) (y : D → D) : ∀ ds : List D, (∀ d ∈ ds, ∃ env1, set env0 d = some env1 ∧ test env1 S = .ok (k d, S) ∧ (k d = true → elt env1 S = .ok (y d, S))) →
    compM set test elt env0 ds S = .ok ((ds.filter k).map y, S)
  | [], _ => rfl
  | d :: ds, h => by
    obtain ⟨env1, h1, h2, h3⟩ := h d List.mem_cons_self
    have ih := compM_eq k y ds fun e he => h e (List.mem_cons_of_mem _ he)
    unfold compM
    simp only [h1, h2, noX, bindM]
    cases hk : k d with
    | true =>
      rw [if_pos rfl, h3 hk]
      simp only [bindM, ih, List.filter_cons_of_pos hk, List.map_cons]
    | false =>
      rw [if_neg Bool.false_ne_true, ih, List.filter_cons_of_neg (by simp [hk])]
def begun (ns : List Int) : DS := ⟨((ns.map fun i => (i.natAbs : Int)).filter fun i => decide (10 ^ 18 ≤ i)).map (· - 10 ^ 18), ns.map fun i => (i.natAbs : Int), 0, 0⟩
def spBegun (K : PySem.W.Frag) (mg : Str → Option Value) : Sp := fun vs H Q E => vs.length = 1 ∧ ∃ (l0 : Lay) (F O T : Hp) (ns : List Int), Fits F O T H ∧ Dens ⟨K, mg, l0⟩ F [.scr ns] vs ∧ ns.length ≤ 1000 ∧
  ∀ (l : Lay) F' H', Same F F' → T l.sa = none → T l.la = none → Fits F' O (stT l (begun ns) T) H' → stI ⟨K, mg, l⟩ (begun ns) F' → Q (.ref l.sa) H'
def begunTrs : List (TE × TE) := [(tC (.str "large"), tVar 3), (tC (.str "cells"), tVar 1), (tC (.str "left"), tC (.int 0)), (tC (.str "turn"), tC (.int 0))]
theorem stKV_merge (x y : V) : mergeK [] [(kLarge, x), (kCells, y), (kLeft, .int 0), (kTurn, .int 0)] = [(kLarge, x), (kCells, y), (kLeft, .int 0), (kTurn, .int 0)] := by
  have h := kne
  unfold mergeK
  simp only [List.foldl_cons, List.foldl_nil, putK, List.any_nil, List.any_cons, Bool.false_eq_true, if_false, List.nil_append, h.1, h.2.1, h.2.2.1, h.2.2.2.1, h.2.2.2.2.1, h.2.2.2.2.2, decide_false, Bool.or_self, List.cons_append]
theorem begun_read {b : Bc} {E : XK} {F O T H : Hp} {ns : List Int} {g1 g2 : MS} {σ : L2.St} {Q : VK} {bk ct : L2.St → Hp → Prop} (hown : b.own = [3]) (hst : b.stf = false) (hTP : b.TP = exT T) (P : Pre b F O F O H σ [some (.scr ns), none, none, none] S0)
    (hO : Fits F O T H) (hz : ns.length ≤ 1000)
    (h1 : g1 [some (.scr ns), none, none, none] S0 = .ok (.nx [some (.scr ns), some (.lst ((begun ns).cells.map D.int)), none, none], S0))
    (h2 : g2 [some (.scr ns), some (.lst ((begun ns).cells.map D.int)), none, none] S0 = .ok (.nx [some (.scr ns), some (.lst ((begun ns).cells.map D.int)), none, some (.lst ((begun ns).large.map D.int))], S0))
    (hQ : ∀ (l : Lay) F' H', Same F F' → T l.sa = none → T l.la = none → Fits F' O (stT l (begun ns) T) H' → stI ⟨b.c.K, b.c.mg, l⟩ (begun ns) F' → Q (.ref l.sa) H') :
    tS b E g1 { nx := fun σ1 H1 => tS b E g2 { nx := fun σ2 H2 => tDisp begunTrs σ2 H2 Q, rt := Q, bk := bk, ct := ct } σ1 H1, rt := Q, bk := bk, ct := ct } σ H := by
  refine ⟨F, O, F, O, _, S0, P, ?_⟩
  rw [h1]
  intro σ1 F1 O1 H1 P1
  refine ⟨F, O, F1, O1, _, S0, P1, ?_⟩
  rw [h2]
  intro σ2 F2 O2 H2 P2
  obtain ⟨cv, c1, c2⟩ := P2.slot 1 _ rfl (by rw [hown]; decide)
  obtain ⟨la, l1, ⟨lvs, l2, lz, l3⟩, l4⟩ := P2.slotO 3 _ rfl (by rw [hown]; decide)
  obtain ⟨ca, cvs, rfl, c3, cz, c4⟩ := c2
  have e1 := c4.ints
  have e2 := l3.ints
  subst e1 e2
  intro p hp
  obtain ⟨T0, tp, fit⟩ := P2.fit
  rw [hTP] at tp
  have tp : T0 = T := tp
  subst tp
  have eT : b.T S0 T0 = T0 := by unfold Bc.T; rw [hst]; rfl
  rw [eT] at fit
  have npl : la ≠ p := ne_of_none (fit.o _ _ l2) hp
  refine ⟨_, l1, _, c1, ?_⟩
  show upd H2 p (.dK []) p = some (.dK []) ∧ _
  refine ⟨upd_same, [(kLarge, .ref la), (kCells, .ref ca), (kLeft, .int 0), (kTurn, .int 0)], rfl, by simp, ?_⟩
  rw [stKV_merge, upd_upd]
  have nF2 : F2 la = none := fit.fo la (by rw [l2]; simp)
  have nT : T0 la = none := by
    cases q : T0 la with
    | none => rfl
    | some o => have := fit.ot la (by rw [q]; simp); rw [l2] at this; cases this
  have nTp : T0 p = none := upd_none fit.t hp
  refine hQ ⟨p, la, ca⟩ F2 _ P2.f0 nTp nT ⟨fun a o e => ?_, fun a o e => ?_, fun a o e => ?_, fun a q => ?_, fun a q => ?_, fun a q => ?_, fit.nt, fun a o e => hO.ld a o e⟩ ⟨npl.symm, c3, by simpa [begun] using hz, ?_⟩
  · rw [upd_ne (ne_of_none (fit.f _ _ e) hp)]; exact fit.f _ _ e
  · have e' := P2.o0 _ _ e
    rw [upd_ne (ne_of_none (fit.o _ _ e') hp)]; exact fit.o _ _ e'
  · unfold stT at e
    split at e
    · rename_i z; cases e; rw [z, upd_same]; rfl
    · rename_i z
      rw [upd_ne z]
      split at e
      · rename_i z2; cases e; rw [z2]; exact fit.o _ _ l2
      · exact fit.t _ _ e
  · cases q2 : O a with
    | none => exact absurd q2 q
    | some o => exact fit.fo a (by rw [P2.o0 _ _ q2]; simp)
  · unfold stT at q
    split at q
    · rename_i z; rw [z]; exact upd_none fit.f hp
    · split at q
      · rename_i z2; rw [z2]; exact nF2
      · exact fit.ft a q
  · unfold stT at q
    split at q
    · rename_i z; rw [z]; exact upd_none P2.o0 (upd_none fit.o hp)
    · split at q
      · rename_i z2; rw [z2]; exact l4
      · cases q2 : O a with
        | none => rfl
        | some o => have := fit.ot a q; rw [P2.o0 _ _ q2] at this; cases this
  · refine Nat.le_trans ?_ hz
    simp only [begun, List.length_map]
    exact Nat.le_trans (List.length_filter_le _ _) (by simp)
def begunG1 : MS := asgS 1 (lcM (setN 2) (varM 0) (fun _ S => .ok (true, S)) (cbM gAbs (consA (varM 2) nilA)) [2])
def begunG2 : MS := asgS 3 (lcM (setN 2) (varM 1) (testM (binM gGe (varM 2) (binM gPow (cM (.int 10)) (cM (.int 18))))) (binM gSub (varM 2) (binM gPow (cM (.int 10)) (cM (.int 18)))) [2])
theorem begun_g1 {ns : List Int} (hz : ns.length ≤ 1000) : begunG1 [some (.scr ns), none, none, none] S0 = .ok (.nx [some (.scr ns), some (.lst ((begun ns).cells.map D.int)), none, none], S0) := by
  have hz' : ns.length ≤ 1000000 := Nat.le_trans hz (by decide)
  have e := compM_eq (set := setN 2) (test := fun _ S => .ok (true, S)) (elt := cbM gAbs (consA (varM 2) nilA)) (env0 := wipeE [some (.scr ns), none, none, none] [2]) (S := S0) (fun _ => true) (fun d => match d with | .int i => .int (i.natAbs : Int) | _ => .non) (ns.map D.int) (fun d hd => by
    obtain ⟨i, _, rfl⟩ := List.mem_map.mp hd
    refine ⟨_, rfl, rfl, fun _ => ?_⟩
    have e2 : (if i < 0 then -i else i) = (i.natAbs : Int) := by split <;> omega
    show Res.ok (D.int (if i < 0 then -i else i), S0) = _
    rw [e2])
  unfold begunG1 asgS lcM
  have ft : ∀ l : List D, l.filter (fun _ => true) = l := fun l => List.filter_eq_self.mpr (by simp)
  simp only [varM, bindM, List.getElem?_cons_zero, if_pos hz', e, ft, List.map_map]
  simp only [begun, List.map_map]
  rfl
theorem begun_g2 {ns : List Int} : begunG2 [some (.scr ns), some (.lst ((begun ns).cells.map D.int)), none, none] S0 = .ok (.nx [some (.scr ns), some (.lst ((begun ns).cells.map D.int)), none, some (.lst ((begun ns).large.map D.int))], S0) := by
  have e := compM_eq (set := setN 2) (test := testM (binM gGe (varM 2) (binM gPow (cM (.int 10)) (cM (.int 18))))) (elt := binM gSub (varM 2) (binM gPow (cM (.int 10)) (cM (.int 18)))) (env0 := wipeE [some (.scr ns), some (.lst ((begun ns).cells.map D.int)), none, none] [2]) (S := S0)
    (fun d => match d with | .int i => decide (10 ^ 18 ≤ i) | _ => false) (fun d => match d with | .int i => .int (i - 10 ^ 18) | _ => .non) ((begun ns).cells.map D.int) (fun d hd => by
    obtain ⟨i, _, rfl⟩ := List.mem_map.mp hd
    exact ⟨_, rfl, rfl, fun _ => rfl⟩)
  unfold begunG2 asgS lcM
  simp only [varM, bindM, List.getElem?_cons_zero, List.getElem?_cons_succ, e]
  congr 3
  simp only [begun, List.filter_map, List.map_map]
  rfl
end VS
namespace VS
open PySem PySem.Spec PyProof.Rows L2
open Classical in
noncomputable def H0of (K : PySem.W.Frag) (tabs : List Addr) (a : Addr) (vs : List Value) (ns : List Int) : Hp := fun b =>
  if b ∈ tabs then some (.tbl #[]) else if b = a ∧ K.lookup a = none then some (.frz { cls := .type "list", data := .seq vs.toArray } (.lst (ns.map V.int))) else none
section
variable {P : Program} {w : World} {K : PySem.W.Frag} {mg mb : Str → Option Value} {a fa : Addr} {cs : List (Addr × Addr)} {s₁ : Shared} {vs : List Value} {ns : List Int}
theorem law_end (KX : K.In s₁.heap) (hns : s₁.heap.Ns mainGlobals mg) (hb : s₁.heap.Ns builtinsNs mb) (hbb : ∀ x : Str, x ≠ "__name__" → mb x = bootBuiltins x) (hlim : s₁.heap.NoLimit) (hg : s₁.gens = #[])
    (hT : ∀ p ∈ cs, s₁.heap.get? p.2 = some { cls := .none, data := .fields #[] }) (nT : ∀ p ∈ cs, K.lookup p.2 = none) (hcode : ∀ p ∈ cs, PySem.W.CodeHd s₁.heap p.1 p.2)
    (hbm : ∃ (bm : Addr) (ob : Obj), mg "__builtins__" = some (.ref bm) ∧ bm ≠ builtinsNs ∧ s₁.heap.get? bm = some ob ∧ ob.cls = .type "module" ∧ ob.dict = some builtinsNs ∧ ob.data = .plain)
    (ha : s₁.heap.get? a = some { cls := .type "list", data := .seq vs.toArray }) (hi : IntsAre vs ns) (hl : ns.length ≤ sizeLine)
    (run : ∀ (base : Heap) (H : Hp), K.In base → base.Ns mainGlobals mg → (∀ p ∈ cs, LamX.TabB base mg p.1 p.2) → Env0 P w K mg base callerA [] s₁ H → (∀ p ∈ cs, H p.2 = some (.tbl #[])) → SqL K H a (ns.map V.int) → (∀ b o, H b = some o → b ∈ cs.map Prod.snd ∨ NoTbl o) →
      codeAny (model P w) callerA (.call (.ref fa) ⟨[.ref a], []⟩) (CR (L2.CX P w) [] P w H s₁ (fun v _ => v = .bl true) fun _ _ _ => False) s₁) :
    codeAny (model P w) callerA (.call (.ref fa) ⟨[.ref a], []⟩) (fun r s' => r = .ok (.ret (.bool true)) ∧ OldK s₁.heap s'.heap ∧ s'.os = s₁.os ∧ AllBare s'.gens) s₁ := by
  generalize eH : H0of K (cs.map Prod.snd) a vs ns = H
  have atTab : ∀ b, b ∈ cs.map Prod.snd → s₁.heap.get? b = some { cls := .none, data := .fields #[] } ∧ K.lookup b = none := fun b hm => by
    obtain ⟨p, hp, e⟩ := List.mem_map.mp hm
    subst e
    exact ⟨hT p hp, nT p hp⟩
  have notA : a ∉ cs.map Prod.snd := fun z => by
    have q := (atTab a z).1
    rw [ha] at q
    cases congrArg Obj.data (Option.some.inj q)
  -- the three kinds of places
  have kind : ∀ b, (b ∈ cs.map Prod.snd ∧ H b = some (.tbl #[])) ∨ (b = a ∧ K.lookup a = none ∧ H b = some (.frz { cls := .type "list", data := .seq vs.toArray } (.lst (ns.map V.int)))) ∨ (H b = none ∧ b ∉ cs.map Prod.snd) := fun b => by
    rw [← eH]
    unfold H0of
    by_cases h1 : b ∈ cs.map Prod.snd
    · exact .inl ⟨h1, if_pos h1⟩
    · by_cases h2 : b = a ∧ K.lookup a = none
      · exact .inr (.inl ⟨h2.1, h2.2, by rw [if_neg h1, if_pos h2]⟩)
      · exact .inr (.inr ⟨by rw [if_neg h1, if_neg h2], h1⟩)
  have hTab : ∀ p ∈ cs, H p.2 = some (.tbl #[]) := fun p hp => by
    have hm : p.2 ∈ cs.map Prod.snd := List.mem_map.mpr ⟨p, hp, rfl⟩
    rcases kind p.2 with ⟨_, q⟩ | ⟨q, _⟩ | ⟨_, q⟩
    · exact q
    · exact absurd (q ▸ hm) notA
    · exact absurd hm q
  have hScr : SqL K H a (ns.map V.int) := by
    rcases kind a with ⟨q, _⟩ | ⟨_, _, q⟩ | ⟨q, _⟩
    · exact absurd q notA
    · exact .inl (.inr ⟨_, q⟩)
    · cases hk : K.lookup a with
      | none =>
        rw [← eH] at q
        unfold H0of at q
        rw [if_neg notA, if_pos ⟨rfl, hk⟩] at q
        cases q
      | some o =>
        have e := KX a o hk
        rw [ha] at e
        cases e
        exact .inr ⟨_, vs.toArray, _, hk, rfl, rfl, rfl, by rw [List.size_toArray, hi.length]; exact hl, by simpa using vals_ints hi⟩
  have hok : HOk P w H s₁.heap := fun b o e => by
    rcases kind b with ⟨hm, q⟩ | ⟨hm, _, q⟩ | ⟨q, _⟩
    · rw [q] at e; cases e; exact (atTab b hm).1
    · rw [q] at e; cases e; subst hm
      exact ⟨ha, by rw [List.length_map]; exact hl, vs, _, vals_ints hi, ha⟩
    · rw [q] at e; cases e
  -- what is no list of the script's form and no empty record is not tracked
  have free : ∀ {b : Addr} {o : Obj}, s₁.heap.get? b = some o → (∀ us n, o.data ≠ .seq us n) → o.data ≠ .fields #[] → H b = none := fun {b o} e n1 n2 => by
    rcases kind b with ⟨hm, _⟩ | ⟨hm, _, _⟩ | ⟨q, _⟩
    · have z := (atTab b hm).1
      rw [e] at z
      cases z
      exact absurd rfl n2
    · rw [hm, ha] at e
      cases e
      exact absurd rfl (n1 _ _)
    · exact q
  have nsOf : ∀ {b : Addr} {m : Str → Option Value}, s₁.heap.Ns b m → (hidT s₁.heap H).Ns b m := fun {b m} h => by
    obtain ⟨o, es, ep, e, hd, r⟩ := h
    exact ⟨o, es, ep, hidT_get e (free e (fun us n z => by rw [hd] at z; cases z) fun z => by rw [hd] at z; cases z), hd, r⟩
  have hK : K.In (hidT s₁.heap H) := fun b o e => hidT_get (KX b o e) (by
    rcases kind b with ⟨hm, _⟩ | ⟨hm, z, _⟩ | ⟨q, _⟩
    · rw [(atTab b hm).2] at e; cases e
    · rw [hm, z] at e; cases e
    · exact q)
  have TB : ∀ p ∈ cs, LamX.TabB (hidT s₁.heap H) mg p.1 p.2 := fun p hp => by
    constructor
    · obtain ⟨o, us, x1, x2, x3, x4, x5, x6, x7, e1, r1, r2, r3, rest⟩ := hcode p hp
      refine ⟨o, us, x1, x2, x3, x4, x5, x6, x7, hidT_get e1 (free e1 (fun ws n z => ?_) fun z => ?_), r1, r2, r3, rest⟩
      · rw [r2] at z; cases z
      · rw [r2] at z; cases z; simp at r3
    · obtain ⟨bm, ob, b1, b2, b3, b4, b5, b6⟩ := hbm
      have n1 : bm ≠ mainGlobals := fun z => by
        obtain ⟨o, es, ep, e, hd, _⟩ := hns
        rw [← z, b3] at e
        cases e
        rw [b6] at hd
        cases hd
      have n2 : bm ≠ p.2 := fun z => by
        have q := hT p hp
        rw [← z, b3] at q
        cases q
        cases b6
      exact ⟨bm, ob, b1, b2, n1, n2, hidT_get b3 (free b3 (fun us n z => by rw [b6] at z; cases z) fun z => by rw [b6] at z; cases z), b4, b5, b6⟩
    · intro z
      obtain ⟨o, es, ep, e, hd, _⟩ := hns
      have q := hT p hp
      rw [← z, e] at q
      cases q
      cases hd
  have hM : L2.Mod K mg (hidT s₁.heap H) := ⟨hK, nsOf hns, ⟨mb, nsOf hb, hbb⟩, by obtain ⟨mc, h1, h2⟩ := hlim; exact ⟨mc, nsOf h1, h2⟩⟩
  have e0 : Env0 P w K mg (hidT s₁.heap H) callerA [] s₁ H := ⟨rfl, hM, fun b o e => of_hidT e, Nat.le_of_eq (hidT_size _ _), trivial, fun b z => absurd (show b ∈ ([] : List Addr) from z) (by simp), hok, .of_eq hg⟩
  refine codeAny_mono (run _ H hK (nsOf hns) TB e0 hTab hScr fun b o e => ?_) fun r s' h => ?_
  · rcases kind b with ⟨hm, _⟩ | ⟨_, _, q⟩ | ⟨q, _⟩
    · exact .inl hm
    · rw [q] at e; cases e; exact .inr fun ps z => by cases z
    · rw [q] at e; cases e
  · cases r with
    | error e =>
      obtain ⟨_, _, _, _, _, _, _, _, _, _, _, _, z⟩ := h
      exact z.elim
    | ok fl =>
      cases fl with
      | next => exact False.elim h
      | brk => exact False.elim h
      | cont => exact False.elim h
      | ret u =>
        obtain ⟨v, H', os, bare, un, hok', rv, q⟩ := h
        obtain rfl : v = .bl true := q
        obtain rfl : u = Value.bool true := rv
        -- what stood there stands there; the tables have grown
        have old : ∀ b o, b ∉ cs.map Prod.snd → s₁.heap.get? b = some o → s'.heap.get? b = some o := fun b o nm e => by
          rcases kind b with ⟨hm, _⟩ | ⟨_, _, q⟩ | ⟨q, _⟩
          · exact absurd hm nm
          · obtain ⟨g1, _⟩ := hok b _ q
            obtain ⟨g2, _⟩ := hok' b _ (un.frzs b _ _ q)
            rw [e] at g1
            cases g1
            exact g2
          · exact un.keep b o e q (by show b ∉ ([] : List Addr); simp) (by simp)
        refine ⟨rfl, ⟨fun b o e => ?_, fun b o e => ?_⟩, os, bare⟩
        · by_cases hm : b ∈ cs.map Prod.snd
          · obtain ⟨p, hp, z⟩ := List.mem_map.mp hm
            subst z
            obtain ⟨more, g⟩ := un.tbls p.2 #[] (hTab p hp)
            have g' : s'.heap.get? p.2 = some { cls := .none, data := .fields (#[] ++ more) } := hok' p.2 _ g
            have e' := hT p hp
            rw [e] at e'
            cases e'
            exact .inr (.inl ⟨((hcode p hp).tab (hT p hp)).isCodeTable, rfl, #[], more, rfl, g'⟩)
          · exact .inl (old b o hm e)
        · by_cases hm : b ∈ cs.map Prod.snd
          · obtain ⟨p, hp, z⟩ := List.mem_map.mp hm
            subst z
            obtain ⟨more, g⟩ := un.tbls p.2 #[] (hTab p hp)
            exact ⟨_, hok' p.2 _ g⟩
          · exact ⟨o, old b o hm e⟩
end
def LawRun (P : Program) (w : World) (K : PySem.W.Frag) (n : Nat) (mg : Str → Option Value) (fa : Addr) (h : Heap) : Prop :=
  ∃ cs : List (Addr × Addr), (∀ p ∈ cs, h.get? p.2 = some { cls := .none, data := .fields #[] }) ∧ (∀ p ∈ cs, K.lookup p.2 = none) ∧ (∀ p ∈ cs, PySem.W.CodeHd h p.1 p.2) ∧
    ∀ (s₁ : Shared) (a : Addr) (ns : List Int) (base : Heap) (H : Hp), ns.length ≤ n → K.In base → base.Ns mainGlobals mg → (∀ p ∈ cs, LamX.TabB base mg p.1 p.2) → Env0 P w K mg base callerA [] s₁ H → (∀ p ∈ cs, H p.2 = some (.tbl #[])) → SqL K H a (ns.map V.int) → (∀ b o, H b = some o → b ∈ cs.map Prod.snd ∨ NoTbl o) →
      codeAny (model P w) callerA (.call (.ref fa) ⟨[.ref a], []⟩) (CR (L2.CX P w) [] P w H s₁ (fun v _ => v = .bl true) fun _ _ _ => False) s₁
theorem walk_G {l : PySem.W.OpenLaw} {n : Nat} {q : Program} {loose : List Str} {XP : (Str → Option Value) → Heap → Prop} {YP : World → Heap → Prop} {d : DefRec} {K : Params → PySem.W.Frag}
    (hn : l.most = some n) (hn2 : n ≤ sizeLine) (hdf : d.params.defaults = []) (hrec : ((recsOf q).any fun e => e.name == d.name) = true) (hY : ∀ (w : World) (h : Heap), YP w h → (K w.params).In h)
    (F : ∀ (w : World) (mg : Str → Option Value) (fa : Addr) (h : Heap), (K w.params).In h → h.Ns mainGlobals mg → mg d.name = some (.ref fa) → LamX.OwnTab (K w.params) fa h → LawRun l.prog w (K w.params) n mg fa h) :
    PySem.W.WalkO q loose XP YP l.row.toRowW d [] (fun f vs => PySem.call f vs) := by
  refine Att.attach_callB hn hdf fun w s₀ s₁ mg mb fa o pm cd doc a vs ns G Y ho hd hcd hmg hobj hints hlen hbits hg => ?_
  have KX := hY w _ Y
  have own : LamX.OwnTab (K w.params) fa s₁.heap := by
    intro c P o1 fd1 e dd vs1 sl k1 k2 k3 k4 k5
    obtain ⟨r, hm, hnm⟩ := List.any_eq_true.mp hrec
    have en : r.name = d.name := beq_iff_eq.mp hnm
    obtain ⟨a', o', fd', c', P', h1, h2, h3, h4, h5, h6⟩ := G.T.tab r hm
    rw [en, hmg] at h1
    cases h1
    have g1 := (KX _ _ k1).symm.trans h2
    cases g1
    have g2 := k2.symm.trans h3
    cases g2
    have g3 := k3.symm.trans h4
    cases g3
    obtain ⟨⟨oc, vc, e1, _, e3, e4⟩, hP⟩ := h6
    have g4 := (KX _ _ k4).symm.trans e1
    cases g4
    cases e3
    have g5 := k5.symm.trans e4
    cases g5
    exact hP
  obtain ⟨cs, hT, nT, hC, run⟩ := F w mg fa _ KX G.T.g hmg own
  exact law_end KX G.T.g G.T.b G.T.builtins G.T.nolimit hg hT nT hC G.T.bmain hobj hints (Nat.le_trans hlen hn2) fun base H hK hN hTB e0 hH hS hno => run s₁ a ns base H hlen hK hN hTB e0 hH hS hno
theorem pe_caught {X : Cx} {Tb : List (Addr × Str)} {TT : (XK → Hp → VK → Prop) → Hp → VK → Prop} {x a : Str} {g c Pt : Addr} {fd : FuncData} {st : Stmt} {Ng : List Str} {k : Nat} {params : Arguments} {body : Expr} {scope : Scope} {t : XK → TE} {p lpos pos : Pos}
    (F : Fun X.K x x st g fd) (hg : Gl X x) (hm : X.mg x = some (.ref g)) (Sg : FnScope Ng [a] (defScope st)) (hNg : Ng[0]? = some a) (hva : Vis (defScope st) a) (hb : L2.Binds X.K fd [a] [])
    (hG : ∀ cdv, LamX.GivesTo X Ng x (defScope st) g cdv (defBody st) a (X.env.qual ++ "<lambda>") TT)
    (TB : LamX.TabB X.base X.mg c Pt) (hcode : X.env.code = .ref c) (hmT : (Pt, X.env.qual ++ "<lambda>") ∈ Tb) (hu : ∀ p ∈ Tb, p.1 = Pt → p.2 = X.env.qual ++ "<lambda>") (hr : Room (k + 2) X.A) (L : LamX.LamS X.env.scope scope) (hdef : defaultsOf params X.env = ([], []))
    (hbind : ∀ (q : Str) (cl : List (Str × Addr)) (pm cv ctv : Value), bindArgs (PySem.W.kla_fn "<lambda>" q params body scope cl pm cv ctv) ⟨[], []⟩ = pure [])
    (hbody : ∀ (A : Around) (outer : List PySem.Env) (s : Shared) (H : Hp) (E : XK) (f c' : Addr), Room k (A.deeper (LamX.lamEnv X scope s.heap.objs.size f c')) → PE (LamX.lamCx X A outer s H E scope f c') body (t E))
    (hdb : (x == ("__debug__" : Str)) = false := by decide) (hd : (a == ("__debug__" : Str)) = false := by decide) (hcd : (a == ("__classdict__" : Str)) = false := by decide) :
    PE X (.Call (.Name x p) [.Lambda params body scope lpos] [] pos) (LamX.tLam Tb TT t) := by
  have kp := F.kp
  obtain ⟨oc, od, kV, doc, pm, an, cdv, ct, osl, rfl, lk, hcg⟩ := F.ex
  exact LamX.pe_lamcall hg hm kp lk hcg hb Sg hNg hva (hG cdv) TB hcode hmT hu hr L hdef hbind hbody hdb hd hcd
theorem PSs.ex {X : Cx} {ι : Type} {ss : List Stmt} {t : ι → TS} (h : ∀ i, PSs X ss (t i)) : PSs X ss (fun D σ H => ∃ i, t i D σ H) := ⟨fun pins s σ H D I ⟨i, k⟩ => (h i).run pins s σ H D I k⟩
theorem law_start {K : PySem.W.Frag} {mg : Str → Option Value} {Pt a : Addr} {q : Str} {own : List Nat} {ns : List Int} {H : Hp} {E : XK} {g : MS} {N : Nat} {σ : L2.St} {Q : VK} {nxx bk ct : L2.St → Hp → Prop} (hH : H Pt = some (.tbl #[])) (hS : SqL K H a (ns.map V.int)) (hno : ∀ b o, H b = some o → b ∈ [Pt] ∨ NoTbl o) (hz : ns.length ≤ 1000)
    (hσ : σ = some (.ref a) :: List.replicate N none) (hown : own.all (fun i => decide (1 < i)) = true) (hg : ∃ S', g (some (.scr ns) :: some .st :: List.replicate (N - 1) none) (begun ns) = .ok (.rt (.bl true), S')) (hN : 1 ≤ N) (hQ : ∀ H', Q (.bl true) H') :
    spBegun K mg [.ref a] H (fun v H' => ∃ l : Lay, tS (bS K mg l (tabT [(Pt, q)] l) own) E g { nx := nxx, rt := Q, bk := bk, ct := ct } (σ.set 1 (some v)) H') E := by
  let F : Hp := fun b => if b = Pt then none else if b = a then H b else none
  let T : Hp := fun b => if b = Pt then some (.tbl #[]) else none
  have Fk : ∀ b o, F b = some o → b ≠ Pt ∧ H b = some o := fun b o e => by
    have e : (if b = Pt then none else if b = a then H b else none) = some o := e
    split at e
    · cases e
    · split at e
      · exact ⟨by assumption, e⟩
      · cases e
  have Tk : ∀ b, T b ≠ none → b = Pt := fun b e => by
    have e : (if b = Pt then some (HO.tbl #[]) else none) ≠ none := e
    split at e
    · assumption
    · exact absurd rfl e
  have TP : T Pt = some (.tbl #[]) := if_pos rfl
  have fit : Fits F (fun _ => none) T H := by
    refine ⟨fun b o e => (Fk b o e).2, fun b o e => (by cases e), fun b o e => ?_, fun b e => absurd rfl e, fun b e => ?_, fun b e => rfl, fun b o e => ?_, fun b o e => (by cases e)⟩
    · have := Tk b (by rw [e]; simp)
      subst this
      rw [TP] at e
      rw [hH]; exact e
    · rw [Tk b e]; exact if_pos rfl
    · obtain ⟨n1, q⟩ := Fk b o e
      rcases hno b o q with z | z
      · exact absurd (List.mem_singleton.mp z) n1
      · exact z
  have scr : SqL K F a (ns.map V.int) := by
    rcases hS with (h | ⟨o, h⟩) | h
    · have n : a ≠ Pt := fun z => by rw [z, hH] at h; cases h
      exact .inl (.inl (by show (if a = Pt then none else if a = a then H a else none) = _; rw [if_neg n, if_pos rfl]; exact h))
    · have n : a ≠ Pt := fun z => by rw [z, hH] at h; cases h
      exact .inl (.inr ⟨o, by show (if a = Pt then none else if a = a then H a else none) = _; rw [if_neg n, if_pos rfl]; exact h⟩)
    · exact .inr h
  refine ⟨rfl, ⟨0, 0, 0⟩, F, fun _ => none, T, ns, fit, ⟨.ref a, [], rfl, ⟨a, rfl, scr⟩, rfl⟩, hz, fun l F' H' s hsa hla fit' I' => ⟨l, F', fun _ => none, F', fun _ => none, some (.scr ns) :: some .st :: List.replicate (N - 1) none, begun ns, ?_, ?_⟩⟩
  · have nP : Pt ≠ l.sa ∧ Pt ≠ l.la := ⟨fun z => (by rw [← z, TP] at hsa; cases hsa), fun z => (by rw [← z, TP] at hla; cases hla)⟩
    have get2 : ∀ i d, (some (D.scr ns) :: some D.st :: List.replicate (N - 1) none)[i]? = some (some d) → (i = 0 ∧ d = .scr ns) ∨ (i = 1 ∧ d = .st) := fun i d h => by
      match i, h with
      | 0, h => simp at h; exact .inl ⟨rfl, h.symm⟩
      | 1, h => simp at h; exact .inr ⟨rfl, h.symm⟩
      | i + 2, h =>
        simp only [List.getElem?_cons_succ, List.getElem?_replicate] at h
        split at h <;> cases h
    obtain ⟨N, rfl⟩ : ∃ m, N = m + 1 := ⟨N - 1, by omega⟩
    refine ⟨⟨T, ⟨fun b e => by rw [Tk b e]; exact List.mem_singleton.mpr rfl, fun p hp => by rw [List.mem_singleton.mp hp]; exact nP, fun p hp => ?_⟩, fit'⟩, Same.refl _, Same.refl _, fun _ => I', fun i d h n => ?_, fun i d h n => ?_, fun i j x hi hj e1 e2 h1 h2 => ?_, ?_⟩
    · rw [List.mem_singleton.mp hp]
      refine ⟨#[], TP, True.intro, fun pos cv hc => ?_⟩
      have z : codeAmong pos [] = some cv := hc
      simp [codeAmong] at z
    · rw [hσ]
      rcases get2 i d h with ⟨rfl, rfl⟩ | ⟨rfl, rfl⟩
      · exact ⟨.ref a, rfl, a, rfl, s.seq scr⟩
      · exact ⟨.ref l.sa, by simp [List.replicate_succ], rfl⟩
    · have := of_decide_eq_true (List.all_eq_true.mp hown i n)
      rcases get2 i d h with ⟨rfl, _⟩ | ⟨rfl, _⟩ <;> omega
    · obtain ⟨d, e1⟩ := e1
      have := of_decide_eq_true (List.all_eq_true.mp hown i hi)
      rcases get2 i d e1 with ⟨rfl, _⟩ | ⟨rfl, _⟩ <;> omega
    · rw [hσ]
      simp
  · obtain ⟨S', hg⟩ := hg
    rw [hg]
    intro v F2 O2 H2 _ _ _ _ hv
    have hv : v = .bl true := hv
    subst hv
    exact hQ H2
def IscT (K : PySem.W.Frag) (mg : Str → Option Value) (C : Addr) (tab : List (Str × Bool)) : Prop := ∀ n r, tab.lookup n = some r → ∀ A, mg n = some (.ref A) → ExcC K A ∧ PySem.W.kitOne K (.ref A) (.ref C) = some r
theorem isc_nil {K : PySem.W.Frag} {mg : Str → Option Value} {C : Addr} : IscT K mg C [] := fun n r h => by cases h
theorem isc_cons {K : PySem.W.Frag} {mg : Str → Option Value} {C C0 : Addr} {n0 : Str} {r0 : Bool} {tab : List (Str × Bool)} (hg : mg n0 = some (.ref C0)) (hx : ExcC K C0) (hk : PySem.W.kitOne K (.ref C0) (.ref C) = some r0) (h : IscT K mg C tab) : IscT K mg C ((n0, r0) :: tab) := fun n r hl A hm => by
  by_cases e : n = n0
  · subst e
    rw [List.lookup_cons_self] at hl
    cases hl
    rw [hg] at hm
    cases hm
    exact ⟨hx, hk⟩
  · have e2 : (n == n0) = false := by simpa using e
    rw [List.lookup_cons, e2] at hl
    exact h n r hl A hm
def KnT (K : PySem.W.Frag) (mg : Str → Option Value) (CS : Addr) (l : List Str) : Prop := ∀ n ∈ l, ∀ C, mg n = some (.ref C) → PySem.W.exmOne K (.ref C) (.ref CS) = some true
theorem kn_nil {K : PySem.W.Frag} {mg : Str → Option Value} {CS : Addr} : KnT K mg CS [] := fun n h => by cases h
theorem kn_cons {K : PySem.W.Frag} {mg : Str → Option Value} {CS C0 : Addr} {n0 : Str} {l : List Str} (hg : mg n0 = some (.ref C0)) (hk : PySem.W.exmOne K (.ref C0) (.ref CS) = some true) (h : KnT K mg CS l) : KnT K mg CS (n0 :: l) := fun n hm C e => by
  rcases List.mem_cons.mp hm with z | z
  · subst z; rw [hg] at e; cases e; exact hk
  · exact h n z C e
def retE : Stmt → Expr
  | .Return (some e) _ => e
  | _ => .Constant .none 0 ⟨0, 0, 0, 0⟩
theorem kit_sub {K : PySem.W.Frag} {t : Value} {C : Addr} {r : Bool} (hne : (t == Value.ref C) = true → r = true) (hd : PySem.W.hasDictIn K C = true) (ht : PySem.W.typeIn K (.ref C) = some (.type "type")) (hs : PySem.W.subIn K t (.ref C) = some r) : PySem.W.kitOne K t (.ref C) = some r := by
  unfold PySem.W.kitOne
  by_cases h : (t == Value.ref C) = true
  · rw [if_pos h, hne h]
  · rw [if_neg h]
    obtain ⟨cd, hc, _⟩ := PySem.W.any_some hd
    have e : ((PySem.W.clsIn K C).isSome && PySem.W.typeIn K (.ref C) == some (.type "type")) = true := by rw [hc, ht]; rfl
    show (if ((PySem.W.clsIn K C).isSome && PySem.W.typeIn K (.ref C) == some (.type "type")) = true then PySem.W.subIn K t (.ref C) else none) = some r
    rw [if_pos e]
    exact hs
theorem ref_ne {a c : Addr} (h : (a == c) = false) : (Value.ref a == Value.ref c) = true → false = true := fun z => by
  have e := beq_iff_eq.mp z
  cases e
  simp at h
theorem hd_lookup {K : PySem.W.Frag} {c P : Addr} (e : PySem.W.codeHdIn K c P = true) : ∃ dd vs sl, K.lookup c = some ⟨.type "code", dd, .fields vs, sl⟩ ∧ vs[11]? = some (.ref P) := by
  unfold PySem.W.codeHdIn at e
  split at e
  · rename_i dd vs sl hk
    simp only [Bool.and_eq_true] at e
    obtain ⟨⟨⟨⟨⟨e1, _⟩, _⟩, _⟩, _⟩, _⟩ := e
    split at e1
    · rename_i P' h11
      have hP : P' = P := beq_iff_eq.mp e1
      subst hP
      exact ⟨_, vs, _, hk, h11⟩
    · cases e1
  · cases e
end VS
namespace VS
open PySem PySem.Spec PyProof.Rows L2
def flatOf : D → Option V
  | .non => some .non
  | .bl b => some (.bl b)
  | .int i => some (.int i)
  | .str x => some (.str x)
  | _ => none
def flatsOf : List D → Option (List V)
  | [] => some []
  | d :: ds => match flatOf d, flatsOf ds with
    | some v, some vs => some (v :: vs)
    | _, _ => none
def inD' (d : D) : D → Option Bool
  | .tup xs => match flatOf d, flatsOf xs with
    | some v, some vs => some (inV v vs)
    | _, _ => none
  | .lst xs => match flatOf d, flatsOf xs with
    | some v, some vs => some (inV v vs)
    | _, _ => none
  | .scr ns => match flatOf d with
    | some v => some (inV v (ns.map V.int))
    | _ => none
  | _ => none
def gNotIn (d e : D) : Option D := (inD' d e).map fun k => .bl (!k)
variable {c : Dc}
theorem flatOf_den {F O : Hp} {d : D} {v w : V} (h : DenB c F O d v) (e : flatOf d = some w) : v = w ∧ flatV w = true := by
  cases d <;> simp only [flatOf, reduceCtorEq, Option.some.injEq] at e <;> subst e <;> simp only [DenB, Den] at h <;> subst h <;> exact ⟨rfl, rfl⟩
theorem flatOf_den' {F : Hp} {d : D} {v w : V} (h : Den c F d v) (e : flatOf d = some w) : v = w ∧ flatV w = true := by
  cases d <;> simp only [flatOf, reduceCtorEq, Option.some.injEq] at e <;> subst e <;> simp only [Den] at h <;> subst h <;> exact ⟨rfl, rfl⟩
theorem flatsOf_den {F : Hp} : ∀ {ds : List D} {vs ws : List V}, Dens c F ds vs → flatsOf ds = some ws → vs = ws ∧ ws.all flatV = true
  | [], _, _, h, e => by simp only [Dens] at h; cases e; exact ⟨h, rfl⟩
  | d :: ds, _, _, h, e => by
    simp only [Dens] at h
    obtain ⟨v, r, rfl, h1, h2⟩ := h
    simp only [flatsOf] at e
    split at e
    · rename_i w ws e1 e2
      cases e
      obtain ⟨rfl, a⟩ := flatOf_den' h1 e1
      obtain ⟨rfl, b⟩ := flatsOf_den h2 e2
      exact ⟨rfl, by simp [a, b]⟩
    · cases e
theorem flat_ints (ns : List Int) : (ns.map V.int).all flatV = true := by simp [flatV]
theorem in_seq {F O T H : Hp} {d e : D} {v u : V} {k : Bool} (fit : Fits F O T H) (hv : DenB c F O d v) (hu : DenB c F O e u) (g : inD' d e = some k) : ∃ p xs, u = .ref p ∧ (SqL c.K H p xs ∨ SqT c.K H p xs) ∧ flatV v = true ∧ xs.all flatV = true ∧ inV v xs = k := by
  cases e <;> simp only [inD', reduceCtorEq] at g
  · split at g <;> cases g
    rename_i w ws e1 e2
    obtain ⟨a, us, rfl, h1, z, h2⟩ := hu
    obtain ⟨rfl, b⟩ := flatOf_den hv e1
    obtain ⟨rfl, b'⟩ := flatsOf_den h2 e2
    exact ⟨a, _, rfl, .inr (sqT_mono fit.f h1), b, b', rfl⟩
  · split at g <;> cases g
    rename_i w ws e1 e2
    obtain ⟨a, us, rfl, h1, z, h2⟩ := hu
    obtain ⟨rfl, b⟩ := flatOf_den hv e1
    obtain ⟨rfl, b'⟩ := flatsOf_den h2 e2
    exact ⟨a, _, rfl, .inl (SqL_of (h1.elim (fit.f _ _) (fit.o _ _))), b, b', rfl⟩
  · split at g <;> cases g
    rename_i w e1
    obtain ⟨a, rfl, h1⟩ := hu
    obtain ⟨rfl, b⟩ := flatOf_den hv e1
    exact ⟨a, _, rfl, .inl (fit.f.seq h1), b, flat_ints _, rfl⟩
theorem r_notIn : RuleB c (rIn c.K true) gNotIn := by
  intro F O T H d e v u d' Q fit hv hu g q
  simp only [gNotIn, Option.map_eq_some_iff] at g
  obtain ⟨k, e1, rfl⟩ := g
  obtain ⟨p, xs, rfl, h1, h2, h3, rfl⟩ := in_seq fit hv hu e1
  exact ⟨p, xs, rfl, h1, h2, h3, q _ F H (Same.refl _) fit rfl⟩
end VS
namespace VS
open PySem PySem.Spec PyProof.Rows L2
end VS
namespace VS
open PySem PySem.Spec PyProof.Rows L2
section
variable {X : Cx} {b : Bc} {E : XK} {e e1 e2 ee : Expr} {f f1 f2 : ME} {c : Dc} {pos : Pos}
def cutD (xs : List D) (lo hi : Option Int) : List D := (xs.drop (HT.sIx xs.length 0 lo)).take (HT.sIx xs.length xs.length hi - HT.sIx xs.length 0 lo)
def gSl : D → Option Int → Option Int → Option D
  | .tup xs, lo, hi => some (.tup (cutD xs lo hi))
  | .lst xs, lo, hi => some (.lst (cutD xs lo hi))
  | _, _, _ => none
abbrev MO := Env → DS → Res (Option Int × DS)
def noPart : MO := fun _ S => .ok (none, S)
def somePart (f : ME) : MO := fun env S => bindM (f env S) fun d S1 => match d with
  | .int i => .ok (some i, S1)
  | _ => .bad
def slM (f : ME) (lo hi : MO) : ME := fun env S => bindM (f env S) fun d S1 => bindM (lo env S1) fun l S2 => bindM (hi env S2) fun h S3 => ofO (gSl d l h) S3
theorem PO.imp {o : Option Expr} {t t' : TO} (h : PO X o t) (i : ∀ σ H Q, t' σ H Q → t σ H Q) : PO X o t' := ⟨fun pins s σ H Q I q => h.run pins s σ H Q I (i σ H Q q)⟩
theorem n_disp {trs : List (TE × TE)} (kvs : List (Key × V)) (ks : List Key) (xs : List D) (h : PE X e (tDisp trs)) (ht : ∀ σ H (Q : List (V × V) → Hp → Prop), Q (kvs.map fun kv => (kV kv.1, kv.2)) H → tPairs trs σ H Q) (hl : kvs.length ≤ 15) (hm : (mergeK [] kvs).map (·.1) = ks) (hd : ∀ F, Dens b.c F xs ((mergeK [] kvs).map (·.2))) : PE X e (tN b E (cM (.dct ks xs))) :=
  PE.imp h fun σ H Q ⟨F0, O0, F, O, env, S, P, h⟩ p hp => ht σ _ _ ⟨upd_same, kvs, rfl, hl, by
    rw [upd_upd]
    exact h F H (Same.refl _) P.fit P.inv p (.dK (mergeK [] kvs)) hp ⟨mergeK [] kvs, rfl, hm, hd F⟩⟩
end
end VS
namespace VS
open PySem PySem.Spec PyProof.Rows L2
section
variable {X : Cx} {b : Bc} {E : XK} {e e1 e2 : Expr} {st : Stmt} {f f1 f2 : ME} {pos : Pos}
def appPopM (i j : Nat) (fj : ME) : MS := fun env S => match env[i]?, env[j]? with
  | some (some (.lst xs)), some (some (.lst ds)) => bindM (fj env S) fun q S1 => match q with
    | .int q => if -1000000 ≤ q ∧ q ≤ 1000000 ∧ xs.length < 1000000 then (match seqIndex? q ds.length with
      | some m => (match ds[m]? with
        | some d => .ok (.nx ((env.set j (some (.lst (ds.eraseIdx m)))).set i (some (.lst (xs ++ [d])))), S1)
        | none => .bad)
      | none => .bad) else .bad
    | _ => .bad
  | _, _ => .bad
end
end VS
namespace VS
open PySem PySem.Spec PyProof.Rows L2
end VS
namespace VS
open PySem PySem.Spec PyProof.Rows L2
open AutoSeq1 (wpAny_loadPart')
end VS
namespace VS
open PySem PySem.Spec PyProof.Rows L2
end VS
namespace VS
open PySem PySem.Spec PyProof.Rows L2
def enumD : Nat → List D → List D
  | _, [] => []
  | i, d :: ds => .tup [.int i, d] :: enumD (i + 1) ds
def forE (set : Env → D → Option Env) (f : ME) (g : MS) : MS := fun env S => bindM (f env S) fun d S1 => match d with
  | .lst ds => loopS set g (enumD 0 ds) env S1
  | .tup ds => loopS set g (enumD 0 ds) env S1
  | _ => .bad
end VS
namespace VS
open PySem PySem.Spec PyProof.Rows L2 PpSet
end VS
namespace VS
open PySem PySem.Spec PyProof.Rows L2 PpSet
end VS
namespace VS
open PySem PySem.Spec PyProof.Rows L2
end VS
namespace VS
open PySem PySem.Spec PyProof.Rows L2
def par3S (i j l : Nat) (g : MA) : MS := fun env S => bindM (g env S) fun ds S1 => match ds with | [d, e, f] => .ok (.nx (((env.set i (some d)).set j (some e)).set l (some f)), S1) | _ => .bad
end VS
namespace VS
open PySem PySem.Spec PyProof.Rows L2
def rDG : R2 := fun x y H Q => ∃ a v, x = .ref a ∧ DGet H a y (some v) ∧ Q v H
theorem ix_dict {X : Cx} (hu : X.A.units + 1 < cLine) : IxR X rDG := by
  intro value slice pins s σ H x y v u Q I rx ry h hs
  obtain ⟨a, w, rfl, g, q⟩ := h
  cases rx
  exact tail_any (dict_typeIs I g) PySem.F.slot_dict_getitem.lookup (d_getItem hu I g ry fun w' s3 I3 rw' => ⟨w, H, I3, rw', q⟩) hs
def rIxA (K : PySem.W.Frag) : R2 := fun x y H Q => rIx K x y H Q ∨ rDG x y H Q
theorem ix_all {X : Cx} (hu : X.A.units + 1 < cLine) : IxR X (rIxA X.K) := ix_seq.or (ix_dict hu)
def gIxA : D → D → Option D
  | .lst xs, .int i => atI xs i
  | .tup xs, .int i => atI xs i
  | .dct ks xs, .int i => dlook ks xs (.inl i)
  | .dct ks xs, .str z => dlook ks xs (.inr z)
  | _, _ => none
theorem r_ixA {c : Dc} : RuleB c (rIxA c.K) gIxA := by
  intro F O T H d e v u d' Q fit hv hu g q
  cases d <;> cases e <;> simp only [gIxA, reduceCtorEq] at g
  · rename_i xs i
    exact .inl (r_ix F O T H (.tup xs) (.int i) v u d' Q fit hv hu g q)
  · rename_i xs i
    exact .inl (r_ix F O T H (.lst xs) (.int i) v u d' Q fit hv hu g q)
  · rename_i ks xs i
    obtain ⟨a, kv, rfl, h1, h2, h3⟩ := hv
    obtain ⟨w, e1, e2⟩ := (dlook_val h2 h3).1 _ g
    refine .inr ⟨a, w, rfl, ?_, q _ F H (Same.refl _) fit e2⟩
    rw [show u = _ from hu, ← e1]
    exact DGet.k (k := .inl i) (h1.elim (fit.f _ _) (fit.o _ _))
  · rename_i ks xs i
    obtain ⟨a, kv, rfl, h1, h2, h3⟩ := hv
    obtain ⟨w, e1, e2⟩ := (dlook_val h2 h3).1 _ g
    refine .inr ⟨a, w, rfl, ?_, q _ F H (Same.refl _) fit e2⟩
    rw [show u = _ from hu, ← e1]
    exact DGet.k (k := .inr i) (h1.elim (fit.f _ _) (fit.o _ _))
def setA (i : Nat) (fj f : ME) : MS := fun env S => bindM (f env S) fun d S1 => match env[i]? with
  | some (some (.lst ds)) => bindM (fj env S1) fun k S2 => match k with
    | .int k => (match ixN ds.length k with
      | some j => .ok (.nx (env.set i (some (.lst (ds.set j d)))), S2)
      | none => .bad)
    | _ => .bad
  | some (some (.dct ks xs)) => bindM (fj env S1) fun k S2 => match keyD k with
    | some k => if ks.length < 1000000 then .ok (.nx (env.set i (some (.dct (dputK ks k) (dputV ks xs k d)))), S2) else .bad
    | none => .bad
  | _ => .bad
def intKeys : List Key → Option (List Int)
  | [] => some []
  | .inl i :: r => (intKeys r).map (i :: ·)
  | .inr _ :: _ => none
theorem intKeys_some : ∀ {ks : List Key} {ns : List Int}, intKeys ks = some ns → ks = ns.map Sum.inl
  | [], ns, h => by cases h; rfl
  | .inl i :: r, ns, h => by
    simp only [intKeys, Option.map_eq_some_iff] at h
    obtain ⟨ms, h1, rfl⟩ := h
    rw [intKeys_some h1] <;> rfl
  | .inr _ :: _, _, h => by simp [intKeys] at h
def gSortedA : List D → Option D
  | [.lst ds] => if ds.length ≤ 1000000 then (match intsOfD ds with
      | some ns => some (.lst ((ns.mergeSort fun a b => decide (a ≤ b)).map D.int))
      | none => (tupsOfD ds).map fun nss => .lst ((nss.mergeSort leI).map tupDI)) else none
  | [.dct ks _] => if ks.length < 64 then (intKeys ks).map fun ns => .lst ((ns.mergeSort fun a b => decide (a ≤ b)).map D.int) else none
  | _ => none
def rSortDI : List V → Hp → VK → Prop := fun xs H Q => ∃ (a : Addr) (kvs : List (Key × V)) (ks : List Int), xs = [.ref a] ∧ Rd H a (.dK kvs) ∧ kvs.map (·.1) = ks.map Sum.inl ∧ ks.length < 64 ∧
    ∀ (ys : List Int) (p : Addr), ys.Perm ks → ys.Pairwise (· ≤ ·) → H p = none → Q (.ref p) (upd H p (.lst (ys.map V.int)))
def rSortA (K : PySem.W.Frag) : List V → Hp → VK → Prop := fun vs H Q => rSort2 K vs H Q ∨ rSortDI vs H Q
theorem cr_sortA {X : Cx} (hc : X.calm = true) : CallR X (.builtin "sorted") (rSortA X.K) := fun pins s σ H vs us Q I r h => h.elim (cr_sort2 pins s σ H vs us Q I r) (call_sortedDI hc pins s σ H vs us Q I r)
theorem r_sortedA {c : Dc} : RuleNN c (rSortA c.K) gSortedA := by
  intro F O T H ds vs d' Q fit hv g q
  match ds, g with
  | [.lst ds], g => exact .inl (r_sorted F O T H [.lst ds] vs d' Q fit hv g q)
  | [.dct ks xs], g =>
    simp only [gSortedA] at g
    split at g
    · rename_i hz
      simp only [Option.map_eq_some_iff] at g
      obtain ⟨ns, e1, rfl⟩ := g
      have e2 := intKeys_some e1
      subst e2
      obtain ⟨v, r, rfl, ⟨a, kv, rfl, h1, h2, h3⟩, h⟩ := paired1 hv
      cases paired0 h
      refine .inr ⟨a, kv, ns, rfl, .of (h1.elim (fit.f _ _) (fit.o _ _)), h2, by simpa using hz, fun ns' p hp hq hn => ?_⟩
      have e4 : ns' = ns.mergeSort fun a b => decide (a ≤ b) := by
        refine List.Perm.eq_of_pairwise (le := fun a b : Int => a ≤ b) (fun a b _ _ x y => by omega) hq ?_ (hp.trans (List.mergeSort_perm _ _).symm)
        have := List.pairwise_mergeSort (le := fun a b : Int => decide (a ≤ b)) (fun a b c x y => by simp at *; omega) (fun a b => by simp; omega) ns
        exact this.imp fun h => by simpa using h
      subst e4
      exact q F H p _ (Same.refl _) fit hn ⟨_, rfl, by rw [List.length_map, List.length_mergeSort]; exact Nat.le_trans (by simp at hz; omega) million, Dens.of_ints _⟩
    · cases g
def gLenA : List D → Option D
  | [.lst xs] => some (.int xs.length)
  | [.tup xs] => some (.int xs.length)
  | [.dct ks _] => some (.int ks.length)
  | [.str x] => if x.length ≤ 1000000 then some (.int x.length) else none
  | [.scr ns] => some (.int ns.length)
  | _ => none
def rLenA (K : PySem.W.Frag) : List V → Hp → VK → Prop := fun xs H Q => (∃ x n, xs = [x] ∧ LenV K x H n ∧ Q (.int n) H) ∨ ∃ a kvs, xs = [V.ref a] ∧ H a = some (.dK kvs) ∧ Q (.int (kvs.length : Nat)) H
theorem cr_lenA {X : Cx} : CallR X (.builtin "len") (rLenA X.K) := call_len.or call_lenD
theorem r_lenA {c : Dc} : RuleN c (rLenA c.K) gLenA := by
  intro F O T H ds vs d' Q fit hv g q
  match ds, g with
  | [.lst xs], g => exact .inl (r_len F O T H [.lst xs] vs d' Q fit hv g q)
  | [.tup xs], g => exact .inl (r_len F O T H [.tup xs] vs d' Q fit hv g q)
  | [.str xs], g => exact .inl (r_len F O T H [.str xs] vs d' Q fit hv g q)
  | [.scr xs], g => exact .inl (r_len F O T H [.scr xs] vs d' Q fit hv g q)
  | [.dct ks xs], g =>
    cases g
    obtain ⟨v, r, rfl, ⟨a, kv, rfl, h1, h2, h3⟩, h⟩ := paired1 hv
    cases paired0 h
    refine .inr ⟨a, kv, rfl, h1.elim (fit.f _ _) (fit.o _ _), q _ F H (Same.refl _) fit ?_⟩
    rw [← h2, List.length_map]
    rfl
end VS
namespace VS
open PySem PySem.Spec PyProof.Rows L2
def rDNotIn : R2 := fun y x H Q => ∃ a o, x = .ref a ∧ DGet H a y o ∧ Q (.bl (!o.isSome)) H
theorem op_dNotIn {X : Cx} (hu : X.A.units + 1 < cLine) : OpR X (compareOp .NotIn) rDNotIn := by
  intro pins s σ H x y v u Q I rx ry h
  obtain ⟨a, o, rfl, g, q⟩ := h
  cases ry
  exact d_notIn hu I g rx fun s' I' => ⟨.bl (!o.isSome), H, I', rfl, q⟩
def inDA (d e : D) : Option Bool := match e with
  | .dct ks xs => (keyD d).map fun k => (dlook ks xs k).isSome
  | e => inD' d e
def gNotInA (d e : D) : Option D := (inDA d e).map fun k => .bl (!k)
abbrev rNotInA (K : PySem.W.Frag) : R2 := fun x y H Q => rIn K true x y H Q ∨ rDNotIn x y H Q
theorem op_notInA {X : Cx} (hu : X.A.units + 1 < cLine) : OpR X (compareOp .NotIn) (rNotInA X.K) := op_notIn_seq.or (op_dNotIn hu)
theorem dct_in {c : Dc} {F O T H : Hp} {d : D} {ks : List Key} {xs : List D} {v u : V} {k : Bool} (fit : Fits F O T H) (hv : DenB c F O d v) (hu : DenB c F O (.dct ks xs) u) (g : (keyD d).map (fun k => (dlook ks xs k).isSome) = some k) : ∃ a o, u = .ref a ∧ DGet H a v o ∧ o.isSome = k := by
  simp only [Option.map_eq_some_iff] at g
  obtain ⟨k0, ek, rfl⟩ := g
  obtain ⟨a, kv, rfl, h1, h2, h3⟩ := hu
  have hk : v = kV k0 := by cases d <;> simp only [keyD, reduceCtorEq, Option.some.injEq] at ek <;> subst ek <;> exact hv
  obtain ⟨l1, l2⟩ := dlook_val (k := k0) h2 h3
  refine ⟨a, valV kv k0, rfl, hk ▸ DGet.k (h1.elim (fit.f _ _) (fit.o _ _)), ?_⟩
  cases hl : dlook ks xs k0 with
  | none => rw [l2 hl]; rfl
  | some z => obtain ⟨w, e, _⟩ := l1 z hl; rw [e]; rfl
theorem r_notInA {c : Dc} : RuleB c (rNotInA c.K) gNotInA := by
  intro F O T H d e v u d' Q fit hv hu g q
  cases e with
  | dct ks xs =>
    simp only [gNotInA, inDA, Option.map_eq_some_iff] at g
    obtain ⟨k, g, rfl⟩ := g
    obtain ⟨a, o, h1, h2, rfl⟩ := dct_in fit hv hu (by simpa using g)
    exact .inr ⟨a, o, h1, h2, q _ F H (Same.refl _) fit rfl⟩
  | _ => exact .inl (r_notIn F O T H d _ v u d' Q fit hv hu g q)
def CDivW (i j : Int) : Prop := 0 < j ∧ j.natAbs < 2 ^ 2000
theorem op_fdivW {X : Cx} : OpR X (binaryOp .FloorDiv) (rI CDivW fun i j => .int (i / j)) := opI fun i j _ _ _ _ _ hc q => floordiv_int (by have := hc.1; omega) (by rw [Int.fdiv_eq_ediv_of_nonneg _ (by have := hc.1; omega)]; exact q) (.inl (PyProof.noPylong_of_log2 (by
  have h := hc.2
  by_cases h0 : j.natAbs = 0
  · rw [h0]; decide
  · have := (Nat.log2_lt h0).mpr h; omega)))
abbrev gDivW := gIC (fun _ j => decide (0 < j ∧ j.natAbs < 2 ^ 2000)) fun i j => .int (i / j)
theorem r_divW {c : Dc} : RuleB c (rI CDivW fun i j => .int (i / j)) gDivW := rb_IC (fun _ j h => (of_decide_eq_true h : 0 < j ∧ j.natAbs < 2 ^ 2000)) fun _ _ _ => rfl
section
variable {X : Cx} {b : Bc} {E : XK} {e e1 : Expr} {es : List Expr} {st : Stmt} {rest : List Stmt} {f f1 : ME} {g : MS}
theorem PostS.own {F0 O0 : Hp} {r : Res (Fl × DS)} {Dn : Ends} (i : Nat) (hi : i ∉ b.own) (h : PostS b E F0 O0 r Dn) : PostS { b with own := i :: b.own } E F0 O0 r Dn := by
  have fr : ∀ {σ : L2.St} {F O H : Hp} {env : Env} {S : DS}, Pre { b with own := i :: b.own } F0 O0 F O H σ env S → ∃ F' O', Pre b F0 O0 F' O' H σ env S := fun {σ F O H env S} P => by
    obtain ⟨F', O', _, P'⟩ := P.frz i
    have e : (i :: b.own).filter (· != i) = b.own := by
      rw [List.filter_cons]
      simp only [bne_self_eq_false, Bool.false_eq_true, if_false]
      exact List.filter_eq_self.mpr fun x hx => by simpa using fun z : x = i => hi (z ▸ hx)
    refine ⟨F', O', ?_⟩
    have : ({ ({ b with own := i :: b.own } : Bc) with own := (i :: b.own).filter (· != i) } : Bc) = b := by rw [e]
    rw [← this]
    exact P'
  cases r with
  | ok p =>
    obtain ⟨a, S'⟩ := p
    cases a with
    | nx env' => exact fun σ' F' O' H' P => let ⟨F2, O2, P2⟩ := fr P; h σ' F2 O2 H' P2
    | rt d => exact h
    | bk env' => exact fun σ' F' O' H' P => let ⟨F2, O2, P2⟩ := fr P; h σ' F2 O2 H' P2
    | ct env' => exact fun σ' F' O' H' P => let ⟨F2, O2, P2⟩ := fr P; h σ' F2 O2 H' P2
  | exc n f fs S' => exact h
  | bad => exact h
theorem Pre.own {F0 O0 F O H : Hp} {σ : L2.St} {env : Env} {S : DS} {i : Nat} {d : D} {p : Addr} {o : HO} (P : Pre b F0 O0 F O H σ env S) (hi : i ∉ b.own) (hp : H p = none) (hd : ObjD b.c F d o) :
    Pre { b with own := i :: b.own } F0 O0 F (upd O p o) (upd H p o) (σ.set i (some (.ref p))) (env.set i (some d)) S := by
  have nO := upd_none P.fit.o hp
  have eO : Same O (upd O p o) := same_upd nO
  have other : ∀ {m : Nat} {x : Addr}, m ∈ b.own → (∃ d, env[m]? = some (some d)) → σ[m]? = some (some (.ref x)) → x ≠ p := fun {m x} hm ⟨d, e⟩ hx z => by
    obtain ⟨y, h1, h2, _⟩ := P.slotO m d e hm
    rw [h1] at hx
    cases hx
    exact h2.some (z ▸ nO)
  refine ⟨P.fit.newO hp hd.ld, P.f0, P.o0.trans eO, P.inv, fun j d' h n => ?_, fun j d' h n => ?_, fun j k a hj hk e1 e2 h1 h2 => ?_, by simp [P.len]⟩
  · simp only [List.mem_cons, not_or] at n
    rw [set_ne' n.1] at h ⊢
    exact P.slot j d' h n.2
  · rcases get_set h with ⟨rfl, e, hl⟩ | ⟨ne, h⟩
    · cases e
      exact ⟨p, List.getElem?_set_self (by rw [P.len]; exact hl), hd.own upd_same, upd_none P.o0 nO⟩
    · have hj : j ∈ b.own := (List.mem_cons.mp n).resolve_left ne
      obtain ⟨a, h1, h2, h3⟩ := P.slotO j d' h hj
      exact ⟨a, by rw [set_ne' ne]; exact h1, h2.mono (Same.refl _) (fun o q => eO _ _ q), h3⟩
  · obtain ⟨d1, e1⟩ := e1
    obtain ⟨d2, e2⟩ := e2
    rcases get_set h1 with ⟨z1, q1, l1⟩ | ⟨n1, h3⟩
    · rcases get_set h2 with ⟨z2, q2, l2⟩ | ⟨n2, h4⟩
      · rw [z1, z2]
      · cases q1
        rw [set_ne' n2] at e2
        exact absurd rfl (other ((List.mem_cons.mp hk).resolve_left n2) ⟨d2, e2⟩ h4)
    · rcases get_set h2 with ⟨z2, q2, l2⟩ | ⟨n2, h4⟩
      · cases q2
        rw [set_ne' n1] at e1
        exact absurd rfl (other ((List.mem_cons.mp hj).resolve_left n1) ⟨d1, e1⟩ h3)
      · rw [set_ne' n1] at e1
        rw [set_ne' n2] at e2
        exact P.sep j k a ((List.mem_cons.mp hj).resolve_left n1) ((List.mem_cons.mp hk).resolve_left n2) ⟨d1, e1⟩ ⟨d2, e2⟩ h3 h4
def callLM (tbl : List (Str × (List D → RP))) (i : Nat) (g : MA) : ME := fun env S => match env[i]? with
  | some (some (.cls n)) => match tbl.lookup n with
    | some G => bindM (g env S) fun ds S1 => liftP (G ds) S1
    | none => .bad
  | _ => .bad
structure LocT (X : Cx) (E : XK) (e : Expr) (es : List Expr) (i m : Nat) (tbl : List (Str × (List D → RP))) : Prop where
  ex : ∀ n G, tbl.lookup n = some G → ∃ f, X.mg n = some (.ref f) ∧ ∀ t, PA X es t → PE X e (tCallL i f (spP X.K X.mg m G) [] E t)
theorem loc_nil {i m : Nat} : LocT X E e es i m [] := ⟨fun n G h => by cases h⟩
theorem loc_cons {i m : Nat} {n : Str} {G : List D → RP} {f : Addr} {tbl : List (Str × (List D → RP))} (hm : X.mg n = some (.ref f)) (h : ∀ t, PA X es t → PE X e (tCallL i f (spP X.K X.mg m G) [] E t)) (r : LocT X E e es i m tbl) : LocT X E e es i m ((n, G) :: tbl) := ⟨fun n' G' hl => by
  by_cases z : n' = n
  · subst z
    rw [List.lookup_cons_self] at hl
    cases hl
    exact ⟨f, hm, h⟩
  · have z2 : (n' == n) = false := by simpa using z
    rw [List.lookup_cons, z2] at hl
    exact r.ex n' G' hl⟩
theorem e_callL {ga : MA} {i m : Nat} {tbl : List (Str × (List D → RP))} (ho : b.own.contains i = false) (hc : b.c.K = X.K ∧ b.c.mg = X.mg) (hm : es.length = m) (hT : LocT X E e es i m tbl) (ha : PA X es (tA b E ga)) (hlen : ∀ env S ds S', ga env S = .ok (ds, S') → ds.length = es.length) : PE X e (tE b E (callLM tbl i ga)) :=
  ⟨fun pins s σ H Q I ⟨F0, O0, F, O, env, S, P, h⟩ => by
    unfold callLM at h
    cases he : env[i]? with
    | none => rw [he] at h; exact False.elim h
    | some o =>
      cases o with
      | none => rw [he] at h; exact False.elim h
      | some d =>
        cases d with
        | cls n =>
          rw [he] at h
          simp only at h
          cases hl : tbl.lookup n with
          | none => rw [hl] at h; exact False.elim h
          | some G =>
            rw [hl] at h
            simp only at h
            obtain ⟨f, hf, rule⟩ := hT.ex n G hl
            obtain ⟨v, hv1, C, hv2, hv3⟩ := P.slot i (.cls n) he (by simpa using ho)
            have hb := Post.bind h
            rw [hc.2, hf] at hv3
            cases hv3
            subst hv2
            refine (rule _ ha).run pins s σ H Q I ⟨hv1, F0, O0, F, O, env, S, P, ?_⟩
            revert hb
            cases hr : ga env S with
            | ok p =>
              obtain ⟨ds, S1⟩ := p
              have hl := hlen env S ds S1 hr
              intro hb F1 H1 s1 fit1 I1 vs hvs
              have k := hb F1 H1 s1 fit1 I1
              obtain ⟨⟨K, mg, l⟩, stf, TP, own⟩ := b
              obtain ⟨T0, tp, fit1⟩ := fit1
              obtain ⟨h1, h2⟩ := hc
              cases h1
              cases h2
              refine ⟨by rw [List.append_nil, ← hvs.length, hl]; exact hm, l, F1, O, _, ds, fit1, by rw [List.append_nil]; exact hvs, ?_⟩
              revert k
              cases hG : G ds with
              | ok d => exact fun k v F' H' s f dv => k F' H' s ⟨T0, TP.mono tp s, f⟩ (I1.mono s) v dv
              | exc n f fs => exact fun k cls dd F' H' s f x => k cls dd F' H' s ⟨T0, TP.mono tp s, f⟩ (I1.mono s) x
              | bad => exact fun k => False.elim k
            | exc n f fs S' => exact fun h => h
            | bad => exact fun h => h
        | _ => rw [he] at h; exact False.elim h⟩
end
end VS
namespace VS
open PySem PySem.Spec PyProof.Rows L2
end VS
namespace VS
open PySem PySem.Spec PyProof.Rows L2
theorem tuple_mulSame (l : Addr) (its0 : Array Value) (n : Nat) (dn : Option Addr) (sn : Array (Option Value)) (x : Int) (u : Tok) (z0 : (decide (x < -(2 ^ 63)) || decide (x ≥ 2 ^ 63)) = false) (z1 : (its0.isEmpty || x == 1) = true) :
    Meets (Builtin.«tuple.__mul__» ⟨[.ref l, .int x u], []⟩) (fun _ Z s => s.heap.get? l = some { cls := .type "tuple", dict := dn, data := .seq its0 n, slots := sn } ∧ Z (.ok (.ret (.ref l))) s) :=
  .of_wp fun prog w A Z s h => by
    obtain ⟨hh, g, d, tt, oo⟩ := s
    obtain ⟨hat, h⟩ := h
    have f1 := AutoSeq1.idx_int
    wp_walk using wpAny_loadPart' hat
    repeat (first
      | (refine wpAny_ite_false (decide_eq_false (by rw [z0]; exact Bool.false_ne_true)) ?_; wp_walk using wpAny_loadPart' hat)
      | (refine wpAny_ite_true (decide_eq_true z1) ?_; wp_walk using wpAny_loadPart' hat))
    exact ⟨_, rfl, h⟩
theorem tuple_mulNone (l : Addr) (its0 : Array Value) (n : Nat) (dn : Option Addr) (sn : Array (Option Value)) (x : Int) (u : Tok) (z0 : (decide (x < -(2 ^ 63)) || decide (x ≥ 2 ^ 63)) = false) (z1 : (its0.isEmpty || x == 1) = false) (z2 : (decide (x ≤ 0) || its0.isEmpty) = true) :
    Meets (Builtin.«tuple.__mul__» ⟨[.ref l, .int x u], []⟩) (fun _ Z s => s.heap.get? l = some { cls := .type "tuple", dict := dn, data := .seq its0 n, slots := sn } ∧
      Z (.ok (.ret (Value.ref s.heap.objs.size))) { s with heap := s.heap.push { cls := Value.type "tuple", data := Data.seq #[] }, toks := s.toks }) :=
  .of_wp fun prog w A Z s h => by
    obtain ⟨hh, g, d, tt, oo⟩ := s
    obtain ⟨hat, h⟩ := h
    have f1 := AutoSeq1.idx_int
    wp_walk using wpAny_loadPart' hat
    repeat (first
      | (refine wpAny_ite_false (decide_eq_false (by rw [z0]; exact Bool.false_ne_true)) ?_; wp_walk using wpAny_loadPart' hat)
      | (refine wpAny_ite_false (decide_eq_false (by rw [z1]; exact Bool.false_ne_true)) ?_; wp_walk using wpAny_loadPart' hat)
      | (refine wpAny_ite_true (decide_eq_true z2) ?_; wp_walk using wpAny_loadPart' hat))
    exact ⟨_, rfl, h⟩
def rRepA (K : PySem.W.Frag) : R2 := fun x y H Q => ∃ l k ws, x = .ref l ∧ y = .int k ∧ SqT K H l ws ∧ -1000 ≤ k ∧ k ≤ 1000 ∧ ws.length ≤ 1000 ∧ (ws = [] ∨ k = 1 → Q (.ref l) H) ∧ (ws ≠ [] → k ≠ 1 → ∀ p, H p = none → Q (.ref p) (upd H p (.tup (List.replicate k.toNat ws).flatten)))
section
variable {X : Cx}
theorem op_repA : OpR X (binaryOp .Mult) (rRepA X.K) := by
  intro pn s σ H x y v u Q I rx ry h
  obtain ⟨l, k, ws, rfl, rfl, isT, h0, h1, hz, q1, q2⟩ := h
  by_cases hk : 2 ≤ k ∧ ws ≠ []
  · exact op_repT pn s σ H _ _ v u Q I rx ry ⟨l, k, ws, rfl, rfl, isT, hk.2, hk.1, h1, hz, q2 hk.2 (by omega)⟩
  cases rx
  obtain ⟨t, rfl⟩ := ry
  obtain ⟨el, r, ⟨⟨cq, dn, dq, sn⟩, obq, clq, n, dat⟩, szq⟩ := I.tuple isT
  simp only at clq dat
  subst clq dat
  have len0 : el.length = ws.length := r.length.symm
  have z0 : (decide (k < -(2 ^ 63)) || decide (k ≥ 2 ^ 63)) = false := by
    rw [decide_eq_false (by omega), decide_eq_false (by omega)] <;> rfl
  by_cases hs1 : ws = [] ∨ k = 1
  · have z1 : (el.toArray.isEmpty || k == 1) = true := by
      rcases hs1 with z | z
      · have : el = [] := List.eq_nil_of_length_eq_zero (by rw [len0, z]; rfl)
        subst this
        rfl
      · subst z
        rw [beq_self_eq_true, Bool.or_true]
    refine wpAny_binaryOp_repeat_ref (T := "tuple") (U := "int") (by decide) ⟨_, obq, rfl⟩ (fun s' => typeIs_int s' k t) noFill_tuple_mul F.fills_int_mul F.slot_int_rmul repeat_tuple F.slot_int_index.lookup
      (call_meets F.slot_int_rmul (typeIs_int s k t) F.entry_int_rmul (F.args_int_rmul_2 _ _) (int_rmul_tuple k t l el.toArray n dn sn)
        ⟨obq, rfl, ⟨_, obq, rfl⟩, call_meets F.slot_tuple_mul ⟨_, obq, rfl⟩ F.entry_tuple_mul (F.args_tuple_mul_2 _ _) (tuple_mulSame l el.toArray n dn sn k t z0 z1) ⟨obq, ?_⟩⟩)
    exact ⟨.ref l, H, I, rfl, q1 hs1⟩
  · have nn : ws ≠ [] := fun e => hs1 (.inl e)
    have hk1 : k ≠ 1 := fun e => hs1 (.inr e)
    have nil0 : el ≠ [] := fun e => nn (by
      rw [e] at len0
      exact List.eq_nil_of_length_eq_zero len0.symm)
    have emp0 : el.toArray.isEmpty = false := by
      cases el with
      | nil => exact absurd rfl nil0
      | cons a b => rfl
    have z1 : (el.toArray.isEmpty || k == 1) = false := by
      rw [emp0, Bool.false_or]
      exact beq_eq_false_iff_ne.mpr hk1
    have z2 : (decide (k ≤ 0) || el.toArray.isEmpty) = true := by
      have : k ≤ 0 := by
        have : ¬ 2 ≤ k := fun e => hk ⟨e, nn⟩
        omega
      rw [decide_eq_true this, Bool.true_or]
    have e0 : List.replicate k.toNat ws = [] := by
      have : k.toNat = 0 := by
        have : ¬ 2 ≤ k := fun e => hk ⟨e, nn⟩
        omega
      rw [this]; rfl
    refine wpAny_binaryOp_repeat_ref (T := "tuple") (U := "int") (by decide) ⟨_, obq, rfl⟩ (fun s' => typeIs_int s' k t) noFill_tuple_mul F.fills_int_mul F.slot_int_rmul repeat_tuple F.slot_int_index.lookup
      (call_meets F.slot_int_rmul (typeIs_int s k t) F.entry_int_rmul (F.args_int_rmul_2 _ _) (int_rmul_tuple k t l el.toArray n dn sn)
        ⟨obq, rfl, ⟨_, obq, rfl⟩, call_meets F.slot_tuple_mul ⟨_, obq, rfl⟩ F.entry_tuple_mul (F.args_tuple_mul_2 _ _) (tuple_mulNone l el.toArray n dn sn k t z0 z1 z2) ⟨obq, ?_⟩⟩)
    have q := fun p hh => q2 nn hk1 p hh
    rw [e0, List.flatten_nil] at q
    refine ⟨.ref s.heap.objs.size, _, I.laid (t' := s.toks) (o := .tup []) (fun b ob q => Heap.get?_push_of_some _ q) (Nat.le_refl _) ?_, rfl, q _ (I.hok.fresh (Nat.le_refl _))⟩
    exact ⟨by rw [sizeLine_eq]; decide, _, .nil, IsTup.new _ _⟩
theorem fold_size {α : Type} (b : Array α) : ∀ (k : Nat) (a : Array α), ((List.replicate k b).foldl (· ++ ·) a).size = a.size + k * b.size
  | 0, a => by simp
  | k + 1, a => by
    rw [List.replicate_succ, List.foldl_cons, fold_size b k, Array.size_append, Nat.succ_mul]
    omega
def repS (x : Str) (k : Int) : Str := if k < 1 then Str.empty else if (k == 1 || x.length == 0) = true then x else ⟨(List.replicate k.toNat x.cps).foldl (· ++ ·) #[]⟩
theorem op_repS : OpR X (binaryOp .Mult) (fun x y H Q => ∃ i k, x = .str i ∧ y = .int k ∧ -1000 ≤ k ∧ k ≤ 1000 ∧ i.length ≤ 1000 ∧ Q (.str (repS i k)) H) := by
  intro pn s σ H x y v u Q I rx ry h
  obtain ⟨i, k, rfl, rfl, h0, h1, hz, q⟩ := h
  obtain ⟨t, rfl⟩ := rx
  obtain ⟨t', rfl⟩ := ry
  have c0 : (decide (k < -(2 ^ 63 : Int)) || decide (k ≥ 2 ^ 63)) = false := by
    rw [decide_eq_false (by omega), decide_eq_false (by omega)] <;> rfl
  refine P.mul_str c0 (fun hk _ => ?_) (fun hk _ => ?_) ?_
  · have : (2 ^ 63 - 1) / k ≥ 1000 := by
      have h2 : (1000 : Int) * k ≤ 2 ^ 63 - 1 := by omega
      exact (Int.le_ediv_iff_mul_le (by omega)).mpr h2
    omega
  · unfold Builtin.Str.tooLong
    rw [sizeLine_eq]
    have : i.length * k.toNat ≤ 1000 * 1000 := Nat.mul_le_mul hz (by omega)
    exact decide_eq_false (by omega)
  · unfold repS at q
    by_cases hk : k < 1
    · rw [if_pos hk] at q ⊢
      exact ⟨by decide, .str Str.empty, H, I.tok _, ⟨_, rfl⟩, q⟩
    · rw [if_neg hk] at q ⊢
      by_cases hs : (k == 1 || i.length == 0) = true
      · rw [if_pos hs] at q ⊢
        exact ⟨.str i, H, I, ⟨t, rfl⟩, q⟩
      · rw [if_neg hs] at q ⊢
        refine ⟨?_, .str _, H, I.tok _, ⟨_, rfl⟩, q⟩
        show ((List.replicate k.toNat i.cps).foldl (· ++ ·) #[]).size ≤ sizeLine
        rw [fold_size, sizeLine_eq]
        have : k.toNat * i.cps.size ≤ 1000 * 1000 := Nat.mul_le_mul (by omega) hz
        simp
        omega
end
def gMulT : D → D → Option D
  | .tup a, .int k => if a.length ≤ 1000 ∧ -1000 ≤ k ∧ k ≤ 1000 then some (.tup (List.replicate k.toNat a).flatten) else none
  | .str x, .int k => if x.length ≤ 1000 ∧ -1000 ≤ k ∧ k ≤ 1000 then some (.str (repS x k)) else none
  | d, e => gMul d e
def rStrM : R2 := fun x y H Q => ∃ i k, x = .str i ∧ y = .int k ∧ -1000 ≤ k ∧ k ≤ 1000 ∧ i.length ≤ 1000 ∧ Q (.str (repS i k)) H
abbrev rMulT (K : PySem.W.Frag) : R2 := fun x y H Q => rMulA x y H Q ∨ rRepA K x y H Q ∨ rStrM x y H Q
theorem op_mulT {X : Cx} : OpR X (binaryOp .Mult) (rMulT X.K) := op_mulA.or (op_repA.or op_repS)
theorem r_mulT {c : Dc} : RuleB c (rMulT c.K) gMulT := by
  intro F O T H d e v u d' Q fit hv hu g q
  by_cases ht : ∃ a k, d = .tup a ∧ e = .int k
  · obtain ⟨a, k, rfl, rfl⟩ := ht
    simp only [gMulT] at g
    split at g <;> cases g
    rename_i hz
    obtain ⟨p, xs, rfl, h1, z1, h2⟩ := hv
    have hl := h2.length
    refine .inr (.inl ⟨p, k, xs, rfl, hu, sqT_mono fit.f h1, hz.2.1, hz.2.2, by omega, fun hs => ?_, fun hne hk r hr => ?_⟩)
    · have e1 : (List.replicate k.toNat a).flatten = a := by
        rcases hs with z | z
        · have : a = [] := List.eq_nil_of_length_eq_zero (by rw [hl, z]; rfl)
          subst this
          simp
        · subst z
          simp
      rw [e1] at q
      exact q _ F H (Same.refl _) fit ⟨p, xs, rfl, h1, z1, h2⟩
    · have nF := upd_none fit.f hr
      exact q _ (upd F r _) _ (same_upd nF) (fit.new hr) ⟨r, _, rfl, SqT.of upd_same, by
        rw [len_rep, sizeLine_eq]
        have : a.length * k.toNat ≤ 1000 * 1000 := Nat.mul_le_mul hz.1 (by omega)
        omega, Dens.mono (same_upd nF) _ _ (h2.rep _)⟩
  · by_cases hs : ∃ a k, d = .str a ∧ e = .int k
    · obtain ⟨a, k, rfl, rfl⟩ := hs
      simp only [gMulT] at g
      split at g <;> cases g
      rename_i hz
      exact .inr (.inr ⟨a, k, hv, hu, hz.2.1, hz.2.2, hz.1, q _ F H (Same.refl _) fit rfl⟩)
    · have g' : gMul d e = some d' := by
        cases d <;> cases e <;> first | exact g | exact absurd ⟨_, _, rfl, rfl⟩ ht | exact absurd ⟨_, _, rfl, rfl⟩ hs
      exact .inl (r_mul F O T H d e v u d' Q fit hv hu g' q)
end VS
namespace VS
open PySem PySem.Spec PyProof.Rows L2
def rNotInTD (K : PySem.W.Frag) : R2 := fun x y H Q => ∃ d ds, Dp K H x d ∧ Dp K H y (.tuple ds) ∧ SeqAt.shaped d = true ∧ SeqAt.shaped (.tuple ds) = true ∧ Q (.bl (!ds.any fun z => PyData.eqv z d)) H
theorem room64 {A : Around} {ds : List PyData} {d : PyData} {t : PyData} (ht : t = .list ds ∨ t = .tuple ds) (hs : SeqAt.shaped t = true) (hu : A.units + 64 < cLine) : A.units + 1 + min (PyData.depthAll ds) d.depth < cLine := by
  unfold SeqAt.shaped at hs
  rw [Bool.and_eq_true, decide_eq_true_eq] at hs
  have h2 := hs.2
  rcases ht with rfl | rfl <;> simp only [PyData.depth] at h2 <;> omega
section
variable {X : Cx}
theorem op_notInTD (hu : X.A.units + 64 < cLine) : OpR X (compareOp .NotIn) (rNotInTD X.K) := by
  intro pn st τ G a b va vb R J ra rb hyp
  obtain ⟨pa, qs, da, db, sa, sb, fin⟩ := hyp
  obtain ⟨ad1, rd1⟩ := Dp.reads J pa a va da ra
  obtain ⟨ad2, rd2⟩ := Dp.reads J (.tuple qs) b vb db rb
  exact SeqAt.notIn_tuple_reads rd2 rd1 (SeqAt.canLay_of_shaped sb) (SeqAt.canLay_of_shaped sa) (room64 (.inr rfl) sb hu) ⟨.bl _, G, J, rfl, fin⟩
theorem op_notInLD (hu : X.A.units + 64 < cLine) : OpR X (compareOp .NotIn) (rNotInD X.K) := by
  intro pn st τ G a b va vb R J ra rb hyp
  obtain ⟨pa, qs, da, db, sa, sb, fin⟩ := hyp
  obtain ⟨ad1, rd1⟩ := Dp.reads J pa a va da ra
  obtain ⟨ad2, rd2⟩ := Dp.reads J (.list qs) b vb db rb
  exact SeqAt.notIn_list_reads rd2 rd1 (SeqAt.canLay_of_shaped sb) (SeqAt.canLay_of_shaped sa) (room64 (.inl rfl) sb hu) ⟨.bl _, G, J, rfl, fin⟩
abbrev rNotInX (K : PySem.W.Frag) : R2 := fun x y H Q => rNotInA K x y H Q ∨ rNotInD K x y H Q ∨ rNotInTD K x y H Q
theorem op_notInX (hu : X.A.units + 64 < cLine) : OpR X (compareOp .NotIn) (rNotInX X.K) := (op_notInA (by omega)).or ((op_notInLD hu).or (op_notInTD hu))
end
def deepIn (d e : D) : Option Bool := match toPy d, toPy e with
  | some p, some (.list ps) => if (SeqAt.shaped p && SeqAt.shaped (.list ps)) = true then some (ps.any fun z => PyData.eqv z p) else none
  | some p, some (.tuple ps) => if (SeqAt.shaped p && SeqAt.shaped (.tuple ps)) = true then some (ps.any fun z => PyData.eqv z p) else none
  | _, _ => none
def inX (d e : D) : Option Bool := match inDA d e with
  | some k => some k
  | none => deepIn d e
def gInX (d e : D) : Option D := (inX d e).map .bl
def gNotInX (d e : D) : Option D := (inX d e).map fun k => .bl (!k)
theorem deep_in {c : Dc} {F O T H : Hp} {d e : D} {v u : V} {k : Bool} (fit : Fits F O T H) (hv : DenB c F O d v) (hu : DenB c F O e u) (g : deepIn d e = some k) :
    (∃ p ps, Dp c.K H v p ∧ Dp c.K H u (.list ps) ∧ SeqAt.shaped p = true ∧ SeqAt.shaped (.list ps) = true ∧ (ps.any fun z => PyData.eqv z p) = k) ∨
    (∃ p ps, Dp c.K H v p ∧ Dp c.K H u (.tuple ps) ∧ SeqAt.shaped p = true ∧ SeqAt.shaped (.tuple ps) = true ∧ (ps.any fun z => PyData.eqv z p) = k) := by
  unfold deepIn at g
  split at g
  · rename_i p ps e1 e2
    split at g <;> cases g
    rename_i hs
    rw [Bool.and_eq_true] at hs
    exact .inl ⟨p, ps, dpB_of fit hv e1, dpB_of fit hu e2, hs.1, hs.2, rfl⟩
  · rename_i p ps e1 e2
    split at g <;> cases g
    rename_i hs
    rw [Bool.and_eq_true] at hs
    exact .inr ⟨p, ps, dpB_of fit hv e1, dpB_of fit hu e2, hs.1, hs.2, rfl⟩
  · cases g
theorem r_notInX {c : Dc} : RuleB c (rNotInX c.K) gNotInX := by
  intro F O T H d e v u d' Q fit hv hu g q
  simp only [gNotInX, Option.map_eq_some_iff] at g
  obtain ⟨k, g, rfl⟩ := g
  cases ha : inDA d e with
  | some k' =>
    have : k' = k := by simp only [inX, ha, Option.some.injEq] at g; exact g
    subst this
    exact .inl (r_notInA F O T H d e v u _ Q fit hv hu (by simp only [gNotInA, ha, Option.map_some]) q)
  | none =>
    have g : deepIn d e = some k := by simp only [inX, ha] at g; exact g
    rcases deep_in fit hv hu g with ⟨p, ps, h1, h2, h3, h4, rfl⟩ | ⟨p, ps, h1, h2, h3, h4, rfl⟩
    · exact .inr (.inl ⟨p, ps, h1, h2, h3, h4, q _ F H (Same.refl _) fit rfl⟩)
    · exact .inr (.inr ⟨p, ps, h1, h2, h3, h4, q _ F H (Same.refl _) fit rfl⟩)
end VS
namespace VS
open PySem PySem.Spec PyProof.Rows L2
end VS
namespace VS
open PySem PySem.Spec PyProof.Rows L2
end VS
namespace VS
open PySem PySem.Spec PyProof.Rows L2
section
variable {c : Dc} {F F' O T H H' : Hp}
theorem Paired.len {R : D → V → Prop} {ds : List D} {vs : List V} (h : Paired R ds vs) : ds.length = vs.length := by
  induction h with
  | nil => rfl
  | cons _ _ ih => simp [ih]
end
section
variable {X : Cx} {b : Bc} {E : XK} {e : Expr} {es : List Expr} {g : MA} {m : Nat}
theorem Dens.dropLast {c : Dc} {F : Hp} {ds : List D} {vs : List V} (h : Dens c F ds vs) : Dens c F ds.dropLast vs.dropLast := by
  rw [List.dropLast_eq_take, List.dropLast_eq_take, ← h.length]
  exact Dens.take _ h
end
end VS
namespace VS
open PySem PySem.Spec PyProof.Rows L2
end VS
namespace VS
open PySem PySem.Spec PyProof.Rows L2
def kdM (kvs : List (Str × Int)) (f : ME) : ME := fun env S => bindM (f env S) fun d S1 => match d with
  | .str z => (match kvs.lookup z with | some i => .ok (.int i, S1) | none => .bad)
  | _ => .bad
mutual
def noL : D → Bool
  | .lst _ => false | .scr _ => false | .exc _ _ _ => false | .tup xs => noLs xs | .dct _ xs => noLs xs | .dcT _ xs => noLs xs | .ins _ _ xs => noLs xs | _ => true
def noLs : List D → Bool
  | [] => true
  | d :: ds => noL d && noLs ds
end
section
variable {c : Dc} {F F' O T H H' : Hp} {a : Addr} {us : List V}
abbrev ButA (a : Addr) (F F' : Hp) : Prop := ∀ b o, b ≠ a → F b = some o → F' b = some o
mutual
theorem noL_den (ha : F a = some (.lst us)) (m : ButA a F F') : ∀ (d : D) (v : V), noL d = true → Den c F d v → Den c F' d v
  | .non, _, _, h => h
  | .bl _, _, _, h => h
  | .int _, _, _, h => h
  | .str _, _, _, h => h
  | .cls _, _, _, h => h
  | .st, _, _, h => h
  | .opq _, _, _, h => h
  | .tup ds, _, q, h => by
    simp only [Den] at h ⊢
    obtain ⟨x, vs, h1, h2, hz, h3⟩ := h
    refine ⟨x, vs, h1, ?_, hz, noLs_den ha m ds vs (by simpa only [noL] using q) h3⟩
    rcases h2 with (h | ⟨o, h⟩) | h
    · exact .inl (.inl (m _ _ (fun z => by rw [z, ha] at h; cases h) h))
    · exact .inl (.inr ⟨o, m _ _ (fun z => by rw [z, ha] at h; cases h) h⟩)
    · exact .inr h
  | .dct ks ds, _, q, h => by
    simp only [Den] at h ⊢
    obtain ⟨x, kv, h1, h2, h3, h4⟩ := h
    exact ⟨x, kv, h1, m _ _ (fun z => by rw [z, ha] at h2; cases h2) h2, h3, noLs_den ha m ds _ (by simpa only [noL] using q) h4⟩
  | .lst _, _, q, _ => by simp [noL] at q
  | .exc _ _ _, _, q, _ => by simp [noL] at q
  | .scr _, _, q, _ => by simp [noL] at q
  | .odk _, _, _, h => by
    obtain ⟨x, y, h1, h2, h3⟩ := h
    exact ⟨x, y, h1, m _ _ (fun z => by rw [z, ha] at h2; unfold OddO at h2; cases h2) h2, fun z => m _ _ (fun z' => by rw [z', ha] at h3; cases h3 z) (h3 z)⟩
  | .dcT ks ds, _, q, h => by
    simp only [Den] at h ⊢
    obtain ⟨x, kv, h1, h2, h3, h4⟩ := h
    exact ⟨x, kv, h1, m _ _ (fun z => by rw [z, ha] at h2; cases h2) h2, h3, noLs_den ha m ds _ (by simpa only [noL] using q) h4⟩
  | .ins n ns ds, _, q, h => by
    simp only [Den] at h ⊢
    obtain ⟨x, C, dx, fs, h1, h2, h3, h4, h5⟩ := h
    exact ⟨x, C, dx, fs, h1, h2, m _ _ (fun z => by rw [z, ha] at h3; cases h3) h3, h4, noLs_den ha m ds _ (by simpa only [noL] using q) h5⟩
theorem noLs_den (ha : F a = some (.lst us)) (m : ButA a F F') : ∀ (ds : List D) (vs : List V), noLs ds = true → Dens c F ds vs → Dens c F' ds vs
  | [], _, _, h => h
  | d :: ds, _, q, h => by
    simp only [Dens] at h ⊢
    simp only [noLs, Bool.and_eq_true] at q
    obtain ⟨v, r, h1, h2, h3⟩ := h
    exact ⟨v, r, h1, noL_den ha m d v q.1 h2, noLs_den ha m ds r q.2 h3⟩
end
theorem Fits.setF {us' : List V} (fit : Fits F O T H) (ha : F a = some (.lst us)) : Fits (upd F a (.lst us')) O T (upd H a (.lst us')) where
  f := fun b o e => by
    by_cases hb : b = a
    · subst hb; rw [upd_same] at e ⊢; exact e
    · rw [upd_ne hb] at e ⊢; exact fit.f b o e
  o := fun b o e => by
    have hb : b ≠ a := fun z => by
      subst z
      have := fit.fo b (by rw [e]; simp)
      rw [ha] at this; cases this
    rw [upd_ne hb]; exact fit.o b o e
  t := fun b o e => by
    have hb : b ≠ a := fun z => by
      subst z
      have := fit.ft b (by rw [e]; simp)
      rw [ha] at this; cases this
    rw [upd_ne hb]; exact fit.t b o e
  fo := fun b q => by
    have hb : b ≠ a := fun z => by
      subst z
      have := fit.fo b q
      rw [ha] at this; cases this
    rw [upd_ne hb]; exact fit.fo b q
  ft := fun b q => by
    have hb : b ≠ a := fun z => by
      subst z
      have := fit.ft b q
      rw [ha] at this; cases this
    rw [upd_ne hb]; exact fit.ft b q
  ot := fit.ot
  nt := fun b o e => by
    by_cases hb : b = a
    · subst hb; rw [upd_same] at e; cases e; exact fun _ q => by cases q
    · rw [upd_ne hb] at e; exact fit.nt b o e
  ld := fit.ld
end
def envOk (j : Nat) (env : Env) : Bool := (env.set j none).all fun o => match o with | some d => noL d | none => true
theorem envOk_at {j i : Nat} {env : Env} {d : D} (h : envOk j env = true) (n : i ≠ j) (e : env[i]? = some (some d)) : noL d = true := by
  unfold envOk at h
  have e2 : (env.set j none)[i]? = some (some d) := by rw [set_ne' n]; exact e
  exact List.all_eq_true.mp h _ (List.mem_of_getElem? e2)
structure MB where
  F : Hp
  O : Hp
  T : Hp
  a : Addr
def PostM (c : Dc) (m : MB) (r : Res (Fl × DS)) (Dn : Ends) : Prop := match r with
  | .ok (.rt (.tup [d, .lst xs]), _) => ∀ v F' H' us, Same m.F F' → Fits F' (upd m.O m.a (.lst us)) m.T H' → Dens c F' xs us → xs.length ≤ sizeLine → noLs xs = true → Den c F' d v → Dn.rt v H'
  | _ => False
structure MSt (b : Bc) (m : MB) (j : Nat) (F O H : Hp) (σ : L2.St) (env : Env) (S : DS) (us : List V) (xs : List D) : Prop where
  P : Pre b F O F O H σ env S
  tp : b.TP = exT m.T
  hf : b.stf = false
  hown : b.own = []
  fa : F m.a = some (.lst us)
  mf : Same m.F F
  ma : m.F m.a = none
  mo : Same (del m.O m.a) O
  ej : env[j]? = some (some (.lst xs))
  sj : σ[j]? = some (some (.ref m.a))
  dx : Dens b.c F xs us
  nx : noLs xs = true
  lx : xs.length ≤ sizeLine
section
variable {b : Bc} {m : MB} {j i : Nat} {F O H F1 H1 : Hp} {σ : L2.St} {env : Env} {S S1 : DS} {us us' : List V} {xs xs' : List D} {d : D} {v : V} {Dn : Ends}
theorem MSt.fit (M : MSt b m j F O H σ env S us xs) : Fits F O m.T H := by
  obtain ⟨T0, tp, fit⟩ := M.P.fit
  rw [M.tp] at tp
  cases (show T0 = m.T from tp)
  unfold Bc.T at fit
  rw [if_neg (by rw [M.hf]; exact Bool.false_ne_true)] at fit
  exact fit
theorem MSt.grow (M : MSt b m j F O H σ env S us xs) (s : Same F F1) (fit : FitB b F1 O S1 H1) (I : b.I S1 F1) : MSt b m j F1 O H1 σ env S1 us xs :=
  have P1 := M.P.grow s fit I
  ⟨⟨P1.fit, Same.refl _, Same.refl _, P1.inv, P1.slot, fun i d _ n => (by rw [M.hown] at n; cases n), P1.sep, P1.len⟩, M.tp, M.hf, M.hown, s _ _ M.fa, M.mf.trans s, M.ma, M.mo, M.ej, M.sj, Dens.mono s _ _ M.dx, M.nx, M.lx⟩
theorem MSt.chg (M : MSt b m j F O H σ env S us xs) (ok : envOk j env = true) (hd : Dens b.c F xs' us') (hn : noLs xs' = true) (hl : xs'.length ≤ sizeLine) : MSt b m j (upd F m.a (.lst us')) O (upd H m.a (.lst us')) σ (env.set j (some (.lst xs'))) S us' xs' := by
  have hb : ButA m.a F (upd F m.a (.lst us')) := fun x o n e => by rw [upd_ne n]; exact e
  have hd2 := noLs_den M.fa hb xs' us' hn hd
  have hlt : j < env.length := (List.getElem?_eq_some_iff.mp M.ej).1
  refine ⟨⟨⟨m.T, by rw [M.tp]; rfl, ?_⟩, Same.refl _, Same.refl _, fun q => absurd q (by rw [M.hf]; exact Bool.false_ne_true), fun i d h n => ?_, fun i d _ n => (by rw [M.hown] at n; cases n), fun i k x hi => (by rw [M.hown] at hi; cases hi), (by rw [M.P.len, List.length_set])⟩, M.tp, M.hf, M.hown, upd_same, fun x o e => hb x o (fun z => by rw [z, M.ma] at e; cases e) (M.mf x o e), M.ma, M.mo, ?_, M.sj, hd2, hn, hl⟩
  · unfold Bc.T
    rw [if_neg (by rw [M.hf]; exact Bool.false_ne_true)]
    exact M.fit.setF M.fa
  · rcases get_set h with ⟨rfl, e, _⟩ | ⟨ne, h⟩
    · cases e
      exact ⟨_, M.sj, m.a, us', rfl, upd_same, hl, hd2⟩
    · obtain ⟨v, h1, h2⟩ := M.P.slot i d h n
      exact ⟨v, h1, noL_den M.fa hb d v (envOk_at ok ne h) h2⟩
  · exact List.getElem?_set_self hlt
def retM (j : Nat) (f : ME) : MS := fun env S => bindM (f env S) fun d S1 => match env[j]? with
  | some (some (.lst xs)) => if noL d = true then .ok (.rt (.tup [d, .lst xs]), S1) else .bad
  | _ => .bad
def ifMr (j : Nat) (t : MT) (f : ME) (g : MS) : MS := fun env S => bindM (t env S) fun k S1 => if k = true then retM j f env S1 else g env S1
def asgM (i : Nat) (f : ME) (g : MS) : MS := fun env S => bindM (f env S) fun d S1 => g (env.set i (some d)) S1
def delM (j : Nat) (f : ME) (g : MS) : MS := fun env S => bindM (somePart f env S) fun oi S1 => match oi, env[j]? with
  | some i, some (some (.lst xs)) => if 0 ≤ i ∧ i ≤ xs.length ∧ envOk j env = true then g (env.set j (some (.lst (xs.take i.toNat)))) S1 else .bad
  | _, _ => .bad
def appM (j : Nat) (f : ME) (g : MS) : MS := fun env S => bindM (f env S) fun d S1 => match env[j]? with
  | some (some (.lst xs)) => if noL d = true ∧ xs.length < 1000000 ∧ envOk j env = true then g (env.set j (some (.lst (xs ++ [d])))) S1 else .bad
  | _ => .bad
theorem PostM.bind {α : Type} {E : XK} {x : Res (α × DS)} {k : α → DS → Res (Fl × DS)} (h : PostM b.c m (bindM x k) Dn) : Post b E O F x fun a S' F' H' => PostM b.c m (k a S') Dn := by
  cases x with
  | ok p => obtain ⟨a, S'⟩ := p; exact fun F2 H2 e2 _ _ => h
  | exc n f fs S' => exact False.elim h
  | bad => exact False.elim h
end
def endM (r : Res (Fl × DS)) : RP := match r with
  | .ok (.rt d, _) => .ok d
  | _ => .bad
end VS
namespace VS
open PySem PySem.Spec PyProof.Rows L2
def ArgP (R1 R2 : D → V → Prop) : List Bool → List D → List V → Prop
  | [], [], [] => True
  | k :: ks, d :: ds, v :: vs => (if k = true then R2 d v else R1 d v) ∧ ArgP R1 R2 ks ds vs
  | _, _, _ => False
theorem ArgP.len {R1 R2 : D → V → Prop} : ∀ {ks : List Bool} {ds : List D} {vs : List V}, ArgP R1 R2 ks ds vs → ds.length = ks.length ∧ vs.length = ks.length
  | [], [], [], _ => ⟨rfl, rfl⟩
  | k :: ks, d :: ds, v :: vs, h => by have := ArgP.len h.2; simp [this.1, this.2]
  | [], _ :: _, _, h => False.elim h
  | [], [], _ :: _, h => False.elim h
  | _ :: _, [], _, h => False.elim h
  | _ :: _, _ :: _, [], h => False.elim h
theorem ArgP.at {R1 R2 : D → V → Prop} : ∀ {ks : List Bool} {ds : List D} {vs : List V} {m : Nat}, ArgP R1 R2 ks ds vs → ks[m]? = some true → ∃ d v, ds[m]? = some d ∧ vs[m]? = some v ∧ R2 d v
  | k :: ks, d :: ds, v :: vs, 0, h, e => by
    have e : k = true := by simpa using e
    have h1 := h.1
    rw [if_pos e] at h1
    exact ⟨d, v, rfl, rfl, h1⟩
  | k :: ks, d :: ds, v :: vs, m + 1, h, e => by
    obtain ⟨d', v', h1, h2, h3⟩ := ArgP.at (m := m) h.2 (by simpa using e)
    exact ⟨d', v', by simpa using h1, by simpa using h2, h3⟩
  | [], _, _, _, _, e => by simp at e
  | _ :: _, [], _, _, h, _ => False.elim h
  | _ :: _, _ :: _, [], _, h, _ => False.elim h
theorem ArgP.imp {R1 R1' R2 : D → V → Prop} (f : ∀ d v, R1 d v → R1' d v) : ∀ {ks : List Bool} {ds : List D} {vs : List V}, ArgP R1 R2 ks ds vs → ArgP R1' R2 ks ds vs
  | [], [], [], h => h
  | k :: ks, d :: ds, v :: vs, h => ⟨by
    have h1 := h.1
    split at h1
    · rename_i e; rw [if_pos e]; exact h1
    · rename_i e; rw [if_neg e]; exact f d v h1, ArgP.imp f h.2⟩
  | [], _ :: _, _, h => False.elim h
  | [], [], _ :: _, h => False.elim h
  | _ :: _, [], _, h => False.elim h
  | _ :: _, _ :: _, [], h => False.elim h
end VS
namespace VS
open PySem PySem.Spec PyProof.Rows L2
def spIni (K : PySem.W.Frag) (fl : Str) : Sp := fun vs H Q E => vs.length = 2 ∧ ∃ (a C : Addr) (v : V), vs = [.ref a, v] ∧ OexC K C ∧ PySem.W.findIn K (.ref C) fl = some none ∧ H a = some (exo a C none) ∧
  ∀ dx, H dx = none → dx ≠ a → Q .non (upd (upd H dx (exd dx [(fl, v)])) a (exo a C (some dx)))
section
variable {P : Program} {w : World} {K : PySem.W.Frag} {mg : Str → Option Value} {base : Heap}
theorem okIni {x qual fl y : Str} {st : Stmt} {f : Addr} {fd : FuncData} {k : Nat} (F : Fun K x qual st f fd) (S : FnScope ["self", y] ["self", y] (defScope st)) {p1 p2 p3 p4 : Pos}
    (hb : defBody st = [.Assign [.Attribute (.Name "self" p1) fl p2] (.Name y p3) p4])
    (hv1 : ∀ (cdv : Value) (A : Around) (outer : List PySem.Env) (s : Shared) (H : Hp) (E : XK), Vis (cxOf (L2.CX P w) P w K mg base ["self", y] qual (defScope st) f cdv A outer s H E).env.scope "self")
    (hv2 : ∀ (cdv : Value) (A : Around) (outer : List PySem.Env) (s : Shared) (H : Hp) (E : XK), Vis (cxOf (L2.CX P w) P w K mg base ["self", y] qual (defScope st) f cdv A outer s H E).env.scope y)
    (hd : (y == ("__debug__" : Str)) = false) (hcd : (y == ("__classdict__" : Str)) = false) : FnOk P w K mg base (L2.CX P w) (k + 1) f fd ["self", y] (spIni K fl) := by
  refine F.okX S (fun vs H Q E h => h.1) fun cdv A outer s H vs Q E hr h => ?_
  obtain ⟨hl, a, C, v, rfl, T, hno, ha, h⟩ := h
  rw [hb]
  refine ⟨_, pss_one (ps_ost (pe_var (i := 0) rfl (hv1 cdv A outer s H E)) (pe_var (i := 1) rfl (hv2 cdv A outer s H E) hd hcd)), ?_⟩
  exact ⟨v, rfl, .ref a, rfl, a, C, rfl, T, hno, .inl ⟨ha, fun dx n ne => h dx n ne⟩⟩
end
def raiseF (n fl : Str) (g : MA) : MS := fun env S => bindM (g env S) fun ds S1 => match ds with
  | [d] => .exc n fl [d] S1
  | _ => .bad
section
variable {X : Cx} {b : Bc} {E : XK} {es : List Expr} {g : MA}
theorem s_raiseF {n fl : Str} {C : Addr} {st : Stmt} (hmg : b.c.mg n = some (.ref C)) (T : OexC X.K C) (hno : PySem.W.findIn X.K (.ref C) fl = some none)
    (h : ∀ ta, PA X es ta → PS X st (fun _ σ H => tMkO C (spIni X.K fl) [] ta σ H E)) (ha : PA X es (tA b E g)) : PS X st (tS b E (raiseF n fl g)) :=
  PS.imp (h _ ha) fun Dn σ H ⟨F0, O0, F, O, env, S, P, h⟩ => ⟨F0, O0, F, O, env, S, P, (PostS.bind h P.f0 P.o0).imp fun ds S1 F1 H1 s1 fit1 I1 k vs hv => by
    match ds, k, hv with
    | [], k, _ => exact False.elim k
    | d :: d2 :: r, k, _ => exact False.elim k
    | [d], k, hv =>
      simp only [Dens] at hv
      obtain ⟨v, r, rfl, h1, rfl⟩ := hv
      refine ⟨by simp, fun a na => ⟨rfl, a, C, v, rfl, T, hno, upd_same, fun dx nd ne => ⟨rfl, dx, [(fl, v)], upd_same, ?_, ?_, ?_⟩⟩⟩
      · rw [upd_ne ne, upd_same]
      · rwa [upd_ne ne] at nd
      · have nd1 : H1 dx = none := by rwa [upd_ne ne] at nd
        have e : upd (L2.del (upd (upd (upd H1 a (exo a C none)) dx (exd dx [(fl, v)])) a (exo a C (some dx))) a) dx (.xd [(fl, v)]) = upd H1 dx (.xd [(fl, v)]) := by
          funext x
          by_cases z : x = dx
          · subst z; rw [upd_same, upd_same]
          · rw [upd_ne z, upd_ne z]
            by_cases q : x = a
            · subst q; rw [L2.del_same, na]
            · rw [L2.del_ne q, upd_ne q, upd_ne z, upd_ne q]
        rw [e]
        have nF := upd_none fit1.f nd1
        exact k (.ref C) (some dx) (upd F1 dx (.xd [(fl, v)])) O _ (P.f0.trans (s1.trans (same_upd nF))) P.o0 (fit1.new nd1) (I1.mono (same_upd nF)) ⟨C, [v], hmg, rfl, ⟨v, [], rfl, Den.mono (same_upd nF) _ _ h1, rfl⟩, dx, rfl, upd_same⟩⟩
end
def tXO (K : PySem.W.Frag) (n : Str) (te : TE) : TE := fun σ H Q => te σ H fun x H1 => ∃ (a C dd : Addr) (fs : List (Str × V)) (v : V), x = .ref a ∧ XfC K C ∧ PySem.W.findIn K (.ref C) n = some none ∧ H1 a = some (ExO (.ref C) (some dd) a) ∧ H1 dd = some (.xd fs) ∧ fs.lookup n = some v ∧ Q v H1
theorem pe_xo {X : Cx} {e : Expr} {te : TE} {pos : Pos} {n : Str} (he : PE X e te) (hb : attributeBase e n X.env (eval e X.env) = eval e X.env := by rfl) : PE X (.Attribute e n pos) (tXO X.K n te) := by
  refine ⟨fun pins s σ H Q I h => ?_⟩
  refine attr_of hb (thn (he.run pins s σ H _ I h) fun u s1 hh => ?_)
  obtain ⟨x, H1, I1, rx, a, C, dd, fs, v, ex, T, hno, ha, ea, l, q⟩ := hh
  subst ex
  obtain rfl : u = Value.ref a := rx
  have hz : ObjOk X.prog X.w H1 s1.heap a (ExO (.ref C) (some dd) a) := I1.hok a _ ha
  obtain ⟨⟨oe, vs, hg, z, hd⟩, _⟩ := hz
  have hx : ObjOk X.prog X.w H1 s1.heap dd (.xd fs) := I1.hok dd _ ea
  obtain ⟨mA, hns, hr⟩ := hx
  obtain ⟨od, ho, hl⟩ := lookIn_ns hns
  obtain ⟨u, hu, ru⟩ := RelO.some_of (v := v) (o := mA n) (by rw [← l]; exact hr n)
  have J : PySem.W.InstAt s1.heap a oe C (some od) := ⟨hg, z.1, by unfold PySem.W.notCls; rw [hd] <;> rfl, by rw [z.2]; exact ho⟩
  exact HandSPX.exc_get I1.kIn J T.ga T.gg T.exC (PySem.W.findObj_own T.hdC hno rfl (by rw [hl, hu])) (handed_of ru) ⟨v, H1, I1.tok _, ru, q⟩
def gFld (known : List Str) (fl : Str) : D → Option D
  | .exc n f [d] => if known.contains n = true ∧ f = fl then some d else none
  | _ => none
theorem e_fld {X : Cx} {b : Bc} {E : XK} {e : Expr} {f1 : ME} {pos : Pos} (known : List Str) (fl : Str) (hc : b.c.K = X.K ∧ b.c.mg = X.mg) (hk : ∀ n ∈ known, ∀ C, X.mg n = some (.ref C) → XfC X.K C ∧ PySem.W.findIn X.K (.ref C) fl = some none)
    (h : ∀ te, PE X e te → PE X (.Attribute e fl pos) (tXO X.K fl te)) (h1 : PE X e (tE b E f1)) : PE X (.Attribute e fl pos) (tE b E (unM (gFld known fl) f1)) :=
  PE.imp (h _ h1) fun σ H Q ⟨F0, O0, F, O, env, S, P, h⟩ => ⟨F0, O0, F, O, env, S, P, (Post.bind h).imp fun d S1 F1 H1 s1 fit1 I1 k' v hv => by
    obtain ⟨d', e', k2⟩ := Post.ofO k'
    cases d with
    | exc n f fs =>
      match fs with
      | [] => simp [gFld] at e'
      | _ :: _ :: _ => simp [gFld] at e'
      | [d] =>
        simp only [gFld] at e'
        split at e'
        · rename_i hh
          cases e'
          obtain ⟨a, C, dd, us, rfl, q1, q2, q3, q4⟩ := hv
          simp only [Dens] at q3
          obtain ⟨u, r, rfl, q5, rfl⟩ := q3
          obtain ⟨p, rfl, q6⟩ := q4
          obtain ⟨T, hno⟩ := hk n (by simpa using hh.1) C (by rw [← hc.2]; exact q1)
          rw [hh.2] at q6
          exact ⟨a, C, p, [(fl, u)], u, rfl, T, hno, fit1.f _ _ q2, fit1.f _ _ q6, by simp, k2 F1 H1 (Same.refl _) fit1 I1 _ q5⟩
        · cases e'
    | _ => simp [gFld] at e'⟩
end VS
namespace VS
open PySem PySem.Spec PyProof.Rows L2
end VS
namespace VS
open PySem PySem.Spec PyProof.Rows L2
end VS
namespace VS
open PySem PySem.Spec PyProof.Rows L2
open RZ (iZipA pi_zipA ItzT)
end VS
namespace VS
open PySem PySem.Spec PyProof.Rows L2
mutual
def flatP : PyData → Bool
  | .none => true
  | .bool _ => true
  | .int _ => true
  | .str _ => true
  | .tuple xs => flatPs xs
  | _ => false
def flatPs : List PyData → Bool
  | [] => true
  | x :: xs => flatP x && flatPs xs
end
section
variable {X : Cx} {pins : List (Addr × Obj)} {σ : L2.St} {H : Hp} {s : Shared}
mutual
theorem reads0 (I : Inv X pins σ H s) : ∀ (d : PyData) (v : V) (u : Value), Dp X.K H v d → flatP d = true → RelV v u → Reads s.heap u d []
  | .none, _, _, h, _, r => by cases h; cases r; exact Reads.none
  | .bool b, _, _, h, _, r => by cases h; cases r; exact Reads.bool b
  | .int i, _, _, h, _, r => by cases h; obtain ⟨t, rfl⟩ := r; exact Reads.int i t
  | .str x, _, _, h, _, r => by cases h; obtain ⟨t, rfl⟩ := r; exact Reads.str x t
  | .list ds, _, _, _, f, _ => by simp [flatP] at f
  | .tuple ds, _, _, h, f, r => by
    cases h with
    | tup hs ha =>
      cases r
      obtain ⟨its, rv, ⟨o, ho, hc, n, hd⟩, _⟩ := I.tuple hs
      exact Reads.tuple ho hc hd (reads0s I ds _ its ha (by simpa [flatP] using f) rv)
  | .dict _, _, _, h, _, _ => by cases h
theorem reads0s (I : Inv X pins σ H s) : ∀ (ds : List PyData) (vs : List V) (us : List Value), DpAll X.K H vs ds → flatPs ds = true → Vals vs us → ReadsAll s.heap us ds []
  | [], _, _, h, _, r => by cases h; cases r; exact ReadsAll.nil
  | d :: ds, _, _, h, f, r => by
    rw [flatPs, Bool.and_eq_true] at f
    cases h with
    | cons h1 h2 =>
      cases r with
      | cons r1 r2 => exact ReadsAll.cons (reads0 I d _ _ h1 f.1 r1) (reads0s I ds _ _ h2 f.2 r2)
end
end
def keyP : Key → PyData
  | .inl i => .int i
  | .inr x => .str x
def kvP (ks : List Key) (ps : List PyData) : PyData := .dict ((ks.map keyP).zip ps)
def reprOkK (p : PyData) : Bool := p.showable && decide (p.depth ≤ 64) && decide (p.shown.length ≤ 1000000)
def gReprA : List D → Option D
  | [.dct ks xs] => (toPyL xs).bind fun ps => if (ks.length == ps.length && flatPs ps && reprOkK (kvP ks ps)) = true then some (.str (kvP ks ps).shown) else none
  | ds => gRepr ds
def rReprD (K : PySem.W.Frag) : List V → Hp → VK → Prop := fun vs H Q => ∃ (a : Addr) (kv : List (Key × V)) (ps : List PyData), vs = [.ref a] ∧ H a = some (.dK kv) ∧ DpAll K H (kv.map (·.2)) ps ∧ flatPs ps = true ∧ reprOkK (kvP (kv.map (·.1)) ps) = true ∧ Q (.str (kvP (kv.map (·.1)) ps).shown) H
theorem keysRead {h : Heap} : ∀ (es : List DictEntry) (ks : List Key), es.length = ks.length → (∀ i (hi : i < es.length) k, ks[i]? = some k → keyIs k es[i].key = true) → ReadsAll h (es.map (·.key)) (ks.map keyP) []
  | [], [], _, _ => ReadsAll.nil
  | [], _ :: _, hl, _ => by simp at hl
  | _ :: _, [], hl, _ => by simp at hl
  | e :: es, k :: ks, hl, hk => by
    have h0 := hk 0 (by simp) k rfl
    have r0 : Reads h e.key (keyP k) [] := by
      rcases keyIs_shape h0 with ⟨i, t, rfl, e2⟩ | ⟨x, t, rfl, e2⟩
      · have e2 : e.key = _ := e2
        rw [e2]; exact Reads.int i t
      · have e2 : e.key = _ := e2
        rw [e2]; exact Reads.str x t
    exact ReadsAll.cons r0 (keysRead es ks (by simpa using hl) fun i hi k' e' => by
      have := hk (i + 1) (by simpa using hi) k' (by simpa using e')
      simpa using this)
theorem kv_vals : ∀ {kv : List (Key × V)} {vs : List (Key × Value)}, KV kv vs → Vals (kv.map (·.2)) (vs.map (·.2))
  | _, _, .nil => .nil
  | _, _, .cons h t => .cons h.2 (kv_vals t)
theorem dpAll_len {K : PySem.W.Frag} {H : Hp} : ∀ {vs : List V} {ps : List PyData}, DpAll K H vs ps → vs.length = ps.length
  | _, _, .nil => rfl
  | _, _, .cons _ t => by simp [dpAll_len t]
set_option maxHeartbeats 400000 in
theorem cr_reprA {X : Cx} (hg : X.A.guards = some []) (hu : X.A.units + 100 < cLine) : CallR X (.builtin "repr") (fun vs H Q => rRepr X.K vs H Q ∨ rReprD X.K vs H Q) := by
  intro pins s σ H vs us Q I r h
  rcases h with h | h
  · exact cr_repr hg hu pins s σ H vs us Q I r h
  obtain ⟨a, kv, ps, rfl, hd, hp, hf, hok, q⟩ := h
  rw [Vals.ref1 r]
  simp only [reprOkK, Bool.and_eq_true, decide_eq_true_eq] at hok
  obtain ⟨⟨h1, h3⟩, h4⟩ := hok
  obtain ⟨z, hm, vs, rel, dd⟩ := dk_of I.hok hd
  obtain ⟨es, ep, ⟨o, ho, hc, hdat⟩, hsz, hes⟩ := dd.raw
  have hkeys := rel.keys
  have hvl : kv.length = vs.length := rel.length
  have rk : ReadsAll s.heap (es.toList.map (·.key)) ((kv.map (·.1)).map keyP) [] := keysRead es.toList (kv.map (·.1)) (by rw [Array.length_toList, hsz, List.length_map, hvl]) fun i hi k hk => by
    rw [hkeys, List.getElem?_map, Option.map_eq_some_iff] at hk
    obtain ⟨⟨k', v'⟩, e1, e2⟩ := hk
    cases e2
    have q := (hes i (by simpa using hi) _ _ e1).1
    have q2 : keyIs k' es[i].key = true := q
    simpa using q2
  have ev : es.toList.map (·.val) = vs.map (·.2) := by
    refine List.ext_getElem (by simp [hsz]) fun i q1 q2 => ?_
    have hi : i < es.size := by simpa using q1
    have hv' : i < vs.length := by simpa using q2
    have := (hes i hi _ _ (List.getElem?_eq_getElem hv')).2
    simpa using this
  have rvv := kv_vals rel
  have rv : ReadsAll s.heap (es.toList.map (·.val)) ps [] := by rw [ev]; exact reads0s I ps _ _ hp hf rvv
  have hpl : (kv.map (·.1)).length = ps.length := by rw [← dpAll_len hp, List.length_map, List.length_map]
  have rd : Reads s.heap (.ref a) (kvP (kv.map (·.1)) ps) (a :: [] ++ []) := Reads.dict ho hc.1 hdat (by rw [List.map_fst_zip (by rw [List.length_map, hpl]; exact Nat.le_refl _)]; exact rk) (by rw [List.map_snd_zip (by rw [List.length_map, hpl]; exact Nat.le_refl _)]; exact rv)
  have hns : sysModules ∉ (a :: [] ++ [] : List Addr) := fun z => by
    have e : sysModules = a := List.mem_singleton.mp z
    rw [e, beq_self_eq_true] at hm
    cases hm
  clear rk rv
  generalize kvP (kv.map (·.1)) ps = p at rd h1 h3 h4 q
  have hu2 : X.A.units + (p.depth + 1) < cLine := by omega
  refine repr_of_reads' rd h1 (fun _ => hns) hg hu2 (fun b o e => e) (fun h' u tk hk => ?_) (Nat.le_trans h4 million)
  exact ⟨.str p.shown, H, I.kept (t' := tk) hk, ⟨u, rfl⟩, q⟩
theorem r_reprA {c : Dc} : RuleN c (fun vs H Q => rRepr c.K vs H Q ∨ rReprD c.K vs H Q) gReprA := by
  intro F O T H ds vs d' Q fit hv g q
  match ds, g with
  | [.dct ks xs], g =>
    simp only [gReprA, Option.bind_eq_some_iff] at g
    obtain ⟨ps, e, g⟩ := g
    split at g <;> cases g
    rename_i hok
    simp only [Bool.and_eq_true, beq_iff_eq] at hok
    obtain ⟨⟨h1, h2⟩, h3⟩ := hok
    obtain ⟨v, r, rfl, ⟨a, kv, rfl, q1, rfl, q3⟩, h⟩ := paired1 hv
    cases paired0 h
    exact .inr ⟨a, kv, ps, rfl, q1.elim (fit.f _ _) (fit.o _ _), dpL_of fit.f xs _ ps q3 e, h2, h3, q _ F H (Same.refl _) fit rfl⟩
  | [.lst xs], g => exact .inl (r_repr F O T H _ vs d' Q fit hv g q)
  | [.tup xs], g => exact .inl (r_repr F O T H _ vs d' Q fit hv g q)
end VS
namespace VS
open PySem PySem.Spec PyProof.Rows L2
structure KlsI (K : PySem.W.Frag) (mg : Str → Option Value) (n : Str) (C : Addr) : Prop where
  g : mg n = some (.ref C)
  k : PySem.W.keepIn K (.ref C) = true
  b : PySem.W.subIn K (.ref C) (.type "BaseException") = some true
  t : PySem.W.typeIn K (.ref C) = some (.type "type")
def inClass : Stmt → Stmt
  | .ClassDef _ _ _ (s :: _) _ _ _ _ _ _ _ => s
  | _ => .Pass ⟨0, 0, 0, 0⟩
def FldT (K : PySem.W.Frag) (mg : Str → Option Value) (known : List Str) (fl : Str) : Prop := ∀ n ∈ known, ∀ C, mg n = some (.ref C) → XfC K C ∧ PySem.W.findIn K (.ref C) fl = some none
section
variable {K : PySem.W.Frag} {mg : Str → Option Value} {fl n : Str} {C : Addr} {ns : List Str}
theorem fld_nil : FldT K mg [] fl := fun n hn => by cases hn
theorem fld_cons (g : mg n = some (.ref C)) (x : XfC K C) (no : PySem.W.findIn K (.ref C) fl = some none) (h : FldT K mg ns fl) : FldT K mg (n :: ns) fl := fun m hm D hD => by
  rcases List.mem_cons.mp hm with rfl | hm
  · rw [g] at hD
    cases hD
    exact ⟨x, no⟩
  · exact h m hm D hD
end
def bigB : Int := 2 ^ 600
def gMulB : D → D → Option D
  | .int i, .int j => if -bigB < i ∧ i < bigB ∧ -bigB < j ∧ j < bigB then some (.int (i * j)) else none
  | d, e => gMulT d e
end VS
namespace VS
open PySem PySem.Spec PyProof.Rows L2
structure FunC (K : PySem.W.Frag) (x qual : Str) (st : Stmt) (f : Addr) (fd : FuncData) (c : Addr) : Prop where
  ex : ∃ (oc : Value) (od : Option Addr) (kV doc pm : Value) (an : Option Addr) (ct : Value) (osl : Array (Option Value)),
    fd = PySem.W.fnOf x qual (defArgs st) (defBody st) (defScope st) .none kV doc pm an (.ref c) ct ∧ K.lookup f = some ⟨oc, od, .func fd, osl⟩ ∧ PySem.W.codeIn K (.ref c) qual = true
  kp : PySem.W.keepIn K (.ref f) = true
section
variable {P : Program} {w : World} {K : PySem.W.Frag} {mg : Str → Option Value} {base : Heap} {x qual : Str} {st : Stmt} {f c : Addr} {fd : FuncData}
theorem FunC.okX {N ps : List Str} {k : Nat} {sp : Sp} (F : FunC K x qual st f fd c) (S : FnScope N ps (defScope st)) (len : ∀ vs H Q E, sp vs H Q E → vs.length = ps.length)
    (hbody : ∀ (A : Around) (outer : List PySem.Env) (s : Shared) (H : Hp) (vs : List V) (Q : VK) (E : XK), Room k (A.deeper (envOfC qual (defScope st) s.heap.objs.size f (.ref c))) → sp vs H Q E →
      ∃ t, PSs (cxOf (L2.CX P w) P w K mg base N qual (defScope st) f (.ref c) A outer s H E) (defBody st) t ∧ t { nx := fun _ H' => Q .non H', rt := Q } (L2.start N vs) H) : FnOk P w K mg base (L2.CX P w) (k + 1) f fd ps sp := by
  obtain ⟨oc, od, kV, doc, pm, an, ct, osl, rfl, lk, hcd⟩ := F.ex
  exact fn_of lk hcd S len fun A outer s H vs Q E hr hsp => hbody A outer s H vs Q E hr hsp
end
end VS
namespace VS
open PySem PySem.Spec PyProof.Rows L2
def rIsXd (K : PySem.W.Frag) : List V → Hp → VK → Prop := fun xs H Q => ∃ (a A C dd : Addr) (fs : List (Str × V)) (r : Bool), xs = [.ref a, .ref C] ∧ H a = some (ExO (.ref A) (some dd) a) ∧ H dd = some (.xd fs) ∧ ExcC K A ∧ PySem.W.kitOne K (.ref A) (.ref C) = some r ∧ Q (.bl r) H
def rIsD (K : PySem.W.Frag) : List V → Hp → VK → Prop := fun xs H Q => rIsC K xs H Q ∨ rIsXd K xs H Q
theorem call_isD {X : Cx} : CallR X (.builtin "isinstance") (rIsD X.K) := fun pins s σ H xs us Q I r h => by
  rcases h with h | h
  · exact call_isC pins s σ H xs us Q I r h
  · obtain ⟨a, A, C, dd, fs, k, rfl, hH, hD, hA, e, q⟩ := h
    obtain ⟨u1, u2, rfl, r1, r2⟩ := vals2 r
    obtain rfl : u1 = Value.ref a := r1
    obtain rfl : u2 = Value.ref C := r2
    obtain ⟨⟨oe, vs, g, z, d⟩, _⟩ := (show ObjOk X.prog X.w H s.heap a (ExO (.ref A) (some dd) a) from I.hok a _ hH)
    obtain ⟨mA, hns, _⟩ := (show ObjOk X.prog X.w H s.heap dd (.xd fs) from I.hok dd _ hD)
    obtain ⟨od, ho, _⟩ := lookIn_ns hns
    have J : PySem.W.InstAt s.heap a oe A (some od) := ⟨g, z.1, by unfold PySem.W.notCls; rw [d] <;> rfl, by rw [z.2]; exact ho⟩
    have hcl : (PySem.W.clsIn X.K A).isSome = true := by
      have hd := hA.hd
      unfold PySem.W.hasDictIn at hd
      cases hc : PySem.W.clsIn X.K A with
      | none => rw [hc] at hd; cases hd
      | some cd => rfl
    exact PySem.W.kia_one (PySem.W.kitx_exc hcl hA.hg hA.hk hA.hs hA.ha hA.hn hA.ht hA.hm) I.kIn J e (fun z => nomatch z) fun tk => ⟨.bl k, H, I.kept (t' := tk) fun _ _ z => z, rfl, q⟩
def gIsD (tab : List (Str × Bool)) : D → Option D
  | .non => some (.bl false)
  | .exc n _ _ => (tab.lookup n).map .bl
  | _ => none
theorem e_isd {X : Cx} {b : Bc} {E : XK} {e e1 : Expr} {f1 : ME} {C : Addr} (tab : List (Str × Bool)) (hc : b.c.K = X.K ∧ b.c.mg = X.mg) (hN : PySem.W.kitOne X.K (.type "NoneType") (.ref C) = some false)
    (ht : ∀ n r, tab.lookup n = some r → ∀ A, X.mg n = some (.ref A) → ExcC X.K A ∧ PySem.W.kitOne X.K (.ref A) (.ref C) = some r) (hcl : ClsV (.ref C) (.ref C))
    (h : ∀ te, PE X e1 te → PE X e (tCB (rIsD X.K) (tCons te (tCons (tC (.ref C)) tNil)))) (h1 : PE X e1 (tE b E f1)) : PE X e (tE b E (unM (gIsD tab) f1)) :=
  PE.imp (h _ h1) fun σ H Q ⟨F0, O0, F, O, env, S, P, h⟩ => ⟨F0, O0, F, O, env, S, P, (Post.bind h).imp fun d S1 F1 H1 s1 fit1 I1 k' v hv => by
    obtain ⟨d', e', k'⟩ := Post.ofO k'
    cases d with
    | non =>
      simp only [gIsD, Option.some.injEq] at e'
      subst e'
      simp only [Den] at hv
      subst hv
      exact .inl (.inl ⟨.non, .ref C, .type "NoneType", .ref C, false, rfl, hcl, .base .non, hN, k' F1 H1 (Same.refl _) fit1 I1 _ rfl⟩)
    | exc n fl fs =>
      simp only [gIsD, Option.map_eq_some_iff] at e'
      obtain ⟨r, e1, rfl⟩ := e'
      obtain ⟨a, A, dd, us, rfl, q1, q2, q3, q4⟩ := hv
      obtain ⟨hA, hk⟩ := ht n r e1 A (by rw [← hc.2]; exact q1)
      cases us with
      | nil =>
        have q4 : dd = none := q4
        subst q4
        exact .inl (.inr ⟨a, A, C, r, rfl, fit1.f _ _ q2, hA, hk, k' F1 H1 (Same.refl _) fit1 I1 _ rfl⟩)
      | cons u us =>
        obtain ⟨p, rfl, q5⟩ := q4
        exact .inr ⟨a, A, C, p, _, r, rfl, fit1.f _ _ q2, fit1.f _ _ q5, hA, hk, k' F1 H1 (Same.refl _) fit1 I1 _ rfl⟩
    | _ => simp [gIsD] at e'⟩
end VS
namespace VS
open PySem PySem.Spec PyProof.Rows L2
structure Lam where
  params : Arguments
  body : Expr
  scope : Scope
def LamO (qual : Str) (cells : List (Str × Addr)) (q : Lam) (f c' : Addr) : HO :=
  .ext fun h => ∃ (pm ctv : Value), h.get? f = some (PySem.W.kla_obj "<lambda>" (qual ++ "<lambda>") q.params q.body q.scope (cloFrom cells q.scope.names []) pm c' ctv)
abbrev lamN (qual : Str) : Str := qual ++ "<lambda>"
theorem lamO_nt {qual : Str} {cells : List (Str × Addr)} {q : Lam} {f c' : Addr} : NoTbl (LamO qual cells q f c') := fun _ z => by
  unfold LamO at z; cases z
theorem lamO_nl {qual : Str} {cells : List (Str × Addr)} {q : Lam} {f c' : Addr} : ¬ LD (LamO qual cells q f c') := fun h => by
  unfold LamO at h
  rcases h with ⟨_, z⟩ | ⟨_, z⟩ | ⟨w, a, S, n, z⟩
  · cases z
  · cases z
  · unfold L2.SetO at z
    have z := HO.ext.inj z
    let oc : Obj := PySem.W.kla_obj "<lambda>" (qual ++ "<lambda>") q.params q.body q.scope (cloFrom cells q.scope.names []) .none c' .none
    let hp : Heap := { objs := Array.replicate (f + 1) oc }
    have hc : hp.get? f = some oc := by
      show (match (Array.replicate (f + 1) oc)[f]? with | some ⟨_, _, .freed, _⟩ => none | o => o) = some oc
      rw [Array.getElem?_replicate, if_pos (Nat.lt_succ_self f)]
    have h1 : L2.SetR w hp a S n := by
      rw [← congrFun z hp]
      exact ⟨.none, .none, hc⟩
    obtain ⟨o, es, ep, t, ho, _, hd, _⟩ := h1
    have ho' : (match (Array.replicate (f + 1) oc)[a]? with | some ⟨_, _, .freed, _⟩ => none | o => o) = some o := ho
    rw [Array.getElem?_replicate] at ho'
    by_cases ha : a < f + 1
    · rw [if_pos ha] at ho'; cases ho'; cases hd
    · rw [if_neg ha] at ho'; cases ho'
def tMk (T : List (Addr × Str)) (qual : Str) (cells : List (Str × Addr)) (q : Lam) : TE := fun σ H Q => LamX.Tabs T H ∧ ∀ (f c' : Addr) (H1 : Hp), LamX.ExtN H H1 → LamX.Tabs T H1 → H1 f = some (LamO qual cells q f c') → H1 c' = some (LamX.CodeO c' (lamN qual)) → Q (.ref f) H1
end VS
namespace VS
open PySem PySem.Spec PyProof.Rows L2
def cleanR (i : Nat) : Res (Fl × DS) → Res (Fl × DS)
  | .ok (.nx env, S) => .ok (.nx (env.set i none), S)
  | r => r
def bL (b : Bc) (qual : Str) (cells : List (Str × Addr)) (q : Lam) (f c' : Addr) : Bc :=
  { b with TP := ⟨fun T0 F => b.TP.P T0 F ∧ F f = some (LamO qual cells q f c') ∧ F c' = some (LamX.CodeO c' (lamN qual)), fun h s => ⟨b.TP.mono h.1 s, s _ _ h.2.1, s _ _ h.2.2⟩⟩ }
section
variable {b : Bc} {qual : Str} {cells : List (Str × Addr)} {q : Lam} {f c' : Addr} {F0 O0 F O H : Hp} {σ : L2.St} {env : Env} {S : DS}
theorem FitB.toL (h : FitB b F O S H) (h1 : F f = some (LamO qual cells q f c')) (h2 : F c' = some (LamX.CodeO c' (lamN qual))) : FitB (bL b qual cells q f c') F O S H :=
  let ⟨T0, tp, fit⟩ := h; ⟨T0, ⟨tp, h1, h2⟩, fit⟩
theorem FitB.ofL (h : FitB (bL b qual cells q f c') F O S H) : FitB b F O S H ∧ F f = some (LamO qual cells q f c') ∧ F c' = some (LamX.CodeO c' (lamN qual)) :=
  let ⟨T0, tp, fit⟩ := h; ⟨⟨T0, tp.1, fit⟩, tp.2⟩
theorem Pre.toL (P : Pre b F0 O0 F O H σ env S) (h1 : F f = some (LamO qual cells q f c')) (h2 : F c' = some (LamX.CodeO c' (lamN qual))) : Pre (bL b qual cells q f c') F0 O0 F O H σ env S :=
  ⟨P.fit.toL h1 h2, P.f0, P.o0, P.inv, P.slot, P.slotO, P.sep, P.len⟩
theorem Pre.ofL (P : Pre (bL b qual cells q f c') F0 O0 F O H σ env S) : Pre b F0 O0 F O H σ env S :=
  ⟨P.fit.ofL.1, P.f0, P.o0, P.inv, P.slot, P.slotO, P.sep, P.len⟩
end
def LamsAt (qual : Str) (cells : List (Str × Addr)) (F : Hp) : List Lam → List (Addr × Addr) → Prop
  | [], [] => True
  | q :: qs, p :: fs => (F p.1 = some (LamO qual cells q p.1 p.2) ∧ F p.2 = some (LamX.CodeO p.2 (lamN qual))) ∧ LamsAt qual cells F qs fs
  | _, _ => False
section
variable {b : Bc} {qual : Str} {cells : List (Str × Addr)} {T : List (Addr × Str)} {F F' O H : Hp} {σ : L2.St} {S : DS} {a : Addr} {u : HO}
theorem LamsAt.mono (s : Same F F') : ∀ {qs : List Lam} {fs : List (Addr × Addr)}, LamsAt qual cells F qs fs → LamsAt qual cells F' qs fs
  | [], [], h => h
  | _ :: _, _ :: _, h => ⟨⟨s _ _ h.1.1, s _ _ h.1.2⟩, LamsAt.mono s h.2⟩
  | [], _ :: _, h => h
  | _ :: _, [], h => h
theorem LamsAt.len : ∀ {qs : List Lam} {fs : List (Addr × Addr)}, LamsAt qual cells F qs fs → fs.length = qs.length
  | [], [], _ => rfl
  | _ :: _, _ :: _, h => by simp [LamsAt.len h.2]
  | [], _ :: _, h => h.elim
  | _ :: _, [], h => h.elim
theorem LamsAt.drop : ∀ (j : Nat) {qs : List Lam} {fs : List (Addr × Addr)}, LamsAt qual cells F qs fs → LamsAt qual cells F (qs.drop j) (fs.drop j)
  | 0, _, _, h => h
  | _ + 1, [], [], h => h
  | j + 1, _ :: _, _ :: _, h => LamsAt.drop j h.2
  | _ + 1, [], _ :: _, h => h.elim
  | _ + 1, _ :: _, [], h => h.elim
theorem fit_add (fit : FitB b F O S H) (hT : b.TP = tabT T b.c.l) (hs : b.stf = true) (ha : H a = some u) (nl : ¬ LD u) (nt : NoTbl u) : ∃ F1, Same F F1 ∧ F1 a = some u ∧ FitB b F1 O S H := by
  obtain ⟨T0, tp, fit⟩ := fit
  cases hF : F a with
  | some o =>
    have := fit.f _ _ hF
    rw [ha] at this
    cases this
    exact ⟨F, Same.refl _, hF, T0, tp, fit⟩
  | none =>
    have tp' := tp
    rw [hT] at tp
    obtain ⟨t1, t2, t3⟩ := tp
    have nO : O a = none := by
      cases q : O a with
      | none => rfl
      | some o =>
        have := fit.o _ _ q
        rw [ha] at this
        cases this
        exact absurd (fit.ld _ _ q) nl
    have nT : b.T S T0 a = none := by
      cases q : b.T S T0 a with
      | none => rfl
      | some o =>
        have hH := fit.t _ _ q
        rw [ha] at hH
        cases hH
        unfold Bc.T stT at q
        rw [if_pos hs] at q
        split at q
        · cases q; exact absurd (.inr (.inl ⟨_, rfl⟩)) nl
        · split at q
          · cases q; exact absurd (.inl ⟨_, rfl⟩) nl
          · obtain ⟨p, hp, e⟩ := List.mem_map.mp (t1 a (by rw [q]; simp))
            obtain ⟨ps, e1, _⟩ := t3 p hp
            rw [e, q] at e1
            cases e1
            exact absurd rfl (nt ps)
    refine ⟨upd F a u, same_upd hF, upd_same, T0, b.TP.mono tp' (same_upd hF), ⟨fun c o e => ?_, fit.o, fit.t, fun c q => ?_, fun c q => ?_, fit.ot, fun c o e => ?_, fit.ld⟩⟩
    · by_cases hc : c = a
      · subst hc; rw [upd_same] at e; cases e; exact ha
      · rw [upd_ne hc] at e; exact fit.f _ _ e
    · rw [upd_ne (fun z => by subst z; exact q nO)]; exact fit.fo c q
    · rw [upd_ne (fun z => by subst z; exact q nT)]; exact fit.ft c q
    · by_cases hc : c = a
      · subst hc; rw [upd_same] at e; cases e; exact nt
      · rw [upd_ne hc] at e; exact fit.nt c o e
end
section
variable {X : Cx} {b : Bc} {E : XK} {tg : Expr} {es : List Expr} {body : List Stmt} {pos lp : Pos} {T : List (Addr × Str)} {i : Nat}
theorem post_ofL {qual : Str} {cells : List (Str × Addr)} {q : Lam} {f c' : Addr} {F0 O0 : Hp} {r : Res (Fl × DS)} {Dn : Ends} (h : PostS b E F0 O0 r Dn) : PostS (bL b qual cells q f c') E F0 O0 r Dn := by
  cases r with
  | ok p =>
    obtain ⟨a, S'⟩ := p
    cases a with
    | nx env' => exact fun σ' F' O' H' P => h σ' F' O' H' P.ofL
    | rt d => exact fun v F' O' H' s o fit I hv => h v F' O' H' s o fit.ofL.1 I hv
    | bk env' => exact fun σ' F' O' H' P => h σ' F' O' H' P.ofL
    | ct env' => exact fun σ' F' O' H' P => h σ' F' O' H' P.ofL
  | exc n f fs S' => exact fun cls dd F' O' H' s o fit I hx => h cls dd F' O' H' s o fit.ofL.1 I hx
  | bad => exact h
theorem Pre.blank {F0 O0 F O H : Hp} {σ : L2.St} {env : Env} {S : DS} (P : Pre b F0 O0 F O H σ env S) : Pre b F0 O0 F O H σ (env.set i none) S where
  fit := P.fit
  f0 := P.f0
  o0 := P.o0
  inv := P.inv
  slot := fun j d h n => P.slot j d (by
    by_cases hj : j = i
    · subst hj
      rw [List.getElem?_set] at h
      simp at h
    · rwa [set_ne' hj] at h) n
  slotO := fun j d h n => P.slotO j d (by
    by_cases hj : j = i
    · subst hj
      rw [List.getElem?_set] at h
      simp at h
    · rwa [set_ne' hj] at h) n
  sep := fun j k a h1 h2 ⟨d, e1⟩ ⟨d', e2⟩ => P.sep j k a h1 h2 ⟨d, by
    by_cases hj : j = i
    · subst hj
      rw [List.getElem?_set] at e1
      simp at e1
    · rwa [set_ne' hj] at e1⟩ ⟨d', by
    by_cases hj : k = i
    · subst hj
      rw [List.getElem?_set] at e2
      simp at e2
    · rwa [set_ne' hj] at e2⟩
  len := by rw [List.length_set]; exact P.len
end
end VS
namespace VS
open PySem PySem.Spec PyProof.Rows L2
end VS
namespace VS
open PySem PySem.Spec PyProof.Rows L2
def innM (f2 : ME) (set2 : Env → D → Option Env) (test2 : MT) (fe : ME) (vs1 : List Nat) : Env → DS → Res (List D × DS) := fun env1 S => bindM (noX (f2 env1 S)) fun d S1 => match d with
  | .lst es => compM set2 test2 fe (wipeE env1 vs1) es S1
  | .tup es => compM set2 test2 fe (wipeE env1 vs1) es S1
  | _ => .bad
def comp2M (set1 : Env → D → Option Env) (test1 : MT) (inn : Env → DS → Res (List D × DS)) (env0 : Env) : List D → DS → Res (List D × DS)
  | [], S => .ok ([], S)
  | d :: ds, S => match set1 env0 d with
    | none => .bad
    | some env1 => bindM (noX (test1 env1 S)) fun k S1 => if k = true then bindM (inn env1 S1) fun ys S2 => bindM (comp2M set1 test1 inn env0 ds S2) fun zs S3 => .ok (ys ++ zs, S3) else comp2M set1 test1 inn env0 ds S1
def chkL (zs : List D) (S : DS) : Res (D × DS) := if zs.length ≤ 1000000 then .ok (.lst zs, S) else .bad
def lc2M (set1 : Env → D → Option Env) (f1 : ME) (test1 : MT) (inn : Env → DS → Res (List D × DS)) (vs : List Nat) : ME := fun env S => bindM (f1 env S) fun d S1 => match d with
  | .lst ds => bindM (comp2M set1 test1 inn (wipeE env vs) ds S1) chkL
  | .tup ds => bindM (comp2M set1 test1 inn (wipeE env vs) ds S1) chkL
  | _ => .bad
def Qt {α : Type} (x : Res (α × DS)) : Prop := ∀ n f fs S, x ≠ .exc n f fs S
theorem Qt.noX {α : Type} {x : Res (α × DS)} : Qt (noX x) := fun n f fs S h => by
  cases x with
  | ok p => cases h
  | exc _ _ _ _ => cases h
  | bad => cases h
theorem Qt.bind {α β : Type} {x : Res (α × DS)} {k : α → DS → Res (β × DS)} (h : Qt x) (h2 : ∀ a S, Qt (k a S)) : Qt (bindM x k) := fun n f fs S e => by
  cases x with
  | ok p => exact h2 _ _ n f fs S e
  | exc n' f' fs' S' => exact h _ _ _ _ rfl
  | bad => cases e
theorem Qt.ok {α : Type} {p : α × DS} : Qt (Res.ok p) := fun _ _ _ _ h => nomatch h
theorem Qt.bad {α : Type} : Qt (Res.bad : Res (α × DS)) := fun _ _ _ _ h => nomatch h
theorem comp_qt {set : Env → D → Option Env} {test : MT} {fe : ME} {env0 : Env} : ∀ (ds : List D) (S : DS), Qt (compM set test fe env0 ds S)
  | [], S => Qt.ok
  | d :: ds, S => by
    unfold compM
    split
    · exact Qt.bad
    · refine Qt.bind Qt.noX fun k S1 => ?_
      split
      · exact Qt.bind Qt.noX fun y S2 => Qt.bind (comp_qt ds S2) fun _ _ => Qt.ok
      · exact comp_qt ds S1
theorem inn_qt {f2 fe : ME} {set2 : Env → D → Option Env} {test2 : MT} {vs1 : List Nat} (env : Env) (S : DS) : Qt (innM f2 set2 test2 fe vs1 env S) := by
  unfold innM
  refine Qt.bind Qt.noX fun d S1 => ?_
  split
  · exact comp_qt _ _
  · exact comp_qt _ _
  · exact Qt.bad
theorem comp2_qt {set1 : Env → D → Option Env} {test1 : MT} {inn : Env → DS → Res (List D × DS)} (hi : ∀ env S, Qt (inn env S)) {env0 : Env} : ∀ (ds : List D) (S : DS), Qt (comp2M set1 test1 inn env0 ds S)
  | [], S => Qt.ok
  | d :: ds, S => by
    unfold comp2M
    split
    · exact Qt.bad
    · refine Qt.bind Qt.noX fun k S1 => ?_
      split
      · exact Qt.bind (hi _ _) fun y S2 => Qt.bind (comp2_qt hi ds S2) fun _ _ => Qt.ok
      · exact comp2_qt hi ds S1
theorem w_list {K : PySem.W.Frag} {a : Addr} {xs : List V} {H1 : Hp} {Qd : Hp → Prop} {Step : V → Hp → (Hp → Prop) → Prop} (Pv : Nat → Hp → Prop) (h0 : Pv 0 H1) (hl : ∀ i H, i ≤ xs.length → Pv i H → SqL K H a xs)
    (hs : ∀ i x H, xs[i]? = some x → Pv i H → Step x H (Pv (i + 1))) (hd : ∀ H, Pv xs.length H → Qd H) :
    ∃ W : Nat → Nat → Hp → Prop, (∃ m, W 0 m H1) ∧ ∀ i m H, W i m H → ((Itl K a).stop i H ∧ Qd H) ∨ ((Itl K a).go i H ∧ ∃ Nx : Hp → Prop, (∀ H', Nx H' → ∃ m', m' < m ∧ W (i + 1) m' H') ∧ ∀ x H', (Itl K a).yld i H x H' → Step x H' Nx) := by
  refine ⟨fun i m H => m = xs.length - i ∧ i ≤ xs.length ∧ Pv i H, ⟨_, rfl, Nat.zero_le _, h0⟩, ?_⟩
  rintro i m H ⟨rfl, hi, p⟩
  have q := hl i H hi p
  by_cases hlt : i < xs.length
  · refine .inr ⟨⟨xs, xs[i], q, by simp [hlt]⟩, Pv (i + 1), fun H' p' => ⟨_, by omega, rfl, hlt, p'⟩, ?_⟩
    rintro x H' ⟨rfl, y⟩
    exact hs i x _ (y xs q) p
  · obtain rfl : i = xs.length := by omega
    exact .inl ⟨⟨xs, q, Nat.le_refl _⟩, hd H p⟩
theorem w_tup {K : PySem.W.Frag} {a : Addr} {xs : List V} {H1 : Hp} {Qd : Hp → Prop} {Step : V → Hp → (Hp → Prop) → Prop} (Pv : Nat → Hp → Prop) (h0 : Pv 0 H1) (hl : ∀ i H, i ≤ xs.length → Pv i H → SqT K H a xs)
    (hs : ∀ i x H, xs[i]? = some x → Pv i H → Step x H (Pv (i + 1))) (hd : ∀ H, Pv xs.length H → Qd H) :
    ∃ W : Nat → Nat → Hp → Prop, (∃ m, W 0 m H1) ∧ ∀ i m H, W i m H → ((Itt K a).stop i H ∧ Qd H) ∨ ((Itt K a).go i H ∧ ∃ Nx : Hp → Prop, (∀ H', Nx H' → ∃ m', m' < m ∧ W (i + 1) m' H') ∧ ∀ x H', (Itt K a).yld i H x H' → Step x H' Nx) := by
  refine ⟨fun i m H => m = xs.length - i ∧ i ≤ xs.length ∧ Pv i H, ⟨_, rfl, Nat.zero_le _, h0⟩, ?_⟩
  rintro i m H ⟨rfl, hi, p⟩
  have q := hl i H hi p
  by_cases hlt : i < xs.length
  · refine .inr ⟨⟨xs, xs[i], q, by simp [hlt]⟩, Pv (i + 1), fun H' p' => ⟨_, by omega, rfl, hlt, p'⟩, ?_⟩
    rintro x H' ⟨rfl, y⟩
    exact hs i x _ (y xs q) p
  · obtain rfl : i = xs.length := by omega
    exact .inl ⟨⟨xs, q, Nat.le_refl _⟩, hd H p⟩
structure Cm2 (b : Bc) (E : XK) (O F1 : Hp) (K : D → DS → Hp → Hp → Prop) (k : List D → DS → Res (D × DS)) (D0 : Addr) (H : Hp) : Prop where
  ex : ∃ F ys vs S, FitB b F (upd O D0 (.lst vs)) S H ∧ b.I S F ∧ Same F1 F ∧ Dens b.c F ys vs ∧ Post b E O F (k ys S) K
theorem lim {b : Bc} {E : XK} {O F : Hp} {K : D → DS → Hp → Hp → Prop} {α : Type} {x : Res (α × DS)} {y : α → DS → Res (List D × DS)} (hx : Qt x) (hy : ∀ a S, Qt (y a S)) {acc : List D} {g : α → List D → List D} (hg : ∀ a zs, acc.length ≤ (g a zs).length)
    (h : Post b E O F (bindM x fun a S => bindM (y a S) fun zs S2 => chkL (g a zs) S2) K) : acc.length ≤ 1000000 := by
  cases x with
  | bad => exact False.elim h
  | exc n f fs S => exact absurd rfl (hx n f fs S)
  | ok p =>
    obtain ⟨a, S⟩ := p
    have h : Post b E O F (bindM (y a S) fun zs S2 => chkL (g a zs) S2) K := h
    cases e : y a S with
    | bad => rw [e] at h; exact False.elim h
    | exc n f fs S => exact absurd e (hy a _ n f fs S)
    | ok p2 =>
      obtain ⟨zs, S2⟩ := p2
      rw [e] at h
      have h : Post b E O F (chkL (g a zs) S2) K := h
      unfold chkL at h
      split at h
      · exact Nat.le_trans (hg a zs) (by assumption)
      · exact False.elim h
section
variable {X : Cx} {b : Bc} {E : XK} {e iter iter1 tg tg1 elt : Expr} {f1 f2 fe : ME} {test1 test2 : MT} {pos : Pos} {gt1 gt2 : TG} {set1 set2 : Env → D → Option Env} {js1 js2 : List Nat}
theorem in_turn (ht : Tgt b X.K gt2 set2 js2) {F0 O0 O F1 H' : Hp} {σ2 : L2.St} {env1 : Env} {vs1 : List Nat} {K : D → DS → Hp → Hp → Prop} {d : D} {ds : List D} {D0 : Addr} {v : V} {S0' : DS} {Hx : Hp} (P : Pre b F0 O0 F1 O Hx σ2 env1 S0') (hO : O D0 = none)
    (hv : Den b.c F1 d v) (hvs : vs1.all (fun i => !b.own.contains i) = true) (hjs : js2.all (fun j => vs1.contains j) = true) {rest : DS → Res (List D × DS)} (hr : ∀ S, Qt (rest S))
    (C : Cm2 b E O F1 K (fun ys S => bindM (compM set2 test2 fe (wipeE env1 vs1) (d :: ds) S) fun ws S2 => bindM (rest S2) fun zs S3 => chkL (ys ++ (ws ++ zs)) S3) D0 H') :
    gt2 v (L2.wipe σ2 vs1) H' fun σ3 H2 => L2.wipe σ3 vs1 = L2.wipe σ2 vs1 ∧ tT b XF test2 σ3 H2 fun k H3 => if k = true then tE b XF fe σ3 H3 fun y H4 => ∃ acc, H4 D0 = some (.lst acc) ∧ acc.length < sizeLine ∧
        Cm2 b E O F1 K (fun ys S => bindM (compM set2 test2 fe (wipeE env1 vs1) ds S) fun ws S2 => bindM (rest S2) fun zs S3 => chkL (ys ++ (ws ++ zs)) S3) D0 (upd H4 D0 (.lst (acc ++ [y])))
      else Cm2 b E O F1 K (fun ys S => bindM (compM set2 test2 fe (wipeE env1 vs1) ds S) fun ws S2 => bindM (rest S2) fun zs S3 => chkL (ys ++ (ws ++ zs)) S3) D0 H3 := by
  obtain ⟨F2, ys, us, S2, fit2, I2, s2, hd, hp⟩ := C.ex
  have eO : Same O (upd O D0 (.lst us)) := same_upd hO
  have P2 : Pre b F0 O0 F2 (upd O D0 (.lst us)) H' σ2 env1 S2 := by
    refine ⟨fit2, P.f0.trans s2, P.o0.trans eO, I2, fun i d h n => ?_, fun i d h n => ?_, P.sep, P.len⟩
    · obtain ⟨v, h1, h2⟩ := P.slot i d h n; exact ⟨v, h1, Den.mono s2 _ _ h2⟩
    · obtain ⟨a, h1, h2, h3⟩ := P.slotO i d h n; exact ⟨a, h1, h2.mono s2 (fun o q => eO _ _ q), h3⟩
  have P3 := P2.wipe vs1 hvs
  unfold compM at hp
  cases hs : set2 (wipeE env1 vs1) d with
  | none => simp only [hs] at hp; exact False.elim hp
  | some env2 =>
    simp only [hs] at hp
    rw [bindM_assoc] at hp
    refine ht.run F0 O0 F2 _ H' (L2.wipe σ2 vs1) (wipeE env1 vs1) S2 d v env2 _ P3 (Den.mono s2 _ _ hv) hs fun σ3 P4 q4 l4 => ⟨wipe_eq (by rw [l4, L2.wipe_length]) q4 hjs, F0, O0, F2, _, env2, S2, P4, ((Post.noX (Post.bind hp)).moreO eO).imp fun k S3 F3 H3 s3 fit3 I3 hp => ?_⟩
    cases k with
    | true =>
      refine iteT ⟨F0, O0, F3, _, env2, S3, P4.grow s3 fit3 I3, ?_⟩
      rw [if_pos rfl, bindM_assoc] at hp
      refine ((Post.noX (Post.bind hp)).moreO eO).imp fun y S4 F4 H4 s4 fit4 I4 hp w hw => ?_
      rw [bindM_assoc] at hp
      have hp : Post b E O F4 (bindM (compM set2 test2 fe (wipeE env1 vs1) ds S4) fun ws S5 => bindM (rest S5) fun zs S6 => chkL (ys ++ ((y :: ws) ++ zs)) S6) K := hp
      have hlim := lim (acc := ys ++ [y]) (g := fun ws zs => ys ++ ((y :: ws) ++ zs)) (comp_qt ds S4) (fun _ S => hr S) (fun ws zs => by simp) hp
      refine ⟨us, fit4.o D0 _ upd_same, ?_, F4, ys ++ [y], us ++ [w], S4, ?_, I4, (s2.trans s3).trans s4, (Dens.mono (s3.trans s4) _ _ hd).append (Dens.one hw), ?_⟩
      · rw [← hd.length]
        rw [List.length_append, List.length_singleton] at hlim
        exact Nat.lt_of_lt_of_le (show ys.length < 1000000 by omega) million
      · have := fit4.setO (u' := .lst (us ++ [w])) (upd_same (H := O) (a := D0) (o := .lst us))
        rw [upd_upd] at this
        exact this
      · have e : (fun ws S5 => bindM (rest S5) fun zs S6 => chkL (ys ++ ((y :: ws) ++ zs)) S6) = fun ws S5 => bindM (rest S5) fun zs S6 => chkL (ys ++ [y] ++ (ws ++ zs)) S6 := by
          funext ws S5
          congr 1
          funext zs S6
          simp
        rw [e] at hp
        exact hp
    | false =>
      rw [if_neg Bool.false_ne_true] at hp
      exact iteF ⟨F3, ys, us, S3, fit3, I3, s2.trans s3, Dens.mono s3 _ _ hd, hp⟩
theorem Cm2.upF {O F1 F4 H : Hp} {K : D → DS → Hp → Hp → Prop} {k : List D → DS → Res (D × DS)} {D0 : Addr} (C : Cm2 b E O F4 K k D0 H) (s : Same F1 F4) : Cm2 b E O F1 K k D0 H := by
  obtain ⟨F, ys, vs, S, h1, h2, h3, h4, h5⟩ := C.ex
  exact ⟨F, ys, vs, S, h1, h2, s.trans h3, h4, h5⟩
abbrev inK (set2 : Env → D → Option Env) (test2 : MT) (fe : ME) (vs1 : List Nat) (env1 : Env) (rest : DS → Res (List D × DS)) (es : List D) : List D → DS → Res (D × DS) := fun ys S => bindM (compM set2 test2 fe (wipeE env1 vs1) es S) fun ws S2 => bindM (rest S2) fun zs S3 => chkL (ys ++ (ws ++ zs)) S3
abbrev outK (rest : DS → Res (List D × DS)) : List D → DS → Res (D × DS) := fun ys S => bindM (rest S) fun zs S2 => chkL (ys ++ zs) S2
abbrev InR (b : Bc) (gt2 : TG) (test2 : MT) (fe : ME) (vs1 : List Nat) (D0 : Addr) (σ2 : L2.St) (Nx : Hp → Prop) : It → Hp → Prop := fun J1 H4 => ∃ W1 : Nat → Nat → Hp → Prop, (∃ m, W1 0 m H4) ∧ ∀ j k H, W1 j k H →
  (J1.stop j H ∧ Nx H) ∨ (J1.go j H ∧ ∃ Nx1 : Hp → Prop, (∀ H', Nx1 H' → ∃ k', k' < k ∧ W1 (j + 1) k' H') ∧ ∀ x H', J1.yld j H x H' → gt2 x (L2.wipe σ2 vs1) H' fun σ3 H5 => L2.wipe σ3 vs1 = L2.wipe σ2 vs1 ∧ tT b XF test2 σ3 H5 fun b' H6 =>
    if b' = true then tE b XF fe σ3 H6 fun y H7 => ∃ acc, H7 D0 = some (.lst acc) ∧ acc.length < sizeLine ∧ Nx1 (upd H7 D0 (.lst (acc ++ [y]))) else Nx1 H6)
theorem in_walk (hK : b.c.K = X.K) (ht : Tgt b X.K gt2 set2 js2) {F0 O0 O F3 H3 : Hp} {σ2 : L2.St} {env1 : Env} {vs1 : List Nat} {K : D → DS → Hp → Hp → Prop} {D0 : Addr} {S3 : DS} {ys : List D} {us : List V} (P : Pre b F0 O0 F3 O H3 σ2 env1 S3) (hO : O D0 = none)
    (fit3 : FitB b F3 (upd O D0 (.lst us)) S3 H3) (hd : Dens b.c F3 ys us) (hvs : vs1.all (fun i => !b.own.contains i) = true) (hjs : js2.all (fun j => vs1.contains j) = true) {rest : DS → Res (List D × DS)} (hr : ∀ S, Qt (rest S))
    (hp : Post b E O F3 (bindM (innM f2 set2 test2 fe vs1 env1 S3) fun ws S2 => bindM (rest S2) fun zs S4 => chkL (ys ++ (ws ++ zs)) S4) K) :
    iList X.K (tE b XF f2) σ2 H3 (InR b gt2 test2 fe vs1 D0 σ2 (Cm2 b E O F3 K (outK rest) D0)) ∨ iTup X.K (tE b XF f2) σ2 H3 (InR b gt2 test2 fe vs1 D0 σ2 (Cm2 b E O F3 K (outK rest) D0)) := by
  have eO : Same O (upd O D0 (.lst us)) := same_upd hO
  have P' := P.moreO eO fit3
  unfold innM at hp
  rw [bindM_assoc] at hp
  have hp := (Post.noX (Post.bind hp)).moreO eO
  have fin : ∀ {F4 H : Hp} (_ : Same F3 F4), Cm2 b E O F4 K (inK set2 test2 fe vs1 env1 rest []) D0 H → Cm2 b E O F3 K (outK rest) D0 H := fun s C => C.upF s
  cases hf : f2 env1 S3 with
  | bad => rw [hf] at hp; exact False.elim hp
  | exc n fl fs S' => exact .inl ⟨F0, O0, F3, _, env1, S3, P', by rw [hf] at hp ⊢; exact hp⟩
  | ok p =>
    obtain ⟨d, S4⟩ := p
    rw [hf] at hp
    cases d with
    | lst es =>
      refine .inl ⟨F0, O0, F3, _, env1, S3, P', ?_⟩
      rw [hf]
      intro F4 H4 s4 fit4 I4 v hv
      have k := hp F4 H4 s4 fit4 I4
      obtain ⟨a, vs, rfl, h1, z, h2⟩ := hv
      refine ⟨a, rfl, ⟨vs, SqL_of (fit4.f _ _ h1)⟩, w_list (xs := vs) (fun j H => Cm2 b E O F4 K (inK set2 test2 fe vs1 env1 rest (es.drop j)) D0 H) ⟨F4, ys, us, S4, fit4, I4, Same.refl _, Dens.mono s4 _ _ hd, k⟩ (fun j H _ C => ?_) (fun j x H hx C => ?_) (fun H C => ?_)⟩
      · obtain ⟨F5, _, _, _, fit5, _, s5, _⟩ := C.ex
        exact SqL_of (fit5.f _ _ (s5 _ _ h1))
      · obtain ⟨d, e1, e2⟩ := Dens.get h2 hx
        rw [drop_at e1] at C
        exact in_turn ht (P.grow s4 (fit4.less eO) I4) hO e2 hvs hjs hr C
      · rw [← h2.length, List.drop_length] at C
        exact fin s4 C
    | tup es =>
      refine .inr ⟨F0, O0, F3, _, env1, S3, P', ?_⟩
      rw [hf]
      intro F4 H4 s4 fit4 I4 v hv
      have k := hp F4 H4 s4 fit4 I4
      obtain ⟨a, vs, rfl, h1, z, h2⟩ := hv
      rw [hK] at h1
      refine ⟨a, rfl, ⟨vs, sqT_mono fit4.f h1⟩, w_tup (xs := vs) (fun j H => Cm2 b E O F4 K (inK set2 test2 fe vs1 env1 rest (es.drop j)) D0 H) ⟨F4, ys, us, S4, fit4, I4, Same.refl _, Dens.mono s4 _ _ hd, k⟩ (fun j H _ C => ?_) (fun j x H hx C => ?_) (fun H C => ?_)⟩
      · obtain ⟨F5, _, _, _, fit5, _, s5, _⟩ := C.ex
        exact sqT_mono fit5.f (sqT_mono s5 h1)
      · obtain ⟨d, e1, e2⟩ := Dens.get h2 hx
        rw [drop_at e1] at C
        exact in_turn ht (P.grow s4 (fit4.less eO) I4) hO e2 hvs hjs hr C
      · rw [← h2.length, List.drop_length] at C
        exact fin s4 C
    | _ =>
      refine .inl ⟨F0, O0, F3, _, env1, S3, P', ?_⟩
      rw [hf]
      exact fun F4 H4 s4 fit4 I4 v hv => False.elim (hp F4 H4 s4 fit4 I4)
theorem out_turn (hK : b.c.K = X.K) (ht1 : Tgt b X.K gt1 set1 js1) (ht2 : Tgt b X.K gt2 set2 js2) {F0 O0 O F1 H H' : Hp} {σ : L2.St} {env : Env} {S : DS} {vs vs1 : List Nat} {K : D → DS → Hp → Hp → Prop} {d : D} {ds : List D} {D0 : Addr} {v : V} (P : Pre b F0 O0 F1 O H σ env S) (hO : O D0 = none)
    (hv : Den b.c F1 d v) (hvs : vs.all (fun i => !b.own.contains i) = true) (hjs : js1.all (fun j => vs.contains j) = true) (hvs1 : vs1.all (fun i => !b.own.contains i) = true) (hjs1 : js2.all (fun j => vs1.contains j) = true)
    (C : Cm2 b E O F1 K (outK (comp2M set1 test1 (innM f2 set2 test2 fe vs1) (wipeE env vs) (d :: ds))) D0 H') :
    gt1 v (L2.wipe σ vs) H' fun σ2 H2 => L2.wipe σ2 vs = L2.wipe σ vs ∧ tT b XF test1 σ2 H2 fun k H3 => if k = true then (iList X.K (tE b XF f2) σ2 H3 (InR b gt2 test2 fe vs1 D0 σ2 (Cm2 b E O F1 K (outK (comp2M set1 test1 (innM f2 set2 test2 fe vs1) (wipeE env vs) ds)) D0)) ∨
        iTup X.K (tE b XF f2) σ2 H3 (InR b gt2 test2 fe vs1 D0 σ2 (Cm2 b E O F1 K (outK (comp2M set1 test1 (innM f2 set2 test2 fe vs1) (wipeE env vs) ds)) D0)))
      else Cm2 b E O F1 K (outK (comp2M set1 test1 (innM f2 set2 test2 fe vs1) (wipeE env vs) ds)) D0 H3 := by
  obtain ⟨F2, ys, us, S2, fit2, I2, s2, hd, hp⟩ := C.ex
  have eO : Same O (upd O D0 (.lst us)) := same_upd hO
  have P2 : Pre b F0 O0 F2 O H' σ env S2 := by
    refine ⟨fit2.less eO, P.f0.trans s2, P.o0, I2, fun i d h n => ?_, fun i d h n => ?_, P.sep, P.len⟩
    · obtain ⟨v, h1, h2⟩ := P.slot i d h n; exact ⟨v, h1, Den.mono s2 _ _ h2⟩
    · obtain ⟨a, h1, h2, h3⟩ := P.slotO i d h n; exact ⟨a, h1, h2.mono s2 (fun o q => q), h3⟩
  have P3 := P2.wipe vs hvs
  unfold outK comp2M at hp
  cases hs : set1 (wipeE env vs) d with
  | none => simp only [hs] at hp; exact False.elim hp
  | some env1 =>
    simp only [hs] at hp
    rw [bindM_assoc] at hp
    refine ht1.run F0 O0 F2 _ H' (L2.wipe σ vs) (wipeE env vs) S2 d v env1 _ P3 (Den.mono s2 _ _ hv) hs fun σ2 P4 q4 l4 => ⟨wipe_eq (by rw [l4, L2.wipe_length]) q4 hjs, F0, O0, F2, _, env1, S2, P4.moreO eO fit2, ((Post.noX (Post.bind hp)).moreO eO).imp fun k S3 F3 H3 s3 fit3 I3 hp => ?_⟩
    cases k with
    | true =>
      rw [if_pos rfl]
      rw [if_pos rfl, bindM_assoc] at hp
      have e : (fun (ws : List D) (S4 : DS) => bindM (bindM (comp2M set1 test1 (innM f2 set2 test2 fe vs1) (wipeE env vs) ds S4) fun zs S5 => Res.ok (ws ++ zs, S5)) fun zs S5 => chkL (ys ++ zs) S5) = fun ws S4 => bindM (comp2M set1 test1 (innM f2 set2 test2 fe vs1) (wipeE env vs) ds S4) fun zs S5 => chkL (ys ++ (ws ++ zs)) S5 := by
        funext ws S4
        rw [bindM_assoc]
        rfl
      rw [e] at hp
      have w := in_walk (rest := comp2M set1 test1 (innM f2 set2 test2 fe vs1) (wipeE env vs) ds) hK ht2 (P4.grow s3 (fit3.less eO) I3) hO fit3 (Dens.mono s3 _ _ hd) hvs1 hjs1 (fun S => comp2_qt (fun env S => inn_qt env S) ds S) hp
      have up : ∀ H, Cm2 b E O F3 K (outK (comp2M set1 test1 (innM f2 set2 test2 fe vs1) (wipeE env vs) ds)) D0 H → Cm2 b E O F1 K (outK (comp2M set1 test1 (innM f2 set2 test2 fe vs1) (wipeE env vs) ds)) D0 H := fun H C => C.upF (s2.trans s3)
      have inr : ∀ J H4, InR b gt2 test2 fe vs1 D0 σ2 (Cm2 b E O F3 K (outK (comp2M set1 test1 (innM f2 set2 test2 fe vs1) (wipeE env vs) ds)) D0) J H4 → InR b gt2 test2 fe vs1 D0 σ2 (Cm2 b E O F1 K (outK (comp2M set1 test1 (innM f2 set2 test2 fe vs1) (wipeE env vs) ds)) D0) J H4 := fun J H4 ⟨W, h0, h⟩ => ⟨W, h0, fun j k H hw => (h j k H hw).imp (fun h => ⟨h.1, up _ h.2⟩) fun h => h⟩
      refine w.imp (fun h => ?_) fun h => ?_
      · obtain ⟨a1, a2, a3, a4, a5, a6, P5, h⟩ := h
        exact ⟨a1, a2, a3, a4, a5, a6, P5, h.imp fun d S' F' H' _ _ _ h v hv => let ⟨a, e1, e2, e3⟩ := h v hv; ⟨a, e1, e2, inr _ _ e3⟩⟩
      · obtain ⟨a1, a2, a3, a4, a5, a6, P5, h⟩ := h
        exact ⟨a1, a2, a3, a4, a5, a6, P5, h.imp fun d S' F' H' _ _ _ h v hv => let ⟨a, e1, e2, e3⟩ := h v hv; ⟨a, e1, e2, inr _ _ e3⟩⟩
    | false =>
      rw [if_neg Bool.false_ne_true] at hp ⊢
      exact ⟨F3, ys, us, S3, fit3, I3, s2.trans s3, Dens.mono s3 _ _ hd, hp⟩
abbrev KN (b : Bc) (Q : VK) : D → DS → Hp → Hp → Prop := fun d S' F' H' => ∀ p o, H' p = none → ObjD b.c F' d o → Q (.ref p) (upd H' p o)
theorem out_end {O F1 H' : Hp} {Q : VK} {D0 : Addr} {env0 : Env} {inn : Env → DS → Res (List D × DS)} (hO : O D0 = none) (C : Cm2 b E O F1 (KN b Q) (outK (comp2M set1 test1 inn env0 [])) D0 H') : Q (.ref D0) H' := by
  obtain ⟨F2, ys, us, S2, fit2, I2, s2, hd, hp⟩ := C.ex
  have eO : Same O (upd O D0 (.lst us)) := same_upd hO
  have hH : H' D0 = some (.lst us) := fit2.o D0 _ upd_same
  have e : upd (del H' D0) D0 (.lst us) = H' := by
    funext a
    by_cases h : a = D0
    · subst h; rw [upd_same, hH]
    · rw [upd_ne h]; unfold del; rw [if_neg h]
  have fit : FitB b F2 O S2 (del H' D0) := fit2.out hO
  have hp : Post b E O F2 (chkL (ys ++ []) S2) (KN b Q) := hp
  rw [List.append_nil] at hp
  unfold chkL at hp
  by_cases hz : ys.length ≤ 1000000
  · rw [if_pos hz] at hp
    have k := hp F2 (del H' D0) (Same.refl _) fit I2 D0 (.lst us) (by unfold del; rw [if_pos rfl]) ⟨us, rfl, Nat.le_trans hz million, hd⟩
    rw [e] at k
    exact k
  · rw [if_neg hz] at hp
    exact False.elim hp
theorem lc2_imp {vs vs1 : List Nat} (hK : b.c.K = X.K) (ht1 : Tgt b X.K gt1 set1 js1) (ht2 : Tgt b X.K gt2 set2 js2) (hvs : vs.all (fun i => !b.own.contains i) = true) (hjs : js1.all (fun j => vs.contains j) = true) (hvs1 : vs1.all (fun i => !b.own.contains i) = true) (hjs1 : js2.all (fun j => vs1.contains j) = true) :
    ∀ σ H Q, tN b E (lc2M set1 f1 test1 (innM f2 set2 test2 fe vs1) vs) σ H Q → iSeqs X.K (tB b E f1) (fun wi => tLc2 wi gt1 (tT b XF test1) (fun σ H R => iList X.K (tE b XF f2) σ H R ∨ iTup X.K (tE b XF f2) σ H R) gt2 (tT b XF test2) (tE b XF fe) vs vs1) σ H Q := fun σ H Q ⟨F0, O0, F, O, env, S, P, h⟩ => by
    have hb := Post.bind h
    cases hr : f1 env S with
    | bad => rw [hr] at hb; exact False.elim hb
    | exc n f' fs S' =>
      rw [hr] at hb
      refine .inl ⟨F0, O0, F, O, env, S, P, ?_⟩
      rw [hr]
      exact hb
    | ok p =>
      obtain ⟨d, S1⟩ := p
      cases d with
      | lst ds =>
        refine .inl ⟨F0, O0, F, O, env, S, P, ?_⟩
        rw [hr] at hb ⊢
        intro F1 H1 s1 fit1 I1 v hv
        have k := hb F1 H1 s1 fit1 I1
        obtain ⟨a, us, rfl, h1, z, h2⟩ := hv
        refine ⟨a, rfl, ⟨us, SqL_of (h1.elim (fit1.f _ _) (fit1.o _ _))⟩, fun D0 hD => ?_⟩
        have nO := upd_none fit1.o hD
        have nF := upd_none fit1.f hD
        have P1 := P.grow s1 fit1 I1
        refine w_list (K := X.K) (xs := us) (fun i H' => Cm2 b E O F1 (KN b Q) (outK (comp2M set1 test1 (innM f2 set2 test2 fe vs1) (wipeE env vs) (ds.drop i))) D0 H') ⟨F1, [], [], S1, fit1.newO hD, I1, Same.refl _, rfl, k⟩ (fun i H' _ C => ?_) (fun i x H' hx C => ?_) (fun H' C => ?_)
        · obtain ⟨F2, _, _, _, fit2, _, s2, _⟩ := C.ex
          exact SqL_of (h1.elim (fun q => fit2.f _ _ (s2 _ _ q)) fun q => fit2.o _ _ (same_upd nO _ _ q))
        · obtain ⟨d, e1, e2⟩ := Dens.get h2 hx
          rw [drop_at e1] at C
          exact out_turn hK ht1 ht2 P1 nO e2 hvs hjs hvs1 hjs1 C
        · rw [← h2.length, List.drop_length] at C
          exact out_end nO C
      | tup ds =>
        refine .inr ⟨F0, O0, F, O, env, S, P, ?_⟩
        rw [hr] at hb ⊢
        intro F1 H1 s1 fit1 I1 v hv
        have k := hb F1 H1 s1 fit1 I1
        obtain ⟨a, us, rfl, h1, z, h2⟩ := hv
        rw [hK] at h1
        refine ⟨a, rfl, ⟨us, sqT_mono fit1.f h1⟩, fun D0 hD => ?_⟩
        have nO := upd_none fit1.o hD
        have nF := upd_none fit1.f hD
        have P1 := P.grow s1 fit1 I1
        refine w_tup (K := X.K) (xs := us) (fun i H' => Cm2 b E O F1 (KN b Q) (outK (comp2M set1 test1 (innM f2 set2 test2 fe vs1) (wipeE env vs) (ds.drop i))) D0 H') ⟨F1, [], [], S1, fit1.newO hD, I1, Same.refl _, rfl, k⟩ (fun i H' _ C => ?_) (fun i x H' hx C => ?_) (fun H' C => ?_)
        · obtain ⟨F2, _, _, _, fit2, _, s2, _⟩ := C.ex
          exact sqT_mono fit2.f (sqT_mono s2 h1)
        · obtain ⟨d, e1, e2⟩ := Dens.get h2 hx
          rw [drop_at e1] at C
          exact out_turn hK ht1 ht2 P1 nO e2 hvs hjs hvs1 hjs1 C
        · rw [← h2.length, List.drop_length] at C
          exact out_end nO C
      | _ =>
        refine .inl ⟨F0, O0, F, O, env, S, P, ?_⟩
        rw [hr] at hb ⊢
        exact fun F1 H1 s1 fit1 I1 v hv => False.elim (hb F1 H1 s1 fit1 I1)
theorem pi_seq2 {Y : Cx} {tg l : Expr} {t : TE} (h : PE Y l t) : PI Y tg l (fun σ H R => iList Y.K t σ H R ∨ iTup Y.K t σ H R) := PI.or (pi_list h) (pi_tup h)
theorem s_lc2O {st : Stmt} {vs vs1 : List Nat} (i : Nat) (ho : b.own.contains i = true) (hK : b.c.K = X.K) (ht1 : Tgt b X.K gt1 set1 js1) (ht2 : Tgt b X.K gt2 set2 js2) (hvs : vs.all (fun i => !b.own.contains i) = true) (hjs : js1.all (fun j => vs.contains j) = true) (hvs1 : vs1.all (fun i => !b.own.contains i) = true) (hjs1 : js2.all (fun j => vs1.contains j) = true)
    (h : ∀ wi, PI X tg iter wi → PS X st (tAsg (tLc2 wi gt1 (tT b XF test1) (fun σ H R => iList X.K (tE b XF f2) σ H R ∨ iTup X.K (tE b XF f2) σ H R) gt2 (tT b XF test2) (tE b XF fe) vs vs1) (gName i))) (hi : PE X iter (tB b E f1)) : PS X st (tS b E (asgS i (lc2M set1 f1 test1 (innM f2 set2 test2 fe vs1) vs))) :=
  PS.imp (PS.or (h _ (pi_list hi)) (h _ (pi_tup hi))) fun Dn σ H ⟨F0, O0, F, O, env, S, P, h⟩ => lc2_imp hK ht1 ht2 hvs hjs hvs1 hjs1 σ H _ ⟨F0, O0, F, O, env, S, P, (PostS.bind h P.f0 P.o0).imp fun d S1 F1 H1 s1 fit1 I1 k p o hp hd => k _ F1 _ _ ((P.grow s1 fit1 I1).setO (by simpa using ho) hp hd)⟩
end
end VS
namespace VS
open PySem PySem.Spec PyProof.Rows L2
end VS
namespace VS
open PySem PySem.Spec PyProof.Rows L2
def PostSN (b : Bc) (E : XK) (F0 O0 : Hp) (r : Res (Fl × DS)) (Dn : Ends) : Prop := match r with
  | .ok (.rt d, S') => ∀ p o F' O' H', Same F0 F' → Same O0 O' → FitB b F' O' S' H' → b.I S' F' → H' p = none → ObjD b.c F' d o → Dn.rt (.ref p) (upd H' p o)
  | .exc n f fs S' => ∀ cls dd F' O' H', Same F0 F' → Same O0 O' → FitB b F' O' S' H' → b.I S' F' → ExcR b.c F' n f fs cls dd → E cls dd H'
  | _ => False
def tSN (b : Bc) (E : XK) (g : MS) : TS := fun Dn σ H => ∃ F0 O0 F O env S, Pre b F0 O0 F O H σ env S ∧ PostSN b E F0 O0 (g env S) Dn
def seqN (g1 g2 : MS) : MS := fun env S => match g1 env S with
  | .ok (.nx env', S') => g2 env' S'
  | .exc n f fs S' => .exc n f fs S'
  | _ => .bad
theorem PostSN.bind {α : Type} {b : Bc} {E : XK} {F0 O0 F O : Hp} {Dn : Ends} {x : Res (α × DS)} {k : α → DS → Res (Fl × DS)} (h : PostSN b E F0 O0 (bindM x k) Dn) (s : Same F0 F) (o : Same O0 O) : Post b E O F x fun a S' F' H' => PostSN b E F0 O0 (k a S') Dn := by
  cases x with
  | ok p => obtain ⟨a, S'⟩ := p; exact fun F2 H2 e2 _ _ => h
  | exc n f fs S' => exact fun cls dd F' H' e fit I r => h cls dd F' O H' (s.trans e) o fit I r
  | bad => exact h
section
variable {X : Cx} {b : Bc} {E : XK} {e c : Expr} {st : Stmt} {rest sa sb : List Stmt} {f : ME} {g g1 g2 : MS} {t : MT} {pos : Pos}
theorem ssN_ret (h : PE X e (tN b E f)) : PSs X [.Return (some e) pos] (tSN b E (retS f)) :=
  pss_one (PS.imp (ps_ret h) fun Dn σ H ⟨F0, O0, F, O, env, S, P, h⟩ => ⟨F0, O0, F, O, env, S, P, (PostSN.bind h P.f0 P.o0).imp fun d S1 F1 H1 s1 fit1 I1 k p o hp hd => k p o F1 O H1 (P.f0.trans s1) P.o0 fit1 I1 hp hd⟩)
theorem ssN_retO (i : Nat) (hE : PE X e (tVar i)) (ho : b.own.contains i = true) : PSs X [.Return (some e) pos] (tSN b E (retS (varM i))) :=
  pss_one (PS.imp (ps_ret hE) fun Dn σ H ⟨F0, O0, F, O, env, S, P, h⟩ => by
    unfold retS varM at h
    cases he : env[i]? with
    | none => rw [he] at h; exact False.elim h
    | some o =>
      cases o with
      | none => rw [he] at h; exact False.elim h
      | some d =>
        rw [he] at h
        obtain ⟨a, h1, h2, h3⟩ := P.slotO i d he (by simpa using ho)
        refine ⟨_, h1, ?_⟩
        have ex : ∃ o, O a = some o ∧ ObjD b.c F d o := by
          cases d with
          | lst ds => obtain ⟨vs, q, hz, r⟩ := h2; exact ⟨_, q, vs, rfl, hz, r⟩
          | dct ks ds => obtain ⟨kv, q, hz, r⟩ := h2; exact ⟨_, q, kv, rfl, hz, r⟩
          | _ => exact False.elim h2
        obtain ⟨o, ho', hd⟩ := ex
        have so : Same O0 (del O a) := fun c u q => by
          have ne : c ≠ a := fun z => by subst z; rw [h3] at q; cases q
          unfold del
          rw [if_neg ne]
          exact P.o0 c u q
        have hH : H a = some o := P.fit.o _ _ ho'
        have eO : upd (del O a) a o = O := by
          funext c
          by_cases z : c = a
          · subst z; rw [upd_same, ho']
          · rw [upd_ne z]; unfold del; rw [if_neg z]
        have eH : upd (del H a) a o = H := by
          funext c
          by_cases z : c = a
          · subst z; rw [upd_same, hH]
          · rw [upd_ne z]; unfold del; rw [if_neg z]
        have nO : (del O a) a = none := by unfold del; rw [if_pos rfl]
        have fit : FitB b F (del O a) S (del H a) := FitB.out (u := o) (by rw [eO]; exact P.fit) nO
        have k := h a o F (del O a) (del H a) P.f0 so fit P.inv (by unfold del; rw [if_pos rfl]) hd
        rw [eH] at k
        exact k)
theorem ssN_cons (h1 : PS X st (tS b E g1)) (h2 : PSs X rest (tSN b E g2)) : PSs X (st :: rest) (tSN b E (seqN g1 g2)) := PSs.imp (pss_cons h1 h2) fun Dn σ H ⟨F0, O0, F, O, env, S, P, h⟩ => by
  refine ⟨F0, O0, F, O, env, S, P, ?_⟩
  unfold seqN at h
  cases hr : g1 env S with
  | ok p =>
    rw [hr] at h
    obtain ⟨a, S'⟩ := p
    cases a with
    | nx env' => exact fun σ' F' O' H' P' => ⟨F0, O0, F', O', env', S', P', h⟩
    | rt d => exact False.elim h
    | bk env' => exact False.elim h
    | ct env' => exact False.elim h
  | exc n f fs S' => rw [hr] at h; exact h
  | bad => rw [hr] at h; exact h
end
def endPN (r : Res (Fl × DS)) : RP := match r with
  | .ok (.rt d, _) => .ok d
  | .exc n f fs _ => .exc n f fs
  | _ => .bad
def spPN (K : PySem.W.Frag) (mg : Str → Option Value) (m : Nat) (G : List D → RP) : Sp := fun vs H Q E => vs.length = m ∧ ∃ (l : Lay) (F O T : Hp) (ds : List D), Fits F O T H ∧ Dens ⟨K, mg, l⟩ F ds vs ∧ match G ds with
  | .ok d => ∀ p o F' H', Same F F' → Fits F' O T H' → H' p = none → ObjD ⟨K, mg, l⟩ F' d o → Q (.ref p) (upd H' p o)
  | .exc n f fs => ∀ cls dd F' H', Same F F' → Fits F' O T H' → ExcR ⟨K, mg, l⟩ F' n f fs cls dd → E cls dd H'
  | .bad => False
section
variable {P : Program} {w : World} {K : PySem.W.Frag} {mg : Str → Option Value} {base : Heap}
theorem okPN {x qual : Str} {st : Stmt} {f : Addr} {fd : FuncData} {N ps : List Str} {k : Nat} (own : List Nat) {g : MS} {G : List D → RP} (F : Fun K x qual st f fd) (S : FnScope N ps (defScope st)) (hown : own.all (fun i => decide (ps.length ≤ i)) = true) (hle : ps.length ≤ N.length)
    (hbody : ∀ (cdv : Value) (A : Around) (outer : List PySem.Env) (s : Shared) (H : Hp) (E : XK) (l : Lay) (TP : TPr), Room k (A.deeper (envOfC qual (defScope st) s.heap.objs.size f cdv)) →
      PSs (cxOf (L2.CX P w) P w K mg base N qual (defScope st) f cdv A outer s H E) (defBody st) (tSN (bP K mg l TP own) E g))
    (hG : ∀ ds : List D, ds.length = ps.length → endPN (g (startE N.length ds) S0) = G ds) : FnOk P w K mg base (L2.CX P w) (k + 1) f fd ps (spPN K mg ps.length G) := by
  refine F.okX S (fun vs H Q E h => h.1) fun cdv A outer s H vs Q E hr h => ?_
  obtain ⟨hl, l, Fz, O, T, ds, fit, hd, h⟩ := h
  refine ⟨_, hbody cdv A outer s H E l (exT T) hr, Fz, O, Fz, O, startE N.length ds, S0, pre_start (b := bP K mg l (exT T) own) ⟨T, rfl, fit⟩ (fun q => absurd q Bool.false_ne_true) hd (by rw [hl]; exact hle) (by rw [hl]; exact hown), ?_⟩
  rw [← hG ds (by rw [hd.length]; exact hl)] at h
  revert h
  cases hr : g (startE N.length ds) S0 with
  | ok q =>
    obtain ⟨a, S'⟩ := q
    cases a with
    | nx env' => exact fun h => False.elim h
    | rt d => exact fun h p o F' O' H' e1 e2 fit' I' hp hd => by obtain ⟨_, rfl, q⟩ := fit'; exact h p o F' H' e1 (q.less e2) hp hd
    | bk env' => exact fun h => False.elim h
    | ct env' => exact fun h => False.elim h
  | exc n f fs S' => exact fun h cls dd F' O' H' e1 e2 fit' I' hx => by obtain ⟨_, rfl, q⟩ := fit'; exact h cls dd F' H' e1 (q.less e2) hx
  | bad => exact fun h => False.elim h
end
section
variable {X : Cx} {b : Bc} {E : XK} {e : Expr} {es : List Expr} {g : MA} {m : Nat}
theorem n_callP {G : List D → RP} {dvs : List V} (defs : List D) (hc : b.c.K = X.K ∧ b.c.mg = X.mg) (hd : ∀ F, Dens b.c F defs dvs) (hm : es.length + defs.length = m) (h : ∀ t, PA X es t → PE X e (tCall (spPN X.K X.mg m G) dvs E t)) (ha : PA X es (tA b E g)) (hlen : ∀ env S ds S', g env S = .ok (ds, S') → ds.length = es.length) :
    PE X e (tN b E (callP G defs g)) := PE.imp (h _ ha) fun σ H Q ⟨F0, O0, F, O, env, S, P, h⟩ => ⟨F0, O0, F, O, env, S, P, by
  have hb := Post.bind h
  revert hb
  cases hr : g env S with
  | ok p =>
    obtain ⟨ds, S1⟩ := p
    have hl := hlen env S ds S1 hr
    intro hb F1 H1 s1 fit1 I1 vs hvs
    have k := hb F1 H1 s1 fit1 I1
    obtain ⟨⟨K, mg, l⟩, stf, TP, own⟩ := b
    obtain ⟨T0, tp, fit1⟩ := fit1
    obtain ⟨h1, h2⟩ := hc
    cases h1
    cases h2
    have hv2 := Dens.append hvs (hd F1)
    refine ⟨by rw [← hv2.length, List.length_append, hl]; exact hm, l, F1, O, _, ds ++ defs, fit1, hv2, ?_⟩
    revert k
    cases hG : G (ds ++ defs) with
    | ok d => exact fun k p o F' H' s f np ho => k F' H' s ⟨T0, TP.mono tp s, f⟩ (I1.mono s) p o np ho
    | exc n f fs => exact fun k cls dd F' H' s f x => k cls dd F' H' s ⟨T0, TP.mono tp s, f⟩ (I1.mono s) x
    | bad => exact fun k => False.elim k
  | exc n f fs S' => exact fun h => h
  | bad => exact fun h => h⟩
end
end VS
namespace VS
open PySem PySem.Spec PyProof.Rows L2
end VS
namespace VS
open PySem PySem.Spec PyProof.Rows L2
end VS
namespace VS
open PySem PySem.Spec PyProof.Rows L2
end VS
namespace VS
open PySem PySem.Spec PyProof.Rows L2
end VS
namespace VS
open PySem PySem.Spec PyProof.Rows L2
theorem kit_ty {K : PySem.W.Frag} {t : Value} {T : String} {r : Bool} (hne : (t == Value.type T) = false) (hm : PySem.W.kitMeta T = true) (hs : PySem.W.subIn K t (.type T) = some r) : PySem.W.kitOne K t (.type T) = some r := by
  unfold PySem.W.kitOne
  rw [if_neg (by rw [hne]; exact Bool.false_ne_true)]
  show (if PySem.W.kitMeta T = true then PySem.W.subIn K t (.type T) else none) = some r
  rw [if_pos hm]
  exact hs
end VS
namespace VS
open PySem PySem.Spec PyProof.Rows L2
end VS
namespace VS
open PySem PySem.Spec PyProof.Rows L2
end VS
namespace VS
open PySem PySem.Spec PyProof.Rows L2
end VS
namespace VS
open PySem PySem.Spec PyProof.Rows L2
structure LamSP (sc scope : Scope) (N ps : List Str) : Prop where
  kind : scope.kind = .function
  co : scope.isCoroutine = false
  gen : scope.isGenerator = false
  own : ∀ y ∈ scope.names, y.2 ≠ .cell ∧ (y.2 = .local → y.1 ∈ ps)
  par : ∀ p ∈ ps, scope.names.lookup p = some .local
  nd : ps.Nodup
  dis : ∀ p ∈ ps, p ∉ N
  free : ∀ y ∈ scope.names, y.2 = .free → sc.names.lookup y.1 = some .cell ∨ sc.names.lookup y.1 = some .free
def lamSPB (sc scope : Scope) (N ps : List Str) : Bool :=
  decide (scope.kind = .function) && (!scope.isCoroutine && (!scope.isGenerator && ((scope.names.all fun y => !decide (y.2 = .cell) && (!decide (y.2 = .local) || decide (y.1 ∈ ps)) && (!decide (y.2 = .free) || decide (sc.names.lookup y.1 = some .cell) || decide (sc.names.lookup y.1 = some .free))) && ((ps.all fun p => decide (scope.names.lookup p = some .local)) && (decide ps.Nodup && (ps.all fun p => decide (p ∉ N)))))))
theorem lamSP_by {sc scope : Scope} {N ps : List Str} (h : lamSPB sc scope N ps = true) : LamSP sc scope N ps := by
  unfold lamSPB at h
  simp only [Bool.and_eq_true, Bool.or_eq_true, Bool.not_eq_true', decide_eq_true_eq, decide_eq_false_iff_not, List.all_eq_true] at h
  obtain ⟨h1, h2, h3, h4, h5, h6, h7⟩ := h
  refine ⟨h1, h2, h3, fun y hy => ⟨(h4 y hy).1.1, fun e => ?_⟩, h5, h6, h7, fun y hy e => ?_⟩
  · rcases (h4 y hy).1.2 with z | z
    · exact absurd e z
    · exact z
  · rcases (h4 y hy).2 with (z | z) | z
    · exact absurd e z
    · exact .inl z
    · exact .inr z
theorem LamSP.has {X : Cx} {scope : Scope} {N ps : List Str} (L : LamSP X.env.scope scope N ps) (ok : X.Ok) : ∀ y ∈ scope.names, y.2 = .free → ∃ c, X.env.cells.lookup y.1 = some c := fun y hy e => by
  rcases L.free y hy e with k | k
  · exact ok.has _ (.inl k)
  · exact ok.has _ (.inr k)
def lamCxP (X : Cx) (A : Around) (outer : List PySem.Env) (s : Shared) (H : Hp) (E : XK) (scope : Scope) (f c' : Addr) (ps : List Str) : Cx :=
  { LamX.lamCx X A outer s H E scope f c' with N := X.N ++ ps }
theorem Un.trans' {fs fs' ex : List Addr} {H H1 H2 : Hp} {h h1 h2 : Heap} (a : Un fs ex H H1 h h1) (b : Un fs' ex H1 H2 h1 h2) (hf : ∀ c ∈ fs', c ∈ fs ∨ h.objs.size ≤ c) : Un fs ex H H2 h h2 where
  keep := fun c ob q n hc hx => b.keep c ob (a.keep c ob q n hc hx) (a.free c ob q n hx) (fun z => (hf c z).elim hc fun w => absurd (Heap.lt_size q) (Nat.not_lt.mpr w)) hx
  slot := fun c ob q n hc hx => by
    obtain ⟨sl, e1⟩ := a.slot c ob q n hc hx
    by_cases hz : c ∈ fs'
    · obtain ⟨sl', e2⟩ := b.slot c _ e1 (a.free c ob q n hx) hz hx
      exact ⟨sl', e2⟩
    · exact ⟨sl, b.keep c _ e1 (a.free c ob q n hx) hz hx⟩
  free := fun c ob q n hx => by
    obtain ⟨o', e1⟩ := a.there c ob q hx
    exact b.free c o' e1 (a.free c ob q n hx) hx
  there := fun c ob q hx => by
    obtain ⟨o', e1⟩ := a.there c ob q hx
    exact b.there c o' e1 hx
  tups := fun c xs q => b.tups c xs (a.tups c xs q)
  frzs := fun c ob xs q => b.frzs c ob xs (a.frzs c ob xs q)
  tbls := fun c ps q => by
    obtain ⟨m1, e1⟩ := a.tbls c ps q
    obtain ⟨m2, e2⟩ := b.tbls c _ e1
    exact ⟨m1 ++ m2, by rw [e2, Array.append_assoc]⟩
section
variable {X : Cx} {pins : List (Addr × Obj)} {σ : L2.St} {H HZ : Hp} {s s1 : Shared}
theorem lam_startP {A : Around} {outer : List PySem.Env} {E : XK} {scope : Scope} {f c' : Addr} {h₁ : Heap} {tk : Nat} {ps : List Str} {us : List Value} {vs : List V} (I : Inv X pins σ H s) (L : LamSP X.env.scope scope X.N ps) (hl : vs.length = ps.length) (rv : Vals vs us) (e0 : Env0 X.prog X.w X.K X.mg X.base A outer s1 HZ) (hd : A.handled = none)
    (un : Un (frs X.stack) [] H HZ s.heap s1.heap) (hns : h₁.Ns s1.heap.objs.size fun y => (ps.zip us).reverse.lookup y) (kp : ∀ b o, s1.heap.get? b = some o → h₁.get? b = some o) :
    Inv (lamCxP X A outer s1 HZ E scope f c' ps) [] (σ ++ vs.map some) HZ { s1 with heap := h₁, toks := tk } := by
  have hfree := L.has I.ok
  have cm : ∀ {y c}, (cloFrom X.env.cells scope.names []).lookup y = some c → X.env.cells.lookup y = some c := fun {y c} e => by
    rcases cloFrom_mem (PySem.mem_of_lookup e) with hm | ⟨h1, h2⟩
    · cases hm
    · obtain ⟨c1, hc⟩ := hfree _ h1 rfl
      have hc : X.env.cells.lookup y = some c1 := hc
      have e2 : c = c1 := by
        rw [h2, hc] <;> rfl
      rw [e2]
      exact hc
  have look : ∀ {y}, scope.names.lookup y = some .free → ∃ c, (cloFrom X.env.cells scope.names []).lookup y = some c := fun {y} hl => by
    have hy : (y, NameKind.free) ∈ scope.names := PySem.mem_of_lookup hl
    exact mem_lookup (cloFrom_has (cells := X.env.cells) (acc := []) hy)
  have cellK : ∀ {c : Addr} {v : Option Value}, H c = none → s.heap.IsCell c v → h₁.IsCell c v := fun {c v} n ⟨o, ho, hd⟩ => by
    obtain ⟨sl, q⟩ := un.any ho n (by simp)
    exact ⟨_, kp _ _ q, hd⟩
  have noA : ∀ b : Addr, b ∉ (lamCxP X A outer s1 HZ E scope f c' ps).ex := fun b z => absurd (show b ∈ ([] : List Addr) from z) (by simp)
  refine ⟨⟨e0.mod, L.kind, rfl, rfl, Nat.le_refl _, fun y z c e1 e2 => I.ok.inj y z c (cm e1) (cm e2), fun y hy => ?_, fun y c z _ => ?_, fun _ => hd, Around.frames_deeper e0.frames, .inr ⟨rfl, rfl⟩, fun b z => absurd z (noA b), e0.bs, e0.bsz, fun b _ _ => noA b,
      fun b z => absurd z (noA b), e0.funs, e0.frf⟩,
    rfl, e0.bare, Un.kept kp, ⟨_, hns, fun i y v e1 e2 e3 => ?_⟩, fun y c e => ?_, e0.hok.fresh (Nat.le_refl _), fun y c e => ?_, fun q hq => absurd (show q ∈ ([] : List (Addr × Obj)) ++ [] from hq) (by simp), e0.hok.kept kp, ?_⟩
  · have hy : scope.names.lookup y = some .cell ∨ scope.names.lookup y = some .free := hy
    rcases hy with hy | hy
    · exact absurd rfl (L.own _ (PySem.mem_of_lookup hy)).1
    · exact look hy
  · have z : false = true := z
    cases z
  · have e3 : Vis scope y := e3
    have e1 : (X.N ++ ps)[i]? = some y := e1
    by_cases hi : i < X.N.length
    · rw [List.getElem?_append_left hi] at e1
      rw [List.getElem?_append_left (by rw [I.len]; exact hi)] at e2
      rcases e3 with k | k | k
      · exact absurd (List.mem_of_getElem? e1) (L.dis _ ((L.own _ (PySem.mem_of_lookup k)).2 rfl))
      · exact absurd rfl (L.own _ (PySem.mem_of_lookup k)).1
      · obtain ⟨m, hn, hl⟩ := I.loc
        have hvis : Vis X.env.scope y := (L.free _ (PySem.mem_of_lookup k) rfl).elim (fun k => .inr (.inl k)) (fun k => .inr (.inr k))
        obtain ⟨w', r, q⟩ := hl i y v e1 e2 hvis
        obtain ⟨c2, h2⟩ := look k
        refine ⟨w', r, .inr ⟨.inr k, c2, h2, ?_⟩⟩
        have c1 := cm h2
        rcases q with ⟨k', _⟩ | ⟨_, c3, e', z⟩
        · have k' : X.env.scope.names.lookup y = some .local := k'
          rcases L.free _ (PySem.mem_of_lookup k) rfl with k2 | k2 <;> rw [show X.env.scope.names.lookup y = _ from k2] at k' <;> cases k'
        · rw [c1] at e'
          cases e'
          exact cellK (I.freeC y _ c1) z
    · have hi : X.N.length ≤ i := by omega
      rw [List.getElem?_append_right hi] at e1
      rw [List.getElem?_append_right (by rw [I.len]; exact hi), I.len, List.getElem?_map] at e2
      cases hv : vs[i - X.N.length]? with
      | none => rw [hv] at e2; cases e2
      | some v' =>
        rw [hv] at e2
        cases e2
        obtain ⟨u, hu, r⟩ := rv.get hv
        exact ⟨u, r, .inl ⟨L.par _ (List.mem_of_getElem? e1), NdefX.zip_look L.nd e1 hu⟩⟩
  · obtain ⟨w', z⟩ := I.cell y c (cm e)
    exact ⟨w', cellK (I.freeC y c (cm e)) z⟩
  · obtain ⟨v, o, ho, hd⟩ := I.cell y c (cm e)
    exact un.free c o ho (I.freeC y c (cm e)) (by simp)
  · show (σ ++ vs.map some).length = (X.N ++ ps).length
    rw [List.length_append, List.length_append, I.len, List.length_map, hl]
end
section
variable {X : Cx} {T : List (Addr × Str)} {c Pt : Addr} {q : Lam} {pos : Pos}
theorem pe_lamP0 (TB : LamX.TabB X.base X.mg c Pt) (hcode : X.env.code = .ref c) (hmT : (Pt, lamN X.env.qual) ∈ T) (hu : ∀ p ∈ T, p.1 = Pt → p.2 = lamN X.env.qual) (free0 : ∀ (ok : X.Ok), ∀ y ∈ q.scope.names, y.2 = .free → ∃ c, X.env.cells.lookup y.1 = some c) (hdef : defaultsOf q.params X.env = ([], [])) :
    PE X (.Lambda q.params q.body q.scope pos) (tMk T X.env.qual X.env.cells q) := by
  refine ⟨fun pins s σ H Q I h => ?_⟩
  obtain ⟨tabs0, told⟩ := h
  obtain ⟨ps, tP, tt, ta⟩ := tabs0 _ hmT
  have free0 := free0 I.ok
  have kb : s.heap.BuiltinsAt X.mg Pt := TB.bm.keeps I.bk
  have kP := I.hok Pt _ tP
  have fin : ∀ (h' : Heap) (t0 tk : Nat) (c' : Addr) (pm ctv : Value) (H1 : Hp), Inv X pins σ H1 { s with heap := h', toks := t0 } → LamX.ExtN H H1 → LamX.Tabs T H1 → H1 c' = some (LamX.CodeO c' (lamN X.env.qual)) →
      EP X pins σ Q (.ref h'.objs.size) { s with heap := h'.push (PySem.W.kla_obj "<lambda>" (X.env.qual ++ "<lambda>") q.params q.body q.scope (cloFrom X.env.cells q.scope.names []) pm c' ctv), toks := tk } := by
    intro h' t0 tk c' pm ctv H1 J eN t1 hc
    have nf : H1 h'.objs.size = none := J.hok.fresh (Nat.le_refl _)
    have J2 := J.laid (a := h'.objs.size) (o := LamO X.env.qual X.env.cells q h'.objs.size c') (t' := tk) (h' := h'.push (PySem.W.kla_obj "<lambda>" (X.env.qual ++ "<lambda>") q.params q.body q.scope (cloFrom X.env.cells q.scope.names []) pm c' ctv))
      (fun b o e => Heap.get?_push_of_some _ e) (Nat.le_refl _) ⟨⟨pm, ctv, Heap.get?_push_size _ rfl⟩, ⟨_, Heap.get?_push_size _ rfl⟩, fun h1 h2 ⟨p1, p2, e⟩ k => ⟨p1, p2, k _ e⟩⟩
    have ex : ∀ b o, H1 b = some o → upd H1 h'.objs.size (LamO X.env.qual X.env.cells q h'.objs.size c') b = some o := fun b o e => by rw [upd_ne (ne_of_none e nf)]; exact e
    exact ⟨.ref h'.objs.size, _, J2, rfl, told _ c' _ (eN.trans (LamX.ExtN.of ex)) (t1.ext ex) upd_same (ex _ _ hc)⟩
  refine PySem.W.kla_eval hdef ?_
  cases hc : codeAmong pos ps.toList with
  | some cv =>
    obtain ⟨c', rfl, hco⟩ := ta pos cv hc
    refine PySem.W.kla_makeFunctionHit (mg := X.mg) (c := c) (P := Pt) (ps := ps) (closure_ok free0) I.ok.glob (I.mod.glob.keeps I.bk) hcode (TB.code.keeps I.bk) kP tt hc kb ?_
    intro ctv h' tk kx ksz
    exact fin h' s.toks tk c' _ ctv H (I.kept kx) (LamX.ExtN.refl H) tabs0 hco
  | none =>
    refine PySem.W.kla_makeFunction (mg := X.mg) (c := c) (P := Pt) (ps := ps) (closure_ok free0) I.ok.glob (I.mod.glob.keeps I.bk) hcode (TB.code.keeps I.bk) kP tt hc TB.gP kb ?_
    intro c' ctv h' tk kx kge klt rec0 tb0
    obtain ⟨c2, oc, vs, t, e2, hoc, hd, hv⟩ := rec0
    cases e2
    have nC : H c' = none := I.hok.fresh kge
    have J := LamX.inv_table (t' := s.toks) (q := lamN X.env.qual) (more := #[rawInt pos.line, rawInt pos.col, .ref c']) (h' := h') I tP (fun b o hb e => kx b o hb e) tb0 kge ⟨oc, vs, t, hoc, hd, hv⟩
    have eN : LamX.ExtN H (upd (upd H Pt (.tbl (ps ++ #[rawInt pos.line, rawInt pos.col, .ref c']))) c' (LamX.CodeO c' (lamN X.env.qual))) := by
      intro b o e n
      have n1 : b ≠ c' := ne_of_none e nC
      have n2 : b ≠ Pt := fun z => by
        subst z
        rw [tP] at e
        exact n ps (Option.some.inj e).symm
      rw [upd_ne n1, upd_ne n2, e]
    have eL : (ps ++ #[rawInt pos.line, rawInt pos.col, Value.ref c']).toList = ps.toList ++ [rawInt pos.line, rawInt pos.col, .ref c'] := by simp
    refine fin h' s.toks tk c' _ ctv _ J eN (fun p hp => ?_) upd_same
    by_cases hb : p.1 = Pt
    · refine ⟨ps ++ #[rawInt pos.line, rawInt pos.col, .ref c'], ?_, ?_, fun p' cv hcv => ?_⟩
      · rw [hb, upd_ne (ne_of_none tP nC), upd_same]
      · rw [eL]; exact PySem.TriplesOk_snoc _ _ _ _ tt
      · rw [eL] at hcv
        rw [hu p hp hb]
        rcases LamX.among_app _ tt hcv with z | z
        · obtain ⟨c0, e1, e2⟩ := ta p' cv z
          exact ⟨c0, e1, eN _ _ e2 LamX.codeO_ne⟩
        · exact ⟨c', z, upd_same⟩
    · obtain ⟨ps', a1, a2, a3⟩ := tabs0 p hp
      refine ⟨ps', ?_, a2, fun p' cv hcv => ?_⟩
      · rw [upd_ne (ne_of_none a1 nC), upd_ne hb, a1]
      · obtain ⟨c0, e1, e2⟩ := a3 p' cv hcv
        exact ⟨c0, e1, eN _ _ e2 LamX.codeO_ne⟩
theorem pe_lamP {params : Arguments} {bd : Expr} {scope : Scope} {N ps : List Str} (TB : LamX.TabB X.base X.mg c Pt) (hcode : X.env.code = .ref c) (hmT : (Pt, lamN X.env.qual) ∈ T) (hu : ∀ p ∈ T, p.1 = Pt → p.2 = lamN X.env.qual) (L : LamSP X.env.scope scope N ps) (hdef : defaultsOf params X.env = ([], [])) :
    PE X (.Lambda params bd scope pos) (tMk T X.env.qual X.env.cells ⟨params, bd, scope⟩) := pe_lamP0 (q := ⟨params, bd, scope⟩) TB hcode hmT hu (fun ok => L.has ok) hdef
end
section
variable {X : Cx} {pins : List (Addr × Obj)} {σ : L2.St} {H H1 : Hp} {s s1 : Shared} {q : Lam}
def tActP (σ : L2.St) (i m : Nat) (qual : Str) (cells : List (Str × Addr)) (q : Lam) (f c' : Addr) (t : TA) (tb : TE) : TE := fun σZ HZ Q => σZ[i]? = some (some (.ref f)) ∧ HZ f = some (LamO qual cells q f c') ∧ t σZ HZ fun vs H2 => vs.length = m ∧ H2 f = some (LamO qual cells q f c') ∧ H2 c' = some (LamX.CodeO c' (lamN qual)) ∧ tb (σ ++ vs.map some) H2 Q
theorem pe_actP {A0 : Around} {outer0 : List PySem.Env} {E : XK} {scope0 : Scope} {f0 c0 f c' : Addr} {k i : Nat} {a : Str} {ps : List Str} {e1 : Expr} {es : List Expr} {t : TA} {tb : TE} {p1 p2 : Pos}
    (I : Inv X pins σ H s) (un : Un (frs X.stack) [] H H1 s.heap s1.heap) (hout : ∀ b ∈ frs outer0, b ∈ frs X.stack ∨ s.heap.objs.size ≤ b) (L : LamSP X.env.scope q.scope X.N ps)
    (hbind : ∀ (qq : Str) (cl : List (Str × Addr)) (pm cv ctv : Value) (us : List Value), us.length = ps.length → bindArgs (PySem.W.kla_fn "<lambda>" qq q.params q.body q.scope cl pm cv ctv) ⟨us, []⟩ = pure (ps.zip us))
    (hr : Room (k + 1) (A0.deeper (LamX.lamEnv X scope0 s1.heap.objs.size f0 c0)))
    (hbody : ∀ (A : Around) (outer : List PySem.Env) (s : Shared) (H : Hp), Room k (A.deeper (LamX.lamEnv X q.scope s.heap.objs.size f c')) → PE (lamCxP X A outer s H E q.scope f c' ps) q.body tb)
    (hN : X.N[i]? = some a) (hv : Vis scope0 a) (ha : PA (LamX.lamCx X A0 outer0 s1 H1 E scope0 f0 c0) (e1 :: es) t) (hd : (a == ("__debug__" : Str)) = false := by decide) (hcd : (a == ("__classdict__" : Str)) = false := by decide)
    (he : starEach (e1 :: es) (LamX.lamCx X A0 outer0 s1 H1 E scope0 f0 c0).env = (false, eval e1 (LamX.lamCx X A0 outer0 s1 H1 E scope0 f0 c0).env) :: starEach es (LamX.lamCx X A0 outer0 s1 H1 E scope0 f0 c0).env := by rfl) (hpl : (backTo p2 (starEach es (LamX.lamCx X A0 outer0 s1 H1 E scope0 f0 c0).env)).any (·.1) = false := by rfl) :
    PE (LamX.lamCx X A0 outer0 s1 H1 E scope0 f0 c0) (.Call (.Name a p1) (e1 :: es) [] p2) (tActP σ i ps.length X.env.qual X.env.cells q f c' t tb) := by
  refine ⟨fun pinsZ sZ σZ HZ Q IZ h => ?_⟩
  obtain ⟨hs, hf0, ht⟩ := h
  have var := (pe_var (X := LamX.lamCx X A0 outer0 s1 H1 E scope0 f0 c0) (pos := p1) (i := i) hN hv hd hcd).run pinsZ sZ σZ HZ (fun v H1 => v = .ref f ∧ H1 = HZ) IZ ⟨.ref f, hs, rfl, rfl⟩
  refine wpAny_Call_Name_kw (thn var ?_)
  rintro u s2 ⟨v, H2, I2, r1, rfl, rfl⟩
  have r1 : u = Value.ref f := r1
  subst r1
  obtain ⟨⟨pm0, ctv0, of0⟩, _, _⟩ := I2.hok f _ hf0
  refine PySem.W.callWith_F (first := []) ⟨_, _, _, _, of0⟩ ?_ he hpl
  refine thn (ha.run p2 pinsZ s2 σZ _ _ I2 ht) ?_
  rintro us s3 ⟨vs, H3, I3, rv, hl, hf, hc, hq⟩
  obtain ⟨⟨pm, ctv, of1⟩, _, _⟩ := I3.hok f _ hf
  obtain ⟨⟨oc, vv, tt, hoc, hdc, hvc⟩, _, _⟩ := I3.hok c' _ hc
  refine ⟨⟨_, _, _, _, of1⟩, ?_⟩
  rw [List.nil_append]
  have hlu : us.length = ps.length := by rw [← rv.length]; exact hl
  have un' : Un (frs X.stack) [] H H3 s.heap s3.heap := Un.trans' un I3.base hout
  have rc : codeAny (model X.prog X.w) (A0.deeper (LamX.lamEnv X scope0 s1.heap.objs.size f0 c0)) (.call (.ref f) ⟨us, []⟩) (CR (L2.CX X.prog X.w) (LamX.lamEnv X scope0 s1.heap.objs.size f0 c0 :: outer0) X.prog X.w H3 s3 Q E) s3 := by
    refine PySem.W.kla_callFunE hr.depth of1 rfl L.co L.gen rfl ⟨c', oc, vv, tt, rfl, hoc, hdc, hvc⟩ ?_
    rw [hbind _ _ _ _ _ us hlu]
    refine wpAny_pure (wpAny_newFunctionEnv (fun y hy => (L.own y hy).1) (fun y hy => L.par _ (List.of_mem_zip hy).1) (fun h₁ hns hsb => ?_) L.kind)
    refine ⟨I3.nolimit.fresh _ hsb, ?_⟩
    show codeAny _ _ (.expr q.body (LamX.lamEnv X q.scope s3.heap.objs.size f c')) _ _
    have kp : ∀ b o, s3.heap.get? b = some o → h₁.get? b = some o := fun b o e =>
      hsb.extBut b o (Nat.ne_of_lt (Heap.lt_size e)) (Heap.get?_push_of_some _ e)
    have J := lam_startP (E := E) (f := f) (c' := c') (tk := s3.toks + (ps.zip us).length) I L hl rv I3.env0 hr.hd un' hns kp
    refine PySem.W.kla_codeExpr (wpAny_mono ((hbody _ _ s3 H3 (hr.deeper _)).run [] _ _ H3 Q J hq) ?_ fun e s' hq => hq)
    rintro v s' ⟨w', H', J', rv, qq⟩
    exact ⟨w', H', J'.os, J'.bare, J'.base, J'.hok, rv, qq⟩
  have hx : Passes (L2.CX X.prog X.w) (LamX.lamCx X A0 outer0 s1 H1 E scope0 f0 c0) E := passes_call (takes_of rfl rfl rfl rfl) fun _ _ _ _ h => h
  refine wpAny_call (codeAny_mono rc ?_)
  intro r s' hq
  match r, hq with
  | .error e, hq => exact hx pinsZ σZ H3 s3 e s' I3 hq
  | .ok (.ret u), hq => exact I3.after hq
  | .ok .next, hq => exact False.elim hq
  | .ok .brk, hq => exact False.elim hq
  | .ok .cont, hq => exact False.elim hq
end
section
open LamX
variable {X : Cx} {pins : List (Addr × Obj)} {σ : L2.St} {H HZ : Hp} {s s1 : Shared}
theorem pe_actI {CXg : CXT} {Eg : XK} {Ng : List Str} {qg : Str} {sg : Scope} {g f c' : Addr} {cdg pm ctv : Value} {params : Arguments} {body : Expr} {scope : Scope} {k i : Nat} {a : Str} {pn : List (Addr × Obj)} {xe : Value → Shared → Prop} {W : WX} {E : XK} {tb : TE} {p1 p2 : Pos}
    (I : Inv X pins σ H s) (L : LamS X.env.scope scope) (hf : s.heap.get? f = some (PySem.W.kla_obj "<lambda>" (X.env.qual ++ "<lambda>") params body scope (cloFrom X.env.cells scope.names []) pm c' ctv)) (hfn : H f = none) (hfr : f ∉ frs X.stack)
    (hbind : bindArgs (PySem.W.kla_fn "<lambda>" (X.env.qual ++ "<lambda>") params body scope (cloFrom X.env.cells scope.names []) pm (.ref c') ctv) ⟨[], []⟩ = pure [])
    (tk : Takes ((cxOf CXg X.prog X.w X.K X.mg X.base Ng qg sg g cdg X.A X.stack s H Eg).tr pn xe) W) (hW : ∀ cls d σ' H', E cls d H' → W cls d σ' H') (hr : Room (k + 1) (X.A.deeper (envOfC qg sg s.heap.objs.size g cdg)))
    (hbody : ∀ (A : Around) (outer : List PySem.Env) (s1 : Shared) (H1 : Hp), Un (frs X.stack) [] H H1 s.heap s1.heap → (∀ b ∈ frs outer, b ∈ frs X.stack ∨ s.heap.objs.size ≤ b) → Room k (A.deeper (lamEnv X scope s1.heap.objs.size f c')) → PE (lamCx X A outer s1 H1 E scope f c') body (fun σZ HZ Q => σZ = σ ∧ tb σZ HZ Q))
    (hN : Ng[i]? = some a) (hv : Vis sg a) (hd : (a == ("__debug__" : Str)) = false := by decide) (hcd : (a == ("__classdict__" : Str)) = false := by decide) :
    PE ((cxOf CXg X.prog X.w X.K X.mg X.base Ng qg sg g cdg X.A X.stack s H Eg).tr pn xe) (.Call (.Name a p1) [] [] p2)
      (fun σZ HZ Q => σZ[i]? = some (some (.ref f)) ∧ HZ c' = some (CodeO c' (X.env.qual ++ "<lambda>")) ∧ tb σ HZ Q) := by
  refine ⟨fun pinsZ sZ σZ HZ Q IZ h => ?_⟩
  obtain ⟨hs, hc, ht⟩ := h
  refine wpAny_Call_Name_kw (thn ((pe_var (pos := p1) (i := i) hN hv hd hcd).run pinsZ sZ σZ HZ (fun v H1 => v = .ref f ∧ H1 = HZ) IZ ⟨.ref f, hs, rfl, rfl⟩) fun u s1 ⟨v, H1, I1, r1, q1⟩ => ?_)
  obtain ⟨ev, eH⟩ := q1
  subst ev
  rw [eH] at I1
  obtain rfl : u = Value.ref f := r1
  have of1 : s1.heap.get? f = some (PySem.W.kla_obj "<lambda>" (X.env.qual ++ "<lambda>") params body scope (cloFrom X.env.cells scope.names []) pm c' ctv) := I1.base.keep f _ hf hfn hfr (fun z => nomatch (show f ∈ ([] : List Addr) from z))
  refine PySem.W.callWith_F0 ⟨_, _, _, _, of1⟩ ?_
  have un : Un (frs X.stack) [] H HZ s.heap s1.heap := I1.base
  obtain ⟨⟨oc, vs, t, hoc, hdc, hvc⟩, _, _⟩ := I1.hok c' _ hc
  have hout : ∀ b ∈ frs (envOfC qg sg s.heap.objs.size g cdg :: X.stack), b ∈ frs X.stack ∨ s.heap.objs.size ≤ b := fun b hb => by
    unfold frs at hb
    rw [List.filterMap_cons] at hb
    have hz : (envOfC qg sg s.heap.objs.size g cdg).frame = some s.heap.objs.size := rfl
    rw [hz] at hb
    rcases List.mem_cons.mp hb with rfl | hb
    · exact .inr (Nat.le_refl _)
    · exact .inl hb
  have rc : codeAny (model X.prog X.w) (X.A.deeper (envOfC qg sg s.heap.objs.size g cdg)) (.call (.ref f) ⟨[], []⟩) (CR (L2.CX X.prog X.w) (envOfC qg sg s.heap.objs.size g cdg :: X.stack) X.prog X.w HZ s1 Q E) s1 := by
    refine PySem.W.kla_callFunE hr.depth of1 rfl L.co L.gen rfl ⟨c', oc, vs, t, rfl, hoc, hdc, hvc⟩ ?_
    rw [hbind]
    refine wpAny_pure (wpAny_newFunctionEnv (fun y hy => (L.own y hy).2) (fun y hy => absurd hy (by simp)) (fun h₁ hns hsb => ⟨I1.nolimit.fresh _ hsb, ?_⟩) L.kind)
    show codeAny _ _ (.expr body (lamEnv X scope s1.heap.objs.size f c')) _ _
    have kp : ∀ b o, s1.heap.get? b = some o → h₁.get? b = some o := fun b o e => hsb.extBut b o (Nat.ne_of_lt (Heap.lt_size e)) (Heap.get?_push_of_some _ e)
    have J : Inv (lamCx X (X.A.deeper (envOfC qg sg s.heap.objs.size g cdg)) (envOfC qg sg s.heap.objs.size g cdg :: X.stack) s1 HZ E scope f c') [] σ HZ { s1 with heap := h₁, toks := s1.toks + ([] : List (Str × Value)).length } :=
      lam_start2 I L I1.env0 hr.hd un hns kp
    refine PySem.W.kla_codeExpr (wpAny_mono ((hbody _ _ s1 HZ un hout (hr.deeper _)).run [] _ _ HZ Q J ⟨rfl, ht⟩) (fun v s' hq => ?_) fun e s' hq => hq)
    obtain ⟨w', H', J', rv, q⟩ := hq
    exact ⟨w', H', J'.os, J'.bare, J'.base, J'.hok, rv, q⟩
  have hx : Passes (L2.CX X.prog X.w) ((cxOf CXg X.prog X.w X.K X.mg X.base Ng qg sg g cdg X.A X.stack s H Eg).tr pn xe) E := passes_call tk hW
  refine wpAny_call (codeAny_mono rc fun r s' hq => ?_)
  cases r with
  | error e => exact hx pinsZ σZ HZ s1 e s' I1 hq
  | ok fl =>
    cases fl with
    | ret u => exact I1.after hq
    | next => exact False.elim hq
    | brk => exact False.elim hq
    | cont => exact False.elim hq
end
section
open LamX
variable {X : Cx}
theorem pe_caughtI {T : List (Addr × Str)} {TT : (XK → Hp → VK → Prop) → Hp → VK → Prop} {x a : Str} {g c Pt : Addr} {fd : FuncData} {st : Stmt} {Ng : List Str} {k : Nat} {params : Arguments} {body : Expr} {scope : Scope} {t : XK → TE} {p lpos pos : Pos}
    (F : Fun X.K x x st g fd) (hg : Gl X x) (hm : X.mg x = some (.ref g)) (Sg : FnScope Ng [a] (defScope st)) (hNg : Ng[0]? = some a) (hva : Vis (defScope st) a) (hb : L2.Binds X.K fd [a] [])
    (hG : ∀ cdv, GivesTo X Ng x (defScope st) g cdv (defBody st) a (X.env.qual ++ "<lambda>") TT)
    (TB : TabB X.base X.mg c Pt) (hcode : X.env.code = .ref c) (hmT : (Pt, X.env.qual ++ "<lambda>") ∈ T) (hu : ∀ p ∈ T, p.1 = Pt → p.2 = X.env.qual ++ "<lambda>") (hr : Room (k + 2) X.A) (L : LamS X.env.scope scope) (hdef : defaultsOf params X.env = ([], []))
    (hbind : ∀ (q : Str) (cl : List (Str × Addr)) (pm cv ctv : Value), bindArgs (PySem.W.kla_fn "<lambda>" q params body scope cl pm cv ctv) ⟨[], []⟩ = pure [])
    (hbody : ∀ (pins : List (Addr × Obj)) (σ : L2.St) (H : Hp) (s : Shared), Inv X pins σ H s → ∀ (A : Around) (outer : List PySem.Env) (s1 : Shared) (H1 : Hp) (E : XK) (f c' : Addr), Un (frs X.stack) [] H H1 s.heap s1.heap → (∀ b ∈ frs outer, b ∈ frs X.stack ∨ s.heap.objs.size ≤ b) → Room k (A.deeper (lamEnv X scope s1.heap.objs.size f c')) → PE (lamCx X A outer s1 H1 E scope f c') body (fun σZ HZ Q => σZ = σ ∧ t E σZ HZ Q))
    (hdb : (x == ("__debug__" : Str)) = false := by decide) (hd : (a == ("__debug__" : Str)) = false := by decide) (hcd : (a == ("__classdict__" : Str)) = false := by decide) :
    PE X (.Call (.Name x p) [.Lambda params body scope lpos] [] pos) (tLam T TT t) := by
  have hk := F.kp
  obtain ⟨oc, od, kV, doc, pm, an, cdv, ct, osl, rfl, lk, hcg⟩ := F.ex
  refine ⟨fun pins s σ H Q I h => ?_⟩
  obtain ⟨hT, h⟩ := h
  refine wpAny_Call_Name_kw (ld_glob I hg hm ?_ hdb)
  refine PySem.W.callWith_K (h₀ := X.base) I.ok.mod.kin hk ?_ (by rfl) (by rfl)
  show wpAny _ _ (spliced ((false, eval (.Lambda params body scope lpos) X.env) :: backTo pos (starEach [] X.env))) _ _ s
  refine Calls.spliced_cons (lam_make2 I TB hcode hmT hu hT hdef (L.has I.ok) fun f c' pm' ctv H1 s' I1 eN T1 hf hfn hfr hco => ?_)
  refine Calls.spliced_nil ⟨I1.kIn, ?_⟩
  have rc : codeAny (model X.prog X.w) X.A (.call (.ref g) ⟨[.ref f], []⟩) (CR C8.CX0 X.stack X.prog X.w H1 s' Q C8.E0) s' := by
    refine run_ofS (N := Ng) (ps := [a]) (us := [.ref f]) (vs := [.ref f]) lk hcg Sg hr I1.env0 (hb s' [.ref f] I1.kIn rfl) (.cons rfl .nil) rfl fun hr' => ?_
    obtain ⟨t', ht', hq'⟩ := hG cdv f c' s' H1 Q (fun E H' Q' => t E σ H' Q') (fun W pn xe E p1 p2 tk hW => pe_actI (i := 0) (tb := t E) I1 L hf hfn hfr (hbind _ _ _ _ _) tk hW hr' (fun A outer s1 H1' un ho hr2 => hbody pins σ H1 s' I1 A outer s1 H1' E f c' un ho hr2) hNg hva hd hcd) hco (h H1 eN T1)
    exact ⟨t', ht'.nox, hq'⟩
  refine wpAny_call (codeAny_mono rc fun r s2 hq => ?_)
  cases r with
  | error e => exact (show False from hq).elim
  | ok fl =>
    cases fl with
    | ret u => exact I1.after hq
    | next => exact False.elim hq
    | brk => exact False.elim hq
    | cont => exact False.elim hq
end
open Classical in
noncomputable def callWP (own : List Nat) (i m : Nat) (w : V) (ga : MA) (l : ME) : ME := fun env S => if env[i]? = some (some (.opq w)) ∧ own.all (fun j => decide (j < env.length)) = true then bindM (ga env S) fun ds S1 => (if ds.length = m then l (env ++ ds.map some) S1 else .bad) else .bad
theorem callWP_eq {own : List Nat} {i m : Nat} {w : V} {ga : MA} {l : ME} {env : Env} {S S1 : DS} {ds : List D} (h1 : env[i]? = some (some (.opq w))) (h2 : own.all (fun j => decide (j < env.length)) = true) (h3 : ga env S = .ok (ds, S1)) (h4 : ds.length = m) : callWP own i m w ga l env S = l (env ++ ds.map some) S1 := by
  unfold callWP
  rw [if_pos ⟨h1, h2⟩, h3]
  show (if ds.length = m then _ else _) = _
  rw [if_pos h4]
section
variable {b : Bc} {F0 O0 F O H : Hp} {σ : L2.St} {env : Env} {S : DS}
theorem Pre.args (P : Pre b F0 O0 F O H σ env S) {ds : List D} {vs : List V} (h : Dens b.c F ds vs) (ho : b.own.all (fun j => decide (j < env.length)) = true) : Pre b F0 O0 F O H (σ ++ vs.map some) (env ++ ds.map some) S := by
  have old : ∀ {j : Nat} {x : Option D}, j < env.length → (env ++ ds.map some)[j]? = some x → env[j]? = some x := fun hj e => by rwa [List.getElem?_append_left hj] at e
  have oldσ : ∀ {j : Nat}, j < env.length → (σ ++ vs.map some)[j]? = σ[j]? := fun hj => List.getElem?_append_left (by rw [P.len]; exact hj)
  have lt : ∀ j ∈ b.own, j < env.length := fun j hj => of_decide_eq_true (List.all_eq_true.mp ho j hj)
  refine ⟨P.fit, P.f0, P.o0, P.inv, fun j d e n => ?_, fun j d e n => ?_, fun j k a h1 h2 ⟨d, e1⟩ ⟨d', e2⟩ q1 q2 => ?_, ?_⟩
  · by_cases hj : j < env.length
    · obtain ⟨v, q1, q2⟩ := P.slot j d (old hj e) n
      exact ⟨v, by rw [oldσ hj]; exact q1, q2⟩
    · rw [List.getElem?_append_right (by omega), List.getElem?_map] at e
      cases hd : ds[j - env.length]? with
      | none => rw [hd] at e; cases e
      | some d' =>
        rw [hd] at e
        cases e
        obtain ⟨v, q1, q2⟩ := h.get' hd
        exact ⟨v, by rw [List.getElem?_append_right (by rw [P.len]; omega), P.len, List.getElem?_map, q1]; rfl, q2⟩
  · obtain ⟨a, q1, q2⟩ := P.slotO j d (old (lt j n) e) n
    exact ⟨a, by rw [oldσ (lt j n)]; exact q1, q2⟩
  · rw [oldσ (lt j h1)] at q1
    rw [oldσ (lt k h2)] at q2
    exact P.sep j k a h1 h2 ⟨d, old (lt j h1) e1⟩ ⟨d', old (lt k h2) e2⟩ q1 q2
  · rw [List.length_append, List.length_append, P.len, List.length_map, List.length_map, h.length]
end
section
variable {X Z : Cx} {b : Bc} {E : XK} {e : Expr} {l : ME} {ga : MA} {CS : Addr} {qual : Str} {cells : List (Str × Addr)} {q : Lam} {f c' : Addr} {i m : Nat} {σ : L2.St} {T : List (Addr × Str)}
theorem e_callWP (hi : b.own.contains i = false) (h : PE Z e (tActP σ i m qual cells q f c' (tA (bL b qual cells q f c') E ga) (tE (bL b qual cells q f c') E l))) :
    PE Z e (fun σZ HZ Q => σZ = σ ∧ tE (bL b qual cells q f c') E (callWP b.own i m (.ref f) ga l) σZ HZ Q) := PE.imp h fun σZ HZ Q hh => by
  obtain ⟨rfl, F0, O0, F, O, env, S, P, h⟩ := hh
  obtain ⟨fit, k1, k2⟩ := P.fit.ofL
  unfold callWP at h
  split at h
  · rename_i hz
    obtain ⟨v, hs, hv⟩ := P.slot i _ hz.1 (show i ∉ b.own by simpa using hi)
    have hv : v = .ref f := hv
    subst hv
    refine ⟨hs, fit.f _ _ k1, F0, O0, F, O, env, S, P, (Post.bind h).imp fun ds S1 F1 H1 s1 fit1 I1 k vs hvs => ?_⟩
    by_cases hm : ds.length = m
    · rw [if_pos hm] at k
      obtain ⟨fit1', _, _⟩ := fit1.ofL
      refine ⟨by rw [← hvs.length]; exact hm, fit1'.f _ _ (s1 _ _ k1), fit1'.f _ _ (s1 _ _ k2), F0, O0, F1, O, env ++ ds.map some, S1, (P.grow s1 fit1 I1).args hvs hz.2, k⟩
    · rw [if_neg hm] at k
      exact False.elim k
  · exact False.elim h
theorem e_caughtL (hc : b.c.K = X.K ∧ b.c.mg = X.mg) (hT : b.TP = tabT T b.c.l) (hs : b.stf = true) (known : List Str) (hkn : ∀ n ∈ known, ∀ C, X.mg n = some (.ref C) → PySem.W.exmOne X.K (.ref C) (.ref CS) = some true)
    (h : PE X e (LamX.tLam T (TTc X.K CS) fun E => tE (bL b qual cells q f c') E l)) : PE X e (tE (bL b qual cells q f c') E (caughtM known l)) := PE.imp h fun σ H Q ⟨F0, O0, F, O, env, S, P, h⟩ => by
  obtain ⟨fit0, k1, k2⟩ := P.fit.ofL
  refine ⟨tab_in fit0 hT hs, fun H1 eN T1 => ?_⟩
  obtain ⟨F1, s1, fit1⟩ := tab_out fit0 P.inv hT hs eN T1
  have P1 := P.grow s1 (fit1.toL (s1 _ _ k1) (s1 _ _ k2)) (P.inv.mono s1)
  refine ⟨F0, O0, F1, O, env, S, P1, ?_⟩
  revert h
  unfold caughtM
  cases l env S with
  | bad => exact fun h => h
  | ok p => obtain ⟨d, S'⟩ := p; exact fun h F' H' s fit I v _ => h F' H' (s1.trans s) fit I .non rfl
  | exc n fl fs S' =>
    intro h
    by_cases hk : known.contains n = true
    · simp only [if_pos hk] at h
      intro cls dd F' H' s fit I hx
      obtain ⟨C, us, e1, rfl, e3, e4⟩ := hx
      refine ⟨hkn n (by simpa using hk) C (by rw [← hc.2]; exact e1), fun a na => ?_⟩
      have nF := upd_none fit.f na
      have nt : NoTbl (ExO (.ref C) dd a) := fun ps z => by unfold ExO at z; cases z
      have sF := same_upd (o := ExO (.ref C) dd a) nF
      refine h (upd F' a (ExO (.ref C) dd a)) _ ((s1.trans s).trans sF) (fit.new na nt) (I.mono sF) _ ⟨a, C, dd, us, rfl, e1, upd_same, Dens.mono sF _ _ e3, ?_⟩
      cases us with
      | nil => exact e4
      | cons u r => obtain ⟨p, q1, q2⟩ := e4; exact ⟨p, q1, sF _ _ q2⟩
    · simp only [if_neg hk] at h
      exact False.elim h
end
def loopH (i : Nat) : List ((V → D) × (V → MS)) → List V → MS
  | g :: gs, w :: ws, env, S => match g.2 w (env.set i (some (g.1 w))) S with
    | .ok (.nx e2, S2) => loopH i gs ws e2 S2
    | .ok (.ct e2, S2) => loopH i gs ws e2 S2
    | .ok (.bk e2, S2) => .ok (.nx e2, S2)
    | r => r
  | _, _, env, S => .ok (.nx env, S)
open Classical in
noncomputable def forH (i : Nat) (gs : List ((V → D) × (V → MS))) : MS := fun env S =>
  if h : ∃ r, ∀ ws : List V, ws.length = gs.length → cleanR i (loopH i gs ws env S) = r then h.choose else .bad
theorem forH_eq {i : Nat} {gs : List ((V → D) × (V → MS))} {env : Env} {S : DS} {r : Res (Fl × DS)} (h : ∀ ws : List V, ws.length = gs.length → cleanR i (loopH i gs ws env S) = r) : forH i gs env S = r := by
  have hh : ∃ r, ∀ ws : List V, ws.length = gs.length → cleanR i (loopH i gs ws env S) = r := ⟨r, h⟩
  unfold forH
  rw [dif_pos hh]
  have a := hh.choose_spec (List.replicate gs.length .non) (by simp)
  have b := h (List.replicate gs.length .non) (by simp)
  rw [← a, b]
theorem forH_run {i : Nat} {gs : List ((V → D) × (V → MS))} {env : Env} {S : DS} (hne : forH i gs env S ≠ .bad) {ws : List V} (hw : ws.length = gs.length) : cleanR i (loopH i gs ws env S) = forH i gs env S := by
  unfold forH at hne ⊢
  by_cases hh : ∃ r, ∀ ws : List V, ws.length = gs.length → cleanR i (loopH i gs ws env S) = r
  · rw [dif_pos hh]
    exact hh.choose_spec ws hw
  · rw [dif_neg hh] at hne
    exact absurd rfl hne
inductive El where
  | df (n : Str) (a : Addr)
  | lm (q : Lam)
def elD : El → V → D
  | .df n _, _ => .cls n
  | .lm _, w => .opq w
def tEls (T : List (Addr × Str)) (qual : Str) (cells : List (Str × Addr)) : List El → TA
  | [] => tNil
  | .df _ a :: qs => tCons (tC (.ref a)) (tEls T qual cells qs)
  | .lm q :: qs => tCons (tMk T qual cells q) (tEls T qual cells qs)
def ElAt (qual : Str) (cells : List (Str × Addr)) (mg : Str → Option Value) (F : Hp) : El → Addr × Addr → Prop
  | .df n a, p => p.1 = a ∧ mg n = some (.ref a)
  | .lm q, p => F p.1 = some (LamO qual cells q p.1 p.2) ∧ F p.2 = some (LamX.CodeO p.2 (lamN qual))
def ElsAt (qual : Str) (cells : List (Str × Addr)) (mg : Str → Option Value) (F : Hp) : List El → List (Addr × Addr) → Prop
  | [], [] => True
  | q :: qs, p :: fs => ElAt qual cells mg F q p ∧ ElsAt qual cells mg F qs fs
  | _, _ => False
section
variable {b : Bc} {qual : Str} {cells : List (Str × Addr)} {mg : Str → Option Value} {T : List (Addr × Str)} {F F' O H : Hp} {σ : L2.St} {S : DS} {a : Addr} {u : HO}
theorem ElAt.mono (s : Same F F') : ∀ {q : El} {p : Addr × Addr}, ElAt qual cells mg F q p → ElAt qual cells mg F' q p
  | .df _ _, _, h => h
  | .lm _, _, h => ⟨s _ _ h.1, s _ _ h.2⟩
theorem ElsAt.mono (s : Same F F') : ∀ {qs : List El} {fs : List (Addr × Addr)}, ElsAt qual cells mg F qs fs → ElsAt qual cells mg F' qs fs
  | [], [], h => h
  | _ :: _, _ :: _, h => ⟨h.1.mono s, ElsAt.mono s h.2⟩
  | [], _ :: _, h => h
  | _ :: _, [], h => h
theorem ElsAt.len : ∀ {qs : List El} {fs : List (Addr × Addr)}, ElsAt qual cells mg F qs fs → fs.length = qs.length
  | [], [], _ => rfl
  | _ :: _, _ :: _, h => by simp [ElsAt.len h.2]
  | [], _ :: _, h => h.elim
  | _ :: _, [], h => h.elim
theorem ElsAt.drop : ∀ (j : Nat) {qs : List El} {fs : List (Addr × Addr)}, ElsAt qual cells mg F qs fs → ElsAt qual cells mg F (qs.drop j) (fs.drop j)
  | 0, _, _, h => h
  | _ + 1, [], [], h => h
  | j + 1, _ :: _, _ :: _, h => ElsAt.drop j h.2
  | _ + 1, [], _ :: _, h => h.elim
  | _ + 1, _ :: _, [], h => h.elim
theorem els_in (hT : b.TP = tabT T b.c.l) (hs : b.stf = true) : ∀ (qs : List El) {F H : Hp} {Q : List V → Hp → Prop}, (∀ n a, El.df n a ∈ qs → mg n = some (.ref a)) → FitB b F O S H → b.I S F →
    (∀ F1 H1 fs, Same F F1 → FitB b F1 O S H1 → ElsAt qual cells mg F1 qs fs → Q (fs.map fun p => V.ref p.1) H1) → tEls T qual cells qs σ H Q
  | [], F, H, Q, _, fit, _, k => k F H [] (Same.refl _) fit True.intro
  | .df n a :: qs, F, H, Q, hm, fit, I, k => by
    refine els_in hT hs qs (fun n a h => hm n a (List.mem_cons_of_mem _ h)) fit I fun F4 H4 fs s4 fit4 la => ?_
    exact k F4 H4 ((a, a) :: fs) s4 fit4 ⟨⟨rfl, hm n a List.mem_cons_self⟩, la⟩
  | .lm q :: qs, F, H, Q, hm, fit, I, k => by
    refine ⟨tab_in fit hT hs, fun f c' H1 eN T1 hf hc => ?_⟩
    obtain ⟨F1, s1, fit1⟩ := tab_out fit I hT hs eN T1
    obtain ⟨F2, s2, k2, fit2⟩ := fit_add fit1 hT hs hc code_ne_lst LamX.codeO_ne
    obtain ⟨F3, s3, k3, fit3⟩ := fit_add fit2 hT hs hf lamO_nl lamO_nt
    have s13 := s1.trans (s2.trans s3)
    exact els_in hT hs qs (fun n a h => hm n a (List.mem_cons_of_mem _ h)) fit3 (I.mono s13) fun F4 H4 fs s4 fit4 la => k F4 H4 ((f, c') :: fs) (s13.trans s4) fit4 ⟨⟨s4 _ _ k3, s4 _ _ (s3 _ _ k2)⟩, la⟩
end
section
variable {X : Cx} {b : Bc} {E : XK} {tg e : Expr} {es : List Expr} {body : List Stmt} {pos lp : Pos} {T : List (Addr × Str)} {i : Nat}
def BodH (X : Cx) (b : Bc) (E : XK) (body : List Stmt) : El × (V → MS) → Prop
  | (.df _ a, g) => PSs X body (tS b E (g (.ref a)))
  | (.lm q, g) => ∀ f c', PSs X body (tS (bL b X.env.qual X.env.cells q f c') E (g (.ref f)))
def TurnH (X : Cx) (b : Bc) (E : XK) : El × (V → MS) → TS
  | (.df _ a, g) => tS b E (g (.ref a))
  | (.lm q, g) => fun D σ H => ∃ f c', tS (bL b X.env.qual X.env.cells q f c') E (g (.ref f)) D σ H
theorem bodH_run : ∀ {p : El × (V → MS)}, BodH X b E body p → PSs X body (TurnH X b E p)
  | (.df _ a, g), h => h
  | (.lm q, g), h => ⟨fun pins s σ H D I ⟨f, c', k⟩ => (h f c').run pins s σ H D I k⟩
theorem s_forH {gs : List ((V → D) × (V → MS))} (ps : List (El × (V → MS))) (eg : ps.map (fun p => (elD p.1, p.2)) = gs) (hc : X.calm = true) (hmg : b.c.mg = X.mg) (hp : PassesOwn (model X.prog X.w) X.A X.env X.xe) (hT : b.TP = tabT T b.c.l) (hs : b.stf = true) (hes : PA X es (tEls T X.env.qual X.env.cells (ps.map (·.1)))) (hz : ps.length ≤ sizeLine)
    (hm : ∀ n a, El.df n a ∈ ps.map (·.1) → X.mg n = some (.ref a)) (hg : PG X tg (gName i)) (ho : b.own.contains i = false) (hb : ∀ p ∈ ps, BodH X b E body p)
    (hs2 : ∀ x, foldedSetIterable (.List es lp) X.env x = pure x := by intro _; rfl) : PS X (.For tg (.List es lp) body [] pos) (tS b E (forH i gs)) := by
  subst eg
  have hbody : PSs X body (fun D σ H => ∃ (p : El × (V → MS)), p ∈ ps ∧ TurnH X b E p D σ H) :=
    ⟨fun pins s σ H D I ⟨p, hm, k⟩ => (bodH_run (hb p hm)).run pins s σ H D I k⟩
  refine PS.imp (ps_for hp hc (pi_list (pe_lst hes)) hg hbody hs2) fun Dn σ H ⟨F0, O0, F, O, env, S, P, h⟩ => ?_
  have hne : forH i (ps.map fun p => (elD p.1, p.2)) env S ≠ .bad := fun z => by
    rw [z] at h; exact h
  refine els_in hT hs (ps.map (·.1)) hm P.fit P.inv fun F1 H1 fs s1 fit1 la => ?_
  have hlen : fs.length = ps.length := by rw [la.len, List.length_map]
  refine ⟨by rw [List.length_map, hlen]; exact hz, fun a na => ?_⟩
  have nF := upd_none fit1.f na
  have s2 := s1.trans (same_upd (o := HO.lst (fs.map fun p => V.ref p.1)) nF)
  have fit2 := fit1.new (u := HO.lst (fs.map fun p => V.ref p.1)) na
  have la2 := la.mono (same_upd (o := HO.lst (fs.map fun p => V.ref p.1)) nF)
  have lstA : upd F1 a (HO.lst (fs.map fun p => V.ref p.1)) a = some (.lst (fs.map fun p => V.ref p.1)) := upd_same
  generalize upd F1 a (HO.lst (fs.map fun p => V.ref p.1)) = F2 at s2 fit2 la2 lstA
  rw [← forH_run hne (ws := fs.map fun p => V.ref p.1) (by rw [List.length_map, List.length_map, hlen])] at h
  have h := PostS.base h (P.f0.trans s2) (Same.refl O0)
  refine ⟨a, rfl, ⟨_, SqL_of upd_same⟩, for_list (K := X.K) (a := a) (g := gName i) (D := Dn) (tb := fun D σ H => ∃ (p : El × (V → MS)), p ∈ ps ∧ TurnH X b E p D σ H) (xs := fs.map fun p => V.ref p.1) (fun j σ' H' => ∃ F' O' env' S', Pre b F2 O0 F' O' H' σ' env' S' ∧ PostS b E F2 O0 (cleanR i (loopH i ((ps.map fun p => (elD p.1, p.2)).drop j) ((fs.map fun p => V.ref p.1).drop j) env' S')) Dn) ?_ ?_ ?_ ?_⟩
  · have P2 := P.grow s2 fit2 (P.inv.mono s2)
    exact ⟨F2, O, env, S, ⟨P2.fit, Same.refl _, P2.o0, P2.inv, P2.slot, P2.slotO, P2.sep, P2.len⟩, h⟩
  · rintro j σ' H' _ ⟨F', O', env', S', P', _⟩
    exact SqL_of (P'.fit.f _ _ (P'.f0 _ _ lstA))
  · rintro j x σ' H' hx ⟨F', O', env', S', P', k⟩
    obtain ⟨hj, hx'⟩ := List.getElem?_eq_some_iff.mp hx
    have hjf : j < fs.length := by simpa using hj
    have hjp : j < ps.length := by omega
    have e1 : (ps.map fun p => (elD p.1, p.2)).drop j = (elD ps[j].1, ps[j].2) :: (ps.map fun p => (elD p.1, p.2)).drop (j + 1) := by
      rw [List.drop_eq_getElem_cons (by rw [List.length_map]; exact hjp), List.getElem_map]
    have e2 : (fs.map fun p => V.ref p.1).drop j = .ref fs[j].1 :: (fs.map fun p => V.ref p.1).drop (j + 1) := by
      rw [List.drop_eq_getElem_cons hj, List.getElem_map]
    have hx2 : x = .ref fs[j].1 := by rw [← hx', List.getElem_map]
    subst hx2
    have lj := la2.drop j
    rw [List.drop_eq_getElem_cons (by rw [List.length_map]; exact hjp), List.getElem_map, List.drop_eq_getElem_cons hjf] at lj
    obtain ⟨l12, _⟩ := lj
    rw [e1, e2] at k
    have mem : ps[j] ∈ ps := List.getElem_mem hjp
    have dv : Den b.c F' (elD ps[j].1 (.ref fs[j].1)) (.ref fs[j].1) := by
      revert l12
      cases ps[j].1 with
      | df n a => rintro ⟨z1, z2⟩; exact ⟨a, by rw [z1], by rw [hmg]; exact z2⟩
      | lm q => exact fun _ => rfl
    have P2 := P'.set (i := i) (d := elD ps[j].1 (.ref fs[j].1)) (v := .ref fs[j].1) (by simpa using ho) dv
    unfold loopH at k
    have k2 : PostS b E F2 O0 (ps[j].2 (.ref fs[j].1) (env'.set i (some (elD ps[j].1 (.ref fs[j].1)))) S') { nx := fun σ H => ∃ F' O' env' S', Pre b F2 O0 F' O' H σ env' S' ∧ PostS b E F2 O0 (cleanR i (loopH i ((ps.map fun p => (elD p.1, p.2)).drop (j + 1)) ((fs.map fun p => V.ref p.1).drop (j + 1)) env' S')) Dn, rt := Dn.rt, bk := Dn.nx, ct := fun σ H => ∃ F' O' env' S', Pre b F2 O0 F' O' H σ env' S' ∧ PostS b E F2 O0 (cleanR i (loopH i ((ps.map fun p => (elD p.1, p.2)).drop (j + 1)) ((fs.map fun p => V.ref p.1).drop (j + 1)) env' S')) Dn } := by
      revert k
      cases hr : ps[j].2 (.ref fs[j].1) (env'.set i (some (elD ps[j].1 (.ref fs[j].1)))) S' with
      | ok p =>
        obtain ⟨r, S2⟩ := p
        cases r with
        | nx e3 => exact fun k σ3 F3 O3 H3 P3 => ⟨F3, O3, e3, S2, P3, k⟩
        | rt d => exact fun k => k
        | bk e3 => exact fun k σ3 F3 O3 H3 P3 => k σ3 F3 O3 H3 P3.blank
        | ct e3 => exact fun k σ3 F3 O3 H3 P3 => ⟨F3, O3, e3, S2, P3, k⟩
      | exc n f fs' S2 => exact fun k => k
      | bad => exact fun k => k
    refine ⟨ps[j], mem, ?_⟩
    clear k e1 e2 dv
    revert k2 P2 l12
    obtain ⟨q, g⟩ := ps[j]
    cases q with
    | df n a =>
      rintro ⟨rfl, z2⟩ P2 k2
      exact ⟨F2, O0, F', O', _, S', P2, k2⟩
    | lm q =>
      rintro ⟨l1, l2⟩ P2 k2
      exact ⟨fs[j].1, fs[j].2, F2, O0, F', O', _, S', P2.toL (P'.f0 _ _ l1) (P'.f0 _ _ l2), post_ofL k2⟩
  · rintro σ' H' ⟨F', O', env', S', P', k⟩
    rw [List.drop_of_length_le (by rw [List.length_map, List.length_map, hlen]; exact Nat.le_refl _)] at k
    unfold loopH at k
    exact k σ' F' O' H' P'.blank
theorem bh_nil : ∀ p ∈ ([] : List (El × (V → MS))), BodH X b E body p := fun p hp => nomatch hp
theorem bh_df {n : Str} {a : Addr} {g : V → MS} {ps : List (El × (V → MS))} (h : PSs X body (tS b E (g (.ref a)))) (hr : ∀ p ∈ ps, BodH X b E body p) : ∀ p ∈ (.df n a, g) :: ps, BodH X b E body p := fun p hp => by
  rcases List.mem_cons.mp hp with rfl | hp
  · exact h
  · exact hr p hp
theorem bh_lm {q : Lam} {g : V → MS} {ps : List (El × (V → MS))} (h : ∀ f c', PSs X body (tS (bL b X.env.qual X.env.cells q f c') E (g (.ref f)))) (hr : ∀ p ∈ ps, BodH X b E body p) : ∀ p ∈ (.lm q, g) :: ps, BodH X b E body p := fun p hp => by
  rcases List.mem_cons.mp hp with rfl | hp
  · exact h
  · exact hr p hp
theorem ph_nil : PA X [] (tEls T X.env.qual X.env.cells (([] : List (El × (V → MS))).map (·.1))) := pa_nil
theorem ph_df {n : Str} {a : Addr} {g : V → MS} {ps : List (El × (V → MS))} (h : PE X e (tC (.ref a))) (hr : PA X es (tEls T X.env.qual X.env.cells (ps.map (·.1)))) (hs : starEach (e :: es) X.env = (false, eval e X.env) :: starEach es X.env := by rfl) :
    PA X (e :: es) (tEls T X.env.qual X.env.cells (((.df n a, g) :: ps).map (·.1))) := pa_cons h hr hs
theorem ph_lm {q : Lam} {g : V → MS} {ps : List (El × (V → MS))} (h : PE X e (tMk T X.env.qual X.env.cells q)) (hr : PA X es (tEls T X.env.qual X.env.cells (ps.map (·.1)))) (hs : starEach (e :: es) X.env = (false, eval e X.env) :: starEach es X.env := by rfl) :
    PA X (e :: es) (tEls T X.env.qual X.env.cells (((.lm q, g) :: ps).map (·.1))) := pa_cons h hr hs
theorem dfs_nil {mg : Str → Option Value} : ∀ n a, El.df n a ∈ (([] : List (El × (V → MS))).map (·.1)) → mg n = some (.ref a) := fun n a h => nomatch h
theorem dfs_df {mg : Str → Option Value} {n : Str} {a : Addr} {g : V → MS} {ps : List (El × (V → MS))} (h : mg n = some (.ref a)) (hr : ∀ n a, El.df n a ∈ (ps.map (·.1)) → mg n = some (.ref a)) : ∀ n' a', El.df n' a' ∈ (((.df n a, g) :: ps).map (·.1)) → mg n' = some (.ref a') := fun n' a' hp => by
  rcases List.mem_cons.mp hp with e | hp
  · cases e; exact h
  · exact hr n' a' hp
theorem dfs_lm {mg : Str → Option Value} {q : Lam} {g : V → MS} {ps : List (El × (V → MS))} (hr : ∀ n a, El.df n a ∈ (ps.map (·.1)) → mg n = some (.ref a)) : ∀ n' a', El.df n' a' ∈ (((.lm q, g) :: ps).map (·.1)) → mg n' = some (.ref a') := fun n' a' hp => by
  rcases List.mem_cons.mp hp with e | hp
  · cases e
  · exact hr n' a' hp
end
section
variable {X : Cx} {b : Bc} {E : XK} {e : Expr} {kws : List Keyword} {g : MA} {m n : Nat}
theorem n_callPK {G : List D → RP} (π : List Nat) (hc : b.c.K = X.K ∧ b.c.mg = X.mg) (hm : π.length = m) (h : ∀ t, PK X kws t → PE X e (fun σ H Q => t σ H fun zs H2 => spPN X.K X.mg m G (pickK n π [] zs) H2 Q E)) (ha : PK X kws (tA b E g)) :
    PE X e (tN b E (callPK G n π g)) := PE.imp (h _ ha) fun σ H Q ⟨F0, O0, F, O, env, S, P, h⟩ => ⟨F0, O0, F, O, env, S, P, (Post.bind h).imp fun ds S1 F1 H1 s1 fit1 I1 k vs hvs => by
    by_cases hz : ds.length = n ∧ (pick π ds).length = π.length
    · rw [if_pos hz] at k
      obtain ⟨⟨K, mg, l⟩, stf, TP, own⟩ := b
      obtain ⟨T0, tp, fit1⟩ := fit1
      obtain ⟨h1, h2⟩ := hc
      cases h1
      cases h2
      have hv2 := hvs.pick π
      have e : pickK n π [] vs = pick π vs := by
        unfold pickK
        rw [if_pos ⟨rfl, by rw [← hvs.length]; exact hz.1⟩]
      rw [e]
      refine ⟨by rw [← hv2.length, hz.2]; exact hm, l, F1, O, _, pick π ds, fit1, hv2, ?_⟩
      revert k
      cases hG : G (pick π ds) with
      | ok d => exact fun k p o F' H' s f np ho => k F' H' s ⟨T0, TP.mono tp s, f⟩ (I1.mono s) p o np ho
      | exc n f fs => exact fun k cls dd F' H' s f x => k cls dd F' H' s ⟨T0, TP.mono tp s, f⟩ (I1.mono s) x
      | bad => exact fun k => False.elim k
    · rw [if_neg hz] at k
      exact False.elim k⟩
end
end VS
namespace VS
open PySem PySem.Spec PyProof.Rows L2
def rReprI : List V → Hp → VK → Prop := fun xs H Q => ∃ i : Int, xs = [.int i] ∧ i.natAbs.log2 < 1920 ∧ Q (.str (toString i)) H
def gReprI : List D → Option D
  | [.int i] => if i.natAbs.log2 < 1920 then some (.str (toString i)) else none
  | ds => gReprA ds
theorem cr_reprI {X : Cx} (hg : X.A.guards = some []) (hu : X.A.units + 100 < cLine) : CallR X (.builtin "repr") (fun vs H Q => (rRepr X.K vs H Q ∨ rReprD X.K vs H Q) ∨ rReprI vs H Q) := by
  intro pins s σ H vs us Q I r h
  rcases h with h | h
  · exact cr_reprA hg hu pins s σ H vs us Q I r h
  · exact SkE.call_repr_int pins s σ H vs us Q I r h
theorem r_reprI {c : Dc} : RuleN c (fun vs H Q => (rRepr c.K vs H Q ∨ rReprD c.K vs H Q) ∨ rReprI vs H Q) gReprI := by
  intro F O T H ds vs d' Q fit hv g q
  by_cases z : ∃ i, ds = [.int i]
  · obtain ⟨i, rfl⟩ := z
    obtain ⟨v, r, rfl, hd, h⟩ := paired1 hv
    cases paired0 h
    simp only [gReprI] at g
    split at g <;> cases g
    rename_i hok
    simp only [DenB, Den] at hd
    subst hd
    exact .inr ⟨i, rfl, hok, q _ F H (Same.refl _) fit rfl⟩
  · have e : gReprI ds = gReprA ds := by
      unfold gReprI
      split
      · exact absurd ⟨_, rfl⟩ z
      · rfl
    rw [e] at g
    exact .inl (r_reprA F O T H ds vs d' Q fit hv g q)
end VS
namespace My
open PySem PySem.Spec PyProof.Rows L2 VS
def g_is_number : MS := (retS (andV (unM (gIs .int) (varM 0)) (notV (unM (gIs .bool) (varM 0)))))
def G_is_number (ds : List D) : RP := endP (g_is_number (startE 1 ds) S0)
end My
namespace My
open PySem PySem.Spec PyProof.Rows L2 VS
def g_is_number_from : MS := (retS (andV (callP G_is_number [] (consA (varM 1) nilA)) (binM gGe (varM 1) (varM 0))))
def G_is_number_from (ds : List D) : RP := endP (g_is_number_from (startE 2 ds) S0)
end My
namespace My
open PySem PySem.Spec PyProof.Rows L2 VS
def g_is_number_between : MS := (retS (andV (callP G_is_number [] (consA (varM 1) nilA)) (chM gLe gLe (varM 0) (varM 1) (varM 2))))
def G_is_number_between (ds : List D) : RP := endP (g_is_number_between (startE 3 ds) S0)
end My
namespace My
open PySem PySem.Spec PyProof.Rows L2 VS
def g_is_pair : MS := (retS (andV (unM (gIs .tuple) (varM 0)) (binM gEq (cbM gLenA (consA (varM 0) nilA)) (cM (.int 2)))))
def G_is_pair (ds : List D) : RP := endP (g_is_pair (startE 1 ds) S0)
end My
namespace My
open PySem PySem.Spec PyProof.Rows L2 VS
def g_is_literal_of : MS := (retS (andV (callP G_is_number_between [] (consA (unM gNeg (varM 0)) (consA (varM 1) (consA (varM 0) nilA)))) (binM gNe (varM 1) (cM (.int 0)))))
def G_is_literal_of (ds : List D) : RP := endP (g_is_literal_of (startE 2 ds) S0)
end My
namespace My
open PySem PySem.Spec PyProof.Rows L2 VS
def t_are_terms_of_1 : MT := (orT (notT (testM (callP G_is_number_from [] (consA (cM (.int 1)) (consA (varM 4) nilA))))) (orT (notT (testM (callP G_is_literal_of [] (consA (varM 0) (consA (varM 5) nilA))))) (testM (binM gLe (cbM gAbs (consA (varM 5) nilA)) (varM 2)))))
def b_are_terms_of_2 : MS := (seqS (ifS (notT (testM (callP G_is_pair [] (consA (varM 3) nilA)))) (retS (cM (.bl false))) nextS) (seqS (unpS [4, 5] (varM 3)) (seqS (ifS t_are_terms_of_1 (retS (cM (.bl false))) nextS) (asgS 2 (cbM gAbs (consA (varM 5) nilA))))))
def g_are_terms_of : MS := (seqS (ifS (notT (testM (unM (gIs .tuple) (varM 1)))) (retS (cM (.bl false))) nextS) (seqS (asgS 2 (cM (.int 0))) (seqS (forS (setN 3) (varM 1) b_are_terms_of_2) (retS (cM (.bl true))))))
def G_are_terms_of (ds : List D) : RP := endP (g_are_terms_of (startE 6 ds) S0)
end My
namespace My
open PySem PySem.Spec PyProof.Rows L2 VS
def g_is_row_of : MS := (retS (andV (callP G_is_pair [] (consA (varM 1) nilA)) (andV (callP G_are_terms_of [] (consA (varM 0) (consA (binM gIxA (varM 1) (cM (.int 0))) nilA))) (callP G_is_number_from [] (consA (cM (.int 0)) (consA (binM gIxA (varM 1) (cM (.int 1))) nilA))))))
def G_is_row_of (ds : List D) : RP := endP (g_is_row_of (startE 2 ds) S0)
end My
namespace My
open PySem PySem.Spec PyProof.Rows L2 VS
def t_is_filling_of_1 : MT := (orT (notT (testM (unM (gIs .tuple) (varM 1)))) (testM (binM gNe (cbM gLenA (consA (varM 1) nilA)) (varM 0))))
def e_is_filling_of_2 : ME := (callP G_is_number_between [] (consA (cM (.int 0)) (consA (varM 2) (consA (cM (.int 1)) nilA))))
def g_is_filling_of : MS := (seqS (ifS t_is_filling_of_1 (retS (cM (.bl false))) nextS) (retS (cbM gAll (consA (lcM (setN 2) (varM 1) (fun _ S => .ok (true, S)) e_is_filling_of_2 [2]) nilA))))
def G_is_filling_of (ds : List D) : RP := endP (g_is_filling_of (startE 3 ds) S0)
end My
namespace My
open PySem PySem.Spec PyProof.Rows L2 VS
def t_check_many_1 : MT := (notT (testM (callP G_is_number_between [] (consA (cM (.int 1)) (consA (varM 0) (consA (varM 1) nilA))))))
def g_check_many : MS := (ifS t_check_many_1 (raiseS "BadMany") nextS)
def G_check_many (ds : List D) : RP := endP (g_check_many (startE 2 ds) S0)
end My
namespace My
open PySem PySem.Spec PyProof.Rows L2 VS
def t_check_literal_1 : MT := (notT (testM (callP G_is_literal_of [] (consA (varM 0) (consA (varM 1) nilA)))))
def g_check_literal : MS := (ifS t_check_literal_1 (raiseS "BadLiteral") nextS)
def G_check_literal (ds : List D) : RP := endP (g_check_literal (startE 2 ds) S0)
end My
namespace My
open PySem PySem.Spec PyProof.Rows L2 VS
def t_check_row_1 : MT := (notT (testM (callP G_is_row_of [] (consA (varM 0) (consA (varM 1) nilA)))))
def g_check_row : MS := (ifS t_check_row_1 (raiseS "BadRow") nextS)
def G_check_row (ds : List D) : RP := endP (g_check_row (startE 2 ds) S0)
end My
namespace My
open PySem PySem.Spec PyProof.Rows L2 VS
def t_check_filling_1 : MT := (notT (testM (callP G_is_filling_of [] (consA (varM 0) (consA (varM 1) nilA)))))
def g_check_filling : MS := (ifS t_check_filling_1 (raiseS "BadFilling") nextS)
def G_check_filling (ds : List D) : RP := endP (g_check_filling (startE 2 ds) S0)
end My
namespace My
open PySem PySem.Spec PyProof.Rows L2 VS
def g_check_few : MS := (ifS (testM (binM gGt (varM 0) (varM 1))) (raiseF "TooMany" "most" (consA (varM 1) nilA)) nextS)
def G_check_few (ds : List D) : RP := endP (g_check_few (startE 2 ds) S0)
end My
namespace My
open PySem PySem.Spec PyProof.Rows L2 VS
def g_weight_sum : MS := (retS (cbM gSum (consA (lcM (setT [1, 2]) (varM 0) (fun _ S => .ok (true, S)) (varM 1) [1, 2]) nilA)))
def G_weight_sum (ds : List D) : RP := endP (g_weight_sum (startE 3 ds) S0)
end My
namespace My
open PySem PySem.Spec PyProof.Rows L2 VS
def g_total : MS := (seqS (dropS (callP G_check_many [.int 600] (consA (varM 0) nilA))) (seqS (dropS (callP G_check_row [] (consA (varM 0) (consA (varM 1) nilA)))) (retS (callP G_weight_sum [] (consA (binM gIxA (varM 1) (cM (.int 0))) nilA)))))
def G_total (ds : List D) : RP := endP (g_total (startE 2 ds) S0)
end My
namespace My
open PySem PySem.Spec PyProof.Rows L2 VS
def g_opposite_terms : MS := (retS (cbM gTuple (consA (lcM (setT [1, 2]) (varM 0) (fun _ S => .ok (true, S)) (tupM (consA (varM 1) (consA (unM gNeg (varM 2)) nilA))) [1, 2]) nilA)))
def G_opposite_terms (ds : List D) : RP := endP (g_opposite_terms (startE 3 ds) S0)
end My
namespace My
open PySem PySem.Spec PyProof.Rows L2 VS
def g_opposite_row : MS := (seqS (unpS [1, 2] (varM 0)) (retS (tupM (consA (callP G_opposite_terms [] (consA (varM 1) nilA)) (consA (cbM gMax (consA (cM (.int 0)) (consA (binM gAdd (binM gSub (callP G_weight_sum [] (consA (varM 1) nilA)) (varM 2)) (cM (.int 1))) nilA))) nilA)))))
def G_opposite_row (ds : List D) : RP := endP (g_opposite_row (startE 3 ds) S0)
end My
namespace My
open PySem PySem.Spec PyProof.Rows L2 VS
def g_opposite : MS := (seqS (dropS (callP G_check_many [.int 600] (consA (varM 0) nilA))) (seqS (dropS (callP G_check_row [] (consA (varM 0) (consA (varM 1) nilA)))) (retS (callP G_opposite_row [] (consA (varM 1) nilA)))))
def G_opposite (ds : List D) : RP := endP (g_opposite (startE 2 ds) S0)
end My
namespace My
open PySem PySem.Spec PyProof.Rows L2 VS
def g_bound_is_above : MS := (retS (binM gGt (binM gIxA (varM 0) (cM (.int 1))) (callP G_weight_sum [] (consA (binM gIxA (varM 0) (cM (.int 0))) nilA))))
def G_bound_is_above (ds : List D) : RP := endP (g_bound_is_above (startE 1 ds) S0)
end My
namespace My
open PySem PySem.Spec PyProof.Rows L2 VS
def g_is_impossible : MS := (seqS (dropS (callP G_check_many [.int 600] (consA (varM 0) nilA))) (seqS (dropS (callP G_check_row [] (consA (varM 0) (consA (varM 1) nilA)))) (retS (callP G_bound_is_above [] (consA (varM 1) nilA)))))
def G_is_impossible (ds : List D) : RP := endP (g_is_impossible (startE 2 ds) S0)
end My
namespace My
open PySem PySem.Spec PyProof.Rows L2 VS
def g_worth_of : MS := (seqS (asgS 2 (binM gIxA (varM 1) (binM gSub (cbM gAbs (consA (varM 0) nilA)) (cM (.int 1))))) (seqS (ifS (testM (binM gGt (varM 0) (cM (.int 0)))) (retS (varM 2)) nextS) (retS (binM gSub (cM (.int 1)) (varM 2)))))
def G_worth_of (ds : List D) : RP := endP (g_worth_of (startE 3 ds) S0)
end My
namespace My
open PySem PySem.Spec PyProof.Rows L2 VS
def t_sum_at_1 : MT := (testM (binM gEq (callP G_worth_of [] (consA (varM 3) (consA (varM 1) nilA))) (cM (.int 1))))
def g_sum_at : MS := (retS (cbM gSum (consA (lcM (setT [2, 3]) (varM 0) t_sum_at_1 (varM 2) [2, 3]) nilA)))
def G_sum_at (ds : List D) : RP := endP (g_sum_at (startE 4 ds) S0)
end My
namespace My
open PySem PySem.Spec PyProof.Rows L2 VS
def g_holds_at : MS := (retS (binM gGe (callP G_sum_at [] (consA (binM gIxA (varM 0) (cM (.int 0))) (consA (varM 1) nilA))) (binM gIxA (varM 0) (cM (.int 1)))))
def G_holds_at (ds : List D) : RP := endP (g_holds_at (startE 2 ds) S0)
end My
namespace My
open PySem PySem.Spec PyProof.Rows L2 VS
def g_holds : MS := (seqS (dropS (callP G_check_many [.int 600] (consA (varM 0) nilA))) (seqS (dropS (callP G_check_row [] (consA (varM 0) (consA (varM 1) nilA)))) (seqS (dropS (callP G_check_filling [] (consA (varM 0) (consA (varM 2) nilA)))) (retS (callP G_holds_at [] (consA (varM 1) (consA (varM 2) nilA)))))))
def G_holds (ds : List D) : RP := endP (g_holds (startE 3 ds) S0)
end My
namespace My
open PySem PySem.Spec PyProof.Rows L2 VS
def g_is_filling : MS := (seqS (dropS (callP G_check_many [.int 600] (consA (varM 0) nilA))) (retS (callP G_is_filling_of [] (consA (varM 0) (consA (varM 1) nilA)))))
def G_is_filling (ds : List D) : RP := endP (g_is_filling (startE 2 ds) S0)
end My
namespace My
open PySem PySem.Spec PyProof.Rows L2 VS
def g_worth : MS := (seqS (dropS (callP G_check_many [.int 600] (consA (varM 0) nilA))) (seqS (dropS (callP G_check_literal [] (consA (varM 0) (consA (varM 1) nilA)))) (seqS (dropS (callP G_check_filling [] (consA (varM 0) (consA (varM 2) nilA)))) (retS (callP G_worth_of [] (consA (varM 1) (consA (varM 2) nilA)))))))
def G_worth (ds : List D) : RP := endP (g_worth (startE 3 ds) S0)
end My
namespace My
open PySem PySem.Spec PyProof.Rows L2 VS
def b_tuples_of_v2_1 : MS := (asgS 1 (lc2M (setN 3) (varM 1) (fun _ S => .ok (true, S)) (innM (tupM (consA (cM (.int 0)) (consA (cM (.int 1)) nilA))) (setN 4) (fun _ S => .ok (true, S)) (binM gAdd (varM 3) (tupM (consA (varM 4) nilA))) [4]) [3, 4]))
def g_tuples_of_v2 : MS := (seqN (asgS 1 (lstM (consA (tupM nilA) nilA))) (seqN (forR (setN 2) (consA (varM 0) nilA) b_tuples_of_v2_1) (retS (varM 1))))
def G_tuples_of_v2 (ds : List D) : RP := endPN (g_tuples_of_v2 (startE 5 ds) S0)
end My
namespace My
open PySem PySem.Spec PyProof.Rows L2 VS
def g_fillings : MS := (seqN (dropS (callP G_check_many [.int 600] (consA (varM 0) nilA))) (seqN (dropS (callP G_check_few [] (consA (varM 0) (consA (cM (.int 12)) nilA)))) (retS (callP G_tuples_of_v2 [] (consA (varM 0) nilA)))))
def G_fillings (ds : List D) : RP := endPN (g_fillings (startE 1 ds) S0)
end My
namespace My
open PySem PySem.Spec PyProof.Rows L2 VS
def t__law_draw_1 : MT := (andT (testM (binM gEq (stM 0 fun S => .int S.left) (cM (.int 0)))) (largeT 0))
def t__law_draw_2 : MT := (testM (binM gGt (stM 0 fun S => .int S.left) (cM (.int 0))))
def b__law_draw_3 : MS := (seqS (asgS 2 (binM gMod (cbM gInt (consA (stM 0 fun S => .int S.left) nilA)) (varM 1))) (seqS (leftS 0 (binM gDivW (stM 0 fun S => .int S.left) (varM 1))) (retS (varM 2))))
def g__law_draw : MS := (seqS (whileS t__law_draw_1 (popLS 0) 100000) (seqS (ifS t__law_draw_2 b__law_draw_3 nextS) (seqS (asgS 3 (binM gAdd (stM 0 fun S => .int S.turn) (cM (.int 1)))) (seqS (turnS 0 (varM 3)) (seqS (asgS 4 (ifM (testM (binM gNe (stM 0 fun S => .lst (S.cells.map D.int)) (lstM nilA))) (binM gIxA (stM 0 fun S => .lst (S.cells.map D.int)) (binM gMod (cbM gInt (consA (varM 3) nilA)) (cbM gLenA (consA (stM 0 fun S => .lst (S.cells.map D.int)) nilA)))) (cM (.int 0)))) (seqS (asgS 5 (binM gMod (cbM gInt (consA (binM gPow (binM gAdd (binM gAdd (binM gMod (cbM gInt (consA (varM 4) nilA)) (cM (.int 2147483563))) (binM gMulT (cM (.int 40692)) (varM 3))) (cM (.int 24681))) (cM (.int 3))) nilA)) (cM (.int 2147483629)))) (retS (binM gMod (cbM gInt (consA (binM gDivW (binM gMod (cbM gInt (consA (binM gPow (binM gAdd (varM 5) (binM gMulT (cM (.int 104917)) (varM 3))) (cM (.int 5))) nilA)) (cM (.int 2147483579))) (cM (.int 29))) nilA)) (varM 1)))))))))
def G__law_draw (ds : List D) (S : DS) : Res (D × DS) := endS (g__law_draw (startE 6 ds) S)
end My
namespace My
open PySem PySem.Spec PyProof.Rows L2 VS
def g__law_pick : MS := (retS (binM gIxA (varM 1) (callS G__law_draw (consA (varM 0) (consA (cbM gLenA (consA (varM 1) nilA)) nilA)))))
def G__law_pick (ds : List D) (S : DS) : Res (D × DS) := endS (g__law_pick (startE 2 ds) S)
end My
namespace My
open PySem PySem.Spec PyProof.Rows L2 VS
def g__law_odd : MS := (retS (callS G__law_pick (consA (varM 0) (consA (lstM (consA (cM .non) (consA (cM (.bl true)) (consA (cM (.bl false)) (consA (cM (.str "0")) (consA (cM (.str "")) (consA (lstM nilA) (consA (cM (.dct [] [])) (consA (tupM (consA (cM .non) nilA)) (consA (tupM (consA (cM (.str "a")) (consA (cM (.int 1)) nilA))) (consA (lstM (consA (lstM (consA (cM (.int 0)) nilA)) nilA)) (consA (cM (.dct [.inl 0] [.int 0])) (consA (tupM (consA (cM (.bl true)) nilA)) (consA (tupM (consA (tupM nilA) nilA)) nilA)))))))))))))) nilA))))
def G__law_odd (ds : List D) (S : DS) : Res (D × DS) := endS (g__law_odd (startE 1 ds) S)
end My
namespace My
open PySem PySem.Spec PyProof.Rows L2 VS
def b__law_fillings_1 : MS := (asgS 1 (cbM gSortedA (consA (binM gCat (lcM (setN 3) (varM 1) (fun _ S => .ok (true, S)) (binM gAdd (varM 3) (tupM (consA (cM (.int 0)) nilA))) [3]) (lcM (setN 3) (varM 1) (fun _ S => .ok (true, S)) (binM gAdd (varM 3) (tupM (consA (cM (.int 1)) nilA))) [3])) nilA)))
def g__law_fillings : MS := (seqS (asgS 1 (lstM (consA (tupM nilA) nilA))) (seqS (forR (setN 2) (consA (varM 0) nilA) b__law_fillings_1) (retS (varM 1))))
def G__law_fillings (ds : List D) : RP := endP (g__law_fillings (startE 4 ds) S0)
end My
namespace My
open PySem PySem.Spec PyProof.Rows L2 VS
def g__law_worth : MS := (retS (ifM (testM (binM gGt (varM 0) (cM (.int 0)))) (binM gIxA (varM 1) (binM gSub (varM 0) (cM (.int 1)))) (binM gSub (cM (.int 1)) (binM gIxA (varM 1) (binM gSub (binM gSub (cM (.int 0)) (varM 0)) (cM (.int 1)))))))
def G__law_worth (ds : List D) : RP := endP (g__law_worth (startE 2 ds) S0)
end My
namespace My
open PySem PySem.Spec PyProof.Rows L2 VS
def t__law_comes_1 : MT := (testM (binM gEq (callP G__law_worth [] (consA (varM 3) (consA (varM 1) nilA))) (cM (.int 1))))
def g__law_comes : MS := (retS (cbM gSum (consA (lcM (setT [2, 3]) (varM 0) t__law_comes_1 (varM 2) [2, 3]) nilA)))
def G__law_comes (ds : List D) : RP := endP (g__law_comes (startE 4 ds) S0)
end My
namespace My
open PySem PySem.Spec PyProof.Rows L2 VS
def g__law_holds : MS := (retS (binM gGe (callP G__law_comes [] (consA (binM gIxA (varM 0) (cM (.int 0))) (consA (varM 1) nilA))) (binM gIxA (varM 0) (cM (.int 1)))))
def G__law_holds (ds : List D) : RP := endP (g__law_holds (startE 2 ds) S0)
end My
namespace My
open PySem PySem.Spec PyProof.Rows L2 VS
def g__law_total : MS := (retS (cbM gSum (consA (lcM (setT [1, 2]) (binM gIxA (varM 0) (cM (.int 0))) (fun _ S => .ok (true, S)) (varM 1) [1, 2]) nilA)))
def G__law_total (ds : List D) : RP := endP (g__law_total (startE 3 ds) S0)
end My
namespace My
open PySem PySem.Spec PyProof.Rows L2 VS
def e__law_opposite_1 : ME := (tupM (consA (varM 1) (consA (binM gSub (cM (.int 0)) (varM 2)) nilA)))
def g__law_opposite : MS := (retS (tupM (consA (cbM gTuple (consA (lcM (setT [1, 2]) (binM gIxA (varM 0) (cM (.int 0))) (fun _ S => .ok (true, S)) e__law_opposite_1 [1, 2]) nilA)) (consA (cbM gMax (consA (cM (.int 0)) (consA (binM gAdd (binM gSub (callP G__law_total [] (consA (varM 0) nilA)) (binM gIxA (varM 0) (cM (.int 1)))) (cM (.int 1))) nilA))) nilA))))
def G__law_opposite (ds : List D) : RP := endP (g__law_opposite (startE 3 ds) S0)
end My
namespace My
open PySem PySem.Spec PyProof.Rows L2 VS
def t__law_terms_1 : MT := (orT (testM (binM gEq (varM 4) (cM (.int 0)))) (testM (binM gGt (callS G__law_draw (consA (varM 0) (consA (cM (.int 3)) nilA))) (cM (.int 0)))))
def b__law_terms_2 : MS := (seqS (asgS 6 (ifM (testM (binM gEq (varM 4) (cM (.int 1)))) (cM (.int 1)) (binM gAdd (cM (.int 1)) (callS G__law_draw (consA (varM 0) (consA (varM 2) nilA)))))) (appS 3 (tupM (consA (varM 6) (consA (ifM (testM (binM gEq (callS G__law_draw (consA (varM 0) (consA (cM (.int 2)) nilA))) (cM (.int 0)))) (varM 5) (binM gSub (cM (.int 0)) (varM 5))) nilA)))))
def g__law_terms : MS := (seqS (parOS 3 4 (lstM nilA) (callS G__law_draw (consA (varM 0) (consA (cM (.int 4)) nilA)))) (seqS (forR (setN 5) (consA (cM (.int 1)) (consA (binM gAdd (varM 1) (cM (.int 1))) nilA)) (ifS t__law_terms_1 b__law_terms_2 nextS)) (retS (cbM gTuple (consA (varM 3) nilA)))))
def G__law_terms (ds : List D) (S : DS) : Res (D × DS) := endS (g__law_terms (startE 7 ds) S)
end My
namespace My
open PySem PySem.Spec PyProof.Rows L2 VS
def b__law_row_1 : MS := (retS (tupM (consA (varM 3) (consA (callS G__law_pick (consA (varM 0) (consA (lstM (consA (cM (.int 0)) (consA (varM 4) (consA (binM gAdd (varM 4) (cM (.int 1))) nilA)))) nilA))) nilA))))
def g__law_row : MS := (seqS (asgS 3 (callS G__law_terms (consA (varM 0) (consA (varM 1) (consA (varM 2) nilA))))) (seqS (asgS 4 (cbM gSum (consA (lcM (setT [5, 6]) (varM 3) (fun _ S => .ok (true, S)) (varM 5) [5, 6]) nilA))) (seqS (asgS 7 (callS G__law_draw (consA (varM 0) (consA (cM (.int 10)) nilA)))) (seqS (ifS (testM (binM gEq (varM 7) (cM (.int 0)))) b__law_row_1 nextS) (retS (tupM (consA (varM 3) (consA (ifM (testM (binM gLt (varM 7) (cM (.int 4)))) (callS G__law_draw (consA (varM 0) (consA (binM gAdd (varM 4) (cM (.int 1))) nilA))) (binM gSub (binM gDivW (binM gAdd (varM 4) (cM (.int 1))) (cM (.int 2))) (cbM gInt (consA (andV (binM gEq (varM 7) (cM (.int 4))) (binM gGt (varM 4) (cM (.int 1)))) nilA)))) nilA))))))))
def G__law_row (ds : List D) (S : DS) : Res (D × DS) := endS (g__law_row (startE 8 ds) S)
end My
namespace My
open PySem PySem.Spec PyProof.Rows L2 VS
def g__law_bad_many : MS := (retS (callS G__law_pick (consA (varM 0) (consA (lstM (consA (cM (.int 0)) (consA (unM gNeg (cM (.int 1))) (consA (cM (.int 601)) (consA (binM gPow (cM (.int 10)) (cM (.int 9))) (consA (cM .non) (consA (cM (.bl true)) (consA (cM (.str "3")) (consA (tupM (consA (cM (.int 3)) nilA)) (consA (lstM (consA (cM (.int 2)) nilA)) (consA (cM (.dct [] [])) nilA))))))))))) nilA))))
def G__law_bad_many (ds : List D) (S : DS) : Res (D × DS) := endS (g__law_bad_many (startE 1 ds) S)
end My
namespace My
open PySem PySem.Spec PyProof.Rows L2 VS
def b__law_bad_row_1 : MS := (appS 2 (tupM (consA (tupM (consA (tupM (consA (cM (.int 1)) (consA (cM (.int 2)) nilA))) (consA (tupM (consA (cM (.int 1)) (consA (cM (.int 1)) nilA))) nilA))) (consA (cM (.int 1)) nilA))))
def g__law_bad_row : MS := (seqS (asgS 2 (lstM (consA (cM .non) (consA (cM (.int 5)) (consA (cM (.str "row")) (consA (tupM nilA) (consA (tupM (consA (tupM nilA) (consA (cM (.int 0)) (consA (cM (.int 0)) nilA)))) (consA (lstM (consA (tupM nilA) (consA (cM (.int 0)) nilA))) (consA (tupM (consA (lstM nilA) (consA (cM (.int 0)) nilA))) (consA (tupM (consA (tupM nilA) (consA (unM gNeg (cM (.int 1))) nilA))) (consA (tupM (consA (tupM nilA) (consA (cM (.bl true)) nilA))) (consA (tupM (consA (tupM nilA) (consA (cM .non) nilA))) (consA (tupM (consA (tupM (consA (tupM (consA (cM (.int 1)) (consA (cM (.int 1)) nilA))) nilA)) (consA (cM (.str "1")) nilA))) (consA (cM (.dct [] [])) nilA)))))))))))))) (seqS (asgS 2 (binM gCat (varM 2) (lstM (consA (tupM (consA (tupM (consA (tupM (consA (cM (.int 0)) (consA (cM (.int 1)) nilA))) nilA)) (consA (cM (.int 0)) nilA))) (consA (tupM (consA (tupM (consA (tupM (consA (unM gNeg (cM (.int 1))) (consA (cM (.int 1)) nilA))) nilA)) (consA (cM (.int 0)) nilA))) (consA (tupM (consA (tupM (consA (tupM (consA (cM (.bl true)) (consA (cM (.int 1)) nilA))) nilA)) (consA (cM (.int 1)) nilA))) (consA (tupM (consA (tupM (consA (tupM (consA (cM (.int 1)) (consA (cM (.int 0)) nilA))) nilA)) (consA (cM (.int 0)) nilA))) (consA (tupM (consA (tupM (consA (tupM (consA (cM (.int 1)) (consA (binM gAdd (varM 1) (cM (.int 1))) nilA))) nilA)) (consA (cM (.int 1)) nilA))) (consA (tupM (consA (tupM (consA (tupM (consA (cM (.int 1)) (consA (cM (.bl true)) nilA))) nilA)) (consA (cM (.int 1)) nilA))) nilA))))))))) (seqS (asgS 2 (binM gCat (varM 2) (lstM (consA (tupM (consA (tupM (consA (tupM (consA (cM (.int 1)) (consA (cM (.int 1)) nilA))) (consA (tupM (consA (cM (.int 1)) (consA (cM (.int 1)) nilA))) nilA))) (consA (cM (.int 1)) nilA))) (consA (tupM (consA (tupM (consA (tupM (consA (cM (.int 1)) (consA (cM (.int 1)) nilA))) (consA (tupM (consA (cM (.int 2)) (consA (unM gNeg (cM (.int 1))) nilA))) nilA))) (consA (cM (.int 1)) nilA))) (consA (tupM (consA (tupM (consA (tupM (consA (cM (.int 1)) (consA (cM (.int 1)) (consA (cM (.int 1)) nilA)))) nilA)) (consA (cM (.int 1)) nilA))) (consA (tupM (consA (lstM (consA (tupM (consA (cM (.int 1)) (consA (cM (.int 1)) nilA))) nilA)) (consA (cM (.int 1)) nilA))) (consA (tupM (consA (tupM (consA (lstM (consA (cM (.int 1)) (consA (cM (.int 1)) nilA))) nilA)) (consA (cM (.int 1)) nilA))) (consA (tupM (consA (tupM (consA (tupM (consA (cM (.int 1)) (consA (cM .non) nilA))) nilA)) (consA (cM (.int 0)) nilA))) nilA))))))))) (seqS (ifS (testM (binM gGt (varM 1) (cM (.int 1)))) b__law_bad_row_1 nextS) (retS (callS G__law_pick (consA (varM 0) (consA (varM 2) nilA))))))))
def G__law_bad_row (ds : List D) (S : DS) : Res (D × DS) := endS (g__law_bad_row (startE 3 ds) S)
end My
namespace My
open PySem PySem.Spec PyProof.Rows L2 VS
def g__law_bad_filling : MS := (seqS (asgS 2 (lstM (consA (cM .non) (consA (cM (.int 5)) (consA (binM gMulT (tupM (consA (cM (.int 0)) nilA)) (binM gAdd (varM 1) (cM (.int 1)))) (consA (binM gMulT (tupM (consA (cM (.int 1)) nilA)) (binM gSub (varM 1) (cM (.int 1)))) (consA (binM gMulT (lstM (consA (cM (.int 0)) nilA)) (varM 1)) (consA (binM gAdd (tupM (consA (cM (.int 2)) nilA)) (binM gMulT (tupM (consA (cM (.int 0)) nilA)) (binM gSub (varM 1) (cM (.int 1))))) (consA (binM gMulT (tupM (consA (cM (.bl true)) nilA)) (varM 1)) (consA (binM gMulT (tupM (consA (cM .non) nilA)) (varM 1)) nilA)))))))))) (retS (callS G__law_pick (consA (varM 0) (consA (binM gCat (varM 2) (lstM (consA (cM (.dct [] [])) (consA (binM gMulT (cM (.str "0")) (varM 1)) (consA (binM gMulT (tupM (consA (unM gNeg (cM (.int 1))) nilA)) (varM 1)) (consA (binM gAdd (binM gMulT (tupM (consA (cM (.int 0)) nilA)) (binM gSub (varM 1) (cM (.int 1)))) (tupM (consA (cM (.bl false)) nilA))) nilA)))))) nilA)))))
def G__law_bad_filling (ds : List D) (S : DS) : Res (D × DS) := endS (g__law_bad_filling (startE 3 ds) S)
end My
namespace My
open PySem PySem.Spec PyProof.Rows L2 VS
def top (i : Nat) : Stmt := PySem.Challenge.pw_witnesslog_k02_opposites_and_worths.main.body.getD i (.Pass ⟨0, 0, 0, 0⟩)
structure Adr where
  a_is_number : Addr
  d_is_number : FuncData
  a_is_number_from : Addr
  d_is_number_from : FuncData
  a_is_number_between : Addr
  d_is_number_between : FuncData
  a_is_pair : Addr
  d_is_pair : FuncData
  a_is_literal_of : Addr
  d_is_literal_of : FuncData
  a_are_terms_of : Addr
  d_are_terms_of : FuncData
  a_is_row_of : Addr
  d_is_row_of : FuncData
  a_is_filling_of : Addr
  d_is_filling_of : FuncData
  a_check_many : Addr
  d_check_many : FuncData
  a_check_literal : Addr
  d_check_literal : FuncData
  a_check_row : Addr
  d_check_row : FuncData
  a_check_filling : Addr
  d_check_filling : FuncData
  a_check_few : Addr
  d_check_few : FuncData
  a_weight_sum : Addr
  d_weight_sum : FuncData
  a_total : Addr
  d_total : FuncData
  a_opposite_terms : Addr
  d_opposite_terms : FuncData
  a_opposite_row : Addr
  d_opposite_row : FuncData
  a_opposite : Addr
  d_opposite : FuncData
  a_bound_is_above : Addr
  d_bound_is_above : FuncData
  a_is_impossible : Addr
  d_is_impossible : FuncData
  a_worth_of : Addr
  d_worth_of : FuncData
  a_sum_at : Addr
  d_sum_at : FuncData
  a_holds_at : Addr
  d_holds_at : FuncData
  a_holds : Addr
  d_holds : FuncData
  a_is_filling : Addr
  d_is_filling : FuncData
  a_worth : Addr
  d_worth : FuncData
  a_tuples_of : Addr
  d_tuples_of : FuncData
  a_fillings : Addr
  d_fillings : FuncData
  a__law_begun : Addr
  d__law_begun : FuncData
  a__law_draw : Addr
  d__law_draw : FuncData
  a__law_pick : Addr
  d__law_pick : FuncData
  a__law_caught : Addr
  d__law_caught : FuncData
  a__law_odd : Addr
  d__law_odd : FuncData
  a__law_fillings : Addr
  d__law_fillings : FuncData
  a__law_worth : Addr
  d__law_worth : FuncData
  a__law_comes : Addr
  d__law_comes : FuncData
  a__law_holds : Addr
  d__law_holds : FuncData
  a__law_total : Addr
  d__law_total : FuncData
  a__law_opposite : Addr
  d__law_opposite : FuncData
  a__law_terms : Addr
  d__law_terms : FuncData
  a__law_row : Addr
  d__law_row : FuncData
  a__law_bad_many : Addr
  d__law_bad_many : FuncData
  a__law_bad_row : Addr
  d__law_bad_row : FuncData
  a__law_bad_filling : Addr
  d__law_bad_filling : FuncData
  c_BadFilling : Addr
  c_BadLiteral : Addr
  c_BadMany : Addr
  c_BadRow : Addr
  c_TooMany : Addr
  c_WitnessError : Addr
  ai_TooMany : Addr
  di_TooMany : FuncData
structure Txt (K : PySem.W.Frag) (mg : Str → Option Value) (A : Adr) : Prop where
  m_is_number : mg "is_number" = some (.ref A.a_is_number)
  f_is_number : Fun K "is_number" "is_number" (top 9) A.a_is_number A.d_is_number
  m_is_number_from : mg "is_number_from" = some (.ref A.a_is_number_from)
  f_is_number_from : Fun K "is_number_from" "is_number_from" (top 10) A.a_is_number_from A.d_is_number_from
  m_is_number_between : mg "is_number_between" = some (.ref A.a_is_number_between)
  f_is_number_between : Fun K "is_number_between" "is_number_between" (top 11) A.a_is_number_between A.d_is_number_between
  m_is_pair : mg "is_pair" = some (.ref A.a_is_pair)
  f_is_pair : Fun K "is_pair" "is_pair" (top 12) A.a_is_pair A.d_is_pair
  m_is_literal_of : mg "is_literal_of" = some (.ref A.a_is_literal_of)
  f_is_literal_of : Fun K "is_literal_of" "is_literal_of" (top 13) A.a_is_literal_of A.d_is_literal_of
  m_are_terms_of : mg "are_terms_of" = some (.ref A.a_are_terms_of)
  f_are_terms_of : Fun K "are_terms_of" "are_terms_of" (top 14) A.a_are_terms_of A.d_are_terms_of
  m_is_row_of : mg "is_row_of" = some (.ref A.a_is_row_of)
  f_is_row_of : Fun K "is_row_of" "is_row_of" (top 15) A.a_is_row_of A.d_is_row_of
  m_is_filling_of : mg "is_filling_of" = some (.ref A.a_is_filling_of)
  f_is_filling_of : Fun K "is_filling_of" "is_filling_of" (top 16) A.a_is_filling_of A.d_is_filling_of
  m_check_many : mg "check_many" = some (.ref A.a_check_many)
  f_check_many : FunDD K "check_many" "check_many" (top 17) [.int 600] A.a_check_many A.d_check_many
  m_check_literal : mg "check_literal" = some (.ref A.a_check_literal)
  f_check_literal : Fun K "check_literal" "check_literal" (top 18) A.a_check_literal A.d_check_literal
  m_check_row : mg "check_row" = some (.ref A.a_check_row)
  f_check_row : Fun K "check_row" "check_row" (top 19) A.a_check_row A.d_check_row
  m_check_filling : mg "check_filling" = some (.ref A.a_check_filling)
  f_check_filling : Fun K "check_filling" "check_filling" (top 20) A.a_check_filling A.d_check_filling
  m_check_few : mg "check_few" = some (.ref A.a_check_few)
  f_check_few : Fun K "check_few" "check_few" (top 21) A.a_check_few A.d_check_few
  m_weight_sum : mg "weight_sum" = some (.ref A.a_weight_sum)
  f_weight_sum : Fun K "weight_sum" "weight_sum" (top 27) A.a_weight_sum A.d_weight_sum
  m_total : mg "total" = some (.ref A.a_total)
  f_total : Fun K "total" "total" (top 23) A.a_total A.d_total
  m_opposite_terms : mg "opposite_terms" = some (.ref A.a_opposite_terms)
  f_opposite_terms : Fun K "opposite_terms" "opposite_terms" (top 31) A.a_opposite_terms A.d_opposite_terms
  m_opposite_row : mg "opposite_row" = some (.ref A.a_opposite_row)
  f_opposite_row : Fun K "opposite_row" "opposite_row" (top 32) A.a_opposite_row A.d_opposite_row
  m_opposite : mg "opposite" = some (.ref A.a_opposite)
  f_opposite : Fun K "opposite" "opposite" (top 24) A.a_opposite A.d_opposite
  m_bound_is_above : mg "bound_is_above" = some (.ref A.a_bound_is_above)
  f_bound_is_above : Fun K "bound_is_above" "bound_is_above" (top 33) A.a_bound_is_above A.d_bound_is_above
  m_is_impossible : mg "is_impossible" = some (.ref A.a_is_impossible)
  f_is_impossible : Fun K "is_impossible" "is_impossible" (top 25) A.a_is_impossible A.d_is_impossible
  m_worth_of : mg "worth_of" = some (.ref A.a_worth_of)
  f_worth_of : Fun K "worth_of" "worth_of" (top 28) A.a_worth_of A.d_worth_of
  m_sum_at : mg "sum_at" = some (.ref A.a_sum_at)
  f_sum_at : Fun K "sum_at" "sum_at" (top 29) A.a_sum_at A.d_sum_at
  m_holds_at : mg "holds_at" = some (.ref A.a_holds_at)
  f_holds_at : Fun K "holds_at" "holds_at" (top 30) A.a_holds_at A.d_holds_at
  m_holds : mg "holds" = some (.ref A.a_holds)
  f_holds : Fun K "holds" "holds" (top 26) A.a_holds A.d_holds
  m_is_filling : mg "is_filling" = some (.ref A.a_is_filling)
  f_is_filling : Fun K "is_filling" "is_filling" (top 36) A.a_is_filling A.d_is_filling
  m_worth : mg "worth" = some (.ref A.a_worth)
  f_worth : Fun K "worth" "worth" (top 37) A.a_worth A.d_worth
  m_tuples_of : mg "tuples_of" = some (.ref A.a_tuples_of)
  f_tuples_of : Fun K "tuples_of" "tuples_of" (top 39) A.a_tuples_of A.d_tuples_of
  m_fillings : mg "fillings" = some (.ref A.a_fillings)
  f_fillings : Fun K "fillings" "fillings" (top 38) A.a_fillings A.d_fillings
  m__law_begun : mg "_law_begun" = some (.ref A.a__law_begun)
  f__law_begun : Fun K "_law_begun" "_law_begun" (top 41) A.a__law_begun A.d__law_begun
  m__law_draw : mg "_law_draw" = some (.ref A.a__law_draw)
  f__law_draw : Fun K "_law_draw" "_law_draw" (top 42) A.a__law_draw A.d__law_draw
  m__law_pick : mg "_law_pick" = some (.ref A.a__law_pick)
  f__law_pick : Fun K "_law_pick" "_law_pick" (top 43) A.a__law_pick A.d__law_pick
  m__law_caught : mg "_law_caught" = some (.ref A.a__law_caught)
  f__law_caught : Fun K "_law_caught" "_law_caught" (top 44) A.a__law_caught A.d__law_caught
  m__law_odd : mg "_law_odd" = some (.ref A.a__law_odd)
  f__law_odd : Fun K "_law_odd" "_law_odd" (top 45) A.a__law_odd A.d__law_odd
  m__law_fillings : mg "_law_fillings" = some (.ref A.a__law_fillings)
  f__law_fillings : Fun K "_law_fillings" "_law_fillings" (top 46) A.a__law_fillings A.d__law_fillings
  m__law_worth : mg "_law_worth" = some (.ref A.a__law_worth)
  f__law_worth : Fun K "_law_worth" "_law_worth" (top 47) A.a__law_worth A.d__law_worth
  m__law_comes : mg "_law_comes" = some (.ref A.a__law_comes)
  f__law_comes : Fun K "_law_comes" "_law_comes" (top 48) A.a__law_comes A.d__law_comes
  m__law_holds : mg "_law_holds" = some (.ref A.a__law_holds)
  f__law_holds : Fun K "_law_holds" "_law_holds" (top 49) A.a__law_holds A.d__law_holds
  m__law_total : mg "_law_total" = some (.ref A.a__law_total)
  f__law_total : Fun K "_law_total" "_law_total" (top 50) A.a__law_total A.d__law_total
  m__law_opposite : mg "_law_opposite" = some (.ref A.a__law_opposite)
  f__law_opposite : Fun K "_law_opposite" "_law_opposite" (top 51) A.a__law_opposite A.d__law_opposite
  m__law_terms : mg "_law_terms" = some (.ref A.a__law_terms)
  f__law_terms : Fun K "_law_terms" "_law_terms" (top 52) A.a__law_terms A.d__law_terms
  m__law_row : mg "_law_row" = some (.ref A.a__law_row)
  f__law_row : Fun K "_law_row" "_law_row" (top 53) A.a__law_row A.d__law_row
  m__law_bad_many : mg "_law_bad_many" = some (.ref A.a__law_bad_many)
  f__law_bad_many : Fun K "_law_bad_many" "_law_bad_many" (top 54) A.a__law_bad_many A.d__law_bad_many
  m__law_bad_row : mg "_law_bad_row" = some (.ref A.a__law_bad_row)
  f__law_bad_row : Fun K "_law_bad_row" "_law_bad_row" (top 55) A.a__law_bad_row A.d__law_bad_row
  m__law_bad_filling : mg "_law_bad_filling" = some (.ref A.a__law_bad_filling)
  f__law_bad_filling : Fun K "_law_bad_filling" "_law_bad_filling" (top 56) A.a__law_bad_filling A.d__law_bad_filling
  k_BadFilling : KlsAt K mg "BadFilling" A.c_BadFilling
  k_BadLiteral : KlsAt K mg "BadLiteral" A.c_BadLiteral
  k_BadMany : KlsAt K mg "BadMany" A.c_BadMany
  k_BadRow : KlsAt K mg "BadRow" A.c_BadRow
  k_TooMany : KlsI K mg "TooMany" A.c_TooMany
  fi_TooMany : Fun K "__init__" "TooMany.__init__" (inClass (top 6)) A.ai_TooMany A.di_TooMany
  oe_TooMany : OexC K A.c_TooMany
  xf_TooMany : XfC K A.c_TooMany
  nf_TooMany : PySem.W.findIn K (.ref A.c_TooMany) "most" = some none
  ii_TooMany : PySem.W.findIn K (.ref A.c_TooMany) "__init__" = some (some (.ref A.ai_TooMany))
  ti_TooMany : PySem.W.typeIn K (.ref A.ai_TooMany) = some (.type "function")
  k_WitnessError : KlsAt K mg "WitnessError" A.c_WitnessError
  x_BadMany : ExcC K A.c_BadMany
  e_BadMany : PySem.W.exmOne K (.ref A.c_BadMany) (.ref A.c_WitnessError) = some true
  i_BadMany_BadFilling : PySem.W.kitOne K (.ref A.c_BadMany) (.ref A.c_BadFilling) = some false
  i_BadMany_BadLiteral : PySem.W.kitOne K (.ref A.c_BadMany) (.ref A.c_BadLiteral) = some false
  i_BadMany_BadMany : PySem.W.kitOne K (.ref A.c_BadMany) (.ref A.c_BadMany) = some true
  i_BadMany_BadRow : PySem.W.kitOne K (.ref A.c_BadMany) (.ref A.c_BadRow) = some false
  i_BadMany_TooMany : PySem.W.kitOne K (.ref A.c_BadMany) (.ref A.c_TooMany) = some false
  x_BadLiteral : ExcC K A.c_BadLiteral
  e_BadLiteral : PySem.W.exmOne K (.ref A.c_BadLiteral) (.ref A.c_WitnessError) = some true
  i_BadLiteral_BadFilling : PySem.W.kitOne K (.ref A.c_BadLiteral) (.ref A.c_BadFilling) = some false
  i_BadLiteral_BadLiteral : PySem.W.kitOne K (.ref A.c_BadLiteral) (.ref A.c_BadLiteral) = some true
  i_BadLiteral_BadMany : PySem.W.kitOne K (.ref A.c_BadLiteral) (.ref A.c_BadMany) = some false
  i_BadLiteral_BadRow : PySem.W.kitOne K (.ref A.c_BadLiteral) (.ref A.c_BadRow) = some false
  i_BadLiteral_TooMany : PySem.W.kitOne K (.ref A.c_BadLiteral) (.ref A.c_TooMany) = some false
  x_BadRow : ExcC K A.c_BadRow
  e_BadRow : PySem.W.exmOne K (.ref A.c_BadRow) (.ref A.c_WitnessError) = some true
  i_BadRow_BadFilling : PySem.W.kitOne K (.ref A.c_BadRow) (.ref A.c_BadFilling) = some false
  i_BadRow_BadLiteral : PySem.W.kitOne K (.ref A.c_BadRow) (.ref A.c_BadLiteral) = some false
  i_BadRow_BadMany : PySem.W.kitOne K (.ref A.c_BadRow) (.ref A.c_BadMany) = some false
  i_BadRow_BadRow : PySem.W.kitOne K (.ref A.c_BadRow) (.ref A.c_BadRow) = some true
  i_BadRow_TooMany : PySem.W.kitOne K (.ref A.c_BadRow) (.ref A.c_TooMany) = some false
  x_BadFilling : ExcC K A.c_BadFilling
  e_BadFilling : PySem.W.exmOne K (.ref A.c_BadFilling) (.ref A.c_WitnessError) = some true
  i_BadFilling_BadFilling : PySem.W.kitOne K (.ref A.c_BadFilling) (.ref A.c_BadFilling) = some true
  i_BadFilling_BadLiteral : PySem.W.kitOne K (.ref A.c_BadFilling) (.ref A.c_BadLiteral) = some false
  i_BadFilling_BadMany : PySem.W.kitOne K (.ref A.c_BadFilling) (.ref A.c_BadMany) = some false
  i_BadFilling_BadRow : PySem.W.kitOne K (.ref A.c_BadFilling) (.ref A.c_BadRow) = some false
  i_BadFilling_TooMany : PySem.W.kitOne K (.ref A.c_BadFilling) (.ref A.c_TooMany) = some false
  x_TooMany : ExcC K A.c_TooMany
  e_TooMany : PySem.W.exmOne K (.ref A.c_TooMany) (.ref A.c_WitnessError) = some true
  i_TooMany_BadFilling : PySem.W.kitOne K (.ref A.c_TooMany) (.ref A.c_BadFilling) = some false
  i_TooMany_BadLiteral : PySem.W.kitOne K (.ref A.c_TooMany) (.ref A.c_BadLiteral) = some false
  i_TooMany_BadMany : PySem.W.kitOne K (.ref A.c_TooMany) (.ref A.c_BadMany) = some false
  i_TooMany_BadRow : PySem.W.kitOne K (.ref A.c_TooMany) (.ref A.c_BadRow) = some false
  i_TooMany_TooMany : PySem.W.kitOne K (.ref A.c_TooMany) (.ref A.c_TooMany) = some true
  nn_BadFilling : PySem.W.kitOne K (.type "NoneType") (.ref A.c_BadFilling) = some false
  nn_BadLiteral : PySem.W.kitOne K (.type "NoneType") (.ref A.c_BadLiteral) = some false
  nn_BadMany : PySem.W.kitOne K (.type "NoneType") (.ref A.c_BadMany) = some false
  nn_BadRow : PySem.W.kitOne K (.type "NoneType") (.ref A.c_BadRow) = some false
  nn_TooMany : PySem.W.kitOne K (.type "NoneType") (.ref A.c_TooMany) = some false
  c_MOST_TRIED : ∃ t, mg "MOST_TRIED" = some (.int 12 t)
  g_abs : mg "abs" = none
  g_all : mg "all" = none
  g_bool : mg "bool" = none
  g_int : mg "int" = none
  g_isinstance : mg "isinstance" = none
  g_len : mg "len" = none
  g_list : mg "list" = none
  g_max : mg "max" = none
  g_min : mg "min" = none
  g_range : mg "range" = none
  g_repr : mg "repr" = none
  g_sorted : mg "sorted" = none
  g_sum : mg "sum" = none
  g_tuple : mg "tuple" = none
section
variable {P : Program} {w : World} {K : PySem.W.Frag} {mg : Str → Option Value} {base : Heap} {A : Adr}
theorem sc_ini_TooMany : FnScope ["self", "most"] ["self", "most"] (defScope (inClass (top 6))) := ⟨rfl, rfl, rfl, by decide +kernel, rfl, by decide +kernel, by decide +kernel⟩
theorem ok_ini_TooMany (T : Txt K mg A) : FnOk P w K mg base (L2.CX P w) 1 A.ai_TooMany A.di_TooMany ["self", "most"] (spIni K "most") := okIni (k := 0) T.fi_TooMany sc_ini_TooMany rfl (fun _ _ _ _ _ _ => Or.inl rfl) (fun _ _ _ _ _ _ => Or.inl rfl) (by decide) (by decide)
theorem b_ini_TooMany (T : Txt K mg A) : Binds K A.di_TooMany ["self", "most"] [] := T.fi_TooMany.binds (ps := ["self", "most"]) fun _ _ _ _ _ _ us hl => match us, hl with | [_, _], _ => rfl
theorem fld_most (T : Txt K mg A) : FldT K mg ["TooMany"] "most" := (fld_cons T.k_TooMany.g T.xf_TooMany T.nf_TooMany fld_nil)
theorem sc_is_number : FnScope ["thing"] ["thing"] (defScope (top 9)) := ⟨rfl, rfl, rfl, by decide +kernel, rfl, by decide +kernel, by decide +kernel⟩
theorem ok_is_number (T : Txt K mg A) : FnOk P w K mg base (L2.CX P w) 1 A.a_is_number A.d_is_number ["thing"] (spP K mg 1 G_is_number) := by
  refine okP [] (g := g_is_number) T.f_is_number sc_is_number rfl (by decide) (fun cdv A outer s H E l T0 hr => ?_) (fun _ _ => rfl)
  have sc := sc_is_number
  exact (ss_one (s_ret (e_and (e_isi .int (by intro h; cases h) rfl (fun te h => pe_callB call_isi (by rfl) T.g_isinstance (by decide +kernel) (pa_cons h (pa_cons (pe_bltn (by rfl) T.g_int (by decide +kernel) rfl) pa_nil))) (bE (e_var 0 (pv 0) rfl))) (e_one (e_not (e_isi .bool (by intro h; cases h) rfl (fun te h => pe_callB call_isi (by rfl) T.g_isinstance (by decide +kernel) (pa_cons h (pa_cons (pe_bltn (by rfl) T.g_bool (by decide +kernel) rfl) pa_nil))) (bE (e_var 0 (pv 0) rfl))))))))
theorem b_is_number (T : Txt K mg A) : Binds K A.d_is_number ["thing"] [] := T.f_is_number.binds (ps := ["thing"]) fun _ _ _ _ _ _ us hl => match us, hl with | [_], _ => rfl
theorem sc_is_number_from : FnScope ["least", "thing"] ["least", "thing"] (defScope (top 10)) := ⟨rfl, rfl, rfl, by decide +kernel, rfl, by decide +kernel, by decide +kernel⟩
theorem ok_is_number_from (T : Txt K mg A) : FnOk P w K mg base (L2.CX P w) 2 A.a_is_number_from A.d_is_number_from ["least", "thing"] (spP K mg 2 G_is_number_from) := by
  refine okP [] (g := g_is_number_from) T.f_is_number_from sc_is_number_from rfl (by decide) (fun cdv A outer s H E l T0 hr => ?_) (fun _ _ => rfl)
  have sc := sc_is_number_from
  exact (ss_one (s_ret (e_and (e_callP [] ⟨rfl, rfl⟩ (fun _ => Dens.nil) rfl (fun t h => pe_call (ok_is_number T) (hr.mono (by decide)) (by rfl) T.m_is_number T.f_is_number.kp (b_is_number T) .nil (passes_call (takes_of rfl rfl rfl rfl) fun _ _ _ _ h => h) h) (a_cons (e_var 1 (pv 1) rfl) a_nil) (by exact (len_cons len_nil))) (e_one (e_bin r_ge (fun t u h1 h2 => pe_cmpR op_ge h1 h2 (nomark _)) (bE (e_var 1 (pv 1) rfl)) (bE (e_var 0 (pv 0) rfl)))))))
theorem b_is_number_from (T : Txt K mg A) : Binds K A.d_is_number_from ["least", "thing"] [] := T.f_is_number_from.binds (ps := ["least", "thing"]) fun _ _ _ _ _ _ us hl => match us, hl with | [_, _], _ => rfl
theorem sc_is_number_between : FnScope ["least", "thing", "most"] ["least", "thing", "most"] (defScope (top 11)) := ⟨rfl, rfl, rfl, by decide +kernel, rfl, by decide +kernel, by decide +kernel⟩
theorem ok_is_number_between (T : Txt K mg A) : FnOk P w K mg base (L2.CX P w) 2 A.a_is_number_between A.d_is_number_between ["least", "thing", "most"] (spP K mg 3 G_is_number_between) := by
  refine okP [] (g := g_is_number_between) T.f_is_number_between sc_is_number_between rfl (by decide) (fun cdv A outer s H E l T0 hr => ?_) (fun _ _ => rfl)
  have sc := sc_is_number_between
  exact (ss_one (s_ret (e_and (e_callP [] ⟨rfl, rfl⟩ (fun _ => Dens.nil) rfl (fun t h => pe_call (ok_is_number T) (hr.mono (by decide)) (by rfl) T.m_is_number T.f_is_number.kp (b_is_number T) .nil (passes_call (takes_of rfl rfl rfl rfl) fun _ _ _ _ h => h) h) (a_cons (e_var 1 (pv 1) rfl) a_nil) (by exact (len_cons len_nil))) (e_one (e_ch r_le r_le (fun t u w h1 h2 h3 => pe_chain op_le op_le h1 h2 h3) (bE (e_var 0 (pv 0) rfl)) (bE (e_var 1 (pv 1) rfl)) (bE (e_var 2 (pv 2) rfl)))))))
theorem b_is_number_between (T : Txt K mg A) : Binds K A.d_is_number_between ["least", "thing", "most"] [] := T.f_is_number_between.binds (ps := ["least", "thing", "most"]) fun _ _ _ _ _ _ us hl => match us, hl with | [_, _, _], _ => rfl
theorem sc_is_pair : FnScope ["thing"] ["thing"] (defScope (top 12)) := ⟨rfl, rfl, rfl, by decide +kernel, rfl, by decide +kernel, by decide +kernel⟩
theorem ok_is_pair (T : Txt K mg A) : FnOk P w K mg base (L2.CX P w) 1 A.a_is_pair A.d_is_pair ["thing"] (spP K mg 1 G_is_pair) := by
  refine okP [] (g := g_is_pair) T.f_is_pair sc_is_pair rfl (by decide) (fun cdv A outer s H E l T0 hr => ?_) (fun _ _ => rfl)
  have sc := sc_is_pair
  exact (ss_one (s_ret (e_and (e_isi .tuple (by intro h; cases h) rfl (fun te h => pe_callB call_isi (by rfl) T.g_isinstance (by decide +kernel) (pa_cons h (pa_cons (pe_bltn (by rfl) T.g_tuple (by decide +kernel) rfl) pa_nil))) (bE (e_var 0 (pv 0) rfl))) (e_one (e_bin r_eq (fun t u h1 h2 => pe_cmpR (op_eqX hr.units) h1 h2 (nomark _)) (bE (e_cb r_lenA (fun t h => pe_callB cr_lenA (by rfl) T.g_len (by decide +kernel) h) (ab_cons (bE (e_var 0 (pv 0) rfl)) ab_nil))) (bE e_int))))))
theorem b_is_pair (T : Txt K mg A) : Binds K A.d_is_pair ["thing"] [] := T.f_is_pair.binds (ps := ["thing"]) fun _ _ _ _ _ _ us hl => match us, hl with | [_], _ => rfl
theorem sc_is_literal_of : FnScope ["many", "thing"] ["many", "thing"] (defScope (top 13)) := ⟨rfl, rfl, rfl, by decide +kernel, rfl, by decide +kernel, by decide +kernel⟩
theorem ok_is_literal_of (T : Txt K mg A) : FnOk P w K mg base (L2.CX P w) 3 A.a_is_literal_of A.d_is_literal_of ["many", "thing"] (spP K mg 2 G_is_literal_of) := by
  refine okP [] (g := g_is_literal_of) T.f_is_literal_of sc_is_literal_of rfl (by decide) (fun cdv A outer s H E l T0 hr => ?_) (fun _ _ => rfl)
  have sc := sc_is_literal_of
  exact (ss_one (s_ret (e_and (e_callP [] ⟨rfl, rfl⟩ (fun _ => Dens.nil) rfl (fun t h => pe_call (ok_is_number_between T) (hr.mono (by decide)) (by rfl) T.m_is_number_between T.f_is_number_between.kp (b_is_number_between T) .nil (passes_call (takes_of rfl rfl rfl rfl) fun _ _ _ _ h => h) h) (a_cons (e_un r_neg (fun t h => pe_un un_neg h) (bE (e_var 0 (pv 0) rfl))) (a_cons (e_var 1 (pv 1) rfl) (a_cons (e_var 0 (pv 0) rfl) a_nil))) (by exact (len_cons (len_cons (len_cons len_nil))))) (e_one (e_bin r_ne (fun t u h1 h2 => pe_cmpR (op_neX hr.units) h1 h2 (nomark _)) (bE (e_var 1 (pv 1) rfl)) (bE e_int))))))
theorem b_is_literal_of (T : Txt K mg A) : Binds K A.d_is_literal_of ["many", "thing"] [] := T.f_is_literal_of.binds (ps := ["many", "thing"]) fun _ _ _ _ _ _ us hl => match us, hl with | [_, _], _ => rfl
theorem sc_are_terms_of : FnScope ["many", "thing", "size", "pair", "weight", "literal"] ["many", "thing"] (defScope (top 14)) := ⟨rfl, rfl, rfl, by decide +kernel, rfl, by decide +kernel, by decide +kernel⟩
theorem ok_are_terms_of (T : Txt K mg A) : FnOk P w K mg base (L2.CX P w) 4 A.a_are_terms_of A.d_are_terms_of ["many", "thing"] (spP K mg 2 G_are_terms_of) := by
  refine okP [] (g := g_are_terms_of) T.f_are_terms_of sc_are_terms_of rfl (by decide) (fun cdv A outer s H E l T0 hr => ?_) (fun _ _ => rfl)
  have sc := sc_are_terms_of
  exact (ss_cons (s_if (t_not (t_val (e_isi .tuple (by intro h; cases h) rfl (fun te h => pe_callB call_isi (by rfl) T.g_isinstance (by decide +kernel) (pa_cons h (pa_cons (pe_bltn (by rfl) T.g_tuple (by decide +kernel) rfl) pa_nil))) (bE (e_var 1 (pv 1) rfl))))) (ss_one (s_ret e_bl)) ss_nil) (ss_cons (s_asg 2 rfl (fun te h => ps_set (i := 2) sc.nd rfl (by first | exact Or.inl rfl | exact Or.inr rfl) h) e_int) (ss_cons (s_for rfl rfl (passes_of rfl) (e_var 1 (pv 1) rfl) (pg_name (i := 3) sc.nd rfl (by first | exact Or.inl rfl | exact Or.inr rfl)) (tg_name 3 rfl) (ss_cons (s_if (t_not (t_val (e_callP [] ⟨rfl, rfl⟩ (fun _ => Dens.nil) rfl (fun t h => pe_call (ok_is_pair T) (hr.mono (by decide)) (by rfl) T.m_is_pair T.f_is_pair.kp (b_is_pair T) .nil (passes_call (takes_of rfl rfl rfl rfl) fun _ _ _ _ h => h) h) (a_cons (e_var 3 (pv 3) rfl) a_nil) (by exact (len_cons len_nil))))) (ss_one (s_ret e_bl)) ss_nil) (ss_cons (s_unp [4, 5] rfl rfl (fun te h => ps_asg h (pg_tup rfl (pgs_cons (pg_name (i := 4) sc.nd rfl (by first | exact Or.inl rfl | exact Or.inr rfl)) (pgs_cons (pg_name (i := 5) sc.nd rfl (by first | exact Or.inl rfl | exact Or.inr rfl)) pgs_nil)))) (e_var 3 (pv 3) rfl)) (ss_cons (s_if (PW.pt (w_or (t_not (t_val (e_callP [] ⟨rfl, rfl⟩ (fun _ => Dens.nil) rfl (fun t h => pe_call (ok_is_number_from T) (hr.mono (by decide)) (by rfl) T.m_is_number_from T.f_is_number_from.kp (b_is_number_from T) .nil (passes_call (takes_of rfl rfl rfl rfl) fun _ _ _ _ h => h) h) (a_cons e_int (a_cons (e_var 4 (pv 4) rfl) a_nil)) (by exact (len_cons (len_cons len_nil)))))) (w_or (t_not (t_val (e_callP [] ⟨rfl, rfl⟩ (fun _ => Dens.nil) rfl (fun t h => pe_call (ok_is_literal_of T) (hr.mono (by decide)) (by rfl) T.m_is_literal_of T.f_is_literal_of.kp (b_is_literal_of T) .nil (passes_call (takes_of rfl rfl rfl rfl) fun _ _ _ _ h => h) h) (a_cons (e_var 0 (pv 0) rfl) (a_cons (e_var 5 (pv 5) rfl) a_nil)) (by exact (len_cons (len_cons len_nil)))))) (w_or1 (t_cmp r_le op_le (bE (e_cb r_abs (fun t h => pe_callB call_abs (by rfl) T.g_abs (by decide +kernel) h) (ab_cons (bE (e_var 5 (pv 5) rfl)) ab_nil))) (bE (e_var 2 (pv 2) rfl)) (nomark _)))))) (ss_one (s_ret e_bl)) ss_nil) (ss_one (s_asg 2 rfl (fun te h => ps_set (i := 2) sc.nd rfl (by first | exact Or.inl rfl | exact Or.inr rfl) h) (e_cb r_abs (fun t h => pe_callB call_abs (by rfl) T.g_abs (by decide +kernel) h) (ab_cons (bE (e_var 5 (pv 5) rfl)) ab_nil)))))))) (ss_one (s_ret e_bl)))))
theorem b_are_terms_of (T : Txt K mg A) : Binds K A.d_are_terms_of ["many", "thing"] [] := T.f_are_terms_of.binds (ps := ["many", "thing"]) fun _ _ _ _ _ _ us hl => match us, hl with | [_, _], _ => rfl
theorem sc_is_row_of : FnScope ["many", "thing"] ["many", "thing"] (defScope (top 15)) := ⟨rfl, rfl, rfl, by decide +kernel, rfl, by decide +kernel, by decide +kernel⟩
theorem ok_is_row_of (T : Txt K mg A) : FnOk P w K mg base (L2.CX P w) 5 A.a_is_row_of A.d_is_row_of ["many", "thing"] (spP K mg 2 G_is_row_of) := by
  refine okP [] (g := g_is_row_of) T.f_is_row_of sc_is_row_of rfl (by decide) (fun cdv A outer s H E l T0 hr => ?_) (fun _ _ => rfl)
  have sc := sc_is_row_of
  exact (ss_one (s_ret (e_and (e_callP [] ⟨rfl, rfl⟩ (fun _ => Dens.nil) rfl (fun t h => pe_call (ok_is_pair T) (hr.mono (by decide)) (by rfl) T.m_is_pair T.f_is_pair.kp (b_is_pair T) .nil (passes_call (takes_of rfl rfl rfl rfl) fun _ _ _ _ h => h) h) (a_cons (e_var 1 (pv 1) rfl) a_nil) (by exact (len_cons len_nil))) (e_and (e_callP [] ⟨rfl, rfl⟩ (fun _ => Dens.nil) rfl (fun t h => pe_call (ok_are_terms_of T) (hr.mono (by decide)) (by rfl) T.m_are_terms_of T.f_are_terms_of.kp (b_are_terms_of T) .nil (passes_call (takes_of rfl rfl rfl rfl) fun _ _ _ _ h => h) h) (a_cons (e_var 0 (pv 0) rfl) (a_cons (e_bin r_ixA (fun t u h1 h2 => pe_ix (ix_all (hu_of hr)) h1 h2 (fun _ _ => rfl)) (bE (e_var 1 (pv 1) rfl)) (bE e_int)) a_nil)) (by exact (len_cons (len_cons len_nil)))) (e_one (e_callP [] ⟨rfl, rfl⟩ (fun _ => Dens.nil) rfl (fun t h => pe_call (ok_is_number_from T) (hr.mono (by decide)) (by rfl) T.m_is_number_from T.f_is_number_from.kp (b_is_number_from T) .nil (passes_call (takes_of rfl rfl rfl rfl) fun _ _ _ _ h => h) h) (a_cons e_int (a_cons (e_bin r_ixA (fun t u h1 h2 => pe_ix (ix_all (hu_of hr)) h1 h2 (fun _ _ => rfl)) (bE (e_var 1 (pv 1) rfl)) (bE e_int)) a_nil)) (by exact (len_cons (len_cons len_nil)))))))))
theorem b_is_row_of (T : Txt K mg A) : Binds K A.d_is_row_of ["many", "thing"] [] := T.f_is_row_of.binds (ps := ["many", "thing"]) fun _ _ _ _ _ _ us hl => match us, hl with | [_, _], _ => rfl
theorem sc_is_filling_of : FnScope ["many", "thing", "item"] ["many", "thing"] (defScope (top 16)) := ⟨rfl, rfl, rfl, by decide +kernel, rfl, by decide +kernel, by decide +kernel⟩
theorem ok_is_filling_of (T : Txt K mg A) : FnOk P w K mg base (L2.CX P w) 3 A.a_is_filling_of A.d_is_filling_of ["many", "thing"] (spP K mg 2 G_is_filling_of) := by
  refine okP [] (g := g_is_filling_of) T.f_is_filling_of sc_is_filling_of rfl (by decide) (fun cdv A outer s H E l T0 hr => ?_) (fun _ _ => rfl)
  have sc := sc_is_filling_of
  exact (ss_cons (s_if (PW.pt (w_or (t_not (t_val (e_isi .tuple (by intro h; cases h) rfl (fun te h => pe_callB call_isi (by rfl) T.g_isinstance (by decide +kernel) (pa_cons h (pa_cons (pe_bltn (by rfl) T.g_tuple (by decide +kernel) rfl) pa_nil))) (bE (e_var 1 (pv 1) rfl))))) (w_or1 (t_cmp r_ne (op_neX hr.units) (bE (e_cb r_lenA (fun t h => pe_callB cr_lenA (by rfl) T.g_len (by decide +kernel) h) (ab_cons (bE (e_var 1 (pv 1) rfl)) ab_nil))) (bE (e_var 0 (pv 0) rfl)) (nomark _))))) (ss_one (s_ret e_bl)) ss_nil) (ss_one (s_ret (e_cb r_all (fun t h => pe_callB (cr_all rfl) (by rfl) T.g_all (by decide +kernel) h) (ab_cons (bE (nE (n_lc rfl (tg_name 2 rfl) rfl rfl (fun wi hi => pe_lc (own := [("item", 2)]) rfl sc.nd hi (blkOk_by (N := ["many", "thing", "item"]) (sc := defScope (top 16)) (by decide +kernel)) (fun _ _ _ _ _ => (pg_name (i := 2) sc.nd rfl (by first | exact Or.inl rfl | exact Or.inr rfl))) (fun _ _ _ _ _ => tYes_ok) (fun _ _ _ _ _ => (e_callP [] ⟨rfl, rfl⟩ (fun _ => Dens.nil) rfl (fun t h => pe_call (ok_is_number_between T) (hr.mono (by decide)) (by rfl) T.m_is_number_between T.f_is_number_between.kp (b_is_number_between T) .nil passL h) (a_cons e_int (a_cons (e_var 2 (pv 2) rfl) (a_cons e_int a_nil))) (by exact (len_cons (len_cons (len_cons len_nil))))))) (bE (e_var 1 (pv 1) rfl))))) ab_nil)))))
theorem b_is_filling_of (T : Txt K mg A) : Binds K A.d_is_filling_of ["many", "thing"] [] := T.f_is_filling_of.binds (ps := ["many", "thing"]) fun _ _ _ _ _ _ us hl => match us, hl with | [_, _], _ => rfl
theorem sc_check_many : FnScope ["many", "most"] ["many", "most"] (defScope (top 17)) := ⟨rfl, rfl, rfl, by decide +kernel, rfl, by decide +kernel, by decide +kernel⟩
theorem ok_check_many (T : Txt K mg A) : FnOk P w K mg base (L2.CX P w) 3 A.a_check_many A.d_check_many ["many", "most"] (spP K mg 2 G_check_many) := by
  refine okPD [] (g := g_check_many) T.f_check_many sc_check_many rfl (by decide) (fun cdv A outer s H E l T0 hr => ?_) (fun _ _ => rfl)
  have sc := sc_check_many
  exact (ss_one (s_if (t_not (t_val (e_callP [] ⟨rfl, rfl⟩ (fun _ => Dens.nil) rfl (fun t h => pe_call (ok_is_number_between T) (hr.mono (by decide)) (by rfl) T.m_is_number_between T.f_is_number_between.kp (b_is_number_between T) .nil (passes_call (takes_of rfl rfl rfl rfl) fun _ _ _ _ h => h) h) (a_cons e_int (a_cons (e_var 0 (pv 0) rfl) (a_cons (e_var 1 (pv 1) rfl) a_nil))) (by exact (len_cons (len_cons (len_cons len_nil))))))) (ss_one (s_raise T.k_BadMany.g (ps_raise rfl (takes_of rfl rfl rfl rfl) (pmk_own PySem.F.excBase_ValueError T.k_BadMany.x T.k_BadMany.g T.k_BadMany.k (raises_own T.k_BadMany.b T.k_BadMany.t) (by exact rfl))))) ss_nil))
theorem b_check_many (T : Txt K mg A) : ∃ ds, Vals [.int 600] ds ∧ Binds K A.d_check_many ["many", "most"] ds := T.f_check_many.binds1 1 0 (by simp) rfl fun T' kV doc pm an cdv ct us its h1 h2 => match us, its, h1, h2 with | [_], [_], _, _ => ⟨_, rfl, rfl⟩
theorem sc_check_literal : FnScope ["many", "literal"] ["many", "literal"] (defScope (top 18)) := ⟨rfl, rfl, rfl, by decide +kernel, rfl, by decide +kernel, by decide +kernel⟩
theorem ok_check_literal (T : Txt K mg A) : FnOk P w K mg base (L2.CX P w) 4 A.a_check_literal A.d_check_literal ["many", "literal"] (spP K mg 2 G_check_literal) := by
  refine okP [] (g := g_check_literal) T.f_check_literal sc_check_literal rfl (by decide) (fun cdv A outer s H E l T0 hr => ?_) (fun _ _ => rfl)
  have sc := sc_check_literal
  exact (ss_one (s_if (t_not (t_val (e_callP [] ⟨rfl, rfl⟩ (fun _ => Dens.nil) rfl (fun t h => pe_call (ok_is_literal_of T) (hr.mono (by decide)) (by rfl) T.m_is_literal_of T.f_is_literal_of.kp (b_is_literal_of T) .nil (passes_call (takes_of rfl rfl rfl rfl) fun _ _ _ _ h => h) h) (a_cons (e_var 0 (pv 0) rfl) (a_cons (e_var 1 (pv 1) rfl) a_nil)) (by exact (len_cons (len_cons len_nil)))))) (ss_one (s_raise T.k_BadLiteral.g (ps_raise rfl (takes_of rfl rfl rfl rfl) (pmk_own PySem.F.excBase_ValueError T.k_BadLiteral.x T.k_BadLiteral.g T.k_BadLiteral.k (raises_own T.k_BadLiteral.b T.k_BadLiteral.t) (by exact rfl))))) ss_nil))
theorem b_check_literal (T : Txt K mg A) : Binds K A.d_check_literal ["many", "literal"] [] := T.f_check_literal.binds (ps := ["many", "literal"]) fun _ _ _ _ _ _ us hl => match us, hl with | [_, _], _ => rfl
theorem sc_check_row : FnScope ["many", "row"] ["many", "row"] (defScope (top 19)) := ⟨rfl, rfl, rfl, by decide +kernel, rfl, by decide +kernel, by decide +kernel⟩
theorem ok_check_row (T : Txt K mg A) : FnOk P w K mg base (L2.CX P w) 6 A.a_check_row A.d_check_row ["many", "row"] (spP K mg 2 G_check_row) := by
  refine okP [] (g := g_check_row) T.f_check_row sc_check_row rfl (by decide) (fun cdv A outer s H E l T0 hr => ?_) (fun _ _ => rfl)
  have sc := sc_check_row
  exact (ss_one (s_if (t_not (t_val (e_callP [] ⟨rfl, rfl⟩ (fun _ => Dens.nil) rfl (fun t h => pe_call (ok_is_row_of T) (hr.mono (by decide)) (by rfl) T.m_is_row_of T.f_is_row_of.kp (b_is_row_of T) .nil (passes_call (takes_of rfl rfl rfl rfl) fun _ _ _ _ h => h) h) (a_cons (e_var 0 (pv 0) rfl) (a_cons (e_var 1 (pv 1) rfl) a_nil)) (by exact (len_cons (len_cons len_nil)))))) (ss_one (s_raise T.k_BadRow.g (ps_raise rfl (takes_of rfl rfl rfl rfl) (pmk_own PySem.F.excBase_ValueError T.k_BadRow.x T.k_BadRow.g T.k_BadRow.k (raises_own T.k_BadRow.b T.k_BadRow.t) (by exact rfl))))) ss_nil))
theorem b_check_row (T : Txt K mg A) : Binds K A.d_check_row ["many", "row"] [] := T.f_check_row.binds (ps := ["many", "row"]) fun _ _ _ _ _ _ us hl => match us, hl with | [_, _], _ => rfl
theorem sc_check_filling : FnScope ["many", "filling"] ["many", "filling"] (defScope (top 20)) := ⟨rfl, rfl, rfl, by decide +kernel, rfl, by decide +kernel, by decide +kernel⟩
theorem ok_check_filling (T : Txt K mg A) : FnOk P w K mg base (L2.CX P w) 4 A.a_check_filling A.d_check_filling ["many", "filling"] (spP K mg 2 G_check_filling) := by
  refine okP [] (g := g_check_filling) T.f_check_filling sc_check_filling rfl (by decide) (fun cdv A outer s H E l T0 hr => ?_) (fun _ _ => rfl)
  have sc := sc_check_filling
  exact (ss_one (s_if (t_not (t_val (e_callP [] ⟨rfl, rfl⟩ (fun _ => Dens.nil) rfl (fun t h => pe_call (ok_is_filling_of T) (hr.mono (by decide)) (by rfl) T.m_is_filling_of T.f_is_filling_of.kp (b_is_filling_of T) .nil (passes_call (takes_of rfl rfl rfl rfl) fun _ _ _ _ h => h) h) (a_cons (e_var 0 (pv 0) rfl) (a_cons (e_var 1 (pv 1) rfl) a_nil)) (by exact (len_cons (len_cons len_nil)))))) (ss_one (s_raise T.k_BadFilling.g (ps_raise rfl (takes_of rfl rfl rfl rfl) (pmk_own PySem.F.excBase_ValueError T.k_BadFilling.x T.k_BadFilling.g T.k_BadFilling.k (raises_own T.k_BadFilling.b T.k_BadFilling.t) (by exact rfl))))) ss_nil))
theorem b_check_filling (T : Txt K mg A) : Binds K A.d_check_filling ["many", "filling"] [] := T.f_check_filling.binds (ps := ["many", "filling"]) fun _ _ _ _ _ _ us hl => match us, hl with | [_, _], _ => rfl
theorem sc_check_few : FnScope ["count", "most"] ["count", "most"] (defScope (top 21)) := ⟨rfl, rfl, rfl, by decide +kernel, rfl, by decide +kernel, by decide +kernel⟩
theorem ok_check_few (T : Txt K mg A) : FnOk P w K mg base (L2.CX P w) 3 A.a_check_few A.d_check_few ["count", "most"] (spP K mg 2 G_check_few) := by
  refine okP [] (g := g_check_few) T.f_check_few sc_check_few rfl (by decide) (fun cdv A outer s H E l T0 hr => ?_) (fun _ _ => rfl)
  have sc := sc_check_few
  exact (ss_one (s_if (t_cmp r_gt op_gt (bE (e_var 0 (pv 0) rfl)) (bE (e_var 1 (pv 1) rfl)) (nomark _)) (ss_one (s_raiseF T.k_TooMany.g T.oe_TooMany T.nf_TooMany (fun ta h => ps_raise rfl (takes_of rfl rfl rfl rfl) (pmk_oex T.oe_TooMany T.ii_TooMany T.ti_TooMany (ok_ini_TooMany T) (hr.mono (by decide)) (b_ini_TooMany T) .nil (passes_call (takes_of rfl rfl rfl rfl) fun _ _ _ _ h => h.elim) (by rfl) T.k_TooMany.g h)) (a_cons (e_var 1 (pv 1) rfl) a_nil))) ss_nil))
theorem b_check_few (T : Txt K mg A) : Binds K A.d_check_few ["count", "most"] [] := T.f_check_few.binds (ps := ["count", "most"]) fun _ _ _ _ _ _ us hl => match us, hl with | [_, _], _ => rfl
theorem sc_weight_sum : FnScope ["terms", "weight", "_"] ["terms"] (defScope (top 27)) := ⟨rfl, rfl, rfl, by decide +kernel, rfl, by decide +kernel, by decide +kernel⟩
theorem ok_weight_sum (T : Txt K mg A) : FnOk P w K mg base (L2.CX P w) 1 A.a_weight_sum A.d_weight_sum ["terms"] (spP K mg 1 G_weight_sum) := by
  refine okP [] (g := g_weight_sum) T.f_weight_sum sc_weight_sum rfl (by decide) (fun cdv A outer s H E l T0 hr => ?_) (fun _ _ => rfl)
  have sc := sc_weight_sum
  exact (ss_one (s_ret (e_cb r_sum (fun t h => pe_callB (cr_sum rfl) (by rfl) T.g_sum (by decide +kernel) h) (ab_cons (bE (nE (n_lc rfl (tg_tup [1, 2] rfl rfl) rfl rfl (fun wi hi => pe_lc (own := [("weight", 1), ("_", 2)]) rfl sc.nd hi (blkOk_by (N := ["terms", "weight", "_"]) (sc := defScope (top 27)) (by decide +kernel)) (fun _ _ _ _ _ => (pg_tup rfl (pgs_cons (pg_name (i := 1) sc.nd rfl (by first | exact Or.inl rfl | exact Or.inr rfl)) (pgs_cons (pg_name (i := 2) sc.nd rfl (by first | exact Or.inl rfl | exact Or.inr rfl)) pgs_nil)))) (fun _ _ _ _ _ => tYes_ok) (fun _ _ _ _ _ => (e_var 1 (pv 1) rfl))) (bE (e_var 0 (pv 0) rfl))))) ab_nil))))
theorem b_weight_sum (T : Txt K mg A) : Binds K A.d_weight_sum ["terms"] [] := T.f_weight_sum.binds (ps := ["terms"]) fun _ _ _ _ _ _ us hl => match us, hl with | [_], _ => rfl
theorem sc_total : FnScope ["many", "row"] ["many", "row"] (defScope (top 23)) := ⟨rfl, rfl, rfl, by decide +kernel, rfl, by decide +kernel, by decide +kernel⟩
theorem ok_total (T : Txt K mg A) : FnOk P w K mg base (L2.CX P w) 7 A.a_total A.d_total ["many", "row"] (spP K mg 2 G_total) := by
  refine okP [] (g := g_total) T.f_total sc_total rfl (by decide) (fun cdv A outer s H E l T0 hr => ?_) (fun _ _ => rfl)
  have sc := sc_total
  exact (ss_cons (s_drop (e_callP [.int 600] ⟨rfl, rfl⟩ (fun _ => Dens.of_ints [600]) rfl (fun t h => pe_call (ok_check_many T) (hr.mono (by decide)) (by rfl) T.m_check_many T.f_check_many.kp (b_check_many T).choose_spec.2 (b_check_many T).choose_spec.1 (passes_call (takes_of rfl rfl rfl rfl) fun _ _ _ _ h => h) h) (a_cons (e_var 0 (pv 0) rfl) a_nil) (by exact (len_cons len_nil)))) (ss_cons (s_drop (e_callP [] ⟨rfl, rfl⟩ (fun _ => Dens.nil) rfl (fun t h => pe_call (ok_check_row T) (hr.mono (by decide)) (by rfl) T.m_check_row T.f_check_row.kp (b_check_row T) .nil (passes_call (takes_of rfl rfl rfl rfl) fun _ _ _ _ h => h) h) (a_cons (e_var 0 (pv 0) rfl) (a_cons (e_var 1 (pv 1) rfl) a_nil)) (by exact (len_cons (len_cons len_nil))))) (ss_one (s_ret (e_callP [] ⟨rfl, rfl⟩ (fun _ => Dens.nil) rfl (fun t h => pe_call (ok_weight_sum T) (hr.mono (by decide)) (by rfl) T.m_weight_sum T.f_weight_sum.kp (b_weight_sum T) .nil (passes_call (takes_of rfl rfl rfl rfl) fun _ _ _ _ h => h) h) (a_cons (e_bin r_ixA (fun t u h1 h2 => pe_ix (ix_all (hu_of hr)) h1 h2 (fun _ _ => rfl)) (bE (e_var 1 (pv 1) rfl)) (bE e_int)) a_nil) (by exact (len_cons len_nil)))))))
theorem b_total (T : Txt K mg A) : Binds K A.d_total ["many", "row"] [] := T.f_total.binds (ps := ["many", "row"]) fun _ _ _ _ _ _ us hl => match us, hl with | [_, _], _ => rfl
theorem sc_opposite_terms : FnScope ["terms", "weight", "literal"] ["terms"] (defScope (top 31)) := ⟨rfl, rfl, rfl, by decide +kernel, rfl, by decide +kernel, by decide +kernel⟩
theorem ok_opposite_terms (T : Txt K mg A) : FnOk P w K mg base (L2.CX P w) 1 A.a_opposite_terms A.d_opposite_terms ["terms"] (spP K mg 1 G_opposite_terms) := by
  refine okP [] (g := g_opposite_terms) T.f_opposite_terms sc_opposite_terms rfl (by decide) (fun cdv A outer s H E l T0 hr => ?_) (fun _ _ => rfl)
  have sc := sc_opposite_terms
  exact (ss_one (s_ret (e_cb r_tuple (fun t h => pe_callTy call_tuple_of (by rfl) T.g_tuple (by decide +kernel) h) (ab_cons (bE (nE (n_lc rfl (tg_tup [1, 2] rfl rfl) rfl rfl (fun wi hi => pe_lc (own := [("weight", 1), ("literal", 2)]) rfl sc.nd hi (blkOk_by (N := ["terms", "weight", "literal"]) (sc := defScope (top 31)) (by decide +kernel)) (fun _ _ _ _ _ => (pg_tup rfl (pgs_cons (pg_name (i := 1) sc.nd rfl (by first | exact Or.inl rfl | exact Or.inr rfl)) (pgs_cons (pg_name (i := 2) sc.nd rfl (by first | exact Or.inl rfl | exact Or.inr rfl)) pgs_nil)))) (fun _ _ _ _ _ => tYes_ok) (fun _ _ _ _ _ => (e_tup (a_cons (e_var 1 (pv 1) rfl) (a_cons (e_un r_neg (fun t h => pe_un un_neg h) (bE (e_var 2 (pv 2) rfl))) a_nil))))) (bE (e_var 0 (pv 0) rfl))))) ab_nil))))
theorem b_opposite_terms (T : Txt K mg A) : Binds K A.d_opposite_terms ["terms"] [] := T.f_opposite_terms.binds (ps := ["terms"]) fun _ _ _ _ _ _ us hl => match us, hl with | [_], _ => rfl
theorem sc_opposite_row : FnScope ["row", "terms", "bound"] ["row"] (defScope (top 32)) := ⟨rfl, rfl, rfl, by decide +kernel, rfl, by decide +kernel, by decide +kernel⟩
theorem ok_opposite_row (T : Txt K mg A) : FnOk P w K mg base (L2.CX P w) 2 A.a_opposite_row A.d_opposite_row ["row"] (spP K mg 1 G_opposite_row) := by
  refine okP [] (g := g_opposite_row) T.f_opposite_row sc_opposite_row rfl (by decide) (fun cdv A outer s H E l T0 hr => ?_) (fun _ _ => rfl)
  have sc := sc_opposite_row
  exact (ss_cons (s_unp [1, 2] rfl rfl (fun te h => ps_asg h (pg_tup rfl (pgs_cons (pg_name (i := 1) sc.nd rfl (by first | exact Or.inl rfl | exact Or.inr rfl)) (pgs_cons (pg_name (i := 2) sc.nd rfl (by first | exact Or.inl rfl | exact Or.inr rfl)) pgs_nil)))) (e_var 0 (pv 0) rfl)) (ss_one (s_ret (e_tup (a_cons (e_callP [] ⟨rfl, rfl⟩ (fun _ => Dens.nil) rfl (fun t h => pe_call (ok_opposite_terms T) (hr.mono (by decide)) (by rfl) T.m_opposite_terms T.f_opposite_terms.kp (b_opposite_terms T) .nil (passes_call (takes_of rfl rfl rfl rfl) fun _ _ _ _ h => h) h) (a_cons (e_var 1 (pv 1) rfl) a_nil) (by exact (len_cons len_nil))) (a_cons (e_cb r_2I (fun t h => pe_callB (call_max2 rfl) (by rfl) T.g_max (by decide +kernel) h) (ab_cons (bE e_int) (ab_cons (bE (e_bin r_add (fun t u h1 h2 => pe_op op_addA h1 h2) (bE (e_bin r_sub (fun t u h1 h2 => pe_op op_sub h1 h2) (bE (e_callP [] ⟨rfl, rfl⟩ (fun _ => Dens.nil) rfl (fun t h => pe_call (ok_weight_sum T) (hr.mono (by decide)) (by rfl) T.m_weight_sum T.f_weight_sum.kp (b_weight_sum T) .nil (passes_call (takes_of rfl rfl rfl rfl) fun _ _ _ _ h => h) h) (a_cons (e_var 1 (pv 1) rfl) a_nil) (by exact (len_cons len_nil)))) (bE (e_var 2 (pv 2) rfl)))) (bE e_int))) ab_nil))) a_nil))))))
theorem b_opposite_row (T : Txt K mg A) : Binds K A.d_opposite_row ["row"] [] := T.f_opposite_row.binds (ps := ["row"]) fun _ _ _ _ _ _ us hl => match us, hl with | [_], _ => rfl
theorem sc_opposite : FnScope ["many", "row"] ["many", "row"] (defScope (top 24)) := ⟨rfl, rfl, rfl, by decide +kernel, rfl, by decide +kernel, by decide +kernel⟩
theorem ok_opposite (T : Txt K mg A) : FnOk P w K mg base (L2.CX P w) 7 A.a_opposite A.d_opposite ["many", "row"] (spP K mg 2 G_opposite) := by
  refine okP [] (g := g_opposite) T.f_opposite sc_opposite rfl (by decide) (fun cdv A outer s H E l T0 hr => ?_) (fun _ _ => rfl)
  have sc := sc_opposite
  exact (ss_cons (s_drop (e_callP [.int 600] ⟨rfl, rfl⟩ (fun _ => Dens.of_ints [600]) rfl (fun t h => pe_call (ok_check_many T) (hr.mono (by decide)) (by rfl) T.m_check_many T.f_check_many.kp (b_check_many T).choose_spec.2 (b_check_many T).choose_spec.1 (passes_call (takes_of rfl rfl rfl rfl) fun _ _ _ _ h => h) h) (a_cons (e_var 0 (pv 0) rfl) a_nil) (by exact (len_cons len_nil)))) (ss_cons (s_drop (e_callP [] ⟨rfl, rfl⟩ (fun _ => Dens.nil) rfl (fun t h => pe_call (ok_check_row T) (hr.mono (by decide)) (by rfl) T.m_check_row T.f_check_row.kp (b_check_row T) .nil (passes_call (takes_of rfl rfl rfl rfl) fun _ _ _ _ h => h) h) (a_cons (e_var 0 (pv 0) rfl) (a_cons (e_var 1 (pv 1) rfl) a_nil)) (by exact (len_cons (len_cons len_nil))))) (ss_one (s_ret (e_callP [] ⟨rfl, rfl⟩ (fun _ => Dens.nil) rfl (fun t h => pe_call (ok_opposite_row T) (hr.mono (by decide)) (by rfl) T.m_opposite_row T.f_opposite_row.kp (b_opposite_row T) .nil (passes_call (takes_of rfl rfl rfl rfl) fun _ _ _ _ h => h) h) (a_cons (e_var 1 (pv 1) rfl) a_nil) (by exact (len_cons len_nil)))))))
theorem b_opposite (T : Txt K mg A) : Binds K A.d_opposite ["many", "row"] [] := T.f_opposite.binds (ps := ["many", "row"]) fun _ _ _ _ _ _ us hl => match us, hl with | [_, _], _ => rfl
theorem sc_bound_is_above : FnScope ["row"] ["row"] (defScope (top 33)) := ⟨rfl, rfl, rfl, by decide +kernel, rfl, by decide +kernel, by decide +kernel⟩
theorem ok_bound_is_above (T : Txt K mg A) : FnOk P w K mg base (L2.CX P w) 2 A.a_bound_is_above A.d_bound_is_above ["row"] (spP K mg 1 G_bound_is_above) := by
  refine okP [] (g := g_bound_is_above) T.f_bound_is_above sc_bound_is_above rfl (by decide) (fun cdv A outer s H E l T0 hr => ?_) (fun _ _ => rfl)
  have sc := sc_bound_is_above
  exact (ss_one (s_ret (e_bin r_gt (fun t u h1 h2 => pe_cmpR op_gt h1 h2 (nomark _)) (bE (e_bin r_ixA (fun t u h1 h2 => pe_ix (ix_all (hu_of hr)) h1 h2 (fun _ _ => rfl)) (bE (e_var 0 (pv 0) rfl)) (bE e_int))) (bE (e_callP [] ⟨rfl, rfl⟩ (fun _ => Dens.nil) rfl (fun t h => pe_call (ok_weight_sum T) (hr.mono (by decide)) (by rfl) T.m_weight_sum T.f_weight_sum.kp (b_weight_sum T) .nil (passes_call (takes_of rfl rfl rfl rfl) fun _ _ _ _ h => h) h) (a_cons (e_bin r_ixA (fun t u h1 h2 => pe_ix (ix_all (hu_of hr)) h1 h2 (fun _ _ => rfl)) (bE (e_var 0 (pv 0) rfl)) (bE e_int)) a_nil) (by exact (len_cons len_nil)))))))
theorem b_bound_is_above (T : Txt K mg A) : Binds K A.d_bound_is_above ["row"] [] := T.f_bound_is_above.binds (ps := ["row"]) fun _ _ _ _ _ _ us hl => match us, hl with | [_], _ => rfl
theorem sc_is_impossible : FnScope ["many", "row"] ["many", "row"] (defScope (top 25)) := ⟨rfl, rfl, rfl, by decide +kernel, rfl, by decide +kernel, by decide +kernel⟩
theorem ok_is_impossible (T : Txt K mg A) : FnOk P w K mg base (L2.CX P w) 7 A.a_is_impossible A.d_is_impossible ["many", "row"] (spP K mg 2 G_is_impossible) := by
  refine okP [] (g := g_is_impossible) T.f_is_impossible sc_is_impossible rfl (by decide) (fun cdv A outer s H E l T0 hr => ?_) (fun _ _ => rfl)
  have sc := sc_is_impossible
  exact (ss_cons (s_drop (e_callP [.int 600] ⟨rfl, rfl⟩ (fun _ => Dens.of_ints [600]) rfl (fun t h => pe_call (ok_check_many T) (hr.mono (by decide)) (by rfl) T.m_check_many T.f_check_many.kp (b_check_many T).choose_spec.2 (b_check_many T).choose_spec.1 (passes_call (takes_of rfl rfl rfl rfl) fun _ _ _ _ h => h) h) (a_cons (e_var 0 (pv 0) rfl) a_nil) (by exact (len_cons len_nil)))) (ss_cons (s_drop (e_callP [] ⟨rfl, rfl⟩ (fun _ => Dens.nil) rfl (fun t h => pe_call (ok_check_row T) (hr.mono (by decide)) (by rfl) T.m_check_row T.f_check_row.kp (b_check_row T) .nil (passes_call (takes_of rfl rfl rfl rfl) fun _ _ _ _ h => h) h) (a_cons (e_var 0 (pv 0) rfl) (a_cons (e_var 1 (pv 1) rfl) a_nil)) (by exact (len_cons (len_cons len_nil))))) (ss_one (s_ret (e_callP [] ⟨rfl, rfl⟩ (fun _ => Dens.nil) rfl (fun t h => pe_call (ok_bound_is_above T) (hr.mono (by decide)) (by rfl) T.m_bound_is_above T.f_bound_is_above.kp (b_bound_is_above T) .nil (passes_call (takes_of rfl rfl rfl rfl) fun _ _ _ _ h => h) h) (a_cons (e_var 1 (pv 1) rfl) a_nil) (by exact (len_cons len_nil)))))))
theorem b_is_impossible (T : Txt K mg A) : Binds K A.d_is_impossible ["many", "row"] [] := T.f_is_impossible.binds (ps := ["many", "row"]) fun _ _ _ _ _ _ us hl => match us, hl with | [_, _], _ => rfl
theorem sc_worth_of : FnScope ["literal", "filling", "worth"] ["literal", "filling"] (defScope (top 28)) := ⟨rfl, rfl, rfl, by decide +kernel, rfl, by decide +kernel, by decide +kernel⟩
theorem ok_worth_of (T : Txt K mg A) : FnOk P w K mg base (L2.CX P w) 1 A.a_worth_of A.d_worth_of ["literal", "filling"] (spP K mg 2 G_worth_of) := by
  refine okP [] (g := g_worth_of) T.f_worth_of sc_worth_of rfl (by decide) (fun cdv A outer s H E l T0 hr => ?_) (fun _ _ => rfl)
  have sc := sc_worth_of
  exact (ss_cons (s_asg 2 rfl (fun te h => ps_set (i := 2) sc.nd rfl (by first | exact Or.inl rfl | exact Or.inr rfl) h) (e_bin r_ixA (fun t u h1 h2 => pe_ix (ix_all (hu_of hr)) h1 h2 (fun _ _ => rfl)) (bE (e_var 1 (pv 1) rfl)) (bE (e_bin r_sub (fun t u h1 h2 => pe_op op_sub h1 h2) (bE (e_cb r_abs (fun t h => pe_callB call_abs (by rfl) T.g_abs (by decide +kernel) h) (ab_cons (bE (e_var 0 (pv 0) rfl)) ab_nil))) (bE e_int))))) (ss_cons (s_if (t_cmp r_gt op_gt (bE (e_var 0 (pv 0) rfl)) (bE e_int) (nomark _)) (ss_one (s_ret (e_var 2 (pv 2) rfl))) ss_nil) (ss_one (s_ret (e_bin r_sub (fun t u h1 h2 => pe_op op_sub h1 h2) (bE e_int) (bE (e_var 2 (pv 2) rfl)))))))
theorem b_worth_of (T : Txt K mg A) : Binds K A.d_worth_of ["literal", "filling"] [] := T.f_worth_of.binds (ps := ["literal", "filling"]) fun _ _ _ _ _ _ us hl => match us, hl with | [_, _], _ => rfl
theorem sc_sum_at : FnScope ["terms", "filling", "weight", "literal"] ["terms", "filling"] (defScope (top 29)) := ⟨rfl, rfl, rfl, by decide +kernel, rfl, by decide +kernel, by decide +kernel⟩
theorem ok_sum_at (T : Txt K mg A) : FnOk P w K mg base (L2.CX P w) 2 A.a_sum_at A.d_sum_at ["terms", "filling"] (spP K mg 2 G_sum_at) := by
  refine okP [] (g := g_sum_at) T.f_sum_at sc_sum_at rfl (by decide) (fun cdv A outer s H E l T0 hr => ?_) (fun _ _ => rfl)
  have sc := sc_sum_at
  exact (ss_one (s_ret (e_cb r_sum (fun t h => pe_callB (cr_sum rfl) (by rfl) T.g_sum (by decide +kernel) h) (ab_cons (bE (nE (n_lc rfl (tg_tup [2, 3] rfl rfl) rfl rfl (fun wi hi => pe_lc (own := [("weight", 2), ("literal", 3)]) rfl sc.nd hi (blkOk_by (N := ["terms", "filling", "weight", "literal"]) (sc := defScope (top 29)) (by decide +kernel)) (fun _ _ _ _ _ => (pg_tup rfl (pgs_cons (pg_name (i := 2) sc.nd rfl (by first | exact Or.inl rfl | exact Or.inr rfl)) (pgs_cons (pg_name (i := 3) sc.nd rfl (by first | exact Or.inl rfl | exact Or.inr rfl)) pgs_nil)))) (fun _ _ _ _ _ => (tOne_ok (t_cmp r_eq (op_eqX hr.units) (bE (e_callP [] ⟨rfl, rfl⟩ (fun _ => Dens.nil) rfl (fun t h => pe_call (ok_worth_of T) (hr.mono (by decide)) (by rfl) T.m_worth_of T.f_worth_of.kp (b_worth_of T) .nil passL h) (a_cons (e_var 3 (pv 3) rfl) (a_cons (e_var 1 (pv 1) rfl) a_nil)) (by exact (len_cons (len_cons len_nil))))) (bE e_int) (nomark _)))) (fun _ _ _ _ _ => (e_var 2 (pv 2) rfl))) (bE (e_var 0 (pv 0) rfl))))) ab_nil))))
theorem b_sum_at (T : Txt K mg A) : Binds K A.d_sum_at ["terms", "filling"] [] := T.f_sum_at.binds (ps := ["terms", "filling"]) fun _ _ _ _ _ _ us hl => match us, hl with | [_, _], _ => rfl
theorem sc_holds_at : FnScope ["row", "filling"] ["row", "filling"] (defScope (top 30)) := ⟨rfl, rfl, rfl, by decide +kernel, rfl, by decide +kernel, by decide +kernel⟩
theorem ok_holds_at (T : Txt K mg A) : FnOk P w K mg base (L2.CX P w) 3 A.a_holds_at A.d_holds_at ["row", "filling"] (spP K mg 2 G_holds_at) := by
  refine okP [] (g := g_holds_at) T.f_holds_at sc_holds_at rfl (by decide) (fun cdv A outer s H E l T0 hr => ?_) (fun _ _ => rfl)
  have sc := sc_holds_at
  exact (ss_one (s_ret (e_bin r_ge (fun t u h1 h2 => pe_cmpR op_ge h1 h2 (nomark _)) (bE (e_callP [] ⟨rfl, rfl⟩ (fun _ => Dens.nil) rfl (fun t h => pe_call (ok_sum_at T) (hr.mono (by decide)) (by rfl) T.m_sum_at T.f_sum_at.kp (b_sum_at T) .nil (passes_call (takes_of rfl rfl rfl rfl) fun _ _ _ _ h => h) h) (a_cons (e_bin r_ixA (fun t u h1 h2 => pe_ix (ix_all (hu_of hr)) h1 h2 (fun _ _ => rfl)) (bE (e_var 0 (pv 0) rfl)) (bE e_int)) (a_cons (e_var 1 (pv 1) rfl) a_nil)) (by exact (len_cons (len_cons len_nil))))) (bE (e_bin r_ixA (fun t u h1 h2 => pe_ix (ix_all (hu_of hr)) h1 h2 (fun _ _ => rfl)) (bE (e_var 0 (pv 0) rfl)) (bE e_int))))))
theorem b_holds_at (T : Txt K mg A) : Binds K A.d_holds_at ["row", "filling"] [] := T.f_holds_at.binds (ps := ["row", "filling"]) fun _ _ _ _ _ _ us hl => match us, hl with | [_, _], _ => rfl
theorem sc_holds : FnScope ["many", "row", "filling"] ["many", "row", "filling"] (defScope (top 26)) := ⟨rfl, rfl, rfl, by decide +kernel, rfl, by decide +kernel, by decide +kernel⟩
theorem ok_holds (T : Txt K mg A) : FnOk P w K mg base (L2.CX P w) 7 A.a_holds A.d_holds ["many", "row", "filling"] (spP K mg 3 G_holds) := by
  refine okP [] (g := g_holds) T.f_holds sc_holds rfl (by decide) (fun cdv A outer s H E l T0 hr => ?_) (fun _ _ => rfl)
  have sc := sc_holds
  exact (ss_cons (s_drop (e_callP [.int 600] ⟨rfl, rfl⟩ (fun _ => Dens.of_ints [600]) rfl (fun t h => pe_call (ok_check_many T) (hr.mono (by decide)) (by rfl) T.m_check_many T.f_check_many.kp (b_check_many T).choose_spec.2 (b_check_many T).choose_spec.1 (passes_call (takes_of rfl rfl rfl rfl) fun _ _ _ _ h => h) h) (a_cons (e_var 0 (pv 0) rfl) a_nil) (by exact (len_cons len_nil)))) (ss_cons (s_drop (e_callP [] ⟨rfl, rfl⟩ (fun _ => Dens.nil) rfl (fun t h => pe_call (ok_check_row T) (hr.mono (by decide)) (by rfl) T.m_check_row T.f_check_row.kp (b_check_row T) .nil (passes_call (takes_of rfl rfl rfl rfl) fun _ _ _ _ h => h) h) (a_cons (e_var 0 (pv 0) rfl) (a_cons (e_var 1 (pv 1) rfl) a_nil)) (by exact (len_cons (len_cons len_nil))))) (ss_cons (s_drop (e_callP [] ⟨rfl, rfl⟩ (fun _ => Dens.nil) rfl (fun t h => pe_call (ok_check_filling T) (hr.mono (by decide)) (by rfl) T.m_check_filling T.f_check_filling.kp (b_check_filling T) .nil (passes_call (takes_of rfl rfl rfl rfl) fun _ _ _ _ h => h) h) (a_cons (e_var 0 (pv 0) rfl) (a_cons (e_var 2 (pv 2) rfl) a_nil)) (by exact (len_cons (len_cons len_nil))))) (ss_one (s_ret (e_callP [] ⟨rfl, rfl⟩ (fun _ => Dens.nil) rfl (fun t h => pe_call (ok_holds_at T) (hr.mono (by decide)) (by rfl) T.m_holds_at T.f_holds_at.kp (b_holds_at T) .nil (passes_call (takes_of rfl rfl rfl rfl) fun _ _ _ _ h => h) h) (a_cons (e_var 1 (pv 1) rfl) (a_cons (e_var 2 (pv 2) rfl) a_nil)) (by exact (len_cons (len_cons len_nil)))))))))
theorem b_holds (T : Txt K mg A) : Binds K A.d_holds ["many", "row", "filling"] [] := T.f_holds.binds (ps := ["many", "row", "filling"]) fun _ _ _ _ _ _ us hl => match us, hl with | [_, _, _], _ => rfl
theorem sc_is_filling : FnScope ["many", "thing"] ["many", "thing"] (defScope (top 36)) := ⟨rfl, rfl, rfl, by decide +kernel, rfl, by decide +kernel, by decide +kernel⟩
theorem ok_is_filling (T : Txt K mg A) : FnOk P w K mg base (L2.CX P w) 4 A.a_is_filling A.d_is_filling ["many", "thing"] (spP K mg 2 G_is_filling) := by
  refine okP [] (g := g_is_filling) T.f_is_filling sc_is_filling rfl (by decide) (fun cdv A outer s H E l T0 hr => ?_) (fun _ _ => rfl)
  have sc := sc_is_filling
  exact (ss_cons (s_drop (e_callP [.int 600] ⟨rfl, rfl⟩ (fun _ => Dens.of_ints [600]) rfl (fun t h => pe_call (ok_check_many T) (hr.mono (by decide)) (by rfl) T.m_check_many T.f_check_many.kp (b_check_many T).choose_spec.2 (b_check_many T).choose_spec.1 (passes_call (takes_of rfl rfl rfl rfl) fun _ _ _ _ h => h) h) (a_cons (e_var 0 (pv 0) rfl) a_nil) (by exact (len_cons len_nil)))) (ss_one (s_ret (e_callP [] ⟨rfl, rfl⟩ (fun _ => Dens.nil) rfl (fun t h => pe_call (ok_is_filling_of T) (hr.mono (by decide)) (by rfl) T.m_is_filling_of T.f_is_filling_of.kp (b_is_filling_of T) .nil (passes_call (takes_of rfl rfl rfl rfl) fun _ _ _ _ h => h) h) (a_cons (e_var 0 (pv 0) rfl) (a_cons (e_var 1 (pv 1) rfl) a_nil)) (by exact (len_cons (len_cons len_nil)))))))
theorem b_is_filling (T : Txt K mg A) : Binds K A.d_is_filling ["many", "thing"] [] := T.f_is_filling.binds (ps := ["many", "thing"]) fun _ _ _ _ _ _ us hl => match us, hl with | [_, _], _ => rfl
theorem sc_worth : FnScope ["many", "literal", "filling"] ["many", "literal", "filling"] (defScope (top 37)) := ⟨rfl, rfl, rfl, by decide +kernel, rfl, by decide +kernel, by decide +kernel⟩
theorem ok_worth (T : Txt K mg A) : FnOk P w K mg base (L2.CX P w) 5 A.a_worth A.d_worth ["many", "literal", "filling"] (spP K mg 3 G_worth) := by
  refine okP [] (g := g_worth) T.f_worth sc_worth rfl (by decide) (fun cdv A outer s H E l T0 hr => ?_) (fun _ _ => rfl)
  have sc := sc_worth
  exact (ss_cons (s_drop (e_callP [.int 600] ⟨rfl, rfl⟩ (fun _ => Dens.of_ints [600]) rfl (fun t h => pe_call (ok_check_many T) (hr.mono (by decide)) (by rfl) T.m_check_many T.f_check_many.kp (b_check_many T).choose_spec.2 (b_check_many T).choose_spec.1 (passes_call (takes_of rfl rfl rfl rfl) fun _ _ _ _ h => h) h) (a_cons (e_var 0 (pv 0) rfl) a_nil) (by exact (len_cons len_nil)))) (ss_cons (s_drop (e_callP [] ⟨rfl, rfl⟩ (fun _ => Dens.nil) rfl (fun t h => pe_call (ok_check_literal T) (hr.mono (by decide)) (by rfl) T.m_check_literal T.f_check_literal.kp (b_check_literal T) .nil (passes_call (takes_of rfl rfl rfl rfl) fun _ _ _ _ h => h) h) (a_cons (e_var 0 (pv 0) rfl) (a_cons (e_var 1 (pv 1) rfl) a_nil)) (by exact (len_cons (len_cons len_nil))))) (ss_cons (s_drop (e_callP [] ⟨rfl, rfl⟩ (fun _ => Dens.nil) rfl (fun t h => pe_call (ok_check_filling T) (hr.mono (by decide)) (by rfl) T.m_check_filling T.f_check_filling.kp (b_check_filling T) .nil (passes_call (takes_of rfl rfl rfl rfl) fun _ _ _ _ h => h) h) (a_cons (e_var 0 (pv 0) rfl) (a_cons (e_var 2 (pv 2) rfl) a_nil)) (by exact (len_cons (len_cons len_nil))))) (ss_one (s_ret (e_callP [] ⟨rfl, rfl⟩ (fun _ => Dens.nil) rfl (fun t h => pe_call (ok_worth_of T) (hr.mono (by decide)) (by rfl) T.m_worth_of T.f_worth_of.kp (b_worth_of T) .nil (passes_call (takes_of rfl rfl rfl rfl) fun _ _ _ _ h => h) h) (a_cons (e_var 1 (pv 1) rfl) (a_cons (e_var 2 (pv 2) rfl) a_nil)) (by exact (len_cons (len_cons len_nil)))))))))
theorem b_worth (T : Txt K mg A) : Binds K A.d_worth ["many", "literal", "filling"] [] := T.f_worth.binds (ps := ["many", "literal", "filling"]) fun _ _ _ _ _ _ us hl => match us, hl with | [_, _, _], _ => rfl
theorem sc_tuples_of : FnScope ["count", "found", "_", "items", "item"] ["count"] (defScope (top 39)) := ⟨rfl, rfl, rfl, by decide +kernel, rfl, by decide +kernel, by decide +kernel⟩
theorem ok_tuples_of (T : Txt K mg A) : FnOk P w K mg base (L2.CX P w) 1 A.a_tuples_of A.d_tuples_of ["count"] (spPN K mg 1 G_tuples_of_v2) := by
  refine okPN [1] (g := g_tuples_of_v2) T.f_tuples_of sc_tuples_of rfl (by decide) (fun cdv A outer s H E l T0 hr => ?_) (fun _ _ => rfl)
  have sc := sc_tuples_of
  exact (ssN_cons (s_asgO 1 rfl (fun te h => ps_set (i := 1) sc.nd rfl (by first | exact Or.inl rfl | exact Or.inr rfl) h) (n_lst (a_cons (e_tup a_nil) a_nil))) (ssN_cons (s_forR1 rfl (passes_of rfl) (fun ta h => pi_range1 (by rfl) T.g_range h) (a_cons (e_var 0 (pv 0) rfl) a_nil) (pg_name (i := 2) sc.nd rfl (by first | exact Or.inl rfl | exact Or.inr rfl)) (tg_name 2 rfl) (ss_one (s_lc2O 1 rfl rfl (tg_name 3 rfl) (tg_name 4 rfl) rfl rfl rfl rfl (fun wi hi => ps_setLc2 (i := 1) (own := [("items", 3), ("item", 4)]) (vs1 := [4]) rfl sc.nd rfl rfl (sw_true rfl rfl (by decide +kernel) (by decide +kernel)) hi (blkOk_by (N := ["count", "found", "_", "items", "item"]) (sc := defScope (top 39)) (by decide +kernel)) (by decide) (fun _ _ _ _ _ => (pg_name (i := 3) sc.nd rfl (by first | exact Or.inl rfl | exact Or.inr rfl))) (fun _ _ _ _ _ => tYes_ok) (fun _ _ _ _ _ => pi_seq2 (e_tup (a_cons e_int (a_cons e_int a_nil)))) (fun _ _ _ _ _ => (pg_name (i := 4) sc.nd rfl (by first | exact Or.inl rfl | exact Or.inr rfl))) (fun _ _ _ _ _ => tYes_ok) (fun _ _ _ _ _ => (e_bin r_add (fun t u h1 h2 => pe_op op_addA h1 h2) (bE (e_var 3 (pv 3) rfl)) (bE (e_tup (a_cons (e_var 4 (pv 4) rfl) a_nil)))))) (b_var 1 (pv 1)))) (by exact (len_cons len_nil))) (ssN_retO 1 (pv 1) rfl)))
theorem b_tuples_of (T : Txt K mg A) : Binds K A.d_tuples_of ["count"] [] := T.f_tuples_of.binds (ps := ["count"]) fun _ _ _ _ _ _ us hl => match us, hl with | [_], _ => rfl
theorem sc_fillings : FnScope ["many"] ["many"] (defScope (top 38)) := ⟨rfl, rfl, rfl, by decide +kernel, rfl, by decide +kernel, by decide +kernel⟩
theorem ok_fillings (T : Txt K mg A) : FnOk P w K mg base (L2.CX P w) 4 A.a_fillings A.d_fillings ["many"] (spPN K mg 1 G_fillings) := by
  refine okPN [] (g := g_fillings) T.f_fillings sc_fillings rfl (by decide) (fun cdv A outer s H E l T0 hr => ?_) (fun _ _ => rfl)
  have sc := sc_fillings
  exact (ssN_cons (s_drop (e_callP [.int 600] ⟨rfl, rfl⟩ (fun _ => Dens.of_ints [600]) rfl (fun t h => pe_call (ok_check_many T) (hr.mono (by decide)) (by rfl) T.m_check_many T.f_check_many.kp (b_check_many T).choose_spec.2 (b_check_many T).choose_spec.1 (passes_call (takes_of rfl rfl rfl rfl) fun _ _ _ _ h => h) h) (a_cons (e_var 0 (pv 0) rfl) a_nil) (by exact (len_cons len_nil)))) (ssN_cons (s_drop (e_callP [] ⟨rfl, rfl⟩ (fun _ => Dens.nil) rfl (fun t h => pe_call (ok_check_few T) (hr.mono (by decide)) (by rfl) T.m_check_few T.f_check_few.kp (b_check_few T) .nil (passes_call (takes_of rfl rfl rfl rfl) fun _ _ _ _ h => h) h) (a_cons (e_var 0 (pv 0) rfl) (a_cons (e_c (v := .int 12) (pe_glob (v := .int 12) (by rfl) T.c_MOST_TRIED.choose_spec ⟨_, rfl⟩) (fun _ => rfl)) a_nil)) (by exact (len_cons (len_cons len_nil))))) (ssN_ret (n_callP [] ⟨rfl, rfl⟩ (fun _ => Dens.nil) rfl (fun t h => pe_call (ok_tuples_of T) (hr.mono (by decide)) (by rfl) T.m_tuples_of T.f_tuples_of.kp (b_tuples_of T) .nil (passes_call (takes_of rfl rfl rfl rfl) fun _ _ _ _ h => h) h) (a_cons (e_var 0 (pv 0) rfl) a_nil) (by exact (len_cons len_nil))))))
theorem b_fillings (T : Txt K mg A) : Binds K A.d_fillings ["many"] [] := T.f_fillings.binds (ps := ["many"]) fun _ _ _ _ _ _ us hl => match us, hl with | [_], _ => rfl
theorem sc__law_begun : FnScope ["script", "cells_here", "cell", "large"] ["script"] (defScope (top 41)) := ⟨rfl, rfl, rfl, by decide +kernel, rfl, by decide +kernel, by decide +kernel⟩
theorem ok__law_begun (T : Txt K mg A) : FnOk P w K mg base (L2.CX P w) 1 A.a__law_begun A.d__law_begun ["script"] (spBegun K mg) := by
  refine T.f__law_begun.okX sc__law_begun (fun vs H Q E h => h.1) fun cdv A0 outer s H vs Q E hr h => ?_
  obtain ⟨hl, l0, F0, O0, T0, ns, fit, hd, hz, hQ⟩ := h
  have sc := sc__law_begun
  have D1 : PS (cxOf (L2.CX P w) P w K mg base ["script", "cells_here", "cell", "large"] "_law_begun" (defScope (top 41)) A.a__law_begun cdv A0 outer s H E) ((defBody (top 41)).getD 0 (.Pass ⟨0, 0, 0, 0⟩)) (tS (bP K mg l0 (exT T0) [3]) E begunG1) := (s_lc 1 rfl rfl (tg_name 2 rfl) rfl rfl (fun wi hi => ps_setLc (i := 1) (own := [("cell", 2)]) rfl sc.nd rfl rfl (sw_true rfl rfl (by decide +kernel) (by decide +kernel)) hi (blkOk_by (N := ["script", "cells_here", "cell", "large"]) (sc := defScope (top 41)) (by decide +kernel)) (fun _ _ _ _ _ => (pg_name (i := 2) sc.nd rfl (by first | exact Or.inl rfl | exact Or.inr rfl))) (fun _ _ _ _ _ => tYes_ok) (fun _ _ _ _ _ => (e_cb r_abs (fun t h => pe_callB call_abs (by rfl) T.g_abs (by decide +kernel) h) (ab_cons (bE (e_var 2 (pv 2) rfl)) ab_nil)))) (bE (e_var 0 (pv 0) rfl)))
  have D2 : PS (cxOf (L2.CX P w) P w K mg base ["script", "cells_here", "cell", "large"] "_law_begun" (defScope (top 41)) A.a__law_begun cdv A0 outer s H E) ((defBody (top 41)).getD 1 (.Pass ⟨0, 0, 0, 0⟩)) (tS (bP K mg l0 (exT T0) [3]) E begunG2) := (s_lcO 3 rfl rfl (tg_name 2 rfl) rfl rfl (fun wi hi => ps_setLc (i := 3) (own := [("cell", 2)]) rfl sc.nd rfl rfl (sw_true rfl rfl (by decide +kernel) (by decide +kernel)) hi (blkOk_by (N := ["script", "cells_here", "cell", "large"]) (sc := defScope (top 41)) (by decide +kernel)) (fun _ _ _ _ _ => (pg_name (i := 2) sc.nd rfl (by first | exact Or.inl rfl | exact Or.inr rfl))) (fun _ _ _ _ _ => (tOne_ok (t_cmp r_ge op_ge (bE (e_var 2 (pv 2) rfl)) (bE (e_bin r_pow (fun t u h1 h2 => pe_op op_pow h1 h2) (bE e_int) (bE e_int))) (nomark _)))) (fun _ _ _ _ _ => (e_bin r_sub (fun t u h1 h2 => pe_op op_sub h1 h2) (bE (e_var 2 (pv 2) rfl)) (bE (e_bin r_pow (fun t u h1 h2 => pe_op op_pow h1 h2) (bE e_int) (bE e_int)))))) (bE (e_var 1 (pv 1) rfl)))
  have D3 : PE (cxOf (L2.CX P w) P w K mg base ["script", "cells_here", "cell", "large"] "_law_begun" (defScope (top 41)) A.a__law_begun cdv A0 outer s H E) (retE ((defBody (top 41)).getD 2 (.Pass ⟨0, 0, 0, 0⟩))) (tDisp begunTrs) := pe_disp (pps_cons pe_str (pv 3) (pps_cons pe_str (pv 1) (pps_cons pe_str pe_int (pps_cons pe_str pe_int pps_nil)))) rfl rfl (by simp) (by decide)
  exact ⟨_, pss_cons D1 (pss_cons D2 (pss_one (ps_ret D3))), begun_read rfl rfl rfl (pre_start (b := bP K mg l0 (exT T0) [3]) ⟨T0, rfl, fit⟩ (fun q => absurd q Bool.false_ne_true) hd (by rw [hl]; decide) (by rw [hl]; rfl)) fit hz (begun_g1 hz) begun_g2 (fun l F' H' e1 e2 e3 e4 e5 => hQ l F' H' e1 e2 e3 e4 e5)⟩
theorem b__law_begun (T : Txt K mg A) : Binds K A.d__law_begun ["script"] [] := T.f__law_begun.binds (ps := ["script"]) fun _ _ _ _ _ _ us hl => match us, hl with | [_], _ => rfl
theorem sc__law_draw : FnScope ["state", "size_here", "found", "turn", "cell", "mixed"] ["state", "size_here"] (defScope (top 42)) := ⟨rfl, rfl, rfl, by decide +kernel, rfl, by decide +kernel, by decide +kernel⟩
theorem ok__law_draw (T : Txt K mg A) : FnOk P w K mg base (L2.CX P w) 1 A.a__law_draw A.d__law_draw ["state", "size_here"] (spS K mg 2 G__law_draw) := by
  refine okS [] (g := g__law_draw) T.f__law_draw sc__law_draw rfl (by decide) (fun cdv A outer s H E l TP hr => ?_) (fun _ _ _ => rfl)
  have sc := sc__law_draw
  exact (ss_cons (s_while 100000 (passes_of rfl) (PW.pt (w_and (t_cmp r_eq (op_eqX hr.units) (bE (e_left 0 rfl rfl (pe_dget (hu_of hr) (pv 0) pe_str (fun _ _ => rfl)))) (bE e_int) (nomark _)) (w_and1 (t_large 0 rfl rfl (pt_cmpR (op_neD hr.units) (pe_dget (hu_of hr) (pv 0) pe_str (fun _ _ => rfl)) pe_l0 (nomark _)))))) (ss_one (s_popL 0 rfl rfl (ps_asg (pe_bm PySem.F.plainAttrs_list PySem.F.slot_list_pop PySem.F.type_list_pop mt_popAt (pe_dget (hu_of hr) (pv 0) pe_str (fun _ _ => rfl)) (pa_cons pe_int pa_nil)) (pg_sub (pv 0) pe_str (set_dict (hu_of hr))))))) (ss_cons (s_if (t_cmp r_gt op_gt (bE (e_left 0 rfl rfl (pe_dget (hu_of hr) (pv 0) pe_str (fun _ _ => rfl)))) (bE e_int) (nomark _)) (ss_cons (s_asg 2 rfl (fun te h => ps_set (i := 2) sc.nd rfl (by first | exact Or.inl rfl | exact Or.inr rfl) h) (e_bin r_mod (fun t u h1 h2 => pe_op op_mod h1 h2) (bE (e_cb r_int (fun t h => pe_callTy call_int1 (by rfl) T.g_int (by decide +kernel) h) (ab_cons (bE (e_left 0 rfl rfl (pe_dget (hu_of hr) (pv 0) pe_str (fun _ _ => rfl)))) ab_nil))) (bE (e_var 1 (pv 1) rfl)))) (ss_cons (s_left 0 rfl rfl (fun te h => ps_asg h (pg_sub (pv 0) pe_str (set_dict (hu_of hr)))) (e_bin r_divW (fun t u h1 h2 => pe_op op_fdivW h1 h2) (bE (e_left 0 rfl rfl (pe_dget (hu_of hr) (pv 0) pe_str (fun _ _ => rfl)))) (bE (e_var 1 (pv 1) rfl)))) (ss_one (s_ret (e_var 2 (pv 2) rfl))))) ss_nil) (ss_cons (s_asg 3 rfl (fun te h => ps_set (i := 3) sc.nd rfl (by first | exact Or.inl rfl | exact Or.inr rfl) h) (e_bin r_add (fun t u h1 h2 => pe_op op_addA h1 h2) (bE (e_turn 0 rfl rfl (pe_dget (hu_of hr) (pv 0) pe_str (fun _ _ => rfl)))) (bE e_int))) (ss_cons (s_turn 0 rfl rfl (fun te h => ps_asg h (pg_sub (pv 0) pe_str (set_dict (hu_of hr)))) (e_var 3 (pv 3) rfl)) (ss_cons (s_asg 4 rfl (fun te h => ps_set (i := 4) sc.nd rfl (by first | exact Or.inl rfl | exact Or.inr rfl) h) (e_if (t_cmp r_ne (op_neX hr.units) (bE (e_cells 0 rfl rfl (pe_dget (hu_of hr) (pv 0) pe_str (fun _ _ => rfl)))) (bE (nE (n_lst a_nil))) (nomark _)) (e_bin r_ixA (fun t u h1 h2 => pe_ix (ix_all (hu_of hr)) h1 h2 (fun _ _ => rfl)) (bE (e_cells 0 rfl rfl (pe_dget (hu_of hr) (pv 0) pe_str (fun _ _ => rfl)))) (bE (e_bin r_mod (fun t u h1 h2 => pe_op op_mod h1 h2) (bE (e_cb r_int (fun t h => pe_callTy call_int1 (by rfl) T.g_int (by decide +kernel) h) (ab_cons (bE (e_var 3 (pv 3) rfl)) ab_nil))) (bE (e_cb r_lenA (fun t h => pe_callB cr_lenA (by rfl) T.g_len (by decide +kernel) h) (ab_cons (bE (e_cells 0 rfl rfl (pe_dget (hu_of hr) (pv 0) pe_str (fun _ _ => rfl)))) ab_nil)))))) e_int)) (ss_cons (s_asg 5 rfl (fun te h => ps_set (i := 5) sc.nd rfl (by first | exact Or.inl rfl | exact Or.inr rfl) h) (e_bin r_mod (fun t u h1 h2 => pe_op op_mod h1 h2) (bE (e_cb r_int (fun t h => pe_callTy call_int1 (by rfl) T.g_int (by decide +kernel) h) (ab_cons (bE (e_bin r_pow (fun t u h1 h2 => pe_op op_pow h1 h2) (bE (e_bin r_add (fun t u h1 h2 => pe_op op_addA h1 h2) (bE (e_bin r_add (fun t u h1 h2 => pe_op op_addA h1 h2) (bE (e_bin r_mod (fun t u h1 h2 => pe_op op_mod h1 h2) (bE (e_cb r_int (fun t h => pe_callTy call_int1 (by rfl) T.g_int (by decide +kernel) h) (ab_cons (bE (e_var 4 (pv 4) rfl)) ab_nil))) (bE e_int))) (bE (e_bin r_mulT (fun t u h1 h2 => pe_op op_mulT h1 h2) (bE e_int) (bE (e_var 3 (pv 3) rfl)))))) (bE e_int))) (bE e_int))) ab_nil))) (bE e_int))) (ss_one (s_ret (e_bin r_mod (fun t u h1 h2 => pe_op op_mod h1 h2) (bE (e_cb r_int (fun t h => pe_callTy call_int1 (by rfl) T.g_int (by decide +kernel) h) (ab_cons (bE (e_bin r_divW (fun t u h1 h2 => pe_op op_fdivW h1 h2) (bE (e_bin r_mod (fun t u h1 h2 => pe_op op_mod h1 h2) (bE (e_cb r_int (fun t h => pe_callTy call_int1 (by rfl) T.g_int (by decide +kernel) h) (ab_cons (bE (e_bin r_pow (fun t u h1 h2 => pe_op op_pow h1 h2) (bE (e_bin r_add (fun t u h1 h2 => pe_op op_addA h1 h2) (bE (e_var 5 (pv 5) rfl)) (bE (e_bin r_mulT (fun t u h1 h2 => pe_op op_mulT h1 h2) (bE e_int) (bE (e_var 3 (pv 3) rfl)))))) (bE e_int))) ab_nil))) (bE e_int))) (bE e_int))) ab_nil))) (bE (e_var 1 (pv 1) rfl)))))))))))
theorem b__law_draw (T : Txt K mg A) : Binds K A.d__law_draw ["state", "size_here"] [] := T.f__law_draw.binds (ps := ["state", "size_here"]) fun _ _ _ _ _ _ us hl => match us, hl with | [_, _], _ => rfl
theorem sc__law_pick : FnScope ["state", "several"] ["state", "several"] (defScope (top 43)) := ⟨rfl, rfl, rfl, by decide +kernel, rfl, by decide +kernel, by decide +kernel⟩
theorem ok__law_pick (T : Txt K mg A) : FnOk P w K mg base (L2.CX P w) 2 A.a__law_pick A.d__law_pick ["state", "several"] (spS K mg 2 G__law_pick) := by
  refine okS [] (g := g__law_pick) T.f__law_pick sc__law_pick rfl (by decide) (fun cdv A outer s H E l TP hr => ?_) (fun _ _ _ => rfl)
  have sc := sc__law_pick
  exact (ss_one (s_ret (e_bin r_ixA (fun t u h1 h2 => pe_ix (ix_all (hu_of hr)) h1 h2 (fun _ _ => rfl)) (bE (e_var 1 (pv 1) rfl)) (bE (e_callS ⟨rfl, rfl⟩ rfl rfl (fun t h => pe_call (ok__law_draw T) (hr.mono (by decide)) (by rfl) T.m__law_draw T.f__law_draw.kp (b__law_draw T) .nil (passes_call (takes_of rfl rfl rfl rfl) fun _ _ _ _ h => h) h) (a_cons (e_var 0 (pv 0) rfl) (a_cons (e_cb r_lenA (fun t h => pe_callB cr_lenA (by rfl) T.g_len (by decide +kernel) h) (ab_cons (bE (e_var 1 (pv 1) rfl)) ab_nil)) a_nil)) (by exact (len_cons (len_cons len_nil))))))))
theorem b__law_pick (T : Txt K mg A) : Binds K A.d__law_pick ["state", "several"] [] := T.f__law_pick.binds (ps := ["state", "several"]) fun _ _ _ _ _ _ us hl => match us, hl with | [_, _], _ => rfl
theorem sc__law_caught : FnScope ["work", "caught", "error"] ["work"] (defScope (top 44)) := ⟨rfl, rfl, rfl, by decide +kernel, rfl, by decide +kernel, by decide +kernel⟩
theorem b__law_caught (T : Txt K mg A) : Binds K A.d__law_caught ["work"] [] := T.f__law_caught.binds (ps := ["work"]) fun _ _ _ _ _ _ us hl => match us, hl with | [_], _ => rfl
theorem gives_caught (T : Txt K mg A) {X : Cx} {cdv : Value} {q : Str} (hX : X.K = K ∧ X.mg = mg := by exact ⟨rfl, rfl⟩) : LamX.GivesTo X ["work", "caught", "error"] "_law_caught" (defScope (top 44)) A.a__law_caught cdv (defBody (top 44)) "work" q (TTc X.K A.c_WitnessError) := by
  obtain ⟨h1, h2⟩ := hX
  exact caught_gives (e := "WitnessError") (by rfl) (by rw [h2]; exact T.k_WitnessError.g) (by decide +kernel) rfl (by decide +kernel) (by rfl) (by rfl) (by decide +kernel) (by decide +kernel) (by decide +kernel) (by decide +kernel) (fun _ => rfl)
theorem kn_all (T : Txt K mg A) : KnT K mg A.c_WitnessError ["BadMany", "BadLiteral", "BadRow", "BadFilling", "TooMany"] := (kn_cons T.k_BadMany.g T.e_BadMany (kn_cons T.k_BadLiteral.g T.e_BadLiteral (kn_cons T.k_BadRow.g T.e_BadRow (kn_cons T.k_BadFilling.g T.e_BadFilling (kn_cons T.k_TooMany.g T.e_TooMany kn_nil)))))
theorem sc__law_odd : FnScope ["state"] ["state"] (defScope (top 45)) := ⟨rfl, rfl, rfl, by decide +kernel, rfl, by decide +kernel, by decide +kernel⟩
theorem ok__law_odd (T : Txt K mg A) : FnOk P w K mg base (L2.CX P w) 3 A.a__law_odd A.d__law_odd ["state"] (spS K mg 1 G__law_odd) := by
  refine okS [] (g := g__law_odd) T.f__law_odd sc__law_odd rfl (by decide) (fun cdv A outer s H E l TP hr => ?_) (fun _ _ _ => rfl)
  have sc := sc__law_odd
  exact (ss_one (s_ret (e_callS ⟨rfl, rfl⟩ rfl rfl (fun t h => pe_call (ok__law_pick T) (hr.mono (by decide)) (by rfl) T.m__law_pick T.f__law_pick.kp (b__law_pick T) .nil (passes_call (takes_of rfl rfl rfl rfl) fun _ _ _ _ h => h) h) (a_cons (e_var 0 (pv 0) rfl) (a_cons (nE (n_lst (a_cons e_non (a_cons e_bl (a_cons e_bl (a_cons e_str (a_cons e_str (a_cons (nE (n_lst a_nil)) (a_cons (nE (n_d0 pe_dnewK)) (a_cons (e_tup (a_cons e_non a_nil)) (a_cons (e_tup (a_cons e_str (a_cons e_int a_nil))) (a_cons (nE (n_lst (a_cons (nE (n_lst (a_cons e_int a_nil))) a_nil))) (a_cons (nE (n_disp [(.inl 0, .int 0)] [.inl 0] [.int 0] (pe_disp (pps_cons pe_int pe_int pps_nil) rfl rfl (by simp) (by decide)) (fun _ _ _ h => h) (by decide) rfl (fun _ => by exact (Dens.cons rfl Dens.nil)))) (a_cons (e_tup (a_cons e_bl a_nil)) (a_cons (e_tup (a_cons (e_tup a_nil) a_nil)) a_nil))))))))))))))) a_nil)) (by exact (len_cons (len_cons len_nil))))))
theorem b__law_odd (T : Txt K mg A) : Binds K A.d__law_odd ["state"] [] := T.f__law_odd.binds (ps := ["state"]) fun _ _ _ _ _ _ us hl => match us, hl with | [_], _ => rfl
theorem sc__law_fillings : FnScope ["many", "found", "lap", "filling"] ["many"] (defScope (top 46)) := ⟨rfl, rfl, rfl, by decide +kernel, rfl, by decide +kernel, by decide +kernel⟩
theorem ok__law_fillings (T : Txt K mg A) : FnOk P w K mg base (L2.CX P w) 1 A.a__law_fillings A.d__law_fillings ["many"] (spP K mg 1 G__law_fillings) := by
  refine okP [] (g := g__law_fillings) T.f__law_fillings sc__law_fillings rfl (by decide) (fun cdv A outer s H E l T0 hr => ?_) (fun _ _ => rfl)
  have sc := sc__law_fillings
  exact (ss_cons (s_asg 1 rfl (fun te h => ps_set (i := 1) sc.nd rfl (by first | exact Or.inl rfl | exact Or.inr rfl) h) (nE (n_lst (a_cons (e_tup a_nil) a_nil)))) (ss_cons (s_forR1 rfl (passes_of rfl) (fun ta h => pi_range1 (by rfl) T.g_range h) (a_cons (e_var 0 (pv 0) rfl) a_nil) (pg_name (i := 2) sc.nd rfl (by first | exact Or.inl rfl | exact Or.inr rfl)) (tg_name 2 rfl) (ss_one (s_asg 1 rfl (fun te h => ps_set (i := 1) sc.nd rfl (by first | exact Or.inl rfl | exact Or.inr rfl) h) (nE (n_cb r_sortedA (fun t h => pe_callB (cr_sortA rfl) (by rfl) T.g_sorted (by decide +kernel) h) (ab_cons (bE (nE (n_cat (fun t u h1 h2 => pe_op op_cat h1 h2) (bE (nE (n_lc rfl (tg_name 3 rfl) rfl rfl (fun wi hi => pe_lc (own := [("filling", 3)]) rfl sc.nd hi (blkOk_by (N := ["many", "found", "lap", "filling"]) (sc := defScope (top 46)) (by decide +kernel)) (fun _ _ _ _ _ => (pg_name (i := 3) sc.nd rfl (by first | exact Or.inl rfl | exact Or.inr rfl))) (fun _ _ _ _ _ => tYes_ok) (fun _ _ _ _ _ => (e_bin r_add (fun t u h1 h2 => pe_op op_addA h1 h2) (bE (e_var 3 (pv 3) rfl)) (bE (e_tup (a_cons e_int a_nil)))))) (bE (e_var 1 (pv 1) rfl))))) (bE (nE (n_lc rfl (tg_name 3 rfl) rfl rfl (fun wi hi => pe_lc (own := [("filling", 3)]) rfl sc.nd hi (blkOk_by (N := ["many", "found", "lap", "filling"]) (sc := defScope (top 46)) (by decide +kernel)) (fun _ _ _ _ _ => (pg_name (i := 3) sc.nd rfl (by first | exact Or.inl rfl | exact Or.inr rfl))) (fun _ _ _ _ _ => tYes_ok) (fun _ _ _ _ _ => (e_bin r_add (fun t u h1 h2 => pe_op op_addA h1 h2) (bE (e_var 3 (pv 3) rfl)) (bE (e_tup (a_cons e_int a_nil)))))) (bE (e_var 1 (pv 1) rfl)))))))) ab_nil))))) (by exact (len_cons len_nil))) (ss_one (s_ret (e_var 1 (pv 1) rfl)))))
theorem b__law_fillings (T : Txt K mg A) : Binds K A.d__law_fillings ["many"] [] := T.f__law_fillings.binds (ps := ["many"]) fun _ _ _ _ _ _ us hl => match us, hl with | [_], _ => rfl
theorem sc__law_worth : FnScope ["literal", "filling"] ["literal", "filling"] (defScope (top 47)) := ⟨rfl, rfl, rfl, by decide +kernel, rfl, by decide +kernel, by decide +kernel⟩
theorem ok__law_worth (T : Txt K mg A) : FnOk P w K mg base (L2.CX P w) 1 A.a__law_worth A.d__law_worth ["literal", "filling"] (spP K mg 2 G__law_worth) := by
  refine okP [] (g := g__law_worth) T.f__law_worth sc__law_worth rfl (by decide) (fun cdv A outer s H E l T0 hr => ?_) (fun _ _ => rfl)
  have sc := sc__law_worth
  exact (ss_one (s_ret (e_if (t_cmp r_gt op_gt (bE (e_var 0 (pv 0) rfl)) (bE e_int) (nomark _)) (e_bin r_ixA (fun t u h1 h2 => pe_ix (ix_all (hu_of hr)) h1 h2 (fun _ _ => rfl)) (bE (e_var 1 (pv 1) rfl)) (bE (e_bin r_sub (fun t u h1 h2 => pe_op op_sub h1 h2) (bE (e_var 0 (pv 0) rfl)) (bE e_int)))) (e_bin r_sub (fun t u h1 h2 => pe_op op_sub h1 h2) (bE e_int) (bE (e_bin r_ixA (fun t u h1 h2 => pe_ix (ix_all (hu_of hr)) h1 h2 (fun _ _ => rfl)) (bE (e_var 1 (pv 1) rfl)) (bE (e_bin r_sub (fun t u h1 h2 => pe_op op_sub h1 h2) (bE (e_bin r_sub (fun t u h1 h2 => pe_op op_sub h1 h2) (bE e_int) (bE (e_var 0 (pv 0) rfl)))) (bE e_int)))))))))
theorem b__law_worth (T : Txt K mg A) : Binds K A.d__law_worth ["literal", "filling"] [] := T.f__law_worth.binds (ps := ["literal", "filling"]) fun _ _ _ _ _ _ us hl => match us, hl with | [_, _], _ => rfl
theorem sc__law_comes : FnScope ["terms", "filling", "weight", "literal"] ["terms", "filling"] (defScope (top 48)) := ⟨rfl, rfl, rfl, by decide +kernel, rfl, by decide +kernel, by decide +kernel⟩
theorem ok__law_comes (T : Txt K mg A) : FnOk P w K mg base (L2.CX P w) 2 A.a__law_comes A.d__law_comes ["terms", "filling"] (spP K mg 2 G__law_comes) := by
  refine okP [] (g := g__law_comes) T.f__law_comes sc__law_comes rfl (by decide) (fun cdv A outer s H E l T0 hr => ?_) (fun _ _ => rfl)
  have sc := sc__law_comes
  exact (ss_one (s_ret (e_cb r_sum (fun t h => pe_callB (cr_sum rfl) (by rfl) T.g_sum (by decide +kernel) h) (ab_cons (bE (nE (n_lc rfl (tg_tup [2, 3] rfl rfl) rfl rfl (fun wi hi => pe_lc (own := [("weight", 2), ("literal", 3)]) rfl sc.nd hi (blkOk_by (N := ["terms", "filling", "weight", "literal"]) (sc := defScope (top 48)) (by decide +kernel)) (fun _ _ _ _ _ => (pg_tup rfl (pgs_cons (pg_name (i := 2) sc.nd rfl (by first | exact Or.inl rfl | exact Or.inr rfl)) (pgs_cons (pg_name (i := 3) sc.nd rfl (by first | exact Or.inl rfl | exact Or.inr rfl)) pgs_nil)))) (fun _ _ _ _ _ => (tOne_ok (t_cmp r_eq (op_eqX hr.units) (bE (e_callP [] ⟨rfl, rfl⟩ (fun _ => Dens.nil) rfl (fun t h => pe_call (ok__law_worth T) (hr.mono (by decide)) (by rfl) T.m__law_worth T.f__law_worth.kp (b__law_worth T) .nil passL h) (a_cons (e_var 3 (pv 3) rfl) (a_cons (e_var 1 (pv 1) rfl) a_nil)) (by exact (len_cons (len_cons len_nil))))) (bE e_int) (nomark _)))) (fun _ _ _ _ _ => (e_var 2 (pv 2) rfl))) (bE (e_var 0 (pv 0) rfl))))) ab_nil))))
theorem b__law_comes (T : Txt K mg A) : Binds K A.d__law_comes ["terms", "filling"] [] := T.f__law_comes.binds (ps := ["terms", "filling"]) fun _ _ _ _ _ _ us hl => match us, hl with | [_, _], _ => rfl
theorem sc__law_holds : FnScope ["row", "filling"] ["row", "filling"] (defScope (top 49)) := ⟨rfl, rfl, rfl, by decide +kernel, rfl, by decide +kernel, by decide +kernel⟩
theorem ok__law_holds (T : Txt K mg A) : FnOk P w K mg base (L2.CX P w) 3 A.a__law_holds A.d__law_holds ["row", "filling"] (spP K mg 2 G__law_holds) := by
  refine okP [] (g := g__law_holds) T.f__law_holds sc__law_holds rfl (by decide) (fun cdv A outer s H E l T0 hr => ?_) (fun _ _ => rfl)
  have sc := sc__law_holds
  exact (ss_one (s_ret (e_bin r_ge (fun t u h1 h2 => pe_cmpR op_ge h1 h2 (nomark _)) (bE (e_callP [] ⟨rfl, rfl⟩ (fun _ => Dens.nil) rfl (fun t h => pe_call (ok__law_comes T) (hr.mono (by decide)) (by rfl) T.m__law_comes T.f__law_comes.kp (b__law_comes T) .nil (passes_call (takes_of rfl rfl rfl rfl) fun _ _ _ _ h => h) h) (a_cons (e_bin r_ixA (fun t u h1 h2 => pe_ix (ix_all (hu_of hr)) h1 h2 (fun _ _ => rfl)) (bE (e_var 0 (pv 0) rfl)) (bE e_int)) (a_cons (e_var 1 (pv 1) rfl) a_nil)) (by exact (len_cons (len_cons len_nil))))) (bE (e_bin r_ixA (fun t u h1 h2 => pe_ix (ix_all (hu_of hr)) h1 h2 (fun _ _ => rfl)) (bE (e_var 0 (pv 0) rfl)) (bE e_int))))))
theorem b__law_holds (T : Txt K mg A) : Binds K A.d__law_holds ["row", "filling"] [] := T.f__law_holds.binds (ps := ["row", "filling"]) fun _ _ _ _ _ _ us hl => match us, hl with | [_, _], _ => rfl
theorem sc__law_total : FnScope ["row", "weight", "literal"] ["row"] (defScope (top 50)) := ⟨rfl, rfl, rfl, by decide +kernel, rfl, by decide +kernel, by decide +kernel⟩
theorem ok__law_total (T : Txt K mg A) : FnOk P w K mg base (L2.CX P w) 1 A.a__law_total A.d__law_total ["row"] (spP K mg 1 G__law_total) := by
  refine okP [] (g := g__law_total) T.f__law_total sc__law_total rfl (by decide) (fun cdv A outer s H E l T0 hr => ?_) (fun _ _ => rfl)
  have sc := sc__law_total
  exact (ss_one (s_ret (e_cb r_sum (fun t h => pe_callB (cr_sum rfl) (by rfl) T.g_sum (by decide +kernel) h) (ab_cons (bE (nE (n_lc rfl (tg_tup [1, 2] rfl rfl) rfl rfl (fun wi hi => pe_lc (own := [("weight", 1), ("literal", 2)]) rfl sc.nd hi (blkOk_by (N := ["row", "weight", "literal"]) (sc := defScope (top 50)) (by decide +kernel)) (fun _ _ _ _ _ => (pg_tup rfl (pgs_cons (pg_name (i := 1) sc.nd rfl (by first | exact Or.inl rfl | exact Or.inr rfl)) (pgs_cons (pg_name (i := 2) sc.nd rfl (by first | exact Or.inl rfl | exact Or.inr rfl)) pgs_nil)))) (fun _ _ _ _ _ => tYes_ok) (fun _ _ _ _ _ => (e_var 1 (pv 1) rfl))) (bE (e_bin r_ixA (fun t u h1 h2 => pe_ix (ix_all (hu_of hr)) h1 h2 (fun _ _ => rfl)) (bE (e_var 0 (pv 0) rfl)) (bE e_int)))))) ab_nil))))
theorem b__law_total (T : Txt K mg A) : Binds K A.d__law_total ["row"] [] := T.f__law_total.binds (ps := ["row"]) fun _ _ _ _ _ _ us hl => match us, hl with | [_], _ => rfl
theorem sc__law_opposite : FnScope ["row", "weight", "literal"] ["row"] (defScope (top 51)) := ⟨rfl, rfl, rfl, by decide +kernel, rfl, by decide +kernel, by decide +kernel⟩
theorem ok__law_opposite (T : Txt K mg A) : FnOk P w K mg base (L2.CX P w) 2 A.a__law_opposite A.d__law_opposite ["row"] (spP K mg 1 G__law_opposite) := by
  refine okP [] (g := g__law_opposite) T.f__law_opposite sc__law_opposite rfl (by decide) (fun cdv A outer s H E l T0 hr => ?_) (fun _ _ => rfl)
  have sc := sc__law_opposite
  exact (ss_one (s_ret (e_tup (a_cons (e_cb r_tuple (fun t h => pe_callTy call_tuple_of (by rfl) T.g_tuple (by decide +kernel) h) (ab_cons (bE (nE (n_lc rfl (tg_tup [1, 2] rfl rfl) rfl rfl (fun wi hi => pe_lc (own := [("weight", 1), ("literal", 2)]) rfl sc.nd hi (blkOk_by (N := ["row", "weight", "literal"]) (sc := defScope (top 51)) (by decide +kernel)) (fun _ _ _ _ _ => (pg_tup rfl (pgs_cons (pg_name (i := 1) sc.nd rfl (by first | exact Or.inl rfl | exact Or.inr rfl)) (pgs_cons (pg_name (i := 2) sc.nd rfl (by first | exact Or.inl rfl | exact Or.inr rfl)) pgs_nil)))) (fun _ _ _ _ _ => tYes_ok) (fun _ _ _ _ _ => (e_tup (a_cons (e_var 1 (pv 1) rfl) (a_cons (e_bin r_sub (fun t u h1 h2 => pe_op op_sub h1 h2) (bE e_int) (bE (e_var 2 (pv 2) rfl))) a_nil))))) (bE (e_bin r_ixA (fun t u h1 h2 => pe_ix (ix_all (hu_of hr)) h1 h2 (fun _ _ => rfl)) (bE (e_var 0 (pv 0) rfl)) (bE e_int)))))) ab_nil)) (a_cons (e_cb r_2I (fun t h => pe_callB (call_max2 rfl) (by rfl) T.g_max (by decide +kernel) h) (ab_cons (bE e_int) (ab_cons (bE (e_bin r_add (fun t u h1 h2 => pe_op op_addA h1 h2) (bE (e_bin r_sub (fun t u h1 h2 => pe_op op_sub h1 h2) (bE (e_callP [] ⟨rfl, rfl⟩ (fun _ => Dens.nil) rfl (fun t h => pe_call (ok__law_total T) (hr.mono (by decide)) (by rfl) T.m__law_total T.f__law_total.kp (b__law_total T) .nil (passes_call (takes_of rfl rfl rfl rfl) fun _ _ _ _ h => h) h) (a_cons (e_var 0 (pv 0) rfl) a_nil) (by exact (len_cons len_nil)))) (bE (e_bin r_ixA (fun t u h1 h2 => pe_ix (ix_all (hu_of hr)) h1 h2 (fun _ _ => rfl)) (bE (e_var 0 (pv 0) rfl)) (bE e_int))))) (bE e_int))) ab_nil))) a_nil)))))
theorem b__law_opposite (T : Txt K mg A) : Binds K A.d__law_opposite ["row"] [] := T.f__law_opposite.binds (ps := ["row"]) fun _ _ _ _ _ _ us hl => match us, hl with | [_], _ => rfl
theorem sc__law_terms : FnScope ["state", "many", "most", "found", "way", "variable", "weight"] ["state", "many", "most"] (defScope (top 52)) := ⟨rfl, rfl, rfl, by decide +kernel, rfl, by decide +kernel, by decide +kernel⟩
theorem ok__law_terms (T : Txt K mg A) : FnOk P w K mg base (L2.CX P w) 2 A.a__law_terms A.d__law_terms ["state", "many", "most"] (spS K mg 3 G__law_terms) := by
  refine okS [3] (g := g__law_terms) T.f__law_terms sc__law_terms rfl (by decide) (fun cdv A outer s H E l TP hr => ?_) (fun _ _ _ => rfl)
  have sc := sc__law_terms
  exact (ss_cons (s_parO 3 4 rfl rfl (fun t1 t2 h1 h2 => ps_par (by rfl) sc.nd rfl rfl (by decide) rfl rfl (pa_cons h1 (pa_cons h2 pa_nil)) (by rfl)) (n_lst a_nil) (e_callS ⟨rfl, rfl⟩ rfl rfl (fun t h => pe_call (ok__law_draw T) (hr.mono (by decide)) (by rfl) T.m__law_draw T.f__law_draw.kp (b__law_draw T) .nil (passes_call (takes_of rfl rfl rfl rfl) fun _ _ _ _ h => h) h) (a_cons (e_var 0 (pv 0) rfl) (a_cons e_int a_nil)) (by exact (len_cons (len_cons len_nil))))) (ss_cons (s_forR2 rfl (passes_of rfl) (fun ta h => pi_range2 (by rfl) T.g_range h) (a_cons e_int (a_cons (e_bin r_add (fun t u h1 h2 => pe_op op_addA h1 h2) (bE (e_var 1 (pv 1) rfl)) (bE e_int)) a_nil)) (pg_name (i := 5) sc.nd rfl (by first | exact Or.inl rfl | exact Or.inr rfl)) (tg_name 5 rfl) (ss_one (s_if (PW.pt (w_or (t_cmp r_eq (op_eqX hr.units) (bE (e_var 4 (pv 4) rfl)) (bE e_int) (nomark _)) (w_or1 (t_cmp r_gt op_gt (bE (e_callS ⟨rfl, rfl⟩ rfl rfl (fun t h => pe_call (ok__law_draw T) (hr.mono (by decide)) (by rfl) T.m__law_draw T.f__law_draw.kp (b__law_draw T) .nil (passes_call (takes_of rfl rfl rfl rfl) fun _ _ _ _ h => h) h) (a_cons (e_var 0 (pv 0) rfl) (a_cons e_int a_nil)) (by exact (len_cons (len_cons len_nil))))) (bE e_int) (nomark _))))) (ss_cons (s_asg 6 rfl (fun te h => ps_set (i := 6) sc.nd rfl (by first | exact Or.inl rfl | exact Or.inr rfl) h) (e_if (t_cmp r_eq (op_eqX hr.units) (bE (e_var 4 (pv 4) rfl)) (bE e_int) (nomark _)) e_int (e_bin r_add (fun t u h1 h2 => pe_op op_addA h1 h2) (bE e_int) (bE (e_callS ⟨rfl, rfl⟩ rfl rfl (fun t h => pe_call (ok__law_draw T) (hr.mono (by decide)) (by rfl) T.m__law_draw T.f__law_draw.kp (b__law_draw T) .nil (passes_call (takes_of rfl rfl rfl rfl) fun _ _ _ _ h => h) h) (a_cons (e_var 0 (pv 0) rfl) (a_cons (e_var 2 (pv 2) rfl) a_nil)) (by exact (len_cons (len_cons len_nil)))))))) (ss_one (s_app 3 rfl (fun te h => ps_expr (pe_bm PySem.F.plainAttrs_list PySem.F.slot_list_append PySem.F.type_list_append mt_append (pv 3) (pa_cons h pa_nil))) (e_tup (a_cons (e_var 6 (pv 6) rfl) (a_cons (e_if (t_cmp r_eq (op_eqX hr.units) (bE (e_callS ⟨rfl, rfl⟩ rfl rfl (fun t h => pe_call (ok__law_draw T) (hr.mono (by decide)) (by rfl) T.m__law_draw T.f__law_draw.kp (b__law_draw T) .nil (passes_call (takes_of rfl rfl rfl rfl) fun _ _ _ _ h => h) h) (a_cons (e_var 0 (pv 0) rfl) (a_cons e_int a_nil)) (by exact (len_cons (len_cons len_nil))))) (bE e_int) (nomark _)) (e_var 5 (pv 5) rfl) (e_bin r_sub (fun t u h1 h2 => pe_op op_sub h1 h2) (bE e_int) (bE (e_var 5 (pv 5) rfl)))) a_nil)))))) ss_nil)) (by exact (len_cons (len_cons len_nil)))) (ss_one (s_ret (e_cb r_tuple (fun t h => pe_callTy call_tuple_of (by rfl) T.g_tuple (by decide +kernel) h) (ab_cons (b_var 3 (pv 3)) ab_nil))))))
theorem b__law_terms (T : Txt K mg A) : Binds K A.d__law_terms ["state", "many", "most"] [] := T.f__law_terms.binds (ps := ["state", "many", "most"]) fun _ _ _ _ _ _ us hl => match us, hl with | [_, _, _], _ => rfl
theorem sc__law_row : FnScope ["state", "many", "most", "terms", "total_here", "weight", "literal", "way"] ["state", "many", "most"] (defScope (top 53)) := ⟨rfl, rfl, rfl, by decide +kernel, rfl, by decide +kernel, by decide +kernel⟩
theorem ok__law_row (T : Txt K mg A) : FnOk P w K mg base (L2.CX P w) 3 A.a__law_row A.d__law_row ["state", "many", "most"] (spS K mg 3 G__law_row) := by
  refine okS [] (g := g__law_row) T.f__law_row sc__law_row rfl (by decide) (fun cdv A outer s H E l TP hr => ?_) (fun _ _ _ => rfl)
  have sc := sc__law_row
  exact (ss_cons (s_asg 3 rfl (fun te h => ps_set (i := 3) sc.nd rfl (by first | exact Or.inl rfl | exact Or.inr rfl) h) (e_callS ⟨rfl, rfl⟩ rfl rfl (fun t h => pe_call (ok__law_terms T) (hr.mono (by decide)) (by rfl) T.m__law_terms T.f__law_terms.kp (b__law_terms T) .nil (passes_call (takes_of rfl rfl rfl rfl) fun _ _ _ _ h => h) h) (a_cons (e_var 0 (pv 0) rfl) (a_cons (e_var 1 (pv 1) rfl) (a_cons (e_var 2 (pv 2) rfl) a_nil))) (by exact (len_cons (len_cons (len_cons len_nil)))))) (ss_cons (s_asg 4 rfl (fun te h => ps_set (i := 4) sc.nd rfl (by first | exact Or.inl rfl | exact Or.inr rfl) h) (e_cb r_sum (fun t h => pe_callB (cr_sum rfl) (by rfl) T.g_sum (by decide +kernel) h) (ab_cons (bE (nE (n_lc rfl (tg_tup [5, 6] rfl rfl) rfl rfl (fun wi hi => pe_lc (own := [("weight", 5), ("literal", 6)]) rfl sc.nd hi (blkOk_by (N := ["state", "many", "most", "terms", "total_here", "weight", "literal", "way"]) (sc := defScope (top 53)) (by decide +kernel)) (fun _ _ _ _ _ => (pg_tup rfl (pgs_cons (pg_name (i := 5) sc.nd rfl (by first | exact Or.inl rfl | exact Or.inr rfl)) (pgs_cons (pg_name (i := 6) sc.nd rfl (by first | exact Or.inl rfl | exact Or.inr rfl)) pgs_nil)))) (fun _ _ _ _ _ => tYes_ok) (fun _ _ _ _ _ => (e_var 5 (pv 5) rfl))) (bE (e_var 3 (pv 3) rfl))))) ab_nil))) (ss_cons (s_asg 7 rfl (fun te h => ps_set (i := 7) sc.nd rfl (by first | exact Or.inl rfl | exact Or.inr rfl) h) (e_callS ⟨rfl, rfl⟩ rfl rfl (fun t h => pe_call (ok__law_draw T) (hr.mono (by decide)) (by rfl) T.m__law_draw T.f__law_draw.kp (b__law_draw T) .nil (passes_call (takes_of rfl rfl rfl rfl) fun _ _ _ _ h => h) h) (a_cons (e_var 0 (pv 0) rfl) (a_cons e_int a_nil)) (by exact (len_cons (len_cons len_nil))))) (ss_cons (s_if (t_cmp r_eq (op_eqX hr.units) (bE (e_var 7 (pv 7) rfl)) (bE e_int) (nomark _)) (ss_one (s_ret (e_tup (a_cons (e_var 3 (pv 3) rfl) (a_cons (e_callS ⟨rfl, rfl⟩ rfl rfl (fun t h => pe_call (ok__law_pick T) (hr.mono (by decide)) (by rfl) T.m__law_pick T.f__law_pick.kp (b__law_pick T) .nil (passes_call (takes_of rfl rfl rfl rfl) fun _ _ _ _ h => h) h) (a_cons (e_var 0 (pv 0) rfl) (a_cons (nE (n_lst (a_cons e_int (a_cons (e_var 4 (pv 4) rfl) (a_cons (e_bin r_add (fun t u h1 h2 => pe_op op_addA h1 h2) (bE (e_var 4 (pv 4) rfl)) (bE e_int)) a_nil))))) a_nil)) (by exact (len_cons (len_cons len_nil)))) a_nil))))) ss_nil) (ss_one (s_ret (e_tup (a_cons (e_var 3 (pv 3) rfl) (a_cons (e_if (t_cmp r_lt op_lt (bE (e_var 7 (pv 7) rfl)) (bE e_int) (nomark _)) (e_callS ⟨rfl, rfl⟩ rfl rfl (fun t h => pe_call (ok__law_draw T) (hr.mono (by decide)) (by rfl) T.m__law_draw T.f__law_draw.kp (b__law_draw T) .nil (passes_call (takes_of rfl rfl rfl rfl) fun _ _ _ _ h => h) h) (a_cons (e_var 0 (pv 0) rfl) (a_cons (e_bin r_add (fun t u h1 h2 => pe_op op_addA h1 h2) (bE (e_var 4 (pv 4) rfl)) (bE e_int)) a_nil)) (by exact (len_cons (len_cons len_nil)))) (e_bin r_sub (fun t u h1 h2 => pe_op op_sub h1 h2) (bE (e_bin r_divW (fun t u h1 h2 => pe_op op_fdivW h1 h2) (bE (e_bin r_add (fun t u h1 h2 => pe_op op_addA h1 h2) (bE (e_var 4 (pv 4) rfl)) (bE e_int))) (bE e_int))) (bE (e_cb r_int (fun t h => pe_callTy call_int1 (by rfl) T.g_int (by decide +kernel) h) (ab_cons (bE (e_and (e_bin r_eq (fun t u h1 h2 => pe_cmpR (op_eqX hr.units) h1 h2 (nomark _)) (bE (e_var 7 (pv 7) rfl)) (bE e_int)) (e_one (e_bin r_gt (fun t u h1 h2 => pe_cmpR op_gt h1 h2 (nomark _)) (bE (e_var 4 (pv 4) rfl)) (bE e_int))))) ab_nil))))) a_nil)))))))))
theorem b__law_row (T : Txt K mg A) : Binds K A.d__law_row ["state", "many", "most"] [] := T.f__law_row.binds (ps := ["state", "many", "most"]) fun _ _ _ _ _ _ us hl => match us, hl with | [_, _, _], _ => rfl
theorem sc__law_bad_many : FnScope ["state"] ["state"] (defScope (top 54)) := ⟨rfl, rfl, rfl, by decide +kernel, rfl, by decide +kernel, by decide +kernel⟩
theorem ok__law_bad_many (T : Txt K mg A) : FnOk P w K mg base (L2.CX P w) 3 A.a__law_bad_many A.d__law_bad_many ["state"] (spS K mg 1 G__law_bad_many) := by
  refine okS [] (g := g__law_bad_many) T.f__law_bad_many sc__law_bad_many rfl (by decide) (fun cdv A outer s H E l TP hr => ?_) (fun _ _ _ => rfl)
  have sc := sc__law_bad_many
  exact (ss_one (s_ret (e_callS ⟨rfl, rfl⟩ rfl rfl (fun t h => pe_call (ok__law_pick T) (hr.mono (by decide)) (by rfl) T.m__law_pick T.f__law_pick.kp (b__law_pick T) .nil (passes_call (takes_of rfl rfl rfl rfl) fun _ _ _ _ h => h) h) (a_cons (e_var 0 (pv 0) rfl) (a_cons (nE (n_lst (a_cons e_int (a_cons (e_un r_neg (fun t h => pe_un un_neg h) (bE e_int)) (a_cons e_int (a_cons (e_bin r_pow (fun t u h1 h2 => pe_op op_pow h1 h2) (bE e_int) (bE e_int)) (a_cons e_non (a_cons e_bl (a_cons e_str (a_cons (e_tup (a_cons e_int a_nil)) (a_cons (nE (n_lst (a_cons e_int a_nil))) (a_cons (nE (n_d0 pe_dnewK)) a_nil)))))))))))) a_nil)) (by exact (len_cons (len_cons len_nil))))))
theorem b__law_bad_many (T : Txt K mg A) : Binds K A.d__law_bad_many ["state"] [] := T.f__law_bad_many.binds (ps := ["state"]) fun _ _ _ _ _ _ us hl => match us, hl with | [_], _ => rfl
theorem sc__law_bad_row : FnScope ["state", "many", "some"] ["state", "many"] (defScope (top 55)) := ⟨rfl, rfl, rfl, by decide +kernel, rfl, by decide +kernel, by decide +kernel⟩
theorem ok__law_bad_row (T : Txt K mg A) : FnOk P w K mg base (L2.CX P w) 3 A.a__law_bad_row A.d__law_bad_row ["state", "many"] (spS K mg 2 G__law_bad_row) := by
  refine okS [2] (g := g__law_bad_row) T.f__law_bad_row sc__law_bad_row rfl (by decide) (fun cdv A outer s H E l TP hr => ?_) (fun _ _ _ => rfl)
  have sc := sc__law_bad_row
  exact (ss_cons (s_asgO 2 rfl (fun te h => ps_set (i := 2) sc.nd rfl (by first | exact Or.inl rfl | exact Or.inr rfl) h) (n_lst (a_cons e_non (a_cons e_int (a_cons e_str (a_cons (e_tup a_nil) (a_cons (e_tup (a_cons (e_tup a_nil) (a_cons e_int (a_cons e_int a_nil)))) (a_cons (nE (n_lst (a_cons (e_tup a_nil) (a_cons e_int a_nil)))) (a_cons (e_tup (a_cons (nE (n_lst a_nil)) (a_cons e_int a_nil))) (a_cons (e_tup (a_cons (e_tup a_nil) (a_cons (e_un r_neg (fun t h => pe_un un_neg h) (bE e_int)) a_nil))) (a_cons (e_tup (a_cons (e_tup a_nil) (a_cons e_bl a_nil))) (a_cons (e_tup (a_cons (e_tup a_nil) (a_cons e_non a_nil))) (a_cons (e_tup (a_cons (e_tup (a_cons (e_tup (a_cons e_int (a_cons e_int a_nil))) a_nil)) (a_cons e_str a_nil))) (a_cons (nE (n_d0 pe_dnewK)) a_nil)))))))))))))) (ss_cons (s_asgO 2 rfl (fun te h => ps_set (i := 2) sc.nd rfl (by first | exact Or.inl rfl | exact Or.inr rfl) h) (n_cat (fun t u h1 h2 => pe_op op_cat h1 h2) (b_var 2 (pv 2)) (bE (nE (n_lst (a_cons (e_tup (a_cons (e_tup (a_cons (e_tup (a_cons e_int (a_cons e_int a_nil))) a_nil)) (a_cons e_int a_nil))) (a_cons (e_tup (a_cons (e_tup (a_cons (e_tup (a_cons (e_un r_neg (fun t h => pe_un un_neg h) (bE e_int)) (a_cons e_int a_nil))) a_nil)) (a_cons e_int a_nil))) (a_cons (e_tup (a_cons (e_tup (a_cons (e_tup (a_cons e_bl (a_cons e_int a_nil))) a_nil)) (a_cons e_int a_nil))) (a_cons (e_tup (a_cons (e_tup (a_cons (e_tup (a_cons e_int (a_cons e_int a_nil))) a_nil)) (a_cons e_int a_nil))) (a_cons (e_tup (a_cons (e_tup (a_cons (e_tup (a_cons e_int (a_cons (e_bin r_add (fun t u h1 h2 => pe_op op_addA h1 h2) (bE (e_var 1 (pv 1) rfl)) (bE e_int)) a_nil))) a_nil)) (a_cons e_int a_nil))) (a_cons (e_tup (a_cons (e_tup (a_cons (e_tup (a_cons e_int (a_cons e_bl a_nil))) a_nil)) (a_cons e_int a_nil))) a_nil))))))))))) (ss_cons (s_asgO 2 rfl (fun te h => ps_set (i := 2) sc.nd rfl (by first | exact Or.inl rfl | exact Or.inr rfl) h) (n_cat (fun t u h1 h2 => pe_op op_cat h1 h2) (b_var 2 (pv 2)) (bE (nE (n_lst (a_cons (e_tup (a_cons (e_tup (a_cons (e_tup (a_cons e_int (a_cons e_int a_nil))) (a_cons (e_tup (a_cons e_int (a_cons e_int a_nil))) a_nil))) (a_cons e_int a_nil))) (a_cons (e_tup (a_cons (e_tup (a_cons (e_tup (a_cons e_int (a_cons e_int a_nil))) (a_cons (e_tup (a_cons e_int (a_cons (e_un r_neg (fun t h => pe_un un_neg h) (bE e_int)) a_nil))) a_nil))) (a_cons e_int a_nil))) (a_cons (e_tup (a_cons (e_tup (a_cons (e_tup (a_cons e_int (a_cons e_int (a_cons e_int a_nil)))) a_nil)) (a_cons e_int a_nil))) (a_cons (e_tup (a_cons (nE (n_lst (a_cons (e_tup (a_cons e_int (a_cons e_int a_nil))) a_nil))) (a_cons e_int a_nil))) (a_cons (e_tup (a_cons (e_tup (a_cons (nE (n_lst (a_cons e_int (a_cons e_int a_nil)))) a_nil)) (a_cons e_int a_nil))) (a_cons (e_tup (a_cons (e_tup (a_cons (e_tup (a_cons e_int (a_cons e_non a_nil))) a_nil)) (a_cons e_int a_nil))) a_nil))))))))))) (ss_cons (s_if (t_cmp r_gt op_gt (bE (e_var 1 (pv 1) rfl)) (bE e_int) (nomark _)) (ss_one (s_app 2 rfl (fun te h => ps_expr (pe_bm PySem.F.plainAttrs_list PySem.F.slot_list_append PySem.F.type_list_append mt_append (pv 2) (pa_cons h pa_nil))) (e_tup (a_cons (e_tup (a_cons (e_tup (a_cons e_int (a_cons e_int a_nil))) (a_cons (e_tup (a_cons e_int (a_cons e_int a_nil))) a_nil))) (a_cons e_int a_nil))))) ss_nil) (ss_one (s_frz 2 (s_ret (e_callS ⟨rfl, rfl⟩ rfl rfl (fun t h => pe_call (ok__law_pick T) (hr.mono (by decide)) (by rfl) T.m__law_pick T.f__law_pick.kp (b__law_pick T) .nil (passes_call (takes_of rfl rfl rfl rfl) fun _ _ _ _ h => h) h) (a_cons (e_var 0 (pv 0) rfl) (a_cons (e_var 2 (pv 2) rfl) a_nil)) (by exact (len_cons (len_cons len_nil)))))))))))
theorem b__law_bad_row (T : Txt K mg A) : Binds K A.d__law_bad_row ["state", "many"] [] := T.f__law_bad_row.binds (ps := ["state", "many"]) fun _ _ _ _ _ _ us hl => match us, hl with | [_, _], _ => rfl
theorem sc__law_bad_filling : FnScope ["state", "many", "some"] ["state", "many"] (defScope (top 56)) := ⟨rfl, rfl, rfl, by decide +kernel, rfl, by decide +kernel, by decide +kernel⟩
theorem ok__law_bad_filling (T : Txt K mg A) : FnOk P w K mg base (L2.CX P w) 3 A.a__law_bad_filling A.d__law_bad_filling ["state", "many"] (spS K mg 2 G__law_bad_filling) := by
  refine okS [] (g := g__law_bad_filling) T.f__law_bad_filling sc__law_bad_filling rfl (by decide) (fun cdv A outer s H E l TP hr => ?_) (fun _ _ _ => rfl)
  have sc := sc__law_bad_filling
  exact (ss_cons (s_asg 2 rfl (fun te h => ps_set (i := 2) sc.nd rfl (by first | exact Or.inl rfl | exact Or.inr rfl) h) (nE (n_lst (a_cons e_non (a_cons e_int (a_cons (e_bin r_mulT (fun t u h1 h2 => pe_op op_mulT h1 h2) (bE (e_tup (a_cons e_int a_nil))) (bE (e_bin r_add (fun t u h1 h2 => pe_op op_addA h1 h2) (bE (e_var 1 (pv 1) rfl)) (bE e_int)))) (a_cons (e_bin r_mulT (fun t u h1 h2 => pe_op op_mulT h1 h2) (bE (e_tup (a_cons e_int a_nil))) (bE (e_bin r_sub (fun t u h1 h2 => pe_op op_sub h1 h2) (bE (e_var 1 (pv 1) rfl)) (bE e_int)))) (a_cons (e_bin r_mulT (fun t u h1 h2 => pe_op op_mulT h1 h2) (bE (nE (n_lst (a_cons e_int a_nil)))) (bE (e_var 1 (pv 1) rfl))) (a_cons (e_bin r_add (fun t u h1 h2 => pe_op op_addA h1 h2) (bE (e_tup (a_cons e_int a_nil))) (bE (e_bin r_mulT (fun t u h1 h2 => pe_op op_mulT h1 h2) (bE (e_tup (a_cons e_int a_nil))) (bE (e_bin r_sub (fun t u h1 h2 => pe_op op_sub h1 h2) (bE (e_var 1 (pv 1) rfl)) (bE e_int)))))) (a_cons (e_bin r_mulT (fun t u h1 h2 => pe_op op_mulT h1 h2) (bE (e_tup (a_cons e_bl a_nil))) (bE (e_var 1 (pv 1) rfl))) (a_cons (e_bin r_mulT (fun t u h1 h2 => pe_op op_mulT h1 h2) (bE (e_tup (a_cons e_non a_nil))) (bE (e_var 1 (pv 1) rfl))) a_nil))))))))))) (ss_one (s_ret (e_callS ⟨rfl, rfl⟩ rfl rfl (fun t h => pe_call (ok__law_pick T) (hr.mono (by decide)) (by rfl) T.m__law_pick T.f__law_pick.kp (b__law_pick T) .nil (passes_call (takes_of rfl rfl rfl rfl) fun _ _ _ _ h => h) h) (a_cons (e_var 0 (pv 0) rfl) (a_cons (nE (n_cat (fun t u h1 h2 => pe_op op_cat h1 h2) (bE (e_var 2 (pv 2) rfl)) (bE (nE (n_lst (a_cons (nE (n_d0 pe_dnewK)) (a_cons (e_bin r_mulT (fun t u h1 h2 => pe_op op_mulT h1 h2) (bE e_str) (bE (e_var 1 (pv 1) rfl))) (a_cons (e_bin r_mulT (fun t u h1 h2 => pe_op op_mulT h1 h2) (bE (e_tup (a_cons (e_un r_neg (fun t h => pe_un un_neg h) (bE e_int)) a_nil))) (bE (e_var 1 (pv 1) rfl))) (a_cons (e_bin r_add (fun t u h1 h2 => pe_op op_addA h1 h2) (bE (e_bin r_mulT (fun t u h1 h2 => pe_op op_mulT h1 h2) (bE (e_tup (a_cons e_int a_nil))) (bE (e_bin r_sub (fun t u h1 h2 => pe_op op_sub h1 h2) (bE (e_var 1 (pv 1) rfl)) (bE e_int))))) (bE (e_tup (a_cons e_bl a_nil)))) a_nil))))))))) a_nil)) (by exact (len_cons (len_cons len_nil)))))))
theorem b__law_bad_filling (T : Txt K mg A) : Binds K A.d__law_bad_filling ["state", "many"] [] := T.f__law_bad_filling.binds (ps := ["state", "many"]) fun _ _ _ _ _ _ us hl => match us, hl with | [_, _], _ => rfl
end
end My
namespace My
open PySem PySem.Spec PyProof.Rows L2 VS
def s_law_k02_1 : MS := (asgS 3 (binM gAdd (cM (.int 1)) (callS G__law_draw (consA (varM 1) (consA (cM (.int 6)) nilA)))))
def s_law_k02_2 : MS := (unpS [4, 5] (tupM (consA (callS G__law_row (consA (varM 1) (consA (varM 3) (consA (cM (.int 6)) nilA)))) (consA (callP G__law_fillings [] (consA (varM 3) nilA)) nilA))))
def t_law_k02_3 : MT := (testM (binM gNe (cbM gRepr (consA (lstM (consA (callP G_opposite [] (consA (varM 3) (consA (varM 4) nilA))) (consA (callPK G_opposite 2 [1, 0] (consA (varM 4) (consA (varM 3) nilA))) nilA))) nilA)) (cbM gRepr (consA (lstM (consA (varM 6) (consA (varM 6) nilA))) nilA))))
def t_law_k02_4 : MT := (andT (testM (binM gLe (binM gIxA (varM 4) (cM (.int 1))) (binM gAdd (callP G__law_total [] (consA (varM 4) nilA)) (cM (.int 1))))) (testM (binM gNe (callP G_opposite [] (consA (varM 3) (consA (varM 6) nilA))) (varM 4))))
def t_law_k02_5 : MT := (testM (binM gNe (cbM gRepr (consA (lstM (consA (callP G_total [] (consA (varM 3) (consA (varM 4) nilA))) (consA (callPK G_total 2 [1, 0] (consA (varM 4) (consA (varM 3) nilA))) nilA))) nilA)) (cbM gRepr (consA (binM gMulT (lstM (consA (callP G__law_total [] (consA (varM 4) nilA)) nilA)) (cM (.int 2))) nilA))))
def e_law_k02_6 : ME := (callP G_holds [] (consA (varM 3) (consA (varM 4) (consA (varM 8) nilA))))
def s_law_k02_7 : MS := (asgS 7 (lcM (setN 8) (varM 5) (fun _ S => .ok (true, S)) e_law_k02_6 [8]))
def e_law_k02_8 : ME := (callP G__law_holds [] (consA (varM 4) (consA (varM 8) nilA)))
def t_law_k02_9 : MT := (orT (testM (binM gNe (cbM gRepr (consA (varM 7) nilA)) (cbM gRepr (consA (lcM (setN 8) (varM 5) (fun _ S => .ok (true, S)) e_law_k02_8 [8]) nilA)))) (testM (binM gNe (callPK G_holds 3 [2, 1, 0] (consA (binM gIxA (varM 5) (cM (.int 0))) (consA (varM 4) (consA (varM 3) nilA)))) (binM gIxA (varM 7) (cM (.int 0))))))
def e_law_k02_10 : ME := (callP G_holds [] (consA (varM 3) (consA (varM 6) (consA (varM 8) nilA))))
def t_law_k02_11 : MT := (testM (binM gNe (lcM (setN 8) (varM 5) (fun _ S => .ok (true, S)) e_law_k02_10 [8]) (lcM (setN 9) (varM 7) (fun _ S => .ok (true, S)) (notV (varM 9)) [9])))
def t_law_k02_12 : MT := (testM (binM gNe (cbM gRepr (consA (lstM (consA (callP G_is_impossible [] (consA (varM 3) (consA (varM 4) nilA))) (consA (callPK G_is_impossible 2 [1, 0] (consA (varM 4) (consA (varM 3) nilA))) nilA))) nilA)) (cbM gRepr (consA (binM gMulT (lstM (consA (binM gNotInX (cM (.bl true)) (varM 7)) nilA)) (cM (.int 2))) nilA))))
def t_law_k02_13 : MT := (testM (binM gNe (cbM gRepr (consA (varM 10) nilA)) (cbM gRepr (consA (varM 5) nilA))))
def t_law_k02_14 : MT := (testM (binM gNe (cbM gRepr (consA (callPK G_fillings 1 [0] (consA (varM 3) nilA)) nilA)) (cbM gRepr (consA (varM 5) nilA))))
def s_law_k02_15 : MS := (parS 8 11 (consA (callS G__law_pick (consA (varM 1) (consA (varM 5) nilA))) (consA (binM gAdd (cM (.int 1)) (callS G__law_draw (consA (varM 1) (consA (varM 3) nilA)))) nilA)))
def s_law_k02_16 : MS := (asgS 12 (callS G__law_pick (consA (varM 1) (consA (lstM (consA (varM 11) (consA (binM gSub (cM (.int 0)) (varM 11)) nilA))) nilA))))
def t_law_k02_17 : MT := (testM (binM gNe (cbM gRepr (consA (lstM (consA (callP G_worth [] (consA (varM 3) (consA (varM 12) (consA (varM 8) nilA)))) (consA (callPK G_worth 3 [2, 1, 0] (consA (varM 8) (consA (varM 12) (consA (varM 3) nilA)))) nilA))) nilA)) (cbM gRepr (consA (binM gMulT (lstM (consA (callP G__law_worth [] (consA (varM 12) (consA (varM 8) nilA))) nilA)) (cM (.int 2))) nilA))))
def s_law_k02_18 : MS := (unpS [13, 14, 15] (tupM (consA (callS G__law_bad_filling (consA (varM 1) (consA (varM 3) nilA))) (consA (callS G__law_bad_row (consA (varM 1) (consA (varM 3) nilA))) (consA (callS G__law_bad_many (consA (varM 1) nilA)) nilA)))))
def t_law_k02_19 : MT := (testM (binM gNe (cbM gRepr (consA (lstM (consA (callP G_is_filling [] (consA (varM 3) (consA (varM 16) nilA))) (consA (callPK G_is_filling 2 [1, 0] (consA (varM 16) (consA (varM 3) nilA))) nilA))) nilA)) (cbM gRepr (consA (lstM (consA (varM 9) (consA (varM 9) nilA))) nilA))))
def s_law_k02_20 : MS := (forS (setT [16, 9]) (lstM (consA (tupM (consA (varM 8) (consA (cM (.bl true)) nilA))) (consA (tupM (consA (varM 13) (consA (cM (.bl false)) nilA))) (consA (tupM (consA (callS G__law_odd (consA (varM 1) nilA)) (consA (cM (.bl false)) nilA))) (consA (tupM (consA (cbM gList (consA (varM 8) nilA)) (consA (cM (.bl false)) nilA))) nilA))))) (ifS t_law_k02_19 (retS (cM (.bl false))) nextS))
def l_law_k02_22 : ME := (callLM [("opposite", G_opposite)] 17 (consA (varM 15) (consA (varM 14) nilA)))
def t_law_k02_23 : MT := (notT (testM (unM (gIsD [("BadMany", true), ("BadLiteral", false), ("BadRow", false), ("BadFilling", false), ("TooMany", false)]) (caughtM ["BadMany", "BadLiteral", "BadRow", "BadFilling", "TooMany"] l_law_k02_22))))
def l_law_k02_25 : ME := (callLM [("opposite", G_opposite)] 17 (consA (varM 3) (consA (varM 14) nilA)))
def t_law_k02_26 : MT := (notT (testM (unM (gIsD [("BadMany", false), ("BadLiteral", false), ("BadRow", true), ("BadFilling", false), ("TooMany", false)]) (caughtM ["BadMany", "BadLiteral", "BadRow", "BadFilling", "TooMany"] l_law_k02_25))))
def l_law_k02_28 : ME := (callLM [("total", G_total)] 17 (consA (varM 15) (consA (varM 14) nilA)))
def t_law_k02_29 : MT := (notT (testM (unM (gIsD [("BadMany", true), ("BadLiteral", false), ("BadRow", false), ("BadFilling", false), ("TooMany", false)]) (caughtM ["BadMany", "BadLiteral", "BadRow", "BadFilling", "TooMany"] l_law_k02_28))))
def l_law_k02_31 : ME := (callLM [("total", G_total)] 17 (consA (varM 3) (consA (varM 14) nilA)))
def t_law_k02_32 : MT := (notT (testM (unM (gIsD [("BadMany", false), ("BadLiteral", false), ("BadRow", true), ("BadFilling", false), ("TooMany", false)]) (caughtM ["BadMany", "BadLiteral", "BadRow", "BadFilling", "TooMany"] l_law_k02_31))))
def l_law_k02_34 : ME := (callLM [("is_impossible", G_is_impossible)] 17 (consA (varM 15) (consA (varM 14) nilA)))
def t_law_k02_35 : MT := (notT (testM (unM (gIsD [("BadMany", true), ("BadLiteral", false), ("BadRow", false), ("BadFilling", false), ("TooMany", false)]) (caughtM ["BadMany", "BadLiteral", "BadRow", "BadFilling", "TooMany"] l_law_k02_34))))
def l_law_k02_37 : ME := (callLM [("is_impossible", G_is_impossible)] 17 (consA (varM 3) (consA (varM 14) nilA)))
def t_law_k02_38 : MT := (notT (testM (unM (gIsD [("BadMany", false), ("BadLiteral", false), ("BadRow", true), ("BadFilling", false), ("TooMany", false)]) (caughtM ["BadMany", "BadLiteral", "BadRow", "BadFilling", "TooMany"] l_law_k02_37))))
def l_law_k02_40 : ME := (callP G_holds [] (consA (varM 19) (consA (varM 20) (consA (varM 13) nilA))))
def l_law_k02_42 : ME := (callP G_holds [] (consA (varM 19) (consA (varM 20) (consA (varM 13) nilA))))
noncomputable def s_law_k02_43 : MS := (forH 17 [(fun _ => .cls "opposite", fun _ => (seqS (ifS t_law_k02_23 (retS (cM (.bl false))) nextS) (ifS t_law_k02_26 (retS (cM (.bl false))) nextS))), (fun _ => .cls "total", fun _ => (seqS (ifS t_law_k02_29 (retS (cM (.bl false))) nextS) (ifS t_law_k02_32 (retS (cM (.bl false))) nextS))), (fun _ => .cls "is_impossible", fun _ => (seqS (ifS t_law_k02_35 (retS (cM (.bl false))) nextS) (ifS t_law_k02_38 (retS (cM (.bl false))) nextS))), (fun w => .opq w, fun w => (seqS (ifS (notT (testM (unM (gIsD [("BadMany", true), ("BadLiteral", false), ("BadRow", false), ("BadFilling", false), ("TooMany", false)]) (caughtM ["BadMany", "BadLiteral", "BadRow", "BadFilling", "TooMany"] (callWP [10] 17 2 w (consA (varM 15) (consA (varM 14) nilA)) l_law_k02_40))))) (retS (cM (.bl false))) nextS) (ifS (notT (testM (unM (gIsD [("BadMany", false), ("BadLiteral", false), ("BadRow", true), ("BadFilling", false), ("TooMany", false)]) (caughtM ["BadMany", "BadLiteral", "BadRow", "BadFilling", "TooMany"] (callWP [10] 17 2 w (consA (varM 3) (consA (varM 14) nilA)) l_law_k02_42))))) (retS (cM (.bl false))) nextS)))])
def l_law_k02_45 : ME := (callP G_holds [] (consA (varM 3) (consA (varM 4) (consA (varM 13) nilA))))
def t_law_k02_46 : MT := (notT (testM (unM (gIsD [("BadMany", false), ("BadLiteral", false), ("BadRow", false), ("BadFilling", true), ("TooMany", false)]) (caughtM ["BadMany", "BadLiteral", "BadRow", "BadFilling", "TooMany"] l_law_k02_45))))
def l_law_k02_48 : ME := (callP G_worth [] (consA (varM 3) (consA (varM 12) (consA (varM 13) nilA))))
def t_law_k02_49 : MT := (notT (testM (unM (gIsD [("BadMany", false), ("BadLiteral", false), ("BadRow", false), ("BadFilling", true), ("TooMany", false)]) (caughtM ["BadMany", "BadLiteral", "BadRow", "BadFilling", "TooMany"] l_law_k02_48))))
def l_law_k02_51 : ME := (callP G_worth [] (consA (varM 3) (consA (callS G__law_pick (consA (varM 1) (consA (lstM (consA (cM (.int 0)) (consA (binM gAdd (varM 3) (cM (.int 1))) (consA (cM .non) (consA (cM (.bl true)) (consA (cM (.str "1")) nilA)))))) nilA))) (consA (varM 13) nilA))))
def t_law_k02_52 : MT := (notT (testM (unM (gIsD [("BadMany", false), ("BadLiteral", true), ("BadRow", false), ("BadFilling", false), ("TooMany", false)]) (caughtM ["BadMany", "BadLiteral", "BadRow", "BadFilling", "TooMany"] l_law_k02_51))))
def l_law_k02_53 : ME := (callP G_fillings [] (consA (callS G__law_pick (consA (varM 1) (consA (lstM (consA (cM (.int 13)) (consA (cM (.int 14)) (consA (cM (.int 40)) (consA (cM (.int 200)) (consA (cM (.int 600)) nilA)))))) nilA))) nilA))
def s_law_k02_54 : MS := (asgS 18 (caughtM ["BadMany", "BadLiteral", "BadRow", "BadFilling", "TooMany"] l_law_k02_53))
def t_law_k02_55 : MT := (orT (notT (testM (unM (gIsD [("BadMany", false), ("BadLiteral", false), ("BadRow", false), ("BadFilling", false), ("TooMany", true)]) (varM 18)))) (orT (testM (binM gNe (cbM gReprI (consA (unM (gFld ["TooMany"] "most") (varM 18)) nilA)) (cM (.str "12")))) (notT (testM (unM (gIsD [("BadMany", true), ("BadLiteral", false), ("BadRow", false), ("BadFilling", false), ("TooMany", false)]) (caughtM ["BadMany", "BadLiteral", "BadRow", "BadFilling", "TooMany"] (callP G_fillings [] (consA (varM 15) nilA))))))))
noncomputable def b_law_k02_56 : MS := (seqS s_law_k02_1 (seqS s_law_k02_2 (seqS (asgS 6 (callP G__law_opposite [] (consA (varM 4) nilA))) (seqS (ifS t_law_k02_3 (retS (cM (.bl false))) nextS) (seqS (ifS t_law_k02_4 (retS (cM (.bl false))) nextS) (seqS (ifS t_law_k02_5 (retS (cM (.bl false))) nextS) (seqS s_law_k02_7 (seqS (ifS t_law_k02_9 (retS (cM (.bl false))) nextS) (seqS (ifS t_law_k02_11 (retS (cM (.bl false))) nextS) (seqS (ifS t_law_k02_12 (retS (cM (.bl false))) nextS) (seqS (asgS 10 (callP G_fillings [] (consA (varM 3) nilA))) (seqS (ifS t_law_k02_13 (retS (cM (.bl false))) nextS) (seqS (appS 10 (cM .non)) (seqS (ifS t_law_k02_14 (retS (cM (.bl false))) nextS) (seqS s_law_k02_15 (seqS s_law_k02_16 (seqS (ifS t_law_k02_17 (retS (cM (.bl false))) nextS) (seqS s_law_k02_18 (seqS s_law_k02_20 (seqS s_law_k02_43 (seqS (ifS t_law_k02_46 (retS (cM (.bl false))) nextS) (seqS (ifS t_law_k02_49 (retS (cM (.bl false))) nextS) (seqS (ifS t_law_k02_52 (retS (cM (.bl false))) nextS) (seqS s_law_k02_54 (ifS t_law_k02_55 (retS (cM (.bl false))) nextS)))))))))))))))))))))))))
noncomputable def s_law_k02_57 : MS := (forR (setN 2) (consA (binM gAdd (cM (.int 3)) (cbM gMin (consA (cbM gLenA (consA (varM 0) nilA)) (consA (cM (.int 6)) nilA)))) nilA) b_law_k02_56)
noncomputable def g_law_k02 : MS := (seqS s_law_k02_57 (retS (cM (.bl true))))
end My
namespace My
open PySem PySem.Spec PyProof.Rows L2 VS
section
variable {P : Program} {w : World} {K : PySem.W.Frag} {mg : Str → Option Value} {base : Heap} {A : Adr}
theorem isc_BadFilling (T : Txt K mg A) : IscT K mg A.c_BadFilling [("BadMany", false), ("BadLiteral", false), ("BadRow", false), ("BadFilling", true), ("TooMany", false)] := (isc_cons T.k_BadMany.g T.x_BadMany T.i_BadMany_BadFilling (isc_cons T.k_BadLiteral.g T.x_BadLiteral T.i_BadLiteral_BadFilling (isc_cons T.k_BadRow.g T.x_BadRow T.i_BadRow_BadFilling (isc_cons T.k_BadFilling.g T.x_BadFilling T.i_BadFilling_BadFilling (isc_cons T.k_TooMany.g T.x_TooMany T.i_TooMany_BadFilling isc_nil)))))
theorem isc_BadLiteral (T : Txt K mg A) : IscT K mg A.c_BadLiteral [("BadMany", false), ("BadLiteral", true), ("BadRow", false), ("BadFilling", false), ("TooMany", false)] := (isc_cons T.k_BadMany.g T.x_BadMany T.i_BadMany_BadLiteral (isc_cons T.k_BadLiteral.g T.x_BadLiteral T.i_BadLiteral_BadLiteral (isc_cons T.k_BadRow.g T.x_BadRow T.i_BadRow_BadLiteral (isc_cons T.k_BadFilling.g T.x_BadFilling T.i_BadFilling_BadLiteral (isc_cons T.k_TooMany.g T.x_TooMany T.i_TooMany_BadLiteral isc_nil)))))
theorem isc_BadMany (T : Txt K mg A) : IscT K mg A.c_BadMany [("BadMany", true), ("BadLiteral", false), ("BadRow", false), ("BadFilling", false), ("TooMany", false)] := (isc_cons T.k_BadMany.g T.x_BadMany T.i_BadMany_BadMany (isc_cons T.k_BadLiteral.g T.x_BadLiteral T.i_BadLiteral_BadMany (isc_cons T.k_BadRow.g T.x_BadRow T.i_BadRow_BadMany (isc_cons T.k_BadFilling.g T.x_BadFilling T.i_BadFilling_BadMany (isc_cons T.k_TooMany.g T.x_TooMany T.i_TooMany_BadMany isc_nil)))))
theorem isc_BadRow (T : Txt K mg A) : IscT K mg A.c_BadRow [("BadMany", false), ("BadLiteral", false), ("BadRow", true), ("BadFilling", false), ("TooMany", false)] := (isc_cons T.k_BadMany.g T.x_BadMany T.i_BadMany_BadRow (isc_cons T.k_BadLiteral.g T.x_BadLiteral T.i_BadLiteral_BadRow (isc_cons T.k_BadRow.g T.x_BadRow T.i_BadRow_BadRow (isc_cons T.k_BadFilling.g T.x_BadFilling T.i_BadFilling_BadRow (isc_cons T.k_TooMany.g T.x_TooMany T.i_TooMany_BadRow isc_nil)))))
theorem isc_TooMany (T : Txt K mg A) : IscT K mg A.c_TooMany [("BadMany", false), ("BadLiteral", false), ("BadRow", false), ("BadFilling", false), ("TooMany", true)] := (isc_cons T.k_BadMany.g T.x_BadMany T.i_BadMany_TooMany (isc_cons T.k_BadLiteral.g T.x_BadLiteral T.i_BadLiteral_TooMany (isc_cons T.k_BadRow.g T.x_BadRow T.i_BadRow_TooMany (isc_cons T.k_BadFilling.g T.x_BadFilling T.i_BadFilling_TooMany (isc_cons T.k_TooMany.g T.x_TooMany T.i_TooMany_TooMany isc_nil)))))
theorem kb_opposite_10 (T : Txt K mg A) : KBinds K A.d_opposite ["many", "row"] ["row", "many"] (pickK 2 [1, 0]) (pickK 2 [1, 0]) := kb_of T.f_opposite [1, 0] (by simp) fun _ _ _ _ _ _ ws hl => match ws, hl with | [_, _], _ => rfl
theorem kb_total_10 (T : Txt K mg A) : KBinds K A.d_total ["many", "row"] ["row", "many"] (pickK 2 [1, 0]) (pickK 2 [1, 0]) := kb_of T.f_total [1, 0] (by simp) fun _ _ _ _ _ _ ws hl => match ws, hl with | [_, _], _ => rfl
theorem kb_holds_210 (T : Txt K mg A) : KBinds K A.d_holds ["many", "row", "filling"] ["filling", "row", "many"] (pickK 3 [2, 1, 0]) (pickK 3 [2, 1, 0]) := kb_of T.f_holds [2, 1, 0] (by simp) fun _ _ _ _ _ _ ws hl => match ws, hl with | [_, _, _], _ => rfl
theorem kb_is_impossible_10 (T : Txt K mg A) : KBinds K A.d_is_impossible ["many", "row"] ["row", "many"] (pickK 2 [1, 0]) (pickK 2 [1, 0]) := kb_of T.f_is_impossible [1, 0] (by simp) fun _ _ _ _ _ _ ws hl => match ws, hl with | [_, _], _ => rfl
theorem kb_fillings_0 (T : Txt K mg A) : KBinds K A.d_fillings ["many"] ["many"] (pickK 1 [0]) (pickK 1 [0]) := kb_of T.f_fillings [0] (by simp) fun _ _ _ _ _ _ ws hl => match ws, hl with | [_], _ => rfl
theorem kb_worth_210 (T : Txt K mg A) : KBinds K A.d_worth ["many", "literal", "filling"] ["filling", "literal", "many"] (pickK 3 [2, 1, 0]) (pickK 3 [2, 1, 0]) := kb_of T.f_worth [2, 1, 0] (by simp) fun _ _ _ _ _ _ ws hl => match ws, hl with | [_, _, _], _ => rfl
theorem kb_is_filling_10 (T : Txt K mg A) : KBinds K A.d_is_filling ["many", "thing"] ["thing", "many"] (pickK 2 [1, 0]) (pickK 2 [1, 0]) := kb_of T.f_is_filling [1, 0] (by simp) fun _ _ _ _ _ _ ws hl => match ws, hl with | [_, _], _ => rfl
theorem sc_law : FnScope ["script", "state", "turn", "many", "row", "every", "due", "told", "filling", "fine", "found", "variable", "literal", "bad", "odd", "wrong", "item", "work", "caught"] ["script"] (defScope (top 57)) := ⟨rfl, rfl, rfl, by decide +kernel, rfl, by decide +kernel, by decide +kernel⟩
noncomputable abbrev g_law : MS := g_law_k02
def lawRest : List Stmt := (defBody (top 57)).drop 1
abbrev lamQ : Str := ("law" ++ ".<locals>.") ++ "<lambda>"
theorem law_rest (T : Txt K mg A) {f c Pt : Addr} (TB : LamX.TabB base mg c Pt) {A0 : Around} {outer : List PySem.Env} {s : Shared} {H : Hp} {E : XK} (hgd : A0.guards = some []) (hr : Room 13 (A0.deeper (envOfC "law" (defScope (top 57)) s.heap.objs.size f (.ref c)))) (l : Lay) :
    PSs (cxOf (L2.CX P w) P w K mg base ["script", "state", "turn", "many", "row", "every", "due", "told", "filling", "fine", "found", "variable", "literal", "bad", "odd", "wrong", "item", "work", "caught"] "law" (defScope (top 57)) f (.ref c) A0 outer s H E) lawRest (tS (bS K mg l (tabT [(Pt, lamQ)] l) [10]) E g_law) := by
  have sc := sc_law
  have hgu : (A0.deeper (envOfC "law" (defScope (top 57)) s.heap.objs.size f (.ref c))).units + 100 < cLine := by have := hr.un; omega
  exact (ss_cons (s_forR1 rfl (passes_of rfl) (fun ta h => pi_range1 (by rfl) T.g_range h) (a_cons (e_bin r_add (fun t u h1 h2 => pe_op op_addA h1 h2) (bE e_int) (bE (e_cb r_2I (fun t h => pe_callB (call_min2 rfl) (by rfl) T.g_min (by decide +kernel) h) (ab_cons (bE (e_cb r_lenA (fun t h => pe_callB cr_lenA (by rfl) T.g_len (by decide +kernel) h) (ab_cons (bE (e_var 0 (pv 0) rfl)) ab_nil))) (ab_cons (bE e_int) ab_nil))))) a_nil) (pg_name (i := 2) sc.nd rfl (by first | exact Or.inl rfl | exact Or.inr rfl)) (tg_name 2 rfl) (ss_cons (s_asg 3 rfl (fun te h => ps_set (i := 3) sc.nd rfl (by first | exact Or.inl rfl | exact Or.inr rfl) h) (e_bin r_add (fun t u h1 h2 => pe_op op_addA h1 h2) (bE e_int) (bE (e_callS ⟨rfl, rfl⟩ rfl rfl (fun t h => pe_call (ok__law_draw T) (hr.mono (by decide)) (by rfl) T.m__law_draw T.f__law_draw.kp (b__law_draw T) .nil (passes_call (takes_of rfl rfl rfl rfl) fun _ _ _ _ h => h) h) (a_cons (e_var 1 (pv 1) rfl) (a_cons e_int a_nil)) (by exact (len_cons (len_cons len_nil))))))) (ss_cons (s_unp [4, 5] rfl rfl (fun te h => ps_asg h (pg_tup rfl (pgs_cons (pg_name (i := 4) sc.nd rfl (by first | exact Or.inl rfl | exact Or.inr rfl)) (pgs_cons (pg_name (i := 5) sc.nd rfl (by first | exact Or.inl rfl | exact Or.inr rfl)) pgs_nil)))) (e_tup (a_cons (e_callS ⟨rfl, rfl⟩ rfl rfl (fun t h => pe_call (ok__law_row T) (hr.mono (by decide)) (by rfl) T.m__law_row T.f__law_row.kp (b__law_row T) .nil (passes_call (takes_of rfl rfl rfl rfl) fun _ _ _ _ h => h) h) (a_cons (e_var 1 (pv 1) rfl) (a_cons (e_var 3 (pv 3) rfl) (a_cons e_int a_nil))) (by exact (len_cons (len_cons (len_cons len_nil))))) (a_cons (e_callP [] ⟨rfl, rfl⟩ (fun _ => Dens.nil) rfl (fun t h => pe_call (ok__law_fillings T) (hr.mono (by decide)) (by rfl) T.m__law_fillings T.f__law_fillings.kp (b__law_fillings T) .nil (passes_call (takes_of rfl rfl rfl rfl) fun _ _ _ _ h => h) h) (a_cons (e_var 3 (pv 3) rfl) a_nil) (by exact (len_cons len_nil))) a_nil)))) (ss_cons (s_asg 6 rfl (fun te h => ps_set (i := 6) sc.nd rfl (by first | exact Or.inl rfl | exact Or.inr rfl) h) (e_callP [] ⟨rfl, rfl⟩ (fun _ => Dens.nil) rfl (fun t h => pe_call (ok__law_opposite T) (hr.mono (by decide)) (by rfl) T.m__law_opposite T.f__law_opposite.kp (b__law_opposite T) .nil (passes_call (takes_of rfl rfl rfl rfl) fun _ _ _ _ h => h) h) (a_cons (e_var 4 (pv 4) rfl) a_nil) (by exact (len_cons len_nil)))) (ss_cons (s_if (t_cmp r_ne (op_neX hr.units) (bE (e_cb r_repr (fun t h => pe_callB (cr_repr hgd hgu) (by rfl) T.g_repr (by decide +kernel) h) (ab_cons (bE (nE (n_lst (a_cons (e_callP [] ⟨rfl, rfl⟩ (fun _ => Dens.nil) rfl (fun t h => pe_call (ok_opposite T) (hr.mono (by decide)) (by rfl) T.m_opposite T.f_opposite.kp (b_opposite T) .nil (passes_call (takes_of rfl rfl rfl rfl) fun _ _ _ _ h => h) h) (a_cons (e_var 3 (pv 3) rfl) (a_cons (e_var 4 (pv 4) rfl) a_nil)) (by exact (len_cons (len_cons len_nil)))) (a_cons (e_callPK [1, 0] ⟨rfl, rfl⟩ rfl (fun t h => pe_callK0 (ok_opposite T) (hr.mono (by decide)) (by rfl) T.m_opposite T.f_opposite.kp (kb_opposite_10 T) (passes_call (takes_of rfl rfl rfl rfl) fun _ _ _ _ h => h) h) (k_cons (e_var 4 (pv 4) rfl) (k_cons (e_var 3 (pv 3) rfl) k_nil))) a_nil))))) ab_nil))) (bE (e_cb r_repr (fun t h => pe_callB (cr_repr hgd hgu) (by rfl) T.g_repr (by decide +kernel) h) (ab_cons (bE (nE (n_lst (a_cons (e_var 6 (pv 6) rfl) (a_cons (e_var 6 (pv 6) rfl) a_nil))))) ab_nil))) (nomark _)) (ss_one (s_ret e_bl)) ss_nil) (ss_cons (s_if (PW.pt (w_and (t_cmp r_le op_le (bE (e_bin r_ixA (fun t u h1 h2 => pe_ix (ix_all (hu_of hr)) h1 h2 (fun _ _ => rfl)) (bE (e_var 4 (pv 4) rfl)) (bE e_int))) (bE (e_bin r_add (fun t u h1 h2 => pe_op op_addA h1 h2) (bE (e_callP [] ⟨rfl, rfl⟩ (fun _ => Dens.nil) rfl (fun t h => pe_call (ok__law_total T) (hr.mono (by decide)) (by rfl) T.m__law_total T.f__law_total.kp (b__law_total T) .nil (passes_call (takes_of rfl rfl rfl rfl) fun _ _ _ _ h => h) h) (a_cons (e_var 4 (pv 4) rfl) a_nil) (by exact (len_cons len_nil)))) (bE e_int))) (nomark _)) (w_and1 (t_cmp r_ne (op_neX hr.units) (bE (e_callP [] ⟨rfl, rfl⟩ (fun _ => Dens.nil) rfl (fun t h => pe_call (ok_opposite T) (hr.mono (by decide)) (by rfl) T.m_opposite T.f_opposite.kp (b_opposite T) .nil (passes_call (takes_of rfl rfl rfl rfl) fun _ _ _ _ h => h) h) (a_cons (e_var 3 (pv 3) rfl) (a_cons (e_var 6 (pv 6) rfl) a_nil)) (by exact (len_cons (len_cons len_nil))))) (bE (e_var 4 (pv 4) rfl)) (nomark _))))) (ss_one (s_ret e_bl)) ss_nil) (ss_cons (s_if (t_cmp r_ne (op_neX hr.units) (bE (e_cb r_repr (fun t h => pe_callB (cr_repr hgd hgu) (by rfl) T.g_repr (by decide +kernel) h) (ab_cons (bE (nE (n_lst (a_cons (e_callP [] ⟨rfl, rfl⟩ (fun _ => Dens.nil) rfl (fun t h => pe_call (ok_total T) (hr.mono (by decide)) (by rfl) T.m_total T.f_total.kp (b_total T) .nil (passes_call (takes_of rfl rfl rfl rfl) fun _ _ _ _ h => h) h) (a_cons (e_var 3 (pv 3) rfl) (a_cons (e_var 4 (pv 4) rfl) a_nil)) (by exact (len_cons (len_cons len_nil)))) (a_cons (e_callPK [1, 0] ⟨rfl, rfl⟩ rfl (fun t h => pe_callK0 (ok_total T) (hr.mono (by decide)) (by rfl) T.m_total T.f_total.kp (kb_total_10 T) (passes_call (takes_of rfl rfl rfl rfl) fun _ _ _ _ h => h) h) (k_cons (e_var 4 (pv 4) rfl) (k_cons (e_var 3 (pv 3) rfl) k_nil))) a_nil))))) ab_nil))) (bE (e_cb r_repr (fun t h => pe_callB (cr_repr hgd hgu) (by rfl) T.g_repr (by decide +kernel) h) (ab_cons (bE (e_bin r_mulT (fun t u h1 h2 => pe_op op_mulT h1 h2) (bE (nE (n_lst (a_cons (e_callP [] ⟨rfl, rfl⟩ (fun _ => Dens.nil) rfl (fun t h => pe_call (ok__law_total T) (hr.mono (by decide)) (by rfl) T.m__law_total T.f__law_total.kp (b__law_total T) .nil (passes_call (takes_of rfl rfl rfl rfl) fun _ _ _ _ h => h) h) (a_cons (e_var 4 (pv 4) rfl) a_nil) (by exact (len_cons len_nil))) a_nil)))) (bE e_int))) ab_nil))) (nomark _)) (ss_one (s_ret e_bl)) ss_nil) (ss_cons (s_lc 7 rfl rfl (tg_name 8 rfl) rfl rfl (fun wi hi => ps_setLc (i := 7) (own := [("filling", 8)]) rfl sc.nd rfl rfl (sw_true rfl rfl (by decide +kernel) (by decide +kernel)) hi (blkOk_by (N := ["script", "state", "turn", "many", "row", "every", "due", "told", "filling", "fine", "found", "variable", "literal", "bad", "odd", "wrong", "item", "work", "caught"]) (sc := defScope (top 57)) (by decide +kernel)) (fun _ _ _ _ _ => (pg_name (i := 8) sc.nd rfl (by first | exact Or.inl rfl | exact Or.inr rfl))) (fun _ _ _ _ _ => tYes_ok) (fun _ _ _ _ _ => (e_callP [] ⟨rfl, rfl⟩ (fun _ => Dens.nil) rfl (fun t h => pe_call (ok_holds T) (hr.mono (by decide)) (by rfl) T.m_holds T.f_holds.kp (b_holds T) .nil passL h) (a_cons (e_var 3 (pv 3) rfl) (a_cons (e_var 4 (pv 4) rfl) (a_cons (e_var 8 (pv 8) rfl) a_nil))) (by exact (len_cons (len_cons (len_cons len_nil))))))) (bE (e_var 5 (pv 5) rfl))) (ss_cons (s_if (PW.pt (w_or (t_cmp r_ne (op_neX hr.units) (bE (e_cb r_repr (fun t h => pe_callB (cr_repr hgd hgu) (by rfl) T.g_repr (by decide +kernel) h) (ab_cons (bE (e_var 7 (pv 7) rfl)) ab_nil))) (bE (e_cb r_repr (fun t h => pe_callB (cr_repr hgd hgu) (by rfl) T.g_repr (by decide +kernel) h) (ab_cons (bE (nE (n_lc rfl (tg_name 8 rfl) rfl rfl (fun wi hi => pe_lc (own := [("filling", 8)]) rfl sc.nd hi (blkOk_by (N := ["script", "state", "turn", "many", "row", "every", "due", "told", "filling", "fine", "found", "variable", "literal", "bad", "odd", "wrong", "item", "work", "caught"]) (sc := defScope (top 57)) (by decide +kernel)) (fun _ _ _ _ _ => (pg_name (i := 8) sc.nd rfl (by first | exact Or.inl rfl | exact Or.inr rfl))) (fun _ _ _ _ _ => tYes_ok) (fun _ _ _ _ _ => (e_callP [] ⟨rfl, rfl⟩ (fun _ => Dens.nil) rfl (fun t h => pe_call (ok__law_holds T) (hr.mono (by decide)) (by rfl) T.m__law_holds T.f__law_holds.kp (b__law_holds T) .nil passL h) (a_cons (e_var 4 (pv 4) rfl) (a_cons (e_var 8 (pv 8) rfl) a_nil)) (by exact (len_cons (len_cons len_nil)))))) (bE (e_var 5 (pv 5) rfl))))) ab_nil))) (nomark _)) (w_or1 (t_cmp r_ne (op_neX hr.units) (bE (e_callPK [2, 1, 0] ⟨rfl, rfl⟩ rfl (fun t h => pe_callK0 (ok_holds T) (hr.mono (by decide)) (by rfl) T.m_holds T.f_holds.kp (kb_holds_210 T) (passes_call (takes_of rfl rfl rfl rfl) fun _ _ _ _ h => h) h) (k_cons (e_bin r_ixA (fun t u h1 h2 => pe_ix (ix_all (hu_of hr)) h1 h2 (fun _ _ => rfl)) (bE (e_var 5 (pv 5) rfl)) (bE e_int)) (k_cons (e_var 4 (pv 4) rfl) (k_cons (e_var 3 (pv 3) rfl) k_nil))))) (bE (e_bin r_ixA (fun t u h1 h2 => pe_ix (ix_all (hu_of hr)) h1 h2 (fun _ _ => rfl)) (bE (e_var 7 (pv 7) rfl)) (bE e_int))) (nomark _))))) (ss_one (s_ret e_bl)) ss_nil) (ss_cons (s_if (t_cmp r_ne (op_neX hr.units) (bE (nE (n_lc rfl (tg_name 8 rfl) rfl rfl (fun wi hi => pe_lc (own := [("filling", 8)]) rfl sc.nd hi (blkOk_by (N := ["script", "state", "turn", "many", "row", "every", "due", "told", "filling", "fine", "found", "variable", "literal", "bad", "odd", "wrong", "item", "work", "caught"]) (sc := defScope (top 57)) (by decide +kernel)) (fun _ _ _ _ _ => (pg_name (i := 8) sc.nd rfl (by first | exact Or.inl rfl | exact Or.inr rfl))) (fun _ _ _ _ _ => tYes_ok) (fun _ _ _ _ _ => (e_callP [] ⟨rfl, rfl⟩ (fun _ => Dens.nil) rfl (fun t h => pe_call (ok_holds T) (hr.mono (by decide)) (by rfl) T.m_holds T.f_holds.kp (b_holds T) .nil passL h) (a_cons (e_var 3 (pv 3) rfl) (a_cons (e_var 6 (pv 6) rfl) (a_cons (e_var 8 (pv 8) rfl) a_nil))) (by exact (len_cons (len_cons (len_cons len_nil))))))) (bE (e_var 5 (pv 5) rfl))))) (bE (nE (n_lc rfl (tg_name 9 rfl) rfl rfl (fun wi hi => pe_lc (own := [("fine", 9)]) rfl sc.nd hi (blkOk_by (N := ["script", "state", "turn", "many", "row", "every", "due", "told", "filling", "fine", "found", "variable", "literal", "bad", "odd", "wrong", "item", "work", "caught"]) (sc := defScope (top 57)) (by decide +kernel)) (fun _ _ _ _ _ => (pg_name (i := 9) sc.nd rfl (by first | exact Or.inl rfl | exact Or.inr rfl))) (fun _ _ _ _ _ => tYes_ok) (fun _ _ _ _ _ => (e_not (e_var 9 (pv 9) rfl)))) (bE (e_var 7 (pv 7) rfl))))) (nomark _)) (ss_one (s_ret e_bl)) ss_nil) (ss_cons (s_if (t_cmp r_ne (op_neX hr.units) (bE (e_cb r_repr (fun t h => pe_callB (cr_repr hgd hgu) (by rfl) T.g_repr (by decide +kernel) h) (ab_cons (bE (nE (n_lst (a_cons (e_callP [] ⟨rfl, rfl⟩ (fun _ => Dens.nil) rfl (fun t h => pe_call (ok_is_impossible T) (hr.mono (by decide)) (by rfl) T.m_is_impossible T.f_is_impossible.kp (b_is_impossible T) .nil (passes_call (takes_of rfl rfl rfl rfl) fun _ _ _ _ h => h) h) (a_cons (e_var 3 (pv 3) rfl) (a_cons (e_var 4 (pv 4) rfl) a_nil)) (by exact (len_cons (len_cons len_nil)))) (a_cons (e_callPK [1, 0] ⟨rfl, rfl⟩ rfl (fun t h => pe_callK0 (ok_is_impossible T) (hr.mono (by decide)) (by rfl) T.m_is_impossible T.f_is_impossible.kp (kb_is_impossible_10 T) (passes_call (takes_of rfl rfl rfl rfl) fun _ _ _ _ h => h) h) (k_cons (e_var 4 (pv 4) rfl) (k_cons (e_var 3 (pv 3) rfl) k_nil))) a_nil))))) ab_nil))) (bE (e_cb r_repr (fun t h => pe_callB (cr_repr hgd hgu) (by rfl) T.g_repr (by decide +kernel) h) (ab_cons (bE (e_bin r_mulT (fun t u h1 h2 => pe_op op_mulT h1 h2) (bE (nE (n_lst (a_cons (e_bin r_notInX (fun t u h1 h2 => pe_cmpR (op_notInX hr.units) h1 h2 (by rfl)) (bE e_bl) (bE (e_var 7 (pv 7) rfl))) a_nil)))) (bE e_int))) ab_nil))) (nomark _)) (ss_one (s_ret e_bl)) ss_nil) (ss_cons (s_asgO 10 rfl (fun te h => ps_set (i := 10) sc.nd rfl (by first | exact Or.inl rfl | exact Or.inr rfl) h) (n_callP [] ⟨rfl, rfl⟩ (fun _ => Dens.nil) rfl (fun t h => pe_call (ok_fillings T) (hr.mono (by decide)) (by rfl) T.m_fillings T.f_fillings.kp (b_fillings T) .nil (passes_call (takes_of rfl rfl rfl rfl) fun _ _ _ _ h => h) h) (a_cons (e_var 3 (pv 3) rfl) a_nil) (by exact (len_cons len_nil)))) (ss_cons (s_if (t_cmp r_ne (op_neX hr.units) (bE (e_cb r_repr (fun t h => pe_callB (cr_repr hgd hgu) (by rfl) T.g_repr (by decide +kernel) h) (ab_cons (b_var 10 (pv 10)) ab_nil))) (bE (e_cb r_repr (fun t h => pe_callB (cr_repr hgd hgu) (by rfl) T.g_repr (by decide +kernel) h) (ab_cons (bE (e_var 5 (pv 5) rfl)) ab_nil))) (nomark _)) (ss_one (s_ret e_bl)) ss_nil) (ss_cons (s_app 10 rfl (fun te h => ps_expr (pe_bm PySem.F.plainAttrs_list PySem.F.slot_list_append PySem.F.type_list_append mt_append (pv 10) (pa_cons h pa_nil))) e_non) (ss_cons (s_if (t_cmp r_ne (op_neX hr.units) (bE (e_cb r_repr (fun t h => pe_callB (cr_repr hgd hgu) (by rfl) T.g_repr (by decide +kernel) h) (ab_cons (bE (nE (n_callPK [0] ⟨rfl, rfl⟩ rfl (fun t h => pe_callK0 (ok_fillings T) (hr.mono (by decide)) (by rfl) T.m_fillings T.f_fillings.kp (kb_fillings_0 T) (passes_call (takes_of rfl rfl rfl rfl) fun _ _ _ _ h => h) h) (k_cons (e_var 3 (pv 3) rfl) k_nil)))) ab_nil))) (bE (e_cb r_repr (fun t h => pe_callB (cr_repr hgd hgu) (by rfl) T.g_repr (by decide +kernel) h) (ab_cons (bE (e_var 5 (pv 5) rfl)) ab_nil))) (nomark _)) (ss_one (s_ret e_bl)) ss_nil) (ss_cons (s_par 8 11 rfl rfl (fun ta h => ps_par (by rfl) sc.nd rfl rfl (by decide) rfl rfl h (by rfl)) (a_cons (e_callS ⟨rfl, rfl⟩ rfl rfl (fun t h => pe_call (ok__law_pick T) (hr.mono (by decide)) (by rfl) T.m__law_pick T.f__law_pick.kp (b__law_pick T) .nil (passes_call (takes_of rfl rfl rfl rfl) fun _ _ _ _ h => h) h) (a_cons (e_var 1 (pv 1) rfl) (a_cons (e_var 5 (pv 5) rfl) a_nil)) (by exact (len_cons (len_cons len_nil)))) (a_cons (e_bin r_add (fun t u h1 h2 => pe_op op_addA h1 h2) (bE e_int) (bE (e_callS ⟨rfl, rfl⟩ rfl rfl (fun t h => pe_call (ok__law_draw T) (hr.mono (by decide)) (by rfl) T.m__law_draw T.f__law_draw.kp (b__law_draw T) .nil (passes_call (takes_of rfl rfl rfl rfl) fun _ _ _ _ h => h) h) (a_cons (e_var 1 (pv 1) rfl) (a_cons (e_var 3 (pv 3) rfl) a_nil)) (by exact (len_cons (len_cons len_nil)))))) a_nil))) (ss_cons (s_asg 12 rfl (fun te h => ps_set (i := 12) sc.nd rfl (by first | exact Or.inl rfl | exact Or.inr rfl) h) (e_callS ⟨rfl, rfl⟩ rfl rfl (fun t h => pe_call (ok__law_pick T) (hr.mono (by decide)) (by rfl) T.m__law_pick T.f__law_pick.kp (b__law_pick T) .nil (passes_call (takes_of rfl rfl rfl rfl) fun _ _ _ _ h => h) h) (a_cons (e_var 1 (pv 1) rfl) (a_cons (nE (n_lst (a_cons (e_var 11 (pv 11) rfl) (a_cons (e_bin r_sub (fun t u h1 h2 => pe_op op_sub h1 h2) (bE e_int) (bE (e_var 11 (pv 11) rfl))) a_nil)))) a_nil)) (by exact (len_cons (len_cons len_nil))))) (ss_cons (s_if (t_cmp r_ne (op_neX hr.units) (bE (e_cb r_repr (fun t h => pe_callB (cr_repr hgd hgu) (by rfl) T.g_repr (by decide +kernel) h) (ab_cons (bE (nE (n_lst (a_cons (e_callP [] ⟨rfl, rfl⟩ (fun _ => Dens.nil) rfl (fun t h => pe_call (ok_worth T) (hr.mono (by decide)) (by rfl) T.m_worth T.f_worth.kp (b_worth T) .nil (passes_call (takes_of rfl rfl rfl rfl) fun _ _ _ _ h => h) h) (a_cons (e_var 3 (pv 3) rfl) (a_cons (e_var 12 (pv 12) rfl) (a_cons (e_var 8 (pv 8) rfl) a_nil))) (by exact (len_cons (len_cons (len_cons len_nil))))) (a_cons (e_callPK [2, 1, 0] ⟨rfl, rfl⟩ rfl (fun t h => pe_callK0 (ok_worth T) (hr.mono (by decide)) (by rfl) T.m_worth T.f_worth.kp (kb_worth_210 T) (passes_call (takes_of rfl rfl rfl rfl) fun _ _ _ _ h => h) h) (k_cons (e_var 8 (pv 8) rfl) (k_cons (e_var 12 (pv 12) rfl) (k_cons (e_var 3 (pv 3) rfl) k_nil)))) a_nil))))) ab_nil))) (bE (e_cb r_repr (fun t h => pe_callB (cr_repr hgd hgu) (by rfl) T.g_repr (by decide +kernel) h) (ab_cons (bE (e_bin r_mulT (fun t u h1 h2 => pe_op op_mulT h1 h2) (bE (nE (n_lst (a_cons (e_callP [] ⟨rfl, rfl⟩ (fun _ => Dens.nil) rfl (fun t h => pe_call (ok__law_worth T) (hr.mono (by decide)) (by rfl) T.m__law_worth T.f__law_worth.kp (b__law_worth T) .nil (passes_call (takes_of rfl rfl rfl rfl) fun _ _ _ _ h => h) h) (a_cons (e_var 12 (pv 12) rfl) (a_cons (e_var 8 (pv 8) rfl) a_nil)) (by exact (len_cons (len_cons len_nil)))) a_nil)))) (bE e_int))) ab_nil))) (nomark _)) (ss_one (s_ret e_bl)) ss_nil) (ss_cons (s_unp [13, 14, 15] rfl rfl (fun te h => ps_asg h (pg_tup rfl (pgs_cons (pg_name (i := 13) sc.nd rfl (by first | exact Or.inl rfl | exact Or.inr rfl)) (pgs_cons (pg_name (i := 14) sc.nd rfl (by first | exact Or.inl rfl | exact Or.inr rfl)) (pgs_cons (pg_name (i := 15) sc.nd rfl (by first | exact Or.inl rfl | exact Or.inr rfl)) pgs_nil))))) (e_tup (a_cons (e_callS ⟨rfl, rfl⟩ rfl rfl (fun t h => pe_call (ok__law_bad_filling T) (hr.mono (by decide)) (by rfl) T.m__law_bad_filling T.f__law_bad_filling.kp (b__law_bad_filling T) .nil (passes_call (takes_of rfl rfl rfl rfl) fun _ _ _ _ h => h) h) (a_cons (e_var 1 (pv 1) rfl) (a_cons (e_var 3 (pv 3) rfl) a_nil)) (by exact (len_cons (len_cons len_nil)))) (a_cons (e_callS ⟨rfl, rfl⟩ rfl rfl (fun t h => pe_call (ok__law_bad_row T) (hr.mono (by decide)) (by rfl) T.m__law_bad_row T.f__law_bad_row.kp (b__law_bad_row T) .nil (passes_call (takes_of rfl rfl rfl rfl) fun _ _ _ _ h => h) h) (a_cons (e_var 1 (pv 1) rfl) (a_cons (e_var 3 (pv 3) rfl) a_nil)) (by exact (len_cons (len_cons len_nil)))) (a_cons (e_callS ⟨rfl, rfl⟩ rfl rfl (fun t h => pe_call (ok__law_bad_many T) (hr.mono (by decide)) (by rfl) T.m__law_bad_many T.f__law_bad_many.kp (b__law_bad_many T) .nil (passes_call (takes_of rfl rfl rfl rfl) fun _ _ _ _ h => h) h) (a_cons (e_var 1 (pv 1) rfl) a_nil) (by exact (len_cons len_nil))) a_nil))))) (ss_cons (s_for rfl rfl (passes_of rfl) (nE (n_lst (a_cons (e_tup (a_cons (e_var 8 (pv 8) rfl) (a_cons e_bl a_nil))) (a_cons (e_tup (a_cons (e_var 13 (pv 13) rfl) (a_cons e_bl a_nil))) (a_cons (e_tup (a_cons (e_callS ⟨rfl, rfl⟩ rfl rfl (fun t h => pe_call (ok__law_odd T) (hr.mono (by decide)) (by rfl) T.m__law_odd T.f__law_odd.kp (b__law_odd T) .nil (passes_call (takes_of rfl rfl rfl rfl) fun _ _ _ _ h => h) h) (a_cons (e_var 1 (pv 1) rfl) a_nil) (by exact (len_cons len_nil))) (a_cons e_bl a_nil))) (a_cons (e_tup (a_cons (nE (n_cb r_list (fun t h => pe_callTy call_list_of (by rfl) T.g_list (by decide +kernel) h) (ab_cons (bE (e_var 8 (pv 8) rfl)) ab_nil))) (a_cons e_bl a_nil))) a_nil)))))) (pg_tup rfl (pgs_cons (pg_name (i := 16) sc.nd rfl (by first | exact Or.inl rfl | exact Or.inr rfl)) (pgs_cons (pg_name (i := 9) sc.nd rfl (by first | exact Or.inl rfl | exact Or.inr rfl)) pgs_nil))) (tg_tup [16, 9] rfl rfl) (ss_one (s_if (t_cmp r_ne (op_neX hr.units) (bE (e_cb r_repr (fun t h => pe_callB (cr_repr hgd hgu) (by rfl) T.g_repr (by decide +kernel) h) (ab_cons (bE (nE (n_lst (a_cons (e_callP [] ⟨rfl, rfl⟩ (fun _ => Dens.nil) rfl (fun t h => pe_call (ok_is_filling T) (hr.mono (by decide)) (by rfl) T.m_is_filling T.f_is_filling.kp (b_is_filling T) .nil (passes_call (takes_of rfl rfl rfl rfl) fun _ _ _ _ h => h) h) (a_cons (e_var 3 (pv 3) rfl) (a_cons (e_var 16 (pv 16) rfl) a_nil)) (by exact (len_cons (len_cons len_nil)))) (a_cons (e_callPK [1, 0] ⟨rfl, rfl⟩ rfl (fun t h => pe_callK0 (ok_is_filling T) (hr.mono (by decide)) (by rfl) T.m_is_filling T.f_is_filling.kp (kb_is_filling_10 T) (passes_call (takes_of rfl rfl rfl rfl) fun _ _ _ _ h => h) h) (k_cons (e_var 16 (pv 16) rfl) (k_cons (e_var 3 (pv 3) rfl) k_nil))) a_nil))))) ab_nil))) (bE (e_cb r_repr (fun t h => pe_callB (cr_repr hgd hgu) (by rfl) T.g_repr (by decide +kernel) h) (ab_cons (bE (nE (n_lst (a_cons (e_var 9 (pv 9) rfl) (a_cons (e_var 9 (pv 9) rfl) a_nil))))) ab_nil))) (nomark _)) (ss_one (s_ret e_bl)) ss_nil))) (ss_cons (s_forH [(.df "opposite" A.a_opposite, _), (.df "total" A.a_total, _), (.df "is_impossible" A.a_is_impossible, _), (.lm ⟨_, _, _⟩, _)] rfl rfl rfl (passes_of rfl) rfl rfl (ph_df (pe_glob (by rfl) T.m_opposite rfl) (ph_df (pe_glob (by rfl) T.m_total rfl) (ph_df (pe_glob (by rfl) T.m_is_impossible rfl) (ph_lm (pe_lamP TB rfl (List.mem_singleton.mpr rfl) (fun p hp _ => by rw [List.mem_singleton.mp hp]; rfl) (lamSP_by (sc := defScope (top 57)) (N := ["script", "state", "turn", "many", "row", "every", "due", "told", "filling", "fine", "found", "variable", "literal", "bad", "odd", "wrong", "item", "work", "caught"]) (ps := ["one", "two"]) (by decide +kernel)) rfl) ph_nil)))) (by show 4 ≤ sizeLine; rw [sizeLine_eq]; decide) (dfs_df T.m_opposite (dfs_df T.m_total (dfs_df T.m_is_impossible (dfs_lm dfs_nil)))) (pg_name (i := 17) sc.nd rfl (by first | exact Or.inl rfl | exact Or.inr rfl)) rfl (bh_df ((ss_cons (s_if (t_not (t_val (e_isd [("BadMany", true), ("BadLiteral", false), ("BadRow", false), ("BadFilling", false), ("TooMany", false)] ⟨rfl, rfl⟩ (by exact T.nn_BadMany) (by exact isc_BadMany T) (.own _) (fun te h => pe_callB call_isD (by rfl) T.g_isinstance (by decide +kernel) (pa_cons h (pa_cons (pe_glob (by rfl) T.k_BadMany.g rfl) pa_nil))) (e_caught ⟨rfl, rfl⟩ rfl rfl ["BadMany", "BadLiteral", "BadRow", "BadFilling", "TooMany"] (by exact kn_all T) (by exact pe_caught (k := 7) T.f__law_caught (by rfl) T.m__law_caught sc__law_caught rfl (.inl rfl) (b__law_caught T) (fun cdv => gives_caught T) TB rfl (List.mem_singleton.mpr rfl) (fun p hp _ => by rw [List.mem_singleton.mp hp]; rfl) (hr.mono (by decide)) (LamX.lamS_by (sc := defScope (top 57)) (by decide +kernel)) rfl (fun _ _ _ _ _ => rfl) (by intro Ar outer s H E f c' hr; exact (e_callL (i := 17) rfl ⟨rfl, rfl⟩ rfl (by exact (loc_cons T.m_opposite (fun t h => pe_callL (i := 17) (ok_opposite T) (hr.mono (by decide)) rfl (by first | exact Or.inl rfl | exact Or.inr (Or.inl rfl) | exact Or.inr (Or.inr rfl)) T.f_opposite.kp (b_opposite T) .nil (passes_call (takes_of rfl rfl rfl rfl) fun _ _ _ _ h => h) h) loc_nil)) (a_cons (e_var 15 (pv 15) rfl) (a_cons (e_var 14 (pv 14) rfl) a_nil)) (by exact (len_cons (len_cons len_nil)))))))))) (ss_one (s_ret e_bl)) ss_nil) (ss_one (s_if (t_not (t_val (e_isd [("BadMany", false), ("BadLiteral", false), ("BadRow", true), ("BadFilling", false), ("TooMany", false)] ⟨rfl, rfl⟩ (by exact T.nn_BadRow) (by exact isc_BadRow T) (.own _) (fun te h => pe_callB call_isD (by rfl) T.g_isinstance (by decide +kernel) (pa_cons h (pa_cons (pe_glob (by rfl) T.k_BadRow.g rfl) pa_nil))) (e_caught ⟨rfl, rfl⟩ rfl rfl ["BadMany", "BadLiteral", "BadRow", "BadFilling", "TooMany"] (by exact kn_all T) (by exact pe_caught (k := 7) T.f__law_caught (by rfl) T.m__law_caught sc__law_caught rfl (.inl rfl) (b__law_caught T) (fun cdv => gives_caught T) TB rfl (List.mem_singleton.mpr rfl) (fun p hp _ => by rw [List.mem_singleton.mp hp]; rfl) (hr.mono (by decide)) (LamX.lamS_by (sc := defScope (top 57)) (by decide +kernel)) rfl (fun _ _ _ _ _ => rfl) (by intro Ar outer s H E f c' hr; exact (e_callL (i := 17) rfl ⟨rfl, rfl⟩ rfl (by exact (loc_cons T.m_opposite (fun t h => pe_callL (i := 17) (ok_opposite T) (hr.mono (by decide)) rfl (by first | exact Or.inl rfl | exact Or.inr (Or.inl rfl) | exact Or.inr (Or.inr rfl)) T.f_opposite.kp (b_opposite T) .nil (passes_call (takes_of rfl rfl rfl rfl) fun _ _ _ _ h => h) h) loc_nil)) (a_cons (e_var 3 (pv 3) rfl) (a_cons (e_var 14 (pv 14) rfl) a_nil)) (by exact (len_cons (len_cons len_nil)))))))))) (ss_one (s_ret e_bl)) ss_nil)))) (bh_df ((ss_cons (s_if (t_not (t_val (e_isd [("BadMany", true), ("BadLiteral", false), ("BadRow", false), ("BadFilling", false), ("TooMany", false)] ⟨rfl, rfl⟩ (by exact T.nn_BadMany) (by exact isc_BadMany T) (.own _) (fun te h => pe_callB call_isD (by rfl) T.g_isinstance (by decide +kernel) (pa_cons h (pa_cons (pe_glob (by rfl) T.k_BadMany.g rfl) pa_nil))) (e_caught ⟨rfl, rfl⟩ rfl rfl ["BadMany", "BadLiteral", "BadRow", "BadFilling", "TooMany"] (by exact kn_all T) (by exact pe_caught (k := 7) T.f__law_caught (by rfl) T.m__law_caught sc__law_caught rfl (.inl rfl) (b__law_caught T) (fun cdv => gives_caught T) TB rfl (List.mem_singleton.mpr rfl) (fun p hp _ => by rw [List.mem_singleton.mp hp]; rfl) (hr.mono (by decide)) (LamX.lamS_by (sc := defScope (top 57)) (by decide +kernel)) rfl (fun _ _ _ _ _ => rfl) (by intro Ar outer s H E f c' hr; exact (e_callL (i := 17) rfl ⟨rfl, rfl⟩ rfl (by exact (loc_cons T.m_total (fun t h => pe_callL (i := 17) (ok_total T) (hr.mono (by decide)) rfl (by first | exact Or.inl rfl | exact Or.inr (Or.inl rfl) | exact Or.inr (Or.inr rfl)) T.f_total.kp (b_total T) .nil (passes_call (takes_of rfl rfl rfl rfl) fun _ _ _ _ h => h) h) loc_nil)) (a_cons (e_var 15 (pv 15) rfl) (a_cons (e_var 14 (pv 14) rfl) a_nil)) (by exact (len_cons (len_cons len_nil)))))))))) (ss_one (s_ret e_bl)) ss_nil) (ss_one (s_if (t_not (t_val (e_isd [("BadMany", false), ("BadLiteral", false), ("BadRow", true), ("BadFilling", false), ("TooMany", false)] ⟨rfl, rfl⟩ (by exact T.nn_BadRow) (by exact isc_BadRow T) (.own _) (fun te h => pe_callB call_isD (by rfl) T.g_isinstance (by decide +kernel) (pa_cons h (pa_cons (pe_glob (by rfl) T.k_BadRow.g rfl) pa_nil))) (e_caught ⟨rfl, rfl⟩ rfl rfl ["BadMany", "BadLiteral", "BadRow", "BadFilling", "TooMany"] (by exact kn_all T) (by exact pe_caught (k := 7) T.f__law_caught (by rfl) T.m__law_caught sc__law_caught rfl (.inl rfl) (b__law_caught T) (fun cdv => gives_caught T) TB rfl (List.mem_singleton.mpr rfl) (fun p hp _ => by rw [List.mem_singleton.mp hp]; rfl) (hr.mono (by decide)) (LamX.lamS_by (sc := defScope (top 57)) (by decide +kernel)) rfl (fun _ _ _ _ _ => rfl) (by intro Ar outer s H E f c' hr; exact (e_callL (i := 17) rfl ⟨rfl, rfl⟩ rfl (by exact (loc_cons T.m_total (fun t h => pe_callL (i := 17) (ok_total T) (hr.mono (by decide)) rfl (by first | exact Or.inl rfl | exact Or.inr (Or.inl rfl) | exact Or.inr (Or.inr rfl)) T.f_total.kp (b_total T) .nil (passes_call (takes_of rfl rfl rfl rfl) fun _ _ _ _ h => h) h) loc_nil)) (a_cons (e_var 3 (pv 3) rfl) (a_cons (e_var 14 (pv 14) rfl) a_nil)) (by exact (len_cons (len_cons len_nil)))))))))) (ss_one (s_ret e_bl)) ss_nil)))) (bh_df ((ss_cons (s_if (t_not (t_val (e_isd [("BadMany", true), ("BadLiteral", false), ("BadRow", false), ("BadFilling", false), ("TooMany", false)] ⟨rfl, rfl⟩ (by exact T.nn_BadMany) (by exact isc_BadMany T) (.own _) (fun te h => pe_callB call_isD (by rfl) T.g_isinstance (by decide +kernel) (pa_cons h (pa_cons (pe_glob (by rfl) T.k_BadMany.g rfl) pa_nil))) (e_caught ⟨rfl, rfl⟩ rfl rfl ["BadMany", "BadLiteral", "BadRow", "BadFilling", "TooMany"] (by exact kn_all T) (by exact pe_caught (k := 7) T.f__law_caught (by rfl) T.m__law_caught sc__law_caught rfl (.inl rfl) (b__law_caught T) (fun cdv => gives_caught T) TB rfl (List.mem_singleton.mpr rfl) (fun p hp _ => by rw [List.mem_singleton.mp hp]; rfl) (hr.mono (by decide)) (LamX.lamS_by (sc := defScope (top 57)) (by decide +kernel)) rfl (fun _ _ _ _ _ => rfl) (by intro Ar outer s H E f c' hr; exact (e_callL (i := 17) rfl ⟨rfl, rfl⟩ rfl (by exact (loc_cons T.m_is_impossible (fun t h => pe_callL (i := 17) (ok_is_impossible T) (hr.mono (by decide)) rfl (by first | exact Or.inl rfl | exact Or.inr (Or.inl rfl) | exact Or.inr (Or.inr rfl)) T.f_is_impossible.kp (b_is_impossible T) .nil (passes_call (takes_of rfl rfl rfl rfl) fun _ _ _ _ h => h) h) loc_nil)) (a_cons (e_var 15 (pv 15) rfl) (a_cons (e_var 14 (pv 14) rfl) a_nil)) (by exact (len_cons (len_cons len_nil)))))))))) (ss_one (s_ret e_bl)) ss_nil) (ss_one (s_if (t_not (t_val (e_isd [("BadMany", false), ("BadLiteral", false), ("BadRow", true), ("BadFilling", false), ("TooMany", false)] ⟨rfl, rfl⟩ (by exact T.nn_BadRow) (by exact isc_BadRow T) (.own _) (fun te h => pe_callB call_isD (by rfl) T.g_isinstance (by decide +kernel) (pa_cons h (pa_cons (pe_glob (by rfl) T.k_BadRow.g rfl) pa_nil))) (e_caught ⟨rfl, rfl⟩ rfl rfl ["BadMany", "BadLiteral", "BadRow", "BadFilling", "TooMany"] (by exact kn_all T) (by exact pe_caught (k := 7) T.f__law_caught (by rfl) T.m__law_caught sc__law_caught rfl (.inl rfl) (b__law_caught T) (fun cdv => gives_caught T) TB rfl (List.mem_singleton.mpr rfl) (fun p hp _ => by rw [List.mem_singleton.mp hp]; rfl) (hr.mono (by decide)) (LamX.lamS_by (sc := defScope (top 57)) (by decide +kernel)) rfl (fun _ _ _ _ _ => rfl) (by intro Ar outer s H E f c' hr; exact (e_callL (i := 17) rfl ⟨rfl, rfl⟩ rfl (by exact (loc_cons T.m_is_impossible (fun t h => pe_callL (i := 17) (ok_is_impossible T) (hr.mono (by decide)) rfl (by first | exact Or.inl rfl | exact Or.inr (Or.inl rfl) | exact Or.inr (Or.inr rfl)) T.f_is_impossible.kp (b_is_impossible T) .nil (passes_call (takes_of rfl rfl rfl rfl) fun _ _ _ _ h => h) h) loc_nil)) (a_cons (e_var 3 (pv 3) rfl) (a_cons (e_var 14 (pv 14) rfl) a_nil)) (by exact (len_cons (len_cons len_nil)))))))))) (ss_one (s_ret e_bl)) ss_nil)))) (bh_lm (fun f c' => (ss_cons (s_if (t_not (t_val (e_isd [("BadMany", true), ("BadLiteral", false), ("BadRow", false), ("BadFilling", false), ("TooMany", false)] ⟨rfl, rfl⟩ (by exact T.nn_BadMany) (by exact isc_BadMany T) (.own _) (fun te h => pe_callB call_isD (by rfl) T.g_isinstance (by decide +kernel) (pa_cons h (pa_cons (pe_glob (by rfl) T.k_BadMany.g rfl) pa_nil))) (e_caughtL ⟨rfl, rfl⟩ rfl rfl ["BadMany", "BadLiteral", "BadRow", "BadFilling", "TooMany"] (by exact kn_all T) (by exact pe_caughtI (k := 8) T.f__law_caught (by rfl) T.m__law_caught sc__law_caught rfl (.inl rfl) (b__law_caught T) (fun cdv => gives_caught T) TB rfl (List.mem_singleton.mpr rfl) (fun p hp _ => by rw [List.mem_singleton.mp hp]; rfl) (hr.mono (by decide)) (LamX.lamS_by (sc := defScope (top 57)) (by decide +kernel)) rfl (fun _ _ _ _ _ => rfl) (by intro pins σ H0 s0 I0 Ar outer s H E f1 c1 un ho hr; exact (e_callWP rfl (by exact pe_actP (k := 7) I0 un ho (lamSP_by (sc := defScope (top 57)) (N := ["script", "state", "turn", "many", "row", "every", "due", "told", "filling", "fine", "found", "variable", "literal", "bad", "odd", "wrong", "item", "work", "caught"]) (ps := ["one", "two"]) (by decide +kernel)) (fun _ _ _ _ _ us hl => match us, hl with | [_, _], _ => rfl) hr (by intro Ar outer s H hr; exact (e_callP [] ⟨rfl, rfl⟩ (fun _ => Dens.nil) rfl (fun t h => pe_call (ok_holds T) (hr.mono (by decide)) (by rfl) T.m_holds T.f_holds.kp (b_holds T) .nil (passes_call (takes_of rfl rfl rfl rfl) fun _ _ _ _ h => h) h) (a_cons (e_var 19 (pv 19) rfl) (a_cons (e_var 20 (pv 20) rfl) (a_cons (e_var 13 (pv 13) rfl) a_nil))) (by exact (len_cons (len_cons (len_cons len_nil)))))) rfl (Or.inr (Or.inr rfl)) (a_cons (e_var 15 (pv 15) rfl) (a_cons (e_var 14 (pv 14) rfl) a_nil)))))))))) (ss_one (s_ret e_bl)) ss_nil) (ss_one (s_if (t_not (t_val (e_isd [("BadMany", false), ("BadLiteral", false), ("BadRow", true), ("BadFilling", false), ("TooMany", false)] ⟨rfl, rfl⟩ (by exact T.nn_BadRow) (by exact isc_BadRow T) (.own _) (fun te h => pe_callB call_isD (by rfl) T.g_isinstance (by decide +kernel) (pa_cons h (pa_cons (pe_glob (by rfl) T.k_BadRow.g rfl) pa_nil))) (e_caughtL ⟨rfl, rfl⟩ rfl rfl ["BadMany", "BadLiteral", "BadRow", "BadFilling", "TooMany"] (by exact kn_all T) (by exact pe_caughtI (k := 8) T.f__law_caught (by rfl) T.m__law_caught sc__law_caught rfl (.inl rfl) (b__law_caught T) (fun cdv => gives_caught T) TB rfl (List.mem_singleton.mpr rfl) (fun p hp _ => by rw [List.mem_singleton.mp hp]; rfl) (hr.mono (by decide)) (LamX.lamS_by (sc := defScope (top 57)) (by decide +kernel)) rfl (fun _ _ _ _ _ => rfl) (by intro pins σ H0 s0 I0 Ar outer s H E f1 c1 un ho hr; exact (e_callWP rfl (by exact pe_actP (k := 7) I0 un ho (lamSP_by (sc := defScope (top 57)) (N := ["script", "state", "turn", "many", "row", "every", "due", "told", "filling", "fine", "found", "variable", "literal", "bad", "odd", "wrong", "item", "work", "caught"]) (ps := ["one", "two"]) (by decide +kernel)) (fun _ _ _ _ _ us hl => match us, hl with | [_, _], _ => rfl) hr (by intro Ar outer s H hr; exact (e_callP [] ⟨rfl, rfl⟩ (fun _ => Dens.nil) rfl (fun t h => pe_call (ok_holds T) (hr.mono (by decide)) (by rfl) T.m_holds T.f_holds.kp (b_holds T) .nil (passes_call (takes_of rfl rfl rfl rfl) fun _ _ _ _ h => h) h) (a_cons (e_var 19 (pv 19) rfl) (a_cons (e_var 20 (pv 20) rfl) (a_cons (e_var 13 (pv 13) rfl) a_nil))) (by exact (len_cons (len_cons (len_cons len_nil)))))) rfl (Or.inr (Or.inr rfl)) (a_cons (e_var 3 (pv 3) rfl) (a_cons (e_var 14 (pv 14) rfl) a_nil)))))))))) (ss_one (s_ret e_bl)) ss_nil)))) bh_nil))))) (ss_cons (s_if (t_not (t_val (e_isd [("BadMany", false), ("BadLiteral", false), ("BadRow", false), ("BadFilling", true), ("TooMany", false)] ⟨rfl, rfl⟩ (by exact T.nn_BadFilling) (by exact isc_BadFilling T) (.own _) (fun te h => pe_callB call_isD (by rfl) T.g_isinstance (by decide +kernel) (pa_cons h (pa_cons (pe_glob (by rfl) T.k_BadFilling.g rfl) pa_nil))) (e_caught ⟨rfl, rfl⟩ rfl rfl ["BadMany", "BadLiteral", "BadRow", "BadFilling", "TooMany"] (by exact kn_all T) (by exact pe_caught (k := 7) T.f__law_caught (by rfl) T.m__law_caught sc__law_caught rfl (.inl rfl) (b__law_caught T) (fun cdv => gives_caught T) TB rfl (List.mem_singleton.mpr rfl) (fun p hp _ => by rw [List.mem_singleton.mp hp]; rfl) (hr.mono (by decide)) (LamX.lamS_by (sc := defScope (top 57)) (by decide +kernel)) rfl (fun _ _ _ _ _ => rfl) (by intro Ar outer s H E f c' hr; exact (e_callP [] ⟨rfl, rfl⟩ (fun _ => Dens.nil) rfl (fun t h => pe_call (ok_holds T) (hr.mono (by decide)) (by rfl) T.m_holds T.f_holds.kp (b_holds T) .nil (passes_call (takes_of rfl rfl rfl rfl) fun _ _ _ _ h => h) h) (a_cons (e_var 3 (pv 3) rfl) (a_cons (e_var 4 (pv 4) rfl) (a_cons (e_var 13 (pv 13) rfl) a_nil))) (by exact (len_cons (len_cons (len_cons len_nil))))))))))) (ss_one (s_ret e_bl)) ss_nil) (ss_cons (s_if (t_not (t_val (e_isd [("BadMany", false), ("BadLiteral", false), ("BadRow", false), ("BadFilling", true), ("TooMany", false)] ⟨rfl, rfl⟩ (by exact T.nn_BadFilling) (by exact isc_BadFilling T) (.own _) (fun te h => pe_callB call_isD (by rfl) T.g_isinstance (by decide +kernel) (pa_cons h (pa_cons (pe_glob (by rfl) T.k_BadFilling.g rfl) pa_nil))) (e_caught ⟨rfl, rfl⟩ rfl rfl ["BadMany", "BadLiteral", "BadRow", "BadFilling", "TooMany"] (by exact kn_all T) (by exact pe_caught (k := 5) T.f__law_caught (by rfl) T.m__law_caught sc__law_caught rfl (.inl rfl) (b__law_caught T) (fun cdv => gives_caught T) TB rfl (List.mem_singleton.mpr rfl) (fun p hp _ => by rw [List.mem_singleton.mp hp]; rfl) (hr.mono (by decide)) (LamX.lamS_by (sc := defScope (top 57)) (by decide +kernel)) rfl (fun _ _ _ _ _ => rfl) (by intro Ar outer s H E f c' hr; exact (e_callP [] ⟨rfl, rfl⟩ (fun _ => Dens.nil) rfl (fun t h => pe_call (ok_worth T) (hr.mono (by decide)) (by rfl) T.m_worth T.f_worth.kp (b_worth T) .nil (passes_call (takes_of rfl rfl rfl rfl) fun _ _ _ _ h => h) h) (a_cons (e_var 3 (pv 3) rfl) (a_cons (e_var 12 (pv 12) rfl) (a_cons (e_var 13 (pv 13) rfl) a_nil))) (by exact (len_cons (len_cons (len_cons len_nil))))))))))) (ss_one (s_ret e_bl)) ss_nil) (ss_cons (s_if (t_not (t_val (e_isd [("BadMany", false), ("BadLiteral", true), ("BadRow", false), ("BadFilling", false), ("TooMany", false)] ⟨rfl, rfl⟩ (by exact T.nn_BadLiteral) (by exact isc_BadLiteral T) (.own _) (fun te h => pe_callB call_isD (by rfl) T.g_isinstance (by decide +kernel) (pa_cons h (pa_cons (pe_glob (by rfl) T.k_BadLiteral.g rfl) pa_nil))) (e_caught ⟨rfl, rfl⟩ rfl rfl ["BadMany", "BadLiteral", "BadRow", "BadFilling", "TooMany"] (by exact kn_all T) (by exact pe_caught (k := 5) T.f__law_caught (by rfl) T.m__law_caught sc__law_caught rfl (.inl rfl) (b__law_caught T) (fun cdv => gives_caught T) TB rfl (List.mem_singleton.mpr rfl) (fun p hp _ => by rw [List.mem_singleton.mp hp]; rfl) (hr.mono (by decide)) (LamX.lamS_by (sc := defScope (top 57)) (by decide +kernel)) rfl (fun _ _ _ _ _ => rfl) (by intro Ar outer s H E f c' hr; exact (e_callP [] ⟨rfl, rfl⟩ (fun _ => Dens.nil) rfl (fun t h => pe_call (ok_worth T) (hr.mono (by decide)) (by rfl) T.m_worth T.f_worth.kp (b_worth T) .nil (passes_call (takes_of rfl rfl rfl rfl) fun _ _ _ _ h => h) h) (a_cons (e_var 3 (pv 3) rfl) (a_cons (e_callS ⟨rfl, rfl⟩ rfl rfl (fun t h => pe_call (ok__law_pick T) (hr.mono (by decide)) (by rfl) T.m__law_pick T.f__law_pick.kp (b__law_pick T) .nil (passes_call (takes_of rfl rfl rfl rfl) fun _ _ _ _ h => h) h) (a_cons (e_var 1 (pv 1) rfl) (a_cons (nE (n_lst (a_cons e_int (a_cons (e_bin r_add (fun t u h1 h2 => pe_op op_addA h1 h2) (bE (e_var 3 (pv 3) rfl)) (bE e_int)) (a_cons e_non (a_cons e_bl (a_cons e_str a_nil))))))) a_nil)) (by exact (len_cons (len_cons len_nil)))) (a_cons (e_var 13 (pv 13) rfl) a_nil))) (by exact (len_cons (len_cons (len_cons len_nil))))))))))) (ss_one (s_ret e_bl)) ss_nil) (ss_cons (s_asg 18 rfl (fun te h => ps_set (i := 18) sc.nd rfl (by first | exact Or.inl rfl | exact Or.inr rfl) h) (e_caught ⟨rfl, rfl⟩ rfl rfl ["BadMany", "BadLiteral", "BadRow", "BadFilling", "TooMany"] (by exact kn_all T) (by exact pe_caught (k := 4) T.f__law_caught (by rfl) T.m__law_caught sc__law_caught rfl (.inl rfl) (b__law_caught T) (fun cdv => gives_caught T) TB rfl (List.mem_singleton.mpr rfl) (fun p hp _ => by rw [List.mem_singleton.mp hp]; rfl) (hr.mono (by decide)) (LamX.lamS_by (sc := defScope (top 57)) (by decide +kernel)) rfl (fun _ _ _ _ _ => rfl) (by intro Ar outer s H E f c' hr; exact (nE (n_callP [] ⟨rfl, rfl⟩ (fun _ => Dens.nil) rfl (fun t h => pe_call (ok_fillings T) (hr.mono (by decide)) (by rfl) T.m_fillings T.f_fillings.kp (b_fillings T) .nil (passes_call (takes_of rfl rfl rfl rfl) fun _ _ _ _ h => h) h) (a_cons (e_callS ⟨rfl, rfl⟩ rfl rfl (fun t h => pe_call (ok__law_pick T) (hr.mono (by decide)) (by rfl) T.m__law_pick T.f__law_pick.kp (b__law_pick T) .nil (passes_call (takes_of rfl rfl rfl rfl) fun _ _ _ _ h => h) h) (a_cons (e_var 1 (pv 1) rfl) (a_cons (nE (n_lst (a_cons e_int (a_cons e_int (a_cons e_int (a_cons e_int (a_cons e_int a_nil))))))) a_nil)) (by exact (len_cons (len_cons len_nil)))) a_nil) (by exact (len_cons len_nil)))))))) (ss_one (s_if (PW.pt (w_or (t_not (t_val (e_isd [("BadMany", false), ("BadLiteral", false), ("BadRow", false), ("BadFilling", false), ("TooMany", true)] ⟨rfl, rfl⟩ (by exact T.nn_TooMany) (by exact isc_TooMany T) (.own _) (fun te h => pe_callB call_isD (by rfl) T.g_isinstance (by decide +kernel) (pa_cons h (pa_cons (pe_glob (by rfl) T.k_TooMany.g rfl) pa_nil))) (e_var 18 (pv 18) rfl)))) (w_or (t_cmp r_ne (op_neX hr.units) (bE (e_cb r_reprI (fun t h => pe_callB (cr_reprI hgd hgu) (by rfl) T.g_repr (by decide +kernel) h) (ab_cons (bE (e_fld ["TooMany"] "most" ⟨rfl, rfl⟩ (by exact fld_most T) (fun te h => pe_xo h) (e_var 18 (pv 18) rfl))) ab_nil))) (bE e_str) (nomark _)) (w_or1 (t_not (t_val (e_isd [("BadMany", true), ("BadLiteral", false), ("BadRow", false), ("BadFilling", false), ("TooMany", false)] ⟨rfl, rfl⟩ (by exact T.nn_BadMany) (by exact isc_BadMany T) (.own _) (fun te h => pe_callB call_isD (by rfl) T.g_isinstance (by decide +kernel) (pa_cons h (pa_cons (pe_glob (by rfl) T.k_BadMany.g rfl) pa_nil))) (e_caught ⟨rfl, rfl⟩ rfl rfl ["BadMany", "BadLiteral", "BadRow", "BadFilling", "TooMany"] (by exact kn_all T) (by exact pe_caught (k := 4) T.f__law_caught (by rfl) T.m__law_caught sc__law_caught rfl (.inl rfl) (b__law_caught T) (fun cdv => gives_caught T) TB rfl (List.mem_singleton.mpr rfl) (fun p hp _ => by rw [List.mem_singleton.mp hp]; rfl) (hr.mono (by decide)) (LamX.lamS_by (sc := defScope (top 57)) (by decide +kernel)) rfl (fun _ _ _ _ _ => rfl) (by intro Ar outer s H E f c' hr; exact (nE (n_callP [] ⟨rfl, rfl⟩ (fun _ => Dens.nil) rfl (fun t h => pe_call (ok_fillings T) (hr.mono (by decide)) (by rfl) T.m_fillings T.f_fillings.kp (b_fillings T) .nil (passes_call (takes_of rfl rfl rfl rfl) fun _ _ _ _ h => h) h) (a_cons (e_var 15 (pv 15) rfl) a_nil) (by exact (len_cons len_nil)))))))))))))) (ss_one (s_ret e_bl)) ss_nil)))))))))))))))))))))))))) (by exact (len_cons len_nil))) (ss_one (s_ret e_bl)))
end
end My
namespace My
open PySem PySem.Spec L2 VS
theorem gEq_int (a b : Int) : gEq (.int a) (.int b) = some (.bl (a == b)) := rfl
theorem gNe_int (a b : Int) : gNe (.int a) (.int b) = some (.bl (!(a == b))) := rfl
structure Good (k : Nat) (S : DS) : Prop where
  lg : ∀ x ∈ S.large, 0 ≤ x
  ll : S.large.length ≤ 1000
  cl : S.cells.length ≤ 1000
  c0 : ∀ x ∈ S.cells, 0 ≤ x
  l0 : 0 ≤ S.left
  t0 : 0 ≤ S.turn
  t1 : S.turn + k ≤ 1000000000
theorem Good.mono {k j : Nat} {S : DS} (h : Good k S) (l : j ≤ k) : Good j S := ⟨h.lg, h.ll, h.cl, h.c0, h.l0, h.t0, by have := h.t1; omega⟩
abbrev drawW : Nat → MS := whileS (andT (testM (binM gEq (VS.stM 0 fun S => .int S.left) (cM (.int 0)))) (largeT 0)) (popLS 0)
theorem draw_while {env : VS.Env} (he : env[0]? = some (some .st)) : ∀ (n : Nat) (L : List Int) (S : DS) (k : Nat), S.large = L → L.length < n → Good k S → ∃ S', drawW n env S = .ok (.nx env, S') ∧ Good k S'
  | 0, _, _, _, _, h, _ => by omega
  | n + 1, L, S, k, hL, hn, g => by
    have st : VS.stM 0 (fun S => .int S.left) env S = .ok (.int S.left, S) := by simp only [VS.stM, he]
    by_cases h0 : S.left = 0
    · cases hl : S.large with
      | nil =>
        refine ⟨S, ?_, g⟩
        simp only [drawW, whileS, andT, testM, binM, bindM, st, cM, ofO, gEq_int, h0, beq_self_eq_true, if_true, largeT, he, hl, List.isEmpty_nil, Bool.not_true, Bool.false_eq_true, if_false]
      | cons x xs =>
        have g' : Good k { S with left := x, large := xs } := ⟨fun y hy => g.lg y (by rw [hl]; exact List.mem_cons_of_mem _ hy), by have := g.ll; rw [hl] at this; simp at this; show xs.length ≤ 1000; omega, g.cl, g.c0, g.lg x (by rw [hl]; simp), g.t0, g.t1⟩
        obtain ⟨S', h1, h2⟩ := draw_while he n xs { S with left := x, large := xs } k rfl (by rw [← hL, hl] at hn; simp at hn; exact hn) g'
        refine ⟨S', ?_, h2⟩
        have h1' := h1
        unfold drawW at h1'
        simp only [drawW, whileS, andT, testM, binM, bindM, st, cM, ofO, gEq_int, h0, beq_self_eq_true, if_true, largeT, he, hl, List.isEmpty_cons, Bool.not_false, popLS]
        exact h1'
    · refine ⟨S, ?_, g⟩
      have e : (S.left == 0) = false := by simpa using h0
      simp only [drawW, whileS, andT, testM, binM, bindM, st, cM, ofO, gEq_int, e, Bool.false_eq_true, if_false]
theorem lst_ne (ns : List Int) : gNe (.lst (ns.map D.int)) (.lst []) = some (.bl (!ns.isEmpty)) := by
  have h : toPy (.lst (ns.map D.int)) = some (.list (ns.map PyData.int)) := by
    have : ∀ ns : List Int, toPyL (ns.map D.int) = some (ns.map PyData.int) := fun ns => by
      induction ns with
      | nil => rfl
      | cons n ns ih => simp only [List.map_cons, toPyL, toPy, ih]
    simp only [toPy, this, Option.map_some]
  unfold gNe eqD eqD0
  rw [h]
  have e : toPy (.lst []) = some (.list []) := rfl
  rw [e]
  simp only [shaped_ints ns, show SeqAt.shaped (.list []) = true from shaped_ints [], Bool.and_self, if_true, Option.map_some]
  cases ns <;> rfl
theorem divW_lt {x n : Int} (h0 : 0 < n) (h1 : n.natAbs < 2 ^ 2000) : gDivW (.int x) (.int n) = some (.int (x / n)) := by
  have : decide (0 < n ∧ n.natAbs < 2 ^ 2000) = true := decide_eq_true ⟨h0, h1⟩
  simp only [gDivW, gIC, this, if_true]
theorem divW_small {x n : Int} (h0 : 0 < n) (h1 : n < 1073741824) : gDivW (.int x) (.int n) = some (.int (x / n)) := divW_lt h0 (Nat.lt_of_lt_of_le (m := 2 ^ 30) (by omega) (Nat.pow_le_pow_right (by decide) (by decide)))
theorem draw_ok {n : Int} {k : Nat} {S : DS} (h0 : 0 < n) (h1 : n < 1073741824) (g : Good (k + 1) S) : ∃ r S', G__law_draw [.st, .int n] S = .ok (.int r, S') ∧ 0 ≤ r ∧ r < n ∧ Good k S' := by
  obtain ⟨S1, w, g1⟩ := draw_while (env := startE 6 [.st, .int n]) rfl 100000 S.large S (k + 1) rfl (Nat.lt_of_le_of_lt g.ll (by decide)) g
  unfold G__law_draw g__law_draw t__law_draw_1 t__law_draw_2 b__law_draw_3
  have w' : whileS (andT (testM (binM gEq (VS.stM 0 fun S => .int S.left) (cM (.int 0)))) (largeT 0)) (popLS 0) 100000 (startE 6 [.st, .int n]) S = .ok (.nx (startE 6 [.st, .int n]), S1) := w
  simp only [seqS, w']
  by_cases hl : 0 < S1.left
  · refine ⟨S1.left % n, { S1 with left := S1.left / n }, ?_, Int.emod_nonneg _ (by omega), Int.emod_lt_of_pos _ h0, ⟨g1.lg, g1.ll, g1.cl, g1.c0, Int.ediv_nonneg g1.l0 (by omega), g1.t0, by have := g1.t1; show S1.turn + k ≤ _; omega⟩⟩
    have s1 : startE 6 [.st, .int n] = [some .st, some (.int n), none, none, none, none] := rfl
    have d5 : ∀ x, gMod (.int x) (.int n) = some (.int (x % n)) := fun x => by simp only [gIC, h0, decide_true, if_true]
    have d6 : ∀ x, gDivW (.int x) (.int n) = some (.int (x / n)) := fun x => divW_small h0 h1
    simp only [s1, ifS, testM, binM, bindM, VS.stM, List.getElem?_cons_zero, cM, ofO, gII, hl, decide_true, if_true, seqS, asgS, cbM, consA, nilA, gInt, varM, List.getElem?_cons_succ, d5, d6, List.set_cons_succ, List.set_cons_zero, leftS, retS, endS]
  · have hl0 : S1.left = 0 := by have := g1.l0; omega
    have ht := g1.t0
    have ht1 := g1.t1
    generalize et : S1.turn + 1 = t
    have hcell : ∃ c : Int, 0 ≤ c ∧ (ifM (testM (binM gNe (VS.stM 0 fun S => .lst (S.cells.map D.int)) (lstM nilA))) (binM gIxA (VS.stM 0 fun S => .lst (S.cells.map D.int)) (binM gMod (cbM gInt (consA (varM 3) nilA)) (cbM gLenA (consA (VS.stM 0 fun S => .lst (S.cells.map D.int)) nilA)))) (cM (.int 0))) [some .st, some (.int n), none, some (.int t), none, none] { S1 with turn := t } = .ok (.int c, { S1 with turn := t }) := by
      cases hc : S1.cells with
      | nil =>
        refine ⟨0, by omega, ?_⟩
        have e := lst_ne []
        simp only [List.map_nil] at e
        simp [ifM, testM, binM, bindM, VS.stM, lstM, nilA, ofO, hc, e, cM]
      | cons x xs =>
        have hpos : (0 : Int) < ((x :: xs).length : Int) := by simp only [List.length_cons]; omega
        have h1 := Int.emod_nonneg t (Int.ne_of_gt hpos)
        have h2 := Int.emod_lt_of_pos t hpos
        obtain ⟨y, hy⟩ : ∃ y, (x :: xs)[(t % ((x :: xs).length : Int)).toNat]? = some y := ⟨_, List.getElem?_eq_getElem (by omega)⟩
        refine ⟨y, g1.c0 y (by rw [hc]; exact List.mem_of_getElem? hy), ?_⟩
        have e := lst_ne (x :: xs)
        have ix : gIxA (.lst ((x :: xs).map D.int)) (.int (t % ((x :: xs).length : Int))) = some (.int y) := by
          simp only [gIxA, atI, ixN, if_pos h1, List.length_map, if_pos h2, Option.bind_some, List.getElem?_map, hy, Option.map_some]
        simp only [ifM, testM, binM, bindM, VS.stM, List.getElem?_cons_zero, lstM, nilA, List.length_nil, Nat.zero_le, if_true, ofO, hc, e, List.isEmpty_cons, Bool.not_false, cbM, consA, varM, List.getElem?_cons_succ, gInt, gLenA, List.length_map, gMod, gIC, hpos, decide_true, ix]
    obtain ⟨c, c0, hcell⟩ := hcell
    have m0 : 0 ≤ c % 2147483563 := Int.emod_nonneg _ (by omega)
    have m1 : c % 2147483563 < 2147483563 := Int.emod_lt_of_pos _ (by omega)
    have p3 : gPow (.int (c % 2147483563 + 40692 * t + 24681)) (.int 3) = some (.int ((c % 2147483563 + 40692 * t + 24681) ^ 3)) := by
      have : decide (0 ≤ (3 : Int) ∧ (3 : Int) ≤ 1000000 ∧ (c % 2147483563 + 40692 * t + 24681).natAbs < 2 ^ 64) = true := decide_eq_true ⟨by omega, by omega, by omega⟩
      simp only [gPow, gIC, this, if_true]
      rfl
    generalize em : (c % 2147483563 + 40692 * t + 24681) ^ 3 % 2147483629 = m at *
    have q0 : 0 ≤ m := by rw [← em]; exact Int.emod_nonneg _ (by omega)
    have q1 : m < 2147483629 := by rw [← em]; exact Int.emod_lt_of_pos _ (by omega)
    have p5 : gPow (.int (m + 104917 * t)) (.int 5) = some (.int ((m + 104917 * t) ^ 5)) := by
      have : decide (0 ≤ (5 : Int) ∧ (5 : Int) ≤ 1000000 ∧ (m + 104917 * t).natAbs < 2 ^ 64) = true := decide_eq_true ⟨by omega, by omega, by omega⟩
      simp only [gPow, gIC, this, if_true]
      rfl
    refine ⟨(m + 104917 * t) ^ 5 % 2147483579 / 29 % n, { S1 with turn := t }, ?_, Int.emod_nonneg _ (by omega), Int.emod_lt_of_pos _ h0, ⟨g1.lg, g1.ll, g1.cl, g1.c0, g1.l0, by show 0 ≤ t; omega, by show t + k ≤ _; omega⟩⟩
    have mul1 : gMulT (.int 40692) (.int t) = some (.int (40692 * t)) := by simp only [gMulT, gMul]; rw [if_pos (by omega)]
    have mul2 : gMulT (.int 104917) (.int t) = some (.int (104917 * t)) := by simp only [gMulT, gMul]; rw [if_pos (by omega)]
    have d1 : gMod (.int c) (.int 2147483563) = some (.int (c % 2147483563)) := by simp [gIC]
    have d2 : ∀ x, gMod (.int x) (.int 2147483629) = some (.int (x % 2147483629)) := fun x => by simp [gIC]
    have d3 : ∀ x, gMod (.int x) (.int 2147483579) = some (.int (x % 2147483579)) := fun x => by simp [gIC]
    have d4 : ∀ x, gDivW (.int x) (.int 29) = some (.int (x / 29)) := fun x => divW_small (by decide) (by decide)
    have d5 : ∀ x, gMod (.int x) (.int n) = some (.int (x % n)) := fun x => by simp [gIC, h0]
    have s1 : startE 6 [.st, .int n] = [some .st, some (.int n), none, none, none, none] := rfl
    have hlf : decide (0 < S1.left) = false := decide_eq_false hl
    simp only [s1, ifS, testM, binM, bindM, VS.stM, List.getElem?_cons_zero, cM, ofO, gII, hlf, Bool.false_eq_true, if_false, nextS, seqS, asgS, gAdd, et, List.set_cons_succ, List.set_cons_zero, turnS, varM, List.getElem?_cons_succ, hcell, cbM, consA, nilA, gInt, d1, mul1, p3, d2, em, mul2, p5, d3, d4, d5, retS, endS]
end My
namespace My
open PySem PySem.Spec L2 VS
abbrev Trm := List (Int × Int)
def dPair (p : Int × Int) : D := .tup [.int p.1, .int p.2]
def dRow (r : Trm × Int) : D := .tup [.tup (r.1.map dPair), .int r.2]
structure OkT (many : Int) (ts : Trm) : Prop where
  w : ∀ p ∈ ts, 1 ≤ p.1
  l : ∀ p ∈ ts, 1 ≤ p.2.natAbs ∧ (p.2.natAbs : Int) ≤ many
  inc : (ts.map fun p => p.2.natAbs).Pairwise (· < ·)
structure OkR (many : Int) (r : Trm × Int) : Prop where
  t : OkT many r.1
  b : 0 ≤ r.2
theorem atI_nat {α : Type} (xs : List α) (i : Int) (h0 : 0 ≤ i) (h1 : i < xs.length) : ∃ x, xs[i.toNat]? = some x ∧ atI xs i = some x := by
  refine ⟨xs[i.toNat], List.getElem?_eq_getElem (by omega), ?_⟩
  simp only [atI, ixN, if_pos h0, if_pos h1, Option.bind_some]
  exact List.getElem?_eq_getElem (by omega)
theorem pick_ok {ds : List D} {k : Nat} {S : DS} (h : 0 < ds.length) (h1 : ds.length < 1073741824) (g : Good (k + 1) S) : ∃ d S', G__law_pick [.st, .lst ds] S = .ok (d, S') ∧ d ∈ ds ∧ Good k S' := by
  obtain ⟨r, S', e, r0, r1, g'⟩ := draw_ok (n := (ds.length : Int)) (by omega) (by omega) g
  obtain ⟨d, e1, e2⟩ := atI_nat ds r r0 r1
  refine ⟨d, S', ?_, List.mem_of_getElem? e1, g'⟩
  unfold G__law_pick g__law_pick
  simp only [startE, List.map_cons, List.map_nil, List.cons_append, List.nil_append, retS, binM, bindM, varM, List.getElem?_cons_succ, List.getElem?_cons_zero, callS, consA, cbM, nilA, gLenA, ofO, e, gIxA, e2, endS]
theorem loop_inv {set : VS.Env → D → Option VS.Env} {g : MS} (I : Nat → VS.Env → DS → Prop) : ∀ (ds : List D) (i : Nat) (env : VS.Env) (S : DS), I i env S →
    (∀ j d env S, ds[j]? = some d → I (i + j) env S → ∃ env1 env2 S2, set env d = some env1 ∧ g env1 S = .ok (.nx env2, S2) ∧ I (i + j + 1) env2 S2) → ∃ env' S', loopS set g ds env S = .ok (.nx env', S') ∧ I (i + ds.length) env' S'
  | [], i, env, S, h, _ => ⟨env, S, rfl, h⟩
  | d :: ds, i, env, S, h, step => by
    obtain ⟨env1, env2, S2, h1, h2, h3⟩ := step 0 d env S rfl h
    obtain ⟨env', S', h4, h5⟩ := loop_inv I ds (i + 1) env2 S2 h3 fun j d env S hj hi => by
      have e : i + 1 + j = i + (j + 1) := by omega
      rw [e] at hi ⊢
      exact step (j + 1) d env S (by simpa using hj) hi
    refine ⟨env', S', ?_, by rw [List.length_cons, ← Nat.add_assoc, Nat.add_right_comm]; exact h5⟩
    simp only [loopS, h1, h2]
    exact h4
theorem OkT.nil {many : Int} : OkT many [] := ⟨fun p h => (by cases h), fun p h => (by cases h), List.Pairwise.nil⟩
theorem OkT.snoc {many : Int} {ts : Trm} {w l : Int} (h : OkT many ts) (hw : 1 ≤ w) (hl : 1 ≤ l.natAbs ∧ (l.natAbs : Int) ≤ many) (hi : ∀ p ∈ ts, p.2.natAbs < l.natAbs) : OkT many (ts ++ [(w, l)]) := by
  refine ⟨fun p hp => ?_, fun p hp => ?_, ?_⟩
  · rcases List.mem_append.mp hp with z | z
    · exact h.w p z
    · rw [List.mem_singleton.mp z]; exact hw
  · rcases List.mem_append.mp hp with z | z
    · exact h.l p z
    · rw [List.mem_singleton.mp z]; exact hl
  · rw [List.map_append, List.pairwise_append]
    refine ⟨h.inc, List.pairwise_singleton _ _, fun a ha b hb => ?_⟩
    obtain ⟨p, hp, rfl⟩ := List.mem_map.mp ha
    simp at hb
    rw [hb]
    exact hi p hp
def trT : MT := orT (testM (binM gEq (varM 4) (cM (.int 0)))) (testM (binM gGt (callS G__law_draw (consA (varM 0) (consA (cM (.int 3)) nilA))) (cM (.int 0))))
def trW : ME := ifM (testM (binM gEq (varM 4) (cM (.int 1)))) (cM (.int 1)) (binM gAdd (cM (.int 1)) (callS G__law_draw (consA (varM 0) (consA (varM 2) nilA))))
def trL : ME := ifM (testM (binM gEq (callS G__law_draw (consA (varM 0) (consA (cM (.int 2)) nilA))) (cM (.int 0)))) (varM 5) (binM gSub (cM (.int 0)) (varM 5))
def trB : MS := ifS trT (seqS (asgS 6 trW) (appS 3 (tupM (consA (varM 6) (consA trL nilA))))) nextS
theorem terms_ok {many most : Int} {k : Nat} {S : DS} (hm : 1 ≤ many) (hm2 : many ≤ 600) (ho : 1 ≤ most) (ho2 : most ≤ 1000) (g : Good (3 * many.toNat + 1 + k) S) :
    ∃ ts S', G__law_terms [.st, .int many, .int most] S = .ok (.tup (ts.map dPair), S') ∧ OkT many ts ∧ (∀ p ∈ ts, p.1 ≤ most) ∧ ts.length ≤ many.toNat ∧ Good k S' := by
  obtain ⟨way, S1, e1, w0, w1, g1⟩ := draw_ok (n := 4) (k := 3 * many.toNat + k) (by omega) (by omega) (g.mono (by omega))
  let I : Nat → VS.Env → DS → Prop := fun i env S => ∃ (ts : Trm) (x5 x6 : Option D), env = [some .st, some (.int many), some (.int most), some (.lst (ts.map dPair)), some (.int way), x5, x6] ∧ OkT many ts ∧ (∀ p ∈ ts, p.1 ≤ most) ∧ ts.length ≤ i ∧ (∀ p ∈ ts, (p.2.natAbs : Int) ≤ i) ∧ Good (3 * (many.toNat - i) + k) S
  obtain ⟨env', S', h1, ts, x5, x6, rfl, t1, t2, t3, t4, t5⟩ := loop_inv (set := setN 5) (g := trB)
    I (intsD 1 many.toNat) 0 [some .st, some (.int many), some (.int most), some (.lst []), some (.int way), none, none] S1 ⟨[], none, none, rfl, OkT.nil, fun p h => (by cases h), Nat.le_refl _, fun p h => (by cases h), g1.mono (by omega)⟩ (fun j d env S hj hI => by
      rw [Nat.zero_add] at hI ⊢
      have hlt : j < many.toNat := by have := (List.getElem?_eq_some_iff.mp hj).1; simpa [intsD] using this
      rw [intsD_at hlt] at hj
      cases hj
      obtain ⟨ts, x5, x6, rfl, t1, t2, t3, t4, t5⟩ := hI
      -- the first draw, where it is asked for
      have first : ∃ (b : Bool) (S2 : DS), trT [some .st, some (.int many), some (.int most), some (.lst (ts.map dPair)), some (.int way), some (.int (1 + (j : Int))), x6] S = .ok (b, S2) ∧ Good (3 * (many.toNat - j) - 1 + k) S2 := by
        by_cases hw : way = 0
        · refine ⟨true, S, ?_, t5.mono (by omega)⟩
          simp only [trT, orT, testM, binM, bindM, varM, List.getElem?_cons_succ, List.getElem?_cons_zero, cM, ofO, gEq_int, hw, beq_self_eq_true, if_true]
        · obtain ⟨r, S2, e2, r0, r1, g2⟩ := draw_ok (n := 3) (k := 3 * (many.toNat - j) - 1 + k) (by omega) (by omega) (t5.mono (by omega))
          have hf : (way == 0) = false := by simpa using hw
          refine ⟨decide (0 < r), S2, ?_, g2⟩
          simp only [trT, orT, testM, binM, bindM, varM, List.getElem?_cons_succ, List.getElem?_cons_zero, cM, ofO, gEq_int, hf, Bool.false_eq_true, if_false, callS, consA, nilA, e2, gII]
      obtain ⟨b, S2, e2, g2⟩ := first
      cases b with
      | false =>
        refine ⟨_, _, S2, rfl, ?_, ts, some (.int (1 + (j : Int))), x6, rfl, t1, t2, by omega, fun p hp => by have := t4 p hp; omega, g2.mono (by omega)⟩
        simp only [List.set_cons_succ, List.set_cons_zero, trB, ifS, e2, bindM, Bool.false_eq_true, if_false, nextS]
      | true =>
        have second : ∃ (w : Int) (S3 : DS), trW [some .st, some (.int many), some (.int most), some (.lst (ts.map dPair)), some (.int way), some (.int (1 + (j : Int))), x6] S2 = .ok (.int w, S3) ∧ 1 ≤ w ∧ w ≤ most ∧ Good (3 * (many.toNat - j) - 2 + k) S3 := by
          by_cases hw : way = 1
          · refine ⟨1, S2, ?_, by omega, ho, g2.mono (by omega)⟩
            simp only [trW, ifM, testM, binM, bindM, varM, List.getElem?_cons_succ, List.getElem?_cons_zero, cM, ofO, gEq_int, hw, beq_self_eq_true, if_true]
          · obtain ⟨r, S3, e3, r0, r1, g3⟩ := draw_ok (n := most) (k := 3 * (many.toNat - j) - 2 + k) (by omega) (by omega) (g2.mono (by omega))
            have hf : (way == 1) = false := by simpa using hw
            refine ⟨1 + r, S3, ?_, by omega, by omega, g3⟩
            simp only [trW, ifM, testM, binM, bindM, varM, List.getElem?_cons_succ, List.getElem?_cons_zero, cM, ofO, gEq_int, hf, Bool.false_eq_true, if_false, callS, consA, nilA, e3, gAdd]
        obtain ⟨w, S3, e3, w1', w2', g3⟩ := second
        obtain ⟨r, S4, e4, r0, r1, g4⟩ := draw_ok (n := 2) (k := 3 * (many.toNat - j) - 3 + k) (by omega) (by omega) (g3.mono (by omega))
        have hlen : (ts.map dPair).length < 1000000 := by rw [List.length_map]; omega
        refine ⟨_, _, S4, rfl, ?_, ts ++ [(w, if r = 0 then 1 + (j : Int) else -(1 + (j : Int)))], some (.int (1 + (j : Int))), some (.int w), rfl, t1.snoc w1' ?_ ?_, ?_, ?_, ?_, g4.mono (by omega)⟩
        · have e5 : trL [some .st, some (.int many), some (.int most), some (.lst (ts.map dPair)), some (.int way), some (.int (1 + (j : Int))), some (.int w)] S3 = .ok (.int (if r = 0 then 1 + (j : Int) else -(1 + (j : Int))), S4) := by
            by_cases hr : r = 0
            · subst hr
              simp only [trL, ifM, testM, binM, bindM, callS, consA, varM, List.getElem?_cons_zero, List.getElem?_cons_succ, nilA, cM, e4, ofO, gEq_int, beq_self_eq_true, if_true]
            · have hf : (r == 0) = false := by simpa using hr
              simp only [trL, ifM, testM, binM, bindM, callS, consA, varM, List.getElem?_cons_zero, List.getElem?_cons_succ, nilA, cM, e4, ofO, gEq_int, hf, Bool.false_eq_true, if_false, gII, if_neg hr, Int.zero_sub]
          simp only [List.set_cons_succ, List.set_cons_zero, trB, ifS, e2, bindM, if_true, seqS, asgS, e3, appS, List.getElem?_cons_succ, List.getElem?_cons_zero, tupM, consA, varM, e5, nilA, List.length_cons, List.length_nil, Nat.reduceAdd, Nat.reduceLeDiff, hlen, List.map_append, List.map_cons, List.map_nil, dPair]
        · split <;> omega
        · intro p hp
          have := t4 p hp
          show p.2.natAbs < (if r = 0 then 1 + (j : Int) else -(1 + (j : Int))).natAbs
          split <;> omega
        · intro p hp
          rcases List.mem_append.mp hp with z | z
          · exact t2 p z
          · rw [List.mem_singleton.mp z]; exact w2'
        · rw [List.length_append, List.length_singleton]; omega
        · intro p hp
          rcases List.mem_append.mp hp with z | z
          · have := t4 p z; omega
          · rw [List.mem_singleton.mp z]
            show ((if r = 0 then 1 + (j : Int) else -(1 + (j : Int))).natAbs : Int) ≤ _
            split <;> omega)
  have hlen : (intsD 1 many.toNat).length = many.toNat := by simp [intsD]
  rw [Nat.zero_add, hlen] at t3 t5
  refine ⟨ts, S', ?_, t1, t2, t3, t5.mono (by omega)⟩
  have hG : G__law_terms [.st, .int many, .int most] S = endS (seqS (parOS 3 4 (lstM nilA) (callS G__law_draw (consA (varM 0) (consA (cM (.int 4)) nilA)))) (seqS (forR (setN 5) (consA (cM (.int 1)) (consA (binM gAdd (varM 1) (cM (.int 1))) nilA)) trB) (retS (cbM gTuple (consA (varM 3) nilA)))) (startE 7 [.st, .int many, .int most]) S) := rfl
  rw [hG]
  have hr : rangeOf [.int 1, .int (many + 1)] = some (intsD 1 many.toNat) := by
    simp only [rangeOf]
    rw [if_pos (by omega)]
    congr 2
    omega
  have s1 : startE 7 [.st, .int many, .int most] = [some .st, some (.int many), some (.int most), none, none, none, none] := rfl
  simp only [s1, seqS, parOS, lstM, nilA, bindM, List.length_nil, Nat.zero_le, if_true, callS, consA, varM, List.getElem?_cons_zero, cM, e1, List.set_cons_succ, List.set_cons_zero, forR, binM, List.getElem?_cons_succ, ofO, gAdd, hr, h1, retS, cbM, gTuple, endS]
end My
namespace My
open PySem PySem.Spec L2 VS
section
variable {α β : Type} {S : DS}
theorem comp_map {set : VS.Env → D → Option VS.Env} {test : MT} {elt : ME} {env0 : VS.Env} (enc : α → D) (k : α → Bool) (y : α → D) (xs : List α)
    (h : ∀ x ∈ xs, ∃ env1, set env0 (enc x) = some env1 ∧ test env1 S = .ok (k x, S) ∧ (k x = true → elt env1 S = .ok (y x, S))) : compM set test elt env0 (xs.map enc) S = .ok ((xs.filter k).map y, S) := by
  induction xs with
  | nil => rfl
  | cons x xs ih =>
    obtain ⟨env1, h1, h2, h3⟩ := h x List.mem_cons_self
    have ih := ih fun z hz => h z (List.mem_cons_of_mem _ hz)
    simp only [List.map_cons, compM, h1, h2, noX, bindM]
    cases hk : k x with
    | true => simp only [if_true, h3 hk, noX, bindM, ih, List.filter_cons, hk, List.map_cons]
    | false => simp only [Bool.false_eq_true, if_false, ih, List.filter_cons, hk]
theorem comp_all {set : VS.Env → D → Option VS.Env} {elt : ME} {env0 : VS.Env} (enc : α → D) (y : α → D) (xs : List α)
    (h : ∀ x ∈ xs, ∃ env1, set env0 (enc x) = some env1 ∧ elt env1 S = .ok (y x, S)) : compM set (fun _ S => .ok (true, S)) elt env0 (xs.map enc) S = .ok (xs.map y, S) := by
  have := comp_map (set := set) (test := fun _ S => .ok (true, S)) (elt := elt) (env0 := env0) (S := S) enc (fun _ => true) y xs fun x hx => let ⟨e, h1, h2⟩ := h x hx; ⟨e, h1, rfl, fun _ => h2⟩
  rw [this, List.filter_eq_self.mpr (by simp)]
end
theorem eqD_self {d : D} {p : PyData} (h : toPy d = some p) (hs : SeqAt.shaped p = true) (hr : PyData.eqv p p = true) : eqD d d = some true := by
  unfold eqD
  cases hq : eqS d d with
  | some k => cases d <;> simp [eqS] at hq <;> simp [← hq]
  | none =>
    unfold eqD0
    simp only [h, hs, Bool.and_self, if_true, hr]
theorem lcM_lst {set : VS.Env → D → Option VS.Env} {f elt : ME} {test : MT} {vs : List Nat} {env : VS.Env} {S S1 : DS} {ds : List D} (h : f env S = .ok (.lst ds, S1)) : lcM set f test elt vs env S = bindM (compM set test elt (wipeE env vs) ds S1) fun ys S2 => .ok (.lst ys, S2) := by
  simp only [lcM, h, bindM]
theorem seq_nx {g1 g2 : MS} {env env' : VS.Env} {S S' : DS} (h : g1 env S = .ok (.nx env', S')) : seqS g1 g2 env S = g2 env' S' := by simp only [seqS, h]
theorem if_no {t : MT} {g1 : MS} {env : VS.Env} {S S' : DS} (h : t env S = .ok (false, S')) : ifS t g1 nextS env S = .ok (.nx env, S') := by simp only [ifS, h, bindM, Bool.false_eq_true, if_false, nextS]
end My
namespace My
open PySem PySem.Spec L2 VS
mutual
def plD : Nat → D → Bool
  | _, .non => true
  | _, .bl _ => true
  | _, .int _ => true
  | _, .str x => PyData.canLay0 (.str x)
  | n + 1, .tup ds => plL n ds
  | n + 1, .lst ds => plL n ds
  | _, _ => false
def plL : Nat → List D → Bool
  | _, [] => true
  | n, d :: ds => plD n d && plL n ds
end
mutual
theorem plD_py : ∀ (n : Nat) (d : D), plD n d = true → ∃ p, toPy d = some p ∧ p.canLay0 = true ∧ p.depth ≤ n ∧ PyData.eqv p p = true
  | _, .non, _ => ⟨.none, rfl, rfl, Nat.zero_le _, rfl⟩
  | _, .bl b, _ => ⟨.bool b, rfl, rfl, Nat.zero_le _, by cases b <;> rfl⟩
  | _, .int i, _ => ⟨.int i, rfl, rfl, Nat.zero_le _, by simp [PyData.eqv]⟩
  | _, .str x, h => ⟨.str x, rfl, by cases ‹Nat› <;> simpa [plD] using h, Nat.zero_le _, by simp [PyData.eqv]⟩
  | n + 1, .tup ds, h => by
    obtain ⟨ps, h1, h2, h3, h4⟩ := plL_py n ds (by simpa [plD] using h)
    exact ⟨.tuple ps, by simp [toPy, h1], by simpa [PyData.canLay0] using h2, by simp only [PyData.depth]; omega, by simpa [PyData.eqv] using h4⟩
  | n + 1, .lst ds, h => by
    obtain ⟨ps, h1, h2, h3, h4⟩ := plL_py n ds (by simpa [plD] using h)
    exact ⟨.list ps, by simp [toPy, h1], by simpa [PyData.canLay0] using h2, by simp only [PyData.depth]; omega, by simpa [PyData.eqv] using h4⟩
  | 0, .tup _, h => by simp [plD] at h
  | 0, .lst _, h => by simp [plD] at h
  | n, .dct _ _, h => by cases n <;> simp [plD] at h
  | n, .exc _ _ _, h => by cases n <;> simp [plD] at h
  | n, .cls _, h => by cases n <;> simp [plD] at h
  | n, .st, h => by cases n <;> simp [plD] at h
  | n, .opq _, h => by cases n <;> simp [plD] at h
  | n, .scr _, h => by cases n <;> simp [plD] at h
theorem plL_py : ∀ (n : Nat) (ds : List D), plL n ds = true → ∃ ps, toPyL ds = some ps ∧ PyData.canLayAll0 ps = true ∧ PyData.depthAll ps ≤ n ∧ PyData.eqvAll ps ps = true
  | _, [], _ => ⟨[], rfl, rfl, Nat.zero_le _, rfl⟩
  | n, d :: ds, h => by
    simp only [plL, Bool.and_eq_true] at h
    obtain ⟨p, h1, h2, h3, h4⟩ := plD_py n d h.1
    obtain ⟨ps, k1, k2, k3, k4⟩ := plL_py n ds h.2
    exact ⟨p :: ps, by simp [toPyL, h1, k1], by simp [PyData.canLayAll0, h2, k2], by simp only [PyData.depthAll]; omega, by simp [PyData.eqvAll, h4, k4]⟩
end
theorem plD_eq {n : Nat} {d : D} (h : plD n d = true) (hn : n ≤ 64) : eqD d d = some true := by
  obtain ⟨p, h1, h2, h3, h4⟩ := plD_py n d h
  refine eqD_self h1 ?_ h4
  unfold SeqAt.shaped
  rw [h2, Bool.true_and]
  exact decide_eq_true (by omega)
theorem gNe_self {n : Nat} {d : D} (h : plD n d = true) (hn : n ≤ 64 := by decide) : gNe d d = some (.bl false) := by simp only [gNe, plD_eq h hn, Option.map_some, Bool.not_true]
theorem plL_all {n : Nat} {ds : List D} (h : ∀ d ∈ ds, plD n d = true) : plL n ds = true := by
  induction ds with
  | nil => simp [plL]
  | cons d ds ih => simp [plL, h d List.mem_cons_self, ih fun e he => h e (List.mem_cons_of_mem _ he)]
theorem plL_map {α : Type} {n : Nat} {f : α → D} {xs : List α} (h : ∀ x ∈ xs, plD n (f x) = true) : plL n (xs.map f) = true := plL_all fun d hd => by
  obtain ⟨x, hx, rfl⟩ := List.mem_map.mp hd
  exact h x hx
theorem pl_row (r : Trm × Int) : plD 3 (dRow r) = true := by
  simp only [plD, plL, dRow, Bool.and_true]
  refine plL_map fun p _ => ?_
  simp [plD, plL, dPair]
end My
namespace My
open PySem PySem.Spec L2 VS
theorem toInts_ints : ∀ ns : List Int, toInts (ns.map D.int) = some ns
  | [] => rfl
  | n :: ns => by simp only [List.map_cons, toInts, toInts_ints ns, Option.map_some]
theorem gSum_ints (ns : List Int) : gSum [.lst (ns.map D.int)] = some (.int ns.sum) := by simp only [gSum, toInts_ints, Option.map_some]
def tot (ts : Trm) : Int := (ts.map (·.1)).sum
theorem tot_nonneg {many : Int} {ts : Trm} (h : ∀ p ∈ ts, 1 ≤ p.1) : 0 ≤ tot ts := by
  unfold tot
  induction ts with
  | nil => simp
  | cons p ts ih =>
    have := ih fun q hq => h q (List.mem_cons_of_mem _ hq)
    have := h p List.mem_cons_self
    rw [List.map_cons, List.sum_cons]
    omega
theorem tot_le {most : Int} {ts : Trm} (h : ∀ p ∈ ts, p.1 ≤ most) : tot ts ≤ ts.length * most := by
  unfold tot
  induction ts with
  | nil => simp
  | cons p ts ih =>
    have := ih fun q hq => h q (List.mem_cons_of_mem _ hq)
    have := h p List.mem_cons_self
    rw [List.map_cons, List.sum_cons, List.length_cons, Int.natCast_add, Int.add_mul]
    omega
def rowP : ME := tupM (consA (varM 3) (consA (callS G__law_pick (consA (varM 0) (consA (lstM (consA (cM (.int 0)) (consA (varM 4) (consA (binM gAdd (varM 4) (cM (.int 1))) nilA)))) nilA))) nilA))
def rowQ : ME := ifM (testM (binM gLt (varM 7) (cM (.int 4)))) (callS G__law_draw (consA (varM 0) (consA (binM gAdd (varM 4) (cM (.int 1))) nilA))) (binM gSub (binM gDivW (binM gAdd (varM 4) (cM (.int 1))) (cM (.int 2))) (cbM gInt (consA (andV (binM gEq (varM 7) (cM (.int 4))) (binM gGt (varM 4) (cM (.int 1)))) nilA)))
theorem rowQ_ok {T : D} {many most t way : Int} {k : Nat} {S : DS} {x5 x6 : Option D} (h0 : 0 ≤ t) (h1 : t < 1000000) (g : Good (k + 1) S) : ∃ b S', rowQ [some .st, some (.int many), some (.int most), some T, some (.int t), x5, x6, some (.int way)] S = .ok (.int b, S') ∧ (0 ≤ b ∧ b ≤ t + 1) ∧ Good k S' := by
  by_cases hw : way < 4
  · obtain ⟨r, S', e, r0, r1, g'⟩ := draw_ok (n := t + 1) (by omega) (by omega) g
    refine ⟨r, S', ?_, ⟨r0, by omega⟩, g'⟩
    simp only [rowQ, ifM, testM, binM, bindM, varM, List.getElem?_cons_succ, List.getElem?_cons_zero, cM, ofO, gII, hw, decide_true, if_true, callS, consA, nilA, gAdd, e]
  · have hd : gDivW (.int (t + 1)) (.int 2) = some (.int ((t + 1) / 2)) := divW_small (by decide) (by decide)
    by_cases h4 : way = 4
    · subst h4
      refine ⟨(t + 1) / 2 - (if decide (1 < t) = true then 1 else 0), S, ?_, ?_, g.mono (by omega)⟩
      · simp only [rowQ, ifM, testM, binM, bindM, varM, List.getElem?_cons_succ, List.getElem?_cons_zero, cM, ofO, gII, hw, decide_false, Bool.false_eq_true, if_false, gAdd, hd, cbM, consA, andV, gEq_int, beq_self_eq_true, nilA, gInt]
      · by_cases h : 1 < t
        · simp only [h, decide_true, if_true]; exact ⟨by omega, by omega⟩
        · simp only [h, decide_false, Bool.false_eq_true, if_false]; exact ⟨by omega, by omega⟩
    · have hf : (way == 4) = false := by simpa using h4
      refine ⟨(t + 1) / 2 - 0, S, ?_, ⟨by omega, by omega⟩, g.mono (by omega)⟩
      simp only [rowQ, ifM, testM, binM, bindM, varM, List.getElem?_cons_succ, List.getElem?_cons_zero, cM, ofO, gII, hw, decide_false, Bool.false_eq_true, if_false, gAdd, hd, cbM, consA, andV, gEq_int, hf, nilA, gInt]
theorem lc_weights {ts : Trm} {S : DS} {env0 : VS.Env} {a b : Nat} (ha : (env0.set a (some (.int 0)))[a]? = some (some (.int 0))) (hab : a ≠ b) : compM (setT [a, b]) (fun _ S => .ok (true, S)) (varM a) env0 (ts.map dPair) S = .ok ((ts.map (·.1)).map D.int, S) := by
  have hl : a < env0.length := by
    have := (List.getElem?_eq_some_iff.mp ha).1
    simpa using this
  have e := compM_eq (set := setT [a, b]) (test := fun _ S => .ok (true, S)) (elt := varM a) (env0 := env0) (S := S) (fun _ => true) (fun d => match d with | .tup (x :: _) => x | _ => .non) (ts.map dPair) (fun d hd => by
    obtain ⟨p, _, rfl⟩ := List.mem_map.mp hd
    refine ⟨(env0.set a (some (.int p.1))).set b (some (.int p.2)), rfl, rfl, fun _ => ?_⟩
    have : ((env0.set a (some (.int p.1))).set b (some (.int p.2)))[a]? = some (some (.int p.1)) := by
      rw [List.getElem?_set_ne (Ne.symm hab), List.getElem?_set_self hl]
    simp only [varM, this, dPair])
  rw [e]
  have ft : (ts.map dPair).filter (fun _ => true) = ts.map dPair := List.filter_eq_self.mpr (by simp)
  rw [ft, List.map_map, List.map_map]
  rfl
theorem row_ok' {many most : Int} {k : Nat} {S : DS} (hm : 1 ≤ many) (hm2 : many ≤ 600) (ho : 1 ≤ most) (ho2 : most ≤ 1000) (g : Good (3 * many.toNat + 3 + k) S) : ∃ r S', G__law_row [.st, .int many, .int most] S = .ok (dRow r, S') ∧ OkR many r ∧ (∀ p ∈ r.1, p.1 ≤ most) ∧ r.2 ≤ tot r.1 + 1 ∧ Good k S' := by
  obtain ⟨ts, S1, e1, t1, t2, t3, g1⟩ := terms_ok (k := 2 + k) hm hm2 ho ho2 (g.mono (by omega))
  have t0 := tot_nonneg (many := many) t1.w
  have tl := tot_le t2
  have tb : tot ts < 1000000 := by
    have h1 : (ts.length : Int) ≤ 600 := by omega
    have : (ts.length : Int) * most ≤ 600 * 1000 := Int.mul_le_mul h1 ho2 (by omega) (by omega)
    omega
  obtain ⟨way, S2, e2, w0, w1, g2⟩ := draw_ok (n := 10) (k := 1 + k) (by omega) (by omega) (g1.mono (by omega))
  have hG : G__law_row [.st, .int many, .int most] S = endS (seqS (asgS 3 (callS G__law_terms (consA (varM 0) (consA (varM 1) (consA (varM 2) nilA))))) (seqS (asgS 4 (cbM gSum (consA (lcM (setT [5, 6]) (varM 3) (fun _ S => .ok (true, S)) (varM 5) [5, 6]) nilA))) (seqS (asgS 7 (callS G__law_draw (consA (varM 0) (consA (cM (.int 10)) nilA)))) (seqS (ifS (testM (binM gEq (varM 7) (cM (.int 0)))) (retS rowP) nextS) (retS (tupM (consA (varM 3) (consA rowQ nilA))))))) (startE 8 [.st, .int many, .int most]) S) := rfl
  have s1 : startE 8 [.st, .int many, .int most] = [some .st, some (.int many), some (.int most), none, none, none, none, none] := rfl
  have lw := lc_weights (ts := ts) (S := S1) (env0 := wipeE [some .st, some (.int many), some (.int most), some (.tup (ts.map dPair)), none, none, none, none] [5, 6]) (a := 5) (b := 6) rfl (by decide)
  have gs : gSum [.lst ((ts.map (·.1)).map D.int)] = some (.int (tot ts)) := gSum_ints _
  by_cases hw : way = 0
  · subst hw
    obtain ⟨d, S3, e3, hd, g3⟩ := pick_ok (ds := [.int 0, .int (tot ts), .int (tot ts + 1)]) (k := k) (by simp) (by simp) (g2.mono (by omega))
    obtain ⟨x, rfl, hx⟩ : ∃ x, d = .int x ∧ 0 ≤ x ∧ x ≤ tot ts + 1 := by
      simp only [List.mem_cons, List.not_mem_nil, or_false] at hd
      rcases hd with rfl | rfl | rfl
      · exact ⟨_, rfl, by omega, by omega⟩
      · exact ⟨_, rfl, t0, by omega⟩
      · exact ⟨_, rfl, by omega, by omega⟩
    refine ⟨(ts, x), S3, ?_, ⟨t1, hx.1⟩, t2, hx.2, g3⟩
    rw [hG]
    simp only [s1, seqS, asgS, callS, bindM, consA, varM, List.getElem?_cons_zero, List.getElem?_cons_succ, nilA, e1, List.set_cons_succ, List.set_cons_zero, cbM, lcM, lw, ofO, gs, cM, e2, ifS, testM, binM, gEq_int, beq_self_eq_true, if_true, retS, rowP, tupM, lstM, List.length_cons, List.length_nil, Nat.reduceAdd, Nat.reduceLeDiff, gAdd, e3, endS, dRow]
  · have hf : (way == 0) = false := by simpa using hw
    obtain ⟨b, S3, e3, hb, g3⟩ := rowQ_ok (T := .tup (ts.map dPair)) (many := many) (most := most) (way := way) (x5 := none) (x6 := none) (k := k) t0 tb (g2.mono (by omega))
    refine ⟨(ts, b), S3, ?_, ⟨t1, hb.1⟩, t2, hb.2, g3⟩
    rw [hG]
    simp only [s1, seqS, asgS, callS, bindM, consA, varM, List.getElem?_cons_zero, List.getElem?_cons_succ, nilA, e1, List.set_cons_succ, List.set_cons_zero, cbM, lcM, lw, ofO, gs, cM, e2, ifS, testM, binM, gEq_int, hf, Bool.false_eq_true, if_false, nextS, retS, tupM, e3, List.length_cons, List.length_nil, Nat.reduceAdd, Nat.reduceLeDiff, if_true, endS, dRow]
end My
namespace My
open PySem PySem.Spec L2 VS
theorem inc_len : ∀ (l : List Nat) (lo m : Nat), l.Pairwise (· < ·) → (∀ x ∈ l, lo < x ∧ x ≤ m) → l.length ≤ m - lo
  | [], _, _, _, _ => Nat.zero_le _
  | x :: l, lo, m, hp, h => by
    rw [List.pairwise_cons] at hp
    have hx := h x List.mem_cons_self
    have := inc_len l x m hp.2 fun y hy => ⟨hp.1 y hy, (h y (List.mem_cons_of_mem _ hy)).2⟩
    rw [List.length_cons]
    omega
theorem OkT.len {many : Int} {ts : Trm} (h : OkT many ts) : ts.length ≤ many.toNat := by
  have := inc_len (ts.map fun p => p.2.natAbs) 0 many.toNat h.inc fun x hx => by
    obtain ⟨p, hp, rfl⟩ := List.mem_map.mp hx
    have := h.l p hp
    omega
  simpa using this
section
variable {many b way spot : Int} {R : D} {ts : Trm} {x5 x6 x7 x8 x9 : Option D} {S : DS} {k : Nat}
theorem max0 (x : Int) : gMax [.int 0, .int x] = some (.int (if x > 0 then x else 0)) := rfl
end
end My
namespace My
open PySem PySem.Spec L2 VS
theorem num_int (i : Int) : G_is_number [.int i] = .ok (.bl true) := rfl
theorem from_int (a b : Int) : G_is_number_from [.int a, .int b] = .ok (.bl (decide (a ≤ b))) := rfl
theorem btw_int (a b c : Int) : G_is_number_between [.int a, .int b, .int c] = .ok (.bl (decide (a ≤ b) && decide (b ≤ c))) := by
  by_cases h : a ≤ b
  · have : G_is_number_between [.int a, .int b, .int c] = endP (retS (andV (callP G_is_number [] (consA (varM 1) nilA)) (chM gLe gLe (varM 0) (varM 1) (varM 2))) (startE 3 [.int a, .int b, .int c]) S0) := rfl
    rw [this]
    have s1 : startE 3 [.int a, .int b, .int c] = [some (.int a), some (.int b), some (.int c)] := rfl
    simp only [s1, retS, andV, callP, consA, varM, nilA, bindM, List.getElem?_cons_succ, List.getElem?_cons_zero, List.append_nil, num_int, liftP, chM, gII, ofO, h, decide_true, Bool.true_and, endP]
  · have : G_is_number_between [.int a, .int b, .int c] = endP (retS (andV (callP G_is_number [] (consA (varM 1) nilA)) (chM gLe gLe (varM 0) (varM 1) (varM 2))) (startE 3 [.int a, .int b, .int c]) S0) := rfl
    rw [this]
    have s1 : startE 3 [.int a, .int b, .int c] = [some (.int a), some (.int b), some (.int c)] := rfl
    simp only [s1, retS, andV, callP, consA, varM, nilA, bindM, List.getElem?_cons_succ, List.getElem?_cons_zero, List.append_nil, num_int, liftP, chM, gII, ofO, h, decide_false, Bool.false_and, endP]
def litOk (many l : Int) : Bool := decide (-many ≤ l) && decide (l ≤ many) && !(l == 0)
theorem lit_int (many l : Int) : G_is_literal_of [.int many, .int l] = .ok (.bl (litOk many l)) := by
  have : G_is_literal_of [.int many, .int l] = endP (retS (andV (callP G_is_number_between [] (consA (unM gNeg (varM 0)) (consA (varM 1) (consA (varM 0) nilA)))) (binM gNe (varM 1) (cM (.int 0)))) (startE 2 [.int many, .int l]) S0) := rfl
  rw [this]
  have s1 : startE 2 [.int many, .int l] = [some (.int many), some (.int l)] := rfl
  unfold litOk
  cases h : decide (-many ≤ l) && decide (l ≤ many) with
  | true => simp only [s1, retS, andV, callP, consA, unM, varM, nilA, bindM, List.getElem?_cons_succ, List.getElem?_cons_zero, gNeg, ofO, List.append_nil, btw_int, h, liftP, binM, cM, gNe_int, endP, Bool.true_and]
  | false => simp only [s1, retS, andV, callP, consA, unM, varM, nilA, bindM, List.getElem?_cons_succ, List.getElem?_cons_zero, gNeg, ofO, List.append_nil, btw_int, h, liftP, endP, Bool.false_and]
def absI (l : Int) : Int := if l < 0 then -l else l
theorem absI_nat (l : Int) : absI l = l.natAbs := by unfold absI; split <;> omega
def pairOk (many size w l : Int) : Bool := decide (1 ≤ w) && litOk many l && !decide (absI l ≤ size)
def atC : MT := orT (notT (testM (callP G_is_number_from [] (consA (cM (.int 1)) (consA (varM 4) nilA))))) (orT (notT (testM (callP G_is_literal_of [] (consA (varM 0) (consA (varM 5) nilA))))) (testM (binM gLe (cbM gAbs (consA (varM 5) nilA)) (varM 2))))
def atB : MS := seqS (ifS (notT (testM (callP G_is_pair [] (consA (varM 3) nilA)))) (retS (cM (.bl false))) nextS) (seqS (unpS [4, 5] (varM 3)) (seqS (ifS atC (retS (cM (.bl false))) nextS) (asgS 2 (cbM gAbs (consA (varM 5) nilA)))))
theorem atC_eq {many size w l : Int} {T X3 : D} {S : DS} : atC [some (.int many), some T, some (.int size), some X3, some (.int w), some (.int l)] S = .ok (!pairOk many size w l, S) := by
  unfold pairOk
  cases h1 : decide (1 ≤ w) with
  | false => simp only [atC, orT, notT, testM, callP, consA, cM, varM, nilA, bindM, List.getElem?_cons_succ, List.getElem?_cons_zero, List.append_nil, from_int, h1, liftP, Bool.not_false, if_true, Bool.false_and]
  | true =>
    cases h2 : litOk many l with
    | false => simp only [atC, orT, notT, testM, callP, consA, cM, varM, nilA, bindM, List.getElem?_cons_succ, List.getElem?_cons_zero, List.append_nil, from_int, h1, liftP, Bool.not_true, Bool.false_eq_true, if_false, lit_int, h2, Bool.not_false, if_true, Bool.true_and, Bool.false_and]
    | true => simp only [atC, orT, notT, testM, callP, consA, cM, varM, nilA, bindM, List.getElem?_cons_succ, List.getElem?_cons_zero, List.append_nil, from_int, h1, liftP, Bool.not_true, Bool.false_eq_true, if_false, lit_int, h2, binM, cbM, gAbs, ofO, gII, Bool.true_and, Bool.not_not, absI] <;> rfl
theorem pair_is (p : Int × Int) : G_is_pair [dPair p] = .ok (.bl true) := rfl
theorem atB_eq {many size : Int} {T : D} {p : Int × Int} {x4 x5 : Option D} {S : DS} : atB [some (.int many), some T, some (.int size), some (dPair p), x4, x5] S = if pairOk many size p.1 p.2 = true then .ok (.nx [some (.int many), some T, some (.int (absI p.2)), some (dPair p), some (.int p.1), some (.int p.2)], S) else .ok (.rt (.bl false), S) := by
  have hu : unpS [4, 5] (varM 3) [some (.int many), some T, some (.int size), some (dPair p), x4, x5] S = .ok (.nx [some (.int many), some T, some (.int size), some (dPair p), some (.int p.1), some (.int p.2)], S) := rfl
  have ht : notT (testM (callP G_is_pair [] (consA (varM 3) nilA))) [some (.int many), some T, some (.int size), some (dPair p), x4, x5] S = .ok (false, S) := by
    simp only [notT, testM, callP, consA, varM, nilA, bindM, List.getElem?_cons_succ, List.getElem?_cons_zero, List.append_nil, pair_is, liftP, Bool.not_true]
  have hc := @atC_eq many size p.1 p.2 T (dPair p) S
  cases h : pairOk many size p.1 p.2 with
  | true =>
    rw [h] at hc
    rw [if_pos rfl]
    simp only [atB, seqS, ifS, ht, bindM, Bool.false_eq_true, if_false, nextS, hu, hc, Bool.not_true, asgS, cbM, consA, varM, nilA, List.getElem?_cons_succ, List.getElem?_cons_zero, gAbs, ofO, List.set_cons_succ, List.set_cons_zero, absI]
  | false =>
    rw [h] at hc
    rw [if_neg (by simp)]
    simp only [atB, seqS, ifS, ht, bindM, Bool.false_eq_true, if_false, nextS, hu, hc, Bool.not_false, if_true, retS, cM]
def okFrom (many : Int) : Int → Trm → Bool
  | _, [] => true
  | size, p :: r => pairOk many size p.1 p.2 && okFrom many (absI p.2) r
theorem at_loop {many : Int} {T : D} {S : DS} : ∀ (ts : Trm) (size : Int) (x3 x4 x5 : Option D), (okFrom many size ts = true → ∃ env, loopS (setN 3) atB (ts.map dPair) [some (.int many), some T, some (.int size), x3, x4, x5] S = .ok (.nx env, S)) ∧
    (okFrom many size ts = false → loopS (setN 3) atB (ts.map dPair) [some (.int many), some T, some (.int size), x3, x4, x5] S = .ok (.rt (.bl false), S))
  | [], size, x3, x4, x5 => ⟨fun _ => ⟨_, rfl⟩, fun h => (by cases h)⟩
  | p :: ts, size, x3, x4, x5 => by
    have hb := @atB_eq many size T p x4 x5 S
    obtain ⟨i1, i2⟩ := at_loop (many := many) (T := T) (S := S) ts (absI p.2) (some (dPair p)) (some (.int p.1)) (some (.int p.2))
    have hs : setN 3 [some (.int many), some T, some (.int size), x3, x4, x5] (dPair p) = some [some (.int many), some T, some (.int size), some (dPair p), x4, x5] := rfl
    cases h : pairOk many size p.1 p.2 with
    | true =>
      rw [h, if_pos rfl] at hb
      simp only [okFrom, h, Bool.true_and, List.map_cons, loopS, hs, hb]
      exact ⟨i1, i2⟩
    | false =>
      rw [h, if_neg (by simp)] at hb
      simp only [okFrom, h, Bool.false_and, List.map_cons, loopS, hs, hb]
      exact ⟨fun z => (by cases z), fun _ => trivial⟩
theorem terms_is (many : Int) (ts : Trm) : G_are_terms_of [.int many, .tup (ts.map dPair)] = .ok (.bl (okFrom many 0 ts)) := by
  have hG : G_are_terms_of [.int many, .tup (ts.map dPair)] = endP (seqS (ifS (notT (testM (unM (gIs .tuple) (varM 1)))) (retS (cM (.bl false))) nextS) (seqS (asgS 2 (cM (.int 0))) (seqS (forS (setN 3) (varM 1) atB) (retS (cM (.bl true))))) (startE 6 [.int many, .tup (ts.map dPair)]) S0) := rfl
  have s1 : startE 6 [.int many, .tup (ts.map dPair)] = [some (.int many), some (.tup (ts.map dPair)), none, none, none, none] := rfl
  obtain ⟨i1, i2⟩ := at_loop (many := many) (T := .tup (ts.map dPair)) (S := S0) ts 0 none none none
  rw [hG]
  cases h : okFrom many 0 ts with
  | true =>
    obtain ⟨env, e⟩ := i1 h
    simp only [s1, seqS, ifS, notT, testM, unM, varM, bindM, List.getElem?_cons_succ, List.getElem?_cons_zero, gIs, isKb, ofO, Bool.not_true, Bool.false_eq_true, if_false, nextS, asgS, cM, List.set_cons_succ, List.set_cons_zero, forS, e, retS, endP]
  | false =>
    have e := i2 h
    simp only [s1, seqS, ifS, notT, testM, unM, varM, bindM, List.getElem?_cons_succ, List.getElem?_cons_zero, gIs, isKb, ofO, Bool.not_true, Bool.false_eq_true, if_false, nextS, asgS, cM, List.set_cons_succ, List.set_cons_zero, forS, e, endP]
theorem row_is (many : Int) (ts : Trm) (b : D) (k : Bool) (hb : G_is_number_from [.int 0, b] = .ok (.bl k)) : G_is_row_of [.int many, .tup [.tup (ts.map dPair), b]] = .ok (.bl (okFrom many 0 ts && k)) := by
  have hG : G_is_row_of [.int many, .tup [.tup (ts.map dPair), b]] = endP (retS (andV (callP G_is_pair [] (consA (varM 1) nilA)) (andV (callP G_are_terms_of [] (consA (varM 0) (consA (binM gIxA (varM 1) (cM (.int 0))) nilA))) (callP G_is_number_from [] (consA (cM (.int 0)) (consA (binM gIxA (varM 1) (cM (.int 1))) nilA))))) (startE 2 [.int many, .tup [.tup (ts.map dPair), b]]) S0) := rfl
  have s1 : startE 2 [.int many, .tup [.tup (ts.map dPair), b]] = [some (.int many), some (.tup [.tup (ts.map dPair), b])] := rfl
  have hp : G_is_pair [.tup [.tup (ts.map dPair), b]] = .ok (.bl true) := rfl
  have i0 : gIxA (.tup [.tup (ts.map dPair), b]) (.int 0) = some (.tup (ts.map dPair)) := rfl
  have i1 : gIxA (.tup [.tup (ts.map dPair), b]) (.int 1) = some b := rfl
  rw [hG]
  cases h : okFrom many 0 ts with
  | true => simp only [s1, retS, andV, callP, consA, varM, nilA, bindM, List.getElem?_cons_succ, List.getElem?_cons_zero, List.append_nil, hp, liftP, binM, cM, ofO, i0, i1, terms_is, h, hb, Bool.true_and, endP]
  | false => simp only [s1, retS, andV, callP, consA, varM, nilA, bindM, List.getElem?_cons_succ, List.getElem?_cons_zero, List.append_nil, hp, liftP, binM, cM, ofO, i0, terms_is, h, Bool.false_and, endP]
theorem okT_from {many : Int} : ∀ (ts : Trm) (size : Nat), OkT many ts → (∀ p ∈ ts, size < p.2.natAbs) → okFrom many size ts = true
  | [], _, _, _ => rfl
  | p :: ts, size, h, hs => by
    have h1 := h.w p List.mem_cons_self
    have h2 := h.l p List.mem_cons_self
    have h3 := hs p List.mem_cons_self
    have hinc := h.inc
    rw [List.map_cons, List.pairwise_cons] at hinc
    have hr : OkT many ts := ⟨fun q hq => h.w q (List.mem_cons_of_mem _ hq), fun q hq => h.l q (List.mem_cons_of_mem _ hq), hinc.2⟩
    have ih := okT_from ts p.2.natAbs hr fun q hq => hinc.1 _ (List.mem_map.mpr ⟨q, hq, rfl⟩)
    have hp : pairOk many size p.1 p.2 = true := by
      unfold pairOk litOk
      rw [absI_nat]
      simp only [Bool.and_eq_true, decide_eq_true_eq, Bool.not_eq_true', beq_eq_false_iff_ne, decide_eq_false_iff_not]
      omega
    simp only [okFrom, hp, Bool.true_and, absI_nat]
    exact ih
theorem okR_is {many : Int} {r : Trm × Int} (h : OkR many r) : G_is_row_of [.int many, dRow r] = .ok (.bl true) := by
  have h1 := okT_from r.1 0 h.t fun p hp => by have := (h.t.l p hp).1; omega
  have := row_is many r.1 (.int r.2) true (by rw [from_int, decide_eq_true h.b])
  rw [show ((0 : Nat) : Int) = 0 from rfl] at h1
  rw [h1] at this
  exact this
end My
namespace My
open PySem PySem.Spec L2 VS
def bmE : ME := lstM (consA (cM (.int 0)) (consA (unM gNeg (cM (.int 1))) (consA (cM (.int 601)) (consA (binM gPow (cM (.int 10)) (cM (.int 9))) (consA (cM .non) (consA (cM (.bl true)) (consA (cM (.str "3")) (consA (tupM (consA (cM (.int 3)) nilA)) (consA (lstM (consA (cM (.int 2)) nilA)) (consA (cM (.dct [] [])) nilA))))))))))
def bmL : List D := [.int 0, .int (-1), .int 601, .int 1000000000, .non, .bl true, .str "3", .tup [.int 3], .lst [.int 2], .dct [] []]
theorem bmE_eq (env : VS.Env) (S : DS) : bmE env S = .ok (.lst bmL, S) := rfl
theorem badMany_ok {k : Nat} {S : DS} (g : Good (k + 1) S) : ∃ d S', G__law_bad_many [.st] S = .ok (d, S') ∧ G_is_number_between [.int 1, d, .int 600] = .ok (.bl false) ∧ Good k S' := by
  obtain ⟨d, S', e, hd, g'⟩ := pick_ok (ds := bmL) (k := k) (by decide) (by decide) g
  refine ⟨d, S', ?_, ?_, g'⟩
  · have hG : G__law_bad_many [.st] S = endS (retS (callS G__law_pick (consA (varM 0) (consA bmE nilA))) (startE 1 [.st]) S) := rfl
    have s1 : startE 1 [.st] = [some .st] := rfl
    rw [hG]
    simp only [s1, retS, callS, consA, varM, nilA, bindM, List.getElem?_cons_zero, bmE_eq, e, endS]
  · simp only [bmL, List.mem_cons, List.not_mem_nil, or_false] at hd
    rcases hd with rfl | rfl | rfl | rfl | rfl | rfl | rfl | rfl | rfl | rfl <;> rfl
def brL1 : List D := [.non, .int 5, .str "row", .tup [], .tup [.tup [], .int 0, .int 0], .lst [.tup [], .int 0], .tup [.lst [], .int 0], .tup [.tup [], .int (-1)], .tup [.tup [], .bl true], .tup [.tup [], .non], .tup [.tup [dPair (1, 1)], .str "1"], .dct [] []]
def brL2 (many : Int) : List D := [.tup [.tup [dPair (0, 1)], .int 0], .tup [.tup [dPair (-1, 1)], .int 0], .tup [.tup [.tup [.bl true, .int 1]], .int 1], .tup [.tup [dPair (1, 0)], .int 0], .tup [.tup [dPair (1, many + 1)], .int 1], .tup [.tup [.tup [.int 1, .bl true]], .int 1]]
def brL3 : List D := [.tup [.tup [dPair (1, 1), dPair (1, 1)], .int 1], .tup [.tup [dPair (1, 1), dPair (2, -1)], .int 1], .tup [.tup [.tup [.int 1, .int 1, .int 1]], .int 1], .tup [.lst [dPair (1, 1)], .int 1], .tup [.tup [.lst [.int 1, .int 1]], .int 1], .tup [.tup [.tup [.int 1, .non]], .int 0]]
def brX : D := .tup [.tup [dPair (1, 2), dPair (1, 1)], .int 1]
theorem br1 {many : Int} : ∀ d ∈ brL1, G_is_row_of [.int many, d] = .ok (.bl false) := fun d hd => by
  simp only [brL1, List.mem_cons, List.not_mem_nil, or_false] at hd
  rcases hd with rfl | rfl | rfl | rfl | rfl | rfl | rfl | rfl | rfl | rfl | rfl | rfl
  all_goals first | rfl | (have := row_is many [(1, 1)] (.str "1") false rfl; rw [Bool.and_false] at this; exact this)
theorem br2 {many : Int} (hm : 1 ≤ many) : ∀ d ∈ brL2 many, G_is_row_of [.int many, d] = .ok (.bl false) := fun d hd => by
  simp only [brL2, List.mem_cons, List.not_mem_nil, or_false] at hd
  rcases hd with rfl | rfl | rfl | rfl | rfl | rfl
  · exact row_is many [(0, 1)] (.int 0) true rfl
  · exact row_is many [(-1, 1)] (.int 0) true rfl
  · rfl
  · have := row_is many [(1, 0)] (.int 0) true rfl
    have e : okFrom many 0 [((1 : Int), (0 : Int))] = false := by simp [okFrom, pairOk, litOk]
    rw [e] at this
    exact this
  · have := row_is many [(1, many + 1)] (.int 1) true rfl
    have e : okFrom many 0 [((1 : Int), many + 1)] = false := by
      have h : decide (many + 1 ≤ many) = false := decide_eq_false (by omega)
      simp [okFrom, pairOk, litOk, h]
    rw [e] at this
    exact this
  · rfl
theorem br3 {many : Int} : ∀ d ∈ brL3, G_is_row_of [.int many, d] = .ok (.bl false) := fun d hd => by
  simp only [brL3, List.mem_cons, List.not_mem_nil, or_false] at hd
  rcases hd with rfl | rfl | rfl | rfl | rfl | rfl
  · have := row_is many [(1, 1), (1, 1)] (.int 1) true rfl
    have e : okFrom many 0 [((1 : Int), (1 : Int)), (1, 1)] = false := by simp [okFrom, pairOk]
    rw [e] at this
    exact this
  · have := row_is many [(1, 1), (2, -1)] (.int 1) true rfl
    have e : okFrom many 0 [((1 : Int), (1 : Int)), (2, -1)] = false := by
      have h : absI (-1) ≤ absI 1 := by decide
      simp [okFrom, pairOk, h]
    rw [e] at this
    exact this
  · rfl
  · rfl
  · rfl
  · rfl
theorem brx {many : Int} : G_is_row_of [.int many, brX] = .ok (.bl false) := by
  have := row_is many [(1, 2), (1, 1)] (.int 1) true rfl
  have e : okFrom many 0 [((1 : Int), (2 : Int)), (1, 1)] = false := by
    have h : absI 1 ≤ absI 2 := by decide
    simp [okFrom, pairOk, h]
  rw [e] at this
  exact this
end My
namespace My
open PySem PySem.Spec L2 VS
def brE1 : ME := (lstM (consA (cM .non) (consA (cM (.int 5)) (consA (cM (.str "row")) (consA (tupM nilA) (consA (tupM (consA (tupM nilA) (consA (cM (.int 0)) (consA (cM (.int 0)) nilA)))) (consA (lstM (consA (tupM nilA) (consA (cM (.int 0)) nilA))) (consA (tupM (consA (lstM nilA) (consA (cM (.int 0)) nilA))) (consA (tupM (consA (tupM nilA) (consA (unM gNeg (cM (.int 1))) nilA))) (consA (tupM (consA (tupM nilA) (consA (cM (.bl true)) nilA))) (consA (tupM (consA (tupM nilA) (consA (cM .non) nilA))) (consA (tupM (consA (tupM (consA (tupM (consA (cM (.int 1)) (consA (cM (.int 1)) nilA))) nilA)) (consA (cM (.str "1")) nilA))) (consA (cM (.dct [] [])) nilA)))))))))))))
def brE2 : ME := (lstM (consA (tupM (consA (tupM (consA (tupM (consA (cM (.int 0)) (consA (cM (.int 1)) nilA))) nilA)) (consA (cM (.int 0)) nilA))) (consA (tupM (consA (tupM (consA (tupM (consA (unM gNeg (cM (.int 1))) (consA (cM (.int 1)) nilA))) nilA)) (consA (cM (.int 0)) nilA))) (consA (tupM (consA (tupM (consA (tupM (consA (cM (.bl true)) (consA (cM (.int 1)) nilA))) nilA)) (consA (cM (.int 1)) nilA))) (consA (tupM (consA (tupM (consA (tupM (consA (cM (.int 1)) (consA (cM (.int 0)) nilA))) nilA)) (consA (cM (.int 0)) nilA))) (consA (tupM (consA (tupM (consA (tupM (consA (cM (.int 1)) (consA (binM gAdd (varM 1) (cM (.int 1))) nilA))) nilA)) (consA (cM (.int 1)) nilA))) (consA (tupM (consA (tupM (consA (tupM (consA (cM (.int 1)) (consA (cM (.bl true)) nilA))) nilA)) (consA (cM (.int 1)) nilA))) nilA)))))))
def brE3 : ME := (lstM (consA (tupM (consA (tupM (consA (tupM (consA (cM (.int 1)) (consA (cM (.int 1)) nilA))) (consA (tupM (consA (cM (.int 1)) (consA (cM (.int 1)) nilA))) nilA))) (consA (cM (.int 1)) nilA))) (consA (tupM (consA (tupM (consA (tupM (consA (cM (.int 1)) (consA (cM (.int 1)) nilA))) (consA (tupM (consA (cM (.int 2)) (consA (unM gNeg (cM (.int 1))) nilA))) nilA))) (consA (cM (.int 1)) nilA))) (consA (tupM (consA (tupM (consA (tupM (consA (cM (.int 1)) (consA (cM (.int 1)) (consA (cM (.int 1)) nilA)))) nilA)) (consA (cM (.int 1)) nilA))) (consA (tupM (consA (lstM (consA (tupM (consA (cM (.int 1)) (consA (cM (.int 1)) nilA))) nilA)) (consA (cM (.int 1)) nilA))) (consA (tupM (consA (tupM (consA (lstM (consA (cM (.int 1)) (consA (cM (.int 1)) nilA))) nilA)) (consA (cM (.int 1)) nilA))) (consA (tupM (consA (tupM (consA (tupM (consA (cM (.int 1)) (consA (cM .non) nilA))) nilA)) (consA (cM (.int 0)) nilA))) nilA)))))))
def brEX : ME := (tupM (consA (tupM (consA (tupM (consA (cM (.int 1)) (consA (cM (.int 2)) nilA))) (consA (tupM (consA (cM (.int 1)) (consA (cM (.int 1)) nilA))) nilA))) (consA (cM (.int 1)) nilA)))
theorem brE1_eq (env : VS.Env) (S : DS) : brE1 env S = .ok (.lst brL1, S) := rfl
theorem brE2_eq (many : Int) (x : Option D) (S : DS) : brE2 [some .st, some (.int many), x] S = .ok (.lst (brL2 many), S) := rfl
theorem brE3_eq (env : VS.Env) (S : DS) : brE3 env S = .ok (.lst brL3, S) := rfl
theorem brEX_eq (env : VS.Env) (S : DS) : brEX env S = .ok (brX, S) := rfl
theorem badRow_ok {many : Int} {k : Nat} {S : DS} (hm : 1 ≤ many) (g : Good (k + 1) S) : ∃ d S', G__law_bad_row [.st, .int many] S = .ok (d, S') ∧ G_is_row_of [.int many, d] = .ok (.bl false) ∧ Good k S' := by
  have hG : G__law_bad_row [.st, .int many] S = endS (seqS (asgS 2 brE1) (seqS (asgS 2 (binM gCat (varM 2) brE2)) (seqS (asgS 2 (binM gCat (varM 2) brE3)) (seqS (ifS (testM (binM gGt (varM 1) (cM (.int 1)))) (appS 2 brEX) nextS) (retS (callS G__law_pick (consA (varM 0) (consA (varM 2) nilA))))))) (startE 3 [.st, .int many]) S) := rfl
  have s1 : startE 3 [.st, .int many] = [some .st, some (.int many), none] := rfl
  have c1 : gCat (.lst brL1) (.lst (brL2 many)) = some (.lst (brL1 ++ brL2 many)) := rfl
  have c2 : gCat (.lst (brL1 ++ brL2 many)) (.lst brL3) = some (.lst (brL1 ++ brL2 many ++ brL3)) := rfl
  have all : ∀ d ∈ brL1 ++ brL2 many ++ brL3, G_is_row_of [.int many, d] = .ok (.bl false) := fun d hd => by
    rcases List.mem_append.mp hd with h | h
    · rcases List.mem_append.mp h with h | h
      · exact br1 d h
      · exact br2 hm d h
    · exact br3 d h
  have hl : (brL1 ++ brL2 many ++ brL3).length = 24 := rfl
  by_cases h1 : 1 < many
  · obtain ⟨d, S', e, hd, g'⟩ := pick_ok (ds := brL1 ++ brL2 many ++ brL3 ++ [brX]) (k := k) (by rw [List.length_append, hl]; decide) (by rw [List.length_append, hl]; decide) g
    refine ⟨d, S', ?_, ?_, g'⟩
    · rw [hG]
      simp only [s1, seqS, asgS, bindM, brE1_eq, List.set_cons_succ, List.set_cons_zero, binM, varM, List.getElem?_cons_succ, List.getElem?_cons_zero, brE2_eq, brE3_eq, ofO, c1, c2, ifS, testM, cM, gII, h1, decide_true, if_true, appS, brEX_eq, hl, retS, callS, consA, nilA, e, endS]
      first | done | (rw [if_pos (by decide)]; simp only [List.set_cons_succ, List.set_cons_zero, List.getElem?_cons_succ, List.getElem?_cons_zero, e])
    · rcases List.mem_append.mp hd with h | h
      · exact all d h
      · rw [List.mem_singleton.mp h]; exact brx
  · obtain ⟨d, S', e, hd, g'⟩ := pick_ok (ds := brL1 ++ brL2 many ++ brL3) (k := k) (by rw [hl]; decide) (by rw [hl]; decide) g
    refine ⟨d, S', ?_, all d hd, g'⟩
    rw [hG]
    simp only [s1, seqS, asgS, bindM, brE1_eq, List.set_cons_succ, List.set_cons_zero, binM, varM, List.getElem?_cons_succ, List.getElem?_cons_zero, brE2_eq, brE3_eq, ofO, c1, c2, ifS, testM, cM, gII, h1, decide_false, Bool.false_eq_true, if_false, nextS, retS, callS, consA, nilA, e, endS]
theorem many_good {many : Int} (h : 1 ≤ many) (h2 : many ≤ 600) : G_check_many [.int many, .int 600] = .ok .non := by
  have hG : G_check_many [.int many, .int 600] = endP (ifS (notT (testM (callP G_is_number_between [] (consA (cM (.int 1)) (consA (varM 0) (consA (varM 1) nilA)))))) (raiseS "BadMany") nextS (startE 2 [.int many, .int 600]) S0) := rfl
  have s1 : startE 2 [.int many, .int 600] = [some (.int many), some (.int 600)] := rfl
  rw [hG]
  simp only [s1, ifS, notT, testM, callP, consA, cM, varM, nilA, bindM, List.getElem?_cons_succ, List.getElem?_cons_zero, List.append_nil, btw_int, decide_eq_true h, decide_eq_true h2, Bool.and_self, liftP, Bool.not_true, Bool.false_eq_true, if_false, nextS, endP]
theorem many_bad {d : D} (h : G_is_number_between [.int 1, d, .int 600] = .ok (.bl false)) : G_check_many [d, .int 600] = .exc "BadMany" "" [] := by
  have hG : G_check_many [d, .int 600] = endP (ifS (notT (testM (callP G_is_number_between [] (consA (cM (.int 1)) (consA (varM 0) (consA (varM 1) nilA)))))) (raiseS "BadMany") nextS (startE 2 [d, .int 600]) S0) := rfl
  have s1 : startE 2 [d, .int 600] = [some d, some (.int 600)] := rfl
  rw [hG]
  simp only [s1, ifS, notT, testM, callP, consA, cM, varM, nilA, bindM, List.getElem?_cons_succ, List.getElem?_cons_zero, List.append_nil, h, liftP, Bool.not_false, if_true, raiseS, endP]
theorem row_check {m d : D} {k : Bool} (h : G_is_row_of [m, d] = .ok (.bl k)) : G_check_row [m, d] = if k = true then .ok .non else .exc "BadRow" "" [] := by
  have hG : G_check_row [m, d] = endP (ifS (notT (testM (callP G_is_row_of [] (consA (varM 0) (consA (varM 1) nilA))))) (raiseS "BadRow") nextS (startE 2 [m, d]) S0) := rfl
  have s1 : startE 2 [m, d] = [some m, some d] := rfl
  rw [hG]
  cases k with
  | true => simp only [s1, ifS, notT, testM, callP, consA, varM, nilA, bindM, List.getElem?_cons_succ, List.getElem?_cons_zero, List.append_nil, h, liftP, Bool.not_true, Bool.false_eq_true, if_false, nextS, endP, if_true]
  | false => simp only [s1, ifS, notT, testM, callP, consA, varM, nilA, bindM, List.getElem?_cons_succ, List.getElem?_cons_zero, List.append_nil, h, liftP, Bool.not_false, if_true, raiseS, endP, Bool.false_eq_true, if_false]
end My
namespace My
open PySem PySem.Spec L2 VS
def wt : Trm → Int → Int
  | [], _ => 0
  | p :: r, l => if p.2 = l then p.1 else wt r l
def miss (r q : Trm) : Int := (r.map fun p => if p.1 - wt q p.2 > 0 then p.1 - wt q p.2 else 0).sum
section
variable {many : Int}
theorem OkT.lits {ts : Trm} (h : OkT many ts) : (ts.map (·.2)).Nodup := by
  have := h.inc
  rw [List.pairwise_map] at this
  rw [List.nodup_iff_pairwise_ne, List.pairwise_map]
  exact this.imp fun {a b} h z => by rw [z] at h; exact Nat.lt_irrefl _ h
end
end My
namespace My
open PySem PySem.Spec L2 VS
def wv (f : List Int) (l : Int) : Int := if 0 < l then f.getD (l - 1).toNat 0 else 1 - f.getD (0 - l - 1).toNat 0
def cm (ts : Trm) (f : List Int) : Int := ((ts.filter fun p => wv f p.2 == 1).map (·.1)).sum
def FlOk (n : Nat) (f : List Int) : Prop := f.length = n ∧ ∀ x ∈ f, x = 0 ∨ x = 1
def sumL : Nat → (Int → Int) → Int
  | 0, _ => 0
  | n + 1, F => sumL n F + F ((n : Int) + 1) + F (-((n : Int) + 1))
abbrev InL (n : Nat) (l : Int) : Prop := 1 ≤ l.natAbs ∧ l.natAbs ≤ n
theorem sumL_le {F G : Int → Int} : ∀ n : Nat, (∀ l, InL n l → F l ≤ G l) → sumL n F ≤ sumL n G
  | 0, _ => Int.le_refl _
  | n + 1, h => by
    have h1 := sumL_le n fun l hl => h l ⟨hl.1, by have := hl.2; omega⟩
    have h2 := h ((n : Int) + 1) ⟨by omega, by omega⟩
    have h3 := h (-((n : Int) + 1)) ⟨by omega, by omega⟩
    simp only [sumL]
    omega
theorem sumL_congr {F G : Int → Int} (n : Nat) (h : ∀ l, InL n l → F l = G l) : sumL n F = sumL n G :=
  Int.le_antisymm (sumL_le n fun l hl => Int.le_of_eq (h l hl)) (sumL_le n fun l hl => Int.le_of_eq (h l hl).symm)
theorem sumL_add {F G : Int → Int} : ∀ n : Nat, sumL n (fun l => F l + G l) = sumL n F + sumL n G
  | 0 => rfl
  | n + 1 => by
    have := sumL_add (F := F) (G := G) n
    simp only [sumL]
    omega
theorem sumL_upd {F G : Int → Int} {l : Int} : ∀ n : Nat, InL n l → (∀ m, m ≠ l → G m = F m) → sumL n G = sumL n F + (G l - F l)
  | 0, h, _ => by have := h.1; have := h.2; omega
  | n + 1, h, hg => by
    simp only [sumL]
    by_cases e : l.natAbs = n + 1
    · have hs : sumL n G = sumL n F := sumL_congr n fun m hm => hg m fun z => by subst z; have := hm.2; omega
      rcases Int.natAbs_eq l with q | q
      · have e1 : l = (n : Int) + 1 := by omega
        have := hg (-((n : Int) + 1)) (by omega)
        rw [hs, this, e1]
        omega
      · have e1 : l = -((n : Int) + 1) := by omega
        have := hg ((n : Int) + 1) (by omega)
        rw [hs, this, e1]
        omega
    · have ih := sumL_upd (F := F) (G := G) n ⟨h.1, by have := h.2; omega⟩ hg
      have h1 := hg ((n : Int) + 1) (by omega)
      have h2 := hg (-((n : Int) + 1)) (by omega)
      rw [ih, h1, h2]
      omega
theorem wt_none : ∀ {ts : Trm} {l : Int}, l ∉ ts.map (·.2) → wt ts l = 0
  | [], _, _ => rfl
  | p :: ts, l, h => by
    simp only [List.map_cons, List.mem_cons, not_or] at h
    simp only [wt, if_neg (Ne.symm h.1)]
    exact wt_none h.2
theorem wt_nn : ∀ {ts : Trm} (l : Int), (∀ p ∈ ts, 1 ≤ p.1) → 0 ≤ wt ts l
  | [], _, _ => Int.le_refl _
  | p :: ts, l, h => by
    simp only [wt]
    split
    · have := h p List.mem_cons_self; omega
    · exact wt_nn l fun q hq => h q (List.mem_cons_of_mem _ hq)
theorem wt_side : ∀ {ts : Trm} {l : Int}, (ts.map fun p => p.2.natAbs).Pairwise (· < ·) → l ≠ 0 → wt ts l = 0 ∨ wt ts (-l) = 0
  | [], _, _, _ => .inl rfl
  | p :: ts, l, h, hl => by
    rw [List.map_cons, List.pairwise_cons] at h
    have no : ∀ m : Int, m.natAbs = p.2.natAbs → wt ts m = 0 := fun m hm => wt_none fun z => by
      obtain ⟨q, hq, e⟩ := List.mem_map.mp z
      have := h.1 q.2.natAbs (List.mem_map.mpr ⟨q, hq, rfl⟩)
      rw [e] at this
      omega
    by_cases h1 : p.2 = l
    · right
      have h2 : p.2 ≠ -l := by omega
      simp only [wt, if_neg h2]
      exact no _ (by omega)
    · by_cases h2 : p.2 = -l
      · left
        simp only [wt, if_neg h1]
        exact no _ (by omega)
      · simp only [wt, if_neg h1, if_neg h2]
        exact wt_side h.2 hl
theorem sumL_zero : ∀ n : Nat, sumL n (fun _ => 0) = 0
  | 0 => rfl
  | n + 1 => by simp only [sumL, sumL_zero n]; rfl
theorem sum_terms (h : Int → Int → Int) (h0 : ∀ l, h l 0 = 0) {n : Nat} : ∀ ts : Trm, (ts.map (·.2)).Nodup → (∀ p ∈ ts, InL n p.2) → (ts.map fun p => h p.2 p.1).sum = sumL n fun l => h l (wt ts l)
  | [], _, _ => by
    have z : (fun l => h l (wt [] l)) = fun _ => 0 := funext fun l => h0 l
    rw [z, sumL_zero]
    rfl
  | p :: ts, hn, hl => by
    rw [List.map_cons, List.nodup_cons] at hn
    have ih := sum_terms h h0 (n := n) ts hn.2 fun q hq => hl q (List.mem_cons_of_mem _ hq)
    have up := sumL_upd (F := fun l => h l (wt ts l)) (G := fun l => h l (wt (p :: ts) l)) (l := p.2) n (hl p List.mem_cons_self) fun m hm => by
      simp only [wt, if_neg (Ne.symm hm)]
    rw [List.map_cons, List.sum_cons, ih, up]
    have e : wt ts p.2 = 0 := wt_none hn.1
    simp only [wt, if_pos, e, h0]
    omega
theorem cm_sum (ts : Trm) (f : List Int) : cm ts f = (ts.map fun p => if wv f p.2 = 1 then p.1 else 0).sum := by
  unfold cm
  induction ts with
  | nil => rfl
  | cons p ts ih =>
    by_cases h : wv f p.2 = 1
    · have hb : (wv f p.2 == 1) = true := by simpa using h
      rw [List.filter_cons_of_pos (by simpa using h), List.map_cons, List.sum_cons, ih, List.map_cons, List.sum_cons, if_pos h]
    · rw [List.filter_cons_of_neg (by simpa using h), ih, List.map_cons, List.sum_cons, if_neg h]
      omega
section
variable {many : Int} {r q : Trm}
theorem OkT.inL (h : OkT many r) : ∀ p ∈ r, InL many.toNat p.2 := fun p hp => by
  have := h.l p hp
  exact ⟨this.1, by omega⟩
theorem cm_L (h : OkT many r) (f : List Int) : cm r f = sumL many.toNat fun l => if wv f l = 1 then wt r l else 0 := by
  rw [cm_sum]
  exact sum_terms (fun l w => if wv f l = 1 then w else 0) (fun l => by simp) r h.lits h.inL
theorem miss_L (h : OkT many r) (hq : OkT many q) : miss r q = sumL many.toNat fun l => if wt r l - wt q l > 0 then wt r l - wt q l else 0 := by
  unfold miss
  exact sum_terms (fun l w => if w - wt q l > 0 then w - wt q l else 0) (fun l => by have := wt_nn l hq.w; show (if 0 - wt q l > 0 then 0 - wt q l else 0) = 0; rw [if_neg (by omega)]) r h.lits h.inL
theorem fact_ge (h : OkT many r) (hq : OkT many q) (f : List Int) : cm r f ≤ cm q f + miss r q := by
  rw [cm_L h, cm_L hq, miss_L h hq, ← sumL_add]
  refine sumL_le _ fun l _ => ?_
  have := wt_nn l hq.w
  split <;> split <;> omega
theorem fact_eq (h : OkT many r) (hq : OkT many q) : ∃ f, FlOk many.toNat f ∧ cm r f = cm q f + miss r q := by
  let C : Int → Bool := fun v => decide (wt q v ≤ wt r v ∧ wt r (-v) ≤ wt q (-v))
  let f : List Int := (List.range many.toNat).map fun (i : Nat) => if C ((i : Int) + 1) = true then 1 else 0
  refine ⟨f, ⟨by simp [f], fun x hx => ?_⟩, ?_⟩
  · obtain ⟨i, _, rfl⟩ := List.mem_map.mp hx
    split
    · exact .inr rfl
    · exact .inl rfl
  · rw [cm_L h, cm_L hq, miss_L h hq, ← sumL_add]
    refine sumL_congr _ fun l hl => ?_
    have get : ∀ v : Int, 1 ≤ v → v ≤ many.toNat → f.getD (v - 1).toNat 0 = if C v = true then 1 else 0 := fun v v1 v2 => by
      have hlt : (v - 1).toNat < many.toNat := by omega
      have e : ((v - 1).toNat : Int) + 1 = v := by omega
      simp only [f, List.getD_eq_getElem?_getD, List.getElem?_map, List.getElem?_range hlt, Option.map_some, Option.getD_some, e]
    have s1 := wt_side (l := l) h.inc (by have := hl.1; omega)
    have s2 := wt_side (l := l) hq.inc (by have := hl.1; omega)
    have n1 := wt_nn l h.w
    have n2 := wt_nn l hq.w
    have n3 := wt_nn (-l) h.w
    have n4 := wt_nn (-l) hq.w
    by_cases hp : 0 < l
    · have e : wv f l = if C l = true then 1 else 0 := by
        unfold wv
        rw [if_pos hp]
        exact get l (by omega) (by have := hl.2; omega)
      by_cases hc : C l = true
      · have := of_decide_eq_true hc
        have e1 : wv f l = 1 := by rw [e, if_pos hc]
        rw [if_pos e1, if_pos e1]
        split <;> omega
      · have := of_decide_eq_false (by simpa using hc : C l = false)
        have e1 : ¬ wv f l = 1 := by rw [e, if_neg hc]; decide
        rw [if_neg e1, if_neg e1]
        split <;> omega
    · have e : wv f l = 1 - if C (-l) = true then 1 else 0 := by
        unfold wv
        rw [if_neg hp]
        have e0 : 0 - l - 1 = -l - 1 := by omega
        rw [e0, get (-l) (by have := hl.1; omega) (by have := hl.2; omega)]
      by_cases hc : C (-l) = true
      · have := of_decide_eq_true hc
        rw [Int.neg_neg] at this
        have e1 : ¬ wv f l = 1 := by rw [e, if_pos hc]; decide
        rw [if_neg e1, if_neg e1]
        split <;> omega
      · have := of_decide_eq_false (by simpa using hc : C (-l) = false)
        rw [Int.neg_neg] at this
        have e1 : wv f l = 1 := by rw [e, if_neg hc]; decide
        rw [if_pos e1, if_pos e1]
        split <;> omega
end
end My
namespace My
open PySem PySem.Spec PyProof.Rows L2 VS
def b_normal_row_1 : MS := (setA 2 (varM 5) (binM gAdd (get2M (varM 2) (varM 5) (cM (.int 0))) (varM 4)))
def b_normal_row_2 : MS := (seqS (setA 2 (unM gNeg (varM 5)) (binM gSub (get2M (varM 2) (unM gNeg (varM 5)) (cM (.int 0))) (varM 4))) (asgS 3 (binM gSub (varM 3) (varM 4))))
def b_normal_row_3 : MS := (seqS (appS 6 (tupM (consA (unM gNeg (varM 4)) (consA (unM gNeg (varM 7)) nilA)))) (asgS 3 (binM gSub (varM 3) (varM 4))))
def b_normal_row_4 : MS := (seqS (asgS 4 (binM gIxA (varM 2) (varM 7))) (seqS (ifS (testM (binM gGt (varM 4) (cM (.int 0)))) (appS 6 (tupM (consA (varM 4) (consA (varM 7) nilA)))) nextS) (ifS (testM (binM gLt (varM 4) (cM (.int 0)))) b_normal_row_3 nextS)))
def g_normal_row : MS := (seqS (asgS 2 (cM (.dct [] []))) (seqS (asgS 3 (varM 1)) (seqS (forS (setT [4, 5]) (varM 0) (ifS (testM (binM gGt (varM 5) (cM (.int 0)))) b_normal_row_1 b_normal_row_2)) (seqS (asgS 6 (lstM nilA)) (seqS (forS (setN 7) (cbM gSortedA (consA (varM 2) nilA)) b_normal_row_4) (retS (tupM (consA (cbM gTuple (consA (varM 6) nilA)) (consA (cbM gMax (consA (cM (.int 0)) (consA (varM 3) nilA))) nilA)))))))))
def G_normal_row (ds : List D) : RP := endP (g_normal_row (startE 8 ds) S0)
end My
namespace My
open PySem PySem.Spec L2 VS
abbrev Asc := List (Int × Int)
def look : Asc → Int → Int
  | [], _ => 0
  | p :: m, v => if p.1 = v then p.2 else look m v
def hasA (m : Asc) (v : Int) : Bool := m.any fun p => decide (p.1 = v)
def putA (m : Asc) (v c : Int) : Asc := if hasA m v = true then m.map (fun p => if p.1 = v then (p.1, c) else p) else m ++ [(v, c)]
abbrev N1 := Asc × Int × Option D × Option D
def step1 (s : N1) (p : Int × Int) : N1 := if 0 < p.2 then (putA s.1 p.2 (look s.1 p.2 + p.1), s.2.1, some (.int p.1), some (.int p.2)) else (putA s.1 (-p.2) (look s.1 (-p.2) - p.1), s.2.1 - p.1, some (.int p.1), some (.int p.2))
def fold1 (s : Trm) (b : Int) : N1 := s.foldl step1 ([], b, none, none)
abbrev N2 := Trm × Int × Option D × Option D
def step2 (m : Asc) (s : N2) (v : Int) : N2 := if 0 < look m v then (s.1 ++ [(look m v, v)], s.2.1, some (.int (look m v)), some (.int v)) else if look m v < 0 then (s.1 ++ [(-look m v, -v)], s.2.1 - look m v, some (.int (look m v)), some (.int v)) else (s.1, s.2.1, some (.int (look m v)), some (.int v))
def keysA (m : Asc) : List Int := (m.map (·.1)).mergeSort fun a b => decide (a ≤ b)
def fold2 (s : Trm) (b : Int) : N2 := (keysA (fold1 s b).1).foldl (step2 (fold1 s b).1) ([], (fold1 s b).2.1, (fold1 s b).2.2.1, none)
def normLow (s : Trm) (b : Int) : Int := (fold2 s b).2.1
def normal (s : Trm) (b : Int) : Trm × Int := ((fold2 s b).1, if normLow s b > 0 then normLow s b else 0)
def sv (s : Trm) (f : List Int) : Int := (s.map fun p => p.1 * wv f p.2).sum
theorem sv_cons (p : Int × Int) (s : Trm) (f : List Int) : sv (p :: s) f = p.1 * wv f p.2 + sv s f := by simp [sv]
theorem wv_neg (f : List Int) {l : Int} (h : l ≠ 0) : wv f (-l) = 1 - wv f l := by
  unfold wv
  by_cases h0 : 0 < l
  · rw [if_neg (by omega), if_pos h0]
    congr 3
    omega
  · rw [if_pos (by omega), if_neg h0]
    have : (-l - 1).toNat = (0 - l - 1).toNat := by congr 1; omega
    rw [this]; omega
theorem wv01 {n : Nat} {f : List Int} (h : FlOk n f) {l : Int} (hl : 1 ≤ l.natAbs ∧ l.natAbs ≤ n) : wv f l = 0 ∨ wv f l = 1 := by
  unfold wv
  split
  · have : (l - 1).toNat < f.length := by rw [h.1]; omega
    have e : f.getD (l - 1).toNat 0 = f[(l - 1).toNat] := by rw [List.getD_eq_getElem?_getD, List.getElem?_eq_getElem this]; rfl
    rw [e]
    exact h.2 _ (List.getElem_mem this)
  · have : (0 - l - 1).toNat < f.length := by rw [h.1]; omega
    have e : f.getD (0 - l - 1).toNat 0 = f[(0 - l - 1).toNat] := by rw [List.getD_eq_getElem?_getD, List.getElem?_eq_getElem this]; rfl
    rw [e]
    rcases h.2 _ (List.getElem_mem this) with z | z <;> rw [z] <;> omega
end My
namespace My
open PySem PySem.Spec L2 VS
theorem cm_nonneg {many : Int} {r : Trm} (h : OkT many r) (f : List Int) : 0 ≤ cm r f := by
  have := fact_ge (r := []) (q := r) (many := many) OkT.nil h f
  have h3 : miss [] r = 0 := rfl
  have h4 : cm [] f = 0 := rfl
  omega
end My
namespace My
open PySem PySem.Spec L2 VS
theorem ix_f (f : List Int) (i : Int) (h0 : 0 ≤ i) (h1 : i < f.length) : gIxA (tupDI f) (.int i) = some (.int (f.getD i.toNat 0)) := by
  have hlt : i.toNat < f.length := by omega
  simp only [tupDI, gIxA, atI, ixN, if_pos h0, List.length_map, if_pos h1, Option.bind_some, List.getElem?_map, List.getElem?_eq_getElem hlt, Option.map_some, List.getD_eq_getElem?_getD, Option.getD_some]
theorem worth_ok {f : List Int} {l : Int} (h : InL f.length l) : G__law_worth [.int l, tupDI f] = .ok (.int (wv f l)) := by
  have hG : G__law_worth [.int l, tupDI f] = endP (retS (ifM (testM (binM gGt (varM 0) (cM (.int 0)))) (binM gIxA (varM 1) (binM VS.gSub (varM 0) (cM (.int 1)))) (binM VS.gSub (cM (.int 1)) (binM gIxA (varM 1) (binM VS.gSub (binM VS.gSub (cM (.int 0)) (varM 0)) (cM (.int 1)))))) (startE 2 [.int l, tupDI f]) S0) := rfl
  have s1 : startE 2 [.int l, tupDI f] = [some (.int l), some (tupDI f)] := rfl
  rw [hG]
  have := h.1
  have := h.2
  by_cases hp : 0 < l
  · have e := ix_f f (l - 1) (by omega) (by omega)
    simp only [s1, retS, ifM, testM, binM, bindM, varM, List.getElem?_cons_zero, List.getElem?_cons_succ, cM, ofO, gII, hp, decide_true, if_true, e, endP, wv]
  · have e := ix_f f (0 - l - 1) (by omega) (by omega)
    simp only [s1, retS, ifM, testM, binM, bindM, varM, List.getElem?_cons_zero, List.getElem?_cons_succ, cM, ofO, gII, hp, decide_false, Bool.false_eq_true, if_false, e, endP, wv]
theorem comes_ok {ts : Trm} {f : List Int} (h : ∀ p ∈ ts, InL f.length p.2) : G__law_comes [.tup (ts.map dPair), tupDI f] = .ok (.int (cm ts f)) := by
  have hG : G__law_comes [.tup (ts.map dPair), tupDI f] = endP (retS (cbM gSum (consA (lcM (setT [2, 3]) (varM 0) (testM (binM gEq (callP G__law_worth [] (consA (varM 3) (consA (varM 1) nilA))) (cM (.int 1)))) (varM 2) [2, 3]) nilA)) (startE 4 [.tup (ts.map dPair), tupDI f]) S0) := rfl
  have s1 : startE 4 [.tup (ts.map dPair), tupDI f] = [some (.tup (ts.map dPair)), some (tupDI f), none, none] := rfl
  have cl := compM_eq (set := setT [2, 3]) (test := testM (binM gEq (callP G__law_worth [] (consA (varM 3) (consA (varM 1) nilA))) (cM (.int 1)))) (elt := varM 2) (env0 := wipeE [some (.tup (ts.map dPair)), some (tupDI f), none, none] [2, 3]) (S := S0)
    (fun d => match d with | .tup [.int _, .int l] => wv f l == 1 | _ => false) (fun d => match d with | .tup [.int w, .int _] => .int w | _ => .non) (ts.map dPair) (fun d hd => by
      obtain ⟨p, hp, rfl⟩ := List.mem_map.mp hd
      refine ⟨[some (.tup (ts.map dPair)), some (tupDI f), some (.int p.1), some (.int p.2)], rfl, ?_, fun _ => rfl⟩
      simp only [testM, binM, bindM, callP, consA, varM, List.getElem?_cons_zero, List.getElem?_cons_succ, nilA, List.append_nil, worth_ok (h p hp), liftP, cM, ofO, gEq_int, dPair])
  have em : (((ts.map dPair).filter fun d => match d with | .tup [.int _, .int l] => wv f l == 1 | _ => false).map fun d => match d with | .tup [.int w, .int _] => .int w | _ => .non) = ((ts.filter fun p => wv f p.2 == 1).map (·.1)).map D.int := by
    rw [List.filter_map, List.map_map, List.map_map]
    rfl
  rw [em] at cl
  have gs := gSum_ints ((ts.filter fun p => wv f p.2 == 1).map (·.1))
  rw [hG]
  simp only [s1, retS, cbM, consA, lcM, varM, List.getElem?_cons_zero, bindM, cl, nilA, gs, ofO, endP]
  rfl
section
variable {r : Trm × Int} {f : List Int}
theorem holds_ok (h : ∀ p ∈ r.1, InL f.length p.2) : G__law_holds [dRow r, tupDI f] = .ok (.bl (decide (r.2 ≤ cm r.1 f))) := by
  have hG : G__law_holds [dRow r, tupDI f] = endP (retS (binM gGe (callP G__law_comes [] (consA (binM gIxA (varM 0) (cM (.int 0))) (consA (varM 1) nilA))) (binM gIxA (varM 0) (cM (.int 1)))) (startE 2 [dRow r, tupDI f]) S0) := rfl
  have s1 : startE 2 [dRow r, tupDI f] = [some (dRow r), some (tupDI f)] := rfl
  have r0 : gIxA (dRow r) (.int 0) = some (.tup (r.1.map dPair)) := rfl
  have r1 : gIxA (dRow r) (.int 1) = some (.int r.2) := rfl
  rw [hG]
  simp only [s1, retS, binM, callP, consA, varM, List.getElem?_cons_zero, List.getElem?_cons_succ, cM, bindM, ofO, r0, nilA, List.append_nil, comes_ok h, liftP, r1, gII, endP]
theorem total_ok : G__law_total [dRow r] = .ok (.int (tot r.1)) := by
  have hG : G__law_total [dRow r] = endP (retS (cbM gSum (consA (lcM (setT [1, 2]) (binM gIxA (varM 0) (cM (.int 0))) (fun _ S => .ok (true, S)) (varM 1) [1, 2]) nilA)) (startE 3 [dRow r]) S0) := rfl
  have s1 : startE 3 [dRow r] = [some (dRow r), none, none] := rfl
  have r0 : gIxA (dRow r) (.int 0) = some (.tup (r.1.map dPair)) := rfl
  have lw := lc_weights (ts := r.1) (S := S0) (env0 := wipeE [some (dRow r), none, none] [1, 2]) (a := 1) (b := 2) rfl (by decide)
  have gs : gSum [.lst ((r.1.map (·.1)).map D.int)] = some (.int (tot r.1)) := gSum_ints _
  rw [hG]
  simp only [s1, retS, cbM, consA, lcM, binM, varM, List.getElem?_cons_zero, cM, bindM, ofO, r0, lw, nilA, gs, endP]
end
def flB : MS := asgS 1 (cbM gSortedA (consA (binM gCat (lcM (setN 3) (varM 1) (fun _ S => .ok (true, S)) (binM gAdd (varM 3) (tupM (consA (cM (.int 0)) nilA))) [3]) (lcM (setN 3) (varM 1) (fun _ S => .ok (true, S)) (binM gAdd (varM 3) (tupM (consA (cM (.int 1)) nilA))) [3])) nilA))
theorem lc_snoc {x2 : Option D} {m : D} {fs : List (List Int)} (b : Int) (hl : ∀ f ∈ fs, f.length ≤ 1000) : lcM (setN 3) (varM 1) (fun _ S => .ok (true, S)) (binM gAdd (varM 3) (tupM (consA (cM (.int b)) nilA))) [3] [some m, some (.lst (fs.map tupDI)), x2, none] S0 = .ok (.lst ((fs.map (· ++ [b])).map tupDI), S0) := by
  have cl := compM_eq (set := setN 3) (test := fun _ S => .ok (true, S)) (elt := binM gAdd (varM 3) (tupM (consA (cM (.int b)) nilA))) (env0 := wipeE [some m, some (.lst (fs.map tupDI)), x2, none] [3]) (S := S0)
    (fun _ => true) (fun d => match d with | .tup ds => .tup (ds ++ [.int b]) | _ => .non) (fs.map tupDI) (fun d hd => by
      obtain ⟨f, hf, rfl⟩ := List.mem_map.mp hd
      refine ⟨[some m, some (.lst (fs.map tupDI)), x2, some (tupDI f)], rfl, rfl, fun _ => ?_⟩
      have e : gAdd (tupDI f) (.tup [.int b]) = some (.tup (f.map D.int ++ [.int b])) := by
        have := hl f hf
        simp only [gAdd, tupDI, List.length_map, List.length_singleton]
        rw [if_pos (by omega)]
      simp only [binM, bindM, varM, List.getElem?_cons_zero, List.getElem?_cons_succ, tupM, consA, cM, nilA, List.length_cons, List.length_nil, Nat.reduceAdd, Nat.reduceLeDiff, if_true, e, ofO]
      rfl)
  have ft : (fs.map tupDI).filter (fun _ => true) = fs.map tupDI := List.filter_eq_self.mpr (by simp)
  rw [ft, List.map_map] at cl
  have em : fs.map ((fun d => match d with | .tup ds => .tup (ds ++ [.int b]) | _ => .non) ∘ tupDI) = (fs.map (· ++ [b])).map tupDI := by
    rw [List.map_map]
    refine List.map_congr_left fun f _ => ?_
    simp [tupDI]
  rw [em] at cl
  simp only [lcM, varM, List.getElem?_cons_zero, List.getElem?_cons_succ, bindM, cl]
def Fls (i : Nat) (fs : List (List Int)) : Prop := (∀ f, f ∈ fs ↔ FlOk i f) ∧ fs.length = 2 ^ i
theorem fls_step {i : Nat} {fs gs : List (List Int)} (h : Fls i fs) (hp : gs.Perm (fs.map (· ++ [0]) ++ fs.map (· ++ [1]))) : Fls (i + 1) gs := by
  refine ⟨fun f => ?_, by rw [hp.length_eq, List.length_append, List.length_map, List.length_map, h.2, Nat.pow_succ]; omega⟩
  rw [hp.mem_iff, List.mem_append, List.mem_map, List.mem_map]
  constructor
  · rintro (⟨g, hg, rfl⟩ | ⟨g, hg, rfl⟩)
    · obtain ⟨h1, h2⟩ := (h.1 g).mp hg
      refine ⟨by rw [List.length_append, h1]; rfl, fun x hx => ?_⟩
      rcases List.mem_append.mp hx with z | z
      · exact h2 x z
      · exact .inl (List.mem_singleton.mp z)
    · obtain ⟨h1, h2⟩ := (h.1 g).mp hg
      refine ⟨by rw [List.length_append, h1]; rfl, fun x hx => ?_⟩
      rcases List.mem_append.mp hx with z | z
      · exact h2 x z
      · exact .inr (List.mem_singleton.mp z)
  · rintro ⟨h1, h2⟩
    have hne : f ≠ [] := fun z => by rw [z] at h1; cases h1
    have e := List.dropLast_concat_getLast hne
    have hd : FlOk i f.dropLast := ⟨by rw [List.length_dropLast, h1]; rfl, fun x hx => h2 x ((List.dropLast_sublist f).subset hx)⟩
    rcases h2 _ (List.getLast_mem hne) with z | z
    · rw [z] at e
      exact .inl ⟨f.dropLast, (h.1 _).mpr hd, e⟩
    · rw [z] at e
      exact .inr ⟨f.dropLast, (h.1 _).mpr hd, e⟩
end My
namespace My
open PySem PySem.Spec L2 VS
section
variable {many : Int} {f : List Int}
theorem gAbs_int (l : Int) : gAbs [.int l] = some (.int (absI l)) := rfl
theorem wor_ok {l : Int} (h : InL f.length l) : G_worth_of [.int l, tupDI f] = .ok (.int (wv f l)) := by
  have hs : startE 3 [.int l, tupDI f] = [some (.int l), some (tupDI f), none] := rfl
  have h1 := h.1
  have h2 := h.2
  have ea := absI_nat l
  have e := ix_f f (absI l - 1) (by omega) (by omega)
  unfold G_worth_of g_worth_of
  by_cases hp : 0 < l
  · have : absI l = l := by omega
    rw [this] at e
    simp only [startE, List.map_cons, List.map_nil, Nat.reduceSub, List.replicate_succ, List.replicate_zero, seqS, ifS, retS, asgS, dropS, nextS, retN, unpS, parS, par3S, parOS, appS, setA, popM, nxSet, nxUnp, appPopM, forS, forR, forE, raiseS, varM, cM, unM, binM, chM, tupM, lstM, nilA, consA, testM, andT, orT, notT, andV, orV, notV, ifM, cbM, callP, callS, bindM, ofO, liftP, endP, endS, get2M, gGet2, VS.keyD, setAll, setN, setT, wipeE, List.getElem?_cons_zero, List.getElem?_cons_succ, List.set_cons_zero, List.set_cons_succ, List.append_nil, List.cons_append, List.nil_append, List.length_cons, List.length_nil, Nat.zero_add, Nat.reduceAdd, Nat.reduceLeDiff, Nat.zero_le, if_true, if_false, Bool.false_eq_true, Bool.not_true, Bool.not_false, gII, gAdd, gEq_int, gNe_int, reduceCtorEq, hs, gAbs_int, this, e, hp, decide_true, wv]
  · have : (absI l - 1).toNat = (0 - l - 1).toNat := by omega
    rw [this] at e
    simp only [startE, List.map_cons, List.map_nil, Nat.reduceSub, List.replicate_succ, List.replicate_zero, seqS, ifS, retS, asgS, dropS, nextS, retN, unpS, parS, par3S, parOS, appS, setA, popM, nxSet, nxUnp, appPopM, forS, forR, forE, raiseS, varM, cM, unM, binM, chM, tupM, lstM, nilA, consA, testM, andT, orT, notT, andV, orV, notV, ifM, cbM, callP, callS, bindM, ofO, liftP, endP, endS, get2M, gGet2, VS.keyD, setAll, setN, setT, wipeE, List.getElem?_cons_zero, List.getElem?_cons_succ, List.set_cons_zero, List.set_cons_succ, List.append_nil, List.cons_append, List.nil_append, List.length_cons, List.length_nil, Nat.zero_add, Nat.reduceAdd, Nat.reduceLeDiff, Nat.zero_le, if_true, if_false, Bool.false_eq_true, Bool.not_true, Bool.not_false, gII, gAdd, gEq_int, gNe_int, reduceCtorEq, hs, gAbs_int, e, hp, decide_false, wv]
theorem sum_at_ok {ts : Trm} (h : ∀ p ∈ ts, InL f.length p.2) : G_sum_at [.tup (ts.map dPair), tupDI f] = .ok (.int (cm ts f)) := by
  have hs : startE 4 [.tup (ts.map dPair), tupDI f] = [some (.tup (ts.map dPair)), some (tupDI f), none, none] := rfl
  have cl := comp_map (set := setT [2, 3]) (test := t_sum_at_1) (elt := varM 2) (env0 := [some (.tup (ts.map dPair)), some (tupDI f), none, none]) (S := S0) dPair (fun p => wv f p.2 == 1) (fun p => D.int p.1) ts fun p hp => by
    refine ⟨[some (.tup (ts.map dPair)), some (tupDI f), some (.int p.1), some (.int p.2)], rfl, ?_, fun _ => rfl⟩
    simp only [startE, List.map_cons, List.map_nil, Nat.reduceSub, List.replicate_succ, List.replicate_zero, seqS, ifS, retS, asgS, dropS, nextS, retN, unpS, parS, par3S, parOS, appS, setA, popM, nxSet, nxUnp, appPopM, forS, forR, forE, raiseS, varM, cM, unM, binM, chM, tupM, lstM, nilA, consA, testM, andT, orT, notT, andV, orV, notV, ifM, cbM, callP, callS, bindM, ofO, liftP, endP, endS, get2M, gGet2, VS.keyD, setAll, setN, setT, wipeE, List.getElem?_cons_zero, List.getElem?_cons_succ, List.set_cons_zero, List.set_cons_succ, List.append_nil, List.cons_append, List.nil_append, List.length_cons, List.length_nil, Nat.zero_add, Nat.reduceAdd, Nat.reduceLeDiff, Nat.zero_le, if_true, if_false, Bool.false_eq_true, Bool.not_true, Bool.not_false, gII, gAdd, gEq_int, gNe_int, reduceCtorEq, t_sum_at_1, wor_ok (h p hp)]
  have gs : gSum [.lst ((ts.filter fun p => wv f p.2 == 1).map fun p => D.int p.1)] = some (.int (cm ts f)) := by
    have := gSum_ints ((ts.filter fun p => wv f p.2 == 1).map (·.1))
    rw [List.map_map] at this
    exact this
  unfold G_sum_at g_sum_at
  simp only [startE, List.map_cons, List.map_nil, Nat.reduceSub, List.replicate_succ, List.replicate_zero, seqS, ifS, retS, asgS, dropS, nextS, retN, unpS, parS, par3S, parOS, appS, setA, popM, nxSet, nxUnp, appPopM, forS, forR, forE, raiseS, varM, cM, unM, binM, chM, tupM, lstM, nilA, consA, testM, andT, orT, notT, andV, orV, notV, ifM, cbM, callP, callS, bindM, ofO, liftP, endP, endS, get2M, gGet2, VS.keyD, setAll, setN, setT, wipeE, List.getElem?_cons_zero, List.getElem?_cons_succ, List.set_cons_zero, List.set_cons_succ, List.append_nil, List.cons_append, List.nil_append, List.length_cons, List.length_nil, Nat.zero_add, Nat.reduceAdd, Nat.reduceLeDiff, Nat.zero_le, if_true, if_false, Bool.false_eq_true, Bool.not_true, Bool.not_false, gII, gAdd, gEq_int, gNe_int, reduceCtorEq, hs, lcM, cl, gs]
theorem holds_at_ok {r : Trm × Int} (h : ∀ p ∈ r.1, InL f.length p.2) : G_holds_at [dRow r, tupDI f] = .ok (.bl (decide (r.2 ≤ cm r.1 f))) := by
  have hs : startE 2 [dRow r, tupDI f] = [some (dRow r), some (tupDI f)] := rfl
  have i0 : gIxA (dRow r) (.int 0) = some (.tup (r.1.map dPair)) := rfl
  have i1 : gIxA (dRow r) (.int 1) = some (.int r.2) := rfl
  unfold G_holds_at g_holds_at
  simp only [startE, List.map_cons, List.map_nil, Nat.reduceSub, List.replicate_succ, List.replicate_zero, seqS, ifS, retS, asgS, dropS, nextS, retN, unpS, parS, par3S, parOS, appS, setA, popM, nxSet, nxUnp, appPopM, forS, forR, forE, raiseS, varM, cM, unM, binM, chM, tupM, lstM, nilA, consA, testM, andT, orT, notT, andV, orV, notV, ifM, cbM, callP, callS, bindM, ofO, liftP, endP, endS, get2M, gGet2, VS.keyD, setAll, setN, setT, wipeE, List.getElem?_cons_zero, List.getElem?_cons_succ, List.set_cons_zero, List.set_cons_succ, List.append_nil, List.cons_append, List.nil_append, List.length_cons, List.length_nil, Nat.zero_add, Nat.reduceAdd, Nat.reduceLeDiff, Nat.zero_le, if_true, if_false, Bool.false_eq_true, Bool.not_true, Bool.not_false, gII, gAdd, gEq_int, gNe_int, reduceCtorEq, hs, i0, i1, sum_at_ok h]
theorem is_filling_ok (hm : 0 ≤ many) (hf : FlOk many.toNat f) : G_is_filling_of [.int many, tupDI f] = .ok (.bl true) := by
  have hs : startE 3 [.int many, .tup (f.map D.int)] = [some (.int many), some (.tup (f.map D.int)), none] := rfl
  have cl := comp_all (set := setN 2) (elt := e_is_filling_of_2) (env0 := [some (.int many), some (.tup (f.map D.int)), none]) (S := S0) D.int (fun _ => D.bl true) f fun x hx => by
    refine ⟨[some (.int many), some (.tup (f.map D.int)), some (.int x)], rfl, ?_⟩
    have : (decide ((0 : Int) ≤ x) && decide (x ≤ 1)) = true := by rcases hf.2 x hx with z | z <;> rw [z] <;> rfl
    simp only [startE, List.map_cons, List.map_nil, Nat.reduceSub, List.replicate_succ, List.replicate_zero, seqS, ifS, retS, asgS, dropS, nextS, retN, unpS, parS, par3S, parOS, appS, setA, popM, nxSet, nxUnp, appPopM, forS, forR, forE, raiseS, varM, cM, unM, binM, chM, tupM, lstM, nilA, consA, testM, andT, orT, notT, andV, orV, notV, ifM, cbM, callP, callS, bindM, ofO, liftP, endP, endS, get2M, gGet2, VS.keyD, setAll, setN, setT, wipeE, List.getElem?_cons_zero, List.getElem?_cons_succ, List.set_cons_zero, List.set_cons_succ, List.append_nil, List.cons_append, List.nil_append, List.length_cons, List.length_nil, Nat.zero_add, Nat.reduceAdd, Nat.reduceLeDiff, Nat.zero_le, if_true, if_false, Bool.false_eq_true, Bool.not_true, Bool.not_false, gII, gAdd, gEq_int, gNe_int, reduceCtorEq, e_is_filling_of_2, btw_int, this]
  have ga : gAll [.lst (f.map fun _ => D.bl true)] = some (.bl true) := by
    have h1 : toBls (f.map fun _ => D.bl true) = some (f.map fun _ => true) := by
      clear cl hs hf
      induction f with
      | nil => rfl
      | cons x f ih => simp [toBls, ih]
    simp [gAll, h1]
  have hl : (((f.map D.int).length : Int) == many) = true := by rw [List.length_map, hf.1]; simp; omega
  have hl2 : ((f.length : Int) == many) = true := by rw [hf.1]; simp; omega
  unfold G_is_filling_of g_is_filling_of t_is_filling_of_1
  simp only [startE, List.map_cons, List.map_nil, Nat.reduceSub, List.replicate_succ, List.replicate_zero, seqS, ifS, retS, asgS, dropS, nextS, retN, unpS, parS, par3S, parOS, appS, setA, popM, nxSet, nxUnp, appPopM, forS, forR, forE, raiseS, varM, cM, unM, binM, chM, tupM, lstM, nilA, consA, testM, andT, orT, notT, andV, orV, notV, ifM, cbM, callP, callS, bindM, ofO, liftP, endP, endS, get2M, gGet2, VS.keyD, setAll, setN, setT, wipeE, List.getElem?_cons_zero, List.getElem?_cons_succ, List.set_cons_zero, List.set_cons_succ, List.append_nil, List.cons_append, List.nil_append, List.length_cons, List.length_nil, Nat.zero_add, Nat.reduceAdd, Nat.reduceLeDiff, Nat.zero_le, if_true, if_false, Bool.false_eq_true, Bool.not_true, Bool.not_false, gII, gAdd, gEq_int, gNe_int, reduceCtorEq, hs, tupDI, gIs, isKb, gLenA, List.length_map, hl2, lcM, cl, ga]
theorem check_filling_ok (hm : 0 ≤ many) (hf : FlOk many.toNat f) : G_check_filling [.int many, tupDI f] = .ok .non := by
  have hs : startE 2 [.int many, tupDI f] = [some (.int many), some (tupDI f)] := rfl
  unfold G_check_filling g_check_filling t_check_filling_1
  simp only [startE, List.map_cons, List.map_nil, Nat.reduceSub, List.replicate_succ, List.replicate_zero, seqS, ifS, retS, asgS, dropS, nextS, retN, unpS, parS, par3S, parOS, appS, setA, popM, nxSet, nxUnp, appPopM, forS, forR, forE, raiseS, varM, cM, unM, binM, chM, tupM, lstM, nilA, consA, testM, andT, orT, notT, andV, orV, notV, ifM, cbM, callP, callS, bindM, ofO, liftP, endP, endS, get2M, gGet2, VS.keyD, setAll, setN, setT, wipeE, List.getElem?_cons_zero, List.getElem?_cons_succ, List.set_cons_zero, List.set_cons_succ, List.append_nil, List.cons_append, List.nil_append, List.length_cons, List.length_nil, Nat.zero_add, Nat.reduceAdd, Nat.reduceLeDiff, Nat.zero_le, if_true, if_false, Bool.false_eq_true, Bool.not_true, Bool.not_false, gII, gAdd, gEq_int, gNe_int, reduceCtorEq, hs, is_filling_ok hm hf]
theorem check_row_ok {r : Trm × Int} (hr : OkR many r) : G_check_row [.int many, dRow r] = .ok .non := by
  rw [row_check (okR_is hr), if_pos rfl]
theorem check_lit_ok {l : Int} (h : litOk many l = true) : G_check_literal [.int many, .int l] = .ok .non := by
  have hs : startE 2 [.int many, .int l] = [some (.int many), some (.int l)] := rfl
  unfold G_check_literal g_check_literal t_check_literal_1
  simp only [startE, List.map_cons, List.map_nil, Nat.reduceSub, List.replicate_succ, List.replicate_zero, seqS, ifS, retS, asgS, dropS, nextS, retN, unpS, parS, par3S, parOS, appS, setA, popM, nxSet, nxUnp, appPopM, forS, forR, forE, raiseS, varM, cM, unM, binM, chM, tupM, lstM, nilA, consA, testM, andT, orT, notT, andV, orV, notV, ifM, cbM, callP, callS, bindM, ofO, liftP, endP, endS, get2M, gGet2, VS.keyD, setAll, setN, setT, wipeE, List.getElem?_cons_zero, List.getElem?_cons_succ, List.set_cons_zero, List.set_cons_succ, List.append_nil, List.cons_append, List.nil_append, List.length_cons, List.length_nil, Nat.zero_add, Nat.reduceAdd, Nat.reduceLeDiff, Nat.zero_le, if_true, if_false, Bool.false_eq_true, Bool.not_true, Bool.not_false, gII, gAdd, gEq_int, gNe_int, reduceCtorEq, hs, lit_int, h]
theorem inL_of {r : Trm × Int} (hr : OkR many r) (hf : FlOk many.toNat f) : ∀ p ∈ r.1, InL f.length p.2 := fun p hp => by rw [hf.1]; exact hr.t.inL p hp
theorem p_holds_ok {r : Trm × Int} (hm : 1 ≤ many) (hm2 : many ≤ 600) (hr : OkR many r) (hf : FlOk many.toNat f) : G_holds [.int many, dRow r, tupDI f] = .ok (.bl (decide (r.2 ≤ cm r.1 f))) := by
  have hs : startE 3 [.int many, dRow r, tupDI f] = [some (.int many), some (dRow r), some (tupDI f)] := rfl
  unfold G_holds g_holds
  simp only [startE, List.map_cons, List.map_nil, Nat.reduceSub, List.replicate_succ, List.replicate_zero, seqS, ifS, retS, asgS, dropS, nextS, retN, unpS, parS, par3S, parOS, appS, setA, popM, nxSet, nxUnp, appPopM, forS, forR, forE, raiseS, varM, cM, unM, binM, chM, tupM, lstM, nilA, consA, testM, andT, orT, notT, andV, orV, notV, ifM, cbM, callP, callS, bindM, ofO, liftP, endP, endS, get2M, gGet2, VS.keyD, setAll, setN, setT, wipeE, List.getElem?_cons_zero, List.getElem?_cons_succ, List.set_cons_zero, List.set_cons_succ, List.append_nil, List.cons_append, List.nil_append, List.length_cons, List.length_nil, Nat.zero_add, Nat.reduceAdd, Nat.reduceLeDiff, Nat.zero_le, if_true, if_false, Bool.false_eq_true, Bool.not_true, Bool.not_false, gII, gAdd, gEq_int, gNe_int, reduceCtorEq, hs, many_good hm hm2, check_row_ok hr, check_filling_ok (by omega) hf, holds_at_ok (inL_of hr hf)]
end
end My
namespace My
open PySem PySem.Spec L2 VS
inductive Im where
  | lit (l : Int) | yes | no
deriving DecidableEq
structure OkW (many : Int) (W : List Im) : Prop where
  len : W.length = many.toNat
  im : ∀ l, Im.lit l ∈ W → 1 ≤ l.natAbs ∧ (l.natAbs : Int) ≤ many
theorem gEq_str {x y : Str} (hx : SeqAt.shaped (.str x) = true) (hy : SeqAt.shaped (.str y) = true) : gEq (.str x) (.str y) = some (.bl (x == y)) := by
  unfold gEq eqD eqD0
  simp only [eqS, toPy, hx, hy, Bool.and_self, if_true, Option.map_some, PyData.eqv]
section
variable {many : Int} {W U : List Im} {f : List Int}
theorem gTuple_lst (ds : List D) : gTuple [.lst ds] = some (.tup ds) := rfl
end
end My
namespace My
open PySem PySem.Spec L2 VS
section
variable {many : Int} {W U : List Im} {f : List Int} {r q : Trm × Int}
theorem cm_sv {ts : Trm} {n : Nat} (hf : FlOk n f) (h : ∀ p ∈ ts, InL n p.2) : cm ts f = sv ts f := by
  rw [cm_sum]
  unfold sv
  congr 1
  apply List.map_congr_left
  intro p hp
  rcases wv01 hf (h p hp) with z | z <;> rw [z] <;> simp
def oppR (r : Trm × Int) : Trm × Int := (r.1.map fun p => (p.1, -p.2), if tot r.1 - r.2 + 1 > 0 then tot r.1 - r.2 + 1 else 0)
theorem oppR_ok (hr : OkR many r) : OkR many (oppR r) := by
  refine ⟨⟨fun p hp => ?_, fun p hp => ?_, ?_⟩, by unfold oppR; simp only; split <;> omega⟩
  · obtain ⟨q, hq, rfl⟩ := List.mem_map.mp hp; exact hr.t.w q hq
  · obtain ⟨q, hq, rfl⟩ := List.mem_map.mp hp; simpa using hr.t.l q hq
  · have : ((oppR r).1.map fun p => p.2.natAbs) = r.1.map fun p => p.2.natAbs := by
      unfold oppR
      rw [List.map_map]
      apply List.map_congr_left
      intro p _
      simp
    rw [this]
    exact hr.t.inc
theorem sv_opp : ∀ {ts : Trm}, (∀ p ∈ ts, p.2 ≠ 0) → sv (ts.map fun p => (p.1, -p.2)) f = tot ts - sv ts f
  | [], _ => by simp [sv, tot]
  | p :: ts, h => by
    have ih := sv_opp (ts := ts) fun q hq => h q (List.mem_cons_of_mem _ hq)
    rw [List.map_cons, sv_cons, sv_cons, ih, wv_neg f (h p List.mem_cons_self), Int.mul_sub, Int.mul_one]
    simp only [tot, List.map_cons, List.sum_cons]
    omega
theorem opp_holds (hr : OkR many r) (hf : FlOk many.toNat f) : (oppR r).2 ≤ cm (oppR r).1 f ↔ ¬ r.2 ≤ cm r.1 f := by
  have h1 := cm_sv hf (oppR_ok hr).t.inL
  have h2 := cm_sv hf hr.t.inL
  have h3 : sv (oppR r).1 f = tot r.1 - sv r.1 f := sv_opp fun p hp => by have := (hr.t.l p hp).1; omega
  have h4 := cm_nonneg (oppR_ok hr).t f
  have e : (oppR r).2 = if tot r.1 - r.2 + 1 > 0 then tot r.1 - r.2 + 1 else 0 := rfl
  rw [e]
  split <;> omega
theorem weight_sum_ok (ts : Trm) : G_weight_sum [.tup (ts.map dPair)] = .ok (.int (tot ts)) := by
  have cl := comp_all (set := setT [1, 2]) (elt := varM 1) (env0 := [some (.tup (ts.map dPair)), none, none]) (S := S0) dPair (fun p => D.int p.1) ts fun p hp => ⟨[some (.tup (ts.map dPair)), some (.int p.1), some (.int p.2)], rfl, rfl⟩
  have gs : gSum [.lst (ts.map fun p => D.int p.1)] = some (.int (tot ts)) := by
    have := gSum_ints (ts.map (·.1))
    rw [List.map_map] at this
    exact this
  unfold G_weight_sum g_weight_sum
  simp only [startE, List.map_cons, List.map_nil, Nat.reduceSub, List.replicate_succ, List.replicate_zero, seqS, ifS, retS, asgS, dropS, nextS, retN, unpS, parS, par3S, parOS, appS, setA, popM, nxSet, nxUnp, appPopM, forS, forR, forE, raiseS, varM, cM, unM, binM, chM, tupM, lstM, nilA, consA, testM, andT, orT, notT, andV, orV, notV, ifM, cbM, callP, callS, bindM, ofO, liftP, endP, endS, get2M, gGet2, VS.keyD, setAll, setN, setT, wipeE, List.getElem?_cons_zero, List.getElem?_cons_succ, List.set_cons_zero, List.set_cons_succ, List.append_nil, List.cons_append, List.nil_append, List.length_cons, List.length_nil, Nat.zero_add, Nat.reduceAdd, Nat.reduceLeDiff, Nat.zero_le, if_true, if_false, Bool.false_eq_true, Bool.not_true, Bool.not_false, gII, gAdd, gEq_int, gNe_int, reduceCtorEq, lcM, cl, gs]
theorem opp_terms_ok (ts : Trm) : G_opposite_terms [.tup (ts.map dPair)] = .ok (.tup ((ts.map fun p => (p.1, -p.2)).map dPair)) := by
  have cl := comp_all (set := setT [1, 2]) (elt := tupM (consA (varM 1) (consA (unM gNeg (varM 2)) nilA))) (env0 := [some (.tup (ts.map dPair)), none, none]) (S := S0) dPair (fun p => dPair (p.1, -p.2)) ts fun p hp => ⟨[some (.tup (ts.map dPair)), some (.int p.1), some (.int p.2)], rfl, rfl⟩
  unfold G_opposite_terms g_opposite_terms
  simp only [startE, List.map_cons, List.map_nil, Nat.reduceSub, List.replicate_succ, List.replicate_zero, seqS, ifS, retS, asgS, dropS, nextS, retN, unpS, parS, par3S, parOS, appS, setA, popM, nxSet, nxUnp, appPopM, forS, forR, forE, raiseS, varM, cM, unM, binM, chM, tupM, lstM, nilA, consA, testM, andT, orT, notT, andV, orV, notV, ifM, cbM, callP, callS, bindM, ofO, liftP, endP, endS, get2M, gGet2, VS.keyD, setAll, setN, setT, wipeE, List.getElem?_cons_zero, List.getElem?_cons_succ, List.set_cons_zero, List.set_cons_succ, List.append_nil, List.cons_append, List.nil_append, List.length_cons, List.length_nil, Nat.zero_add, Nat.reduceAdd, Nat.reduceLeDiff, Nat.zero_le, if_true, if_false, Bool.false_eq_true, Bool.not_true, Bool.not_false, gII, gAdd, gEq_int, gNe_int, reduceCtorEq, lcM, cl, gTuple_lst]
  rw [List.map_map]
  rfl
theorem opp_row_ok : G_opposite_row [dRow r] = .ok (dRow (oppR r)) := by
  unfold G_opposite_row g_opposite_row
  simp only [startE, List.map_cons, List.map_nil, Nat.reduceSub, List.replicate_succ, List.replicate_zero, seqS, ifS, retS, asgS, dropS, nextS, retN, unpS, parS, par3S, parOS, appS, setA, popM, nxSet, nxUnp, appPopM, forS, forR, forE, raiseS, varM, cM, unM, binM, chM, tupM, lstM, nilA, consA, testM, andT, orT, notT, andV, orV, notV, ifM, cbM, callP, callS, bindM, ofO, liftP, endP, endS, get2M, gGet2, VS.keyD, setAll, setN, setT, wipeE, List.getElem?_cons_zero, List.getElem?_cons_succ, List.set_cons_zero, List.set_cons_succ, List.append_nil, List.cons_append, List.nil_append, List.length_cons, List.length_nil, Nat.zero_add, Nat.reduceAdd, Nat.reduceLeDiff, Nat.zero_le, if_true, if_false, Bool.false_eq_true, Bool.not_true, Bool.not_false, gII, gAdd, gEq_int, gNe_int, reduceCtorEq, dRow, opp_terms_ok, weight_sum_ok, max0, oppR]
theorem opposite_ok (hm : 1 ≤ many) (hm2 : many ≤ 600) (hr : OkR many r) : G_opposite [.int many, dRow r] = .ok (dRow (oppR r)) := by
  unfold G_opposite g_opposite
  simp only [startE, List.map_cons, List.map_nil, Nat.reduceSub, List.replicate_succ, List.replicate_zero, seqS, ifS, retS, asgS, dropS, nextS, retN, unpS, parS, par3S, parOS, appS, setA, popM, nxSet, nxUnp, appPopM, forS, forR, forE, raiseS, varM, cM, unM, binM, chM, tupM, lstM, nilA, consA, testM, andT, orT, notT, andV, orV, notV, ifM, cbM, callP, callS, bindM, ofO, liftP, endP, endS, get2M, gGet2, VS.keyD, setAll, setN, setT, wipeE, List.getElem?_cons_zero, List.getElem?_cons_succ, List.set_cons_zero, List.set_cons_succ, List.append_nil, List.cons_append, List.nil_append, List.length_cons, List.length_nil, Nat.zero_add, Nat.reduceAdd, Nat.reduceLeDiff, Nat.zero_le, if_true, if_false, Bool.false_eq_true, Bool.not_true, Bool.not_false, gII, gAdd, gEq_int, gNe_int, reduceCtorEq, many_good hm hm2, check_row_ok hr, opp_row_ok]
end
end My
namespace My
open PySem PySem.Spec L2 VS
structure OkX (many : Int) (E : List Int) : Prop where
  len : E.length = many.toNat
  rg : ∀ l ∈ E, 1 ≤ l.natAbs ∧ (l.natAbs : Int) ≤ many
  nd : (E.map Int.natAbs).Nodup
def litW (E : List Int) : List Im := E.map Im.lit
section
variable {many : Int} {E : List Int}
theorem OkX.w (h : OkX many E) : OkW many (litW E) := ⟨by unfold litW; rw [List.length_map, h.len], fun l hl => by
  obtain ⟨m, hm, e⟩ := List.mem_map.mp hl
  cases e
  exact h.rg _ hm⟩
end
end My
namespace My
open PySem PySem.Spec L2 VS
inductive All2 {α β : Type} (R : α → β → Prop) : List α → List β → Prop where
  | nil : All2 R [] []
  | cons {a : α} {b : β} {as : List α} {bs : List β} : R a b → All2 R as bs → All2 R (a :: as) (b :: bs)
theorem All2.mem {α β : Type} {R : α → β → Prop} {b : β} : ∀ {as : List α} {bs : List β}, All2 R as bs → b ∈ bs → ∃ a ∈ as, R a b
  | _, _, .nil, h => by simp at h
  | _, _, .cons r s, h => by
    rcases List.mem_cons.mp h with z | z
    · subst z; exact ⟨_, List.mem_cons_self, r⟩
    · obtain ⟨a, h1, h2⟩ := s.mem z; exact ⟨a, List.mem_cons_of_mem _ h1, h2⟩
theorem All2.length {α β : Type} {R : α → β → Prop} : ∀ {as : List α} {bs : List β}, All2 R as bs → as.length = bs.length
  | _, _, .nil => rfl
  | _, _, .cons _ s => by rw [List.length_cons, List.length_cons, s.length]
end My
namespace My
open PySem PySem.Spec L2 VS
section
variable {many : Int} {W : List Im} {E : List Int} {S : DS} {d : D} {ds : List D}
theorem all_bls (q : D → Bool) (ds : List D) : gAll [.lst (ds.map fun d => D.bl (q d))] = some (.bl (ds.all q)) := by
  have h1 : ∀ ds : List D, toBls (ds.map fun d => D.bl (q d)) = some (ds.map q) := fun ds => by
    induction ds with
    | nil => rfl
    | cons x f ih => simp [toBls, ih]
  simp only [gAll, h1, Option.map_some]
  congr 2
  induction ds with
  | nil => rfl
  | cons d ds ih => simp_all
end
end My
namespace My
open PySem PySem.Spec L2 VS
section
variable {many : Int} {E : List Int} {S : DS} {c : Bool} {ts : Trm} {r : Trm × Int}
theorem tot_cons (p : Int × Int) (b : Trm) : tot (p :: b) = p.1 + tot b := by simp [tot]
theorem gCat_ok {a b : List D} (h : a.length + b.length ≤ 1000000) : gCat (.lst a) (.lst b) = some (.lst (a ++ b)) := by simp only [gCat, if_pos h]
end
end My
namespace My
open PySem PySem.Spec L2 VS
section
variable {many : Int} {W : List Im} {E : List Int} {S : DS} {d : D} {ds : List D} {k : Nat}
theorem gAdd_tup {a b : List D} (h : a.length + b.length ≤ 1000000) : gAdd (.tup a) (.tup b) = some (.tup (a ++ b)) := by simp only [gAdd, if_pos h]
abbrev repD (n : Nat) (x : D) : List D := (List.replicate n [x]).flatten
theorem rep_mem {n : Nat} {x y : D} : y ∈ repD n x → y = x := fun h => by
  obtain ⟨l, hl, hy⟩ := List.mem_flatten.mp h
  rw [(List.mem_replicate.mp hl).2, List.mem_singleton] at hy
  exact hy
theorem rep_in {n : Nat} {x : D} (h : 0 < n) : x ∈ repD n x := List.mem_flatten.mpr ⟨[x], List.mem_replicate.mpr ⟨by omega, rfl⟩, List.mem_singleton.mpr rfl⟩
theorem mul_one (x : D) (h0 : 0 ≤ many) (h1 : many ≤ 1000) : gMulT (.tup [x]) (.int many) = some (.tup (repD many.toNat x)) := by
  simp only [gMulT]
  rw [if_pos ⟨by simp, by omega, h1⟩]
def bitD : D → Bool
  | .int i => decide (0 ≤ i) && decide (i ≤ 1)
  | _ => false
def isF (many : Int) : D → Bool
  | .tup ds => decide ((ds.length : Int) = many) && ds.all bitD
  | _ => false
def simD : D → Bool
  | .int _ => true
  | .bl _ => true
  | .non => true
  | _ => false
theorem btw_any (h : simD d = true) : G_is_number_between [.int 0, d, .int 1] = .ok (.bl (bitD d)) := by
  cases d with
  | int i => exact btw_int 0 i 1
  | bl b => rfl
  | non => rfl
  | _ => simp [simD] at h
theorem isF_any (h : (∃ ds, d = .tup ds ∧ ∀ x ∈ ds, simD x = true) ∨ gIs .tuple d = some (.bl false)) : G_is_filling_of [.int many, d] = .ok (.bl (isF many d)) := by
  unfold G_is_filling_of g_is_filling_of t_is_filling_of_1
  rcases h with ⟨ds, rfl, hp⟩ | h
  · have h1 : gIs .tuple (.tup ds) = some (.bl true) := rfl
    have h2 : gLenA [.tup ds] = some (.int ds.length) := by simp [gLenA]
    have cl := comp_all (set := setN 2) (elt := e_is_filling_of_2) (env0 := [some (.int many), some (.tup ds), none]) (S := S0) id (fun d => D.bl (bitD d)) ds fun x hx => by
      refine ⟨[some (.int many), some (.tup ds), some x], rfl, ?_⟩
      have := btw_any (hp x hx)
      unfold e_is_filling_of_2
      simp only [startE, List.map_cons, List.map_nil, Nat.reduceSub, List.replicate_succ, List.replicate_zero, seqS, ifS, retS, asgS, dropS, nextS, retN, unpS, parS, par3S, parOS, appS, setA, popM, nxSet, nxUnp, appPopM, forS, forR, forE, raiseS, varM, cM, unM, binM, chM, tupM, lstM, nilA, consA, testM, andT, orT, notT, andV, orV, notV, ifM, cbM, callP, callS, bindM, ofO, liftP, endP, endS, get2M, gGet2, VS.keyD, setAll, setN, setT, wipeE, List.getElem?_cons_zero, List.getElem?_cons_succ, List.set_cons_zero, List.set_cons_succ, List.append_nil, List.cons_append, List.nil_append, List.length_cons, List.length_nil, Nat.zero_add, Nat.reduceAdd, Nat.reduceLeDiff, Nat.zero_le, if_true, if_false, Bool.false_eq_true, Bool.not_true, Bool.not_false, gII, gAdd, gEq_int, gNe_int, reduceCtorEq, this]
    rw [List.map_id] at cl
    have ha := all_bls bitD ds
    by_cases hl : (ds.length : Int) = many
    · have e : ((ds.length : Int) == many) = true := by simpa using hl
      simp only [startE, List.map_cons, List.map_nil, Nat.reduceSub, List.replicate_succ, List.replicate_zero, seqS, ifS, retS, asgS, dropS, nextS, retN, unpS, parS, par3S, parOS, appS, setA, popM, nxSet, nxUnp, appPopM, forS, forR, forE, raiseS, varM, cM, unM, binM, chM, tupM, lstM, nilA, consA, testM, andT, orT, notT, andV, orV, notV, ifM, cbM, callP, callS, bindM, ofO, liftP, endP, endS, get2M, gGet2, VS.keyD, setAll, setN, setT, wipeE, List.getElem?_cons_zero, List.getElem?_cons_succ, List.set_cons_zero, List.set_cons_succ, List.append_nil, List.cons_append, List.nil_append, List.length_cons, List.length_nil, Nat.zero_add, Nat.reduceAdd, Nat.reduceLeDiff, Nat.zero_le, if_true, if_false, Bool.false_eq_true, Bool.not_true, Bool.not_false, gII, gAdd, gEq_int, gNe_int, reduceCtorEq, h1, h2, e, lcM, cl, ha, isF, decide_eq_true hl, Bool.true_and]
    · have e : ((ds.length : Int) == many) = false := by simpa using hl
      simp only [startE, List.map_cons, List.map_nil, Nat.reduceSub, List.replicate_succ, List.replicate_zero, seqS, ifS, retS, asgS, dropS, nextS, retN, unpS, parS, par3S, parOS, appS, setA, popM, nxSet, nxUnp, appPopM, forS, forR, forE, raiseS, varM, cM, unM, binM, chM, tupM, lstM, nilA, consA, testM, andT, orT, notT, andV, orV, notV, ifM, cbM, callP, callS, bindM, ofO, liftP, endP, endS, get2M, gGet2, VS.keyD, setAll, setN, setT, wipeE, List.getElem?_cons_zero, List.getElem?_cons_succ, List.set_cons_zero, List.set_cons_succ, List.append_nil, List.cons_append, List.nil_append, List.length_cons, List.length_nil, Nat.zero_add, Nat.reduceAdd, Nat.reduceLeDiff, Nat.zero_le, if_true, if_false, Bool.false_eq_true, Bool.not_true, Bool.not_false, gII, gAdd, gEq_int, gNe_int, reduceCtorEq, h1, h2, e, isF, decide_eq_false hl, Bool.false_and]
  · have hf : isF many d = false := by cases d <;> first | rfl | (simp [gIs, isKb] at h)
    simp only [startE, List.map_cons, List.map_nil, Nat.reduceSub, List.replicate_succ, List.replicate_zero, seqS, ifS, retS, asgS, dropS, nextS, retN, unpS, parS, par3S, parOS, appS, setA, popM, nxSet, nxUnp, appPopM, forS, forR, forE, raiseS, varM, cM, unM, binM, chM, tupM, lstM, nilA, consA, testM, andT, orT, notT, andV, orV, notV, ifM, cbM, callP, callS, bindM, ofO, liftP, endP, endS, get2M, gGet2, VS.keyD, setAll, setN, setT, wipeE, List.getElem?_cons_zero, List.getElem?_cons_succ, List.set_cons_zero, List.set_cons_succ, List.append_nil, List.cons_append, List.nil_append, List.length_cons, List.length_nil, Nat.zero_add, Nat.reduceAdd, Nat.reduceLeDiff, Nat.zero_le, if_true, if_false, Bool.false_eq_true, Bool.not_true, Bool.not_false, gII, gAdd, gEq_int, gNe_int, reduceCtorEq, h, hf]
theorem isF_len (h : (ds.length : Int) ≠ many) : isF many (.tup ds) = false := by simp [isF, h]
theorem isF_el {x : D} (hx : x ∈ ds) (h : bitD x = false) : isF many (.tup ds) = false := by
  simp only [isF, Bool.and_eq_false_iff]
  exact .inr (List.all_eq_false.mpr ⟨x, hx, by simp [h]⟩)
theorem rep_len {x : D} {n : Nat} : (repD n x).length = n := by simp [repD]
def BadF (many : Int) (d : D) : Prop := G_is_filling_of [.int many, d] = .ok (.bl false)
theorem badF_tup (hp : ∀ x ∈ ds, simD x = true) (h : isF many (.tup ds) = false) : BadF many (.tup ds) := by
  have := isF_any (many := many) (d := .tup ds) (.inl ⟨ds, rfl, hp⟩)
  rw [h] at this
  exact this
theorem badF_no (h : gIs .tuple d = some (.bl false)) : BadF many d := by
  have hf : isF many d = false := by cases d <;> first | rfl | (simp [gIs, isKb] at h)
  have := isF_any (many := many) (.inr h)
  rw [hf] at this
  exact this
theorem badF_rep {x : D} (hm : 1 ≤ many) (hp : simD x = true) (h : bitD x = false) : BadF many (.tup (repD many.toNat x)) := badF_tup (fun y hy => by rw [rep_mem hy]; exact hp) (isF_el (rep_in (by omega)) h)
def bfL (many : Int) : List D := [.non, .int 5, .tup (repD (many + 1).toNat (.int 0)), .tup (repD (many - 1).toNat (.int 1)), .lst (repD many.toNat (.int 0)), .tup ([.int 2] ++ repD (many - 1).toNat (.int 0)), .tup (repD many.toNat (.bl true)), .tup (repD many.toNat .non)]
def bfM (many : Int) : List D := [.dct [] [], .str (repS "0" many), .tup (repD many.toNat (.int (-1))), .tup (repD (many - 1).toNat (.int 0) ++ [.bl false])]
theorem bf_bad (hm : 1 ≤ many) : ∀ d ∈ bfL many ++ bfM many, BadF many d := fun d hd => by
  simp only [bfL, bfM, List.mem_append, List.mem_cons, List.not_mem_nil, or_false] at hd
  rcases hd with (rfl | rfl | rfl | rfl | rfl | rfl | rfl | rfl) | (rfl | rfl | rfl | rfl)
  · exact badF_no rfl
  · exact badF_no rfl
  · exact badF_tup (fun y hy => by rw [rep_mem hy]; rfl) (isF_len (by rw [rep_len]; omega))
  · exact badF_tup (fun y hy => by rw [rep_mem hy]; rfl) (isF_len (by rw [rep_len]; omega))
  · exact badF_no rfl
  · refine badF_tup (fun y hy => ?_) (isF_el (List.mem_append.mpr (.inl (List.mem_singleton.mpr rfl))) rfl)
    rcases List.mem_append.mp hy with hy | hy
    · rw [List.mem_singleton.mp hy]; rfl
    · rw [rep_mem hy]; rfl
  · exact badF_rep hm rfl rfl
  · exact badF_rep hm rfl rfl
  · exact badF_no rfl
  · exact badF_no rfl
  · exact badF_rep hm rfl rfl
  · refine badF_tup (fun y hy => ?_) (isF_el (List.mem_append.mpr (.inr (List.mem_singleton.mpr rfl))) rfl)
    rcases List.mem_append.mp hy with hy | hy
    · rw [rep_mem hy]; rfl
    · rw [List.mem_singleton.mp hy]; rfl
theorem badf_ok (hm : 1 ≤ many) (hm2 : many ≤ 600) (g : Good (1 + k) S) : ∃ d S', G__law_bad_filling [.st, .int many] S = .ok (d, S') ∧ BadF many d ∧ Good k S' := by
  have mo := fun x => mul_one (many := many) x (by omega) (by omega)
  have mp := fun x => mul_one (many := many + 1) x (by omega) (by omega)
  have mn := fun x => mul_one (many := many - 1) x (by omega) (by omega)
  have ml : gMulT (.lst [.int 0]) (.int many) = some (.lst (repD many.toNat (.int 0))) := by
    simp only [gMulT, gMul]
    rw [if_pos ⟨by simp; omega, by omega, by omega⟩]
  have ms : gMulT (.str "0") (.int many) = some (.str (repS "0" many)) := by
    simp only [gMulT]
    rw [if_pos ⟨by decide +kernel, by omega, by omega⟩]
  have a1 := gAdd_tup (a := [.int 2]) (b := repD (many - 1).toNat (.int 0)) (by rw [rep_len]; simp; omega)
  have a2 := gAdd_tup (a := repD (many - 1).toNat (.int 0)) (b := [.bl false]) (by rw [rep_len]; simp; omega)
  have a5 : gAdd (.int many) (.int 1) = some (.int (many + 1)) := rfl
  have cc := gCat_ok (a := bfL many) (b := bfM many) (by show 8 + 4 ≤ _; decide)
  obtain ⟨d, S1, e1, hd, g1⟩ := pick_ok (ds := bfL many ++ bfM many) (k := k) (by show 0 < 8 + 4; decide) (by show 8 + 4 < _; decide) (g.mono (by omega))
  refine ⟨d, S1, ?_, bf_bad hm d hd, g1⟩
  unfold bfL bfM at e1 cc
  simp only [List.cons_append, List.nil_append] at e1 cc a1
  unfold G__law_bad_filling g__law_bad_filling
  simp only [startE, List.map_cons, List.map_nil, Nat.reduceSub, List.replicate_succ, List.replicate_zero, seqS, ifS, retS, asgS, dropS, nextS, retN, unpS, parS, par3S, parOS, appS, setA, popM, nxSet, nxUnp, appPopM, forS, forR, forE, raiseS, varM, cM, unM, binM, chM, tupM, lstM, nilA, consA, testM, andT, orT, notT, andV, orV, notV, ifM, cbM, callP, callS, bindM, ofO, liftP, endP, endS, get2M, gGet2, VS.keyD, setAll, setN, setT, wipeE, List.getElem?_cons_zero, List.getElem?_cons_succ, List.set_cons_zero, List.set_cons_succ, List.append_nil, List.cons_append, List.nil_append, List.length_cons, List.length_nil, Nat.zero_add, Nat.reduceAdd, Nat.reduceLeDiff, Nat.zero_le, if_true, if_false, Bool.false_eq_true, Bool.not_true, Bool.not_false, gII, gEq_int, gNe_int, reduceCtorEq, a5, VS.gSub, mo, mp, mn, ml, ms, a1, a2, gNeg, cc, e1]
end
end My
namespace My
open PySem PySem.Spec L2 VS
def bigI : Int := 10 ^ 40
mutual
def smD : Nat → D → Bool
  | _, .non => true
  | _, .bl _ => true
  | _, .int i => decide (-bigI < i ∧ i < bigI)
  | _, .str x => x.cps.toList.all fun c => decide (c < 16 ^ 8)
  | n + 1, .tup ds => smL n ds
  | n + 1, .lst ds => smL n ds
  | _, _ => false
def smL : Nat → List D → Bool
  | _, [] => true
  | n, d :: ds => smD n d && smL n ds
end
mutual
def bkD : D → Nat
  | .str x => x.cps.size
  | .tup ds => bkL ds
  | .lst ds => bkL ds
  | _ => 0
def bkL : List D → Nat
  | [] => 0
  | d :: ds => bkD d + 1 + bkL ds
end
theorem big_short {i : Int} (h : -bigI < i ∧ i < bigI) : (PyData.shown (.int i)).length ≤ 41 := by
  have hn : i.natAbs < 10 ^ 40 := by
    have e : ((10 : Nat) ^ 40 : Nat) = 10000000000000000000000000000000000000000 := by decide
    have e2 : bigI = 10000000000000000000000000000000000000000 := by decide
    rw [e]
    omega
  have e := int_text_length_le10 (k := 40) (by decide) hn
  show (Str.ofString (toString i)).length ≤ 41
  rw [ofString_length]; exact e
theorem big_log {i : Int} (h : -bigI < i ∧ i < bigI) : i.natAbs.log2 < 1920 := by
  have e2 : bigI = 10000000000000000000000000000000000000000 := by decide
  by_cases h0 : i.natAbs = 0
  · rw [h0]; decide
  · refine (Nat.log2_lt h0).mpr ?_
    exact Nat.lt_of_lt_of_le (m := 10000000000000000000000000000000000000000) (by omega) (by decide +kernel)
mutual
theorem smD_py : ∀ (n : Nat) (d : D), smD n d = true → ∃ p, toPy d = some p ∧ p.showable = true ∧ p.hasDict = false ∧ p.depth ≤ n ∧ p.leavesShort 41 = true ∧ p.bulk = bkD d
  | _, .non, _ => ⟨.none, rfl, rfl, rfl, Nat.zero_le _, rfl, rfl⟩
  | _, .bl b, _ => ⟨.bool b, rfl, rfl, rfl, Nat.zero_le _, rfl, rfl⟩
  | n, .int i, h => by
    have h' : -bigI < i ∧ i < bigI := by cases n <;> simpa [smD] using h
    exact ⟨.int i, rfl, by simp [PyData.showable, big_log h'], rfl, Nat.zero_le _, by simp [PyData.leavesShort, big_short h'], by simp [PyData.bulk, bkD]⟩
  | n, .str x, h => by
    have h' : (x.cps.toList.all fun c => decide (c < 16 ^ 8)) = true := by cases n <;> simpa only [smD] using h
    exact ⟨.str x, rfl, rfl, rfl, Nat.zero_le _, by simpa only [PyData.leavesShort] using h', by simp [PyData.bulk, bkD]⟩
  | n + 1, .tup ds, h => by
    obtain ⟨ps, h1, h2, h3, h4, h5, h6⟩ := smL_py n ds (by simpa [smD] using h)
    exact ⟨.tuple ps, by simp [toPy, h1], by simpa [PyData.showable] using h2, by simpa [PyData.hasDict] using h3, by simp only [PyData.depth]; omega, by simpa [PyData.leavesShort] using h5, by simp [PyData.bulk, bkD, h6]⟩
  | n + 1, .lst ds, h => by
    obtain ⟨ps, h1, h2, h3, h4, h5, h6⟩ := smL_py n ds (by simpa [smD] using h)
    exact ⟨.list ps, by simp [toPy, h1], by simpa [PyData.showable] using h2, by simpa [PyData.hasDict] using h3, by simp only [PyData.depth]; omega, by simpa [PyData.leavesShort] using h5, by simp [PyData.bulk, bkD, h6]⟩
  | 0, .tup _, h => by simp [smD] at h
  | 0, .lst _, h => by simp [smD] at h
  | n, .dct _ _, h => by cases n <;> simp [smD] at h
  | n, .exc _ _ _, h => by cases n <;> simp [smD] at h
  | n, .cls _, h => by cases n <;> simp [smD] at h
  | n, .st, h => by cases n <;> simp [smD] at h
  | n, .opq _, h => by cases n <;> simp [smD] at h
  | n, .scr _, h => by cases n <;> simp [smD] at h
theorem smL_py : ∀ (n : Nat) (ds : List D), smL n ds = true → ∃ ps, toPyL ds = some ps ∧ PyData.showableAll ps = true ∧ PyData.hasDictAll ps = false ∧ PyData.depthAll ps ≤ n ∧ PyData.leavesShortAll 41 ps = true ∧ PyData.bulkAll ps = bkL ds
  | _, [], _ => ⟨[], rfl, rfl, rfl, Nat.zero_le _, rfl, rfl⟩
  | n, d :: ds, h => by
    simp only [smL, Bool.and_eq_true] at h
    obtain ⟨p, h1, h2, h3, h4, h5, h6⟩ := smD_py n d h.1
    obtain ⟨ps, k1, k2, k3, k4, k5, k6⟩ := smL_py n ds h.2
    exact ⟨p :: ps, by simp [toPyL, h1, k1], by simp [PyData.showableAll, h2, k2], by simp [PyData.hasDictAll, h3, k3], by simp only [PyData.depthAll]; omega, by simp [PyData.leavesShortAll, h5, k5], by simp [PyData.bulkAll, bkL, h6, k6]⟩
end
theorem rep_ok {p : PyData} {n : Nat} (h2 : p.showable = true) (h3 : p.hasDict = false) (h4 : p.depth ≤ n) (hn : n ≤ 60) (h5 : p.leavesShort 41 = true) (h6 : p.bulk ≤ 20000) : reprOk p = true := by
  have := PyData.shown_le_bulk 41 (by decide) p h5
  simp only [reprOk, h2, h3, Bool.not_false, Bool.and_true, Bool.true_and, Bool.and_eq_true, decide_eq_true_eq]
  exact ⟨by omega, by omega⟩
theorem repr_lst {n : Nat} {ds : List D} (h : smL n ds = true) (hn : n ≤ 50) (hb : bkL ds ≤ 20000) : ∃ x, gRepr [.lst ds] = some (.str x) := by
  obtain ⟨p, h1, h2, h3, h4, h5, h6⟩ := smD_py (n + 1) (.lst ds) (by simpa [smD] using h)
  refine ⟨p.shown, ?_⟩
  simp only [gRepr, h1, Option.bind_some]
  rw [if_pos (rep_ok h2 h3 h4 (by omega) h5 (by rw [h6]; exact hb))]
theorem gNe_strs (x : Str) : gNe (.str x) (.str x) = some (.bl false) := by
  simp [gNe, eqD, eqS]
theorem smL_all {n : Nat} {ds : List D} (h : ∀ d ∈ ds, smD n d = true) : smL n ds = true := by
  induction ds with
  | nil => simp [smL]
  | cons d ds ih => simp [smL, h d List.mem_cons_self, ih fun e he => h e (List.mem_cons_of_mem _ he)]
theorem smL_map {α : Type} {n : Nat} {f : α → D} {xs : List α} (h : ∀ x ∈ xs, smD n (f x) = true) : smL n (xs.map f) = true := smL_all fun d hd => by
  obtain ⟨x, hx, rfl⟩ := List.mem_map.mp hd
  exact h x hx
theorem bkL_le {c : Nat} : ∀ {ds : List D}, (∀ d ∈ ds, bkD d ≤ c) → bkL ds ≤ ds.length * (c + 1)
  | [], _ => by simp [bkL]
  | d :: ds, h => by
    have h1 := h d List.mem_cons_self
    have h2 := bkL_le (c := c) (ds := ds) fun e he => h e (List.mem_cons_of_mem _ he)
    simp only [bkL, List.length_cons, Nat.succ_mul]
    omega
end My
namespace My
open PySem PySem.Spec L2 VS
section
variable {many : Int} {W : List Im} {E f : List Int} {S : DS} {r : Trm × Int} {s : Trm} {b : Int}
theorem miss_nil (r : Trm) (h : ∀ p ∈ r, 1 ≤ p.1) : miss r [] = tot r := by
  unfold miss tot
  congr 1
  apply List.map_congr_left
  intro p hp
  have := h p hp
  have e : wt [] p.2 = 0 := rfl
  rw [e, if_pos (by omega)]
  omega
theorem all_true (h : OkT many r.1) : ∃ f, FlOk many.toNat f ∧ cm r.1 f = tot r.1 := by
  obtain ⟨f, hf, e⟩ := fact_eq h (OkT.nil (many := many))
  refine ⟨f, hf, ?_⟩
  rw [e, miss_nil r.1 h.w]
  have : cm [] f = 0 := rfl
  omega
theorem mem_tot : ∀ {t : Trm} {p : Int × Int}, (∀ p ∈ t, 1 ≤ p.1) → p ∈ t → p.1 ≤ tot t
  | [], _, _, h => by cases h
  | q :: t, p, hw, h => by
    have ht := tot_nonneg (many := 0) (ts := t) fun x hx => hw x (List.mem_cons_of_mem _ hx)
    have hq := hw q List.mem_cons_self
    rw [tot_cons]
    rcases List.mem_cons.mp h with z | z
    · subst z; omega
    · have := mem_tot (fun x hx => hw x (List.mem_cons_of_mem _ hx)) z
      omega
theorem big_of {i : Int} (h : -1000000 ≤ i ∧ i ≤ 1000000) : -bigI < i ∧ i < bigI := by
  have e : bigI = 10000000000000000000000000000000000000000 := by decide
  omega
theorem sm_fl {n : Nat} (hf : FlOk n f) : smD 1 (tupDI f) = true := by
  simp only [tupDI, smD]
  refine smL_map fun x hx => ?_
  have := hf.2 x hx
  simp only [smD]
  exact decide_eq_true (big_of ⟨by omega, by omega⟩)
theorem sm_row (hm : many ≤ 600) (hr : OkR many r) (ht : tot r.1 ≤ 100000) (hb : r.2 ≤ 100000) : smD 3 (dRow r) = true := by
  have h0 := hr.b
  simp only [dRow, smD, smL, Bool.and_true, Bool.and_eq_true]
  refine ⟨smL_map fun p hp => ?_, decide_eq_true (big_of ⟨by omega, by omega⟩)⟩
  have h1 := mem_tot hr.t.w hp
  have h2 := hr.t.w p hp
  have h3 := hr.t.l p hp
  simp only [dPair, smD, smL, Bool.and_true, Bool.and_eq_true]
  exact ⟨decide_eq_true (big_of ⟨by omega, by omega⟩), decide_eq_true (big_of ⟨by omega, by omega⟩)⟩
end
end My
namespace My
open PySem PySem.Spec L2 VS
def lexF : Nat → List (List Int)
  | 0 => [[]]
  | n + 1 => ((lexF n).map fun f => [f ++ [0], f ++ [1]]).flatten
theorem flat_perm : ∀ l : List (List Int), ((l.map fun f => [f ++ [(0 : Int)], f ++ [1]]).flatten).Perm (l.map (· ++ [0]) ++ l.map (· ++ [1]))
  | [] => .refl _
  | f :: l => by
    simp only [List.map_cons, List.flatten_cons, List.cons_append, List.nil_append]
    refine List.Perm.cons _ (((flat_perm l).cons _).trans ?_)
    exact (List.perm_middle (a := f ++ [1]) (l₁ := l.map (· ++ [0])) (l₂ := l.map (· ++ [1]))).symm
theorem lex_fls : ∀ n, Fls n (lexF n)
  | 0 => ⟨fun f => by simp only [lexF, FlOk, List.mem_singleton, List.length_eq_zero_iff]; exact ⟨fun z => ⟨z, fun x hx => by rw [z] at hx; cases hx⟩, fun z => z.1⟩, rfl⟩
  | n + 1 => fls_step (lex_fls n) (flat_perm _)
theorem lex_ord : ∀ n, n ≤ 6 → (lexF n).Pairwise (fun a b => leI a b = true)
  | 0, _ => by decide +kernel
  | 1, _ => by decide +kernel
  | 2, _ => by decide +kernel
  | 3, _ => by decide +kernel
  | 4, _ => by decide +kernel
  | 5, _ => by decide +kernel
  | 6, _ => by decide +kernel
  | n + 7, h => by omega
theorem lex_sort {j : Nat} (h : j < 6) : ((lexF j).map (· ++ [(0 : Int)]) ++ (lexF j).map (· ++ [1])).mergeSort leI = lexF (j + 1) :=
  List.Perm.eq_of_pairwise (le := fun a b => leI a b = true) (fun a b _ _ x y => leI_anti x y) (List.pairwise_mergeSort (le := leI) (fun a b c => leI_tr) leI_tot _) (lex_ord (j + 1) (by omega)) ((List.mergeSort_perm _ leI).trans (flat_perm _).symm)
theorem fill_lex {many : Int} (hm : 1 ≤ many) (hm2 : many ≤ 6) : G__law_fillings [.int many] = .ok (.lst ((lexF many.toNat).map tupDI)) := by
  let I : Nat → VS.Env → DS → Prop := fun i env S => ∃ (x2 : Option D), env = [some (.int many), some (.lst ((lexF i).map tupDI)), x2, none] ∧ S = S0
  have hlen : (intsD 0 many.toNat).length = many.toNat := by simp [intsD]
  obtain ⟨env', S', h1, x2, rfl, rfl⟩ := loop_inv (set := setN 2) (g := flB) I (intsD 0 many.toNat) 0 [some (.int many), some (.lst [.tup []]), none, none] S0
    ⟨none, rfl, rfl⟩ (fun j d env S hj hI => by
      rw [Nat.zero_add] at hI ⊢
      have hlt : j < many.toNat := by have := (List.getElem?_eq_some_iff.mp hj).1; rwa [hlen] at this
      rw [intsD_at hlt] at hj
      cases hj
      obtain ⟨x2, rfl, rfl⟩ := hI
      have h := lex_fls j
      have ls := lex_sort (j := j) (by omega)
      generalize lexF j = fs at h ls ⊢
      have l0 : ∀ f ∈ fs, f.length ≤ 1000 := fun f hf => by have := ((h.1 f).mp hf).1; omega
      have a0 := lc_snoc (x2 := some (.int (0 + (j : Int)))) (m := .int many) 0 l0
      have a1 := lc_snoc (x2 := some (.int (0 + (j : Int)))) (m := .int many) 1 l0
      have hb : 2 ^ j ≤ 64 := by
        have : j ≤ 6 := by omega
        calc 2 ^ j ≤ 2 ^ 6 := Nat.pow_le_pow_right (by decide) this
          _ = 64 := by decide
      have cat : gCat (.lst ((fs.map (· ++ [(0 : Int)])).map tupDI)) (.lst ((fs.map (· ++ [(1 : Int)])).map tupDI)) = some (.lst ((fs.map (· ++ [0]) ++ fs.map (· ++ [1])).map tupDI)) := by
        simp only [gCat, List.length_map, h.2, List.map_append]
        rw [if_pos (by omega)]
      have hne : ∀ g ∈ fs.map (· ++ [(0 : Int)]) ++ fs.map (· ++ [1]), g ≠ [] := fun g hg => by
        rcases List.mem_append.mp hg with z | z <;> obtain ⟨f, _, rfl⟩ := List.mem_map.mp z <;> simp
      have hpos : fs ≠ [] := fun z => by
        have := h.2
        rw [z] at this
        have := Nat.two_pow_pos j
        simp at *
        omega
      have srt : gSortedA [.lst ((fs.map (· ++ [(0 : Int)]) ++ fs.map (· ++ [1])).map tupDI)] = some (.lst ((lexF (j + 1)).map tupDI)) := by
        have hi : intsOfD ((fs.map (· ++ [(0 : Int)]) ++ fs.map (· ++ [1])).map tupDI) = none := by
          cases fs with
          | nil => exact absurd rfl hpos
          | cons f fs => rfl
        simp only [gSortedA]
        rw [if_pos (by simp only [List.length_map, List.length_append, h.2]; omega), hi, tupsOfD_tups _ hne]
        simp only [Option.map_some, ls]
      refine ⟨_, _, S0, rfl, ?_, some (.int (0 + (j : Int))), rfl, rfl⟩
      simp only [List.set_cons_succ, List.set_cons_zero, flB, asgS, cbM, consA, binM, bindM, a0, a1, ofO, cat, nilA, srt])
  rw [Nat.zero_add, hlen] at h1
  have hG : G__law_fillings [.int many] = endP (seqS (asgS 1 (lstM (consA (tupM nilA) nilA))) (seqS (forR (setN 2) (consA (varM 0) nilA) flB) (retS (varM 1))) (startE 4 [.int many]) S0) := rfl
  have s1 : startE 4 [.int many] = [some (.int many), none, none, none] := rfl
  have hr : rangeOf [.int many] = some (intsD 0 many.toNat) := by
    simp only [rangeOf]
    rw [if_pos (by omega)]
  rw [hG]
  have a1 : asgS 1 (lstM (consA (tupM nilA) nilA)) [some (.int many), none, none, none] S0 = .ok (.nx [some (.int many), some (.lst [.tup []]), none, none], S0) := rfl
  have a2 : forR (setN 2) (consA (varM 0) nilA) flB [some (.int many), some (.lst [.tup []]), none, none] S0 = .ok (.nx [some (.int many), some (.lst ((lexF many.toNat).map tupDI)), x2, none], S0) := by
    have v : consA (varM 0) nilA [some (.int many), some (.lst [.tup []]), none, none] S0 = .ok ([.int many], S0) := rfl
    simp only [forR, v, bindM, hr]
    exact h1
  rw [s1, seq_nx a1, seq_nx a2]
  rfl
section
variable {many : Int} {S : DS} {r : Trm × Int} {f : List Int} {k : Nat}
theorem pfill_lex (hm : 1 ≤ many) (hm2 : many ≤ 6) : G_fillings [.int many] = .ok (.lst ((lexF many.toNat).map tupDI)) := by
  have : many = 1 ∨ many = 2 ∨ many = 3 ∨ many = 4 ∨ many = 5 ∨ many = 6 := by omega
  rcases this with rfl | rfl | rfl | rfl | rfl | rfl <;> kernel_rfl
theorem law_opp_ok : G__law_opposite [dRow r] = .ok (dRow (oppR r)) := by
  have cl := comp_all (set := setT [1, 2]) (elt := e__law_opposite_1) (env0 := [some (dRow r), none, none]) (S := S0) dPair (fun p => dPair (p.1, -p.2)) r.1 fun p hp => by
    refine ⟨[some (dRow r), some (.int p.1), some (.int p.2)], rfl, ?_⟩
    have e : 0 - p.2 = -p.2 := by omega
    unfold e__law_opposite_1
    simp only [startE, List.map_cons, List.map_nil, Nat.reduceSub, List.replicate_succ, List.replicate_zero, seqS, ifS, retS, asgS, dropS, nextS, retN, unpS, parS, par3S, parOS, appS, setA, popM, nxSet, nxUnp, appPopM, forS, forR, forE, raiseS, varM, cM, unM, binM, chM, tupM, lstM, nilA, consA, testM, andT, orT, notT, andV, orV, notV, ifM, cbM, callP, callS, bindM, ofO, liftP, endP, endS, get2M, gGet2, VS.keyD, setAll, setN, setT, wipeE, List.getElem?_cons_zero, List.getElem?_cons_succ, List.set_cons_zero, List.set_cons_succ, List.append_nil, List.cons_append, List.nil_append, List.length_cons, List.length_nil, Nat.zero_add, Nat.reduceAdd, Nat.reduceLeDiff, Nat.zero_le, if_true, if_false, Bool.false_eq_true, Bool.not_true, Bool.not_false, gII, gAdd, gEq_int, gNe_int, reduceCtorEq, VS.gSub, e]
    rfl
  have t : G__law_total [dRow r] = .ok (.int (tot r.1)) := total_ok
  have r0 : gIxA (dRow r) (.int 0) = some (.tup (r.1.map dPair)) := rfl
  have r1 : gIxA (dRow r) (.int 1) = some (.int r.2) := rfl
  have mx : gMax [.int 0, .int (tot r.1 - r.2 + 1)] = some (.int (oppR r).2) := max0 _
  unfold G__law_opposite g__law_opposite
  simp only [startE, List.map_cons, List.map_nil, Nat.reduceSub, List.replicate_succ, List.replicate_zero, seqS, ifS, retS, asgS, dropS, nextS, retN, unpS, parS, par3S, parOS, appS, setA, popM, nxSet, nxUnp, appPopM, forS, forR, forE, raiseS, varM, cM, unM, binM, chM, tupM, lstM, nilA, consA, testM, andT, orT, notT, andV, orV, notV, ifM, cbM, callP, callS, bindM, ofO, liftP, endP, endS, get2M, gGet2, VS.keyD, setAll, setN, setT, wipeE, List.getElem?_cons_zero, List.getElem?_cons_succ, List.set_cons_zero, List.set_cons_succ, List.append_nil, List.cons_append, List.nil_append, List.length_cons, List.length_nil, Nat.zero_add, Nat.reduceAdd, Nat.reduceLeDiff, Nat.zero_le, if_true, if_false, Bool.false_eq_true, Bool.not_true, Bool.not_false, gII, gAdd, gEq_int, gNe_int, reduceCtorEq, r0, r1, lcM, cl, gTuple_lst, t, VS.gSub, mx]
  simp [dRow, oppR, Function.comp_def, dPair]
theorem total_p (hm : 1 ≤ many) (hm2 : many ≤ 600) (hr : OkR many r) : G_total [.int many, dRow r] = .ok (.int (tot r.1)) := by
  have r0 : gIxA (dRow r) (.int 0) = some (.tup (r.1.map dPair)) := rfl
  unfold G_total g_total
  simp only [startE, List.map_cons, List.map_nil, Nat.reduceSub, List.replicate_succ, List.replicate_zero, seqS, ifS, retS, asgS, dropS, nextS, retN, unpS, parS, par3S, parOS, appS, setA, popM, nxSet, nxUnp, appPopM, forS, forR, forE, raiseS, varM, cM, unM, binM, chM, tupM, lstM, nilA, consA, testM, andT, orT, notT, andV, orV, notV, ifM, cbM, callP, callS, bindM, ofO, liftP, endP, endS, get2M, gGet2, VS.keyD, setAll, setN, setT, wipeE, List.getElem?_cons_zero, List.getElem?_cons_succ, List.set_cons_zero, List.set_cons_succ, List.append_nil, List.cons_append, List.nil_append, List.length_cons, List.length_nil, Nat.zero_add, Nat.reduceAdd, Nat.reduceLeDiff, Nat.zero_le, if_true, if_false, Bool.false_eq_true, Bool.not_true, Bool.not_false, gII, gAdd, gEq_int, gNe_int, reduceCtorEq, many_good hm hm2, check_row_ok hr, r0, weight_sum_ok]
theorem imp_p (hm : 1 ≤ many) (hm2 : many ≤ 600) (hr : OkR many r) : G_is_impossible [.int many, dRow r] = .ok (.bl (decide (tot r.1 < r.2))) := by
  have r0 : gIxA (dRow r) (.int 0) = some (.tup (r.1.map dPair)) := rfl
  have r1 : gIxA (dRow r) (.int 1) = some (.int r.2) := rfl
  unfold G_is_impossible g_is_impossible G_bound_is_above g_bound_is_above
  simp only [startE, List.map_cons, List.map_nil, Nat.reduceSub, List.replicate_succ, List.replicate_zero, seqS, ifS, retS, asgS, dropS, nextS, retN, unpS, parS, par3S, parOS, appS, setA, popM, nxSet, nxUnp, appPopM, forS, forR, forE, raiseS, varM, cM, unM, binM, chM, tupM, lstM, nilA, consA, testM, andT, orT, notT, andV, orV, notV, ifM, cbM, callP, callS, bindM, ofO, liftP, endP, endS, get2M, gGet2, VS.keyD, setAll, setN, setT, wipeE, List.getElem?_cons_zero, List.getElem?_cons_succ, List.set_cons_zero, List.set_cons_succ, List.append_nil, List.cons_append, List.nil_append, List.length_cons, List.length_nil, Nat.zero_add, Nat.reduceAdd, Nat.reduceLeDiff, Nat.zero_le, if_true, if_false, Bool.false_eq_true, Bool.not_true, Bool.not_false, gII, gAdd, gEq_int, gNe_int, reduceCtorEq, many_good hm hm2, check_row_ok hr, r0, r1, weight_sum_ok]
theorem opp_opp (hr : OkR many r) (h : r.2 ≤ tot r.1 + 1) : oppR (oppR r) = r := by
  have t : tot (oppR r).1 = tot r.1 := by
    have : ∀ t : Trm, tot (t.map fun p => (p.1, -p.2)) = tot t := fun t => by simp [tot, Function.comp_def]
    exact this r.1
  have e1 : (oppR r).2 = tot r.1 - r.2 + 1 := by
    show (if _ > 0 then _ else (0 : Int)) = _
    split <;> omega
  have hb := hr.b
  obtain ⟨ts, b⟩ := r
  refine Prod.ext ?_ ?_
  · show ((ts.map fun p => (p.1, -p.2)).map fun p => (p.1, -p.2)) = ts
    rw [List.map_map]
    have : ∀ p ∈ ts, ((fun p : Int × Int => (p.1, -p.2)) ∘ fun p => (p.1, -p.2)) p = p := fun p _ => by simp
    rw [List.map_congr_left this]
    exact List.map_id _
  · show (if tot (oppR (ts, b)).1 - (oppR (ts, b)).2 + 1 > 0 then tot (oppR (ts, b)).1 - (oppR (ts, b)).2 + 1 else 0) = b
    rw [t, e1]
    have hb : 0 ≤ b := hb
    have h : b ≤ tot ts + 1 := h
    show (if tot ts - (tot ts - b + 1) + 1 > 0 then tot ts - (tot ts - b + 1) + 1 else 0) = b
    split <;> omega
theorem cm_le (h : OkT many r.1) (f : List Int) : cm r.1 f ≤ tot r.1 := by
  have := fact_ge h OkT.nil f
  rw [miss_nil r.1 h.w] at this
  have e : cm [] f = 0 := rfl
  omega
end
end My
namespace My
open PySem PySem.Spec L2 VS
section
variable {many : Int} {E : List Int} {S : DS} {c : Bool} {ts : Trm} {r q : Trm × Int} {v m : Int} {st : List (Trm × Int)}
def weakR (v : Int) (r : Trm × Int) : Trm × Int := (r.1.filter fun p => !(absI p.2 == v), if r.2 - tot (r.1.filter fun p => absI p.2 == v) > 0 then r.2 - tot (r.1.filter fun p => absI p.2 == v) else 0)
def capR (r : Trm × Int) : Trm × Int := if r.2 > 0 then (r.1.map fun p => (if r.2 < p.1 then r.2 else p.1, p.2), r.2) else ([], 0)
def divR (m : Int) (r : Trm × Int) : Trm × Int := (r.1.map fun p => ((p.1 + m - 1) / m, p.2), (r.2 + m - 1) / m)
theorem str_q {x y : Str} {b : Bool} (hx : SeqAt.shaped (.str x) = true) (hy : SeqAt.shaped (.str y) = true) (h : (x == y) = b) : gEq (.str x) (.str y) = some (.bl b) := h ▸ gEq_str hx hy
end
end My
namespace My
open PySem PySem.Spec L2 VS
section
variable {many : Int} {E : List Int} {S : DS} {c : Bool} {ts : Trm} {r q : Trm × Int} {v m : Int} {nm : D}
def Dst (t : Trm) : Prop := (t.map fun p => absI p.2).Nodup
theorem Dst.filter {t : Trm} (h : Dst t) (k : Int × Int → Bool) : Dst (t.filter k) := List.Nodup.sublist (List.Sublist.map _ List.filter_sublist) h
end
end My
namespace My
open PySem PySem.Spec PyProof.Rows L2 VS
def g__quotient : MS := (retS (unM gNeg (binM gDivW (unM gNeg (varM 0)) (varM 1))))
def G__quotient (ds : List D) : RP := endP (g__quotient (startE 2 ds) S0)
end My
namespace My
open PySem PySem.Spec PyProof.Rows L2 VS
def e_divided_row_1 : ME := (tupM (consA (callP G__quotient [] (consA (varM 4) (consA (varM 1) nilA))) (consA (varM 5) nilA)))
def g_divided_row : MS := (seqS (unpS [2, 3] (varM 0)) (retS (tupM (consA (cbM gTuple (consA (lcM (setT [4, 5]) (varM 2) (fun _ S => .ok (true, S)) e_divided_row_1 [4, 5]) nilA)) (consA (callP G__quotient [] (consA (varM 3) (consA (varM 1) nilA))) nilA)))))
def G_divided_row (ds : List D) : RP := endP (g_divided_row (startE 6 ds) S0)
end My
namespace My
open PySem PySem.Spec L2 VS
section
variable {many : Int} {p d b t : D} {ts : Trm} {S : DS} {r : Trm × Int} {k : Nat}
def oddL : List D := [.non, .bl true, .bl false, .str "0", .str "", .lst [], .dct [] [], .tup [.non], .tup [.str "a", .int 1], .lst [.lst [.int 0]], .dct [.inl 0] [.int 0], .tup [.bl true], .tup [.tup []]]
theorem oddK_ok (g : Good (k + 1) S) : ∃ d S', G__law_odd [.st] S = .ok (d, S') ∧ d ∈ oddL ∧ Good k S' := by
  obtain ⟨d, S', e, hd, g'⟩ := pick_ok (ds := oddL) (k := k) (by decide) (by decide) g
  refine ⟨d, S', ?_, hd, g'⟩
  have s1 : startE 1 [.st] = [some .st] := rfl
  have l : ∀ env S, (lstM (consA (cM .non) (consA (cM (.bl true)) (consA (cM (.bl false)) (consA (cM (.str "0")) (consA (cM (.str "")) (consA (lstM nilA) (consA (cM (.dct [] [])) (consA (tupM (consA (cM .non) nilA)) (consA (tupM (consA (cM (.str "a")) (consA (cM (.int 1)) nilA))) (consA (lstM (consA (lstM (consA (cM (.int 0)) nilA)) nilA)) (consA (cM (.dct [.inl 0] [.int 0])) (consA (tupM (consA (cM (.bl true)) nilA)) (consA (tupM (consA (tupM nilA) nilA)) nilA)))))))))))))) env S = .ok (.lst oddL, S) := fun _ _ => rfl
  unfold G__law_odd g__law_odd
  generalize hX : (lstM (consA (cM .non) (consA (cM (.bl true)) (consA (cM (.bl false)) (consA (cM (.str "0")) (consA (cM (.str "")) (consA (lstM nilA) (consA (cM (.dct [] [])) (consA (tupM (consA (cM .non) nilA)) (consA (tupM (consA (cM (.str "a")) (consA (cM (.int 1)) nilA))) (consA (lstM (consA (lstM (consA (cM (.int 0)) nilA)) nilA)) (consA (cM (.dct [.inl 0] [.int 0])) (consA (tupM (consA (cM (.bl true)) nilA)) (consA (tupM (consA (tupM nilA) nilA)) nilA)))))))))))))) = X at l ⊢
  simp only [startE, List.map_cons, List.map_nil, Nat.reduceSub, List.replicate_succ, List.replicate_zero, seqS, ifS, retS, asgS, dropS, nextS, retN, unpS, parS, par3S, parOS, appS, setA, popM, nxSet, nxUnp, appPopM, forS, forR, forE, raiseS, varM, cM, unM, binM, chM, tupM, lstM, nilA, consA, testM, andT, orT, notT, andV, orV, notV, ifM, cbM, callP, callS, bindM, ofO, liftP, endP, endS, get2M, gGet2, VS.keyD, setAll, setN, setT, wipeE, List.getElem?_cons_zero, List.getElem?_cons_succ, List.set_cons_zero, List.set_cons_succ, List.append_nil, List.cons_append, List.nil_append, List.length_cons, List.length_nil, Nat.zero_add, Nat.reduceAdd, Nat.reduceLeDiff, Nat.zero_le, if_true, if_false, Bool.false_eq_true, Bool.not_true, Bool.not_false, gII, gAdd, gEq_int, gNe_int, reduceCtorEq, s1, l, e]
end
end My
namespace My
open PySem PySem.Spec L2 VS
section
variable {many : Int} {E : List Int} {S : DS} {c : Bool} {ts : Trm} {r q : Trm × Int} {m l : Int} {k : Nat}
theorem sm_int {n : Nat} {i : Int} (h : -bigI < i ∧ i < bigI) : smD n (.int i) = true := by cases n <;> simpa [smD] using h
theorem bk_row (h : r.1.length ≤ 600) : bkD (dRow r) ≤ 2000 := by
  have h1 := bkL_le (c := 2) (ds := r.1.map dPair) fun d hd => by
    obtain ⟨p, _, rfl⟩ := List.mem_map.mp hd
    simp [dPair, bkD, bkL]
  rw [List.length_map] at h1
  simp only [dRow, bkD, bkL]
  omega
end
end My
namespace My
open PySem PySem.Spec PyProof.Rows L2 VS
def t__is_instruction_1 : MT := (orT (notT (testM (unM (gIs .tuple) (varM 2)))) (testM (binM gEq (cbM gLenA (consA (varM 2) nilA)) (cM (.int 0)))))
def t__is_instruction_2 : MT := (testM (binM gInX (varM 3) (tupM (consA (cM (.str "sum")) (consA (cM (.str "capped")) nilA)))))
def b__is_instruction_3 : MS := (retS (binM gEq (cbM gLenA (consA (varM 2) nilA)) (cM (.int 1))))
def t__is_instruction_4 : MT := (orT (testM (binM gNe (cbM gLenA (consA (varM 2) nilA)) (cM (.int 2)))) (notT (testM (callP G_is_number [] (consA (binM gIxA (varM 2) (cM (.int 1))) nilA)))))
def b__is_instruction_5 : MS := (retS (callP G_is_literal_of [] (consA (varM 0) (consA (varM 4) nilA))))
def t__is_instruction_6 : MT := (testM (binM gInX (varM 3) (tupM (consA (cM (.str "times")) (consA (cM (.str "divided")) nilA)))))
def g__is_instruction : MS := (seqS (ifS t__is_instruction_1 (retS (cM (.bl false))) nextS) (seqS (asgS 3 (binM gIxA (varM 2) (cM (.int 0)))) (seqS (ifS t__is_instruction_2 b__is_instruction_3 nextS) (seqS (ifS t__is_instruction_4 (retS (cM (.bl false))) nextS) (seqS (asgS 4 (binM gIxA (varM 2) (cM (.int 1)))) (seqS (ifS (testM (binM gEq (varM 3) (cM (.str "row")))) (retS (binM gInX (varM 4) (varM 1))) nextS) (seqS (ifS (testM (binM gEq (varM 3) (cM (.str "literal")))) b__is_instruction_5 nextS) (seqS (ifS t__is_instruction_6 (retS (binM gGe (varM 4) (cM (.int 1)))) nextS) (retS (andV (binM gEq (varM 3) (cM (.str "weakened"))) (callP G_is_number_between [] (consA (cM (.int 1)) (consA (varM 4) (consA (varM 0) nilA))))))))))))))
def G__is_instruction (ds : List D) : RP := endP (g__is_instruction (startE 5 ds) S0)
end My
namespace My
open PySem PySem.Spec PyProof.Rows L2 VS
def e__is_narrow_1 : ME := (binM gLt (varM 3) (binM gPow (cM (.int 10)) (cM (.int 40))))
def g__is_narrow : MS := (seqS (unpS [1, 2] (varM 0)) (retS (andV (binM gLt (varM 2) (binM gPow (cM (.int 10)) (cM (.int 40)))) (cbM gAll (consA (lcM (setT [3, 4]) (varM 1) (fun _ S => .ok (true, S)) e__is_narrow_1 [3, 4]) nilA)))))
def G__is_narrow (ds : List D) : RP := endP (g__is_narrow (startE 5 ds) S0)
end My
namespace My
open PySem PySem.Spec PyProof.Rows L2 VS
def e__multiplied_v2_1 : ME := (tupM (consA (binM gMulB (varM 4) (varM 1)) (consA (varM 5) nilA)))
def g__multiplied_v2 : MS := (seqS (unpS [2, 3] (varM 0)) (retS (tupM (consA (cbM gTuple (consA (lcM (setT [4, 5]) (varM 2) (fun _ S => .ok (true, S)) e__multiplied_v2_1 [4, 5]) nilA)) (consA (binM gMulB (varM 3) (varM 1)) nilA)))))
def G__multiplied_v2 (ds : List D) : RP := endP (g__multiplied_v2 (startE 6 ds) S0)
end My
namespace My
open PySem PySem.Spec PyProof.Rows L2 VS
def g__summed : MS := (retS (callP G_normal_row [] (consA (binM gAdd (binM gIxA (varM 0) (cM (.int 0))) (binM gIxA (varM 1) (cM (.int 0)))) (consA (binM gAdd (binM gIxA (varM 0) (cM (.int 1))) (binM gIxA (varM 1) (cM (.int 1)))) nilA))))
def G__summed (ds : List D) : RP := endP (g__summed (startE 2 ds) S0)
end My
namespace My
open PySem PySem.Spec PyProof.Rows L2 VS
def t__weakened_1 : MT := (testM (binM gEq (cbM gAbs (consA (binM gIxA (varM 5) (cM (.int 1))) nilA)) (varM 1)))
def b__weakened_2 : MS := (retS (tupM (consA (binM gAdd (slM (varM 2) noPart (somePart (varM 4))) (slM (varM 2) (somePart (binM gAdd (varM 4) (cM (.int 1)))) noPart)) (consA (cbM gMax (consA (cM (.int 0)) (consA (binM gSub (varM 3) (binM gIxA (varM 5) (cM (.int 0)))) nilA))) nilA))))
def g__weakened : MS := (seqS (unpS [2, 3] (varM 0)) (seqS (forE (setT [4, 5]) (varM 2) (ifS t__weakened_1 b__weakened_2 nextS)) (retS (varM 0))))
def G__weakened (ds : List D) : RP := endP (g__weakened (startE 6 ds) S0)
end My
namespace My
open PySem PySem.Spec PyProof.Rows L2 VS
def e_capped_row_1 : ME := (tupM (consA (cbM gMin (consA (varM 3) (consA (varM 2) nilA))) (consA (varM 4) nilA)))
def g_capped_row : MS := (seqS (unpS [1, 2] (varM 0)) (seqS (ifS (testM (binM gEq (varM 2) (cM (.int 0)))) (retS (tupM (consA (tupM nilA) (consA (cM (.int 0)) nilA)))) nextS) (retS (tupM (consA (cbM gTuple (consA (lcM (setT [3, 4]) (varM 1) (fun _ S => .ok (true, S)) e_capped_row_1 [3, 4]) nilA)) (consA (varM 2) nilA))))))
def G_capped_row (ds : List D) : RP := endP (g_capped_row (startE 5 ds) S0)
end My
namespace My
open PySem PySem.Spec PyProof.Rows L2 VS
def b__row_put_v2_1 : MS := (retS (binM gIxA (varM 0) (binM gIxA (varM 2) (cM (.int 1)))))
def b__row_put_v2_2 : MS := (retS (tupM (consA (tupM (consA (tupM (consA (cM (.int 1)) (consA (binM gIxA (varM 2) (cM (.int 1))) nilA))) nilA)) (consA (cM (.int 0)) nilA))))
def b__row_put_v2_3 : MS := (retS (callP G__summed [] (consA (binM gIxA (varM 1) (unM gNeg (cM (.int 2)))) (consA (binM gIxA (varM 1) (unM gNeg (cM (.int 1)))) nilA))))
def b__row_put_v2_4 : MS := (retS (callP G__multiplied_v2 [] (consA (binM gIxA (varM 1) (unM gNeg (cM (.int 1)))) (consA (binM gIxA (varM 2) (cM (.int 1))) nilA))))
def b__row_put_v2_5 : MS := (retS (callP G_divided_row [] (consA (binM gIxA (varM 1) (unM gNeg (cM (.int 1)))) (consA (binM gIxA (varM 2) (cM (.int 1))) nilA))))
def b__row_put_v2_6 : MS := (retS (callP G_capped_row [] (consA (binM gIxA (varM 1) (unM gNeg (cM (.int 1)))) nilA)))
def g__row_put_v2 : MS := (seqS (asgS 3 (binM gIxA (varM 2) (cM (.int 0)))) (seqS (ifS (testM (binM gEq (varM 3) (cM (.str "row")))) b__row_put_v2_1 nextS) (seqS (ifS (testM (binM gEq (varM 3) (cM (.str "literal")))) b__row_put_v2_2 nextS) (seqS (ifS (testM (binM gEq (varM 3) (cM (.str "sum")))) b__row_put_v2_3 nextS) (seqS (ifS (testM (binM gEq (varM 3) (cM (.str "times")))) b__row_put_v2_4 nextS) (seqS (ifS (testM (binM gEq (varM 3) (cM (.str "divided")))) b__row_put_v2_5 nextS) (seqS (ifS (testM (binM gEq (varM 3) (cM (.str "capped")))) b__row_put_v2_6 nextS) (retS (callP G__weakened [] (consA (binM gIxA (varM 1) (unM gNeg (cM (.int 1)))) (consA (binM gIxA (varM 2) (cM (.int 1))) nilA)))))))))))
def G__row_put_v2 (ds : List D) : RP := endP (g__row_put_v2 (startE 4 ds) S0)
end My
namespace My
open PySem PySem.Spec PyProof.Rows L2 VS
def g__is_done_v2 : MS := (ifMr 2 (notT (testM (callP G__is_instruction [] (consA (varM 0) (consA (varM 1) (consA (varM 3) nilA)))))) (cM (.bl false)) (asgM 4 (binM gSub (cbM gLenA (consA (varM 2) nilA)) (kdM [("row", 0), ("literal", 0), ("sum", 2), ("times", 1), ("divided", 1), ("capped", 1), ("weakened", 1)] (binM gIxA (varM 3) (cM (.int 0))))) (ifMr 2 (testM (binM gLt (varM 4) (cM (.int 0)))) (cM (.bl false)) (asgM 5 (callP G__row_put_v2 [] (consA (varM 1) (consA (varM 2) (consA (varM 3) nilA)))) (ifMr 2 (andT (testM (binM gInX (binM gIxA (varM 3) (cM (.int 0))) (tupM (consA (cM (.str "row")) (consA (cM (.str "sum")) (consA (cM (.str "times")) nilA)))))) (notT (testM (callP G__is_narrow [] (consA (varM 5) nilA))))) (cM (.bl false)) (delM 2 (varM 4) (appM 2 (varM 5) (retM 2 (cM (.bl true))))))))))
def G__is_done_v2 (ds : List D) : RP := endM (g__is_done_v2 (startE 6 ds) S0)
end My
namespace My
open PySem PySem.Spec L2 VS
abbrev Row := Trm × Int
inductive Ins where
  | row (n : Int) | lit (l : Int) | sum | times (k : Int) | div (k : Int) | cap | weak (v : Int)
def mulR (k : Int) (r : Row) : Row := (r.1.map fun p => (p.1 * k, p.2), r.2 * k)
def sumR (a b : Row) : Row := normal (a.1 ++ b.1) (a.2 + b.2)
end My
namespace My
open PySem PySem.Spec L2 VS
section
variable {many : Int} {S : DS} {r q : Row} {m v k : Int} {st : List Row} {rows : List Row}
inductive Step (many : Int) (L : Int → Option Row) : List Row → Ins → List Row → Prop where
  | row {n : Int} {r : Row} {st : List Row} : L n = some r → Step many L st (.row n) (st ++ [r])
  | lit {l : Int} {st : List Row} : 1 ≤ l.natAbs → (l.natAbs : Int) ≤ many → Step many L st (.lit l) (st ++ [([(1, l)], 0)])
  | sum {a b : Row} {st : List Row} : Step many L (st ++ [a, b]) .sum (st ++ [sumR a b])
  | times {a : Row} {k : Int} {st : List Row} : 1 ≤ k → k ≤ 7 → Step many L (st ++ [a]) (.times k) (st ++ [mulR k a])
  | div {a : Row} {k : Int} {st : List Row} : 1 ≤ k → k ≤ 7 → Step many L (st ++ [a]) (.div k) (st ++ [divR k a])
  | cap {a : Row} {st : List Row} : Step many L (st ++ [a]) .cap (st ++ [capR a])
  | weak {a : Row} {v : Int} {st : List Row} : 1 ≤ v → v ≤ many → Step many L (st ++ [a]) (.weak v) (st ++ [weakR v a])
end
end My
namespace My
open PySem PySem.Spec L2 VS
section
variable {many : Int} {S : DS} {r q a : Row} {m v k : Int} {st st' : List Row} {i : Ins} {L : Int → Option Row} {R : D}
theorem z10 : ((1 : Int) == 0) = false := rfl
theorem z11 : ((1 : Int) == 1) = true := rfl
theorem q1 : gEq (.str "row") (.str "row") = some (.bl true) := str_q (by decide +kernel) (by decide +kernel) (by decide +kernel)
end
end My
namespace My
open PySem PySem.Spec L2 VS
inductive Runs (many : Int) (L : Int → Option Row) : List Row → List Ins → List Row → Prop where
  | nil (st : List Row) : Runs many L st [] st
  | cons {i : Ins} {st st' st'' : List Row} {is : List Ins} : Step many L st i st' → Runs many L st' is st'' → Runs many L st (i :: is) st''
section
variable {many C : Int} {S : DS} {r q a e : Row} {st st' st'' base : List Row} {L L' : Int → Option Row} {R : D} {i : Ins} {is js : List Ins} {f : List Int}
theorem Runs.one (h : Step many L st i st') : Runs many L st [i] st' := .cons h (.nil _)
theorem Step.frame (h : Step many L st i st') (base : List Row) : Step many L (base ++ st) i (base ++ st') := by
  cases h with
  | row h => rw [← List.append_assoc]; exact .row h
  | lit h1 h2 => rw [← List.append_assoc]; exact .lit h1 h2
  | sum => rw [← List.append_assoc, ← List.append_assoc]; exact .sum
  | times h1 h2 => rw [← List.append_assoc, ← List.append_assoc]; exact .times h1 h2
  | div h1 h2 => rw [← List.append_assoc, ← List.append_assoc]; exact .div h1 h2
  | cap => rw [← List.append_assoc, ← List.append_assoc]; exact .cap
  | weak h1 h2 => rw [← List.append_assoc, ← List.append_assoc]; exact .weak h1 h2
theorem Runs.frame (h : Runs many L st is st') (base : List Row) : Runs many L (base ++ st) is (base ++ st') := by
  induction h with
  | nil st => exact .nil _
  | cons s _ ih => exact .cons (s.frame base) ih
abbrev Done (many : Int) (R : D) (st : List Row) (d : D) (st' : List Row) : Prop := G__is_done_v2 [.int many, R, .lst (st.map dRow), d] = .ok (.tup [.bl true, .lst (st'.map dRow)])
inductive Dones (many : Int) (R : D) : List Row → List D → List Row → Prop where
  | nil (st : List Row) : Dones many R st [] st
  | cons {d : D} {ds : List D} {st st' st'' : List Row} : Done many R st d st' → Dones many R st' ds st'' → Dones many R st (d :: ds) st''
theorem Dones.one {d : D} (h : Done many R st d st') : Dones many R st [d] st' := .cons h (.nil _)
end
end My
namespace My
open PySem PySem.Spec L2 VS
abbrev Bk := List (Int × Row)
end My
namespace My
open PySem PySem.Spec L2 VS
def PushI (many : Int) (ns : List Int) (i : Ins) : Prop := (∃ n ∈ ns, i = .row n) ∨ ∃ l : Int, 1 ≤ l.natAbs ∧ (l.natAbs : Int) ≤ many ∧ i = .lit l
def ChgI (many : Int) (i : Ins) : Prop := (∃ k, 1 ≤ k ∧ k ≤ 7 ∧ (i = .times k ∨ i = .div k)) ∨ i = .cap ∨ ∃ v, 1 ≤ v ∧ v ≤ many ∧ i = .weak v
def InsOk (many : Int) (ns : List Int) (i : Ins) : Prop := PushI many ns i ∨ ChgI many i ∨ i = .sum
def Goes (many : Int) (ns : List Int) (h : Nat) (is : List Ins) (h' : Nat) : Prop := (∀ i ∈ is, InsOk many ns i) ∧ ∀ L : Int → Option Row, (∀ n ∈ ns, ∃ r, L n = some r) → ∀ st : List Row, st.length = h → ∃ st', Runs many L st is st' ∧ st'.length = h'
section
variable {many : Int} {S : DS} {st rows : List Row} {i : Ins} {is js : List Ins} {ns : List Int} {h h' h'' k : Nat}
theorem Goes.nil : Goes many ns h [] h := ⟨fun _ hi => (by cases hi), fun _ _ st hs => ⟨st, .nil _, hs⟩⟩
theorem one_all {P : Ins → Prop} (h : P i) : ∀ j ∈ [i], P j := fun j hj => by rw [List.mem_singleton.mp hj]; exact h
theorem snoc_of {α : Type} {xs : List α} (hs : xs.length = h + 1) : ∃ s a, xs = s ++ [a] ∧ s.length = h := by
  have hne : xs ≠ [] := fun z => by rw [z] at hs; cases hs
  refine ⟨xs.dropLast, xs.getLast hne, (List.dropLast_concat_getLast hne).symm, ?_⟩
  rw [List.length_dropLast, hs]; rfl
theorem Goes.push (p : PushI many ns i) : Goes many ns h [i] (h + 1) := ⟨one_all (.inl p), fun L hn st hs => by
  rcases p with ⟨j, hj, rfl⟩ | ⟨l, h1, h2, rfl⟩
  · obtain ⟨r, hr⟩ := hn j hj
    exact ⟨_, .one (.row hr), by simp [hs]⟩
  · exact ⟨_, .one (.lit h1 h2), by simp [hs]⟩⟩
theorem Goes.chg (p : ChgI many i) : Goes many ns (h + 1) [i] (h + 1) := ⟨one_all (.inr (.inl p)), fun L _ st hs => by
  obtain ⟨s, a, rfl, hl⟩ := snoc_of hs
  rcases p with ⟨k, h1, h2, rfl | rfl⟩ | rfl | ⟨v, h1, h2, rfl⟩
  · exact ⟨_, .one (.times h1 h2), by simp [hl]⟩
  · exact ⟨_, .one (.div h1 h2), by simp [hl]⟩
  · exact ⟨_, .one .cap, by simp [hl]⟩
  · exact ⟨_, .one (.weak h1 h2), by simp [hl]⟩⟩
theorem Goes.sum : Goes many ns (h + 2) [.sum] (h + 1) := ⟨one_all (.inr (.inr rfl)), fun L _ st hs => by
  obtain ⟨s, b, rfl, hl⟩ := snoc_of hs
  obtain ⟨s, a, rfl, hl2⟩ := snoc_of hl
  rw [List.append_assoc]
  exact ⟨_, .one .sum, by simp [hl2]⟩⟩
theorem bin_ok {op : D → D → Option D} {f g : ME} {env : VS.Env} {S S1 S2 : DS} {a b c : D} (h1 : f env S = .ok (a, S1)) (h2 : g env S1 = .ok (b, S2)) (h : op a b = some c) : binM op f g env S = .ok (c, S2) := by simp only [binM, h1, h2, bindM, h, ofO]
end
end My
namespace My
open PySem PySem.Spec L2 VS
theorem asgG1 {f : ME} {i : Nat} {env : VS.Env} {S S1 : DS} {d : D} (h : f env S = .ok (d, S1)) : asgS i f env S = .ok (.nx (env.set i (some d)), S1) := by simp only [asgS, h, bindM]
section
variable {many C : Int} {S : DS} {r q a e : Row} {m v k n : Int} {st st' : List Row} {i : Ins} {L : Int → Option Row} {R : D}
theorem p5 : gPow (.int 10) (.int 5) = some (.int (10 ^ 5)) := rfl
end
end My
namespace My
open PySem PySem.Spec L2 VS
theorem begun_good (ns : List Int) (hn : ns.length ≤ 63) : Good 100000 (begun ns) := by
  refine ⟨fun x hx => ?_, ?_, ?_, fun x hx => ?_, by show (0 : Int) ≤ 0; omega, by show (0 : Int) ≤ 0; omega, by show (0 : Int) + 100000 ≤ 1000000000; omega⟩
  · simp only [begun, List.mem_map, List.mem_filter] at hx
    obtain ⟨y, ⟨_, h⟩, rfl⟩ := hx
    have := of_decide_eq_true h
    omega
  · have : (begun ns).large.length ≤ ns.length := by
      simp only [begun, List.length_map]
      exact Nat.le_trans (List.length_filter_le _ _) (by simp)
    omega
  · simp only [begun, List.length_map]; omega
  · simp only [begun, List.mem_map] at hx
    obtain ⟨y, _, rfl⟩ := hx
    omega
theorem range_m (a b : Int) (ns : List Int) (h0 : 0 ≤ a) (h1 : 0 ≤ b) (h2 : a + b ≤ 1000) : ∃ m : Nat, (m : Int) ≤ a + b ∧ rangeOf [.int (a + (if (b : Int) < (ns.length : Int) then b else (ns.length : Int)))] = some (intsD 0 m) := by
  refine ⟨(a + (if (b : Int) < (ns.length : Int) then b else (ns.length : Int))).toNat, by split <;> omega, ?_⟩
  simp only [rangeOf]
  rw [if_pos (by split <;> omega)]
end My
namespace My
open PySem PySem.Spec L2 VS
section
variable {many : Int} {S : DS} {R d : D} {k : Nat} {ns : List Int} {is : List Ins}
abbrev nE (many : Int) (ns : List Int) (ds : List D) (w s : Int) : VS.Env := [some .st, some (.int many), some (.lst (ns.map D.int)), some (.lst ds), some (.int w), some (.int s)]
end
end My
namespace My
open PySem PySem.Spec L2 VS
section
variable {many C : Int} {S : DS} {r q a e : Row} {R d N V : D} {ds : List D} {k : Nat} {ns : List Int} {bk : Bk}
theorem isD_of {tab : List (Str × Bool)} {n f : Str} {fs : List D} {b : Bool} (h : List.lookup n tab = some b) : gIsD tab (.exc n f fs) = some (.bl b) := by
  simp only [gIsD, h, Option.map_some]
end
end My
namespace My
open PySem PySem.Spec L2 VS
theorem test_of {f : ME} {env : VS.Env} {S S1 : DS} {b : Bool} (h : f env S = .ok (.bl b, S1)) : testM f env S = .ok (b, S1) := by
  unfold testM
  rw [h]
  rfl
theorem or_no {f g : MT} {env : VS.Env} {S S1 : DS} {R : Res (Bool × DS)} (h : f env S = .ok (false, S1)) (h2 : g env S1 = R) : orT f g env S = R := by simp only [orT, h, bindM, Bool.false_eq_true, if_false, h2]
theorem not_of {f : MT} {env : VS.Env} {S S1 : DS} {b : Bool} (h : f env S = .ok (b, S1)) : notT f env S = .ok (!b, S1) := by simp only [notT, h, bindM]
theorem two_same {f1 f2 f3 f4 : ME} {env : VS.Env} {S : DS} {d : D} {x : Str} (h1 : f1 env S = .ok (d, S)) (h2 : f2 env S = .ok (d, S)) (h3 : f3 env S = .ok (d, S)) (h4 : f4 env S = .ok (d, S)) (hx : gRepr [.lst [d, d]] = some (.str x)) :
    testM (binM gNe (cbM gRepr (consA (lstM (consA f1 (consA f2 nilA))) nilA)) (cbM gRepr (consA (lstM (consA f3 (consA f4 nilA))) nilA))) env S = .ok (false, S) := by
  have q := gNe_strs x
  simp only [startE, List.map_cons, List.map_nil, Nat.reduceSub, List.replicate_succ, List.replicate_zero, seqS, ifS, retS, asgS, dropS, nextS, retN, unpS, parS, par3S, parOS, appS, setA, popM, nxSet, nxUnp, appPopM, forS, forR, forE, raiseS, varM, cM, unM, binM, chM, tupM, lstM, nilA, consA, testM, andT, orT, notT, andV, orV, notV, ifM, cbM, callP, callS, bindM, ofO, liftP, endP, endS, get2M, gGet2, VS.keyD, setAll, setN, setT, wipeE, List.getElem?_cons_zero, List.getElem?_cons_succ, List.set_cons_zero, List.set_cons_succ, List.append_nil, List.cons_append, List.nil_append, List.length_cons, List.length_nil, Nat.zero_add, Nat.reduceAdd, Nat.reduceLeDiff, Nat.zero_le, if_true, if_false, Bool.false_eq_true, Bool.not_true, Bool.not_false, gII, gAdd, gEq_int, gNe_int, reduceCtorEq, h1, h2, h3, h4, hx, q]
theorem two_mul {f1 f2 f3 : ME} {env : VS.Env} {S : DS} {d : D} {x : Str} (h1 : f1 env S = .ok (d, S)) (h2 : f2 env S = .ok (d, S)) (h3 : f3 env S = .ok (d, S)) (hx : gRepr [.lst [d, d]] = some (.str x)) :
    testM (binM gNe (cbM gRepr (consA (lstM (consA f1 (consA f2 nilA))) nilA)) (cbM gRepr (consA (binM gMulT (lstM (consA f3 nilA)) (cM (.int 2))) nilA))) env S = .ok (false, S) := by
  have q := gNe_strs x
  have m : gMulT (.lst [d]) (.int 2) = some (.lst [d, d]) := rfl
  simp only [startE, List.map_cons, List.map_nil, Nat.reduceSub, List.replicate_succ, List.replicate_zero, seqS, ifS, retS, asgS, dropS, nextS, retN, unpS, parS, par3S, parOS, appS, setA, popM, nxSet, nxUnp, appPopM, forS, forR, forE, raiseS, varM, cM, unM, binM, chM, tupM, lstM, nilA, consA, testM, andT, orT, notT, andV, orV, notV, ifM, cbM, callP, callS, bindM, ofO, liftP, endP, endS, get2M, gGet2, VS.keyD, setAll, setN, setT, wipeE, List.getElem?_cons_zero, List.getElem?_cons_succ, List.set_cons_zero, List.set_cons_succ, List.append_nil, List.cons_append, List.nil_append, List.length_cons, List.length_nil, Nat.zero_add, Nat.reduceAdd, Nat.reduceLeDiff, Nat.zero_le, if_true, if_false, Bool.false_eq_true, Bool.not_true, Bool.not_false, gII, gAdd, gEq_int, gNe_int, reduceCtorEq, h1, h2, h3, m, hx, q]
theorem one_same {f1 f2 : ME} {env : VS.Env} {S : DS} {d : D} {x : Str} (h1 : f1 env S = .ok (d, S)) (h2 : f2 env S = .ok (d, S)) (hx : gRepr [d] = some (.str x)) : testM (binM gNe (cbM gRepr (consA f1 nilA)) (cbM gRepr (consA f2 nilA))) env S = .ok (false, S) := by
  have q := gNe_strs x
  simp only [startE, List.map_cons, List.map_nil, Nat.reduceSub, List.replicate_succ, List.replicate_zero, seqS, ifS, retS, asgS, dropS, nextS, retN, unpS, parS, par3S, parOS, appS, setA, popM, nxSet, nxUnp, appPopM, forS, forR, forE, raiseS, varM, cM, unM, binM, chM, tupM, lstM, nilA, consA, testM, andT, orT, notT, andV, orV, notV, ifM, cbM, callP, callS, bindM, ofO, liftP, endP, endS, get2M, gGet2, VS.keyD, setAll, setN, setT, wipeE, List.getElem?_cons_zero, List.getElem?_cons_succ, List.set_cons_zero, List.set_cons_succ, List.append_nil, List.cons_append, List.nil_append, List.length_cons, List.length_nil, Nat.zero_add, Nat.reduceAdd, Nat.reduceLeDiff, Nat.zero_le, if_true, if_false, Bool.false_eq_true, Bool.not_true, Bool.not_false, gII, gAdd, gEq_int, gNe_int, reduceCtorEq, h1, h2, hx, q]
theorem two_rep {d : D} (h : smD 3 d = true) (hb : bkD d ≤ 2000) : ∃ x, gRepr [.lst [d, d]] = some (.str x) := repr_lst (n := 3) (by simp [smL, h]) (by decide) (by simp only [bkL]; omega)
theorem two_bls (v : Bool) : ∃ x, gRepr [.lst [.bl v, .bl v]] = some (.str x) := repr_lst (n := 0) (by simp [smL, smD]) (by decide) (by simp [bkL, bkD])
theorem two_ints {i : Int} (h : -1000000 ≤ i ∧ i ≤ 1000000) : ∃ x, gRepr [.lst [.int i, .int i]] = some (.str x) := two_rep (sm_int (big_of h)) (by simp [bkD])
section
variable {many : Int} {env : VS.Env} {S : DS} {f g e : ME} {d m n v : D}
theorem cp1 {G : List D → RP} (h1 : f env S = .ok (d, S)) (h : G [d] = .ok v) : callP G [] (consA f nilA) env S = .ok (v, S) := by
  simp only [callP, consA, h1, nilA, bindM, List.append_nil, h, liftP]
theorem cp2 {G : List D → RP} (h1 : f env S = .ok (d, S)) (h2 : g env S = .ok (m, S)) (h : G [d, m] = .ok v) : callP G [] (consA f (consA g nilA)) env S = .ok (v, S) := by
  simp only [callP, consA, h1, h2, nilA, bindM, List.append_nil, h, liftP]
theorem cp3 {G : List D → RP} (h1 : f env S = .ok (d, S)) (h2 : g env S = .ok (m, S)) (h3 : e env S = .ok (n, S)) (h : G [d, m, n] = .ok v) : callP G [] (consA f (consA g (consA e nilA))) env S = .ok (v, S) := by
  simp only [callP, consA, h1, h2, h3, nilA, bindM, List.append_nil, h, liftP]
theorem cpk1 {G : List D → RP} (h1 : f env S = .ok (d, S)) (h : G [d] = .ok v) : callPK G 1 [0] (consA f nilA) env S = .ok (v, S) := by
  have w : consA f nilA env S = .ok ([d], S) := by simp only [consA, h1, nilA, bindM]
  have pk : pick [0] [d] = [d] := rfl
  simp only [callPK, w, bindM, pk]
  rw [if_pos ⟨rfl, rfl⟩, h]
  rfl
theorem cpk2 {G : List D → RP} (h1 : f env S = .ok (d, S)) (h2 : g env S = .ok (m, S)) (h : G [m, d] = .ok v) : callPK G 2 [1, 0] (consA f (consA g nilA)) env S = .ok (v, S) := by
  have w : consA f (consA g nilA) env S = .ok ([d, m], S) := by simp only [consA, h1, h2, nilA, bindM]
  have pk : pick [1, 0] [d, m] = [m, d] := rfl
  simp only [callPK, w, bindM, pk]
  rw [if_pos ⟨rfl, rfl⟩, h]
  rfl
theorem cpk3 {G : List D → RP} (h1 : f env S = .ok (d, S)) (h2 : g env S = .ok (m, S)) (h3 : e env S = .ok (n, S)) (h : G [n, m, d] = .ok v) : callPK G 3 [2, 1, 0] (consA f (consA g (consA e nilA))) env S = .ok (v, S) := by
  have w : consA f (consA g (consA e nilA)) env S = .ok ([d, m, n], S) := by simp only [consA, h1, h2, h3, nilA, bindM]
  have pk : pick [2, 1, 0] [d, m, n] = [n, m, d] := rfl
  simp only [callPK, w, bindM, pk]
  rw [if_pos ⟨rfl, rfl⟩, h]
  rfl
end
def told (r : Trm × Int) (fs : List (List Int)) : List D := fs.map fun f => .bl (decide (r.2 ≤ cm r.1 f))
abbrev kE (scr : D) (x2 : Option D) (many : Int) (r : Trm × Int) (x5 x6 x7 x8 x9 x10 x11 x12 x13 x14 x15 x16 x17 x18 : Option D) : VS.Env := [some scr, some .st, x2, some (.int many), some (dRow r), x5, x6, x7, x8, x9, x10, x11, x12, x13, x14, x15, x16, x17, x18]
structure C2 (many : Int) (r : Trm × Int) : Prop where
  m1 : 1 ≤ many
  m2 : many ≤ 6
  ok : OkR many r
  t : tot r.1 ≤ 1000
  b : r.2 ≤ tot r.1 + 1
theorem C2.of {many : Int} {r : Trm × Int} (h1 : 1 ≤ many) (h2 : many ≤ 6) (h : OkR many r) (hw : ∀ p ∈ r.1, p.1 ≤ 6) (hb : r.2 ≤ tot r.1 + 1) : C2 many r := by
  refine ⟨h1, h2, h, ?_, hb⟩
  have l := tot_le hw
  have hl := h.t.len
  have : (r.1.length : Int) ≤ 6 := by omega
  omega
theorem C2.opp {many : Int} {r : Trm × Int} (c : C2 many r) : C2 many (oppR r) := by
  have h1 := c.t
  have h2 := c.b
  have h3 := c.ok.b
  have h4 := tot_nonneg (many := many) c.ok.t.w
  have t : tot (oppR r).1 = tot r.1 := by
    have : ∀ t : Trm, tot (t.map fun p => (p.1, -p.2)) = tot t := fun t => by simp [tot, Function.comp_def]
    exact this r.1
  have e1 : (oppR r).2 = tot r.1 - r.2 + 1 := by
    show (if _ > 0 then _ else (0 : Int)) = _
    split <;> omega
  exact ⟨c.m1, c.m2, oppR_ok c.ok, by omega, by omega⟩
theorem C2.rep {many : Int} {r : Trm × Int} (c : C2 many r) : ∃ x, gRepr [.lst [dRow r, dRow r]] = some (.str x) := by
  have h1 := c.t
  have h2 := c.b
  have m2 := c.m2
  have hl := c.ok.t.len
  exact two_rep (sm_row (by omega) c.ok (by omega) (by omega)) (bk_row (by omega))
section
variable {scr : D} {x2 x5 x6 x7 x8 x9 x10 x11 x12 x13 x14 x15 x16 x17 x18 : Option D} {many : Int} {r : Trm × Int} {fs : List (List Int)} {f : List Int} {S : DS} {k : Nat}
theorem t3_ok (c : C2 many r) : t_law_k02_3 (kE scr x2 many r x5 (some (dRow (oppR r))) x7 x8 x9 x10 x11 x12 x13 x14 x15 x16 x17 x18) S = .ok (false, S) := by
  have m1 := c.m1
  have m2 := c.m2
  obtain ⟨x, hx⟩ := c.opp.rep
  have o := opposite_ok c.m1 (by omega) c.ok
  exact two_same (f3 := varM 6) (f4 := varM 6) (cp2 (d := .int many) (m := dRow r) rfl rfl o) (cpk2 (d := dRow r) (m := .int many) rfl rfl o) rfl rfl hx
theorem t4_ok (c : C2 many r) : t_law_k02_4 (kE scr x2 many r x5 (some (dRow (oppR r))) x7 x8 x9 x10 x11 x12 x13 x14 x15 x16 x17 x18) S = .ok (false, S) := by
  have m1 := c.m1
  have m2 := c.m2
  have o := opposite_ok c.m1 (by omega) c.opp.ok
  rw [opp_opp c.ok c.b] at o
  have t : G__law_total [dRow r] = .ok (.int (tot r.1)) := total_ok
  have r1 : gIxA (dRow r) (.int 1) = some (.int r.2) := rfl
  have l : gLe (.int r.2) (.int (tot r.1 + 1)) = some (.bl true) := by
    show some (D.bl (decide (r.2 ≤ tot r.1 + 1))) = _
    rw [decide_eq_true c.b]
  have q := gNe_self (pl_row r)
  unfold t_law_k02_4
  simp only [startE, List.map_cons, List.map_nil, Nat.reduceSub, List.replicate_succ, List.replicate_zero, seqS, ifS, retS, asgS, dropS, nextS, retN, unpS, parS, par3S, parOS, appS, setA, popM, nxSet, nxUnp, appPopM, forS, forR, forE, raiseS, varM, cM, unM, binM, chM, tupM, lstM, nilA, consA, testM, andT, orT, notT, andV, orV, notV, ifM, cbM, callP, callS, bindM, ofO, liftP, endP, endS, get2M, gGet2, VS.keyD, setAll, setN, setT, wipeE, List.getElem?_cons_zero, List.getElem?_cons_succ, List.set_cons_zero, List.set_cons_succ, List.append_nil, List.cons_append, List.nil_append, List.length_cons, List.length_nil, Nat.zero_add, Nat.reduceAdd, Nat.reduceLeDiff, Nat.zero_le, if_true, if_false, Bool.false_eq_true, Bool.not_true, Bool.not_false, gII, gAdd, gEq_int, gNe_int, reduceCtorEq, t, r1, l, o, q]
theorem t5_ok (c : C2 many r) : t_law_k02_5 (kE scr x2 many r x5 x6 x7 x8 x9 x10 x11 x12 x13 x14 x15 x16 x17 x18) S = .ok (false, S) := by
  have m1 := c.m1
  have m2 := c.m2
  have h1 := c.t
  have h4 := tot_nonneg (many := many) c.ok.t.w
  obtain ⟨x, hx⟩ := two_ints (i := tot r.1) ⟨by omega, by omega⟩
  have o := total_p c.m1 (by omega) c.ok
  exact two_mul (f3 := callP G__law_total [] (consA (varM 4) nilA)) (cp2 (d := .int many) (m := dRow r) rfl rfl o) (cpk2 (d := dRow r) (m := .int many) rfl rfl o) (cp1 (d := dRow r) rfl total_ok) hx
theorem told7 (c : C2 many r) (hf : ∀ f ∈ fs, FlOk many.toNat f) : lcM (setN 8) (varM 5) (fun _ S => .ok (true, S)) e_law_k02_6 [8] (kE scr x2 many r (some (.lst (fs.map tupDI))) x6 x7 x8 x9 x10 x11 x12 x13 x14 x15 x16 x17 x18) S = .ok (.lst (told r fs), S) := by
  have m1 := c.m1
  have m2 := c.m2
  have cl := comp_all (set := setN 8) (elt := e_law_k02_6) (env0 := (kE scr x2 many r (some (.lst (fs.map tupDI))) x6 x7 (none) x9 x10 x11 x12 x13 x14 x15 x16 x17 x18)) (S := S) tupDI (fun f => .bl (decide (r.2 ≤ cm r.1 f))) fs fun f h => by
    exact ⟨(kE scr x2 many r (some (.lst (fs.map tupDI))) x6 x7 (some (tupDI f)) x9 x10 x11 x12 x13 x14 x15 x16 x17 x18), rfl, cp3 (d := .int many) (m := dRow r) (n := tupDI f) rfl rfl rfl (p_holds_ok c.m1 (by omega) c.ok (hf f h))⟩
  rw [lcM_lst (show varM 5 (kE scr x2 many r (some (.lst (fs.map tupDI))) x6 x7 x8 x9 x10 x11 x12 x13 x14 x15 x16 x17 x18) S = .ok (.lst (fs.map tupDI), S) from rfl)]
  show bindM (compM (setN 8) (fun _ S => .ok (true, S)) e_law_k02_6 (kE scr x2 many r (some (.lst (fs.map tupDI))) x6 x7 (none) x9 x10 x11 x12 x13 x14 x15 x16 x17 x18) (fs.map tupDI) S) _ = _
  rw [cl]
  rfl
theorem told8 (c : C2 many r) (hf : ∀ f ∈ fs, FlOk many.toNat f) : lcM (setN 8) (varM 5) (fun _ S => .ok (true, S)) e_law_k02_8 [8] (kE scr x2 many r (some (.lst (fs.map tupDI))) x6 x7 x8 x9 x10 x11 x12 x13 x14 x15 x16 x17 x18) S = .ok (.lst (told r fs), S) := by
  have cl := comp_all (set := setN 8) (elt := e_law_k02_8) (env0 := (kE scr x2 many r (some (.lst (fs.map tupDI))) x6 x7 (none) x9 x10 x11 x12 x13 x14 x15 x16 x17 x18)) (S := S) tupDI (fun f => .bl (decide (r.2 ≤ cm r.1 f))) fs fun f h => by
    exact ⟨(kE scr x2 many r (some (.lst (fs.map tupDI))) x6 x7 (some (tupDI f)) x9 x10 x11 x12 x13 x14 x15 x16 x17 x18), rfl, cp2 (d := dRow r) (m := tupDI f) rfl rfl (holds_ok (inL_of c.ok (hf f h)))⟩
  rw [lcM_lst (show varM 5 (kE scr x2 many r (some (.lst (fs.map tupDI))) x6 x7 x8 x9 x10 x11 x12 x13 x14 x15 x16 x17 x18) S = .ok (.lst (fs.map tupDI), S) from rfl)]
  show bindM (compM (setN 8) (fun _ S => .ok (true, S)) e_law_k02_8 (kE scr x2 many r (some (.lst (fs.map tupDI))) x6 x7 (none) x9 x10 x11 x12 x13 x14 x15 x16 x17 x18) (fs.map tupDI) S) _ = _
  rw [cl]
  rfl
theorem told10 (c : C2 many r) (hf : ∀ f ∈ fs, FlOk many.toNat f) : lcM (setN 8) (varM 5) (fun _ S => .ok (true, S)) e_law_k02_10 [8] (kE scr x2 many r (some (.lst (fs.map tupDI))) (some (dRow (oppR r))) x7 x8 x9 x10 x11 x12 x13 x14 x15 x16 x17 x18) S = .ok (.lst (told (oppR r) fs), S) := by
  have m1 := c.m1
  have m2 := c.m2
  have cl := comp_all (set := setN 8) (elt := e_law_k02_10) (env0 := (kE scr x2 many r (some (.lst (fs.map tupDI))) (some (dRow (oppR r))) x7 (none) x9 x10 x11 x12 x13 x14 x15 x16 x17 x18)) (S := S) tupDI (fun f => .bl (decide ((oppR r).2 ≤ cm (oppR r).1 f))) fs fun f h => by
    exact ⟨(kE scr x2 many r (some (.lst (fs.map tupDI))) (some (dRow (oppR r))) x7 (some (tupDI f)) x9 x10 x11 x12 x13 x14 x15 x16 x17 x18), rfl, cp3 (d := .int many) (m := dRow (oppR r)) (n := tupDI f) rfl rfl rfl (p_holds_ok c.m1 (by omega) c.opp.ok (hf f h))⟩
  rw [lcM_lst (show varM 5 (kE scr x2 many r (some (.lst (fs.map tupDI))) (some (dRow (oppR r))) x7 x8 x9 x10 x11 x12 x13 x14 x15 x16 x17 x18) S = .ok (.lst (fs.map tupDI), S) from rfl)]
  show bindM (compM (setN 8) (fun _ S => .ok (true, S)) e_law_k02_10 (kE scr x2 many r (some (.lst (fs.map tupDI))) (some (dRow (oppR r))) x7 (none) x9 x10 x11 x12 x13 x14 x15 x16 x17 x18) (fs.map tupDI) S) _ = _
  rw [cl]
  rfl
theorem not11 : lcM (setN 9) (varM 7) (fun _ S => .ok (true, S)) (notV (varM 9)) [9] (kE scr x2 many r x5 x6 (some (.lst (told r fs))) x8 x9 x10 x11 x12 x13 x14 x15 x16 x17 x18) S = .ok (.lst (fs.map fun f => .bl (!decide (r.2 ≤ cm r.1 f))), S) := by
  have cl := comp_all (set := setN 9) (elt := notV (varM 9)) (env0 := (kE scr x2 many r x5 x6 (some (.lst (told r fs))) x8 (none) x10 x11 x12 x13 x14 x15 x16 x17 x18)) (S := S) (fun f => D.bl (decide (r.2 ≤ cm r.1 f))) (fun f => .bl (!decide (r.2 ≤ cm r.1 f))) fs fun f h => by
    exact ⟨(kE scr x2 many r x5 x6 (some (.lst (told r fs))) x8 (some (.bl (decide (r.2 ≤ cm r.1 f)))) x10 x11 x12 x13 x14 x15 x16 x17 x18), rfl, rfl⟩
  rw [lcM_lst (show varM 7 (kE scr x2 many r x5 x6 (some (.lst (told r fs))) x8 x9 x10 x11 x12 x13 x14 x15 x16 x17 x18) S = .ok (.lst (told r fs), S) from rfl)]
  show bindM (compM (setN 9) (fun _ S => .ok (true, S)) (notV (varM 9)) (kE scr x2 many r x5 x6 (some (.lst (told r fs))) x8 (none) x10 x11 x12 x13 x14 x15 x16 x17 x18) (told r fs) S) _ = _
  unfold told at cl ⊢
  rw [cl]
  rfl
theorem rep_told (hl : fs.length ≤ 64) : ∃ x, gRepr [.lst (told r fs)] = some (.str x) := by
  refine repr_lst (n := 0) (smL_map fun _ _ => rfl) (by decide) ?_
  have h := bkL_le (c := 1) (ds := told r fs) fun d hd => by
    obtain ⟨f, _, rfl⟩ := List.mem_map.mp hd
    simp [bkD]
  have : (told r fs).length = fs.length := by simp [told]
  omega
theorem rep_fls (hm : many ≤ 6) (hf : ∀ f ∈ fs, FlOk many.toNat f) (hl : fs.length ≤ 64) : ∃ x, gRepr [.lst (fs.map tupDI)] = some (.str x) := by
  refine repr_lst (n := 1) (smL_map fun f h => sm_fl (hf f h)) (by decide) ?_
  have h := bkL_le (c := 50) (ds := fs.map tupDI) fun d hd => by
    obtain ⟨f, h, rfl⟩ := List.mem_map.mp hd
    have l1 := (hf f h).1
    have h2 := bkL_le (c := 1) (ds := f.map D.int) fun d hd => by
      obtain ⟨x, _, rfl⟩ := List.mem_map.mp hd
      simp [bkD]
    simp only [tupDI, bkD]
    rw [List.length_map] at h2
    omega
  rw [List.length_map] at h
  omega
theorem s7_ok (c : C2 many r) (hf : ∀ f ∈ fs, FlOk many.toNat f) : s_law_k02_7 (kE scr x2 many r (some (.lst (fs.map tupDI))) x6 x7 x8 x9 x10 x11 x12 x13 x14 x15 x16 x17 x18) S = .ok (.nx (kE scr x2 many r (some (.lst (fs.map tupDI))) x6 (some (.lst (told r fs))) x8 x9 x10 x11 x12 x13 x14 x15 x16 x17 x18), S) := asgG1 (told7 c hf)
theorem at0 (d : D) (ds : List D) : gIxA (.lst (d :: ds)) (.int 0) = some d := by
  obtain ⟨x, h1, h2⟩ := atI_nat (d :: ds) 0 (by omega) (by simp only [List.length_cons]; omega)
  have : x = d := by simpa using h1.symm
  subst this
  exact h2
theorem t9_ok (c : C2 many r) (hf : ∀ f ∈ fs, FlOk many.toNat f) (hl : fs.length ≤ 64) (h0 : fs ≠ []) : t_law_k02_9 (kE scr x2 many r (some (.lst (fs.map tupDI))) x6 (some (.lst (told r fs))) x8 x9 x10 x11 x12 x13 x14 x15 x16 x17 x18) S = .ok (false, S) := by
  have m1 := c.m1
  have m2 := c.m2
  obtain ⟨x, hx⟩ := rep_told (r := r) hl
  have l1 := one_same (f1 := varM 7) (env := (kE scr x2 many r (some (.lst (fs.map tupDI))) x6 (some (.lst (told r fs))) x8 x9 x10 x11 x12 x13 x14 x15 x16 x17 x18)) (S := S) rfl (told8 (scr := scr) (x2 := x2) (x6 := x6) (x7 := some (.lst (told r fs))) (x8 := x8) (x9 := x9) (x10 := x10) (x11 := x11) (x12 := x12) (x13 := x13) (x14 := x14) (x15 := x15) (x16 := x16) (x17 := x17) (x18 := x18) c hf) hx
  refine or_no l1 ?_
  obtain ⟨f, rest, rfl⟩ : ∃ f rest, fs = f :: rest := by
    cases fs with
    | nil => exact absurd rfl h0
    | cons f rest => exact ⟨f, rest, rfl⟩
  have i1 : gIxA (.lst ((f :: rest).map tupDI)) (.int 0) = some (tupDI f) := at0 _ _
  have i2 : gIxA (.lst (told r (f :: rest))) (.int 0) = some (.bl (decide (r.2 ≤ cm r.1 f))) := at0 _ _
  have p := p_holds_ok c.m1 (by omega) c.ok (hf f List.mem_cons_self)
  have q : gNe (.bl (decide (r.2 ≤ cm r.1 f))) (.bl (decide (r.2 ≤ cm r.1 f))) = some (.bl false) := gNe_self (n := 0) rfl
  have a1 : binM gIxA (varM 5) (cM (.int 0)) (kE scr x2 many r (some (.lst ((f :: rest).map tupDI))) x6 (some (.lst (told r (f :: rest)))) x8 x9 x10 x11 x12 x13 x14 x15 x16 x17 x18) S = .ok (tupDI f, S) := bin_ok rfl rfl i1
  have a2 : binM gIxA (varM 7) (cM (.int 0)) (kE scr x2 many r (some (.lst ((f :: rest).map tupDI))) x6 (some (.lst (told r (f :: rest)))) x8 x9 x10 x11 x12 x13 x14 x15 x16 x17 x18) S = .ok (.bl (decide (r.2 ≤ cm r.1 f)), S) := bin_ok rfl rfl i2
  have a3 := cpk3 (G := G_holds) (e := varM 3) (g := varM 4) (m := dRow r) (n := .int many) a1 rfl rfl p
  exact test_of (bin_ok (op := gNe) a3 a2 q)
theorem t11_ok (c : C2 many r) (hf : ∀ f ∈ fs, FlOk many.toNat f) : t_law_k02_11 (kE scr x2 many r (some (.lst (fs.map tupDI))) (some (dRow (oppR r))) (some (.lst (told r fs))) x8 x9 x10 x11 x12 x13 x14 x15 x16 x17 x18) S = .ok (false, S) := by
  have e : (fs.map fun f => D.bl (!decide (r.2 ≤ cm r.1 f))) = told (oppR r) fs := by
    refine List.map_congr_left fun f h => ?_
    have := opp_holds c.ok (hf f h)
    by_cases z : r.2 ≤ cm r.1 f
    · rw [decide_eq_true z, decide_eq_false (fun y => this.mp y z)]; rfl
    · rw [decide_eq_false z, decide_eq_true (this.mpr z)]; rfl
  have a := told10 (scr := scr) (x2 := x2) (x7 := some (.lst (told r fs))) (x8 := x8) (x9 := x9) (x10 := x10) (x11 := x11) (x12 := x12) (x13 := x13) (x14 := x14) (x15 := x15) (x16 := x16) (x17 := x17) (x18 := x18) (S := S) c hf
  have b := not11 (scr := scr) (x2 := x2) (many := many) (r := r) (fs := fs) (x5 := some (.lst (fs.map tupDI))) (x6 := some (dRow (oppR r))) (x8 := x8) (x9 := x9) (x10 := x10) (x11 := x11) (x12 := x12) (x13 := x13) (x14 := x14) (x15 := x15) (x16 := x16) (x17 := x17) (x18 := x18) (S := S)
  rw [e] at b
  have q : gNe (.lst (told (oppR r) fs)) (.lst (told (oppR r) fs)) = some (.bl false) := gNe_self (n := 1) (plL_map (n := 0) fun _ _ => rfl)
  exact test_of (bin_ok (op := gNe) a b q)
theorem flats_bls (bs : List Bool) : flatsOf (bs.map D.bl) = some (bs.map V.bl) := by
  induction bs with
  | nil => rfl
  | cons b bs ih => simp only [List.map_cons, flatsOf, flatOf, ih]
theorem inV_bls (bs : List Bool) : inV (.bl true) (bs.map V.bl) = bs.contains true := by
  induction bs with
  | nil => rfl
  | cons b bs ih =>
    have e : inV (.bl true) ((b :: bs).map V.bl) = (eqV (.bl b) (.bl true) || inV (.bl true) (bs.map V.bl)) := rfl
    rw [e, ih]
    cases b <;> simp [eqV]
theorem notin_bls (bs : List Bool) : gNotInX (.bl true) (.lst (bs.map D.bl)) = some (.bl (!bs.contains true)) := by
  simp only [gNotInX, inX, inDA, inD', flatOf, flats_bls, inV_bls, Option.map_some]
theorem t12_ok (c : C2 many r) (hf : ∀ f, f ∈ fs ↔ FlOk many.toNat f) : t_law_k02_12 (kE scr x2 many r x5 x6 (some (.lst (told r fs))) x8 x9 x10 x11 x12 x13 x14 x15 x16 x17 x18) S = .ok (false, S) := by
  have m1 := c.m1
  have m2 := c.m2
  have o := imp_p c.m1 (by omega) c.ok
  have e : told r fs = (fs.map fun f => decide (r.2 ≤ cm r.1 f)).map D.bl := by simp [told, Function.comp_def]
  have n := notin_bls (fs.map fun f => decide (r.2 ≤ cm r.1 f))
  rw [← e] at n
  have v : (!(fs.map fun f => decide (r.2 ≤ cm r.1 f)).contains true) = decide (tot r.1 < r.2) := by
    by_cases z : tot r.1 < r.2
    · rw [decide_eq_true z]
      have : (fs.map fun f => decide (r.2 ≤ cm r.1 f)).contains true = false := by
        rw [Bool.eq_false_iff]
        intro h
        rw [List.contains_iff_mem] at h
        obtain ⟨f, _, h⟩ := List.mem_map.mp h
        have := of_decide_eq_true h
        have := cm_le c.ok.t f
        omega
      rw [this]; rfl
    · rw [decide_eq_false z]
      have : (fs.map fun f => decide (r.2 ≤ cm r.1 f)).contains true = true := by
        obtain ⟨f, h1, h2⟩ := all_true c.ok.t
        exact List.contains_iff_mem.mpr (List.mem_map.mpr ⟨f, (hf f).mpr h1, decide_eq_true (by omega)⟩)
      rw [this]; rfl
  rw [v] at n
  obtain ⟨x, hx⟩ := two_bls (decide (tot r.1 < r.2))
  exact two_mul (f3 := binM gNotInX (cM (.bl true)) (varM 7)) (cp2 (d := .int many) (m := dRow r) rfl rfl o) (cpk2 (d := dRow r) (m := .int many) rfl rfl o) (bin_ok (a := .bl true) (b := .lst (told r fs)) rfl rfl n) hx
end
end My
namespace My
open PySem PySem.Spec L2 VS
theorem caughtX {kn : List Str} {l : ME} {env : VS.Env} {S S1 : DS} {n f : Str} {ds : List D} (hk : kn.contains n = true) (h : l env S = .exc n f ds S1) : caughtM kn l env S = .ok (.exc n f ds, S1) := by simp only [caughtM, h, hk, if_true]
theorem refused {kn : List Str} {tab : List (Str × Bool)} {l : ME} {env : VS.Env} {S S1 : DS} {n f : Str} {ds : List D} (h : l env S = .exc n f ds S1) (hk : kn.contains n = true) (hl : List.lookup n tab = some true) : notT (testM (unM (gIsD tab) (caughtM kn l))) env S = .ok (false, S1) := by
  have c : caughtM kn l env S = .ok (.exc n f ds, S1) := by simp only [caughtM, h, hk, if_true]
  have i : gIsD tab (.exc n f ds) = some (.bl true) := isD_of hl
  simp only [notT, testM, unM, c, bindM, i, ofO]
  rfl
section
variable {env : VS.Env} {S S1 : DS} {f g e : ME} {d m x : D} {n c : Str} {ds : List D}
theorem xp1 {G : List D → RP} (h1 : f env S = .ok (d, S)) (h : G [d] = .exc n c ds) : callP G [] (consA f nilA) env S = .exc n c ds S := by
  simp only [callP, consA, h1, nilA, bindM, List.append_nil, h, liftP]
theorem xp3 {G : List D → RP} (h1 : f env S = .ok (d, S)) (h2 : g env S = .ok (m, S1)) (h3 : e env S1 = .ok (x, S1)) (h : G [d, m, x] = .exc n c ds) : callP G [] (consA f (consA g (consA e nilA))) env S = .exc n c ds S1 := by
  simp only [callP, consA, h1, h2, h3, nilA, bindM, List.append_nil, h, liftP]
theorem xl2 {G : List D → RP} {t : List (Str × (List D → RP))} {i : Nat} {z : Str} (hi : env[i]? = some (some (.cls z))) (ht : t.lookup z = some G) (h1 : f env S = .ok (d, S)) (h2 : g env S = .ok (m, S)) (h : G [d, m] = .exc n c ds) : callLM t i (consA f (consA g nilA)) env S = .exc n c ds S := by
  simp only [callLM, hi, ht, consA, h1, h2, nilA, bindM, h, liftP]
end
section
variable {scr bm br bf d : D} {x2 x5 x6 x7 x8 x9 x10 x11 x12 x13 x14 x15 x16 x17 x18 : Option D} {many : Int} {r : Trm × Int} {fs : List (List Int)} {f : List Int} {l : Int} {S : DS} {k : Nat}
theorem br_check (h : G_is_row_of [.int many, br] = .ok (.bl false)) : G_check_row [.int many, br] = .exc "BadRow" "" [] := by
  rw [row_check h]; rfl
theorem bf_check (h : BadF many bf) : G_check_filling [.int many, bf] = .exc "BadFilling" "" [] := by
  have h : G_is_filling_of [.int many, bf] = .ok (.bl false) := h
  unfold G_check_filling g_check_filling t_check_filling_1
  simp only [startE, List.map_cons, List.map_nil, Nat.reduceSub, List.replicate_succ, List.replicate_zero, seqS, ifS, retS, asgS, dropS, nextS, retN, unpS, parS, par3S, parOS, appS, setA, popM, nxSet, nxUnp, appPopM, forS, forR, forE, raiseS, varM, cM, unM, binM, chM, tupM, lstM, nilA, consA, testM, andT, orT, notT, andV, orV, notV, ifM, cbM, callP, callS, bindM, ofO, liftP, endP, endS, get2M, gGet2, VS.keyD, setAll, setN, setT, wipeE, List.getElem?_cons_zero, List.getElem?_cons_succ, List.set_cons_zero, List.set_cons_succ, List.append_nil, List.cons_append, List.nil_append, List.length_cons, List.length_nil, Nat.zero_add, Nat.reduceAdd, Nat.reduceLeDiff, Nat.zero_le, if_true, if_false, Bool.false_eq_true, Bool.not_true, Bool.not_false, gII, gAdd, gEq_int, gNe_int, reduceCtorEq, h]
def BM (bm : D) : Prop := G_is_number_between [.int 1, bm, .int 600] = .ok (.bl false)
theorem m_opposite (h : BM bm) : G_opposite [bm, br] = .exc "BadMany" "" [] := by
  unfold G_opposite g_opposite
  simp only [startE, List.map_cons, List.map_nil, Nat.reduceSub, List.replicate_succ, List.replicate_zero, seqS, ifS, retS, asgS, dropS, nextS, retN, unpS, parS, par3S, parOS, appS, setA, popM, nxSet, nxUnp, appPopM, forS, forR, forE, raiseS, varM, cM, unM, binM, chM, tupM, lstM, nilA, consA, testM, andT, orT, notT, andV, orV, notV, ifM, cbM, callP, callS, bindM, ofO, liftP, endP, endS, get2M, gGet2, VS.keyD, setAll, setN, setT, wipeE, List.getElem?_cons_zero, List.getElem?_cons_succ, List.set_cons_zero, List.set_cons_succ, List.append_nil, List.cons_append, List.nil_append, List.length_cons, List.length_nil, Nat.zero_add, Nat.reduceAdd, Nat.reduceLeDiff, Nat.zero_le, if_true, if_false, Bool.false_eq_true, Bool.not_true, Bool.not_false, gII, gAdd, gEq_int, gNe_int, reduceCtorEq, many_bad h]
theorem r_opposite (hm : 1 ≤ many) (hm2 : many ≤ 600) (h : G_is_row_of [.int many, br] = .ok (.bl false)) : G_opposite [.int many, br] = .exc "BadRow" "" [] := by
  unfold G_opposite g_opposite
  simp only [startE, List.map_cons, List.map_nil, Nat.reduceSub, List.replicate_succ, List.replicate_zero, seqS, ifS, retS, asgS, dropS, nextS, retN, unpS, parS, par3S, parOS, appS, setA, popM, nxSet, nxUnp, appPopM, forS, forR, forE, raiseS, varM, cM, unM, binM, chM, tupM, lstM, nilA, consA, testM, andT, orT, notT, andV, orV, notV, ifM, cbM, callP, callS, bindM, ofO, liftP, endP, endS, get2M, gGet2, VS.keyD, setAll, setN, setT, wipeE, List.getElem?_cons_zero, List.getElem?_cons_succ, List.set_cons_zero, List.set_cons_succ, List.append_nil, List.cons_append, List.nil_append, List.length_cons, List.length_nil, Nat.zero_add, Nat.reduceAdd, Nat.reduceLeDiff, Nat.zero_le, if_true, if_false, Bool.false_eq_true, Bool.not_true, Bool.not_false, gII, gAdd, gEq_int, gNe_int, reduceCtorEq, many_good hm hm2, br_check h]
theorem m_total (h : BM bm) : G_total [bm, br] = .exc "BadMany" "" [] := by
  unfold G_total g_total
  simp only [startE, List.map_cons, List.map_nil, Nat.reduceSub, List.replicate_succ, List.replicate_zero, seqS, ifS, retS, asgS, dropS, nextS, retN, unpS, parS, par3S, parOS, appS, setA, popM, nxSet, nxUnp, appPopM, forS, forR, forE, raiseS, varM, cM, unM, binM, chM, tupM, lstM, nilA, consA, testM, andT, orT, notT, andV, orV, notV, ifM, cbM, callP, callS, bindM, ofO, liftP, endP, endS, get2M, gGet2, VS.keyD, setAll, setN, setT, wipeE, List.getElem?_cons_zero, List.getElem?_cons_succ, List.set_cons_zero, List.set_cons_succ, List.append_nil, List.cons_append, List.nil_append, List.length_cons, List.length_nil, Nat.zero_add, Nat.reduceAdd, Nat.reduceLeDiff, Nat.zero_le, if_true, if_false, Bool.false_eq_true, Bool.not_true, Bool.not_false, gII, gAdd, gEq_int, gNe_int, reduceCtorEq, many_bad h]
theorem r_total (hm : 1 ≤ many) (hm2 : many ≤ 600) (h : G_is_row_of [.int many, br] = .ok (.bl false)) : G_total [.int many, br] = .exc "BadRow" "" [] := by
  unfold G_total g_total
  simp only [startE, List.map_cons, List.map_nil, Nat.reduceSub, List.replicate_succ, List.replicate_zero, seqS, ifS, retS, asgS, dropS, nextS, retN, unpS, parS, par3S, parOS, appS, setA, popM, nxSet, nxUnp, appPopM, forS, forR, forE, raiseS, varM, cM, unM, binM, chM, tupM, lstM, nilA, consA, testM, andT, orT, notT, andV, orV, notV, ifM, cbM, callP, callS, bindM, ofO, liftP, endP, endS, get2M, gGet2, VS.keyD, setAll, setN, setT, wipeE, List.getElem?_cons_zero, List.getElem?_cons_succ, List.set_cons_zero, List.set_cons_succ, List.append_nil, List.cons_append, List.nil_append, List.length_cons, List.length_nil, Nat.zero_add, Nat.reduceAdd, Nat.reduceLeDiff, Nat.zero_le, if_true, if_false, Bool.false_eq_true, Bool.not_true, Bool.not_false, gII, gAdd, gEq_int, gNe_int, reduceCtorEq, many_good hm hm2, br_check h]
theorem m_is_impossible (h : BM bm) : G_is_impossible [bm, br] = .exc "BadMany" "" [] := by
  unfold G_is_impossible g_is_impossible
  simp only [startE, List.map_cons, List.map_nil, Nat.reduceSub, List.replicate_succ, List.replicate_zero, seqS, ifS, retS, asgS, dropS, nextS, retN, unpS, parS, par3S, parOS, appS, setA, popM, nxSet, nxUnp, appPopM, forS, forR, forE, raiseS, varM, cM, unM, binM, chM, tupM, lstM, nilA, consA, testM, andT, orT, notT, andV, orV, notV, ifM, cbM, callP, callS, bindM, ofO, liftP, endP, endS, get2M, gGet2, VS.keyD, setAll, setN, setT, wipeE, List.getElem?_cons_zero, List.getElem?_cons_succ, List.set_cons_zero, List.set_cons_succ, List.append_nil, List.cons_append, List.nil_append, List.length_cons, List.length_nil, Nat.zero_add, Nat.reduceAdd, Nat.reduceLeDiff, Nat.zero_le, if_true, if_false, Bool.false_eq_true, Bool.not_true, Bool.not_false, gII, gAdd, gEq_int, gNe_int, reduceCtorEq, many_bad h]
theorem r_is_impossible (hm : 1 ≤ many) (hm2 : many ≤ 600) (h : G_is_row_of [.int many, br] = .ok (.bl false)) : G_is_impossible [.int many, br] = .exc "BadRow" "" [] := by
  unfold G_is_impossible g_is_impossible
  simp only [startE, List.map_cons, List.map_nil, Nat.reduceSub, List.replicate_succ, List.replicate_zero, seqS, ifS, retS, asgS, dropS, nextS, retN, unpS, parS, par3S, parOS, appS, setA, popM, nxSet, nxUnp, appPopM, forS, forR, forE, raiseS, varM, cM, unM, binM, chM, tupM, lstM, nilA, consA, testM, andT, orT, notT, andV, orV, notV, ifM, cbM, callP, callS, bindM, ofO, liftP, endP, endS, get2M, gGet2, VS.keyD, setAll, setN, setT, wipeE, List.getElem?_cons_zero, List.getElem?_cons_succ, List.set_cons_zero, List.set_cons_succ, List.append_nil, List.cons_append, List.nil_append, List.length_cons, List.length_nil, Nat.zero_add, Nat.reduceAdd, Nat.reduceLeDiff, Nat.zero_le, if_true, if_false, Bool.false_eq_true, Bool.not_true, Bool.not_false, gII, gAdd, gEq_int, gNe_int, reduceCtorEq, many_good hm hm2, br_check h]
theorem m_holds (h : BM bm) : G_holds [bm, br, bf] = .exc "BadMany" "" [] := by
  unfold G_holds g_holds
  simp only [startE, List.map_cons, List.map_nil, Nat.reduceSub, List.replicate_succ, List.replicate_zero, seqS, ifS, retS, asgS, dropS, nextS, retN, unpS, parS, par3S, parOS, appS, setA, popM, nxSet, nxUnp, appPopM, forS, forR, forE, raiseS, varM, cM, unM, binM, chM, tupM, lstM, nilA, consA, testM, andT, orT, notT, andV, orV, notV, ifM, cbM, callP, callS, bindM, ofO, liftP, endP, endS, get2M, gGet2, VS.keyD, setAll, setN, setT, wipeE, List.getElem?_cons_zero, List.getElem?_cons_succ, List.set_cons_zero, List.set_cons_succ, List.append_nil, List.cons_append, List.nil_append, List.length_cons, List.length_nil, Nat.zero_add, Nat.reduceAdd, Nat.reduceLeDiff, Nat.zero_le, if_true, if_false, Bool.false_eq_true, Bool.not_true, Bool.not_false, gII, gAdd, gEq_int, gNe_int, reduceCtorEq, many_bad h]
theorem r_holds (hm : 1 ≤ many) (hm2 : many ≤ 600) (h : G_is_row_of [.int many, br] = .ok (.bl false)) : G_holds [.int many, br, bf] = .exc "BadRow" "" [] := by
  unfold G_holds g_holds
  simp only [startE, List.map_cons, List.map_nil, Nat.reduceSub, List.replicate_succ, List.replicate_zero, seqS, ifS, retS, asgS, dropS, nextS, retN, unpS, parS, par3S, parOS, appS, setA, popM, nxSet, nxUnp, appPopM, forS, forR, forE, raiseS, varM, cM, unM, binM, chM, tupM, lstM, nilA, consA, testM, andT, orT, notT, andV, orV, notV, ifM, cbM, callP, callS, bindM, ofO, liftP, endP, endS, get2M, gGet2, VS.keyD, setAll, setN, setT, wipeE, List.getElem?_cons_zero, List.getElem?_cons_succ, List.set_cons_zero, List.set_cons_succ, List.append_nil, List.cons_append, List.nil_append, List.length_cons, List.length_nil, Nat.zero_add, Nat.reduceAdd, Nat.reduceLeDiff, Nat.zero_le, if_true, if_false, Bool.false_eq_true, Bool.not_true, Bool.not_false, gII, gAdd, gEq_int, gNe_int, reduceCtorEq, many_good hm hm2, br_check h]
theorem f_holds (hm : 1 ≤ many) (hm2 : many ≤ 600) (hr : OkR many r) (h : BadF many bf) : G_holds [.int many, dRow r, bf] = .exc "BadFilling" "" [] := by
  unfold G_holds g_holds
  simp only [startE, List.map_cons, List.map_nil, Nat.reduceSub, List.replicate_succ, List.replicate_zero, seqS, ifS, retS, asgS, dropS, nextS, retN, unpS, parS, par3S, parOS, appS, setA, popM, nxSet, nxUnp, appPopM, forS, forR, forE, raiseS, varM, cM, unM, binM, chM, tupM, lstM, nilA, consA, testM, andT, orT, notT, andV, orV, notV, ifM, cbM, callP, callS, bindM, ofO, liftP, endP, endS, get2M, gGet2, VS.keyD, setAll, setN, setT, wipeE, List.getElem?_cons_zero, List.getElem?_cons_succ, List.set_cons_zero, List.set_cons_succ, List.append_nil, List.cons_append, List.nil_append, List.length_cons, List.length_nil, Nat.zero_add, Nat.reduceAdd, Nat.reduceLeDiff, Nat.zero_le, if_true, if_false, Bool.false_eq_true, Bool.not_true, Bool.not_false, gII, gAdd, gEq_int, gNe_int, reduceCtorEq, many_good hm hm2, check_row_ok hr, bf_check h]
theorem f_worth (hm : 1 ≤ many) (hm2 : many ≤ 600) (hl : litOk many l = true) (h : BadF many bf) : G_worth [.int many, .int l, bf] = .exc "BadFilling" "" [] := by
  unfold G_worth g_worth
  simp only [startE, List.map_cons, List.map_nil, Nat.reduceSub, List.replicate_succ, List.replicate_zero, seqS, ifS, retS, asgS, dropS, nextS, retN, unpS, parS, par3S, parOS, appS, setA, popM, nxSet, nxUnp, appPopM, forS, forR, forE, raiseS, varM, cM, unM, binM, chM, tupM, lstM, nilA, consA, testM, andT, orT, notT, andV, orV, notV, ifM, cbM, callP, callS, bindM, ofO, liftP, endP, endS, get2M, gGet2, VS.keyD, setAll, setN, setT, wipeE, List.getElem?_cons_zero, List.getElem?_cons_succ, List.set_cons_zero, List.set_cons_succ, List.append_nil, List.cons_append, List.nil_append, List.length_cons, List.length_nil, Nat.zero_add, Nat.reduceAdd, Nat.reduceLeDiff, Nat.zero_le, if_true, if_false, Bool.false_eq_true, Bool.not_true, Bool.not_false, gII, gAdd, gEq_int, gNe_int, reduceCtorEq, many_good hm hm2, check_lit_ok hl, bf_check h]
theorem worth_p (hm : 1 ≤ many) (hm2 : many ≤ 600) (hl : litOk many l = true) (hi : InL f.length l) (hf : FlOk many.toNat f) : G_worth [.int many, .int l, tupDI f] = .ok (.int (wv f l)) := by
  unfold G_worth g_worth
  simp only [startE, List.map_cons, List.map_nil, Nat.reduceSub, List.replicate_succ, List.replicate_zero, seqS, ifS, retS, asgS, dropS, nextS, retN, unpS, parS, par3S, parOS, appS, setA, popM, nxSet, nxUnp, appPopM, forS, forR, forE, raiseS, varM, cM, unM, binM, chM, tupM, lstM, nilA, consA, testM, andT, orT, notT, andV, orV, notV, ifM, cbM, callP, callS, bindM, ofO, liftP, endP, endS, get2M, gGet2, VS.keyD, setAll, setN, setT, wipeE, List.getElem?_cons_zero, List.getElem?_cons_succ, List.set_cons_zero, List.set_cons_succ, List.append_nil, List.cons_append, List.nil_append, List.length_cons, List.length_nil, Nat.zero_add, Nat.reduceAdd, Nat.reduceLeDiff, Nat.zero_le, if_true, if_false, Bool.false_eq_true, Bool.not_true, Bool.not_false, gII, gAdd, gEq_int, gNe_int, reduceCtorEq, many_good hm hm2, check_lit_ok hl, check_filling_ok (by omega) hf, wor_ok hi]
abbrev wlL (many : Int) : List D := [.int 0, .int (many + 1), .non, .bl true, .str "1"]
theorem bl_check (hm : 1 ≤ many) (hm2 : many ≤ 6) : ∀ d ∈ wlL many, G_check_literal [.int many, d] = .exc "BadLiteral" "" [] := fun d hd => by
  have : many = 1 ∨ many = 2 ∨ many = 3 ∨ many = 4 ∨ many = 5 ∨ many = 6 := by omega
  simp only [wlL, List.mem_cons, List.not_mem_nil, or_false] at hd
  rcases this with rfl | rfl | rfl | rfl | rfl | rfl <;> rcases hd with rfl | rfl | rfl | rfl | rfl <;> kernel_rfl
theorem l_worth (hm : 1 ≤ many) (hm2 : many ≤ 6) (hd : d ∈ wlL many) : G_worth [.int many, d, bf] = .exc "BadLiteral" "" [] := by
  unfold G_worth g_worth
  simp only [startE, List.map_cons, List.map_nil, Nat.reduceSub, List.replicate_succ, List.replicate_zero, seqS, ifS, retS, asgS, dropS, nextS, retN, unpS, parS, par3S, parOS, appS, setA, popM, nxSet, nxUnp, appPopM, forS, forR, forE, raiseS, varM, cM, unM, binM, chM, tupM, lstM, nilA, consA, testM, andT, orT, notT, andV, orV, notV, ifM, cbM, callP, callS, bindM, ofO, liftP, endP, endS, get2M, gGet2, VS.keyD, setAll, setN, setT, wipeE, List.getElem?_cons_zero, List.getElem?_cons_succ, List.set_cons_zero, List.set_cons_succ, List.append_nil, List.cons_append, List.nil_append, List.length_cons, List.length_nil, Nat.zero_add, Nat.reduceAdd, Nat.reduceLeDiff, Nat.zero_le, if_true, if_false, Bool.false_eq_true, Bool.not_true, Bool.not_false, gII, gAdd, gEq_int, gNe_int, reduceCtorEq, many_good hm (show many ≤ 600 by omega), bl_check hm hm2 d hd]
abbrev tmL : List D := [.int 13, .int 14, .int 40, .int 200, .int 600]
theorem tm_fills : ∀ d ∈ tmL, G_fillings [d] = .exc "TooMany" "most" [.int 12] := fun d hd => by
  simp only [tmL, List.mem_cons, List.not_mem_nil, or_false] at hd
  rcases hd with rfl | rfl | rfl | rfl | rfl <;> kernel_rfl
theorem m_fills (h : BM bm) : G_fillings [bm] = .exc "BadMany" "" [] := by
  unfold G_fillings g_fillings
  simp only [startE, List.map_cons, List.map_nil, Nat.reduceSub, List.replicate_succ, List.replicate_zero, seqS, ifS, retS, asgS, dropS, nextS, retN, unpS, parS, par3S, parOS, appS, setA, popM, nxSet, nxUnp, appPopM, forS, forR, forE, raiseS, varM, cM, unM, binM, chM, tupM, lstM, nilA, consA, testM, andT, orT, notT, andV, orV, notV, ifM, cbM, callP, callS, bindM, ofO, liftP, endP, endS, get2M, gGet2, VS.keyD, setAll, setN, setT, wipeE, List.getElem?_cons_zero, List.getElem?_cons_succ, List.set_cons_zero, List.set_cons_succ, List.append_nil, List.cons_append, List.nil_append, List.length_cons, List.length_nil, Nat.zero_add, Nat.reduceAdd, Nat.reduceLeDiff, Nat.zero_le, if_true, if_false, Bool.false_eq_true, Bool.not_true, Bool.not_false, gII, gAdd, gEq_int, gNe_int, reduceCtorEq, many_bad h, seqN, endPN]
theorem isf_of {v : Bool} (hm : 1 ≤ many) (hm2 : many ≤ 600) (h : G_is_filling_of [.int many, d] = .ok (.bl v)) : G_is_filling [.int many, d] = .ok (.bl v) := by
  unfold G_is_filling g_is_filling
  simp only [startE, List.map_cons, List.map_nil, Nat.reduceSub, List.replicate_succ, List.replicate_zero, seqS, ifS, retS, asgS, dropS, nextS, retN, unpS, parS, par3S, parOS, appS, setA, popM, nxSet, nxUnp, appPopM, forS, forR, forE, raiseS, varM, cM, unM, binM, chM, tupM, lstM, nilA, consA, testM, andT, orT, notT, andV, orV, notV, ifM, cbM, callP, callS, bindM, ofO, liftP, endP, endS, get2M, gGet2, VS.keyD, setAll, setN, setT, wipeE, List.getElem?_cons_zero, List.getElem?_cons_succ, List.set_cons_zero, List.set_cons_succ, List.append_nil, List.cons_append, List.nil_append, List.length_cons, List.length_nil, Nat.zero_add, Nat.reduceAdd, Nat.reduceLeDiff, Nat.zero_le, if_true, if_false, Bool.false_eq_true, Bool.not_true, Bool.not_false, gII, gAdd, gEq_int, gNe_int, reduceCtorEq, many_good hm hm2, h]
theorem odd_no (hm : 1 ≤ many) (hm2 : many ≤ 6) : ∀ d ∈ oddL, G_is_filling_of [.int many, d] = .ok (.bl false) := fun d hd => by
  have : many = 1 ∨ many = 2 ∨ many = 3 ∨ many = 4 ∨ many = 5 ∨ many = 6 := by omega
  simp only [oddL, List.mem_cons, List.not_mem_nil, or_false] at hd
  rcases this with rfl | rfl | rfl | rfl | rfl | rfl <;> rcases hd with rfl | rfl | rfl | rfl | rfl | rfl | rfl | rfl | rfl | rfl | rfl | rfl | rfl <;> kernel_rfl
theorem s10_ok (c : C2 many r) : asgS 10 (callP G_fillings [] (consA (varM 3) nilA)) (kE scr x2 many r x5 x6 x7 x8 x9 x10 x11 x12 x13 x14 x15 x16 x17 x18) S = .ok (.nx (kE scr x2 many r x5 x6 x7 x8 x9 (some (.lst ((lexF many.toNat).map tupDI))) x11 x12 x13 x14 x15 x16 x17 x18), S) := asgG1 (cp1 (d := .int many) rfl (pfill_lex c.m1 c.m2))
theorem t13_ok (c : C2 many r) (hf : ∀ f ∈ fs, FlOk many.toNat f) (hl : fs.length ≤ 64) : t_law_k02_13 (kE scr x2 many r (some (.lst (fs.map tupDI))) x6 x7 x8 x9 (some (.lst (fs.map tupDI))) x11 x12 x13 x14 x15 x16 x17 x18) S = .ok (false, S) := by
  obtain ⟨x, hx⟩ := rep_fls c.m2 hf hl
  exact one_same (f1 := varM 10) (f2 := varM 5) rfl rfl hx
theorem a10_ok (hl : fs.length ≤ 64) : appS 10 (cM .non) (kE scr x2 many r x5 x6 x7 x8 x9 (some (.lst (fs.map tupDI))) x11 x12 x13 x14 x15 x16 x17 x18) S = .ok (.nx (kE scr x2 many r x5 x6 x7 x8 x9 (some (.lst (fs.map tupDI ++ [.non]))) x11 x12 x13 x14 x15 x16 x17 x18), S) := by
  have i : (kE scr x2 many r x5 x6 x7 x8 x9 (some (.lst (fs.map tupDI))) x11 x12 x13 x14 x15 x16 x17 x18)[10]? = some (some (.lst (fs.map tupDI))) := rfl
  simp only [appS, i, cM, bindM]
  rw [if_pos (by rw [List.length_map]; omega)]
  rfl
theorem t14_ok (c : C2 many r) (hf : ∀ f ∈ lexF many.toNat, FlOk many.toNat f) (hl : (lexF many.toNat).length ≤ 64) : t_law_k02_14 (kE scr x2 many r (some (.lst ((lexF many.toNat).map tupDI))) x6 x7 x8 x9 x10 x11 x12 x13 x14 x15 x16 x17 x18) S = .ok (false, S) := by
  obtain ⟨x, hx⟩ := rep_fls c.m2 hf hl
  exact one_same (f2 := varM 5) (cpk1 (f := varM 3) (d := .int many) rfl (pfill_lex c.m1 c.m2)) rfl hx
theorem s15_ok (c : C2 many r) (h0 : fs ≠ []) (hl : fs.length ≤ 64) (g : Good (2 + k) S) : ∃ f v S', s_law_k02_15 (kE scr x2 many r (some (.lst (fs.map tupDI))) x6 x7 x8 x9 x10 x11 x12 x13 x14 x15 x16 x17 x18) S = .ok (.nx (kE scr x2 many r (some (.lst (fs.map tupDI))) x6 x7 (some (tupDI f)) x9 x10 (some (.int v)) x12 x13 x14 x15 x16 x17 x18), S') ∧ f ∈ fs ∧ 1 ≤ v ∧ v ≤ many ∧ Good k S' := by
  have m1 := c.m1
  have m2 := c.m2
  have h1 : 0 < (fs.map tupDI).length := by rw [List.length_map]; exact List.length_pos_iff.mpr h0
  obtain ⟨d, S1, e1, hd, g1⟩ := pick_ok (ds := fs.map tupDI) (k := 1 + k) h1 (by rw [List.length_map]; omega) (g.mono (by omega))
  obtain ⟨f, hf, rfl⟩ := List.mem_map.mp hd
  obtain ⟨v, S2, e2, v0, v1, g2⟩ := draw_ok (n := many) (k := k) (by omega) (by omega) (g1.mono (by omega))
  refine ⟨f, 1 + v, S2, ?_, hf, by omega, by omega, g2⟩
  have c1 : callS G__law_pick (consA (varM 1) (consA (varM 5) nilA)) (kE scr x2 many r (some (.lst (fs.map tupDI))) x6 x7 x8 x9 x10 x11 x12 x13 x14 x15 x16 x17 x18) S = .ok (tupDI f, S1) := by
    have a1 : varM 1 (kE scr x2 many r (some (.lst (fs.map tupDI))) x6 x7 x8 x9 x10 x11 x12 x13 x14 x15 x16 x17 x18) S = .ok (.st, S) := rfl
    have a2 : varM 5 (kE scr x2 many r (some (.lst (fs.map tupDI))) x6 x7 x8 x9 x10 x11 x12 x13 x14 x15 x16 x17 x18) S = .ok (.lst (fs.map tupDI), S) := rfl
    simp only [callS, consA, a1, a2, nilA, bindM, e1]
  have c2 : binM gAdd (cM (.int 1)) (callS G__law_draw (consA (varM 1) (consA (varM 3) nilA))) (kE scr x2 many r (some (.lst (fs.map tupDI))) x6 x7 x8 x9 x10 x11 x12 x13 x14 x15 x16 x17 x18) S1 = .ok (.int (1 + v), S2) := by
    have a1 : varM 1 (kE scr x2 many r (some (.lst (fs.map tupDI))) x6 x7 x8 x9 x10 x11 x12 x13 x14 x15 x16 x17 x18) S1 = .ok (.st, S1) := rfl
    have a2 : varM 3 (kE scr x2 many r (some (.lst (fs.map tupDI))) x6 x7 x8 x9 x10 x11 x12 x13 x14 x15 x16 x17 x18) S1 = .ok (.int many, S1) := rfl
    have c0 : callS G__law_draw (consA (varM 1) (consA (varM 3) nilA)) (kE scr x2 many r (some (.lst (fs.map tupDI))) x6 x7 x8 x9 x10 x11 x12 x13 x14 x15 x16 x17 x18) S1 = .ok (.int v, S2) := by simp only [callS, consA, a1, a2, nilA, bindM, e2]
    exact bin_ok (a := .int 1) rfl c0 rfl
  unfold s_law_k02_15
  simp only [parS, consA, c1, c2, nilA, bindM]
  rfl
theorem s16_ok {v : Int} (h0 : 1 ≤ v) (h1 : v ≤ many) (g : Good (1 + k) S) : ∃ l S', s_law_k02_16 (kE scr x2 many r x5 x6 x7 x8 x9 x10 (some (.int v)) x12 x13 x14 x15 x16 x17 x18) S = .ok (.nx (kE scr x2 many r x5 x6 x7 x8 x9 x10 (some (.int v)) (some (.int l)) x13 x14 x15 x16 x17 x18), S') ∧ (l = v ∨ l = 0 - v) ∧ Good k S' := by
  obtain ⟨d, S1, e1, hd, g1⟩ := pick_ok (ds := [.int v, .int (0 - v)]) (k := k) (by simp) (by simp) (g.mono (by omega))
  obtain ⟨l, rfl, hl⟩ : ∃ l, d = .int l ∧ (l = v ∨ l = 0 - v) := by
    simp only [List.mem_cons, List.not_mem_nil, or_false] at hd
    rcases hd with rfl | rfl
    · exact ⟨_, rfl, .inl rfl⟩
    · exact ⟨_, rfl, .inr rfl⟩
  refine ⟨l, S1, asgG1 ?_, hl, g1⟩
  have a1 : varM 1 (kE scr x2 many r x5 x6 x7 x8 x9 x10 (some (.int v)) x12 x13 x14 x15 x16 x17 x18) S = .ok (.st, S) := rfl
  have a2 : lstM (consA (varM 11) (consA (binM gSub (cM (.int 0)) (varM 11)) nilA)) (kE scr x2 many r x5 x6 x7 x8 x9 x10 (some (.int v)) x12 x13 x14 x15 x16 x17 x18) S = .ok (.lst [.int v, .int (0 - v)], S) := rfl
  simp only [callS, consA, a1, a2, nilA, bindM, e1]
theorem t17_ok (c : C2 many r) (hf : FlOk many.toNat f) (hl : litOk many l = true) (hi : InL f.length l) : t_law_k02_17 (kE scr x2 many r x5 x6 x7 (some (tupDI f)) x9 x10 x11 (some (.int l)) x13 x14 x15 x16 x17 x18) S = .ok (false, S) := by
  have m1 := c.m1
  have m2 := c.m2
  have p := worth_p m1 (by omega) hl hi hf
  have q := worth_ok hi
  have b := wv01 hf (by rw [← hf.1]; exact hi)
  obtain ⟨x, hx⟩ := two_ints (i := wv f l) (by omega)
  exact two_mul (f3 := callP G__law_worth [] (consA (varM 12) (consA (varM 8) nilA))) (cp3 (d := .int many) (m := .int l) (n := tupDI f) rfl rfl rfl p) (cpk3 (d := tupDI f) (m := .int l) (n := .int many) rfl rfl rfl p) (cp2 (d := .int l) (m := tupDI f) rfl rfl q) hx
theorem s18_ok (c : C2 many r) (g : Good (3 + k) S) : ∃ bf br bm S', s_law_k02_18 (kE scr x2 many r x5 x6 x7 x8 x9 x10 x11 x12 x13 x14 x15 x16 x17 x18) S = .ok (.nx (kE scr x2 many r x5 x6 x7 x8 x9 x10 x11 x12 (some bf) (some br) (some bm) x16 x17 x18), S') ∧ BadF many bf ∧ G_is_row_of [.int many, br] = .ok (.bl false) ∧ BM bm ∧ Good k S' := by
  have m1 := c.m1
  have m2 := c.m2
  obtain ⟨bf, S1, e1, h1, g1⟩ := badf_ok (many := many) (k := 2 + k) m1 (by omega) (g.mono (by omega))
  obtain ⟨br, S2, e2, h2, g2⟩ := badRow_ok (many := many) (k := 1 + k) m1 (g1.mono (by omega))
  obtain ⟨bm, S3, e3, h3, g3⟩ := badMany_ok (k := k) (g2.mono (by omega))
  refine ⟨bf, br, bm, S3, ?_, h1, h2, h3, g3⟩
  have v1 : ∀ T, varM 1 (kE scr x2 many r x5 x6 x7 x8 x9 x10 x11 x12 x13 x14 x15 x16 x17 x18) T = .ok (.st, T) := fun _ => rfl
  have v3 : ∀ T, varM 3 (kE scr x2 many r x5 x6 x7 x8 x9 x10 x11 x12 x13 x14 x15 x16 x17 x18) T = .ok (.int many, T) := fun _ => rfl
  have c1 : callS G__law_bad_filling (consA (varM 1) (consA (varM 3) nilA)) (kE scr x2 many r x5 x6 x7 x8 x9 x10 x11 x12 x13 x14 x15 x16 x17 x18) S = .ok (bf, S1) := by simp only [callS, consA, v1, v3, nilA, bindM, e1]
  have c2 : callS G__law_bad_row (consA (varM 1) (consA (varM 3) nilA)) (kE scr x2 many r x5 x6 x7 x8 x9 x10 x11 x12 x13 x14 x15 x16 x17 x18) S1 = .ok (br, S2) := by simp only [callS, consA, v1, v3, nilA, bindM, e2]
  have c3 : callS G__law_bad_many (consA (varM 1) nilA) (kE scr x2 many r x5 x6 x7 x8 x9 x10 x11 x12 x13 x14 x15 x16 x17 x18) S2 = .ok (bm, S3) := by simp only [callS, consA, v1, nilA, bindM, e3]
  have tp : tupM (consA (callS G__law_bad_filling (consA (varM 1) (consA (varM 3) nilA))) (consA (callS G__law_bad_row (consA (varM 1) (consA (varM 3) nilA))) (consA (callS G__law_bad_many (consA (varM 1) nilA)) nilA))) (kE scr x2 many r x5 x6 x7 x8 x9 x10 x11 x12 x13 x14 x15 x16 x17 x18) S = .ok (.tup [bf, br, bm], S3) := by
    generalize callS G__law_bad_filling (consA (varM 1) (consA (varM 3) nilA)) = X at c1 ⊢
    generalize callS G__law_bad_row (consA (varM 1) (consA (varM 3) nilA)) = Y at c2 ⊢
    generalize callS G__law_bad_many (consA (varM 1) nilA) = Z at c3 ⊢
    simp only [tupM, consA, c1, c2, c3, nilA, bindM]
    rfl
  unfold s_law_k02_18
  simp only [unpS, tp, bindM]
  rfl
abbrev turn19 : MS := ifS t_law_k02_19 (retS (cM (.bl false))) nextS
theorem items19 : ∀ (L : List (D × Bool)) (x9 x16 : Option D), (∀ p ∈ L, G_is_filling [.int many, p.1] = .ok (.bl p.2)) → ∃ y9 y16, loopS (setT [16, 9]) turn19 (L.map fun p => .tup [p.1, .bl p.2]) (kE scr x2 many r x5 x6 x7 x8 x9 x10 x11 x12 x13 x14 x15 x16 x17 x18) S = .ok (.nx (kE scr x2 many r x5 x6 x7 x8 (y9) x10 x11 x12 x13 x14 x15 (y16) x17 x18), S)
  | [], x9, x16, _ => ⟨x9, x16, rfl⟩
  | p :: L, x9, x16, h => by
    obtain ⟨y9, y16, q⟩ := items19 L (some (.bl p.2)) (some p.1) fun z hz => h z (List.mem_cons_of_mem _ hz)
    have a := h p List.mem_cons_self
    obtain ⟨x, hx⟩ := two_bls p.2
    have t : t_law_k02_19 (kE scr x2 many r x5 x6 x7 x8 (some (.bl p.2)) x10 x11 x12 x13 x14 x15 (some p.1) x17 x18) S = .ok (false, S) := two_same (f3 := varM 9) (f4 := varM 9) (cp2 (d := .int many) (m := p.1) rfl rfl a) (cpk2 (d := p.1) (m := .int many) rfl rfl a) rfl rfl hx
    have s : setT [16, 9] (kE scr x2 many r x5 x6 x7 x8 x9 x10 x11 x12 x13 x14 x15 x16 x17 x18) (.tup [p.1, .bl p.2]) = some (kE scr x2 many r x5 x6 x7 x8 (some (.bl p.2)) x10 x11 x12 x13 x14 x15 (some p.1) x17 x18) := rfl
    refine ⟨y9, y16, ?_⟩
    simp only [List.map_cons, loopS, s, turn19, if_no t]
    exact q
theorem s20_ok (c : C2 many r) (hf : FlOk many.toNat f) (hb : BadF many bf) (g : Good (1 + k) S) : ∃ y9 y16 S', s_law_k02_20 (kE scr x2 many r x5 x6 x7 (some (tupDI f)) x9 x10 x11 x12 (some bf) x14 x15 x16 x17 x18) S = .ok (.nx (kE scr x2 many r x5 x6 x7 (some (tupDI f)) (y9) x10 x11 x12 (some bf) x14 x15 (y16) x17 x18), S') ∧ Good k S' := by
  have m1 := c.m1
  have m2 := c.m2
  obtain ⟨d, S1, e1, hd, g1⟩ := oddK_ok (k := k) (g.mono (by omega))
  obtain ⟨y9, y16, q⟩ := items19 (scr := scr) (x2 := x2) (many := many) (r := r) (x5 := x5) (x6 := x6) (x7 := x7) (x8 := some (tupDI f)) (x10 := x10) (x11 := x11) (x12 := x12) (x13 := some bf) (x14 := x14) (x15 := x15) (x17 := x17) (x18 := x18) (S := S1) [(tupDI f, true), (bf, false), (d, false), (.lst (f.map D.int), false)] x9 x16 fun p hp => by
    simp only [List.mem_cons, List.not_mem_nil, or_false] at hp
    rcases hp with rfl | rfl | rfl | rfl
    · exact isf_of m1 (by omega) (is_filling_ok (by omega) hf)
    · exact isf_of m1 (by omega) hb
    · exact isf_of m1 (by omega) (odd_no m1 m2 d hd)
    · exact isf_of m1 (by omega) (badF_no rfl)
  refine ⟨y9, y16, S1, ?_, g1⟩
  have pS : tupM (consA (varM 8) (consA (cM (.bl true)) nilA)) (kE scr x2 many r x5 x6 x7 (some (tupDI f)) x9 x10 x11 x12 (some bf) x14 x15 x16 x17 x18) S = .ok (.tup [tupDI f, .bl true], S) := rfl
  have pS1 : tupM (consA (varM 8) (consA (cM (.bl true)) nilA)) (kE scr x2 many r x5 x6 x7 (some (tupDI f)) x9 x10 x11 x12 (some bf) x14 x15 x16 x17 x18) S1 = .ok (.tup [tupDI f, .bl true], S1) := rfl
  have p2 : tupM (consA (varM 13) (consA (cM (.bl false)) nilA)) (kE scr x2 many r x5 x6 x7 (some (tupDI f)) x9 x10 x11 x12 (some bf) x14 x15 x16 x17 x18) S = .ok (.tup [bf, .bl false], S) := rfl
  have v1 : varM 1 (kE scr x2 many r x5 x6 x7 (some (tupDI f)) x9 x10 x11 x12 (some bf) x14 x15 x16 x17 x18) S = .ok (.st, S) := rfl
  have p3 : tupM (consA (callS G__law_odd (consA (varM 1) nilA)) (consA (cM (.bl false)) nilA)) (kE scr x2 many r x5 x6 x7 (some (tupDI f)) x9 x10 x11 x12 (some bf) x14 x15 x16 x17 x18) S = .ok (.tup [d, .bl false], S1) := by
    have c1 : callS G__law_odd (consA (varM 1) nilA) (kE scr x2 many r x5 x6 x7 (some (tupDI f)) x9 x10 x11 x12 (some bf) x14 x15 x16 x17 x18) S = .ok (d, S1) := by simp only [callS, consA, v1, nilA, bindM, e1]
    simp only [tupM, consA, c1, cM, nilA, bindM]
    rfl
  have p4 : tupM (consA (cbM gList (consA (varM 8) nilA)) (consA (cM (.bl false)) nilA)) (kE scr x2 many r x5 x6 x7 (some (tupDI f)) x9 x10 x11 x12 (some bf) x14 x15 x16 x17 x18) S1 = .ok (.tup [.lst (f.map D.int), .bl false], S1) := rfl
  have hL : lstM (consA (tupM (consA (varM 8) (consA (cM (.bl true)) nilA))) (consA (tupM (consA (varM 13) (consA (cM (.bl false)) nilA))) (consA (tupM (consA (callS G__law_odd (consA (varM 1) nilA)) (consA (cM (.bl false)) nilA))) (consA (tupM (consA (cbM gList (consA (varM 8) nilA)) (consA (cM (.bl false)) nilA))) nilA)))) (kE scr x2 many r x5 x6 x7 (some (tupDI f)) x9 x10 x11 x12 (some bf) x14 x15 x16 x17 x18) S = .ok (.lst [.tup [tupDI f, .bl true], .tup [bf, .bl false], .tup [d, .bl false], .tup [.lst (f.map D.int), .bl false]], S1) := by
    generalize tupM (consA (varM 8) (consA (cM (.bl true)) nilA)) = A1 at pS ⊢
    generalize tupM (consA (varM 13) (consA (cM (.bl false)) nilA)) = A2 at p2 ⊢
    generalize tupM (consA (callS G__law_odd (consA (varM 1) nilA)) (consA (cM (.bl false)) nilA)) = A3 at p3 ⊢
    generalize tupM (consA (cbM gList (consA (varM 8) nilA)) (consA (cM (.bl false)) nilA)) = A4 at p4 ⊢
    simp only [lstM, consA, pS, p2, p3, p4, nilA, bindM]
    rfl
  unfold s_law_k02_20 forS
  rw [hL]
  exact q
theorem s43_ok (c : C2 many r) (h2 : G_is_row_of [.int many, br] = .ok (.bl false)) (h3 : BM bm) : s_law_k02_43 (kE scr x2 many r x5 x6 x7 x8 x9 x10 x11 x12 (some bf) (some br) (some bm) x16 x17 x18) S = .ok (.nx (kE scr x2 many r x5 x6 x7 x8 x9 x10 x11 x12 (some bf) (some br) (some bm) x16 (none) x18), S) := by
  have m1 := c.m1
  have m2 := c.m2
  have m3 : many ≤ 600 := by omega
  unfold s_law_k02_43
  refine forH_eq fun ws hw => ?_
  match ws, hw with
  | [w1, w2, w3, w4], _ =>
    have e0 : ∀ (y : Option D) (d : D), (kE scr x2 many r x5 x6 x7 x8 x9 x10 x11 x12 (some bf) (some br) (some bm) x16 (y) x18).set 17 (some d) = (kE scr x2 many r x5 x6 x7 x8 x9 x10 x11 x12 (some bf) (some br) (some bm) x16 (some d) x18) := fun _ _ => rfl
    have a0 : t_law_k02_23 (kE scr x2 many r x5 x6 x7 x8 x9 x10 x11 x12 (some bf) (some br) (some bm) x16 (some (.cls "opposite")) x18) S = .ok (false, S) := refused (l := l_law_k02_22) (S1 := S) (n := "BadMany") (f := "") (ds := []) (xl2 (i := 17) (z := "opposite") (G := G_opposite) (d := bm) (m := br) rfl rfl rfl rfl (m_opposite h3)) (by decide +kernel) (by decide +kernel)
    have b0 : t_law_k02_26 (kE scr x2 many r x5 x6 x7 x8 x9 x10 x11 x12 (some bf) (some br) (some bm) x16 (some (.cls "opposite")) x18) S = .ok (false, S) := refused (l := l_law_k02_25) (S1 := S) (n := "BadRow") (f := "") (ds := []) (xl2 (i := 17) (z := "opposite") (G := G_opposite) (d := .int many) (m := br) rfl rfl rfl rfl (r_opposite m1 m3 h2)) (by decide +kernel) (by decide +kernel)
    have c0 : seqS (ifS t_law_k02_23 (retS (cM (.bl false))) nextS) (ifS t_law_k02_26 (retS (cM (.bl false))) nextS) (kE scr x2 many r x5 x6 x7 x8 x9 x10 x11 x12 (some bf) (some br) (some bm) x16 (some (.cls "opposite")) x18) S = .ok (.nx (kE scr x2 many r x5 x6 x7 x8 x9 x10 x11 x12 (some bf) (some br) (some bm) x16 (some (.cls "opposite")) x18), S) := by
      rw [seq_nx (if_no a0)]; exact if_no b0
    have a1 : t_law_k02_29 (kE scr x2 many r x5 x6 x7 x8 x9 x10 x11 x12 (some bf) (some br) (some bm) x16 (some (.cls "total")) x18) S = .ok (false, S) := refused (l := l_law_k02_28) (S1 := S) (n := "BadMany") (f := "") (ds := []) (xl2 (i := 17) (z := "total") (G := G_total) (d := bm) (m := br) rfl rfl rfl rfl (m_total h3)) (by decide +kernel) (by decide +kernel)
    have b1 : t_law_k02_32 (kE scr x2 many r x5 x6 x7 x8 x9 x10 x11 x12 (some bf) (some br) (some bm) x16 (some (.cls "total")) x18) S = .ok (false, S) := refused (l := l_law_k02_31) (S1 := S) (n := "BadRow") (f := "") (ds := []) (xl2 (i := 17) (z := "total") (G := G_total) (d := .int many) (m := br) rfl rfl rfl rfl (r_total m1 m3 h2)) (by decide +kernel) (by decide +kernel)
    have c1 : seqS (ifS t_law_k02_29 (retS (cM (.bl false))) nextS) (ifS t_law_k02_32 (retS (cM (.bl false))) nextS) (kE scr x2 many r x5 x6 x7 x8 x9 x10 x11 x12 (some bf) (some br) (some bm) x16 (some (.cls "total")) x18) S = .ok (.nx (kE scr x2 many r x5 x6 x7 x8 x9 x10 x11 x12 (some bf) (some br) (some bm) x16 (some (.cls "total")) x18), S) := by
      rw [seq_nx (if_no a1)]; exact if_no b1
    have a2 : t_law_k02_35 (kE scr x2 many r x5 x6 x7 x8 x9 x10 x11 x12 (some bf) (some br) (some bm) x16 (some (.cls "is_impossible")) x18) S = .ok (false, S) := refused (l := l_law_k02_34) (S1 := S) (n := "BadMany") (f := "") (ds := []) (xl2 (i := 17) (z := "is_impossible") (G := G_is_impossible) (d := bm) (m := br) rfl rfl rfl rfl (m_is_impossible h3)) (by decide +kernel) (by decide +kernel)
    have b2 : t_law_k02_38 (kE scr x2 many r x5 x6 x7 x8 x9 x10 x11 x12 (some bf) (some br) (some bm) x16 (some (.cls "is_impossible")) x18) S = .ok (false, S) := refused (l := l_law_k02_37) (S1 := S) (n := "BadRow") (f := "") (ds := []) (xl2 (i := 17) (z := "is_impossible") (G := G_is_impossible) (d := .int many) (m := br) rfl rfl rfl rfl (r_is_impossible m1 m3 h2)) (by decide +kernel) (by decide +kernel)
    have c2 : seqS (ifS t_law_k02_35 (retS (cM (.bl false))) nextS) (ifS t_law_k02_38 (retS (cM (.bl false))) nextS) (kE scr x2 many r x5 x6 x7 x8 x9 x10 x11 x12 (some bf) (some br) (some bm) x16 (some (.cls "is_impossible")) x18) S = .ok (.nx (kE scr x2 many r x5 x6 x7 x8 x9 x10 x11 x12 (some bf) (some br) (some bm) x16 (some (.cls "is_impossible")) x18), S) := by
      rw [seq_nx (if_no a2)]; exact if_no b2
    have w1' : callWP [10] 17 2 w4 (consA (varM 15) (consA (varM 14) nilA)) l_law_k02_40 (kE scr x2 many r x5 x6 x7 x8 x9 x10 x11 x12 (some bf) (some br) (some bm) x16 (some (.opq w4)) x18) S = .exc "BadMany" "" [] S := (callWP_eq (ds := [bm, br]) (S1 := S) rfl rfl rfl rfl).trans (xp3 (d := bm) (m := br) (x := bf) rfl rfl rfl (m_holds h3))
    have w2' : callWP [10] 17 2 w4 (consA (varM 3) (consA (varM 14) nilA)) l_law_k02_42 (kE scr x2 many r x5 x6 x7 x8 x9 x10 x11 x12 (some bf) (some br) (some bm) x16 (some (.opq w4)) x18) S = .exc "BadRow" "" [] S := (callWP_eq (ds := [.int many, br]) (S1 := S) rfl rfl rfl rfl).trans (xp3 (d := .int many) (m := br) (x := bf) rfl rfl rfl (r_holds m1 m3 h2))
    have a3 : (notT (testM (unM (gIsD [("BadMany", true), ("BadLiteral", false), ("BadRow", false), ("BadFilling", false), ("TooMany", false)]) (caughtM ["BadMany", "BadLiteral", "BadRow", "BadFilling", "TooMany"] (callWP [10] 17 2 w4 (consA (varM 15) (consA (varM 14) nilA)) l_law_k02_40))))) (kE scr x2 many r x5 x6 x7 x8 x9 x10 x11 x12 (some bf) (some br) (some bm) x16 (some (.opq w4)) x18) S = .ok (false, S) := refused w1' (by decide +kernel) (by decide +kernel)
    have b3 : (notT (testM (unM (gIsD [("BadMany", false), ("BadLiteral", false), ("BadRow", true), ("BadFilling", false), ("TooMany", false)]) (caughtM ["BadMany", "BadLiteral", "BadRow", "BadFilling", "TooMany"] (callWP [10] 17 2 w4 (consA (varM 3) (consA (varM 14) nilA)) l_law_k02_42))))) (kE scr x2 many r x5 x6 x7 x8 x9 x10 x11 x12 (some bf) (some br) (some bm) x16 (some (.opq w4)) x18) S = .ok (false, S) := refused w2' (by decide +kernel) (by decide +kernel)
    have c3 : seqS (ifS (notT (testM (unM (gIsD [("BadMany", true), ("BadLiteral", false), ("BadRow", false), ("BadFilling", false), ("TooMany", false)]) (caughtM ["BadMany", "BadLiteral", "BadRow", "BadFilling", "TooMany"] (callWP [10] 17 2 w4 (consA (varM 15) (consA (varM 14) nilA)) l_law_k02_40))))) (retS (cM (.bl false))) nextS) (ifS (notT (testM (unM (gIsD [("BadMany", false), ("BadLiteral", false), ("BadRow", true), ("BadFilling", false), ("TooMany", false)]) (caughtM ["BadMany", "BadLiteral", "BadRow", "BadFilling", "TooMany"] (callWP [10] 17 2 w4 (consA (varM 3) (consA (varM 14) nilA)) l_law_k02_42))))) (retS (cM (.bl false))) nextS) (kE scr x2 many r x5 x6 x7 x8 x9 x10 x11 x12 (some bf) (some br) (some bm) x16 (some (.opq w4)) x18) S = .ok (.nx (kE scr x2 many r x5 x6 x7 x8 x9 x10 x11 x12 (some bf) (some br) (some bm) x16 (some (.opq w4)) x18), S) := by
      rw [seq_nx (if_no a3)]; exact if_no b3
    simp only [loopH, e0, c0, c1, c2, c3, cleanR]
    rfl
theorem t46_ok (c : C2 many r) (hb : BadF many bf) : t_law_k02_46 (kE scr x2 many r x5 x6 x7 x8 x9 x10 x11 x12 (some bf) x14 x15 x16 x17 x18) S = .ok (false, S) := by
  have m2 := c.m2
  exact refused (l := l_law_k02_45) (S1 := S) (n := "BadFilling") (f := "") (ds := []) (xp3 (d := .int many) (m := dRow r) (x := bf) rfl rfl rfl (f_holds c.m1 (by omega) c.ok hb)) (by decide +kernel) (by decide +kernel)
theorem t49_ok (c : C2 many r) (hl : litOk many l = true) (hb : BadF many bf) : t_law_k02_49 (kE scr x2 many r x5 x6 x7 x8 x9 x10 x11 (some (.int l)) (some bf) x14 x15 x16 x17 x18) S = .ok (false, S) := by
  have m2 := c.m2
  exact refused (l := l_law_k02_48) (S1 := S) (n := "BadFilling") (f := "") (ds := []) (xp3 (d := .int many) (m := .int l) (x := bf) rfl rfl rfl (f_worth c.m1 (by omega) hl hb)) (by decide +kernel) (by decide +kernel)
theorem t52_ok (c : C2 many r) (g : Good (1 + k) S) : ∃ S', t_law_k02_52 (kE scr x2 many r x5 x6 x7 x8 x9 x10 x11 x12 (some bf) x14 x15 x16 x17 x18) S = .ok (false, S') ∧ Good k S' := by
  obtain ⟨d, S1, e1, hd, g1⟩ := pick_ok (ds := wlL many) (k := k) (by simp) (by simp) (g.mono (by omega))
  refine ⟨S1, ?_, g1⟩
  have v1 : varM 1 (kE scr x2 many r x5 x6 x7 x8 x9 x10 x11 x12 (some bf) x14 x15 x16 x17 x18) S = .ok (.st, S) := rfl
  have v2 : lstM (consA (cM (.int 0)) (consA (binM gAdd (varM 3) (cM (.int 1))) (consA (cM .non) (consA (cM (.bl true)) (consA (cM (.str "1")) nilA))))) (kE scr x2 many r x5 x6 x7 x8 x9 x10 x11 x12 (some bf) x14 x15 x16 x17 x18) S = .ok (.lst (wlL many), S) := rfl
  have c1 : callS G__law_pick (consA (varM 1) (consA (lstM (consA (cM (.int 0)) (consA (binM gAdd (varM 3) (cM (.int 1))) (consA (cM .non) (consA (cM (.bl true)) (consA (cM (.str "1")) nilA)))))) nilA)) (kE scr x2 many r x5 x6 x7 x8 x9 x10 x11 x12 (some bf) x14 x15 x16 x17 x18) S = .ok (d, S1) := by
    generalize lstM (consA (cM (.int 0)) (consA (binM gAdd (varM 3) (cM (.int 1))) (consA (cM .non) (consA (cM (.bl true)) (consA (cM (.str "1")) nilA))))) = X at v2 ⊢
    simp only [callS, consA, v1, v2, nilA, bindM, e1]
  exact refused (l := l_law_k02_51) (S1 := S1) (n := "BadLiteral") (f := "") (ds := []) (xp3 (d := .int many) (m := d) (x := bf) rfl c1 rfl (l_worth c.m1 c.m2 hd)) (by decide +kernel) (by decide +kernel)
abbrev dTM : D := .exc "TooMany" "most" [.int 12]
theorem s54_ok (g : Good (1 + k) S) : ∃ S', s_law_k02_54 (kE scr x2 many r x5 x6 x7 x8 x9 x10 x11 x12 x13 x14 x15 x16 x17 x18) S = .ok (.nx (kE scr x2 many r x5 x6 x7 x8 x9 x10 x11 x12 x13 x14 x15 x16 x17 (some dTM)), S') ∧ Good k S' := by
  obtain ⟨d, S1, e1, hd, g1⟩ := pick_ok (ds := tmL) (k := k) (by decide) (by decide) (g.mono (by omega))
  refine ⟨S1, asgG1 ?_, g1⟩
  have v1 : varM 1 (kE scr x2 many r x5 x6 x7 x8 x9 x10 x11 x12 x13 x14 x15 x16 x17 x18) S = .ok (.st, S) := rfl
  have v2 : (lstM (consA (cM (.int 13)) (consA (cM (.int 14)) (consA (cM (.int 40)) (consA (cM (.int 200)) (consA (cM (.int 600)) nilA)))))) (kE scr x2 many r x5 x6 x7 x8 x9 x10 x11 x12 x13 x14 x15 x16 x17 x18) S = .ok (.lst tmL, S) := rfl
  have c1 : callS G__law_pick (consA (varM 1) (consA (lstM (consA (cM (.int 13)) (consA (cM (.int 14)) (consA (cM (.int 40)) (consA (cM (.int 200)) (consA (cM (.int 600)) nilA)))))) nilA)) (kE scr x2 many r x5 x6 x7 x8 x9 x10 x11 x12 x13 x14 x15 x16 x17 x18) S = .ok (d, S1) := by
    generalize (lstM (consA (cM (.int 13)) (consA (cM (.int 14)) (consA (cM (.int 40)) (consA (cM (.int 200)) (consA (cM (.int 600)) nilA)))))) = X at v2 ⊢
    simp only [callS, consA, v1, v2, nilA, bindM, e1]
  have c2 : l_law_k02_53 (kE scr x2 many r x5 x6 x7 x8 x9 x10 x11 x12 x13 x14 x15 x16 x17 x18) S = .exc "TooMany" "most" [.int 12] S1 := by
    unfold l_law_k02_53
    generalize callS G__law_pick (consA (varM 1) (consA (lstM (consA (cM (.int 13)) (consA (cM (.int 14)) (consA (cM (.int 40)) (consA (cM (.int 200)) (consA (cM (.int 600)) nilA)))))) nilA)) = Y at c1 ⊢
    simp only [callP, consA, c1, nilA, bindM, List.append_nil, tm_fills d hd, liftP]
  exact caughtX (by decide +kernel) c2
theorem t55_ok (h3 : BM bm) : t_law_k02_55 (kE scr x2 many r x5 x6 x7 x8 x9 x10 x11 x12 x13 x14 (some bm) x16 x17 (some dTM)) S = .ok (false, S) := by
  have i : gIsD [("BadMany", false), ("BadLiteral", false), ("BadRow", false), ("BadFilling", false), ("TooMany", true)] dTM = some (.bl true) := isD_of (by decide +kernel)
  have v : varM 18 (kE scr x2 many r x5 x6 x7 x8 x9 x10 x11 x12 x13 x14 (some bm) x16 x17 (some dTM)) S = .ok (dTM, S) := rfl
  have u : unM (gIsD [("BadMany", false), ("BadLiteral", false), ("BadRow", false), ("BadFilling", false), ("TooMany", true)]) (varM 18) (kE scr x2 many r x5 x6 x7 x8 x9 x10 x11 x12 x13 x14 (some bm) x16 x17 (some dTM)) S = .ok (.bl true, S) := by simp only [unM, v, bindM, i, ofO]
  have fl : gFld ["TooMany"] "most" dTM = some (.int 12) := by kernel_rfl
  have rp : gReprI [.int 12] = some (.str "12") := by kernel_rfl
  have q := gNe_strs "12"
  have l2 : testM (binM gNe (cbM gReprI (consA (unM (gFld ["TooMany"] "most") (varM 18)) nilA)) (cM (.str "12"))) (kE scr x2 many r x5 x6 x7 x8 x9 x10 x11 x12 x13 x14 (some bm) x16 x17 (some dTM)) S = .ok (false, S) := by
    have a : cbM gReprI (consA (unM (gFld ["TooMany"] "most") (varM 18)) nilA) (kE scr x2 many r x5 x6 x7 x8 x9 x10 x11 x12 x13 x14 (some bm) x16 x17 (some dTM)) S = .ok (.str "12", S) := by simp only [cbM, consA, unM, v, nilA, bindM, fl, rp, ofO]
    exact test_of (bin_ok (op := gNe) (b := .str "12") a rfl q)
  have l3 : notT (testM (unM (gIsD [("BadMany", true), ("BadLiteral", false), ("BadRow", false), ("BadFilling", false), ("TooMany", false)]) (caughtM ["BadMany", "BadLiteral", "BadRow", "BadFilling", "TooMany"] (callP G_fillings [] (consA (varM 15) nilA))))) (kE scr x2 many r x5 x6 x7 x8 x9 x10 x11 x12 x13 x14 (some bm) x16 x17 (some dTM)) S = .ok (false, S) := refused (xp1 (d := bm) rfl (m_fills h3)) (by decide +kernel) (by decide +kernel)
  exact or_no (not_of (test_of u)) (or_no l2 l3)
end
end My
namespace My
open PySem PySem.Spec L2 VS
section
variable {scr : D} {x2 x3 x4 x5 x6 x7 x8 x9 x10 x11 x12 x13 x14 x15 x16 x17 x18 : Option D} {S : DS} {k : Nat}
theorem unp2 {q : Int} {r : Trm × Int} {fs : List (List Int)} {S S1 : DS} (e1 : G__law_row [.st, .int (1 + q), .int 6] S = .ok (dRow r, S1)) (e2 : G__law_fillings [.int (1 + q)] = .ok (.lst (fs.map tupDI))) : s_law_k02_2 [some scr, some .st, x2, some (.int (1 + q)), x4, x5, x6, x7, x8, x9, x10, x11, x12, x13, x14, x15, x16, x17, x18] S = .ok (.nx (kE scr x2 (1 + q) r (some (.lst (fs.map tupDI))) x6 x7 x8 x9 x10 x11 x12 x13 x14 x15 x16 x17 x18), S1) := by
  have v1 : varM 1 [some scr, some .st, x2, some (.int (1 + q)), x4, x5, x6, x7, x8, x9, x10, x11, x12, x13, x14, x15, x16, x17, x18] S = .ok (.st, S) := rfl
  have v3 : ∀ T, varM 3 [some scr, some .st, x2, some (.int (1 + q)), x4, x5, x6, x7, x8, x9, x10, x11, x12, x13, x14, x15, x16, x17, x18] T = .ok (.int (1 + q), T) := fun _ => rfl
  have c1 : callS G__law_row (consA (varM 1) (consA (varM 3) (consA (cM (.int 6)) nilA))) [some scr, some .st, x2, some (.int (1 + q)), x4, x5, x6, x7, x8, x9, x10, x11, x12, x13, x14, x15, x16, x17, x18] S = .ok (dRow r, S1) := by simp only [callS, consA, v1, v3, cM, nilA, bindM, e1]
  have c2 : callP G__law_fillings [] (consA (varM 3) nilA) [some scr, some .st, x2, some (.int (1 + q)), x4, x5, x6, x7, x8, x9, x10, x11, x12, x13, x14, x15, x16, x17, x18] S1 = .ok (.lst (fs.map tupDI), S1) := cp1 (d := .int (1 + q)) rfl e2
  have tp : tupM (consA (callS G__law_row (consA (varM 1) (consA (varM 3) (consA (cM (.int 6)) nilA)))) (consA (callP G__law_fillings [] (consA (varM 3) nilA)) nilA)) [some scr, some .st, x2, some (.int (1 + q)), x4, x5, x6, x7, x8, x9, x10, x11, x12, x13, x14, x15, x16, x17, x18] S = .ok (.tup [dRow r, .lst (fs.map tupDI)], S1) := by
    generalize callS G__law_row (consA (varM 1) (consA (varM 3) (consA (cM (.int 6)) nilA))) = X at c1 ⊢
    generalize callP G__law_fillings [] (consA (varM 3) nilA) = Y at c2 ⊢
    simp only [tupM, consA, c1, c2, nilA, bindM]
    rfl
  unfold s_law_k02_2
  simp only [unpS, tp, bindM]
  rfl
theorem body_ok (g : Good (40 + k) S) : ∃ y3 y4 y5 y6 y7 y8 y9 y10 y11 y12 y13 y14 y15 y16 y17 y18 S', b_law_k02_56 [some scr, some .st, x2, x3, x4, x5, x6, x7, x8, x9, x10, x11, x12, x13, x14, x15, x16, x17, x18] S = .ok (.nx [some scr, some .st, x2, y3, y4, y5, y6, y7, y8, y9, y10, y11, y12, y13, y14, y15, y16, y17, y18], S') ∧ Good k S' := by
  obtain ⟨q, S1, h1, q0, q1, g1⟩ := draw_ok (n := 6) (k := 39 + k) (by omega) (by omega) (g.mono (by omega))
  have m1 : 1 ≤ 1 + q := by omega
  have m2 : 1 + q ≤ 6 := by omega
  obtain ⟨r, S2, h2, hr, hw, hb, g2⟩ := row_ok' (many := 1 + q) (most := 6) (S := S1) (k := 15 + k) m1 (by omega) (by omega) (by omega) (g1.mono (by omega))
  have c := C2.of m1 m2 hr hw hb
  have L := lex_fls (1 + q).toNat
  have e5 := fill_lex m1 m2
  have e10 := pfill_lex m1 m2
  have hf : ∀ f, f ∈ lexF (1 + q).toNat ↔ FlOk (1 + q).toNat f := L.1
  have hf1 : ∀ f ∈ lexF (1 + q).toNat, FlOk (1 + q).toNat f := fun f h => (hf f).mp h
  have hl : (lexF (1 + q).toNat).length ≤ 64 := by
    rw [L.2]
    have : (1 + q).toNat ≤ 6 := by omega
    calc 2 ^ (1 + q).toNat ≤ 2 ^ 6 := Nat.pow_le_pow_right (by decide) this
      _ = 64 := by decide
  have h0 : lexF (1 + q).toNat ≠ [] := fun z => by
    have := L.2
    rw [z] at this
    have := Nat.two_pow_pos (1 + q).toNat
    simp at *
    omega
  have a1 : s_law_k02_1 [some scr, some .st, x2, x3, x4, x5, x6, x7, x8, x9, x10, x11, x12, x13, x14, x15, x16, x17, x18] S = .ok (.nx [some scr, some .st, x2, some (.int (1 + q)), x4, x5, x6, x7, x8, x9, x10, x11, x12, x13, x14, x15, x16, x17, x18], S1) := by
    unfold s_law_k02_1
    simp only [startE, List.map_cons, List.map_nil, Nat.reduceSub, List.replicate_succ, List.replicate_zero, seqS, ifS, retS, asgS, dropS, nextS, retN, unpS, parS, par3S, parOS, appS, setA, popM, nxSet, nxUnp, appPopM, forS, forR, forE, raiseS, varM, cM, unM, binM, chM, tupM, lstM, nilA, consA, testM, andT, orT, notT, andV, orV, notV, ifM, cbM, callP, callS, bindM, ofO, liftP, endP, endS, get2M, gGet2, VS.keyD, setAll, setN, setT, wipeE, List.getElem?_cons_zero, List.getElem?_cons_succ, List.set_cons_zero, List.set_cons_succ, List.append_nil, List.cons_append, List.nil_append, List.length_cons, List.length_nil, Nat.zero_add, Nat.reduceAdd, Nat.reduceLeDiff, Nat.zero_le, if_true, if_false, Bool.false_eq_true, Bool.not_true, Bool.not_false, gII, gAdd, gEq_int, gNe_int, reduceCtorEq, h1]
  have a2 := unp2 (scr := scr) (x2 := x2) (x4 := x4) (x5 := x5) (x6 := x6) (x7 := x7) (x8 := x8) (x9 := x9) (x10 := x10) (x11 := x11) (x12 := x12) (x13 := x13) (x14 := x14) (x15 := x15) (x16 := x16) (x17 := x17) (x18 := x18) h2 e5
  have a3 : asgS 6 (callP G__law_opposite [] (consA (varM 4) nilA)) (kE scr x2 (1 + q) r (some (.lst ((lexF (1 + q).toNat).map tupDI))) (x6) (x7) (x8) (x9) (x10) (x11) (x12) (x13) (x14) (x15) (x16) (x17) (x18)) S2 = .ok (.nx (kE scr x2 (1 + q) r (some (.lst ((lexF (1 + q).toNat).map tupDI))) (some (dRow (oppR r))) (x7) (x8) (x9) (x10) (x11) (x12) (x13) (x14) (x15) (x16) (x17) (x18)), S2) := asgG1 (cp1 (d := dRow r) rfl law_opp_ok)
  have a4 := t3_ok (scr := scr) (x2 := x2) (r := r) (many := 1 + q) (x5 := some (.lst ((lexF (1 + q).toNat).map tupDI))) (x7 := x7) (x8 := x8) (x9 := x9) (x10 := x10) (x11 := x11) (x12 := x12) (x13 := x13) (x14 := x14) (x15 := x15) (x16 := x16) (x17 := x17) (x18 := x18) (S := S2) c
  have a5 := t4_ok (scr := scr) (x2 := x2) (r := r) (many := 1 + q) (x5 := some (.lst ((lexF (1 + q).toNat).map tupDI))) (x7 := x7) (x8 := x8) (x9 := x9) (x10 := x10) (x11 := x11) (x12 := x12) (x13 := x13) (x14 := x14) (x15 := x15) (x16 := x16) (x17 := x17) (x18 := x18) (S := S2) c
  have a6 := t5_ok (scr := scr) (x2 := x2) (r := r) (many := 1 + q) (x5 := some (.lst ((lexF (1 + q).toNat).map tupDI))) (x6 := some (dRow (oppR r))) (x7 := x7) (x8 := x8) (x9 := x9) (x10 := x10) (x11 := x11) (x12 := x12) (x13 := x13) (x14 := x14) (x15 := x15) (x16 := x16) (x17 := x17) (x18 := x18) (S := S2) c
  have a7 := s7_ok (fs := lexF (1 + q).toNat) (scr := scr) (x2 := x2) (r := r) (many := 1 + q) (x6 := some (dRow (oppR r))) (x7 := x7) (x8 := x8) (x9 := x9) (x10 := x10) (x11 := x11) (x12 := x12) (x13 := x13) (x14 := x14) (x15 := x15) (x16 := x16) (x17 := x17) (x18 := x18) (S := S2) c hf1
  have a8 := t9_ok (fs := lexF (1 + q).toNat) (scr := scr) (x2 := x2) (r := r) (many := 1 + q) (x6 := some (dRow (oppR r))) (x8 := x8) (x9 := x9) (x10 := x10) (x11 := x11) (x12 := x12) (x13 := x13) (x14 := x14) (x15 := x15) (x16 := x16) (x17 := x17) (x18 := x18) (S := S2) c hf1 hl h0
  have a9 := t11_ok (fs := lexF (1 + q).toNat) (scr := scr) (x2 := x2) (r := r) (many := 1 + q) (x8 := x8) (x9 := x9) (x10 := x10) (x11 := x11) (x12 := x12) (x13 := x13) (x14 := x14) (x15 := x15) (x16 := x16) (x17 := x17) (x18 := x18) (S := S2) c hf1
  have a10 := t12_ok (fs := lexF (1 + q).toNat) (scr := scr) (x2 := x2) (r := r) (many := 1 + q) (x5 := some (.lst ((lexF (1 + q).toNat).map tupDI))) (x6 := some (dRow (oppR r))) (x8 := x8) (x9 := x9) (x10 := x10) (x11 := x11) (x12 := x12) (x13 := x13) (x14 := x14) (x15 := x15) (x16 := x16) (x17 := x17) (x18 := x18) (S := S2) c hf
  have a11 := s10_ok (scr := scr) (x2 := x2) (r := r) (many := 1 + q) (x5 := some (.lst ((lexF (1 + q).toNat).map tupDI))) (x6 := some (dRow (oppR r))) (x7 := some (.lst (told r (lexF (1 + q).toNat)))) (x8 := x8) (x9 := x9) (x10 := x10) (x11 := x11) (x12 := x12) (x13 := x13) (x14 := x14) (x15 := x15) (x16 := x16) (x17 := x17) (x18 := x18) (S := S2) c
  have a12 := t13_ok (fs := lexF (1 + q).toNat) (scr := scr) (x2 := x2) (r := r) (many := 1 + q) (x6 := some (dRow (oppR r))) (x7 := some (.lst (told r (lexF (1 + q).toNat)))) (x8 := x8) (x9 := x9) (x11 := x11) (x12 := x12) (x13 := x13) (x14 := x14) (x15 := x15) (x16 := x16) (x17 := x17) (x18 := x18) (S := S2) c hf1 hl
  have a13 := a10_ok (fs := lexF (1 + q).toNat) (scr := scr) (x2 := x2) (r := r) (many := 1 + q) (x5 := some (.lst ((lexF (1 + q).toNat).map tupDI))) (x6 := some (dRow (oppR r))) (x7 := some (.lst (told r (lexF (1 + q).toNat)))) (x8 := x8) (x9 := x9) (x11 := x11) (x12 := x12) (x13 := x13) (x14 := x14) (x15 := x15) (x16 := x16) (x17 := x17) (x18 := x18) (S := S2) hl
  have a14 := t14_ok (scr := scr) (x2 := x2) (r := r) (many := 1 + q) (x6 := some (dRow (oppR r))) (x7 := some (.lst (told r (lexF (1 + q).toNat)))) (x8 := x8) (x9 := x9) (x10 := some (.lst ((lexF (1 + q).toNat).map tupDI ++ [.non]))) (x11 := x11) (x12 := x12) (x13 := x13) (x14 := x14) (x15 := x15) (x16 := x16) (x17 := x17) (x18 := x18) (S := S2) c hf1 hl
  obtain ⟨f, v, S3, a15, hfm, v0, v1, g3⟩ := s15_ok (fs := lexF (1 + q).toNat) (scr := scr) (x2 := x2) (r := r) (many := 1 + q) (x6 := some (dRow (oppR r))) (x7 := some (.lst (told r (lexF (1 + q).toNat)))) (x8 := x8) (x9 := x9) (x10 := some (.lst ((lexF (1 + q).toNat).map tupDI ++ [.non]))) (x11 := x11) (x12 := x12) (x13 := x13) (x14 := x14) (x15 := x15) (x16 := x16) (x17 := x17) (x18 := x18) (S := S2) (k := 13 + k) c h0 hl (g2.mono (by omega))
  have ff := hf1 f hfm
  obtain ⟨l, S4, a16, hlv, g4⟩ := s16_ok (scr := scr) (x2 := x2) (r := r) (many := 1 + q) (x5 := some (.lst ((lexF (1 + q).toNat).map tupDI))) (x6 := some (dRow (oppR r))) (x7 := some (.lst (told r (lexF (1 + q).toNat)))) (x8 := some (tupDI f)) (x9 := x9) (x10 := some (.lst ((lexF (1 + q).toNat).map tupDI ++ [.non]))) (x12 := x12) (x13 := x13) (x14 := x14) (x15 := x15) (x16 := x16) (x17 := x17) (x18 := x18) (v := v) (S := S3) (k := 12 + k) v0 v1 (g3.mono (by omega))
  have hi : InL f.length l := by
    rw [ff.1]
    exact ⟨by omega, by omega⟩
  have hlo : litOk (1 + q) l = true := by
    unfold litOk
    have z : l ≠ 0 := by omega
    rw [decide_eq_true (p := -(1 + q) ≤ l) (by omega), decide_eq_true (p := l ≤ 1 + q) (by omega)]
    simpa using z
  have a17 := t17_ok (scr := scr) (x2 := x2) (r := r) (many := 1 + q) (x5 := some (.lst ((lexF (1 + q).toNat).map tupDI))) (x6 := some (dRow (oppR r))) (x7 := some (.lst (told r (lexF (1 + q).toNat)))) (x9 := x9) (x10 := some (.lst ((lexF (1 + q).toNat).map tupDI ++ [.non]))) (x11 := some (.int v)) (x13 := x13) (x14 := x14) (x15 := x15) (x16 := x16) (x17 := x17) (x18 := x18) (f := f) (l := l) (S := S4) c ff hlo hi
  obtain ⟨bf, br, bm, S5, a18, hbf, hbr, hbm, g5⟩ := s18_ok (scr := scr) (x2 := x2) (r := r) (many := 1 + q) (x5 := some (.lst ((lexF (1 + q).toNat).map tupDI))) (x6 := some (dRow (oppR r))) (x7 := some (.lst (told r (lexF (1 + q).toNat)))) (x8 := some (tupDI f)) (x9 := x9) (x10 := some (.lst ((lexF (1 + q).toNat).map tupDI ++ [.non]))) (x11 := some (.int v)) (x12 := some (.int l)) (x13 := x13) (x14 := x14) (x15 := x15) (x16 := x16) (x17 := x17) (x18 := x18) (S := S4) (k := 9 + k) c (g4.mono (by omega))
  obtain ⟨y9, y16, S6, a19, g6⟩ := s20_ok (scr := scr) (x2 := x2) (r := r) (many := 1 + q) (x5 := some (.lst ((lexF (1 + q).toNat).map tupDI))) (x6 := some (dRow (oppR r))) (x7 := some (.lst (told r (lexF (1 + q).toNat)))) (x9 := x9) (x10 := some (.lst ((lexF (1 + q).toNat).map tupDI ++ [.non]))) (x11 := some (.int v)) (x12 := some (.int l)) (x14 := some br) (x15 := some bm) (x16 := x16) (x17 := x17) (x18 := x18) (bf := bf) (f := f) (S := S5) (k := 8 + k) c ff hbf (g5.mono (by omega))
  have a20 := s43_ok (scr := scr) (x2 := x2) (r := r) (many := 1 + q) (x5 := some (.lst ((lexF (1 + q).toNat).map tupDI))) (x6 := some (dRow (oppR r))) (x7 := some (.lst (told r (lexF (1 + q).toNat)))) (x8 := some (tupDI f)) (x9 := y9) (x10 := some (.lst ((lexF (1 + q).toNat).map tupDI ++ [.non]))) (x11 := some (.int v)) (x12 := some (.int l)) (x16 := y16) (x17 := x17) (x18 := x18) (bf := bf) (br := br) (bm := bm) (S := S6) c hbr hbm
  have a21 := t46_ok (scr := scr) (x2 := x2) (r := r) (many := 1 + q) (x5 := some (.lst ((lexF (1 + q).toNat).map tupDI))) (x6 := some (dRow (oppR r))) (x7 := some (.lst (told r (lexF (1 + q).toNat)))) (x8 := some (tupDI f)) (x9 := y9) (x10 := some (.lst ((lexF (1 + q).toNat).map tupDI ++ [.non]))) (x11 := some (.int v)) (x12 := some (.int l)) (x14 := some br) (x15 := some bm) (x16 := y16) (x17 := none) (x18 := x18) (bf := bf) (S := S6) c hbf
  have a22 := t49_ok (scr := scr) (x2 := x2) (r := r) (many := 1 + q) (x5 := some (.lst ((lexF (1 + q).toNat).map tupDI))) (x6 := some (dRow (oppR r))) (x7 := some (.lst (told r (lexF (1 + q).toNat)))) (x8 := some (tupDI f)) (x9 := y9) (x10 := some (.lst ((lexF (1 + q).toNat).map tupDI ++ [.non]))) (x11 := some (.int v)) (x14 := some br) (x15 := some bm) (x16 := y16) (x17 := none) (x18 := x18) (bf := bf) (l := l) (S := S6) c hlo hbf
  obtain ⟨S7, a23, g7⟩ := t52_ok (scr := scr) (x2 := x2) (r := r) (many := 1 + q) (x5 := some (.lst ((lexF (1 + q).toNat).map tupDI))) (x6 := some (dRow (oppR r))) (x7 := some (.lst (told r (lexF (1 + q).toNat)))) (x8 := some (tupDI f)) (x9 := y9) (x10 := some (.lst ((lexF (1 + q).toNat).map tupDI ++ [.non]))) (x11 := some (.int v)) (x12 := some (.int l)) (x14 := some br) (x15 := some bm) (x16 := y16) (x17 := none) (x18 := x18) (bf := bf) (S := S6) (k := 7 + k) c (g6.mono (by omega))
  obtain ⟨S8, a24, g8⟩ := s54_ok (scr := scr) (x2 := x2) (r := r) (many := 1 + q) (x5 := some (.lst ((lexF (1 + q).toNat).map tupDI))) (x6 := some (dRow (oppR r))) (x7 := some (.lst (told r (lexF (1 + q).toNat)))) (x8 := some (tupDI f)) (x9 := y9) (x10 := some (.lst ((lexF (1 + q).toNat).map tupDI ++ [.non]))) (x11 := some (.int v)) (x12 := some (.int l)) (x13 := some bf) (x14 := some br) (x15 := some bm) (x16 := y16) (x17 := none) (x18 := x18) (S := S7) (k := 6 + k) (g7.mono (by omega))
  have a25 := t55_ok (scr := scr) (x2 := x2) (r := r) (many := 1 + q) (x5 := some (.lst ((lexF (1 + q).toNat).map tupDI))) (x6 := some (dRow (oppR r))) (x7 := some (.lst (told r (lexF (1 + q).toNat)))) (x8 := some (tupDI f)) (x9 := y9) (x10 := some (.lst ((lexF (1 + q).toNat).map tupDI ++ [.non]))) (x11 := some (.int v)) (x12 := some (.int l)) (x13 := some bf) (x14 := some br) (x16 := y16) (x17 := none) (bm := bm) (S := S8) hbm
  refine ⟨some (.int (1 + q)), some (dRow r), some (.lst ((lexF (1 + q).toNat).map tupDI)), some (dRow (oppR r)), some (.lst (told r (lexF (1 + q).toNat))), some (tupDI f), y9, some (.lst ((lexF (1 + q).toNat).map tupDI ++ [.non])), some (.int v), some (.int l), some bf, some br, some bm, y16, none, some dTM, S8, ?_, g8.mono (by omega)⟩
  unfold b_law_k02_56
  rw [seq_nx a1, seq_nx a2, seq_nx a3, seq_nx (if_no a4), seq_nx (if_no a5), seq_nx (if_no a6), seq_nx a7, seq_nx (if_no a8), seq_nx (if_no a9), seq_nx (if_no a10), seq_nx a11, seq_nx (if_no a12), seq_nx a13, seq_nx (if_no a14), seq_nx a15, seq_nx a16, seq_nx (if_no a17), seq_nx a18, seq_nx a19, seq_nx a20, seq_nx (if_no a21), seq_nx (if_no a22), seq_nx (if_no a23), seq_nx a24, if_no a25]
end
abbrev lI (ns : List Int) : Nat → VS.Env → DS → Prop := fun i env S => ∃ y2 y3 y4 y5 y6 y7 y8 y9 y10 y11 y12 y13 y14 y15 y16 y17 y18, env = [some (.scr ns), some .st, y2, y3, y4, y5, y6, y7, y8, y9, y10, y11, y12, y13, y14, y15, y16, y17, y18] ∧ Good (40 * (9 - i)) S
theorem law_loop (ns : List Int) (m : Nat) (hm : m ≤ 9) {S : DS} (hg : Good 360 S) : ∃ env' S', loopS (setN 2) b_law_k02_56 (intsD 0 m) [some (.scr ns), some .st, none, none, none, none, none, none, none, none, none, none, none, none, none, none, none, none, none] S = .ok (.nx env', S') := by
  obtain ⟨env', S', h, _⟩ := loop_inv (set := setN 2) (g := b_law_k02_56) (lI ns) (intsD 0 m) 0 _ S ⟨none, none, none, none, none, none, none, none, none, none, none, none, none, none, none, none, none, rfl, hg.mono (by omega)⟩ (fun j d env S hj hI => by
    rw [Nat.zero_add] at hI ⊢
    have hlt : j < m := by have := (List.getElem?_eq_some_iff.mp hj).1; simpa [intsD] using this
    obtain ⟨y2, y3, y4, y5, y6, y7, y8, y9, y10, y11, y12, y13, y14, y15, y16, y17, y18, rfl, g⟩ := hI
    obtain ⟨z3, z4, z5, z6, z7, z8, z9, z10, z11, z12, z13, z14, z15, z16, z17, z18, S', h, g'⟩ := body_ok (scr := .scr ns) (x2 := some d) (x3 := y3) (x4 := y4) (x5 := y5) (x6 := y6) (x7 := y7) (x8 := y8) (x9 := y9) (x10 := y10) (x11 := y11) (x12 := y12) (x13 := y13) (x14 := y14) (x15 := y15) (x16 := y16) (x17 := y17) (x18 := y18) (k := 40 * (9 - (j + 1))) (S := S) (g.mono (by omega))
    exact ⟨_, _, S', rfl, h, _, _, _, _, _, _, _, _, _, _, _, _, _, _, _, _, _, rfl, g'⟩)
  exact ⟨env', S', h⟩
theorem law_true' (ns : List Int) (hn : ns.length ≤ 63) : ∃ S', g_law_k02 (some (.scr ns) :: some .st :: List.replicate 17 none) (begun ns) = .ok (.rt (.bl true), S') := by
  obtain ⟨m, hm, hr⟩ := range_m 3 6 ns (by omega) (by omega) (by omega)
  obtain ⟨env', S', h⟩ := law_loop ns m (by omega) ((begun_good ns hn).mono (by omega))
  refine ⟨S', ?_⟩
  have hE : (some (D.scr ns) :: some D.st :: List.replicate 17 none) = [some (.scr ns), some .st, none, none, none, none, none, none, none, none, none, none, none, none, none, none, none, none, none] := rfl
  have hA : consA (binM gAdd (cM (.int 3)) (cbM gMin (consA (cbM gLenA (consA (varM 0) nilA)) (consA (cM (.int 6)) nilA)))) nilA [some (.scr ns), some .st, none, none, none, none, none, none, none, none, none, none, none, none, none, none, none, none, none] (begun ns) = .ok ([.int (3 + (if (6 : Int) < (ns.length : Int) then 6 else (ns.length : Int)))], begun ns) := rfl
  have h1 : s_law_k02_57 [some (.scr ns), some .st, none, none, none, none, none, none, none, none, none, none, none, none, none, none, none, none, none] (begun ns) = .ok (.nx env', S') := by
    unfold s_law_k02_57 forR
    rw [hA]
    simp only [bindM, hr]
    exact h
  rw [hE]
  unfold g_law_k02
  rw [seq_nx h1]
  rfl
end My
namespace My
open PySem PySem.Spec PyProof.Rows L2 VS
section
variable {P : Program} {w : World} {K : PySem.W.Frag} {mg : Str → Option Value} {base : Heap} {A : Adr}
theorem law_done (T : Txt K mg A) {fa c Pt : Addr} {oc dc pm ct kV : Value} {od an : Option Addr} {osl : Array (Option Value)} {w : World} (lk : K.lookup fa = some ⟨oc, od, .func (PySem.W.fnOf "law" "law" (defArgs (top 57)) (defBody (top 57)) (defScope (top 57)) .none kV dc pm an (.ref c) ct), osl⟩) (hcd : PySem.W.codeIn K (.ref c) "law" = true)
    (hb : ∀ (s : Shared) (u : Value), BindsTo s (PySem.W.fnOf "law" "law" (defArgs (top 57)) (defBody (top 57)) (defScope (top 57)) .none kV dc pm an (.ref c) ct) ⟨[u], []⟩ ((["script"] : List Str).zip [u]))
    (math : ∀ ns : List Int, ns.length ≤ 63 → ∃ S', g_law (some (.scr ns) :: some .st :: List.replicate 17 none) (begun ns) = .ok (.rt (.bl true), S'))
    {s₁ : Shared} {a : Addr} {ns : List Int} {base : Heap} {H : Hp} (hl : ns.length ≤ 63) (TB : LamX.TabB base mg c Pt) (e0 : Env0 P w K mg base callerA [] s₁ H) (hH : H Pt = some (.tbl #[])) (hS : SqL K H a (ns.map V.int)) (hno : ∀ b o, H b = some o → b ∈ [Pt] ∨ NoTbl o) :
    codeAny (model P w) callerA (.call (.ref fa) ⟨[.ref a], []⟩) (CR (L2.CX P w) [] P w H s₁ (fun v _ => v = .bl true) fun _ _ _ => False) s₁ := by
  have sc := sc_law
  have hgd : callerA.guards = some [] := rfl
  have hr0 : Room 14 callerA := ⟨rfl, by decide, by decide⟩
  refine LamX.run_ofS (k := 13) (N := ["script", "state", "turn", "many", "row", "every", "due", "told", "filling", "fine", "found", "variable", "literal", "bad", "odd", "wrong", "item", "work", "caught"]) (ps := ["script"]) (us := [.ref a]) (vs := [.ref a]) lk hcd sc hr0 e0 (hb s₁ (.ref a)) (.cons rfl .nil) rfl fun hr => ?_
  refine ⟨_, pss_cons (ps_set (i := 1) sc.nd rfl (by first | exact Or.inl rfl | exact Or.inr rfl) (pe_call (ok__law_begun T) (hr.mono (by decide)) (by rfl) T.m__law_begun T.f__law_begun.kp (b__law_begun T) .nil (passes_call (takes_of rfl rfl rfl rfl) fun _ _ _ _ h => h) (pa_cons (pv 0) pa_nil))) (PSs.ex fun l => law_rest T TB hgd hr l), ?_⟩
  exact ⟨_, rfl, law_start (N := 18) hH hS hno (Nat.le_trans hl (by decide)) rfl rfl (math ns hl) (by decide) (fun _ => rfl)⟩
theorem all_mk {P : Program} {w : World} {h : Heap} {fa : Addr} (X : K.In h) (G : h.Ns mainGlobals mg) (hfa : mg "law" = some (.ref fa)) (own : LamX.OwnTab K fa h) (math : ∀ ns : List Int, ns.length ≤ 63 → ∃ S', g_law (some (.scr ns) :: some .st :: List.replicate 17 none) (begun ns) = .ok (.rt (.bl true), S'))
    {C_BadFilling : Addr}
    {C_BadLiteral : Addr}
    {C_BadMany : Addr}
    {C_BadRow : Addr}
    {C_TooMany : Addr}
    {C_WitnessError : Addr}
    {f_is_number : Addr} {od_is_number an_is_number : Option Addr} {sl_is_number : Array (Option Value)} {oc_is_number kV_is_number dc_is_number pm_is_number cd_is_number ct_is_number : Value}
    {f_is_number_from : Addr} {od_is_number_from an_is_number_from : Option Addr} {sl_is_number_from : Array (Option Value)} {oc_is_number_from kV_is_number_from dc_is_number_from pm_is_number_from cd_is_number_from ct_is_number_from : Value}
    {f_is_number_between : Addr} {od_is_number_between an_is_number_between : Option Addr} {sl_is_number_between : Array (Option Value)} {oc_is_number_between kV_is_number_between dc_is_number_between pm_is_number_between cd_is_number_between ct_is_number_between : Value}
    {f_is_pair : Addr} {od_is_pair an_is_pair : Option Addr} {sl_is_pair : Array (Option Value)} {oc_is_pair kV_is_pair dc_is_pair pm_is_pair cd_is_pair ct_is_pair : Value}
    {f_is_literal_of : Addr} {od_is_literal_of an_is_literal_of : Option Addr} {sl_is_literal_of : Array (Option Value)} {oc_is_literal_of kV_is_literal_of dc_is_literal_of pm_is_literal_of cd_is_literal_of ct_is_literal_of : Value}
    {f_are_terms_of : Addr} {od_are_terms_of an_are_terms_of : Option Addr} {sl_are_terms_of : Array (Option Value)} {oc_are_terms_of kV_are_terms_of dc_are_terms_of pm_are_terms_of cd_are_terms_of ct_are_terms_of : Value}
    {f_is_row_of : Addr} {od_is_row_of an_is_row_of : Option Addr} {sl_is_row_of : Array (Option Value)} {oc_is_row_of kV_is_row_of dc_is_row_of pm_is_row_of cd_is_row_of ct_is_row_of : Value}
    {f_is_filling_of : Addr} {od_is_filling_of an_is_filling_of : Option Addr} {sl_is_filling_of : Array (Option Value)} {oc_is_filling_of kV_is_filling_of dc_is_filling_of pm_is_filling_of cd_is_filling_of ct_is_filling_of : Value}
    {f_check_many : Addr} {od_check_many an_check_many : Option Addr} {sl_check_many : Array (Option Value)} {oc_check_many kV_check_many dc_check_many pm_check_many cd_check_many ct_check_many : Value}
    {T_check_many : Addr} {tc_check_many : Value} {td_check_many : Option Addr} {tsl_check_many : Array (Option Value)} {tn_check_many : Nat} {tk_check_many : Tok}
    {f_check_literal : Addr} {od_check_literal an_check_literal : Option Addr} {sl_check_literal : Array (Option Value)} {oc_check_literal kV_check_literal dc_check_literal pm_check_literal cd_check_literal ct_check_literal : Value}
    {f_check_row : Addr} {od_check_row an_check_row : Option Addr} {sl_check_row : Array (Option Value)} {oc_check_row kV_check_row dc_check_row pm_check_row cd_check_row ct_check_row : Value}
    {f_check_filling : Addr} {od_check_filling an_check_filling : Option Addr} {sl_check_filling : Array (Option Value)} {oc_check_filling kV_check_filling dc_check_filling pm_check_filling cd_check_filling ct_check_filling : Value}
    {f_check_few : Addr} {od_check_few an_check_few : Option Addr} {sl_check_few : Array (Option Value)} {oc_check_few kV_check_few dc_check_few pm_check_few cd_check_few ct_check_few : Value}
    {f_weight_sum : Addr} {od_weight_sum an_weight_sum : Option Addr} {sl_weight_sum : Array (Option Value)} {oc_weight_sum kV_weight_sum dc_weight_sum pm_weight_sum cd_weight_sum ct_weight_sum : Value}
    {f_total : Addr} {od_total an_total : Option Addr} {sl_total : Array (Option Value)} {oc_total kV_total dc_total pm_total cd_total ct_total : Value}
    {f_opposite_terms : Addr} {od_opposite_terms an_opposite_terms : Option Addr} {sl_opposite_terms : Array (Option Value)} {oc_opposite_terms kV_opposite_terms dc_opposite_terms pm_opposite_terms cd_opposite_terms ct_opposite_terms : Value}
    {f_opposite_row : Addr} {od_opposite_row an_opposite_row : Option Addr} {sl_opposite_row : Array (Option Value)} {oc_opposite_row kV_opposite_row dc_opposite_row pm_opposite_row cd_opposite_row ct_opposite_row : Value}
    {f_opposite : Addr} {od_opposite an_opposite : Option Addr} {sl_opposite : Array (Option Value)} {oc_opposite kV_opposite dc_opposite pm_opposite cd_opposite ct_opposite : Value}
    {f_bound_is_above : Addr} {od_bound_is_above an_bound_is_above : Option Addr} {sl_bound_is_above : Array (Option Value)} {oc_bound_is_above kV_bound_is_above dc_bound_is_above pm_bound_is_above cd_bound_is_above ct_bound_is_above : Value}
    {f_is_impossible : Addr} {od_is_impossible an_is_impossible : Option Addr} {sl_is_impossible : Array (Option Value)} {oc_is_impossible kV_is_impossible dc_is_impossible pm_is_impossible cd_is_impossible ct_is_impossible : Value}
    {f_worth_of : Addr} {od_worth_of an_worth_of : Option Addr} {sl_worth_of : Array (Option Value)} {oc_worth_of kV_worth_of dc_worth_of pm_worth_of cd_worth_of ct_worth_of : Value}
    {f_sum_at : Addr} {od_sum_at an_sum_at : Option Addr} {sl_sum_at : Array (Option Value)} {oc_sum_at kV_sum_at dc_sum_at pm_sum_at cd_sum_at ct_sum_at : Value}
    {f_holds_at : Addr} {od_holds_at an_holds_at : Option Addr} {sl_holds_at : Array (Option Value)} {oc_holds_at kV_holds_at dc_holds_at pm_holds_at cd_holds_at ct_holds_at : Value}
    {f_holds : Addr} {od_holds an_holds : Option Addr} {sl_holds : Array (Option Value)} {oc_holds kV_holds dc_holds pm_holds cd_holds ct_holds : Value}
    {f_is_filling : Addr} {od_is_filling an_is_filling : Option Addr} {sl_is_filling : Array (Option Value)} {oc_is_filling kV_is_filling dc_is_filling pm_is_filling cd_is_filling ct_is_filling : Value}
    {f_worth : Addr} {od_worth an_worth : Option Addr} {sl_worth : Array (Option Value)} {oc_worth kV_worth dc_worth pm_worth cd_worth ct_worth : Value}
    {f_tuples_of : Addr} {od_tuples_of an_tuples_of : Option Addr} {sl_tuples_of : Array (Option Value)} {oc_tuples_of kV_tuples_of dc_tuples_of pm_tuples_of cd_tuples_of ct_tuples_of : Value}
    {f_fillings : Addr} {od_fillings an_fillings : Option Addr} {sl_fillings : Array (Option Value)} {oc_fillings kV_fillings dc_fillings pm_fillings cd_fillings ct_fillings : Value}
    {f__law_begun : Addr} {od__law_begun an__law_begun : Option Addr} {sl__law_begun : Array (Option Value)} {oc__law_begun kV__law_begun dc__law_begun pm__law_begun cd__law_begun ct__law_begun : Value}
    {f__law_draw : Addr} {od__law_draw an__law_draw : Option Addr} {sl__law_draw : Array (Option Value)} {oc__law_draw kV__law_draw dc__law_draw pm__law_draw cd__law_draw ct__law_draw : Value}
    {f__law_pick : Addr} {od__law_pick an__law_pick : Option Addr} {sl__law_pick : Array (Option Value)} {oc__law_pick kV__law_pick dc__law_pick pm__law_pick cd__law_pick ct__law_pick : Value}
    {f__law_caught : Addr} {od__law_caught an__law_caught : Option Addr} {sl__law_caught : Array (Option Value)} {oc__law_caught kV__law_caught dc__law_caught pm__law_caught cd__law_caught ct__law_caught : Value}
    {f__law_odd : Addr} {od__law_odd an__law_odd : Option Addr} {sl__law_odd : Array (Option Value)} {oc__law_odd kV__law_odd dc__law_odd pm__law_odd cd__law_odd ct__law_odd : Value}
    {f__law_fillings : Addr} {od__law_fillings an__law_fillings : Option Addr} {sl__law_fillings : Array (Option Value)} {oc__law_fillings kV__law_fillings dc__law_fillings pm__law_fillings cd__law_fillings ct__law_fillings : Value}
    {f__law_worth : Addr} {od__law_worth an__law_worth : Option Addr} {sl__law_worth : Array (Option Value)} {oc__law_worth kV__law_worth dc__law_worth pm__law_worth cd__law_worth ct__law_worth : Value}
    {f__law_comes : Addr} {od__law_comes an__law_comes : Option Addr} {sl__law_comes : Array (Option Value)} {oc__law_comes kV__law_comes dc__law_comes pm__law_comes cd__law_comes ct__law_comes : Value}
    {f__law_holds : Addr} {od__law_holds an__law_holds : Option Addr} {sl__law_holds : Array (Option Value)} {oc__law_holds kV__law_holds dc__law_holds pm__law_holds cd__law_holds ct__law_holds : Value}
    {f__law_total : Addr} {od__law_total an__law_total : Option Addr} {sl__law_total : Array (Option Value)} {oc__law_total kV__law_total dc__law_total pm__law_total cd__law_total ct__law_total : Value}
    {f__law_opposite : Addr} {od__law_opposite an__law_opposite : Option Addr} {sl__law_opposite : Array (Option Value)} {oc__law_opposite kV__law_opposite dc__law_opposite pm__law_opposite cd__law_opposite ct__law_opposite : Value}
    {f__law_terms : Addr} {od__law_terms an__law_terms : Option Addr} {sl__law_terms : Array (Option Value)} {oc__law_terms kV__law_terms dc__law_terms pm__law_terms cd__law_terms ct__law_terms : Value}
    {f__law_row : Addr} {od__law_row an__law_row : Option Addr} {sl__law_row : Array (Option Value)} {oc__law_row kV__law_row dc__law_row pm__law_row cd__law_row ct__law_row : Value}
    {f__law_bad_many : Addr} {od__law_bad_many an__law_bad_many : Option Addr} {sl__law_bad_many : Array (Option Value)} {oc__law_bad_many kV__law_bad_many dc__law_bad_many pm__law_bad_many cd__law_bad_many ct__law_bad_many : Value}
    {f__law_bad_row : Addr} {od__law_bad_row an__law_bad_row : Option Addr} {sl__law_bad_row : Array (Option Value)} {oc__law_bad_row kV__law_bad_row dc__law_bad_row pm__law_bad_row cd__law_bad_row ct__law_bad_row : Value}
    {f__law_bad_filling : Addr} {od__law_bad_filling an__law_bad_filling : Option Addr} {sl__law_bad_filling : Array (Option Value)} {oc__law_bad_filling kV__law_bad_filling dc__law_bad_filling pm__law_bad_filling cd__law_bad_filling ct__law_bad_filling : Value}
    {nm_TooMany q_TooMany : Str} {N_TooMany : Addr} {bs_TooMany bm_TooMany : List Value} {sn_TooMany : List Str} {sub_TooMany : List Value} {ab_TooMany : Bool} {col_TooMany : Option Bool} {dd_TooMany : Option Addr} {m0_TooMany m1_TooMany m2_TooMany m3_TooMany m5_TooMany : Option Value}
    {fi_TooMany : Addr} {odi_TooMany ani_TooMany : Option Addr} {sli_TooMany : Array (Option Value)} {oci_TooMany kVi_TooMany dci_TooMany pmi_TooMany cdi_TooMany cti_TooMany : Value}
    {ck_MOST_TRIED : Tok}
    {f_law cA Pt : Addr} {oc_law dc_law pm_law ct_law kV_law : Value} {od_law an_law : Option Addr} {sl_law : Array (Option Value)}
    (ac_BadFilling : PySem.W.nsIn K mainGlobals "BadFilling" = some (some (.ref C_BadFilling)))
    (ac_BadLiteral : PySem.W.nsIn K mainGlobals "BadLiteral" = some (some (.ref C_BadLiteral)))
    (ac_BadMany : PySem.W.nsIn K mainGlobals "BadMany" = some (some (.ref C_BadMany)))
    (ac_BadRow : PySem.W.nsIn K mainGlobals "BadRow" = some (some (.ref C_BadRow)))
    (ac_TooMany : PySem.W.nsIn K mainGlobals "TooMany" = some (some (.ref C_TooMany)))
    (ac_WitnessError : PySem.W.nsIn K mainGlobals "WitnessError" = some (some (.ref C_WitnessError)))
    (a_is_number : PySem.W.nsIn K mainGlobals "is_number" = some (some (.ref f_is_number)))
    (l_is_number : K.lookup f_is_number = some ⟨oc_is_number, od_is_number, .func (PySem.W.fnOf "is_number" "is_number" (defArgs (top 9)) (defBody (top 9)) (defScope (top 9)) .none kV_is_number dc_is_number pm_is_number an_is_number cd_is_number ct_is_number), sl_is_number⟩)
    (c_is_number : PySem.W.codeIn K cd_is_number "is_number" = true)
    (k_is_number : PySem.W.keepIn K (.ref f_is_number) = true)
    (a_is_number_from : PySem.W.nsIn K mainGlobals "is_number_from" = some (some (.ref f_is_number_from)))
    (l_is_number_from : K.lookup f_is_number_from = some ⟨oc_is_number_from, od_is_number_from, .func (PySem.W.fnOf "is_number_from" "is_number_from" (defArgs (top 10)) (defBody (top 10)) (defScope (top 10)) .none kV_is_number_from dc_is_number_from pm_is_number_from an_is_number_from cd_is_number_from ct_is_number_from), sl_is_number_from⟩)
    (c_is_number_from : PySem.W.codeIn K cd_is_number_from "is_number_from" = true)
    (k_is_number_from : PySem.W.keepIn K (.ref f_is_number_from) = true)
    (a_is_number_between : PySem.W.nsIn K mainGlobals "is_number_between" = some (some (.ref f_is_number_between)))
    (l_is_number_between : K.lookup f_is_number_between = some ⟨oc_is_number_between, od_is_number_between, .func (PySem.W.fnOf "is_number_between" "is_number_between" (defArgs (top 11)) (defBody (top 11)) (defScope (top 11)) .none kV_is_number_between dc_is_number_between pm_is_number_between an_is_number_between cd_is_number_between ct_is_number_between), sl_is_number_between⟩)
    (c_is_number_between : PySem.W.codeIn K cd_is_number_between "is_number_between" = true)
    (k_is_number_between : PySem.W.keepIn K (.ref f_is_number_between) = true)
    (a_is_pair : PySem.W.nsIn K mainGlobals "is_pair" = some (some (.ref f_is_pair)))
    (l_is_pair : K.lookup f_is_pair = some ⟨oc_is_pair, od_is_pair, .func (PySem.W.fnOf "is_pair" "is_pair" (defArgs (top 12)) (defBody (top 12)) (defScope (top 12)) .none kV_is_pair dc_is_pair pm_is_pair an_is_pair cd_is_pair ct_is_pair), sl_is_pair⟩)
    (c_is_pair : PySem.W.codeIn K cd_is_pair "is_pair" = true)
    (k_is_pair : PySem.W.keepIn K (.ref f_is_pair) = true)
    (a_is_literal_of : PySem.W.nsIn K mainGlobals "is_literal_of" = some (some (.ref f_is_literal_of)))
    (l_is_literal_of : K.lookup f_is_literal_of = some ⟨oc_is_literal_of, od_is_literal_of, .func (PySem.W.fnOf "is_literal_of" "is_literal_of" (defArgs (top 13)) (defBody (top 13)) (defScope (top 13)) .none kV_is_literal_of dc_is_literal_of pm_is_literal_of an_is_literal_of cd_is_literal_of ct_is_literal_of), sl_is_literal_of⟩)
    (c_is_literal_of : PySem.W.codeIn K cd_is_literal_of "is_literal_of" = true)
    (k_is_literal_of : PySem.W.keepIn K (.ref f_is_literal_of) = true)
    (a_are_terms_of : PySem.W.nsIn K mainGlobals "are_terms_of" = some (some (.ref f_are_terms_of)))
    (l_are_terms_of : K.lookup f_are_terms_of = some ⟨oc_are_terms_of, od_are_terms_of, .func (PySem.W.fnOf "are_terms_of" "are_terms_of" (defArgs (top 14)) (defBody (top 14)) (defScope (top 14)) .none kV_are_terms_of dc_are_terms_of pm_are_terms_of an_are_terms_of cd_are_terms_of ct_are_terms_of), sl_are_terms_of⟩)
    (c_are_terms_of : PySem.W.codeIn K cd_are_terms_of "are_terms_of" = true)
    (k_are_terms_of : PySem.W.keepIn K (.ref f_are_terms_of) = true)
    (a_is_row_of : PySem.W.nsIn K mainGlobals "is_row_of" = some (some (.ref f_is_row_of)))
    (l_is_row_of : K.lookup f_is_row_of = some ⟨oc_is_row_of, od_is_row_of, .func (PySem.W.fnOf "is_row_of" "is_row_of" (defArgs (top 15)) (defBody (top 15)) (defScope (top 15)) .none kV_is_row_of dc_is_row_of pm_is_row_of an_is_row_of cd_is_row_of ct_is_row_of), sl_is_row_of⟩)
    (c_is_row_of : PySem.W.codeIn K cd_is_row_of "is_row_of" = true)
    (k_is_row_of : PySem.W.keepIn K (.ref f_is_row_of) = true)
    (a_is_filling_of : PySem.W.nsIn K mainGlobals "is_filling_of" = some (some (.ref f_is_filling_of)))
    (l_is_filling_of : K.lookup f_is_filling_of = some ⟨oc_is_filling_of, od_is_filling_of, .func (PySem.W.fnOf "is_filling_of" "is_filling_of" (defArgs (top 16)) (defBody (top 16)) (defScope (top 16)) .none kV_is_filling_of dc_is_filling_of pm_is_filling_of an_is_filling_of cd_is_filling_of ct_is_filling_of), sl_is_filling_of⟩)
    (c_is_filling_of : PySem.W.codeIn K cd_is_filling_of "is_filling_of" = true)
    (k_is_filling_of : PySem.W.keepIn K (.ref f_is_filling_of) = true)
    (a_check_many : PySem.W.nsIn K mainGlobals "check_many" = some (some (.ref f_check_many)))
    (l_check_many : K.lookup f_check_many = some ⟨oc_check_many, od_check_many, .func (PySem.W.fnOf "check_many" "check_many" (defArgs (top 17)) (defBody (top 17)) (defScope (top 17)) (.ref T_check_many) kV_check_many dc_check_many pm_check_many an_check_many cd_check_many ct_check_many), sl_check_many⟩)
    (t_check_many : K.lookup T_check_many = some ⟨tc_check_many, td_check_many, .seq [Value.int 600 tk_check_many].toArray tn_check_many, tsl_check_many⟩)
    (c_check_many : PySem.W.codeIn K cd_check_many "check_many" = true)
    (k_check_many : PySem.W.keepIn K (.ref f_check_many) = true)
    (a_check_literal : PySem.W.nsIn K mainGlobals "check_literal" = some (some (.ref f_check_literal)))
    (l_check_literal : K.lookup f_check_literal = some ⟨oc_check_literal, od_check_literal, .func (PySem.W.fnOf "check_literal" "check_literal" (defArgs (top 18)) (defBody (top 18)) (defScope (top 18)) .none kV_check_literal dc_check_literal pm_check_literal an_check_literal cd_check_literal ct_check_literal), sl_check_literal⟩)
    (c_check_literal : PySem.W.codeIn K cd_check_literal "check_literal" = true)
    (k_check_literal : PySem.W.keepIn K (.ref f_check_literal) = true)
    (a_check_row : PySem.W.nsIn K mainGlobals "check_row" = some (some (.ref f_check_row)))
    (l_check_row : K.lookup f_check_row = some ⟨oc_check_row, od_check_row, .func (PySem.W.fnOf "check_row" "check_row" (defArgs (top 19)) (defBody (top 19)) (defScope (top 19)) .none kV_check_row dc_check_row pm_check_row an_check_row cd_check_row ct_check_row), sl_check_row⟩)
    (c_check_row : PySem.W.codeIn K cd_check_row "check_row" = true)
    (k_check_row : PySem.W.keepIn K (.ref f_check_row) = true)
    (a_check_filling : PySem.W.nsIn K mainGlobals "check_filling" = some (some (.ref f_check_filling)))
    (l_check_filling : K.lookup f_check_filling = some ⟨oc_check_filling, od_check_filling, .func (PySem.W.fnOf "check_filling" "check_filling" (defArgs (top 20)) (defBody (top 20)) (defScope (top 20)) .none kV_check_filling dc_check_filling pm_check_filling an_check_filling cd_check_filling ct_check_filling), sl_check_filling⟩)
    (c_check_filling : PySem.W.codeIn K cd_check_filling "check_filling" = true)
    (k_check_filling : PySem.W.keepIn K (.ref f_check_filling) = true)
    (a_check_few : PySem.W.nsIn K mainGlobals "check_few" = some (some (.ref f_check_few)))
    (l_check_few : K.lookup f_check_few = some ⟨oc_check_few, od_check_few, .func (PySem.W.fnOf "check_few" "check_few" (defArgs (top 21)) (defBody (top 21)) (defScope (top 21)) .none kV_check_few dc_check_few pm_check_few an_check_few cd_check_few ct_check_few), sl_check_few⟩)
    (c_check_few : PySem.W.codeIn K cd_check_few "check_few" = true)
    (k_check_few : PySem.W.keepIn K (.ref f_check_few) = true)
    (a_weight_sum : PySem.W.nsIn K mainGlobals "weight_sum" = some (some (.ref f_weight_sum)))
    (l_weight_sum : K.lookup f_weight_sum = some ⟨oc_weight_sum, od_weight_sum, .func (PySem.W.fnOf "weight_sum" "weight_sum" (defArgs (top 27)) (defBody (top 27)) (defScope (top 27)) .none kV_weight_sum dc_weight_sum pm_weight_sum an_weight_sum cd_weight_sum ct_weight_sum), sl_weight_sum⟩)
    (c_weight_sum : PySem.W.codeIn K cd_weight_sum "weight_sum" = true)
    (k_weight_sum : PySem.W.keepIn K (.ref f_weight_sum) = true)
    (a_total : PySem.W.nsIn K mainGlobals "total" = some (some (.ref f_total)))
    (l_total : K.lookup f_total = some ⟨oc_total, od_total, .func (PySem.W.fnOf "total" "total" (defArgs (top 23)) (defBody (top 23)) (defScope (top 23)) .none kV_total dc_total pm_total an_total cd_total ct_total), sl_total⟩)
    (c_total : PySem.W.codeIn K cd_total "total" = true)
    (k_total : PySem.W.keepIn K (.ref f_total) = true)
    (a_opposite_terms : PySem.W.nsIn K mainGlobals "opposite_terms" = some (some (.ref f_opposite_terms)))
    (l_opposite_terms : K.lookup f_opposite_terms = some ⟨oc_opposite_terms, od_opposite_terms, .func (PySem.W.fnOf "opposite_terms" "opposite_terms" (defArgs (top 31)) (defBody (top 31)) (defScope (top 31)) .none kV_opposite_terms dc_opposite_terms pm_opposite_terms an_opposite_terms cd_opposite_terms ct_opposite_terms), sl_opposite_terms⟩)
    (c_opposite_terms : PySem.W.codeIn K cd_opposite_terms "opposite_terms" = true)
    (k_opposite_terms : PySem.W.keepIn K (.ref f_opposite_terms) = true)
    (a_opposite_row : PySem.W.nsIn K mainGlobals "opposite_row" = some (some (.ref f_opposite_row)))
    (l_opposite_row : K.lookup f_opposite_row = some ⟨oc_opposite_row, od_opposite_row, .func (PySem.W.fnOf "opposite_row" "opposite_row" (defArgs (top 32)) (defBody (top 32)) (defScope (top 32)) .none kV_opposite_row dc_opposite_row pm_opposite_row an_opposite_row cd_opposite_row ct_opposite_row), sl_opposite_row⟩)
    (c_opposite_row : PySem.W.codeIn K cd_opposite_row "opposite_row" = true)
    (k_opposite_row : PySem.W.keepIn K (.ref f_opposite_row) = true)
    (a_opposite : PySem.W.nsIn K mainGlobals "opposite" = some (some (.ref f_opposite)))
    (l_opposite : K.lookup f_opposite = some ⟨oc_opposite, od_opposite, .func (PySem.W.fnOf "opposite" "opposite" (defArgs (top 24)) (defBody (top 24)) (defScope (top 24)) .none kV_opposite dc_opposite pm_opposite an_opposite cd_opposite ct_opposite), sl_opposite⟩)
    (c_opposite : PySem.W.codeIn K cd_opposite "opposite" = true)
    (k_opposite : PySem.W.keepIn K (.ref f_opposite) = true)
    (a_bound_is_above : PySem.W.nsIn K mainGlobals "bound_is_above" = some (some (.ref f_bound_is_above)))
    (l_bound_is_above : K.lookup f_bound_is_above = some ⟨oc_bound_is_above, od_bound_is_above, .func (PySem.W.fnOf "bound_is_above" "bound_is_above" (defArgs (top 33)) (defBody (top 33)) (defScope (top 33)) .none kV_bound_is_above dc_bound_is_above pm_bound_is_above an_bound_is_above cd_bound_is_above ct_bound_is_above), sl_bound_is_above⟩)
    (c_bound_is_above : PySem.W.codeIn K cd_bound_is_above "bound_is_above" = true)
    (k_bound_is_above : PySem.W.keepIn K (.ref f_bound_is_above) = true)
    (a_is_impossible : PySem.W.nsIn K mainGlobals "is_impossible" = some (some (.ref f_is_impossible)))
    (l_is_impossible : K.lookup f_is_impossible = some ⟨oc_is_impossible, od_is_impossible, .func (PySem.W.fnOf "is_impossible" "is_impossible" (defArgs (top 25)) (defBody (top 25)) (defScope (top 25)) .none kV_is_impossible dc_is_impossible pm_is_impossible an_is_impossible cd_is_impossible ct_is_impossible), sl_is_impossible⟩)
    (c_is_impossible : PySem.W.codeIn K cd_is_impossible "is_impossible" = true)
    (k_is_impossible : PySem.W.keepIn K (.ref f_is_impossible) = true)
    (a_worth_of : PySem.W.nsIn K mainGlobals "worth_of" = some (some (.ref f_worth_of)))
    (l_worth_of : K.lookup f_worth_of = some ⟨oc_worth_of, od_worth_of, .func (PySem.W.fnOf "worth_of" "worth_of" (defArgs (top 28)) (defBody (top 28)) (defScope (top 28)) .none kV_worth_of dc_worth_of pm_worth_of an_worth_of cd_worth_of ct_worth_of), sl_worth_of⟩)
    (c_worth_of : PySem.W.codeIn K cd_worth_of "worth_of" = true)
    (k_worth_of : PySem.W.keepIn K (.ref f_worth_of) = true)
    (a_sum_at : PySem.W.nsIn K mainGlobals "sum_at" = some (some (.ref f_sum_at)))
    (l_sum_at : K.lookup f_sum_at = some ⟨oc_sum_at, od_sum_at, .func (PySem.W.fnOf "sum_at" "sum_at" (defArgs (top 29)) (defBody (top 29)) (defScope (top 29)) .none kV_sum_at dc_sum_at pm_sum_at an_sum_at cd_sum_at ct_sum_at), sl_sum_at⟩)
    (c_sum_at : PySem.W.codeIn K cd_sum_at "sum_at" = true)
    (k_sum_at : PySem.W.keepIn K (.ref f_sum_at) = true)
    (a_holds_at : PySem.W.nsIn K mainGlobals "holds_at" = some (some (.ref f_holds_at)))
    (l_holds_at : K.lookup f_holds_at = some ⟨oc_holds_at, od_holds_at, .func (PySem.W.fnOf "holds_at" "holds_at" (defArgs (top 30)) (defBody (top 30)) (defScope (top 30)) .none kV_holds_at dc_holds_at pm_holds_at an_holds_at cd_holds_at ct_holds_at), sl_holds_at⟩)
    (c_holds_at : PySem.W.codeIn K cd_holds_at "holds_at" = true)
    (k_holds_at : PySem.W.keepIn K (.ref f_holds_at) = true)
    (a_holds : PySem.W.nsIn K mainGlobals "holds" = some (some (.ref f_holds)))
    (l_holds : K.lookup f_holds = some ⟨oc_holds, od_holds, .func (PySem.W.fnOf "holds" "holds" (defArgs (top 26)) (defBody (top 26)) (defScope (top 26)) .none kV_holds dc_holds pm_holds an_holds cd_holds ct_holds), sl_holds⟩)
    (c_holds : PySem.W.codeIn K cd_holds "holds" = true)
    (k_holds : PySem.W.keepIn K (.ref f_holds) = true)
    (a_is_filling : PySem.W.nsIn K mainGlobals "is_filling" = some (some (.ref f_is_filling)))
    (l_is_filling : K.lookup f_is_filling = some ⟨oc_is_filling, od_is_filling, .func (PySem.W.fnOf "is_filling" "is_filling" (defArgs (top 36)) (defBody (top 36)) (defScope (top 36)) .none kV_is_filling dc_is_filling pm_is_filling an_is_filling cd_is_filling ct_is_filling), sl_is_filling⟩)
    (c_is_filling : PySem.W.codeIn K cd_is_filling "is_filling" = true)
    (k_is_filling : PySem.W.keepIn K (.ref f_is_filling) = true)
    (a_worth : PySem.W.nsIn K mainGlobals "worth" = some (some (.ref f_worth)))
    (l_worth : K.lookup f_worth = some ⟨oc_worth, od_worth, .func (PySem.W.fnOf "worth" "worth" (defArgs (top 37)) (defBody (top 37)) (defScope (top 37)) .none kV_worth dc_worth pm_worth an_worth cd_worth ct_worth), sl_worth⟩)
    (c_worth : PySem.W.codeIn K cd_worth "worth" = true)
    (k_worth : PySem.W.keepIn K (.ref f_worth) = true)
    (a_tuples_of : PySem.W.nsIn K mainGlobals "tuples_of" = some (some (.ref f_tuples_of)))
    (l_tuples_of : K.lookup f_tuples_of = some ⟨oc_tuples_of, od_tuples_of, .func (PySem.W.fnOf "tuples_of" "tuples_of" (defArgs (top 39)) (defBody (top 39)) (defScope (top 39)) .none kV_tuples_of dc_tuples_of pm_tuples_of an_tuples_of cd_tuples_of ct_tuples_of), sl_tuples_of⟩)
    (c_tuples_of : PySem.W.codeIn K cd_tuples_of "tuples_of" = true)
    (k_tuples_of : PySem.W.keepIn K (.ref f_tuples_of) = true)
    (a_fillings : PySem.W.nsIn K mainGlobals "fillings" = some (some (.ref f_fillings)))
    (l_fillings : K.lookup f_fillings = some ⟨oc_fillings, od_fillings, .func (PySem.W.fnOf "fillings" "fillings" (defArgs (top 38)) (defBody (top 38)) (defScope (top 38)) .none kV_fillings dc_fillings pm_fillings an_fillings cd_fillings ct_fillings), sl_fillings⟩)
    (c_fillings : PySem.W.codeIn K cd_fillings "fillings" = true)
    (k_fillings : PySem.W.keepIn K (.ref f_fillings) = true)
    (a__law_begun : PySem.W.nsIn K mainGlobals "_law_begun" = some (some (.ref f__law_begun)))
    (l__law_begun : K.lookup f__law_begun = some ⟨oc__law_begun, od__law_begun, .func (PySem.W.fnOf "_law_begun" "_law_begun" (defArgs (top 41)) (defBody (top 41)) (defScope (top 41)) .none kV__law_begun dc__law_begun pm__law_begun an__law_begun cd__law_begun ct__law_begun), sl__law_begun⟩)
    (c__law_begun : PySem.W.codeIn K cd__law_begun "_law_begun" = true)
    (k__law_begun : PySem.W.keepIn K (.ref f__law_begun) = true)
    (a__law_draw : PySem.W.nsIn K mainGlobals "_law_draw" = some (some (.ref f__law_draw)))
    (l__law_draw : K.lookup f__law_draw = some ⟨oc__law_draw, od__law_draw, .func (PySem.W.fnOf "_law_draw" "_law_draw" (defArgs (top 42)) (defBody (top 42)) (defScope (top 42)) .none kV__law_draw dc__law_draw pm__law_draw an__law_draw cd__law_draw ct__law_draw), sl__law_draw⟩)
    (c__law_draw : PySem.W.codeIn K cd__law_draw "_law_draw" = true)
    (k__law_draw : PySem.W.keepIn K (.ref f__law_draw) = true)
    (a__law_pick : PySem.W.nsIn K mainGlobals "_law_pick" = some (some (.ref f__law_pick)))
    (l__law_pick : K.lookup f__law_pick = some ⟨oc__law_pick, od__law_pick, .func (PySem.W.fnOf "_law_pick" "_law_pick" (defArgs (top 43)) (defBody (top 43)) (defScope (top 43)) .none kV__law_pick dc__law_pick pm__law_pick an__law_pick cd__law_pick ct__law_pick), sl__law_pick⟩)
    (c__law_pick : PySem.W.codeIn K cd__law_pick "_law_pick" = true)
    (k__law_pick : PySem.W.keepIn K (.ref f__law_pick) = true)
    (a__law_caught : PySem.W.nsIn K mainGlobals "_law_caught" = some (some (.ref f__law_caught)))
    (l__law_caught : K.lookup f__law_caught = some ⟨oc__law_caught, od__law_caught, .func (PySem.W.fnOf "_law_caught" "_law_caught" (defArgs (top 44)) (defBody (top 44)) (defScope (top 44)) .none kV__law_caught dc__law_caught pm__law_caught an__law_caught cd__law_caught ct__law_caught), sl__law_caught⟩)
    (c__law_caught : PySem.W.codeIn K cd__law_caught "_law_caught" = true)
    (k__law_caught : PySem.W.keepIn K (.ref f__law_caught) = true)
    (a__law_odd : PySem.W.nsIn K mainGlobals "_law_odd" = some (some (.ref f__law_odd)))
    (l__law_odd : K.lookup f__law_odd = some ⟨oc__law_odd, od__law_odd, .func (PySem.W.fnOf "_law_odd" "_law_odd" (defArgs (top 45)) (defBody (top 45)) (defScope (top 45)) .none kV__law_odd dc__law_odd pm__law_odd an__law_odd cd__law_odd ct__law_odd), sl__law_odd⟩)
    (c__law_odd : PySem.W.codeIn K cd__law_odd "_law_odd" = true)
    (k__law_odd : PySem.W.keepIn K (.ref f__law_odd) = true)
    (a__law_fillings : PySem.W.nsIn K mainGlobals "_law_fillings" = some (some (.ref f__law_fillings)))
    (l__law_fillings : K.lookup f__law_fillings = some ⟨oc__law_fillings, od__law_fillings, .func (PySem.W.fnOf "_law_fillings" "_law_fillings" (defArgs (top 46)) (defBody (top 46)) (defScope (top 46)) .none kV__law_fillings dc__law_fillings pm__law_fillings an__law_fillings cd__law_fillings ct__law_fillings), sl__law_fillings⟩)
    (c__law_fillings : PySem.W.codeIn K cd__law_fillings "_law_fillings" = true)
    (k__law_fillings : PySem.W.keepIn K (.ref f__law_fillings) = true)
    (a__law_worth : PySem.W.nsIn K mainGlobals "_law_worth" = some (some (.ref f__law_worth)))
    (l__law_worth : K.lookup f__law_worth = some ⟨oc__law_worth, od__law_worth, .func (PySem.W.fnOf "_law_worth" "_law_worth" (defArgs (top 47)) (defBody (top 47)) (defScope (top 47)) .none kV__law_worth dc__law_worth pm__law_worth an__law_worth cd__law_worth ct__law_worth), sl__law_worth⟩)
    (c__law_worth : PySem.W.codeIn K cd__law_worth "_law_worth" = true)
    (k__law_worth : PySem.W.keepIn K (.ref f__law_worth) = true)
    (a__law_comes : PySem.W.nsIn K mainGlobals "_law_comes" = some (some (.ref f__law_comes)))
    (l__law_comes : K.lookup f__law_comes = some ⟨oc__law_comes, od__law_comes, .func (PySem.W.fnOf "_law_comes" "_law_comes" (defArgs (top 48)) (defBody (top 48)) (defScope (top 48)) .none kV__law_comes dc__law_comes pm__law_comes an__law_comes cd__law_comes ct__law_comes), sl__law_comes⟩)
    (c__law_comes : PySem.W.codeIn K cd__law_comes "_law_comes" = true)
    (k__law_comes : PySem.W.keepIn K (.ref f__law_comes) = true)
    (a__law_holds : PySem.W.nsIn K mainGlobals "_law_holds" = some (some (.ref f__law_holds)))
    (l__law_holds : K.lookup f__law_holds = some ⟨oc__law_holds, od__law_holds, .func (PySem.W.fnOf "_law_holds" "_law_holds" (defArgs (top 49)) (defBody (top 49)) (defScope (top 49)) .none kV__law_holds dc__law_holds pm__law_holds an__law_holds cd__law_holds ct__law_holds), sl__law_holds⟩)
    (c__law_holds : PySem.W.codeIn K cd__law_holds "_law_holds" = true)
    (k__law_holds : PySem.W.keepIn K (.ref f__law_holds) = true)
    (a__law_total : PySem.W.nsIn K mainGlobals "_law_total" = some (some (.ref f__law_total)))
    (l__law_total : K.lookup f__law_total = some ⟨oc__law_total, od__law_total, .func (PySem.W.fnOf "_law_total" "_law_total" (defArgs (top 50)) (defBody (top 50)) (defScope (top 50)) .none kV__law_total dc__law_total pm__law_total an__law_total cd__law_total ct__law_total), sl__law_total⟩)
    (c__law_total : PySem.W.codeIn K cd__law_total "_law_total" = true)
    (k__law_total : PySem.W.keepIn K (.ref f__law_total) = true)
    (a__law_opposite : PySem.W.nsIn K mainGlobals "_law_opposite" = some (some (.ref f__law_opposite)))
    (l__law_opposite : K.lookup f__law_opposite = some ⟨oc__law_opposite, od__law_opposite, .func (PySem.W.fnOf "_law_opposite" "_law_opposite" (defArgs (top 51)) (defBody (top 51)) (defScope (top 51)) .none kV__law_opposite dc__law_opposite pm__law_opposite an__law_opposite cd__law_opposite ct__law_opposite), sl__law_opposite⟩)
    (c__law_opposite : PySem.W.codeIn K cd__law_opposite "_law_opposite" = true)
    (k__law_opposite : PySem.W.keepIn K (.ref f__law_opposite) = true)
    (a__law_terms : PySem.W.nsIn K mainGlobals "_law_terms" = some (some (.ref f__law_terms)))
    (l__law_terms : K.lookup f__law_terms = some ⟨oc__law_terms, od__law_terms, .func (PySem.W.fnOf "_law_terms" "_law_terms" (defArgs (top 52)) (defBody (top 52)) (defScope (top 52)) .none kV__law_terms dc__law_terms pm__law_terms an__law_terms cd__law_terms ct__law_terms), sl__law_terms⟩)
    (c__law_terms : PySem.W.codeIn K cd__law_terms "_law_terms" = true)
    (k__law_terms : PySem.W.keepIn K (.ref f__law_terms) = true)
    (a__law_row : PySem.W.nsIn K mainGlobals "_law_row" = some (some (.ref f__law_row)))
    (l__law_row : K.lookup f__law_row = some ⟨oc__law_row, od__law_row, .func (PySem.W.fnOf "_law_row" "_law_row" (defArgs (top 53)) (defBody (top 53)) (defScope (top 53)) .none kV__law_row dc__law_row pm__law_row an__law_row cd__law_row ct__law_row), sl__law_row⟩)
    (c__law_row : PySem.W.codeIn K cd__law_row "_law_row" = true)
    (k__law_row : PySem.W.keepIn K (.ref f__law_row) = true)
    (a__law_bad_many : PySem.W.nsIn K mainGlobals "_law_bad_many" = some (some (.ref f__law_bad_many)))
    (l__law_bad_many : K.lookup f__law_bad_many = some ⟨oc__law_bad_many, od__law_bad_many, .func (PySem.W.fnOf "_law_bad_many" "_law_bad_many" (defArgs (top 54)) (defBody (top 54)) (defScope (top 54)) .none kV__law_bad_many dc__law_bad_many pm__law_bad_many an__law_bad_many cd__law_bad_many ct__law_bad_many), sl__law_bad_many⟩)
    (c__law_bad_many : PySem.W.codeIn K cd__law_bad_many "_law_bad_many" = true)
    (k__law_bad_many : PySem.W.keepIn K (.ref f__law_bad_many) = true)
    (a__law_bad_row : PySem.W.nsIn K mainGlobals "_law_bad_row" = some (some (.ref f__law_bad_row)))
    (l__law_bad_row : K.lookup f__law_bad_row = some ⟨oc__law_bad_row, od__law_bad_row, .func (PySem.W.fnOf "_law_bad_row" "_law_bad_row" (defArgs (top 55)) (defBody (top 55)) (defScope (top 55)) .none kV__law_bad_row dc__law_bad_row pm__law_bad_row an__law_bad_row cd__law_bad_row ct__law_bad_row), sl__law_bad_row⟩)
    (c__law_bad_row : PySem.W.codeIn K cd__law_bad_row "_law_bad_row" = true)
    (k__law_bad_row : PySem.W.keepIn K (.ref f__law_bad_row) = true)
    (a__law_bad_filling : PySem.W.nsIn K mainGlobals "_law_bad_filling" = some (some (.ref f__law_bad_filling)))
    (l__law_bad_filling : K.lookup f__law_bad_filling = some ⟨oc__law_bad_filling, od__law_bad_filling, .func (PySem.W.fnOf "_law_bad_filling" "_law_bad_filling" (defArgs (top 56)) (defBody (top 56)) (defScope (top 56)) .none kV__law_bad_filling dc__law_bad_filling pm__law_bad_filling an__law_bad_filling cd__law_bad_filling ct__law_bad_filling), sl__law_bad_filling⟩)
    (c__law_bad_filling : PySem.W.codeIn K cd__law_bad_filling "_law_bad_filling" = true)
    (k__law_bad_filling : PySem.W.keepIn K (.ref f__law_bad_filling) = true)
    (xL_TooMany : K.lookup C_TooMany = some (excClassObj nm_TooMany q_TooMany C_TooMany N_TooMany bs_TooMany bm_TooMany true sn_TooMany sub_TooMany ab_TooMany col_TooMany dd_TooMany m0_TooMany m1_TooMany m2_TooMany m3_TooMany m5_TooMany "ValueError.__new__"))
    (xr_TooMany : PySem.HandSPX.refsVE bm_TooMany = true)
    (sa_TooMany : PySem.W.findIn K (.ref C_TooMany) "__setattr__" = some (some (.builtin "object.__setattr__")))
    (nf_TooMany : PySem.W.findIn K (.ref C_TooMany) "most" = some none)
    (ii_TooMany : PySem.W.findIn K (.ref C_TooMany) "__init__" = some (some (.ref fi_TooMany)))
    (ti_TooMany : PySem.W.typeIn K (.ref fi_TooMany) = some (.type "function"))
    (li_TooMany : K.lookup fi_TooMany = some ⟨oci_TooMany, odi_TooMany, .func (PySem.W.fnOf "__init__" "TooMany.__init__" (defArgs (inClass (top 6))) (defBody (inClass (top 6))) (defScope (inClass (top 6))) .none kVi_TooMany dci_TooMany pmi_TooMany ani_TooMany cdi_TooMany cti_TooMany), sli_TooMany⟩)
    (ci_TooMany : PySem.W.codeIn K cdi_TooMany "TooMany.__init__" = true)
    (ki_TooMany : PySem.W.keepIn K (.ref fi_TooMany) = true)
    (cx_BadFilling : PySem.W.excIn K C_BadFilling [.type "ValueError", .type "Exception", .type "BaseException", .type "object"] "ValueError.__new__" = true)
    (ck_BadFilling : PySem.W.keepIn K (.ref C_BadFilling) = true)
    (cb_BadFilling : PySem.W.subIn K (.ref C_BadFilling) (.type "BaseException") = some true)
    (ct_BadFilling_ : PySem.W.typeIn K (.ref C_BadFilling) = some (.type "type"))
    (cx_BadLiteral : PySem.W.excIn K C_BadLiteral [.type "ValueError", .type "Exception", .type "BaseException", .type "object"] "ValueError.__new__" = true)
    (ck_BadLiteral : PySem.W.keepIn K (.ref C_BadLiteral) = true)
    (cb_BadLiteral : PySem.W.subIn K (.ref C_BadLiteral) (.type "BaseException") = some true)
    (ct_BadLiteral_ : PySem.W.typeIn K (.ref C_BadLiteral) = some (.type "type"))
    (cx_BadMany : PySem.W.excIn K C_BadMany [.type "ValueError", .type "Exception", .type "BaseException", .type "object"] "ValueError.__new__" = true)
    (ck_BadMany : PySem.W.keepIn K (.ref C_BadMany) = true)
    (cb_BadMany : PySem.W.subIn K (.ref C_BadMany) (.type "BaseException") = some true)
    (ct_BadMany_ : PySem.W.typeIn K (.ref C_BadMany) = some (.type "type"))
    (cx_BadRow : PySem.W.excIn K C_BadRow [.type "ValueError", .type "Exception", .type "BaseException", .type "object"] "ValueError.__new__" = true)
    (ck_BadRow : PySem.W.keepIn K (.ref C_BadRow) = true)
    (cb_BadRow : PySem.W.subIn K (.ref C_BadRow) (.type "BaseException") = some true)
    (ct_BadRow_ : PySem.W.typeIn K (.ref C_BadRow) = some (.type "type"))
    (ck_TooMany : PySem.W.keepIn K (.ref C_TooMany) = true)
    (cb_TooMany : PySem.W.subIn K (.ref C_TooMany) (.type "BaseException") = some true)
    (ct_TooMany_ : PySem.W.typeIn K (.ref C_TooMany) = some (.type "type"))
    (cx_WitnessError : PySem.W.excIn K C_WitnessError [.type "ValueError", .type "Exception", .type "BaseException", .type "object"] "ValueError.__new__" = true)
    (ck_WitnessError : PySem.W.keepIn K (.ref C_WitnessError) = true)
    (cb_WitnessError : PySem.W.subIn K (.ref C_WitnessError) (.type "BaseException") = some true)
    (ct_WitnessError_ : PySem.W.typeIn K (.ref C_WitnessError) = some (.type "type"))
    (xg_BadMany : PySem.W.findIn K (.ref C_BadMany) "__getattribute__" = some (some (.builtin "BaseException.__getattribute__")))
    (xk_BadMany : PySem.W.findIn K (.ref C_BadMany) "__getattr__" = some none)
    (xd_BadMany : PySem.W.hasDictIn K C_BadMany = true)
    (xa_BadMany : PySem.W.findIn K (.ref C_BadMany) "__class__" = some (some (.builtin "object.__class__")))
    (xm_BadMany : PySem.W.mroIn K C_BadMany (.type "object") = some true)
    (s_BadMany : PySem.W.subIn K (.ref C_BadMany) (.ref C_WitnessError) = some true)
    (s_BadMany_BadFilling : PySem.W.subIn K (.ref C_BadMany) (.ref C_BadFilling) = some false)
    (n_BadMany_BadFilling : (C_BadMany == C_BadFilling) = false)
    (s_BadMany_BadLiteral : PySem.W.subIn K (.ref C_BadMany) (.ref C_BadLiteral) = some false)
    (n_BadMany_BadLiteral : (C_BadMany == C_BadLiteral) = false)
    (s_BadMany_BadMany : PySem.W.subIn K (.ref C_BadMany) (.ref C_BadMany) = some true)
    (s_BadMany_BadRow : PySem.W.subIn K (.ref C_BadMany) (.ref C_BadRow) = some false)
    (n_BadMany_BadRow : (C_BadMany == C_BadRow) = false)
    (s_BadMany_TooMany : PySem.W.subIn K (.ref C_BadMany) (.ref C_TooMany) = some false)
    (n_BadMany_TooMany : (C_BadMany == C_TooMany) = false)
    (xg_BadLiteral : PySem.W.findIn K (.ref C_BadLiteral) "__getattribute__" = some (some (.builtin "BaseException.__getattribute__")))
    (xk_BadLiteral : PySem.W.findIn K (.ref C_BadLiteral) "__getattr__" = some none)
    (xd_BadLiteral : PySem.W.hasDictIn K C_BadLiteral = true)
    (xa_BadLiteral : PySem.W.findIn K (.ref C_BadLiteral) "__class__" = some (some (.builtin "object.__class__")))
    (xm_BadLiteral : PySem.W.mroIn K C_BadLiteral (.type "object") = some true)
    (s_BadLiteral : PySem.W.subIn K (.ref C_BadLiteral) (.ref C_WitnessError) = some true)
    (s_BadLiteral_BadFilling : PySem.W.subIn K (.ref C_BadLiteral) (.ref C_BadFilling) = some false)
    (n_BadLiteral_BadFilling : (C_BadLiteral == C_BadFilling) = false)
    (s_BadLiteral_BadLiteral : PySem.W.subIn K (.ref C_BadLiteral) (.ref C_BadLiteral) = some true)
    (s_BadLiteral_BadMany : PySem.W.subIn K (.ref C_BadLiteral) (.ref C_BadMany) = some false)
    (n_BadLiteral_BadMany : (C_BadLiteral == C_BadMany) = false)
    (s_BadLiteral_BadRow : PySem.W.subIn K (.ref C_BadLiteral) (.ref C_BadRow) = some false)
    (n_BadLiteral_BadRow : (C_BadLiteral == C_BadRow) = false)
    (s_BadLiteral_TooMany : PySem.W.subIn K (.ref C_BadLiteral) (.ref C_TooMany) = some false)
    (n_BadLiteral_TooMany : (C_BadLiteral == C_TooMany) = false)
    (xg_BadRow : PySem.W.findIn K (.ref C_BadRow) "__getattribute__" = some (some (.builtin "BaseException.__getattribute__")))
    (xk_BadRow : PySem.W.findIn K (.ref C_BadRow) "__getattr__" = some none)
    (xd_BadRow : PySem.W.hasDictIn K C_BadRow = true)
    (xa_BadRow : PySem.W.findIn K (.ref C_BadRow) "__class__" = some (some (.builtin "object.__class__")))
    (xm_BadRow : PySem.W.mroIn K C_BadRow (.type "object") = some true)
    (s_BadRow : PySem.W.subIn K (.ref C_BadRow) (.ref C_WitnessError) = some true)
    (s_BadRow_BadFilling : PySem.W.subIn K (.ref C_BadRow) (.ref C_BadFilling) = some false)
    (n_BadRow_BadFilling : (C_BadRow == C_BadFilling) = false)
    (s_BadRow_BadLiteral : PySem.W.subIn K (.ref C_BadRow) (.ref C_BadLiteral) = some false)
    (n_BadRow_BadLiteral : (C_BadRow == C_BadLiteral) = false)
    (s_BadRow_BadMany : PySem.W.subIn K (.ref C_BadRow) (.ref C_BadMany) = some false)
    (n_BadRow_BadMany : (C_BadRow == C_BadMany) = false)
    (s_BadRow_BadRow : PySem.W.subIn K (.ref C_BadRow) (.ref C_BadRow) = some true)
    (s_BadRow_TooMany : PySem.W.subIn K (.ref C_BadRow) (.ref C_TooMany) = some false)
    (n_BadRow_TooMany : (C_BadRow == C_TooMany) = false)
    (xg_BadFilling : PySem.W.findIn K (.ref C_BadFilling) "__getattribute__" = some (some (.builtin "BaseException.__getattribute__")))
    (xk_BadFilling : PySem.W.findIn K (.ref C_BadFilling) "__getattr__" = some none)
    (xd_BadFilling : PySem.W.hasDictIn K C_BadFilling = true)
    (xa_BadFilling : PySem.W.findIn K (.ref C_BadFilling) "__class__" = some (some (.builtin "object.__class__")))
    (xm_BadFilling : PySem.W.mroIn K C_BadFilling (.type "object") = some true)
    (s_BadFilling : PySem.W.subIn K (.ref C_BadFilling) (.ref C_WitnessError) = some true)
    (s_BadFilling_BadFilling : PySem.W.subIn K (.ref C_BadFilling) (.ref C_BadFilling) = some true)
    (s_BadFilling_BadLiteral : PySem.W.subIn K (.ref C_BadFilling) (.ref C_BadLiteral) = some false)
    (n_BadFilling_BadLiteral : (C_BadFilling == C_BadLiteral) = false)
    (s_BadFilling_BadMany : PySem.W.subIn K (.ref C_BadFilling) (.ref C_BadMany) = some false)
    (n_BadFilling_BadMany : (C_BadFilling == C_BadMany) = false)
    (s_BadFilling_BadRow : PySem.W.subIn K (.ref C_BadFilling) (.ref C_BadRow) = some false)
    (n_BadFilling_BadRow : (C_BadFilling == C_BadRow) = false)
    (s_BadFilling_TooMany : PySem.W.subIn K (.ref C_BadFilling) (.ref C_TooMany) = some false)
    (n_BadFilling_TooMany : (C_BadFilling == C_TooMany) = false)
    (xg_TooMany : PySem.W.findIn K (.ref C_TooMany) "__getattribute__" = some (some (.builtin "BaseException.__getattribute__")))
    (xk_TooMany : PySem.W.findIn K (.ref C_TooMany) "__getattr__" = some none)
    (xd_TooMany : PySem.W.hasDictIn K C_TooMany = true)
    (xa_TooMany : PySem.W.findIn K (.ref C_TooMany) "__class__" = some (some (.builtin "object.__class__")))
    (xm_TooMany : PySem.W.mroIn K C_TooMany (.type "object") = some true)
    (s_TooMany : PySem.W.subIn K (.ref C_TooMany) (.ref C_WitnessError) = some true)
    (s_TooMany_BadFilling : PySem.W.subIn K (.ref C_TooMany) (.ref C_BadFilling) = some false)
    (n_TooMany_BadFilling : (C_TooMany == C_BadFilling) = false)
    (s_TooMany_BadLiteral : PySem.W.subIn K (.ref C_TooMany) (.ref C_BadLiteral) = some false)
    (n_TooMany_BadLiteral : (C_TooMany == C_BadLiteral) = false)
    (s_TooMany_BadMany : PySem.W.subIn K (.ref C_TooMany) (.ref C_BadMany) = some false)
    (n_TooMany_BadMany : (C_TooMany == C_BadMany) = false)
    (s_TooMany_BadRow : PySem.W.subIn K (.ref C_TooMany) (.ref C_BadRow) = some false)
    (n_TooMany_BadRow : (C_TooMany == C_BadRow) = false)
    (s_TooMany_TooMany : PySem.W.subIn K (.ref C_TooMany) (.ref C_TooMany) = some true)
    (xd_WitnessError : PySem.W.hasDictIn K C_WitnessError = true)
    (sn_BadFilling : PySem.W.subIn K (.type "NoneType") (.ref C_BadFilling) = some false)
    (sn_BadLiteral : PySem.W.subIn K (.type "NoneType") (.ref C_BadLiteral) = some false)
    (sn_BadMany : PySem.W.subIn K (.type "NoneType") (.ref C_BadMany) = some false)
    (sn_BadRow : PySem.W.subIn K (.type "NoneType") (.ref C_BadRow) = some false)
    (sn_TooMany : PySem.W.subIn K (.type "NoneType") (.ref C_TooMany) = some false)
    (xn : PySem.W.specialIn K (.builtin "object.__class__") "__get__" = some (some (.builtin "getset_descriptor.__get__")))
    (xt : PySem.W.takesIn K (.builtin "object.__class__") = some true)
    (z_abs : PySem.W.nsIn K mainGlobals "abs" = some none)
    (z_all : PySem.W.nsIn K mainGlobals "all" = some none)
    (z_bool : PySem.W.nsIn K mainGlobals "bool" = some none)
    (z_int : PySem.W.nsIn K mainGlobals "int" = some none)
    (z_isinstance : PySem.W.nsIn K mainGlobals "isinstance" = some none)
    (z_len : PySem.W.nsIn K mainGlobals "len" = some none)
    (z_list : PySem.W.nsIn K mainGlobals "list" = some none)
    (z_max : PySem.W.nsIn K mainGlobals "max" = some none)
    (z_min : PySem.W.nsIn K mainGlobals "min" = some none)
    (z_range : PySem.W.nsIn K mainGlobals "range" = some none)
    (z_repr : PySem.W.nsIn K mainGlobals "repr" = some none)
    (z_sorted : PySem.W.nsIn K mainGlobals "sorted" = some none)
    (z_sum : PySem.W.nsIn K mainGlobals "sum" = some none)
    (z_tuple : PySem.W.nsIn K mainGlobals "tuple" = some none)
    (v_MOST_TRIED : PySem.W.nsIn K mainGlobals "MOST_TRIED" = some (some (.int 12 ck_MOST_TRIED)))
    (a_law : PySem.W.nsIn K mainGlobals "law" = some (some (.ref f_law)))
    (l_law : K.lookup f_law = some ⟨oc_law, od_law, .func (PySem.W.fnOf "law" "law" (defArgs (top 57)) (defBody (top 57)) (defScope (top 57)) .none kV_law dc_law pm_law an_law (.ref cA) ct_law), sl_law⟩)
    (c_law : PySem.W.codeIn K (.ref cA) "law" = true)
    (hd_law : PySem.W.codeHdIn K cA Pt = true)
    (nT : (K.lookup Pt).isNone = true) : LawRun P w K 63 mg fa h := by
  have e := hfa.symm.trans (PySem.W.mg_of X G a_law)
  cases e
  have T : Txt K mg ⟨f_is_number, PySem.W.fnOf "is_number" "is_number" (defArgs (top 9)) (defBody (top 9)) (defScope (top 9)) .none kV_is_number dc_is_number pm_is_number an_is_number cd_is_number ct_is_number, f_is_number_from, PySem.W.fnOf "is_number_from" "is_number_from" (defArgs (top 10)) (defBody (top 10)) (defScope (top 10)) .none kV_is_number_from dc_is_number_from pm_is_number_from an_is_number_from cd_is_number_from ct_is_number_from, f_is_number_between, PySem.W.fnOf "is_number_between" "is_number_between" (defArgs (top 11)) (defBody (top 11)) (defScope (top 11)) .none kV_is_number_between dc_is_number_between pm_is_number_between an_is_number_between cd_is_number_between ct_is_number_between, f_is_pair, PySem.W.fnOf "is_pair" "is_pair" (defArgs (top 12)) (defBody (top 12)) (defScope (top 12)) .none kV_is_pair dc_is_pair pm_is_pair an_is_pair cd_is_pair ct_is_pair, f_is_literal_of, PySem.W.fnOf "is_literal_of" "is_literal_of" (defArgs (top 13)) (defBody (top 13)) (defScope (top 13)) .none kV_is_literal_of dc_is_literal_of pm_is_literal_of an_is_literal_of cd_is_literal_of ct_is_literal_of, f_are_terms_of, PySem.W.fnOf "are_terms_of" "are_terms_of" (defArgs (top 14)) (defBody (top 14)) (defScope (top 14)) .none kV_are_terms_of dc_are_terms_of pm_are_terms_of an_are_terms_of cd_are_terms_of ct_are_terms_of, f_is_row_of, PySem.W.fnOf "is_row_of" "is_row_of" (defArgs (top 15)) (defBody (top 15)) (defScope (top 15)) .none kV_is_row_of dc_is_row_of pm_is_row_of an_is_row_of cd_is_row_of ct_is_row_of, f_is_filling_of, PySem.W.fnOf "is_filling_of" "is_filling_of" (defArgs (top 16)) (defBody (top 16)) (defScope (top 16)) .none kV_is_filling_of dc_is_filling_of pm_is_filling_of an_is_filling_of cd_is_filling_of ct_is_filling_of, f_check_many, PySem.W.fnOf "check_many" "check_many" (defArgs (top 17)) (defBody (top 17)) (defScope (top 17)) (.ref T_check_many) kV_check_many dc_check_many pm_check_many an_check_many cd_check_many ct_check_many, f_check_literal, PySem.W.fnOf "check_literal" "check_literal" (defArgs (top 18)) (defBody (top 18)) (defScope (top 18)) .none kV_check_literal dc_check_literal pm_check_literal an_check_literal cd_check_literal ct_check_literal, f_check_row, PySem.W.fnOf "check_row" "check_row" (defArgs (top 19)) (defBody (top 19)) (defScope (top 19)) .none kV_check_row dc_check_row pm_check_row an_check_row cd_check_row ct_check_row, f_check_filling, PySem.W.fnOf "check_filling" "check_filling" (defArgs (top 20)) (defBody (top 20)) (defScope (top 20)) .none kV_check_filling dc_check_filling pm_check_filling an_check_filling cd_check_filling ct_check_filling, f_check_few, PySem.W.fnOf "check_few" "check_few" (defArgs (top 21)) (defBody (top 21)) (defScope (top 21)) .none kV_check_few dc_check_few pm_check_few an_check_few cd_check_few ct_check_few, f_weight_sum, PySem.W.fnOf "weight_sum" "weight_sum" (defArgs (top 27)) (defBody (top 27)) (defScope (top 27)) .none kV_weight_sum dc_weight_sum pm_weight_sum an_weight_sum cd_weight_sum ct_weight_sum, f_total, PySem.W.fnOf "total" "total" (defArgs (top 23)) (defBody (top 23)) (defScope (top 23)) .none kV_total dc_total pm_total an_total cd_total ct_total, f_opposite_terms, PySem.W.fnOf "opposite_terms" "opposite_terms" (defArgs (top 31)) (defBody (top 31)) (defScope (top 31)) .none kV_opposite_terms dc_opposite_terms pm_opposite_terms an_opposite_terms cd_opposite_terms ct_opposite_terms, f_opposite_row, PySem.W.fnOf "opposite_row" "opposite_row" (defArgs (top 32)) (defBody (top 32)) (defScope (top 32)) .none kV_opposite_row dc_opposite_row pm_opposite_row an_opposite_row cd_opposite_row ct_opposite_row, f_opposite, PySem.W.fnOf "opposite" "opposite" (defArgs (top 24)) (defBody (top 24)) (defScope (top 24)) .none kV_opposite dc_opposite pm_opposite an_opposite cd_opposite ct_opposite, f_bound_is_above, PySem.W.fnOf "bound_is_above" "bound_is_above" (defArgs (top 33)) (defBody (top 33)) (defScope (top 33)) .none kV_bound_is_above dc_bound_is_above pm_bound_is_above an_bound_is_above cd_bound_is_above ct_bound_is_above, f_is_impossible, PySem.W.fnOf "is_impossible" "is_impossible" (defArgs (top 25)) (defBody (top 25)) (defScope (top 25)) .none kV_is_impossible dc_is_impossible pm_is_impossible an_is_impossible cd_is_impossible ct_is_impossible, f_worth_of, PySem.W.fnOf "worth_of" "worth_of" (defArgs (top 28)) (defBody (top 28)) (defScope (top 28)) .none kV_worth_of dc_worth_of pm_worth_of an_worth_of cd_worth_of ct_worth_of, f_sum_at, PySem.W.fnOf "sum_at" "sum_at" (defArgs (top 29)) (defBody (top 29)) (defScope (top 29)) .none kV_sum_at dc_sum_at pm_sum_at an_sum_at cd_sum_at ct_sum_at, f_holds_at, PySem.W.fnOf "holds_at" "holds_at" (defArgs (top 30)) (defBody (top 30)) (defScope (top 30)) .none kV_holds_at dc_holds_at pm_holds_at an_holds_at cd_holds_at ct_holds_at, f_holds, PySem.W.fnOf "holds" "holds" (defArgs (top 26)) (defBody (top 26)) (defScope (top 26)) .none kV_holds dc_holds pm_holds an_holds cd_holds ct_holds, f_is_filling, PySem.W.fnOf "is_filling" "is_filling" (defArgs (top 36)) (defBody (top 36)) (defScope (top 36)) .none kV_is_filling dc_is_filling pm_is_filling an_is_filling cd_is_filling ct_is_filling, f_worth, PySem.W.fnOf "worth" "worth" (defArgs (top 37)) (defBody (top 37)) (defScope (top 37)) .none kV_worth dc_worth pm_worth an_worth cd_worth ct_worth, f_tuples_of, PySem.W.fnOf "tuples_of" "tuples_of" (defArgs (top 39)) (defBody (top 39)) (defScope (top 39)) .none kV_tuples_of dc_tuples_of pm_tuples_of an_tuples_of cd_tuples_of ct_tuples_of, f_fillings, PySem.W.fnOf "fillings" "fillings" (defArgs (top 38)) (defBody (top 38)) (defScope (top 38)) .none kV_fillings dc_fillings pm_fillings an_fillings cd_fillings ct_fillings, f__law_begun, PySem.W.fnOf "_law_begun" "_law_begun" (defArgs (top 41)) (defBody (top 41)) (defScope (top 41)) .none kV__law_begun dc__law_begun pm__law_begun an__law_begun cd__law_begun ct__law_begun, f__law_draw, PySem.W.fnOf "_law_draw" "_law_draw" (defArgs (top 42)) (defBody (top 42)) (defScope (top 42)) .none kV__law_draw dc__law_draw pm__law_draw an__law_draw cd__law_draw ct__law_draw, f__law_pick, PySem.W.fnOf "_law_pick" "_law_pick" (defArgs (top 43)) (defBody (top 43)) (defScope (top 43)) .none kV__law_pick dc__law_pick pm__law_pick an__law_pick cd__law_pick ct__law_pick, f__law_caught, PySem.W.fnOf "_law_caught" "_law_caught" (defArgs (top 44)) (defBody (top 44)) (defScope (top 44)) .none kV__law_caught dc__law_caught pm__law_caught an__law_caught cd__law_caught ct__law_caught, f__law_odd, PySem.W.fnOf "_law_odd" "_law_odd" (defArgs (top 45)) (defBody (top 45)) (defScope (top 45)) .none kV__law_odd dc__law_odd pm__law_odd an__law_odd cd__law_odd ct__law_odd, f__law_fillings, PySem.W.fnOf "_law_fillings" "_law_fillings" (defArgs (top 46)) (defBody (top 46)) (defScope (top 46)) .none kV__law_fillings dc__law_fillings pm__law_fillings an__law_fillings cd__law_fillings ct__law_fillings, f__law_worth, PySem.W.fnOf "_law_worth" "_law_worth" (defArgs (top 47)) (defBody (top 47)) (defScope (top 47)) .none kV__law_worth dc__law_worth pm__law_worth an__law_worth cd__law_worth ct__law_worth, f__law_comes, PySem.W.fnOf "_law_comes" "_law_comes" (defArgs (top 48)) (defBody (top 48)) (defScope (top 48)) .none kV__law_comes dc__law_comes pm__law_comes an__law_comes cd__law_comes ct__law_comes, f__law_holds, PySem.W.fnOf "_law_holds" "_law_holds" (defArgs (top 49)) (defBody (top 49)) (defScope (top 49)) .none kV__law_holds dc__law_holds pm__law_holds an__law_holds cd__law_holds ct__law_holds, f__law_total, PySem.W.fnOf "_law_total" "_law_total" (defArgs (top 50)) (defBody (top 50)) (defScope (top 50)) .none kV__law_total dc__law_total pm__law_total an__law_total cd__law_total ct__law_total, f__law_opposite, PySem.W.fnOf "_law_opposite" "_law_opposite" (defArgs (top 51)) (defBody (top 51)) (defScope (top 51)) .none kV__law_opposite dc__law_opposite pm__law_opposite an__law_opposite cd__law_opposite ct__law_opposite, f__law_terms, PySem.W.fnOf "_law_terms" "_law_terms" (defArgs (top 52)) (defBody (top 52)) (defScope (top 52)) .none kV__law_terms dc__law_terms pm__law_terms an__law_terms cd__law_terms ct__law_terms, f__law_row, PySem.W.fnOf "_law_row" "_law_row" (defArgs (top 53)) (defBody (top 53)) (defScope (top 53)) .none kV__law_row dc__law_row pm__law_row an__law_row cd__law_row ct__law_row, f__law_bad_many, PySem.W.fnOf "_law_bad_many" "_law_bad_many" (defArgs (top 54)) (defBody (top 54)) (defScope (top 54)) .none kV__law_bad_many dc__law_bad_many pm__law_bad_many an__law_bad_many cd__law_bad_many ct__law_bad_many, f__law_bad_row, PySem.W.fnOf "_law_bad_row" "_law_bad_row" (defArgs (top 55)) (defBody (top 55)) (defScope (top 55)) .none kV__law_bad_row dc__law_bad_row pm__law_bad_row an__law_bad_row cd__law_bad_row ct__law_bad_row, f__law_bad_filling, PySem.W.fnOf "_law_bad_filling" "_law_bad_filling" (defArgs (top 56)) (defBody (top 56)) (defScope (top 56)) .none kV__law_bad_filling dc__law_bad_filling pm__law_bad_filling an__law_bad_filling cd__law_bad_filling ct__law_bad_filling, C_BadFilling, C_BadLiteral, C_BadMany, C_BadRow, C_TooMany, C_WitnessError, fi_TooMany, PySem.W.fnOf "__init__" "TooMany.__init__" (defArgs (inClass (top 6))) (defBody (inClass (top 6))) (defScope (inClass (top 6))) .none kVi_TooMany dci_TooMany pmi_TooMany ani_TooMany cdi_TooMany cti_TooMany⟩ := {
    m_is_number := PySem.W.mg_of X G a_is_number
    f_is_number := fun_mk (st := top 9) l_is_number c_is_number k_is_number
    m_is_number_from := PySem.W.mg_of X G a_is_number_from
    f_is_number_from := fun_mk (st := top 10) l_is_number_from c_is_number_from k_is_number_from
    m_is_number_between := PySem.W.mg_of X G a_is_number_between
    f_is_number_between := fun_mk (st := top 11) l_is_number_between c_is_number_between k_is_number_between
    m_is_pair := PySem.W.mg_of X G a_is_pair
    f_is_pair := fun_mk (st := top 12) l_is_pair c_is_pair k_is_pair
    m_is_literal_of := PySem.W.mg_of X G a_is_literal_of
    f_is_literal_of := fun_mk (st := top 13) l_is_literal_of c_is_literal_of k_is_literal_of
    m_are_terms_of := PySem.W.mg_of X G a_are_terms_of
    f_are_terms_of := fun_mk (st := top 14) l_are_terms_of c_are_terms_of k_are_terms_of
    m_is_row_of := PySem.W.mg_of X G a_is_row_of
    f_is_row_of := fun_mk (st := top 15) l_is_row_of c_is_row_of k_is_row_of
    m_is_filling_of := PySem.W.mg_of X G a_is_filling_of
    f_is_filling_of := fun_mk (st := top 16) l_is_filling_of c_is_filling_of k_is_filling_of
    m_check_many := PySem.W.mg_of X G a_check_many
    f_check_many := ⟨⟨_, _, _, _, _, _, _, _, _, _, rfl, l_check_many, c_check_many, .inr ⟨by simp, _, _, _, _, rfl, t_check_many, rfl, .cons ⟨_, rfl⟩ .nil⟩, .inl rfl⟩, k_check_many⟩
    m_check_literal := PySem.W.mg_of X G a_check_literal
    f_check_literal := fun_mk (st := top 18) l_check_literal c_check_literal k_check_literal
    m_check_row := PySem.W.mg_of X G a_check_row
    f_check_row := fun_mk (st := top 19) l_check_row c_check_row k_check_row
    m_check_filling := PySem.W.mg_of X G a_check_filling
    f_check_filling := fun_mk (st := top 20) l_check_filling c_check_filling k_check_filling
    m_check_few := PySem.W.mg_of X G a_check_few
    f_check_few := fun_mk (st := top 21) l_check_few c_check_few k_check_few
    m_weight_sum := PySem.W.mg_of X G a_weight_sum
    f_weight_sum := fun_mk (st := top 27) l_weight_sum c_weight_sum k_weight_sum
    m_total := PySem.W.mg_of X G a_total
    f_total := fun_mk (st := top 23) l_total c_total k_total
    m_opposite_terms := PySem.W.mg_of X G a_opposite_terms
    f_opposite_terms := fun_mk (st := top 31) l_opposite_terms c_opposite_terms k_opposite_terms
    m_opposite_row := PySem.W.mg_of X G a_opposite_row
    f_opposite_row := fun_mk (st := top 32) l_opposite_row c_opposite_row k_opposite_row
    m_opposite := PySem.W.mg_of X G a_opposite
    f_opposite := fun_mk (st := top 24) l_opposite c_opposite k_opposite
    m_bound_is_above := PySem.W.mg_of X G a_bound_is_above
    f_bound_is_above := fun_mk (st := top 33) l_bound_is_above c_bound_is_above k_bound_is_above
    m_is_impossible := PySem.W.mg_of X G a_is_impossible
    f_is_impossible := fun_mk (st := top 25) l_is_impossible c_is_impossible k_is_impossible
    m_worth_of := PySem.W.mg_of X G a_worth_of
    f_worth_of := fun_mk (st := top 28) l_worth_of c_worth_of k_worth_of
    m_sum_at := PySem.W.mg_of X G a_sum_at
    f_sum_at := fun_mk (st := top 29) l_sum_at c_sum_at k_sum_at
    m_holds_at := PySem.W.mg_of X G a_holds_at
    f_holds_at := fun_mk (st := top 30) l_holds_at c_holds_at k_holds_at
    m_holds := PySem.W.mg_of X G a_holds
    f_holds := fun_mk (st := top 26) l_holds c_holds k_holds
    m_is_filling := PySem.W.mg_of X G a_is_filling
    f_is_filling := fun_mk (st := top 36) l_is_filling c_is_filling k_is_filling
    m_worth := PySem.W.mg_of X G a_worth
    f_worth := fun_mk (st := top 37) l_worth c_worth k_worth
    m_tuples_of := PySem.W.mg_of X G a_tuples_of
    f_tuples_of := fun_mk (st := top 39) l_tuples_of c_tuples_of k_tuples_of
    m_fillings := PySem.W.mg_of X G a_fillings
    f_fillings := fun_mk (st := top 38) l_fillings c_fillings k_fillings
    m__law_begun := PySem.W.mg_of X G a__law_begun
    f__law_begun := fun_mk (st := top 41) l__law_begun c__law_begun k__law_begun
    m__law_draw := PySem.W.mg_of X G a__law_draw
    f__law_draw := fun_mk (st := top 42) l__law_draw c__law_draw k__law_draw
    m__law_pick := PySem.W.mg_of X G a__law_pick
    f__law_pick := fun_mk (st := top 43) l__law_pick c__law_pick k__law_pick
    m__law_caught := PySem.W.mg_of X G a__law_caught
    f__law_caught := fun_mk (st := top 44) l__law_caught c__law_caught k__law_caught
    m__law_odd := PySem.W.mg_of X G a__law_odd
    f__law_odd := fun_mk (st := top 45) l__law_odd c__law_odd k__law_odd
    m__law_fillings := PySem.W.mg_of X G a__law_fillings
    f__law_fillings := fun_mk (st := top 46) l__law_fillings c__law_fillings k__law_fillings
    m__law_worth := PySem.W.mg_of X G a__law_worth
    f__law_worth := fun_mk (st := top 47) l__law_worth c__law_worth k__law_worth
    m__law_comes := PySem.W.mg_of X G a__law_comes
    f__law_comes := fun_mk (st := top 48) l__law_comes c__law_comes k__law_comes
    m__law_holds := PySem.W.mg_of X G a__law_holds
    f__law_holds := fun_mk (st := top 49) l__law_holds c__law_holds k__law_holds
    m__law_total := PySem.W.mg_of X G a__law_total
    f__law_total := fun_mk (st := top 50) l__law_total c__law_total k__law_total
    m__law_opposite := PySem.W.mg_of X G a__law_opposite
    f__law_opposite := fun_mk (st := top 51) l__law_opposite c__law_opposite k__law_opposite
    m__law_terms := PySem.W.mg_of X G a__law_terms
    f__law_terms := fun_mk (st := top 52) l__law_terms c__law_terms k__law_terms
    m__law_row := PySem.W.mg_of X G a__law_row
    f__law_row := fun_mk (st := top 53) l__law_row c__law_row k__law_row
    m__law_bad_many := PySem.W.mg_of X G a__law_bad_many
    f__law_bad_many := fun_mk (st := top 54) l__law_bad_many c__law_bad_many k__law_bad_many
    m__law_bad_row := PySem.W.mg_of X G a__law_bad_row
    f__law_bad_row := fun_mk (st := top 55) l__law_bad_row c__law_bad_row k__law_bad_row
    m__law_bad_filling := PySem.W.mg_of X G a__law_bad_filling
    f__law_bad_filling := fun_mk (st := top 56) l__law_bad_filling c__law_bad_filling k__law_bad_filling
    k_BadFilling := ⟨PySem.W.mg_of X G ac_BadFilling, cx_BadFilling, ck_BadFilling, cb_BadFilling, ct_BadFilling_⟩
    k_BadLiteral := ⟨PySem.W.mg_of X G ac_BadLiteral, cx_BadLiteral, ck_BadLiteral, cb_BadLiteral, ct_BadLiteral_⟩
    k_BadMany := ⟨PySem.W.mg_of X G ac_BadMany, cx_BadMany, ck_BadMany, cb_BadMany, ct_BadMany_⟩
    k_BadRow := ⟨PySem.W.mg_of X G ac_BadRow, cx_BadRow, ck_BadRow, cb_BadRow, ct_BadRow_⟩
    k_TooMany := ⟨PySem.W.mg_of X G ac_TooMany, ck_TooMany, cb_TooMany, ct_TooMany_⟩
    fi_TooMany := fun_mk (st := inClass (top 6)) li_TooMany ci_TooMany ki_TooMany
    oe_TooMany := ⟨⟨_, _, _, _, _, _, _, _, _, _, _, _, _, _, _, xL_TooMany, xr_TooMany⟩, sa_TooMany, cb_TooMany, ct_TooMany_, ck_TooMany⟩
    xf_TooMany := ⟨xg_TooMany, xk_TooMany, cb_TooMany, xd_TooMany⟩
    nf_TooMany := nf_TooMany
    ii_TooMany := ii_TooMany
    ti_TooMany := ti_TooMany
    k_WitnessError := ⟨PySem.W.mg_of X G ac_WitnessError, cx_WitnessError, ck_WitnessError, cb_WitnessError, ct_WitnessError_⟩
    x_BadMany := ⟨xg_BadMany, xk_BadMany, cb_BadMany, xd_BadMany, xa_BadMany, xn, xt, xm_BadMany⟩
    e_BadMany := PySem.W.exm_ref cb_WitnessError xd_WitnessError ct_WitnessError_ s_BadMany
    i_BadMany_BadFilling := kit_sub (ref_ne n_BadMany_BadFilling) xd_BadFilling ct_BadFilling_ s_BadMany_BadFilling
    i_BadMany_BadLiteral := kit_sub (ref_ne n_BadMany_BadLiteral) xd_BadLiteral ct_BadLiteral_ s_BadMany_BadLiteral
    i_BadMany_BadMany := kit_sub (fun _ => rfl) xd_BadMany ct_BadMany_ s_BadMany_BadMany
    i_BadMany_BadRow := kit_sub (ref_ne n_BadMany_BadRow) xd_BadRow ct_BadRow_ s_BadMany_BadRow
    i_BadMany_TooMany := kit_sub (ref_ne n_BadMany_TooMany) xd_TooMany ct_TooMany_ s_BadMany_TooMany
    x_BadLiteral := ⟨xg_BadLiteral, xk_BadLiteral, cb_BadLiteral, xd_BadLiteral, xa_BadLiteral, xn, xt, xm_BadLiteral⟩
    e_BadLiteral := PySem.W.exm_ref cb_WitnessError xd_WitnessError ct_WitnessError_ s_BadLiteral
    i_BadLiteral_BadFilling := kit_sub (ref_ne n_BadLiteral_BadFilling) xd_BadFilling ct_BadFilling_ s_BadLiteral_BadFilling
    i_BadLiteral_BadLiteral := kit_sub (fun _ => rfl) xd_BadLiteral ct_BadLiteral_ s_BadLiteral_BadLiteral
    i_BadLiteral_BadMany := kit_sub (ref_ne n_BadLiteral_BadMany) xd_BadMany ct_BadMany_ s_BadLiteral_BadMany
    i_BadLiteral_BadRow := kit_sub (ref_ne n_BadLiteral_BadRow) xd_BadRow ct_BadRow_ s_BadLiteral_BadRow
    i_BadLiteral_TooMany := kit_sub (ref_ne n_BadLiteral_TooMany) xd_TooMany ct_TooMany_ s_BadLiteral_TooMany
    x_BadRow := ⟨xg_BadRow, xk_BadRow, cb_BadRow, xd_BadRow, xa_BadRow, xn, xt, xm_BadRow⟩
    e_BadRow := PySem.W.exm_ref cb_WitnessError xd_WitnessError ct_WitnessError_ s_BadRow
    i_BadRow_BadFilling := kit_sub (ref_ne n_BadRow_BadFilling) xd_BadFilling ct_BadFilling_ s_BadRow_BadFilling
    i_BadRow_BadLiteral := kit_sub (ref_ne n_BadRow_BadLiteral) xd_BadLiteral ct_BadLiteral_ s_BadRow_BadLiteral
    i_BadRow_BadMany := kit_sub (ref_ne n_BadRow_BadMany) xd_BadMany ct_BadMany_ s_BadRow_BadMany
    i_BadRow_BadRow := kit_sub (fun _ => rfl) xd_BadRow ct_BadRow_ s_BadRow_BadRow
    i_BadRow_TooMany := kit_sub (ref_ne n_BadRow_TooMany) xd_TooMany ct_TooMany_ s_BadRow_TooMany
    x_BadFilling := ⟨xg_BadFilling, xk_BadFilling, cb_BadFilling, xd_BadFilling, xa_BadFilling, xn, xt, xm_BadFilling⟩
    e_BadFilling := PySem.W.exm_ref cb_WitnessError xd_WitnessError ct_WitnessError_ s_BadFilling
    i_BadFilling_BadFilling := kit_sub (fun _ => rfl) xd_BadFilling ct_BadFilling_ s_BadFilling_BadFilling
    i_BadFilling_BadLiteral := kit_sub (ref_ne n_BadFilling_BadLiteral) xd_BadLiteral ct_BadLiteral_ s_BadFilling_BadLiteral
    i_BadFilling_BadMany := kit_sub (ref_ne n_BadFilling_BadMany) xd_BadMany ct_BadMany_ s_BadFilling_BadMany
    i_BadFilling_BadRow := kit_sub (ref_ne n_BadFilling_BadRow) xd_BadRow ct_BadRow_ s_BadFilling_BadRow
    i_BadFilling_TooMany := kit_sub (ref_ne n_BadFilling_TooMany) xd_TooMany ct_TooMany_ s_BadFilling_TooMany
    x_TooMany := ⟨xg_TooMany, xk_TooMany, cb_TooMany, xd_TooMany, xa_TooMany, xn, xt, xm_TooMany⟩
    e_TooMany := PySem.W.exm_ref cb_WitnessError xd_WitnessError ct_WitnessError_ s_TooMany
    i_TooMany_BadFilling := kit_sub (ref_ne n_TooMany_BadFilling) xd_BadFilling ct_BadFilling_ s_TooMany_BadFilling
    i_TooMany_BadLiteral := kit_sub (ref_ne n_TooMany_BadLiteral) xd_BadLiteral ct_BadLiteral_ s_TooMany_BadLiteral
    i_TooMany_BadMany := kit_sub (ref_ne n_TooMany_BadMany) xd_BadMany ct_BadMany_ s_TooMany_BadMany
    i_TooMany_BadRow := kit_sub (ref_ne n_TooMany_BadRow) xd_BadRow ct_BadRow_ s_TooMany_BadRow
    i_TooMany_TooMany := kit_sub (fun _ => rfl) xd_TooMany ct_TooMany_ s_TooMany_TooMany
    nn_BadFilling := kit_sub (fun z => by cases z) xd_BadFilling ct_BadFilling_ sn_BadFilling
    nn_BadLiteral := kit_sub (fun z => by cases z) xd_BadLiteral ct_BadLiteral_ sn_BadLiteral
    nn_BadMany := kit_sub (fun z => by cases z) xd_BadMany ct_BadMany_ sn_BadMany
    nn_BadRow := kit_sub (fun z => by cases z) xd_BadRow ct_BadRow_ sn_BadRow
    nn_TooMany := kit_sub (fun z => by cases z) xd_TooMany ct_TooMany_ sn_TooMany
    c_MOST_TRIED := ⟨_, PySem.W.mg_of X G v_MOST_TRIED⟩
    g_abs := PySem.W.mg_none_of X G z_abs
    g_all := PySem.W.mg_none_of X G z_all
    g_bool := PySem.W.mg_none_of X G z_bool
    g_int := PySem.W.mg_none_of X G z_int
    g_isinstance := PySem.W.mg_none_of X G z_isinstance
    g_len := PySem.W.mg_none_of X G z_len
    g_list := PySem.W.mg_none_of X G z_list
    g_max := PySem.W.mg_none_of X G z_max
    g_min := PySem.W.mg_none_of X G z_min
    g_range := PySem.W.mg_none_of X G z_range
    g_repr := PySem.W.mg_none_of X G z_repr
    g_sorted := PySem.W.mg_none_of X G z_sorted
    g_sum := PySem.W.mg_none_of X G z_sum
    g_tuple := PySem.W.mg_none_of X G z_tuple }
  obtain ⟨dd, vs, sl, lc, p11⟩ := hd_lookup hd_law
  refine ⟨[(cA, Pt)], fun p hp => ?_, fun p hp => ?_, fun p hp => ?_, fun s₁ a ns base H hl hK hN hTB e0 hH hS hno => ?_⟩
  · rw [List.mem_singleton.mp hp]
    exact own cA Pt _ _ _ _ _ _ l_law rfl rfl lc p11
  · rw [List.mem_singleton.mp hp]
    exact Option.isNone_iff_eq_none.mp nT
  · rw [List.mem_singleton.mp hp]
    exact PySem.W.codeHd_of_K X hd_law
  · have m : (cA, Pt) ∈ [(cA, Pt)] := List.mem_singleton.mpr rfl
    exact law_done T l_law c_law (fun s u => .of_eq rfl) math hl (hTB _ m) e0 (hH _ m) hS hno
theorem law_true (ns : List Int) (hn : ns.length ≤ 63) : ∃ S', g_law (some (.scr ns) :: some .st :: List.replicate 17 none) (begun ns) = .ok (.rt (.bl true), S') := law_true' ns hn
end
end My
open PySem PySem.W PyProof.Rows in
set_option maxRecDepth 100000 in
set_option maxHeartbeats 0 in
theorem PySem.Challenge.cw_witnesslog_k02_opposites_and_worths_holds : PySem.Challenge.rw_witnesslog_k02_opposites_and_worths.Holds := by
  w_on; o_law; k_head; (case hw => w_witness2)
  k_fill
  refine VS.walk_G (l := PySem.Challenge.rw_witnesslog_k02_opposites_and_worths) (n := 63) rfl (by decide) rfl (by decide +kernel) (fun w h Y => by first | exact PySem.W.km_in_of Y | exact PySem.W.kIn_of Y) ?F
  case F =>
    intro w mg fa h KX G hmg own
    refine' My.all_mk (Pt := 383) KX G hmg own (fun ns hn => My.law_true ns hn) ?ac_BadFilling ?ac_BadLiteral ?ac_BadMany ?ac_BadRow ?ac_TooMany ?ac_WitnessError ?a_is_number ?l_is_number ?c_is_number ?k_is_number ?a_is_number_from ?l_is_number_from ?c_is_number_from ?k_is_number_from ?a_is_number_between ?l_is_number_between ?c_is_number_between ?k_is_number_between ?a_is_pair ?l_is_pair ?c_is_pair ?k_is_pair ?a_is_literal_of ?l_is_literal_of ?c_is_literal_of ?k_is_literal_of ?a_are_terms_of ?l_are_terms_of ?c_are_terms_of ?k_are_terms_of ?a_is_row_of ?l_is_row_of ?c_is_row_of ?k_is_row_of ?a_is_filling_of ?l_is_filling_of ?c_is_filling_of ?k_is_filling_of ?a_check_many ?l_check_many ?t_check_many ?c_check_many ?k_check_many ?a_check_literal ?l_check_literal ?c_check_literal ?k_check_literal ?a_check_row ?l_check_row ?c_check_row ?k_check_row ?a_check_filling ?l_check_filling ?c_check_filling ?k_check_filling ?a_check_few ?l_check_few ?c_check_few ?k_check_few ?a_weight_sum ?l_weight_sum ?c_weight_sum ?k_weight_sum ?a_total ?l_total ?c_total ?k_total ?a_opposite_terms ?l_opposite_terms ?c_opposite_terms ?k_opposite_terms ?a_opposite_row ?l_opposite_row ?c_opposite_row ?k_opposite_row ?a_opposite ?l_opposite ?c_opposite ?k_opposite ?a_bound_is_above ?l_bound_is_above ?c_bound_is_above ?k_bound_is_above ?a_is_impossible ?l_is_impossible ?c_is_impossible ?k_is_impossible ?a_worth_of ?l_worth_of ?c_worth_of ?k_worth_of ?a_sum_at ?l_sum_at ?c_sum_at ?k_sum_at ?a_holds_at ?l_holds_at ?c_holds_at ?k_holds_at ?a_holds ?l_holds ?c_holds ?k_holds ?a_is_filling ?l_is_filling ?c_is_filling ?k_is_filling ?a_worth ?l_worth ?c_worth ?k_worth ?a_tuples_of ?l_tuples_of ?c_tuples_of ?k_tuples_of ?a_fillings ?l_fillings ?c_fillings ?k_fillings ?a__law_begun ?l__law_begun ?c__law_begun ?k__law_begun ?a__law_draw ?l__law_draw ?c__law_draw ?k__law_draw ?a__law_pick ?l__law_pick ?c__law_pick ?k__law_pick ?a__law_caught ?l__law_caught ?c__law_caught ?k__law_caught ?a__law_odd ?l__law_odd ?c__law_odd ?k__law_odd ?a__law_fillings ?l__law_fillings ?c__law_fillings ?k__law_fillings ?a__law_worth ?l__law_worth ?c__law_worth ?k__law_worth ?a__law_comes ?l__law_comes ?c__law_comes ?k__law_comes ?a__law_holds ?l__law_holds ?c__law_holds ?k__law_holds ?a__law_total ?l__law_total ?c__law_total ?k__law_total ?a__law_opposite ?l__law_opposite ?c__law_opposite ?k__law_opposite ?a__law_terms ?l__law_terms ?c__law_terms ?k__law_terms ?a__law_row ?l__law_row ?c__law_row ?k__law_row ?a__law_bad_many ?l__law_bad_many ?c__law_bad_many ?k__law_bad_many ?a__law_bad_row ?l__law_bad_row ?c__law_bad_row ?k__law_bad_row ?a__law_bad_filling ?l__law_bad_filling ?c__law_bad_filling ?k__law_bad_filling ?xL_TooMany ?xr_TooMany ?sa_TooMany ?nf_TooMany ?ii_TooMany ?ti_TooMany ?li_TooMany ?ci_TooMany ?ki_TooMany ?cx_BadFilling ?ck_BadFilling ?cb_BadFilling ?ct_BadFilling_ ?cx_BadLiteral ?ck_BadLiteral ?cb_BadLiteral ?ct_BadLiteral_ ?cx_BadMany ?ck_BadMany ?cb_BadMany ?ct_BadMany_ ?cx_BadRow ?ck_BadRow ?cb_BadRow ?ct_BadRow_ ?ck_TooMany ?cb_TooMany ?ct_TooMany_ ?cx_WitnessError ?ck_WitnessError ?cb_WitnessError ?ct_WitnessError_ ?xg_BadMany ?xk_BadMany ?xd_BadMany ?xa_BadMany ?xm_BadMany ?s_BadMany ?s_BadMany_BadFilling ?n_BadMany_BadFilling ?s_BadMany_BadLiteral ?n_BadMany_BadLiteral ?s_BadMany_BadMany ?s_BadMany_BadRow ?n_BadMany_BadRow ?s_BadMany_TooMany ?n_BadMany_TooMany ?xg_BadLiteral ?xk_BadLiteral ?xd_BadLiteral ?xa_BadLiteral ?xm_BadLiteral ?s_BadLiteral ?s_BadLiteral_BadFilling ?n_BadLiteral_BadFilling ?s_BadLiteral_BadLiteral ?s_BadLiteral_BadMany ?n_BadLiteral_BadMany ?s_BadLiteral_BadRow ?n_BadLiteral_BadRow ?s_BadLiteral_TooMany ?n_BadLiteral_TooMany ?xg_BadRow ?xk_BadRow ?xd_BadRow ?xa_BadRow ?xm_BadRow ?s_BadRow ?s_BadRow_BadFilling ?n_BadRow_BadFilling ?s_BadRow_BadLiteral ?n_BadRow_BadLiteral ?s_BadRow_BadMany ?n_BadRow_BadMany ?s_BadRow_BadRow ?s_BadRow_TooMany ?n_BadRow_TooMany ?xg_BadFilling ?xk_BadFilling ?xd_BadFilling ?xa_BadFilling ?xm_BadFilling ?s_BadFilling ?s_BadFilling_BadFilling ?s_BadFilling_BadLiteral ?n_BadFilling_BadLiteral ?s_BadFilling_BadMany ?n_BadFilling_BadMany ?s_BadFilling_BadRow ?n_BadFilling_BadRow ?s_BadFilling_TooMany ?n_BadFilling_TooMany ?xg_TooMany ?xk_TooMany ?xd_TooMany ?xa_TooMany ?xm_TooMany ?s_TooMany ?s_TooMany_BadFilling ?n_TooMany_BadFilling ?s_TooMany_BadLiteral ?n_TooMany_BadLiteral ?s_TooMany_BadMany ?n_TooMany_BadMany ?s_TooMany_BadRow ?n_TooMany_BadRow ?s_TooMany_TooMany ?xd_WitnessError ?sn_BadFilling ?sn_BadLiteral ?sn_BadMany ?sn_BadRow ?sn_TooMany ?xn ?xt ?z_abs ?z_all ?z_bool ?z_int ?z_isinstance ?z_len ?z_list ?z_max ?z_min ?z_range ?z_repr ?z_sorted ?z_sum ?z_tuple ?v_MOST_TRIED ?a_law ?l_law ?c_law ?hd_law ?nT
    (case ac_BadFilling => k_is)
    (case ac_BadLiteral => k_is)
    (case ac_BadMany => k_is)
    (case ac_BadRow => k_is)
    (case ac_TooMany => k_is)
    (case ac_WitnessError => k_is)
    (case a_is_number => k_is)
    (case l_is_number => k_is)
    (case c_is_number => k_is)
    (case k_is_number => k_is)
    (case a_is_number_from => k_is)
    (case l_is_number_from => k_is)
    (case c_is_number_from => k_is)
    (case k_is_number_from => k_is)
    (case a_is_number_between => k_is)
    (case l_is_number_between => k_is)
    (case c_is_number_between => k_is)
    (case k_is_number_between => k_is)
    (case a_is_pair => k_is)
    (case l_is_pair => k_is)
    (case c_is_pair => k_is)
    (case k_is_pair => k_is)
    (case a_is_literal_of => k_is)
    (case l_is_literal_of => k_is)
    (case c_is_literal_of => k_is)
    (case k_is_literal_of => k_is)
    (case a_are_terms_of => k_is)
    (case l_are_terms_of => k_is)
    (case c_are_terms_of => k_is)
    (case k_are_terms_of => k_is)
    (case a_is_row_of => k_is)
    (case l_is_row_of => k_is)
    (case c_is_row_of => k_is)
    (case k_is_row_of => k_is)
    (case a_is_filling_of => k_is)
    (case l_is_filling_of => k_is)
    (case c_is_filling_of => k_is)
    (case k_is_filling_of => k_is)
    (case a_check_many => k_is)
    (case l_check_many => k_is)
    (case t_check_many => k_is)
    (case c_check_many => k_is)
    (case k_check_many => k_is)
    (case a_check_literal => k_is)
    (case l_check_literal => k_is)
    (case c_check_literal => k_is)
    (case k_check_literal => k_is)
    (case a_check_row => k_is)
    (case l_check_row => k_is)
    (case c_check_row => k_is)
    (case k_check_row => k_is)
    (case a_check_filling => k_is)
    (case l_check_filling => k_is)
    (case c_check_filling => k_is)
    (case k_check_filling => k_is)
    (case a_check_few => k_is)
    (case l_check_few => k_is)
    (case c_check_few => k_is)
    (case k_check_few => k_is)
    (case a_weight_sum => k_is)
    (case l_weight_sum => k_is)
    (case c_weight_sum => k_is)
    (case k_weight_sum => k_is)
    (case a_total => k_is)
    (case l_total => k_is)
    (case c_total => k_is)
    (case k_total => k_is)
    (case a_opposite_terms => k_is)
    (case l_opposite_terms => k_is)
    (case c_opposite_terms => k_is)
    (case k_opposite_terms => k_is)
    (case a_opposite_row => k_is)
    (case l_opposite_row => k_is)
    (case c_opposite_row => k_is)
    (case k_opposite_row => k_is)
    (case a_opposite => k_is)
    (case l_opposite => k_is)
    (case c_opposite => k_is)
    (case k_opposite => k_is)
    (case a_bound_is_above => k_is)
    (case l_bound_is_above => k_is)
    (case c_bound_is_above => k_is)
    (case k_bound_is_above => k_is)
    (case a_is_impossible => k_is)
    (case l_is_impossible => k_is)
    (case c_is_impossible => k_is)
    (case k_is_impossible => k_is)
    (case a_worth_of => k_is)
    (case l_worth_of => k_is)
    (case c_worth_of => k_is)
    (case k_worth_of => k_is)
    (case a_sum_at => k_is)
    (case l_sum_at => k_is)
    (case c_sum_at => k_is)
    (case k_sum_at => k_is)
    (case a_holds_at => k_is)
    (case l_holds_at => k_is)
    (case c_holds_at => k_is)
    (case k_holds_at => k_is)
    (case a_holds => k_is)
    (case l_holds => k_is)
    (case c_holds => k_is)
    (case k_holds => k_is)
    (case a_is_filling => k_is)
    (case l_is_filling => k_is)
    (case c_is_filling => k_is)
    (case k_is_filling => k_is)
    (case a_worth => k_is)
    (case l_worth => k_is)
    (case c_worth => k_is)
    (case k_worth => k_is)
    (case a_tuples_of => k_is)
    (case l_tuples_of => k_is)
    (case c_tuples_of => k_is)
    (case k_tuples_of => k_is)
    (case a_fillings => k_is)
    (case l_fillings => k_is)
    (case c_fillings => k_is)
    (case k_fillings => k_is)
    (case a__law_begun => k_is)
    (case l__law_begun => k_is)
    (case c__law_begun => k_is)
    (case k__law_begun => k_is)
    (case a__law_draw => k_is)
    (case l__law_draw => k_is)
    (case c__law_draw => k_is)
    (case k__law_draw => k_is)
    (case a__law_pick => k_is)
    (case l__law_pick => k_is)
    (case c__law_pick => k_is)
    (case k__law_pick => k_is)
    (case a__law_caught => k_is)
    (case l__law_caught => k_is)
    (case c__law_caught => k_is)
    (case k__law_caught => k_is)
    (case a__law_odd => k_is)
    (case l__law_odd => k_is)
    (case c__law_odd => k_is)
    (case k__law_odd => k_is)
    (case a__law_fillings => k_is)
    (case l__law_fillings => k_is)
    (case c__law_fillings => k_is)
    (case k__law_fillings => k_is)
    (case a__law_worth => k_is)
    (case l__law_worth => k_is)
    (case c__law_worth => k_is)
    (case k__law_worth => k_is)
    (case a__law_comes => k_is)
    (case l__law_comes => k_is)
    (case c__law_comes => k_is)
    (case k__law_comes => k_is)
    (case a__law_holds => k_is)
    (case l__law_holds => k_is)
    (case c__law_holds => k_is)
    (case k__law_holds => k_is)
    (case a__law_total => k_is)
    (case l__law_total => k_is)
    (case c__law_total => k_is)
    (case k__law_total => k_is)
    (case a__law_opposite => k_is)
    (case l__law_opposite => k_is)
    (case c__law_opposite => k_is)
    (case k__law_opposite => k_is)
    (case a__law_terms => k_is)
    (case l__law_terms => k_is)
    (case c__law_terms => k_is)
    (case k__law_terms => k_is)
    (case a__law_row => k_is)
    (case l__law_row => k_is)
    (case c__law_row => k_is)
    (case k__law_row => k_is)
    (case a__law_bad_many => k_is)
    (case l__law_bad_many => k_is)
    (case c__law_bad_many => k_is)
    (case k__law_bad_many => k_is)
    (case a__law_bad_row => k_is)
    (case l__law_bad_row => k_is)
    (case c__law_bad_row => k_is)
    (case k__law_bad_row => k_is)
    (case a__law_bad_filling => k_is)
    (case l__law_bad_filling => k_is)
    (case c__law_bad_filling => k_is)
    (case k__law_bad_filling => k_is)
    (case xL_TooMany => k_is)
    (case xr_TooMany => decide +kernel)
    (case sa_TooMany => k_is)
    (case nf_TooMany => k_is)
    (case ii_TooMany => k_is)
    (case ti_TooMany => k_is)
    (case li_TooMany => k_is)
    (case ci_TooMany => k_is)
    (case ki_TooMany => k_is)
    (case cx_BadFilling => k_exc)
    (case ck_BadFilling => k_is)
    (case cb_BadFilling => k_is)
    (case ct_BadFilling_ => k_is)
    (case cx_BadLiteral => k_exc)
    (case ck_BadLiteral => k_is)
    (case cb_BadLiteral => k_is)
    (case ct_BadLiteral_ => k_is)
    (case cx_BadMany => k_exc)
    (case ck_BadMany => k_is)
    (case cb_BadMany => k_is)
    (case ct_BadMany_ => k_is)
    (case cx_BadRow => k_exc)
    (case ck_BadRow => k_is)
    (case cb_BadRow => k_is)
    (case ct_BadRow_ => k_is)
    (case ck_TooMany => k_is)
    (case cb_TooMany => k_is)
    (case ct_TooMany_ => k_is)
    (case cx_WitnessError => k_exc)
    (case ck_WitnessError => k_is)
    (case cb_WitnessError => k_is)
    (case ct_WitnessError_ => k_is)
    (case xg_BadMany => k_is)
    (case xk_BadMany => k_is)
    (case xd_BadMany => k_is)
    (case xa_BadMany => k_is)
    (case xm_BadMany => k_is)
    (case s_BadMany => k_is)
    (case s_BadMany_BadFilling => k_is)
    (case n_BadMany_BadFilling => decide)
    (case s_BadMany_BadLiteral => k_is)
    (case n_BadMany_BadLiteral => decide)
    (case s_BadMany_BadMany => k_is)
    (case s_BadMany_BadRow => k_is)
    (case n_BadMany_BadRow => decide)
    (case s_BadMany_TooMany => k_is)
    (case n_BadMany_TooMany => decide)
    (case xg_BadLiteral => k_is)
    (case xk_BadLiteral => k_is)
    (case xd_BadLiteral => k_is)
    (case xa_BadLiteral => k_is)
    (case xm_BadLiteral => k_is)
    (case s_BadLiteral => k_is)
    (case s_BadLiteral_BadFilling => k_is)
    (case n_BadLiteral_BadFilling => decide)
    (case s_BadLiteral_BadLiteral => k_is)
    (case s_BadLiteral_BadMany => k_is)
    (case n_BadLiteral_BadMany => decide)
    (case s_BadLiteral_BadRow => k_is)
    (case n_BadLiteral_BadRow => decide)
    (case s_BadLiteral_TooMany => k_is)
    (case n_BadLiteral_TooMany => decide)
    (case xg_BadRow => k_is)
    (case xk_BadRow => k_is)
    (case xd_BadRow => k_is)
    (case xa_BadRow => k_is)
    (case xm_BadRow => k_is)
    (case s_BadRow => k_is)
    (case s_BadRow_BadFilling => k_is)
    (case n_BadRow_BadFilling => decide)
    (case s_BadRow_BadLiteral => k_is)
    (case n_BadRow_BadLiteral => decide)
    (case s_BadRow_BadMany => k_is)
    (case n_BadRow_BadMany => decide)
    (case s_BadRow_BadRow => k_is)
    (case s_BadRow_TooMany => k_is)
    (case n_BadRow_TooMany => decide)
    (case xg_BadFilling => k_is)
    (case xk_BadFilling => k_is)
    (case xd_BadFilling => k_is)
    (case xa_BadFilling => k_is)
    (case xm_BadFilling => k_is)
    (case s_BadFilling => k_is)
    (case s_BadFilling_BadFilling => k_is)
    (case s_BadFilling_BadLiteral => k_is)
    (case n_BadFilling_BadLiteral => decide)
    (case s_BadFilling_BadMany => k_is)
    (case n_BadFilling_BadMany => decide)
    (case s_BadFilling_BadRow => k_is)
    (case n_BadFilling_BadRow => decide)
    (case s_BadFilling_TooMany => k_is)
    (case n_BadFilling_TooMany => decide)
    (case xg_TooMany => k_is)
    (case xk_TooMany => k_is)
    (case xd_TooMany => k_is)
    (case xa_TooMany => k_is)
    (case xm_TooMany => k_is)
    (case s_TooMany => k_is)
    (case s_TooMany_BadFilling => k_is)
    (case n_TooMany_BadFilling => decide)
    (case s_TooMany_BadLiteral => k_is)
    (case n_TooMany_BadLiteral => decide)
    (case s_TooMany_BadMany => k_is)
    (case n_TooMany_BadMany => decide)
    (case s_TooMany_BadRow => k_is)
    (case n_TooMany_BadRow => decide)
    (case s_TooMany_TooMany => k_is)
    (case xd_WitnessError => k_is)
    (case sn_BadFilling => k_is)
    (case sn_BadLiteral => k_is)
    (case sn_BadMany => k_is)
    (case sn_BadRow => k_is)
    (case sn_TooMany => k_is)
    (case xn => k_is)
    (case xt => k_is)
    (case z_abs => k_is)
    (case z_all => k_is)
    (case z_bool => k_is)
    (case z_int => k_is)
    (case z_isinstance => k_is)
    (case z_len => k_is)
    (case z_list => k_is)
    (case z_max => k_is)
    (case z_min => k_is)
    (case z_range => k_is)
    (case z_repr => k_is)
    (case z_sorted => k_is)
    (case z_sum => k_is)
    (case z_tuple => k_is)
    (case v_MOST_TRIED => k_is)
    (case a_law => k_is)
    (case l_law => k_is)
    (case c_law => k_is)
    (case hd_law => kernel_rfl)
    (case nT => kernel_rfl)
