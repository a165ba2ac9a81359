import PyProof.Rows.All
import Wide.All
import OpenK.AllK
import Wide.FinOn
import HandS.ForMost
import HandS.TupAny
import HandS.TupMul
import HandS.IsInst
import HandS.Zip
import HandS.Conv
import HandS.Deep
import HandS.TupLe
import HandS.ForExc
import HandS.TryMany
import HandS.ExcInit
import HandS.ExcField
import HandS.ExcIs
import PyProof.ListMulRoad
import PyProof.FactsAll.tuple_2
import PyProof.AutoSeq1
import PyProof.P3In
import KE.GoesMore
import HandS.SortInts
import HandS.Sort
import HandS.Style
import HandS.SortOrd
import HandS.SortRule
import KE.SortData
import KE.DataCmp
import KE.GoesZip
import HandS.Flow
import KE.DataMinMax
import HandS.SortKw
import PySem.Challenge.RW_rootfirst_k03_whole_order_of_trees
set_option Elab.async false
set_option linter.all false
set_option autoImplicit false
set_option maxRecDepth 100000
set_option maxHeartbeats 4000000
/-! Pure data read off the heap, and programs as functions on such data. -/
namespace G
open PySem L2

abbrev D := PyData
inductive Sl where
  | d (x : D)
  | loc (n : Nat)
inductive Rt where
  | val (x : D)
  | new (xs : List D)
  | exc (c : Nat) (x : List D)
/-- the program's own errors: their classes by number, their fields -/
structure ET where
  cls : Nat → Addr
  flds : Nat → List Str
abbrev Sto := List (Option (List D))
abbrev Rho := List (Option Sl)
/-- the cells' addresses; lists in the making -/
structure Adr where
  c : List (Option Addr)
  g : List Addr
def Adr.mem (M : Adr) (a : Addr) : Prop := some a ∈ M.c ∨ a ∈ M.g
def Adr.gh (M : Adr) (a : Addr) : Adr := ⟨M.c, a :: M.g⟩
abbrev Fn := List Sl → Sto → Option (Rt × Sto)

def KL (K : PySem.W.Frag) (a : Addr) (vs : List V) : Prop := SqL K (fun _ => none) a vs
def LsR (K : PySem.W.Frag) (M : Adr) (H : Hp) (a : Addr) (vs : List V) : Prop := (Rd H a (.lst vs) ∧ ¬ M.mem a) ∨ KL K a vs
theorem KL.sql {K : PySem.W.Frag} {a : Addr} {vs : List V} (h : KL K a vs) (H : Hp) : SqL K H a vs := by
  rcases h with h | h
  · rcases h with h | ⟨o, h⟩
    · cases h
    · cases h
  · exact .inr h
theorem LsR.sql {K : PySem.W.Frag} {M : Adr} {H : Hp} {a : Addr} {vs : List V} (h : LsR K M H a vs) : SqL K H a vs := by
  rcases h with h | h
  · exact .inl h.1
  · exact h.sql H

mutual
inductive Rl (K : PySem.W.Frag) (M : Adr) (H : Hp) : V → D → Prop
  | non : Rl K M H .non .none
  | bl (b : Bool) : Rl K M H (.bl b) (.bool b)
  | int (i : Int) : Rl K M H (.int i) (.int i)
  | str (x : Str) : Rl K M H (.str x) (.str x)
  | lst {a : Addr} {vs : List V} {ds : List D} : LsR K M H a vs → RlA K M H vs ds → Rl K M H (.ref a) (.list ds)
  | tup {a : Addr} {vs : List V} {ds : List D} : SqT K H a vs → RlA K M H vs ds → Rl K M H (.ref a) (.tuple ds)
inductive RlA (K : PySem.W.Frag) (M : Adr) (H : Hp) : List V → List D → Prop
  | nil : RlA K M H [] []
  | cons {v : V} {vs : List V} {d : D} {ds : List D} : Rl K M H v d → RlA K M H vs ds → RlA K M H (v :: vs) (d :: ds)
end
section
variable {K : PySem.W.Frag} {M M' M'' : Adr} {H H' H'' : Hp}
mutual
theorem Rl.move (hl : ∀ a vs, LsR K M H a vs → LsR K M' H' a vs) (ht : ∀ a vs, SqT K H a vs → SqT K H' a vs) : ∀ (d : D) (v : V), Rl K M H v d → Rl K M' H' v d
  | .none, _, h => by cases h; exact .non
  | .bool b, _, h => by cases h; exact .bl b
  | .int i, _, h => by cases h; exact .int i
  | .str x, _, h => by cases h; exact .str x
  | .list ds, _, h => by
    cases h with
    | lst h1 h2 => exact .lst (hl _ _ h1) (RlA.move hl ht ds _ h2)
  | .tuple ds, _, h => by
    cases h with
    | tup h1 h2 => exact .tup (ht _ _ h1) (RlA.move hl ht ds _ h2)
  | .dict _, _, h => by cases h
theorem RlA.move (hl : ∀ a vs, LsR K M H a vs → LsR K M' H' a vs) (ht : ∀ a vs, SqT K H a vs → SqT K H' a vs) : ∀ (ds : List D) (vs : List V), RlA K M H vs ds → RlA K M' H' vs ds
  | [], _, h => by cases h; exact .nil
  | d :: ds, _, h => by
    cases h with
    | cons h1 h2 => exact .cons (Rl.move hl ht d _ h1) (RlA.move hl ht ds _ h2)
end
mutual
theorem Rl.dp : ∀ (d : D) (v : V), Rl K M H v d → Dp K H v d
  | .none, _, h => by cases h; exact .non
  | .bool b, _, h => by cases h; exact .bl b
  | .int i, _, h => by cases h; exact .int i
  | .str x, _, h => by cases h; exact .str x
  | .list ds, _, h => by
    cases h with
    | lst h1 h2 => exact .lst h1.sql (RlA.dp ds _ h2)
  | .tuple ds, _, h => by
    cases h with
    | tup h1 h2 => exact .tup h1 (RlA.dp ds _ h2)
  | .dict _, _, h => by cases h
theorem RlA.dp : ∀ (ds : List D) (vs : List V), RlA K M H vs ds → DpAll K H vs ds
  | [], _, h => by cases h; exact .nil
  | d :: ds, _, h => by
    cases h with
    | cons h1 h2 => exact .cons (Rl.dp d _ h1) (RlA.dp ds _ h2)
end
theorem RlA.len {vs : List V} {ds : List D} (h : RlA K M H vs ds) : vs.length = ds.length := by
  induction ds generalizing vs with
  | nil => cases h; rfl
  | cons d ds ih => cases h with | cons h1 h2 => rw [List.length_cons, List.length_cons, ih h2]
theorem RlA.get {vs : List V} {ds : List D} (h : RlA K M H vs ds) {i : Nat} {d : D} (e : ds[i]? = some d) : ∃ v, vs[i]? = some v ∧ Rl K M H v d := by
  induction ds generalizing vs i with
  | nil => cases e
  | cons x ds ih =>
    cases h with
    | cons h1 h2 =>
      cases i with
      | zero => cases e; exact ⟨_, rfl, h1⟩
      | succ i => exact ih h2 e
theorem RlA.get' {vs : List V} {ds : List D} (h : RlA K M H vs ds) {i : Nat} {v : V} (e : vs[i]? = some v) : ∃ d, ds[i]? = some d ∧ Rl K M H v d := by
  induction ds generalizing vs i with
  | nil => cases h; cases e
  | cons x ds ih =>
    cases h with
    | cons h1 h2 =>
      cases i with
      | zero => cases e; exact ⟨_, rfl, h1⟩
      | succ i => exact ih h2 e
theorem RlA.append {vs ws : List V} {ds es : List D} (h : RlA K M H vs ds) (h' : RlA K M H ws es) : RlA K M H (vs ++ ws) (ds ++ es) := by
  induction ds generalizing vs with
  | nil => cases h; exact h'
  | cons x ds ih => cases h with | cons h1 h2 => exact .cons h1 (ih h2)
theorem RlA.take {vs : List V} {ds : List D} (h : RlA K M H vs ds) (n : Nat) : RlA K M H (vs.take n) (ds.take n) := by
  induction ds generalizing vs n with
  | nil => cases h; rw [List.take_nil, List.take_nil]; exact .nil
  | cons x ds ih => cases h with | cons h1 h2 => cases n with | zero => exact .nil | succ n => exact .cons h1 (ih h2 n)
theorem RlA.drop {vs : List V} {ds : List D} (h : RlA K M H vs ds) (n : Nat) : RlA K M H (vs.drop n) (ds.drop n) := by
  induction ds generalizing vs n with
  | nil => cases h; rw [List.drop_nil, List.drop_nil]; exact .nil
  | cons x ds ih => cases h with | cons h1 h2 => cases n with | zero => exact .cons h1 h2 | succ n => exact ih h2 n
theorem RlA.set {vs : List V} {ds : List D} (h : RlA K M H vs ds) {v : V} {d : D} (r : Rl K M H v d) (n : Nat) : RlA K M H (vs.set n v) (ds.set n d) := by
  induction ds generalizing vs n with
  | nil => cases h; exact .nil
  | cons x ds ih => cases h with | cons h1 h2 => cases n with | zero => exact .cons r h2 | succ n => exact .cons h1 (ih h2 n)
theorem RlA.one {v : V} {d : D} (r : Rl K M H v d) : RlA K M H [v] [d] := .cons r .nil

/-- what may have changed: the cells of M alone; what is new stands where nothing stood -/
structure Ext (M : Adr) (H : Hp) (M' : Adr) (H' : Hp) : Prop where
  subn : ∀ (n : Nat) (a : Addr), M'.c[n]? = some (some a) → M.c[n]? = some (some a) ∨ (M.c.length ≤ n ∧ H a = none)
  gs : ∀ a, a ∈ M'.g → a ∈ M.g ∨ H a = none
  gk : ∀ a, a ∈ M.g → a ∈ M'.g
  pos : ∀ (n : Nat) (a : Addr), M.c[n]? = some (some a) → M'.c[n]? = some (some a) ∨ M'.c[n]? = some none
  dead : ∀ n : Nat, M.c[n]? = some none → M'.c[n]? = some none
  keep : ∀ a o, H a = some o → (some a ∉ M.c ∨ ∀ xs, o ≠ .lst xs) → H' a = some o
  free : ∀ a, H' a = none → H a = none
theorem Ext.refl : Ext M H M H := ⟨fun _ _ h => .inl h, fun _ h => .inl h, fun _ h => h, fun _ _ h => .inl h, fun _ h => h, fun _ _ h _ => h, fun _ h => h⟩
theorem Ext.len (x : Ext M H M' H') : M.c.length ≤ M'.c.length := by
  cases h : M.c.length with
  | zero => exact Nat.zero_le _
  | succ k =>
    have hk : k < M.c.length := by omega
    have : k < M'.c.length := by
      cases e : M.c[k] with
      | none => exact (List.getElem?_eq_some_iff.mp (x.dead k (by rw [List.getElem?_eq_getElem hk, e]))).1
      | some a =>
        rcases x.pos k a (by rw [List.getElem?_eq_getElem hk, e]) with q | q
        · exact (List.getElem?_eq_some_iff.mp q).1
        · exact (List.getElem?_eq_some_iff.mp q).1
    omega
theorem Ext.sub (x : Ext M H M' H') (a : Addr) (h : some a ∈ M'.c) : some a ∈ M.c ∨ H a = none := by
  obtain ⟨n, e⟩ := List.mem_iff_getElem?.mp h
  exact (x.subn n a e).elim (fun z => .inl (List.mem_of_getElem? z)) fun z => .inr z.2
theorem Ext.trans (x : Ext M H M' H') (y : Ext M' H' M'' H'') : Ext M H M'' H'' where
  subn := fun n a h => (y.subn n a h).elim (x.subn n a) fun h => .inr ⟨Nat.le_trans x.len h.1, x.free a h.2⟩
  gs := fun a h => (y.gs a h).elim (x.gs a) fun h => .inr (x.free a h)
  gk := fun a h => y.gk a (x.gk a h)
  pos := fun n a h => (x.pos n a h).elim (y.pos n a) fun h => .inr (y.dead n h)
  dead := fun n h => y.dead n (x.dead n h)
  keep := fun a o h c => y.keep a o (x.keep a o h c) (c.elim (fun c => .inl fun z => (x.sub a z).elim c fun e => by rw [h] at e; cases e) .inr)
  free := fun a h => x.free a (y.free a h)
/-- back: what was in the making is left out -/
def Adr.ug (M' M : Adr) : Adr := ⟨M'.c, M.g⟩
theorem Ext.ungh (x : Ext M H M' H') : Ext M H (M'.ug M) H' := ⟨x.subn, fun _ h => .inl h, fun _ h => h, x.pos, x.dead, x.keep, x.free⟩
theorem Ext.ughmem (x : Ext M H M' H') {p : Addr} (hp : p ∈ M'.g) {a : Addr} (h : ((M'.ug M).gh p).mem a) : M'.mem a := by
  rcases h with h | h
  · exact .inl h
  · rcases List.mem_cons.mp h with h | h
    · rw [h]; exact .inr hp
    · exact .inr (x.gk a h)
theorem Ext.ugmem (x : Ext M H M' H') {a : Addr} (h : (M'.ug M).mem a) : M'.mem a := by
  rcases h with h | h
  · exact .inl h
  · exact .inr (x.gk a h)
theorem Ext.mem (x : Ext M H M' H') {a : Addr} (h : M'.mem a) : M.mem a ∨ H a = none := by
  rcases h with h | h
  · exact (x.sub a h).elim (fun z => .inl (.inl z)) .inr
  · exact (x.gs a h).elim (fun z => .inl (.inr z)) .inr
/-- a new list in the making -/
theorem Ext.ghost {p : Addr} {o : HO} (hp : H p = none) : Ext M H (M.gh p) (upd H p o) :=
  ⟨fun _ _ h => .inl h, fun a h => (List.mem_cons.mp h).elim (fun e => .inr (by rw [e]; exact hp)) .inl, fun _ h => List.mem_cons_of_mem _ h, fun _ _ h => .inl h, fun _ h => h, fun a u h _ => by rw [upd_ne (ne_of_none h hp)]; exact h, fun a h => by
    by_cases e : a = p
    · subst e; exact hp
    · rw [upd_ne e] at h; exact h⟩
theorem Ext.lsr (x : Ext M H M' H') {a : Addr} {vs : List V} (h : LsR K M H a vs) : LsR K M' H' a vs := by
  rcases h with ⟨h, n⟩ | h
  · have nc : some a ∉ M.c := fun z => n (.inl z)
    refine .inl ⟨?_, fun z => ?_⟩
    · rcases h with h | ⟨o, h⟩
      · exact .inl (x.keep a _ h (.inl nc))
      · exact .inr ⟨o, x.keep a _ h (.inl nc)⟩
    · rcases x.mem z with z | z
      · exact n z
      · rcases h with h | ⟨o, h⟩ <;> (rw [h] at z; cases z)
  · exact .inr h
theorem Ext.sqt (x : Ext M H M' H') {a : Addr} {vs : List V} (h : SqT K H a vs) : SqT K H' a vs := by
  rcases h with (h | ⟨o, h⟩) | h
  · exact .inl (.inl (x.keep a _ h (.inr fun _ z => nomatch z)))
  · exact .inl (.inr ⟨o, x.keep a _ h (.inr fun _ z => nomatch z)⟩)
  · exact .inr h
theorem Rl.mono (x : Ext M H M' H') {v : V} {d : D} (h : Rl K M H v d) : Rl K M' H' v d := Rl.move (fun _ _ => x.lsr) (fun _ _ => x.sqt) d v h
theorem RlA.mono (x : Ext M H M' H') {v : List V} {d : List D} (h : RlA K M H v d) : RlA K M' H' v d := RlA.move (fun _ _ => x.lsr) (fun _ _ => x.sqt) d v h
/-- less is kept: lists in the making may grow, too -/
structure ExtW (M : Adr) (H : Hp) (M' : Adr) (H' : Hp) : Prop where
  mem : ∀ a, M'.mem a → M.mem a ∨ H a = none
  keep : ∀ a o, H a = some o → (¬ M.mem a ∨ ∀ xs, o ≠ .lst xs) → H' a = some o
  free : ∀ a, H' a = none → H a = none
theorem Ext.w (x : Ext M H M' H') : ExtW M H M' H' := ⟨fun _ h => x.mem h, fun a o h c => x.keep a o h (c.elim (fun c => .inl fun z => c (.inl z)) .inr), x.free⟩
theorem ExtW.trans (x : ExtW M H M' H') (y : ExtW M' H' M'' H'') : ExtW M H M'' H'' :=
  ⟨fun a h => (y.mem a h).elim (x.mem a) fun h => .inr (x.free a h), fun a o h c => y.keep a o (x.keep a o h c) (c.elim (fun c => .inl fun z => (x.mem a z).elim c fun e => by rw [h] at e; cases e) .inr), fun a h => x.free a (y.free a h)⟩
theorem ExtW.grow {p : Addr} {us ws : List V} (hm : M.mem p) (hp : H p = some (.lst us)) : ExtW M H M (upd H p (.lst ws)) :=
  ⟨fun _ h => .inl h, fun a o h c => by
    have ne : a ≠ p := fun e => by
      subst e
      rw [hp] at h
      cases h
      exact c.elim (fun c => c hm) fun c => c us rfl
    rw [upd_ne ne]; exact h, fun a h => by
    by_cases e : a = p
    · subst e; rw [upd_same] at h; cases h
    · rw [upd_ne e] at h; exact h⟩
theorem ExtW.lsr (x : ExtW M H M' H') {a : Addr} {vs : List V} (h : LsR K M H a vs) : LsR K M' H' a vs := by
  rcases h with ⟨h, n⟩ | h
  · refine .inl ⟨?_, fun z => ?_⟩
    · rcases h with h | ⟨o, h⟩
      · exact .inl (x.keep a _ h (.inl n))
      · exact .inr ⟨o, x.keep a _ h (.inl n)⟩
    · rcases x.mem a z with z | z
      · exact n z
      · rcases h with h | ⟨o, h⟩ <;> (rw [h] at z; cases z)
  · exact .inr h
theorem ExtW.sqt (x : ExtW M H M' H') {a : Addr} {vs : List V} (h : SqT K H a vs) : SqT K H' a vs := by
  rcases h with (h | ⟨o, h⟩) | h
  · exact .inl (.inl (x.keep a _ h (.inr fun _ z => nomatch z)))
  · exact .inl (.inr ⟨o, x.keep a _ h (.inr fun _ z => nomatch z)⟩)
  · exact .inr h
theorem RlA.monoW (x : ExtW M H M' H') {v : List V} {d : List D} (h : RlA K M H v d) : RlA K M' H' v d := RlA.move (fun _ _ => x.lsr) (fun _ _ => x.sqt) d v h
theorem LsR.anti (hs : ∀ a, M'.mem a → M.mem a) {a : Addr} {vs : List V} (h : LsR K M H a vs) : LsR K M' H a vs := by
  rcases h with ⟨h, n⟩ | h
  · exact .inl ⟨h, fun z => n (hs a z)⟩
  · exact .inr h
theorem Rl.anti (hs : ∀ a, M'.mem a → M.mem a) {v : V} {d : D} (h : Rl K M H v d) : Rl K M' H v d := Rl.move (fun _ _ => LsR.anti hs) (fun _ _ z => z) d v h
theorem RlA.anti (hs : ∀ a, M'.mem a → M.mem a) {v : List V} {d : List D} (h : RlA K M H v d) : RlA K M' H v d := RlA.move (fun _ _ => LsR.anti hs) (fun _ _ z => z) d v h
theorem Adr.mem_gh {a p : Addr} (h : M.mem a) : (M.gh p).mem a := h.elim .inl fun h => .inr (List.mem_cons_of_mem _ h)
theorem Rl.ungh {p : Addr} {v : V} {d : D} (h : Rl K (M.gh p) H v d) : Rl K M H v d := h.anti fun _ => Adr.mem_gh
theorem RlA.ungh {p : Addr} {v : List V} {d : List D} (h : RlA K (M.gh p) H v d) : RlA K M H v d := h.anti fun _ => Adr.mem_gh
/-- something new at p -/
theorem Ext.new {p : Addr} {o : HO} (hp : H p = none) : Ext M H M (upd H p o) :=
  ⟨fun _ _ h => .inl h, fun _ h => .inl h, fun _ h => h, fun _ _ h => .inl h, fun _ h => h, fun a u h _ => by rw [upd_ne (ne_of_none h hp)]; exact h, fun a h => by
    by_cases e : a = p
    · subst e; exact hp
    · rw [upd_ne e] at h; exact h⟩
theorem Rl.fresh {p : Addr} {o : HO} (hp : H p = none) {v : V} {d : D} (h : Rl K M H v d) : Rl K (M.gh p) (upd H p o) v d :=
  Rl.move (fun a vs h => by
    rcases h with ⟨h, n⟩ | h
    · have ne : a ≠ p := by rcases h with h | ⟨u, h⟩ <;> exact ne_of_none h hp
      refine .inl ⟨?_, fun z => ?_⟩
      · rcases h with h | ⟨u, h⟩
        · exact .inl (by rw [upd_ne ne]; exact h)
        · exact .inr ⟨u, by rw [upd_ne ne]; exact h⟩
      · rcases z with z | z
        · exact n (.inl z)
        · rcases List.mem_cons.mp z with z | z
          · exact ne z
          · exact n (.inr z)
    · exact .inr h) (fun a vs h => (Ext.new (M := M) hp).sqt h) d v h
theorem RlA.fresh {p : Addr} {o : HO} (hp : H p = none) {v : List V} {d : List D} (h : RlA K M H v d) : RlA K (M.gh p) (upd H p o) v d := by
  induction d generalizing v with
  | nil => cases h; exact .nil
  | cons x ds ih => cases h with | cons h1 h2 => exact .cons (h1.fresh hp) (ih h2)
/-- a list in the making grows: nobody sees it -/
theorem Rl.grow {p : Addr} {vs ws : List V} (hg : M.mem p) (hp : H p = some (.lst vs)) {v : V} {d : D} (h : Rl K M H v d) : Rl K M (upd H p (.lst ws)) v d :=
  Rl.move (fun a vs h => by
    rcases h with ⟨h, n⟩ | h
    · have ne : a ≠ p := fun e => n (by rw [e]; exact hg)
      refine .inl ⟨?_, n⟩
      rcases h with h | ⟨u, h⟩
      · exact .inl (by rw [upd_ne ne]; exact h)
      · exact .inr ⟨u, by rw [upd_ne ne]; exact h⟩
    · exact .inr h) (fun a vs h => by
    rcases h with (h | ⟨o, h⟩) | h
    · exact .inl (.inl (by rw [upd_ne (ne_of h hp fun z => nomatch z)]; exact h))
    · exact .inl (.inr ⟨o, by rw [upd_ne (ne_of h hp fun z => nomatch z)]; exact h⟩)
    · exact .inr h) d v h
theorem RlA.grow {p : Addr} {us ws : List V} (hg : M.mem p) (hp : H p = some (.lst us)) {v : List V} {d : List D} (h : RlA K M H v d) : RlA K M (upd H p (.lst ws)) v d := by
  induction d generalizing v with
  | nil => cases h; exact .nil
  | cons x ds ih => cases h with | cons h1 h2 => exact .cons (h1.grow hg hp) (ih h2)

structure Ok (K : PySem.W.Frag) (M : Adr) (S : Sto) (H : Hp) : Prop where
  len : M.c.length = S.length
  inj : ∀ (i j : Nat) (a : Addr), M.c[i]? = some (some a) → M.c[j]? = some (some a) → i = j
  cell : ∀ (n : Nat) (xs : List D), S[n]? = some (some xs) → ∃ a vs, M.c[n]? = some (some a) ∧ H a = some (.lst vs) ∧ RlA K M H vs xs
  lst : ∀ a, M.mem a → ∃ vs, H a = some (.lst vs)
  dj : ∀ a, some a ∈ M.c → a ∉ M.g
theorem Ok.ext {S : Sto} (ok : Ok K M S H) (x : Ext M H M H') (hk : ∀ a, M.mem a → H' a = H a) : Ok K M S H' :=
  ⟨ok.len, ok.inj, fun n xs e => by
    obtain ⟨a, vs, e1, e2, e3⟩ := ok.cell n xs e
    exact ⟨a, vs, e1, by rw [hk a (.inl (List.mem_of_getElem? e1))]; exact e2, e3.mono x⟩, fun a h => by rw [hk a h]; exact ok.lst a h, ok.dj⟩
theorem Ok.new {S : Sto} (ok : Ok K M S H) {p : Addr} {o : HO} (hp : H p = none) : Ok K M S (upd H p o) :=
  ok.ext (Ext.new hp) fun a h => by
    obtain ⟨vs, e⟩ := ok.lst a h
    rw [upd_ne (ne_of_none e hp)]
theorem Ok.notin {S : Sto} (ok : Ok K M S H) {p : Addr} (hp : H p = none) : ¬ M.mem p := fun z => by
  obtain ⟨vs, e⟩ := ok.lst p z
  rw [e] at hp; cases hp
/-- a new list in the making -/
theorem Ok.ghost {S : Sto} (ok : Ok K M S H) {p : Addr} {vs : List V} (hp : H p = none) : Ok K (M.gh p) S (upd H p (.lst vs)) :=
  ⟨ok.len, ok.inj, fun n xs e => by
    obtain ⟨a, us, e1, e2, e3⟩ := ok.cell n xs e
    exact ⟨a, us, e1, by rw [upd_ne (ne_of_none e2 hp)]; exact e2, e3.fresh hp⟩, fun a h => by
    by_cases e : a = p
    · subst e; exact ⟨vs, upd_same⟩
    · rw [upd_ne e]
      refine ok.lst a ?_
      rcases h with h | h
      · exact .inl h
      · rcases List.mem_cons.mp h with h | h
        · exact absurd h e
        · exact .inr h, fun a h z => by
    rcases List.mem_cons.mp z with z | z
    · obtain ⟨us, e⟩ := ok.lst a (.inl h)
      rw [z, hp] at e; cases e
    · exact ok.dj a h z⟩
theorem Ok.ug {S : Sto} (ok : Ok K M' S H) {M : Adr} (hg : ∀ a, a ∈ M.g → a ∈ M'.g) : Ok K (M'.ug M) S H :=
  have hs : ∀ a, (M'.ug M).mem a → M'.mem a := fun a z => z.elim .inl fun z => .inr (hg a z)
  ⟨ok.len, ok.inj, fun n xs e => by
    obtain ⟨a, us, e1, e2, e3⟩ := ok.cell n xs e
    exact ⟨a, us, e1, e2, e3.anti hs⟩, fun a h => ok.lst a (hs a h), fun a h z => ok.dj a h (hg a z)⟩
theorem Ok.grow {S : Sto} {p : Addr} {vs ws : List V} (ok : Ok K M S H) (hg : M.mem p) (hp : H p = some (.lst vs)) (hc : some p ∉ M.c) : Ok K M S (upd H p (.lst ws)) :=
  ⟨ok.len, ok.inj, fun n xs e => by
    obtain ⟨a, us, e1, e2, e3⟩ := ok.cell n xs e
    have ne : a ≠ p := fun z => hc (by rw [← z]; exact List.mem_of_getElem? e1)
    exact ⟨a, us, e1, by rw [upd_ne ne]; exact e2, e3.grow hg hp⟩, fun a h => by
    by_cases e : a = p
    · subst e; exact ⟨ws, upd_same⟩
    · rw [upd_ne e]; exact ok.lst a h, ok.dj⟩

/-- a cell is written -/
theorem Ok.setc {S : Sto} (ok : Ok K M S H) {n : Nat} {a : Addr} {vs ws : List V} {xs : List D} (hm : M.c[n]? = some (some a)) (hp : H a = some (.lst vs)) (r : RlA K M H ws xs) : Ok K M (S.set n (some xs)) (upd H a (.lst ws)) :=
  have hmem : M.mem a := .inl (List.mem_of_getElem? hm)
  ⟨by rw [List.length_set]; exact ok.len, ok.inj, fun j ys e => by
    by_cases hj : n = j
    · subst hj
      have hl : n < S.length := by
        have := (List.getElem?_eq_some_iff.mp e).1
        rw [List.length_set] at this; exact this
      rw [List.getElem?_set_self hl] at e
      cases e
      exact ⟨a, ws, hm, upd_same, r.grow hmem hp⟩
    · rw [List.getElem?_set_ne hj] at e
      obtain ⟨c, us, e1, e2, e3⟩ := ok.cell j ys e
      have ne : c ≠ a := fun z => hj (ok.inj n j a hm (by rw [← z]; exact e1))
      exact ⟨c, us, e1, by rw [upd_ne ne]; exact e2, e3.grow hmem hp⟩, fun c h => by
    by_cases e : c = a
    · subst e; exact ⟨ws, upd_same⟩
    · rw [upd_ne e]; exact ok.lst c h, ok.dj⟩
theorem Ext.setc {a : Addr} {vs ws : List V} (hm : some a ∈ M.c) (hp : H a = some (.lst vs)) : Ext M H M (upd H a (.lst ws)) :=
  ⟨fun _ _ h => .inl h, fun _ h => .inl h, fun _ h => h, fun _ _ h => .inl h, fun _ h => h, fun c o h q => by
    by_cases e : c = a
    · subst e
      rw [hp] at h
      cases h
      rcases q with q | q
      · exact absurd hm q
      · exact absurd rfl (q vs)
    · rw [upd_ne e]; exact h, fun c h => by
    by_cases e : c = a
    · subst e; rw [upd_same] at h; cases h
    · rw [upd_ne e] at h; exact h⟩
/-- a new cell -/
def Adr.add (M : Adr) (a : Addr) : Adr := ⟨M.c ++ [some a], M.g⟩
theorem Adr.addmem {a p : Addr} (h : (M.add p).mem a) : (M.gh p).mem a := by
  rcases h with h | h
  · rcases List.mem_append.mp h with h | h
    · exact .inl h
    · have e : a = p := by simpa using h
      rw [e]; exact .inr List.mem_cons_self
  · exact .inr (List.mem_cons_of_mem _ h)
theorem Ext.add {a : Addr} (h0 : H a = none) (x : Ext M H M' H') : Ext M H (M'.add a) H' :=
  ⟨fun n c h => by
    by_cases hn : n < M'.c.length
    · exact x.subn n c (by rw [← List.getElem?_append_left hn]; exact h)
    · have hn : M'.c.length ≤ n := by omega
      have h : (M'.c ++ [some a])[n]? = some (some c) := h
      rw [List.getElem?_append_right hn] at h
      have e : n - M'.c.length = 0 := by
        have := (List.getElem?_eq_some_iff.mp h).1
        simp at this
        omega
      rw [e] at h
      cases h
      exact .inr ⟨Nat.le_trans x.len hn, h0⟩, x.gs, x.gk, fun n c h => by
    have hn : n < M'.c.length := by
      have := (List.getElem?_eq_some_iff.mp h).1
      exact Nat.lt_of_lt_of_le this x.len
    show (M'.c ++ [some a])[n]? = some (some c) ∨ (M'.c ++ [some a])[n]? = some none
    rw [List.getElem?_append_left hn]
    exact x.pos n c h, fun n h => by
    have hn : n < M'.c.length := by
      have := (List.getElem?_eq_some_iff.mp h).1
      exact Nat.lt_of_lt_of_le this x.len
    show (M'.c ++ [some a])[n]? = some none
    rw [List.getElem?_append_left hn]
    exact x.dead n h, x.keep, x.free⟩
theorem Ok.add {S : Sto} (ok : Ok K M S H) {a : Addr} {vs : List V} {xs : List D} (hp : H a = some (.lst vs)) (hn : ¬ M.mem a) (hr : ∀ (v : V) (d : D), Rl K M H v d → Rl K (M.add a) H v d ∨ True) (r : RlA K (M.gh a) H vs xs)
    (hc : ∀ (n : Nat) (ys : List D), S[n]? = some (some ys) → ∃ c us, M.c[n]? = some (some c) ∧ H c = some (.lst us) ∧ RlA K (M.gh a) H us ys) : Ok K (M.add a) (S ++ [some xs]) H :=
  ⟨by show (M.c ++ [some a]).length = _; rw [List.length_append, List.length_append, ok.len]; rfl, fun i j c h1 h2 => by
    have h1 : (M.c ++ [some a])[i]? = some (some c) := h1
    have h2 : (M.c ++ [some a])[j]? = some (some c) := h2
    have key : ∀ i, (M.c ++ [some a])[i]? = some (some c) → (M.c[i]? = some (some c)) ∨ (i = M.c.length ∧ c = a) := fun i h => by
      by_cases hi : i < M.c.length
      · rw [List.getElem?_append_left hi] at h; exact .inl h
      · rw [List.getElem?_append_right (by omega)] at h
        have e : i - M.c.length = 0 := by
          have := (List.getElem?_eq_some_iff.mp h).1
          simp at this
          omega
        rw [e] at h
        cases h
        exact .inr ⟨by omega, rfl⟩
    rcases key i h1 with k1 | ⟨k1, e1⟩
    · rcases key j h2 with k2 | ⟨k2, e2⟩
      · exact ok.inj i j c k1 k2
      · exact absurd (Or.inl (List.mem_of_getElem? (e2 ▸ k1))) hn
    · rcases key j h2 with k2 | ⟨k2, e2⟩
      · exact absurd (Or.inl (List.mem_of_getElem? (e1 ▸ k2))) hn
      · omega, fun n ys e => by
    by_cases hl : n < S.length
    · rw [List.getElem?_append_left hl] at e
      obtain ⟨c, us, e1, e2, e3⟩ := hc n ys e
      exact ⟨c, us, by show (M.c ++ [some a])[n]? = _; rw [List.getElem?_append_left (by rw [ok.len]; exact hl)]; exact e1, e2, e3.anti fun _ => Adr.addmem⟩
    · rw [List.getElem?_append_right (by omega)] at e
      have e0 : n - S.length = 0 := by
        have := (List.getElem?_eq_some_iff.mp e).1
        simp at this
        omega
      rw [e0] at e
      cases e
      refine ⟨a, vs, ?_, hp, r.anti fun _ => Adr.addmem⟩
      show (M.c ++ [some a])[n]? = _
      rw [List.getElem?_append_right (by rw [ok.len]; omega), ok.len, e0]
      rfl, fun c h => by
    rcases Adr.addmem h with h | h
    · exact ok.lst c (.inl h)
    · rcases List.mem_cons.mp h with h | h
      · rw [h]; exact ⟨vs, hp⟩
      · exact ok.lst c (.inr h), fun c h z => by
    rcases List.mem_append.mp h with h | h
    · exact ok.dj c h z
    · have e : c = a := by simpa using h
      rw [e] at z
      exact hn (.inr z)⟩
def RSl (K : PySem.W.Frag) (M : Adr) (H : Hp) (v : V) : Sl → Prop
  | .d x => Rl K M H v x
  | .loc n => ∃ a, v = .ref a ∧ (M.c[n]? = some (some a) ∨ M.c[n]? = some none)
theorem RSl.mono (x : Ext M H M' H') {v : V} : ∀ {s : Sl}, RSl K M H v s → RSl K M' H' v s
  | .d _, h => Rl.mono x h
  | .loc n, ⟨a, e, h⟩ => ⟨a, e, h.elim (fun h => x.pos n a h) fun h => .inr (x.dead n h)⟩
inductive RSlA (K : PySem.W.Frag) (M : Adr) (H : Hp) : List V → List Sl → Prop
  | nil : RSlA K M H [] []
  | cons {v : V} {vs : List V} {d : Sl} {ds : List Sl} : RSl K M H v d → RSlA K M H vs ds → RSlA K M H (v :: vs) (d :: ds)
theorem RSlA.mono (x : Ext M H M' H') {v : List V} {s : List Sl} (h : RSlA K M H v s) : RSlA K M' H' v s := by
  induction h with
  | nil => exact .nil
  | cons h1 _ ih => exact .cons (h1.mono x) ih
theorem RSlA.len {vs : List V} {ds : List Sl} (h : RSlA K M H vs ds) : vs.length = ds.length := by
  induction h with
  | nil => rfl
  | cons h1 _ ih => rw [List.length_cons, List.length_cons, ih]
theorem RSl.fresh {p : Addr} {o : HO} (hp : H p = none) {v : V} : ∀ {s : Sl}, RSl K M H v s → RSl K (M.gh p) (upd H p o) v s
  | .d _, h => Rl.fresh hp h
  | .loc n, h => h
theorem RSl.grow {p : Addr} {vs ws : List V} (hg : M.mem p) (hp : H p = some (.lst vs)) {v : V} : ∀ {s : Sl}, RSl K M H v s → RSl K M (upd H p (.lst ws)) v s
  | .d _, h => Rl.grow hg hp h
  | .loc n, h => h
theorem RSl.ungh {p : Addr} {v : V} : ∀ {s : Sl}, RSl K (M.gh p) H v s → RSl K M H v s
  | .d _, h => Rl.ungh h
  | .loc n, h => h
structure RSt (K : PySem.W.Frag) (M : Adr) (H : Hp) (σ : St) (ρ : Rho) : Prop where
  len : σ.length = ρ.length
  at_ : ∀ (i : Nat) (s : Sl), ρ[i]? = some (some s) → ∃ v, σ[i]? = some (some v) ∧ RSl K M H v s
theorem RSt.mono {σ : St} {ρ : Rho} (x : Ext M H M' H') (h : RSt K M H σ ρ) : RSt K M' H' σ ρ :=
  ⟨h.len, fun i s e => by obtain ⟨v, e1, e2⟩ := h.at_ i s e; exact ⟨v, e1, e2.mono x⟩⟩
theorem RSt.fresh {σ : St} {ρ : Rho} {p : Addr} {o : HO} (hp : H p = none) (h : RSt K M H σ ρ) : RSt K (M.gh p) (upd H p o) σ ρ :=
  ⟨h.len, fun i s e => by obtain ⟨v, e1, e2⟩ := h.at_ i s e; exact ⟨v, e1, e2.fresh hp⟩⟩
theorem RSt.grow {σ : St} {ρ : Rho} {p : Addr} {vs ws : List V} (hg : M.mem p) (hp : H p = some (.lst vs)) (h : RSt K M H σ ρ) : RSt K M (upd H p (.lst ws)) σ ρ :=
  ⟨h.len, fun i s e => by obtain ⟨v, e1, e2⟩ := h.at_ i s e; exact ⟨v, e1, e2.grow hg hp⟩⟩
theorem RSt.ungh {σ : St} {ρ : Rho} {p : Addr} (h : RSt K (M.gh p) H σ ρ) : RSt K M H σ ρ :=
  ⟨h.len, fun i s e => by obtain ⟨v, e1, e2⟩ := h.at_ i s e; exact ⟨v, e1, e2.ungh⟩⟩
theorem RSt.set {σ : St} {ρ : Rho} (h : RSt K M H σ ρ) {v : V} {s : Sl} (r : RSl K M H v s) (i : Nat) : RSt K M H (σ.set i (some v)) (ρ.set i (some s)) :=
  ⟨by rw [List.length_set, List.length_set, h.len], fun j t e => by
    by_cases hj : i = j
    · subst hj
      have hl : i < ρ.length := by
        have := (List.getElem?_eq_some_iff.mp e).1
        rw [List.length_set] at this; exact this
      rw [List.getElem?_set_self hl] at e
      cases e
      exact ⟨v, List.getElem?_set_self (by rw [h.len]; exact hl), r⟩
    · rw [List.getElem?_set_ne hj] at e ⊢
      exact h.at_ j t e⟩
end
end G
set_option Elab.async false
set_option linter.all false
set_option autoImplicit false
set_option maxRecDepth 100000
set_option maxHeartbeats 4000000
namespace G
open PySem L2

abbrev ME := Rho → Sto → Option (D × Sto)
abbrev MN := Rho → Sto → Option (List D × Sto)
abbrev MT := Rho → Sto → Option (Bool × Sto)
abbrev MA := Rho → Sto → Option (List Sl × Sto)
inductive Out where
  | nx | bk | ct
  | rt (r : Rt)
abbrev MS := Rho → Sto → Option (Out × Rho × Sto)
abbrev MG := D → Rho → Option Rho

section
variable (K : PySem.W.Frag)
def PE1 (M : Adr) (H : Hp) (S' : Sto) (d : D) (Q : VK) : Prop := ∀ v H' M', Ext M H M' H' → Ok K M' S' H' → Rl K M' H' v d → Q v H'
def ImE (t : TE) (m : ME) : Prop := ∀ (σ : St) (H : Hp) (M : Adr) (ρ : Rho) (S : Sto) (d : D) (S' : Sto), RSt K M H σ ρ → Ok K M S H → m ρ S = some (d, S') → ∀ Q : VK, PE1 K M H S' d Q → t σ H Q
/-- a list or a tuple to be read -/
def ImQ (t : TE) (m : MN) : Prop := ∀ (σ : St) (H : Hp) (M : Adr) (ρ : Rho) (S : Sto) (xs : List D) (S' : Sto), RSt K M H σ ρ → Ok K M S H → m ρ S = some (xs, S') → ∀ Q : VK,
  (∀ a vs H' M', Ext M H M' H' → Ok K M' S' H' → (SqL K H' a vs ∨ SqT K H' a vs) → RlA K M' H' vs xs → Q (.ref a) H') → t σ H Q
/-- a list to be read -/
def ImL (t : TE) (m : MN) : Prop := ∀ (σ : St) (H : Hp) (M : Adr) (ρ : Rho) (S : Sto) (xs : List D) (S' : Sto), RSt K M H σ ρ → Ok K M S H → m ρ S = some (xs, S') → ∀ Q : VK,
  (∀ a vs H' M', Ext M H M' H' → Ok K M' S' H' → SqL K H' a vs → RlA K M' H' vs xs → Q (.ref a) H') → t σ H Q
/-- a new list -/
def ImN (t : TE) (m : MN) : Prop := ∀ (σ : St) (H : Hp) (M : Adr) (ρ : Rho) (S : Sto) (xs : List D) (S' : Sto), RSt K M H σ ρ → Ok K M S H → m ρ S = some (xs, S') → ∀ Q : VK,
  (∀ a vs H' M', Ext M H M' H' → Ok K M' S' H' → H a = none → H' a = some (.lst vs) → a ∈ M'.g → RlA K M' H' vs xs → Q (.ref a) H') → t σ H Q
def ImT (t : TT) (m : MT) : Prop := ∀ (σ : St) (H : Hp) (M : Adr) (ρ : Rho) (S : Sto) (b : Bool) (S' : Sto), RSt K M H σ ρ → Ok K M S H → m ρ S = some (b, S') → ∀ Q : Bool → Hp → Prop,
  (∀ H' M', Ext M H M' H' → Ok K M' S' H' → Q b H') → t σ H Q
def ImA (t : TA) (m : MA) : Prop := ∀ (σ : St) (H : Hp) (M : Adr) (ρ : Rho) (S : Sto) (xs : List Sl) (S' : Sto), RSt K M H σ ρ → Ok K M S H → m ρ S = some (xs, S') → ∀ Q : List V → Hp → Prop,
  (∀ vs H' M', Ext M H M' H' → Ok K M' S' H' → RSlA K M' H' vs xs → Q vs H') → t σ H Q
def ImG (g : TG) (m : MG) : Prop := ∀ (σ : St) (H : Hp) (M : Adr) (ρ ρ' : Rho) (v : V) (d : D), RSt K M H σ ρ → Rl K M H v d → m d ρ = some ρ' → ∀ Q : St → Hp → Prop,
  (∀ σ', RSt K M H σ' ρ' → Q σ' H) → g v σ H Q
/-- two-place operations -/
def ImR (r : R2) (f : D → D → Option D) : Prop := ∀ (H : Hp) (M : Adr) (S : Sto) (x y : V) (dx dy dz : D), Ok K M S H → Rl K M H x dx → Rl K M H y dy → f dx dy = some dz → ∀ Q : VK,
  PE1 K M H S dz Q → r x y H Q
def ImU (r : V → Hp → VK → Prop) (f : D → Option D) : Prop := ∀ (H : Hp) (M : Adr) (S : Sto) (x : V) (dx dz : D), Ok K M S H → Rl K M H x dx → f dx = some dz → ∀ Q : VK,
  PE1 K M H S dz Q → r x H Q
/-- calls of builtins by data -/
def ImB (r : List V → Hp → VK → Prop) (f : List D → Option D) : Prop := ∀ (H : Hp) (M : Adr) (S : Sto) (xs : List V) (ds : List D) (dz : D), Ok K M S H → RlA K M H xs ds → f ds = some dz → ∀ Q : VK,
  PE1 K M H S dz Q → r xs H Q
end
section
variable {K : PySem.W.Frag} {M M' : Adr} {H H' : Hp} {S S' : Sto} {ta tb tc te : TE} {ma mb mc me : ME} {d : D}
theorem PE1.here {Q : VK} {v : V} (q : PE1 K M H S d Q) (ok : Ok K M S H) (r : Rl K M H v d) : Q v H := q v H M .refl ok r
theorem PE1.ext {Q : VK} (q : PE1 K M H S' d Q) (x : Ext M H M' H') : PE1 K M' H' S' d Q := fun v H2 M2 x2 ok r => q v H2 M2 (x.trans x2) ok r

/-! ### names, constants -/
def mVar (i : Nat) : ME := fun ρ S => match ρ[i]? with
  | some (some (.d x)) => some (x, S)
  | _ => none
theorem im_var (i : Nat) : ImE K (tVar i) (mVar i) := fun σ H M ρ S d S' hr ok h Q q => by
  unfold mVar at h
  split at h
  · rename_i x e
    cases h
    obtain ⟨v, e1, r⟩ := hr.at_ i _ e
    exact ⟨v, e1, q.here ok r⟩
  · cases h
def mC (d : D) : ME := fun _ S => some (d, S)
theorem im_c {v : V} (r : ∀ M H, Rl K M H v d) : ImE K (tC v) (mC d) := fun σ H M ρ S d' S' hr ok h Q q => by
  cases h
  exact q.here ok (r _ _)
theorem im_int (i : Int) : ImE K (tC (.int i)) (mC (.int i)) := im_c fun _ _ => .int i
theorem im_bl (b : Bool) : ImE K (tC (.bl b)) (mC (.bool b)) := im_c fun _ _ => .bl b
theorem im_non : ImE K (tC .non) (mC .none) := im_c fun _ _ => .non
theorem im_str (x : Str) : ImE K (tC (.str x)) (mC (.str x)) := im_c fun _ _ => .str x
def mQVar (i : Nat) : MN := fun ρ S => match ρ[i]? with
  | some (some (.d (.list xs))) => some (xs, S)
  | some (some (.d (.tuple xs))) => some (xs, S)
  | some (some (.loc n)) => (S[n]?.join).map fun xs => (xs, S)
  | _ => none
theorem im_qvar (i : Nat) : ImQ K (tVar i) (mQVar i) := fun σ H M ρ S d S' hr ok h Q q => by
  unfold mQVar at h
  split at h
  · rename_i xs e
    cases h
    obtain ⟨v, e1, r⟩ := hr.at_ i _ e
    cases r with
    | lst h1 h2 => exact ⟨_, e1, q _ _ H M .refl ok (.inl h1.sql) h2⟩
  · rename_i xs e
    cases h
    obtain ⟨v, e1, r⟩ := hr.at_ i _ e
    cases r with
    | tup h1 h2 => exact ⟨_, e1, q _ _ H M .refl ok (.inr h1) h2⟩
  · rename_i n e
    cases e2 : S[n]? with
    | none => rw [e2] at h; cases h
    | some c =>
      cases c with
      | none => rw [e2] at h; cases h
      | some xs =>
        rw [e2] at h
        cases h
        obtain ⟨v, e1, a, rfl, r⟩ := hr.at_ i _ e
        obtain ⟨a', vs, m1, m2, m3⟩ := ok.cell n _ e2
        have ea : a = a' := by rcases r with r | r <;> (rw [r] at m1; cases m1); rfl
        subst ea
        exact ⟨_, e1, q _ _ H M .refl ok (.inl (.inl (.inl m2))) m3⟩
  · cases h
def mLVar (i : Nat) : MN := fun ρ S => match ρ[i]? with
  | some (some (.d (.list xs))) => some (xs, S)
  | some (some (.loc n)) => (S[n]?.join).map fun xs => (xs, S)
  | _ => none
theorem im_lvar (i : Nat) : ImL K (tVar i) (mLVar i) := fun σ H M ρ S d S' hr ok h Q q => by
  unfold mLVar at h
  split at h
  · rename_i xs e
    cases h
    obtain ⟨v, e1, r⟩ := hr.at_ i _ e
    cases r with
    | lst h1 h2 => exact ⟨_, e1, q _ _ H M .refl ok h1.sql h2⟩
  · rename_i n e
    cases e2 : S[n]? with
    | none => rw [e2] at h; cases h
    | some c =>
      cases c with
      | none => rw [e2] at h; cases h
      | some xs =>
        rw [e2] at h
        cases h
        obtain ⟨v, e1, a, rfl, r⟩ := hr.at_ i _ e
        obtain ⟨a', vs, m1, m2, m3⟩ := ok.cell n _ e2
        have ea : a = a' := by rcases r with r | r <;> (rw [r] at m1; cases m1); rfl
        subst ea
        exact ⟨_, e1, q _ _ H M .refl ok (.inl (.inl m2)) m3⟩
  · cases h

/-! ### from one reading to another -/
def asL (d : D) : Option (List D) := match d with
  | .list xs => some xs
  | _ => none
def asQ (d : D) : Option (List D) := match d with
  | .list xs => some xs
  | .tuple xs => some xs
  | _ => none
def mQE (m : ME) : MN := fun ρ S => (m ρ S).bind fun p => (asQ p.1).map fun xs => (xs, p.2)
def mLE (m : ME) : MN := fun ρ S => (m ρ S).bind fun p => (asL p.1).map fun xs => (xs, p.2)
def mEN (m : MN) : ME := fun ρ S => (m ρ S).map fun p => (.list p.1, p.2)
theorem im_qe (h : ImE K te me) : ImQ K te (mQE me) := fun σ H M ρ S xs S' hr ok e Q q => by
  unfold mQE at e
  cases e1 : me ρ S with
  | none => rw [e1] at e; cases e
  | some p =>
    rw [e1] at e
    obtain ⟨d, S1⟩ := p
    refine h σ H M ρ S d S1 hr ok e1 Q fun v H' M' x ok' r => ?_
    cases d with
    | list ys => cases e; cases r with | lst h1 h2 => exact q _ _ _ _ x ok' (.inl h1.sql) h2
    | tuple ys => cases e; cases r with | tup h1 h2 => exact q _ _ _ _ x ok' (.inr h1) h2
    | _ => cases e
theorem im_le (h : ImE K te me) : ImL K te (mLE me) := fun σ H M ρ S xs S' hr ok e Q q => by
  unfold mLE at e
  cases e1 : me ρ S with
  | none => rw [e1] at e; cases e
  | some p =>
    rw [e1] at e
    obtain ⟨d, S1⟩ := p
    refine h σ H M ρ S d S1 hr ok e1 Q fun v H' M' x ok' r => ?_
    cases d with
    | list ys => cases e; cases r with | lst h1 h2 => exact q _ _ _ _ x ok' h1.sql h2
    | _ => cases e
theorem im_qn {m : MN} (h : ImN K te m) : ImQ K te m := fun σ H M ρ S xs S' hr ok e Q q =>
  h σ H M ρ S xs S' hr ok e Q fun a vs H' M' x ok' n0 n1 n2 r => q a vs H' M' x ok' (.inl (.inl (.inl n1))) r
theorem im_ln {m : MN} (h : ImN K te m) : ImL K te m := fun σ H M ρ S xs S' hr ok e Q q =>
  h σ H M ρ S xs S' hr ok e Q fun a vs H' M' x ok' n0 n1 n2 r => q a vs H' M' x ok' (.inl (.inl n1)) r
theorem im_ql {m : MN} (h : ImL K te m) : ImQ K te m := fun σ H M ρ S xs S' hr ok e Q q =>
  h σ H M ρ S xs S' hr ok e Q fun a vs H' M' x ok' n1 r => q a vs H' M' x ok' (.inl n1) r
theorem im_en {m : MN} (h : ImN K te m) : ImE K te (mEN m) := fun σ H M ρ S d S' hr ok e Q q => by
  unfold mEN at e
  cases e1 : m ρ S with
  | none => rw [e1] at e; cases e
  | some p =>
    rw [e1] at e
    cases e
    exact h σ H M ρ S p.1 p.2 hr ok e1 Q fun a vs H' M' x ok' n0 n1 n2 r => q _ _ (M'.ug M) x.ungh (ok'.ug x.gk) (.lst (.inl ⟨.inl n1, fun z => z.elim (fun z => ok'.dj a z n2) fun z => ok.notin n0 (.inr z)⟩) (r.anti fun _ z => x.ugmem z))

/-! ### operators -/
def mOp (f : D → D → Option D) (ma mb : ME) : ME := fun ρ S => (ma ρ S).bind fun p => (mb ρ p.2).bind fun q => (f p.1 q.1).map fun z => (z, q.2)
theorem im_op {r : R2} {f : D → D → Option D} (hr : ImR K r f) (ha : ImE K ta ma) (hb : ImE K tb mb) : ImE K (tOp r ta tb) (mOp f ma mb) := fun σ H M ρ S d S' hs ok e Q q => by
  unfold mOp at e
  cases e1 : ma ρ S with
  | none => rw [e1] at e; cases e
  | some p =>
    rw [e1] at e
    cases e2 : mb ρ p.2 with
    | none => rw [Option.bind_some, e2] at e; cases e
    | some p2 =>
      rw [Option.bind_some, e2, Option.bind_some] at e
      cases e3 : f p.1 p2.1 with
      | none => rw [e3] at e; cases e
      | some z =>
        rw [e3] at e
        cases e
        refine ha σ H M ρ S p.1 p.2 hs ok e1 _ fun x H1 M1 x1 ok1 r1 => ?_
        refine hb σ H1 M1 ρ p.2 p2.1 p2.2 (hs.mono x1) ok1 e2 _ fun y H2 M2 x2 ok2 r2 => ?_
        exact hr H2 M2 p2.2 x y p.1 p2.1 d ok2 (r1.mono x2) r2 e3 Q (q.ext (x1.trans x2))
def mUn (f : D → Option D) (ma : ME) : ME := fun ρ S => (ma ρ S).bind fun p => (f p.1).map fun z => (z, p.2)
theorem im_un {r : V → Hp → VK → Prop} {f : D → Option D} (hr : ImU K r f) (ha : ImE K ta ma) : ImE K (tUn r ta) (mUn f ma) := fun σ H M ρ S d S' hs ok e Q q => by
  unfold mUn at e
  cases e1 : ma ρ S with
  | none => rw [e1] at e; cases e
  | some p =>
    rw [e1, Option.bind_some] at e
    cases e3 : f p.1 with
    | none => rw [e3] at e; cases e
    | some z =>
      rw [e3] at e
      cases e
      refine ha σ H M ρ S p.1 p.2 hs ok e1 _ fun x H1 M1 x1 ok1 r1 => ?_
      exact hr H1 M1 p.2 x p.1 d ok1 r1 e3 Q (q.ext x1)
def fII (C : Int → Int → Bool) (g : Int → Int → D) : D → D → Option D := fun x y => match x, y with
  | .int i, .int j => if C i j then some (g i j) else none
  | _, _ => none
theorem imr_I {C : Int → Int → Prop} {Cb : Int → Int → Bool} {g : Int → Int → V} {gd : Int → Int → D} (hC : ∀ i j, Cb i j = true → C i j) (hg : ∀ i j M H, Rl K M H (g i j) (gd i j)) : ImR K (rI C g) (fII Cb gd) := fun H M S x y dx dy dz ok rx ry e Q q => by
  unfold fII at e
  split at e
  · cases rx
    cases ry
    split at e
    · cases e
      exact ⟨_, _, rfl, rfl, hC _ _ (by assumption), q.here ok (hg _ _ _ _)⟩
    · cases e
  · cases e
def fI0 (g : Int → Int → D) : D → D → Option D := fun x y => match x, y with
  | .int i, .int j => some (g i j)
  | _, _ => none
theorem imr_I0 {g : Int → Int → V} {gd : Int → Int → D} (hg : ∀ i j M H, Rl K M H (g i j) (gd i j)) : ImR K (rI0 g) (fI0 gd) := fun H M S x y dx dy dz ok rx ry e Q q => by
  unfold fI0 at e
  split at e
  · cases rx
    cases ry
    cases e
    exact ⟨_, _, rfl, rfl, q.here ok (hg _ _ _ _)⟩
  · cases e
theorem imr_or {r1 r2 : R2} {f1 f2 : D → D → Option D} (h1 : ImR K r1 f1) (h2 : ImR K r2 f2) : ImR K (fun x y H Q => r1 x y H Q ∨ r2 x y H Q) (fun x y => (f1 x y).or (f2 x y)) := fun H M S x y dx dy dz ok rx ry e Q q => by
  have e : (f1 dx dy).or (f2 dx dy) = some dz := e
  cases e1 : f1 dx dy with
  | some z => rw [e1] at e; cases e; exact .inl (h1 H M S x y dx dy _ ok rx ry e1 Q q)
  | none => rw [e1] at e; exact .inr (h2 H M S x y dx dy dz ok rx ry e Q q)
theorem OpR.or {X : Cx} {f : Value → Value → Sem Value} {r1 r2 : R2} (h1 : OpR X f r1) (h2 : OpR X f r2) : OpR X f (fun x y H Q => r1 x y H Q ∨ r2 x y H Q) := fun pins s σ H x y v u Q I rx ry h =>
  h.elim (h1 pins s σ H x y v u Q I rx ry) (h2 pins s σ H x y v u Q I rx ry)

def bMul (i j : Int) : Bool := decide (i.natAbs < 18446744073709551616) || decide (j.natAbs < 18446744073709551616)
def bDiv (_ j : Int) : Bool := decide (0 < j ∧ j < 1073741824)
def bMod (_ j : Int) : Bool := decide (0 < j)
def bPow (i j : Int) : Bool := decide (0 ≤ j ∧ j ≤ 1000 ∧ i.natAbs < 1000000)
theorem bMul_ok (i j : Int) (h : bMul i j = true) : CMul i j := by
  unfold bMul at h
  rw [Bool.or_eq_true, decide_eq_true_eq, decide_eq_true_eq] at h
  rcases h with h | h
  · exact .inl (by omega)
  · exact .inr (by omega)
theorem bDiv_ok (i j : Int) (h : bDiv i j = true) : CDiv i j := by
  have h : 0 < j ∧ j < 1073741824 := of_decide_eq_true h
  exact h
theorem bPow_ok (i j : Int) (h : bPow i j = true) : CPow i j := by
  have h := of_decide_eq_true h
  exact ⟨h.1, by omega, by omega⟩
/-- tuples -/
def fTT (x y : D) : Option D := match x, y with
  | .tuple xs, .tuple ys => if xs.length + ys.length ≤ 1000000 then some (.tuple (xs ++ ys)) else none
  | _, _ => none
theorem imr_tt : ImR K (rCatA K) fTT := fun H M S x y dx dy dz ok rx ry e Q q => by
  unfold fTT at e
  split at e
  · cases rx with
    | tup h1 h2 =>
      cases ry with
      | tup h3 h4 =>
        split at e
        · rename_i hz
          cases e
          have l1 := h2.len
          have l2 := h4.len
          refine ⟨_, _, _, _, rfl, rfl, h1, h3, Nat.le_trans (by omega) (show 1000000 ≤ sizeLine by decide), fun e => ?_, fun n e => ?_, fun n1 n2 p hp => ?_⟩
          · subst e
            cases h2
            exact q.here ok (.tup h3 h4)
          · subst e
            cases h4
            exact q.here ok (by rw [List.append_nil]; exact .tup h1 h2)
          · exact q _ _ M (Ext.new hp) (ok.new hp) (.tup (.inl (.inl upd_same)) ((h2.append h4).mono (Ext.new hp)))
        · cases e
  · cases e
theorem op_addX {X : Cx} : OpR X (binaryOp .Add) (fun x y H Q => rI0 (fun i j => .int (i + j)) x y H Q ∨ rCatA X.K x y H Q) := OpR.or op_add op_catA
def fAdd (x y : D) : Option D := (fI0 (fun i j => .int (i + j)) x y).or (fTT x y)
theorem imr_add : ImR K (fun x y H Q => rI0 (fun i j => .int (i + j)) x y H Q ∨ rCatA K x y H Q) fAdd := imr_or (imr_I0 fun _ _ _ _ => .int _) imr_tt
def fSub (x y : D) : Option D := fI0 (fun i j => .int (i - j)) x y
theorem imr_sub : ImR K (rI0 fun i j => .int (i - j)) fSub := imr_I0 fun _ _ _ _ => .int _
def fMul (x y : D) : Option D := fII bMul (fun i j => .int (i * j)) x y
theorem imr_mul : ImR K (rI CMul fun i j => .int (i * j)) fMul := imr_I bMul_ok fun _ _ _ _ => .int _
def fDiv (x y : D) : Option D := fII bDiv (fun i j => .int (i / j)) x y
theorem imr_div : ImR K (rI CDiv fun i j => .int (i / j)) fDiv := imr_I bDiv_ok fun _ _ _ _ => .int _
def fMod (x y : D) : Option D := fII bMod (fun i j => .int (i % j)) x y
theorem imr_mod : ImR K (rI (fun _ j => 0 < j) fun i j => .int (i % j)) fMod := imr_I (fun _ _ h => of_decide_eq_true h) fun _ _ _ _ => .int _
def fPow (x y : D) : Option D := fII bPow (fun i j => .int (i ^ j.toNat)) x y
theorem imr_pow : ImR K (rI CPow fun i j => .int (i ^ j.toNat)) fPow := imr_I bPow_ok fun _ _ _ _ => .int _
def fLt (x y : D) : Option D := fI0 (fun i j => .bool (decide (i < j))) x y
def fLe (x y : D) : Option D := fI0 (fun i j => .bool (decide (i ≤ j))) x y
def fGt (x y : D) : Option D := fI0 (fun i j => .bool (decide (j < i))) x y
def fGe (x y : D) : Option D := fI0 (fun i j => .bool (decide (j ≤ i))) x y
theorem imr_lt : ImR K (rI0 fun i j => .bl (decide (i < j))) fLt := imr_I0 fun _ _ _ _ => .bl _
theorem imr_le : ImR K (rI0 fun i j => .bl (decide (i ≤ j))) fLe := imr_I0 fun _ _ _ _ => .bl _
theorem imr_gt : ImR K (rI0 fun i j => .bl (decide (j < i))) fGt := imr_I0 fun _ _ _ _ => .bl _
theorem imr_ge : ImR K (rI0 fun i j => .bl (decide (j ≤ i))) fGe := imr_I0 fun _ _ _ _ => .bl _
def fEq (x y : D) : Option D := if SeqAt.shaped x && SeqAt.shaped y then some (.bool (PyData.eqv x y)) else none
def fNe (x y : D) : Option D := if SeqAt.shaped x && SeqAt.shaped y then some (.bool (!PyData.eqv x y)) else none
theorem imr_eq : ImR K (rEqD K) fEq := fun H M S x y dx dy dz ok rx ry e Q q => by
  unfold fEq at e
  split at e
  · rename_i h
    rw [Bool.and_eq_true] at h
    cases e
    exact ⟨dx, dy, rx.dp, ry.dp, h.1, h.2, q.here ok (.bl _)⟩
  · cases e
theorem imr_ne : ImR K (rNeD K) fNe := fun H M S x y dx dy dz ok rx ry e Q q => by
  unfold fNe at e
  split at e
  · rename_i h
    rw [Bool.and_eq_true] at h
    cases e
    exact ⟨dx, dy, rx.dp, ry.dp, h.1, h.2, q.here ok (.bl _)⟩
  · cases e
def isN (d : D) : Bool := match d with | .none => true | _ => false
theorem Rl.isN {v : V} (r : Rl K M H v d) : decide (v = .non) = isN d := by
  cases r <;> rfl
def fIsN (x y : D) : Option D := match y with
  | .none => some (.bool (isN x))
  | _ => none
def fNotN (x y : D) : Option D := match y with
  | .none => some (.bool (!isN x))
  | _ => none
theorem imr_isN : ImR K (fun x y H Q => y = .non ∧ Q (.bl (decide (x = .non))) H) fIsN := fun H M S x y dx dy dz ok rx ry e Q q => by
  cases ry <;> first | (cases e) | skip
  exact ⟨rfl, by rw [rx.isN]; exact q.here ok (.bl _)⟩
theorem imr_notN : ImR K (fun x y H Q => y = .non ∧ Q (.bl (!decide (x = .non))) H) fNotN := fun H M S x y dx dy dz ok rx ry e Q q => by
  cases ry <;> first | (cases e) | skip
  exact ⟨rfl, by rw [rx.isN]; exact q.here ok (.bl _)⟩
def fIsB (x y : D) : Option D := match x, y with
  | .bool a, .bool b => some (.bool (decide (a = b)))
  | _, _ => none
def fNotB (x y : D) : Option D := match x, y with
  | .bool a, .bool b => some (.bool (!decide (a = b)))
  | _, _ => none
theorem imr_isB : ImR K (fun x y H Q => ∃ a b, x = .bl a ∧ y = .bl b ∧ Q (.bl (decide (a = b))) H) fIsB := fun H M S x y dx dy dz ok rx ry e Q q => by
  cases rx <;> cases ry <;> first | (cases e; done) | skip
  cases e
  exact ⟨_, _, rfl, rfl, q.here ok (.bl _)⟩
theorem imr_notB : ImR K (fun x y H Q => ∃ a b, x = .bl a ∧ y = .bl b ∧ Q (.bl (!decide (a = b))) H) fNotB := fun H M S x y dx dy dz ok rx ry e Q q => by
  cases rx <;> cases ry <;> first | (cases e; done) | skip
  cases e
  exact ⟨_, _, rfl, rfl, q.here ok (.bl _)⟩
def fNeg (x : D) : Option D := match x with
  | .int i => some (.int (-i))
  | _ => none
theorem imu_neg : ImU K (rU fun i => .int (-i)) fNeg := fun H M S x dx dz ok rx e Q q => by
  cases rx <;> cases e
  exact ⟨_, rfl, q.here ok (.int _)⟩
end
end G
set_option Elab.async false
set_option linter.all false
set_option autoImplicit false
set_option maxRecDepth 100000
set_option maxHeartbeats 4000000
namespace G
open PySem L2
section
variable {K : PySem.W.Frag} {M M' : Adr} {H H' : Hp} {S S' : Sto} {ta tb tc te : TE} {ma mb mc me : ME} {d : D}

/-! ### subscripts -/
theorem RlA.atI {vs : List V} {ds : List D} (h : RlA K M H vs ds) {i : Int} {d : D} (e : atI ds i = some d) : ∃ v, atI vs i = some v ∧ Rl K M H v d := by
  unfold L2.atI at e ⊢
  rw [h.len]
  cases q : ixN ds.length i with
  | none => rw [q] at e; cases e
  | some j => rw [q] at e; exact h.get e
def fIx (x y : D) : Option D := match y with
  | .int i => (asQ x).bind fun xs => atI xs i
  | _ => none
theorem imr_ix : ImR K (rIx K) fIx := fun H M S x y dx dy dz ok rx ry e Q q => by
  cases ry <;> first | (cases e; done) | skip
  rename_i i
  cases dx with
  | list xs =>
    cases rx with
    | lst h1 h2 =>
      obtain ⟨v, e1, r⟩ := h2.atI (show L2.atI xs i = some dz from e)
      exact .inl ⟨_, _, _, v, rfl, rfl, h1.sql, e1, q.here ok r⟩
  | tuple xs =>
    cases rx with
    | tup h1 h2 =>
      obtain ⟨v, e1, r⟩ := h2.atI (show L2.atI xs i = some dz from e)
      exact .inr (.inl ⟨_, _, _, v, rfl, rfl, h1, e1, q.here ok r⟩)
  | _ => cases e
theorem qvar_at {σ : St} {ρ : Rho} {i : Nat} {xs : List D} (hr : RSt K M H σ ρ) (ok : Ok K M S H) (h : mQVar i ρ S = some (xs, S')) :
    S' = S ∧ ∃ a vs, σ[i]? = some (some (.ref a)) ∧ (SqL K H a vs ∨ SqT K H a vs) ∧ RlA K M H vs xs := by
  unfold mQVar at h
  split at h
  · rename_i xs e
    cases h
    obtain ⟨v, e1, r⟩ := hr.at_ i _ e
    cases r with
    | lst h1 h2 => exact ⟨rfl, _, _, e1, .inl h1.sql, h2⟩
  · rename_i xs e
    cases h
    obtain ⟨v, e1, r⟩ := hr.at_ i _ e
    cases r with
    | tup h1 h2 => exact ⟨rfl, _, _, e1, .inr h1, h2⟩
  · rename_i n e
    cases e2 : S[n]? with
    | none => rw [e2] at h; cases h
    | some c =>
      cases c with
      | none => rw [e2] at h; cases h
      | some xs =>
        rw [e2] at h
        cases h
        obtain ⟨v, e1, a, rfl, r⟩ := hr.at_ i _ e
        obtain ⟨a', vs, m1, m2, m3⟩ := ok.cell n _ e2
        have ea : a = a' := by rcases r with r | r <;> (rw [r] at m1; cases m1); rfl
        subst ea
        exact ⟨rfl, _, _, e1, .inl (.inl (.inl m2)), m3⟩
  · cases h
/-- x[e], x a name: a list that may change is read behind e -/
def mIxV (i : Nat) (m : ME) : ME := fun ρ S => (m ρ S).bind fun p => match p.1 with
  | .int k => (mQVar i ρ p.2).bind fun q => (atI q.1 k).map fun z => (z, p.2)
  | _ => none
theorem qvar_some {σ : St} {ρ : Rho} {i : Nat} {p : List D × Sto} (hr : RSt K M H σ ρ) (h : mQVar i ρ S = some p) : ∃ v, σ[i]? = some (some v) := by
  unfold mQVar at h
  split at h
  · rename_i e; obtain ⟨v, e1, _⟩ := hr.at_ i _ e; exact ⟨v, e1⟩
  · rename_i e; obtain ⟨v, e1, _⟩ := hr.at_ i _ e; exact ⟨v, e1⟩
  · rename_i e; obtain ⟨v, e1, _⟩ := hr.at_ i _ e; exact ⟨v, e1⟩
  · cases h
theorem im_ixV {i : Nat} (h : ImE K te me) : ImE K (tOp (rIx K) (tVar i) te) (mIxV i me) := fun σ H M ρ S d S' hs ok e Q q => by
  unfold mIxV at e
  cases e1 : me ρ S with
  | none => rw [e1] at e; cases e
  | some p =>
    rw [e1, Option.bind_some] at e
    obtain ⟨y, S1⟩ := p
    cases y <;> first | (cases e; done) | skip
    rename_i k
    cases e2 : mQVar i ρ S1 with
    | none => simp only [e2] at e; cases e
    | some p2 =>
      simp only [e2, Option.bind_some] at e
      cases e3 : atI p2.1 k with
      | none => rw [e3] at e; cases e
      | some z =>
        rw [e3] at e
        cases e
        obtain ⟨v, hv⟩ := qvar_some hs e2
        refine ⟨v, hv, ?_⟩
        refine h σ H M ρ S _ _ hs ok e1 _ fun y H1 M1 x1 ok1 r1 => ?_
        cases r1
        obtain ⟨_, a, vs, ha, sq, r⟩ := qvar_at (hs.mono x1) ok1 e2
        rw [hv] at ha
        cases ha
        obtain ⟨w, e4, r4⟩ := r.atI e3
        rcases sq with sq | sq
        · exact .inl ⟨_, _, _, w, rfl, rfl, sq, e4, q w H1 M1 x1 ok1 r4⟩
        · exact .inr (.inl ⟨_, _, _, w, rfl, rfl, sq, e4, q w H1 M1 x1 ok1 r4⟩)

/-! ### slices: of a tuple a tuple, of a list a new list -/
abbrev MO := Rho → Sto → Option (Option Int × Sto)
def ImO (K : PySem.W.Frag) (t : TO) (m : MO) : Prop := ∀ (σ : St) (H : Hp) (M : Adr) (ρ : Rho) (S : Sto) (o : Option Int) (S' : Sto), RSt K M H σ ρ → Ok K M S H → m ρ S = some (o, S') → ∀ Q : Option Int → Hp → Prop,
  (∀ H' M', Ext M H M' H' → Ok K M' S' H' → Q o H') → t σ H Q
def mO0 : MO := fun _ S => some (none, S)
def mO1 (m : ME) : MO := fun ρ S => (m ρ S).bind fun p => match p.1 with
  | .int i => some (some i, p.2)
  | _ => none
theorem im_o0 : ImO K tNoPart mO0 := fun σ H M ρ S o S' hs ok e Q q => by cases e; exact q H M .refl ok
theorem im_o1 (h : ImE K te me) : ImO K (tPart te) (mO1 me) := fun σ H M ρ S o S' hs ok e Q q => by
  unfold mO1 at e
  cases e1 : me ρ S with
  | none => rw [e1] at e; cases e
  | some p =>
    rw [e1, Option.bind_some] at e
    obtain ⟨y, S1⟩ := p
    cases y <;> cases e
    refine h σ H M ρ S _ _ hs ok e1 _ fun y H1 M1 x1 ok1 r1 => ?_
    cases r1
    exact ⟨_, rfl, q H1 M1 x1 ok1⟩
def cut {α : Type} (xs : List α) (lo hi : Option Int) : List α := (xs.drop (HT.sIx xs.length 0 lo)).take (HT.sIx xs.length xs.length hi - HT.sIx xs.length 0 lo)
theorem RlA.cut {vs : List V} {ds : List D} (h : RlA K M H vs ds) (lo hi : Option Int) : RlA K M H (cutV vs lo hi) (cut ds lo hi) := by
  unfold cutV G.cut
  rw [h.len]
  exact (h.drop _).take _
def mSlT (m : ME) (lo hi : MO) : ME := fun ρ S => (m ρ S).bind fun p => (lo ρ p.2).bind fun l => (hi ρ l.2).bind fun u => match p.1 with
  | .tuple xs => some (.tuple (cut xs l.1 u.1), u.2)
  | _ => none
theorem cut_all {α : Type} (xs : List α) (lo hi : Option Int) (h : HT.sIx xs.length 0 lo = 0 ∧ HT.sIx xs.length xs.length hi = xs.length) : cut xs lo hi = xs := by
  unfold cut
  rw [h.1, h.2, List.drop_zero, Nat.sub_zero, List.take_length]
theorem im_slT {tl th : TO} {ml mh : MO} (h : ImE K te me) (hl : ImO K tl ml) (hh : ImO K th mh) : ImE K (tSl (rSlA K) te tl th) (mSlT me ml mh) := fun σ H M ρ S d S' hs ok e Q q => by
  unfold mSlT at e
  cases e1 : me ρ S with
  | none => rw [e1] at e; cases e
  | some p =>
    rw [e1, Option.bind_some] at e
    cases e2 : ml ρ p.2 with
    | none => rw [e2] at e; cases e
    | some l =>
      rw [e2, Option.bind_some] at e
      cases e3 : mh ρ l.2 with
      | none => rw [e3] at e; cases e
      | some u =>
        rw [e3, Option.bind_some] at e
        obtain ⟨y, S1⟩ := p
        cases y <;> cases e
        rename_i xs
        refine h σ H M ρ S _ _ hs ok e1 _ fun y H1 M1 x1 ok1 r1 => ?_
        refine hl σ H1 M1 ρ _ l.1 l.2 (hs.mono x1) ok1 (by rw [e2]) _ fun H2 M2 x2 ok2 => ?_
        refine hh σ H2 M2 ρ _ u.1 u.2 (hs.mono (x1.trans x2)) ok2 (by rw [e3]) _ fun H3 M3 x3 ok3 => ?_
        have r3 := r1.mono (x2.trans x3)
        cases r3 with
        | tup h1 h2 =>
          rename_i a vs
          have hlen := h2.len
          refine ⟨_, _, rfl, h1, fun hw => ?_, fun hw p hp => ?_⟩
          · rw [cut_all xs _ _ (by rw [← hlen]; exact hw)] at q
            exact q _ H3 M3 (x1.trans (x2.trans x3)) ok3 (.tup h1 h2)
          · exact q _ _ M3 ((x1.trans (x2.trans x3)).trans (Ext.new hp)) (ok3.new hp) (.tup (.inl (.inl upd_same)) ((h2.cut _ _).mono (Ext.new hp)))
def mSlL (m : MN) (lo hi : MO) : MN := fun ρ S => (m ρ S).bind fun p => (lo ρ p.2).bind fun l => (hi ρ l.2).bind fun u => some (cut p.1 l.1 u.1, u.2)
/-- of a list that isn't changed by the bounds: a value -/
theorem im_slL {tl th : TO} {ml mh : MO} (h : ImE K te me) (hl : ImO K tl ml) (hh : ImO K th mh) : ImN K (tSl (rSlL K) te tl th) (mSlL (mLE me) ml mh) := fun σ H M ρ S d S' hs ok e Q q => by
  unfold mSlL mLE at e
  cases e1 : me ρ S with
  | none => rw [e1] at e; cases e
  | some p =>
    rw [e1, Option.bind_some] at e
    obtain ⟨y, S1⟩ := p
    cases y <;> first | (cases e; done) | skip
    rename_i xs
    have e : ((ml ρ S1).bind fun l => (mh ρ l.2).bind fun u => some (cut xs l.1 u.1, u.2)) = some (d, S') := e
    cases e2 : ml ρ S1 with
    | none => rw [e2] at e; cases e
    | some l =>
      rw [e2, Option.bind_some] at e
      cases e3 : mh ρ l.2 with
      | none => rw [e3] at e; cases e
      | some u =>
        rw [e3, Option.bind_some] at e
        cases e
        refine h σ H M ρ S _ _ hs ok e1 _ fun y H1 M1 x1 ok1 r1 => ?_
        refine hl σ H1 M1 ρ _ l.1 l.2 (hs.mono x1) ok1 (by rw [e2]) _ fun H2 M2 x2 ok2 => ?_
        refine hh σ H2 M2 ρ _ u.1 u.2 (hs.mono (x1.trans x2)) ok2 (by rw [e3]) _ fun H3 M3 x3 ok3 => ?_
        have r3 := r1.mono (x2.trans x3)
        have x := x1.trans (x2.trans x3)
        cases r3 with
        | lst h1 h2 => exact ⟨_, _, rfl, h1.sql, fun p hp => q p _ _ (M3.gh p) (x.trans (Ext.ghost hp)) (ok3.ghost hp) (x.free p hp) upd_same List.mem_cons_self ((h2.cut _ _).fresh hp)⟩

/-! ### argument lists, displays -/
def mA0 : MA := fun _ S => some ([], S)
def mA1 (m : ME) (r : MA) : MA := fun ρ S => (m ρ S).bind fun p => (r ρ p.2).map fun q => (.d p.1 :: q.1, q.2)
def mAV (i : Nat) (r : MA) : MA := fun ρ S => match ρ[i]? with
  | some (some s) => (r ρ S).map fun q => (s :: q.1, q.2)
  | _ => none
theorem im_a0 : ImA K tNil mA0 := fun σ H M ρ S o S' hs ok e Q q => by cases e; exact q [] H M .refl ok .nil
theorem im_a1 {t : TA} {m : MA} (h : ImE K te me) (ht : ImA K t m) : ImA K (tCons te t) (mA1 me m) := fun σ H M ρ S o S' hs ok e Q q => by
  unfold mA1 at e
  cases e1 : me ρ S with
  | none => rw [e1] at e; cases e
  | some p =>
    rw [e1, Option.bind_some] at e
    cases e2 : m ρ p.2 with
    | none => rw [e2] at e; cases e
    | some l =>
      rw [e2] at e
      cases e
      refine h σ H M ρ S p.1 p.2 hs ok e1 _ fun y H1 M1 x1 ok1 r1 => ?_
      refine ht σ H1 M1 ρ _ l.1 l.2 (hs.mono x1) ok1 e2 _ fun vs H2 M2 x2 ok2 r2 => ?_
      exact q _ H2 M2 (x1.trans x2) ok2 (.cons (show Rl K M2 H2 y p.1 from r1.mono x2) r2)
theorem im_av {i : Nat} {t : TA} {m : MA} (ht : ImA K t m) : ImA K (tCons (tVar i) t) (mAV i m) := fun σ H M ρ S o S' hs ok e Q q => by
  unfold mAV at e
  split at e <;> first | (cases e; done) | skip
  rename_i s e1
  cases e2 : m ρ S with
  | none => rw [e2] at e; cases e
  | some l =>
    rw [e2] at e
    cases e
    obtain ⟨v, hv, r⟩ := hs.at_ i s e1
    refine ⟨v, hv, ?_⟩
    refine ht σ H M ρ _ l.1 l.2 hs ok e2 _ fun vs H2 M2 x2 ok2 r2 => ?_
    exact q _ H2 M2 x2 ok2 (.cons (r.mono x2) r2)
/-- arguments that are data -/
def datas : List Sl → Option (List D)
  | [] => some []
  | .d x :: r => (datas r).map (x :: ·)
  | _ :: _ => none
theorem RSlA.datas {vs : List V} {ss : List Sl} {ds : List D} (h : RSlA K M H vs ss) (e : datas ss = some ds) : RlA K M H vs ds := by
  induction h generalizing ds with
  | nil => cases e; exact .nil
  | @cons v vs s ss h1 h2 ih =>
    cases s with
    | loc n => cases e
    | d x =>
      unfold G.datas at e
      cases e2 : G.datas ss with
      | none => rw [e2] at e; cases e
      | some es => rw [e2] at e; cases e; exact .cons h1 (ih e2)
def mDs (m : MA) : Rho → Sto → Option (List D × Sto) := fun ρ S => (m ρ S).bind fun p => (datas p.1).map fun ds => (ds, p.2)
def mTup (m : MA) : ME := fun ρ S => (mDs m ρ S).bind fun p => if p.1.length ≤ 1000000 then some (.tuple p.1, p.2) else none
def mLst (m : MA) : MN := fun ρ S => (mDs m ρ S).bind fun p => if p.1.length ≤ 1000000 then some (p.1, p.2) else none
theorem big : 1000000 ≤ sizeLine := by decide
theorem mDs_ok {t : TA} {m : MA} (ht : ImA K t m) {σ : St} {H : Hp} {M : Adr} {ρ : Rho} {S : Sto} {ds : List D} {S' : Sto} (hs : RSt K M H σ ρ) (ok : Ok K M S H) (e : mDs m ρ S = some (ds, S')) {Q : List V → Hp → Prop}
    (q : ∀ vs H' M', Ext M H M' H' → Ok K M' S' H' → RlA K M' H' vs ds → Q vs H') : t σ H Q := by
  unfold mDs at e
  cases e1 : m ρ S with
  | none => rw [e1] at e; cases e
  | some p =>
    rw [e1, Option.bind_some] at e
    cases e2 : datas p.1 with
    | none => rw [e2] at e; cases e
    | some es =>
      rw [e2] at e
      cases e
      exact ht σ H M ρ S p.1 p.2 hs ok e1 Q fun vs H' M' x ok' r => q vs H' M' x ok' (r.datas e2)
theorem im_tup {t : TA} {m : MA} (ht : ImA K t m) : ImE K (tTup t) (mTup m) := fun σ H M ρ S o S' hs ok e Q q => by
  unfold mTup at e
  cases e1 : mDs m ρ S with
  | none => rw [e1] at e; cases e
  | some p =>
    rw [e1, Option.bind_some] at e
    split at e <;> cases e
    rename_i hz
    refine mDs_ok ht hs ok e1 fun vs H1 M1 x1 ok1 r1 => ⟨Nat.le_trans (by rw [r1.len]; exact hz) big, fun p hp => ?_⟩
    exact q _ _ M1 (x1.trans (Ext.new hp)) (ok1.new hp) (.tup (.inl (.inl upd_same)) (r1.mono (Ext.new hp)))
theorem im_lst {t : TA} {m : MA} (ht : ImA K t m) : ImN K (tLst t) (mLst m) := fun σ H M ρ S o S' hs ok e Q q => by
  unfold mLst at e
  cases e1 : mDs m ρ S with
  | none => rw [e1] at e; cases e
  | some p =>
    rw [e1, Option.bind_some] at e
    split at e <;> cases e
    rename_i hz
    refine mDs_ok ht hs ok e1 fun vs H1 M1 x1 ok1 r1 => ⟨Nat.le_trans (by rw [r1.len]; exact hz) big, fun p hp => ?_⟩
    exact q _ _ _ (M1.gh p) (x1.trans (Ext.ghost hp)) (ok1.ghost hp) (x1.free p hp) upd_same List.mem_cons_self (r1.fresh hp)
/-- two lists joined -/
def mCat (ma mb : MN) : MN := fun ρ S => (ma ρ S).bind fun p => (mb ρ p.2).bind fun q => if p.1.length + q.1.length ≤ 1000000 then some (p.1 ++ q.1, q.2) else none
theorem im_catN {m1 m2 : MN} (h1 : ImN K ta m1) (h2 : ImN K tb m2) : ImN K (tOp rCat ta tb) (mCat m1 m2) := fun σ H M ρ S o S' hs ok e Q q => by
  unfold mCat at e
  cases e1 : m1 ρ S with
  | none => rw [e1] at e; cases e
  | some p =>
    rw [e1, Option.bind_some] at e
    cases e2 : m2 ρ p.2 with
    | none => rw [e2] at e; cases e
    | some p2 =>
      rw [e2, Option.bind_some] at e
      split at e <;> cases e
      rename_i hz
      refine h1 σ H M ρ S p.1 p.2 hs ok e1 _ fun a vs H1 M1 x1 ok1 n0 n1 n2 r1 => ?_
      refine h2 σ H1 M1 ρ _ p2.1 p2.2 (hs.mono x1) ok1 e2 _ fun b ws H2 M2 x2 ok2 k0 k1 k2 r2 => ?_
      have n3 := x2.keep a _ n1 (.inl fun z => ok1.dj a z n2)
      have r3 := r1.mono x2
      refine ⟨a, b, vs, ws, rfl, rfl, n3, k1, Nat.le_trans (by rw [r1.len, r2.len]; exact hz) big, fun p hp => ?_⟩
      have x := x1.trans x2
      exact q p _ _ (M2.gh p) (x.trans (Ext.ghost hp)) (ok2.ghost hp) (x.free p hp) upd_same List.mem_cons_self ((r3.append r2).fresh hp)

/-! ### tests -/
def mTB (m : ME) : MT := fun ρ S => (m ρ S).bind fun p => match p.1 with
  | .bool b => some (b, p.2)
  | _ => none
theorem im_tb (h : ImE K te me) : ImT K (tB te) (mTB me) := fun σ H M ρ S b S' hs ok e Q q => by
  unfold mTB at e
  cases e1 : me ρ S with
  | none => rw [e1] at e; cases e
  | some p =>
    rw [e1, Option.bind_some] at e
    obtain ⟨y, S1⟩ := p
    cases y <;> cases e
    refine h σ H M ρ S _ _ hs ok e1 _ fun y H1 M1 x1 ok1 r1 => ?_
    cases r1
    exact ⟨b, rfl, q H1 M1 x1 ok1⟩
theorem im_tt (h : ImE K te me) : ImT K (tTest te) (mTB me) := im_tb h
def tru (d : D) : Option Bool := match d with
  | .none => some false
  | .bool b => some b
  | .int i => some (i != 0)
  | .list xs => some (!xs.isEmpty)
  | .tuple xs => some (!xs.isEmpty)
  | _ => none
def mTru (m : ME) : MT := fun ρ S => (m ρ S).bind fun p => (tru p.1).map fun b => (b, p.2)
def mTruQ (m : MN) : MT := fun ρ S => (m ρ S).map fun p => (!p.1.isEmpty, p.2)
def tTru (K : PySem.W.Frag) (ta : TE) : TT := fun σ H Q => ta σ H fun x H' => ∃ k, TruV K x H' k ∧ Q k H'
theorem RlA.emp {vs : List V} {ds : List D} (h : RlA K M H vs ds) : (!vs.isEmpty) = !ds.isEmpty := by cases h <;> rfl
theorem im_tru (h : ImE K te me) : ImT K (tTru K te) (mTru me) := fun σ H M ρ S b S' hs ok e Q q => by
  unfold mTru at e
  cases e1 : me ρ S with
  | none => rw [e1] at e; cases e
  | some p =>
    rw [e1, Option.bind_some] at e
    obtain ⟨y, S1⟩ := p
    refine h σ H M ρ S _ _ hs ok e1 _ fun v H1 M1 x1 ok1 r1 => ?_
    cases r1 with
    | non => cases e; exact ⟨_, rfl, q H1 M1 x1 ok1⟩
    | bl c => cases e; exact ⟨_, rfl, q H1 M1 x1 ok1⟩
    | int i => cases e; exact ⟨_, rfl, q H1 M1 x1 ok1⟩
    | str s => cases e
    | lst h1 h2 => cases e; exact ⟨_, .inl ⟨_, h1.sql, h2.emp.symm⟩, q H1 M1 x1 ok1⟩
    | tup h1 h2 => cases e; exact ⟨_, .inr (.inl ⟨_, h1, h2.emp.symm⟩), q H1 M1 x1 ok1⟩
theorem im_truQ {m : MN} (h : ImQ K te m) : ImT K (tTru K te) (mTruQ m) := fun σ H M ρ S b S' hs ok e Q q => by
  unfold mTruQ at e
  cases e1 : m ρ S with
  | none => rw [e1] at e; cases e
  | some p =>
    rw [e1] at e
    cases e
    refine h σ H M ρ S _ _ hs ok e1 _ fun a vs H1 M1 x1 ok1 sq r => ?_
    rcases sq with sq | sq
    · exact ⟨_, .inl ⟨_, sq, r.emp.symm⟩, q H1 M1 x1 ok1⟩
    · exact ⟨_, .inr (.inl ⟨_, sq, r.emp.symm⟩), q H1 M1 x1 ok1⟩
def mAnd (a b : MT) : MT := fun ρ S => (a ρ S).bind fun p => if p.1 then b ρ p.2 else some (false, p.2)
def mOr (a b : MT) : MT := fun ρ S => (a ρ S).bind fun p => if p.1 then some (true, p.2) else b ρ p.2
def mNot (a : MT) : MT := fun ρ S => (a ρ S).map fun p => (!p.1, p.2)
theorem im_and {t u : TT} {a b : MT} (h1 : ImT K t a) (h2 : ImT K u b) : ImT K (tAnd t u) (mAnd a b) := fun σ H M ρ S c S' hs ok e Q q => by
  unfold mAnd at e
  cases e1 : a ρ S with
  | none => rw [e1] at e; cases e
  | some p =>
    rw [e1, Option.bind_some] at e
    obtain ⟨y, S1⟩ := p
    refine h1 σ H M ρ S _ _ hs ok e1 _ fun H1 M1 x1 ok1 => ?_
    cases y with
    | true =>
      show u σ H1 Q
      exact h2 σ H1 M1 ρ S1 c S' (hs.mono x1) ok1 e Q fun H2 M2 x2 ok2 => q H2 M2 (x1.trans x2) ok2
    | false => cases e; exact q H1 M1 x1 ok1
theorem im_or {t u : TT} {a b : MT} (h1 : ImT K t a) (h2 : ImT K u b) : ImT K (tOr t u) (mOr a b) := fun σ H M ρ S c S' hs ok e Q q => by
  unfold mOr at e
  cases e1 : a ρ S with
  | none => rw [e1] at e; cases e
  | some p =>
    rw [e1, Option.bind_some] at e
    obtain ⟨y, S1⟩ := p
    refine h1 σ H M ρ S _ _ hs ok e1 _ fun H1 M1 x1 ok1 => ?_
    cases y with
    | false =>
      show u σ H1 Q
      exact h2 σ H1 M1 ρ S1 c S' (hs.mono x1) ok1 e Q fun H2 M2 x2 ok2 => q H2 M2 (x1.trans x2) ok2
    | true => cases e; exact q H1 M1 x1 ok1
theorem im_not {t : TT} {a : MT} (h1 : ImT K t a) : ImT K (tNot t) (mNot a) := fun σ H M ρ S c S' hs ok e Q q => by
  unfold mNot at e
  cases e1 : a ρ S with
  | none => rw [e1] at e; cases e
  | some p =>
    rw [e1] at e
    cases e
    exact h1 σ H M ρ S _ _ hs ok e1 _ fun H1 M1 x1 ok1 => q H1 M1 x1 ok1
/-- as values -/
def mAndV (a b : ME) : ME := fun ρ S => (a ρ S).bind fun p => match p.1 with
  | .bool true => b ρ p.2
  | .bool false => some (.bool false, p.2)
  | _ => none
def mOrV (a b : ME) : ME := fun ρ S => (a ρ S).bind fun p => match p.1 with
  | .bool false => b ρ p.2
  | .bool true => some (.bool true, p.2)
  | _ => none
def mNotV (a : ME) : ME := fun ρ S => (a ρ S).bind fun p => match p.1 with
  | .bool b => some (.bool (!b), p.2)
  | _ => none
theorem im_andV (h1 : ImE K ta ma) (h2 : ImE K tb mb) : ImE K (tAndV ta tb) (mAndV ma mb) := fun σ H M ρ S c S' hs ok e Q q => by
  unfold mAndV at e
  cases e1 : ma ρ S with
  | none => rw [e1] at e; cases e
  | some p =>
    rw [e1, Option.bind_some] at e
    obtain ⟨y, S1⟩ := p
    refine h1 σ H M ρ S _ _ hs ok e1 _ fun v H1 M1 x1 ok1 r1 => ?_
    cases r1 <;> first | (cases e; done) | skip
    rename_i b
    cases b with
    | true => exact ⟨true, rfl, h2 σ H1 M1 ρ S1 c S' (hs.mono x1) ok1 e Q (q.ext x1)⟩
    | false => cases e; exact ⟨false, rfl, q _ H1 M1 x1 ok1 (.bl _)⟩
theorem im_orV (h1 : ImE K ta ma) (h2 : ImE K tb mb) : ImE K (tOrV ta tb) (mOrV ma mb) := fun σ H M ρ S c S' hs ok e Q q => by
  unfold mOrV at e
  cases e1 : ma ρ S with
  | none => rw [e1] at e; cases e
  | some p =>
    rw [e1, Option.bind_some] at e
    obtain ⟨y, S1⟩ := p
    refine h1 σ H M ρ S _ _ hs ok e1 _ fun v H1 M1 x1 ok1 r1 => ?_
    cases r1 <;> first | (cases e; done) | skip
    rename_i b
    cases b with
    | false => exact ⟨false, rfl, h2 σ H1 M1 ρ S1 c S' (hs.mono x1) ok1 e Q (q.ext x1)⟩
    | true => cases e; exact ⟨true, rfl, q _ H1 M1 x1 ok1 (.bl _)⟩
theorem im_notV (h1 : ImE K ta ma) : ImE K (tNotV ta) (mNotV ma) := fun σ H M ρ S c S' hs ok e Q q => by
  unfold mNotV at e
  cases e1 : ma ρ S with
  | none => rw [e1] at e; cases e
  | some p =>
    rw [e1, Option.bind_some] at e
    obtain ⟨y, S1⟩ := p
    refine h1 σ H M ρ S _ _ hs ok e1 _ fun v H1 M1 x1 ok1 r1 => ?_
    cases r1 <;> cases e
    exact ⟨_, rfl, q _ H1 M1 x1 ok1 (.bl _)⟩
def mIf (c : MT) (a b : ME) : ME := fun ρ S => (c ρ S).bind fun p => if p.1 then a ρ p.2 else b ρ p.2
theorem im_if {t : TT} {c : MT} (h : ImT K t c) (h1 : ImE K ta ma) (h2 : ImE K tb mb) : ImE K (tIf t ta tb) (mIf c ma mb) := fun σ H M ρ S d S' hs ok e Q q => by
  unfold mIf at e
  cases e1 : c ρ S with
  | none => rw [e1] at e; cases e
  | some p =>
    rw [e1, Option.bind_some] at e
    obtain ⟨y, S1⟩ := p
    refine h σ H M ρ S _ _ hs ok e1 _ fun H1 M1 x1 ok1 => ?_
    cases y with
    | true =>
      show ta σ H1 Q
      exact h1 σ H1 M1 ρ S1 d S' (hs.mono x1) ok1 e Q (q.ext x1)
    | false =>
      show tb σ H1 Q
      exact h2 σ H1 M1 ρ S1 d S' (hs.mono x1) ok1 e Q (q.ext x1)
/-- a op1 b op2 c -/
def mChain (f g : D → D → Option D) (ma mb mc : ME) : ME := fun ρ S => (ma ρ S).bind fun p => (mb ρ p.2).bind fun q => (f p.1 q.1).bind fun z => match z with
  | .bool true => (mc ρ q.2).bind fun u => (g q.1 u.1).map fun w => (w, u.2)
  | .bool false => some (.bool false, q.2)
  | _ => none
theorem im_chain {r r' : R2} {f g : D → D → Option D} (hf : ImR K r f) (hg : ImR K r' g) (ha : ImE K ta ma) (hb : ImE K tb mb) (hc : ImE K tc mc) : ImE K (tChain r r' ta tb tc) (mChain f g ma mb mc) := fun σ H M ρ S d S' hs ok e Q q => by
  unfold mChain at e
  cases e1 : ma ρ S with
  | none => rw [e1] at e; cases e
  | some p =>
    rw [e1, Option.bind_some] at e
    cases e2 : mb ρ p.2 with
    | none => rw [e2] at e; cases e
    | some p2 =>
      rw [e2, Option.bind_some] at e
      cases e3 : f p.1 p2.1 with
      | none => rw [e3] at e; cases e
      | some z =>
        rw [e3, Option.bind_some] at e
        refine ha σ H M ρ S p.1 p.2 hs ok e1 _ fun x H1 M1 x1 ok1 r1 => ?_
        refine hb σ H1 M1 ρ p.2 p2.1 p2.2 (hs.mono x1) ok1 e2 _ fun y H2 M2 x2 ok2 r2 => ?_
        refine hf H2 M2 p2.2 x y p.1 p2.1 z ok2 (r1.mono x2) r2 e3 _ fun v H3 M3 x3 ok3 r3 => ?_
        have x := x1.trans (x2.trans x3)
        cases r3 <;> first | (cases e; done) | skip
        rename_i b
        cases b with
        | false => cases e; exact ⟨false, rfl, q _ H3 M3 x ok3 (.bl _)⟩
        | true =>
          refine ⟨true, rfl, ?_⟩
          show tc σ H3 fun w' H4 => r' y w' H4 Q
          simp only at e
          cases e4 : mc ρ p2.2 with
          | none => rw [e4] at e; cases e
          | some u =>
            rw [e4, Option.bind_some] at e
            cases e5 : g p2.1 u.1 with
            | none => rw [e5] at e; cases e
            | some w =>
              rw [e5] at e
              cases e
              refine hc σ H3 M3 ρ p2.2 u.1 u.2 (hs.mono x) ok3 e4 _ fun w' H4 M4 x4 ok4 r4 => ?_
              exact hg H4 M4 u.2 y w' p2.1 u.1 d ok4 (r2.mono (x3.trans x4)) r4 e5 Q (q.ext (x.trans x4))
end
end G
set_option Elab.async false
set_option linter.all false
set_option autoImplicit false
set_option maxRecDepth 100000
set_option maxHeartbeats 4000000
namespace G
open PySem L2
section
variable {K : PySem.W.Frag} {M M' : Adr} {H H' : Hp} {S S' : Sto} {ta tb tc te : TE} {ma mb mc me : ME} {d : D}

/-! ### builtins -/
def mLen (m : MN) : ME := fun ρ S => (m ρ S).map fun p => (.int p.1.length, p.2)
theorem im_len {m : MN} (h : ImQ K te m) : ImE K (tCB (fun xs H Q => ∃ p ys, xs = [.ref p] ∧ (SqL K H p ys ∨ SqT K H p ys) ∧ Q (.int ys.length) H) (tCons te tNil)) (mLen m) := fun σ H M ρ S b S' hs ok e Q q => by
  unfold mLen at e
  cases e1 : m ρ S with
  | none => rw [e1] at e; cases e
  | some p =>
    rw [e1] at e
    cases e
    refine h σ H M ρ S _ _ hs ok e1 _ fun a vs H1 M1 x1 ok1 sq r => ?_
    exact ⟨a, vs, rfl, sq, q _ H1 M1 x1 ok1 (by rw [r.len]; exact .int _)⟩
def bools : List D → Option (List Bool)
  | [] => some []
  | .bool b :: r => (bools r).map (b :: ·)
  | _ :: _ => none
theorem RlA.bools {vs : List V} {ds : List D} {bs : List Bool} (h : RlA K M H vs ds) (e : bools ds = some bs) : vs = bs.map V.bl := by
  induction ds generalizing vs bs with
  | nil => cases h; cases e; rfl
  | cons d ds ih =>
    cases h with
    | cons h1 h2 =>
      cases h1 <;> first | (cases e; done) | skip
      rename_i b
      unfold G.bools at e
      cases e2 : G.bools ds with
      | none => rw [e2] at e; cases e
      | some es => rw [e2] at e; cases e; rw [ih h2 e2]; rfl
def mBools (g : List Bool → Bool) (m : MN) : ME := fun ρ S => (m ρ S).bind fun p => (bools p.1).map fun bs => (.bool (g bs), p.2)
theorem im_bools {g : List Bool → Bool} {m : MN} (h : ImL K te m) : ImE K (tCB (fun vs H Q => ∃ (a : Addr) (bs : List Bool), vs = [V.ref a] ∧ SqL K H a (bs.map V.bl) ∧ Q (.bl (g bs)) H) (tCons te tNil)) (mBools g m) := fun σ H M ρ S b S' hs ok e Q q => by
  unfold mBools at e
  cases e1 : m ρ S with
  | none => rw [e1] at e; cases e
  | some p =>
    rw [e1, Option.bind_some] at e
    cases e2 : bools p.1 with
    | none => rw [e2] at e; cases e
    | some bs =>
      rw [e2] at e
      cases e
      refine h σ H M ρ S _ _ hs ok e1 _ fun a vs H1 M1 x1 ok1 sq r => ?_
      exact ⟨a, bs, rfl, by rw [← r.bools e2]; exact sq, q _ H1 M1 x1 ok1 (.bl _)⟩
def mAll (m : MN) : ME := mBools (fun bs => bs.all id) m
def mAny (m : MN) : ME := mBools (fun bs => bs.any id) m
theorem im_all {m : MN} (h : ImL K te m) : ImE K (tCB (rAll K) (tCons te tNil)) (mAll m) := im_bools h
theorem im_any {m : MN} (h : ImL K te m) : ImE K (tCB (rAny K) (tCons te tNil)) (mAny m) := im_bools h
def intL : List D → Option (List Int)
  | [] => some []
  | .int b :: r => (intL r).map (b :: ·)
  | _ :: _ => none
theorem RlA.intL {vs : List V} {ds : List D} {bs : List Int} (h : RlA K M H vs ds) (e : intL ds = some bs) : vs = bs.map V.int := by
  induction ds generalizing vs bs with
  | nil => cases h; cases e; rfl
  | cons d ds ih =>
    cases h with
    | cons h1 h2 =>
      cases h1 <;> first | (cases e; done) | skip
      rename_i b
      unfold G.intL at e
      cases e2 : G.intL ds with
      | none => rw [e2] at e; cases e
      | some es => rw [e2] at e; cases e; rw [ih h2 e2]; rfl
def mSum (m : MN) : ME := fun ρ S => (m ρ S).bind fun p => (intL p.1).map fun ns => (.int ns.sum, p.2)
theorem im_sum {m : MN} (h : ImL K te m) : ImE K (tCB (rSum K) (tCons te tNil)) (mSum m) := fun σ H M ρ S b S' hs ok e Q q => by
  unfold mSum at e
  cases e1 : m ρ S with
  | none => rw [e1] at e; cases e
  | some p =>
    rw [e1, Option.bind_some] at e
    cases e2 : intL p.1 with
    | none => rw [e2] at e; cases e
    | some bs =>
      rw [e2] at e
      cases e
      refine h σ H M ρ S _ _ hs ok e1 _ fun a vs H1 M1 x1 ok1 sq r => ?_
      exact ⟨a, bs, rfl, by rw [← r.intL e2]; exact sq, q _ H1 M1 x1 ok1 (.int _)⟩
/-- list(x), tuple(x) -/
def mList (m : MN) : MN := m
theorem im_list {m : MN} (h : ImQ K te m) : ImN K (tCB (fun xs H Q => ∃ p ys, xs = [.ref p] ∧ (SqL K H p ys ∨ SqT K H p ys) ∧ ∀ l, H l = none → Q (.ref l) (upd H l (.lst ys))) (tCons te tNil)) (mList m) := fun σ H M ρ S b S' hs ok e Q q => by
  refine h σ H M ρ S _ _ hs ok e _ fun a vs H1 M1 x1 ok1 sq r => ?_
  exact ⟨a, vs, rfl, sq, fun p hp => q p _ _ (M1.gh p) (x1.trans (Ext.ghost hp)) (ok1.ghost hp) (x1.free p hp) upd_same List.mem_cons_self (r.fresh hp)⟩
def mTuple (m : MN) : ME := fun ρ S => (m ρ S).map fun p => (.tuple p.1, p.2)
theorem im_tuple {m : MN} (h : ImQ K te m) : ImE K (tCB (fun xs H Q => ∃ p ys, xs = [.ref p] ∧ ((SqL K H p ys ∧ ∀ l, H l = none → Q (.ref l) (upd H l (.tup ys))) ∨ (SqT K H p ys ∧ Q (.ref p) H))) (tCons te tNil)) (mTuple m) := fun σ H M ρ S b S' hs ok e Q q => by
  unfold mTuple at e
  cases e1 : m ρ S with
  | none => rw [e1] at e; cases e
  | some p =>
    rw [e1] at e
    cases e
    refine h σ H M ρ S _ _ hs ok e1 _ fun a vs H1 M1 x1 ok1 sq r => ?_
    rcases sq with sq | sq
    · exact ⟨a, vs, rfl, .inl ⟨sq, fun p hp => q _ _ M1 (x1.trans (Ext.new hp)) (ok1.new hp) (.tup (.inl (.inl upd_same)) (r.mono (Ext.new hp)))⟩⟩
    · exact ⟨a, vs, rfl, .inr ⟨sq, q _ H1 M1 x1 ok1 (.tup sq r)⟩⟩
/-- of data, by values -/
def mB (f : List D → Option D) (m : MA) : ME := fun ρ S => (mDs m ρ S).bind fun p => (f p.1).map fun z => (z, p.2)
theorem im_b {r : List V → Hp → VK → Prop} {f : List D → Option D} {t : TA} {m : MA} (hr : ImB K r f) (h : ImA K t m) : ImE K (tCB r t) (mB f m) := fun σ H M ρ S b S' hs ok e Q q => by
  unfold mB at e
  cases e1 : mDs m ρ S with
  | none => rw [e1] at e; cases e
  | some p =>
    rw [e1, Option.bind_some] at e
    cases e2 : f p.1 with
    | none => rw [e2] at e; cases e
    | some z =>
      rw [e2] at e
      cases e
      refine mDs_ok h hs ok e1 fun vs H1 M1 x1 ok1 r1 => ?_
      exact hr H1 M1 p.2 vs p.1 b ok1 r1 e2 Q (q.ext x1)
def fAbs : List D → Option D
  | [.int i] => some (.int (if i < 0 then -i else i))
  | _ => none
theorem imb_abs : ImB K (fun xs H Q => ∃ i, xs = [.int i] ∧ Q (.int (if i < 0 then -i else i)) H) fAbs := fun H M S xs ds dz ok r e Q q => by
  unfold fAbs at e
  split at e <;> cases e
  cases r with
  | cons r1 r2 =>
    cases r1
    cases r2
    exact ⟨_, rfl, q.here ok (.int _)⟩
def fInt : List D → Option D
  | [.int i] => some (.int i)
  | [.bool b] => some (.int (if b then 1 else 0))
  | _ => none
theorem imb_int : ImB K (fun xs H Q => (∃ i, xs = [.int i] ∧ Q (.int i) H) ∨ ∃ k, xs = [.bl k] ∧ Q (.int (if k then 1 else 0)) H) fInt := fun H M S xs ds dz ok r e Q q => by
  unfold fInt at e
  split at e <;> cases e
  · cases r with
    | cons r1 r2 =>
      cases r1
      cases r2
      exact .inl ⟨_, rfl, q.here ok (.int _)⟩
  · cases r with
    | cons r1 r2 =>
      cases r1
      cases r2
      exact .inr ⟨_, rfl, q.here ok (.int _)⟩
def fMax2 : List D → Option D
  | [.int i, .int j] => some (.int (if j > i then j else i))
  | _ => none
def fMin2 : List D → Option D
  | [.int i, .int j] => some (.int (if j < i then j else i))
  | _ => none
theorem imb_max2 : ImB K (fun xs H Q => ∃ i j, xs = [.int i, .int j] ∧ Q (.int (if j > i then j else i)) H) fMax2 := fun H M S xs ds dz ok r e Q q => by
  unfold fMax2 at e
  split at e <;> cases e
  cases r with
  | cons r1 r2 =>
    cases r1
    cases r2 with
    | cons r3 r4 =>
      cases r3
      cases r4
      exact ⟨_, _, rfl, q.here ok (.int _)⟩
theorem imb_min2 : ImB K (fun xs H Q => ∃ i j, xs = [.int i, .int j] ∧ Q (.int (if j < i then j else i)) H) fMin2 := fun H M S xs ds dz ok r e Q q => by
  unfold fMin2 at e
  split at e <;> cases e
  cases r with
  | cons r1 r2 =>
    cases r1
    cases r2 with
    | cons r3 r4 =>
      cases r3
      cases r4
      exact ⟨_, _, rfl, q.here ok (.int _)⟩
/-- isinstance(x, T) -/
def tyN (d : D) : Option String := match d with
  | .none => some "NoneType"
  | .bool _ => some "bool"
  | .int _ => some "int"
  | .str _ => some "str"
  | .list _ => some "list"
  | .tuple _ => some "tuple"
  | _ => none
theorem Rl.ty {v : V} {n : String} (r : Rl K M H v d) (e : tyN d = some n) : TyX K H v (.type n) := by
  cases r with
  | non => cases e; exact .base .non
  | bl b => cases e; exact .base (.bl b)
  | int b => cases e; exact .base (.int b)
  | str b => cases e; exact .base (.str b)
  | lst h1 h2 =>
    cases e
    rcases h1 with ⟨h | ⟨o, h⟩, _⟩ | h
    · exact .base (.lst h)
    · exact .base (.frz h)
    · rcases h with (h | ⟨_, h⟩) | ⟨o, its, n, h1, h2, _⟩
      · cases h
      · cases h
      · exact .kList h1 h2
  | tup h1 h2 =>
    cases e
    rcases h1 with (h | ⟨o, h⟩) | ⟨o, its, n, h1, h2, _⟩
    · exact .base (.tup h)
    · exact .fTuple h
    · exact .kTuple h1 h2
def fIsi (n : String) (d : D) : Option D := (tyN d).bind fun t => (kitB t n).map .bool
def mIsi (n : String) (m : ME) : ME := fun ρ S => (m ρ S).bind fun p => (fIsi n p.1).map fun z => (z, p.2)
theorem im_isi {n : String} (h : ImE K te me) : ImE K (tCB (rIsi K) (tCons te (tCons (tC (.ty n)) tNil))) (mIsi n me) := fun σ H M ρ S b S' hs ok e Q q => by
  unfold mIsi fIsi at e
  cases e1 : me ρ S with
  | none => rw [e1] at e; cases e
  | some p =>
    rw [e1, Option.bind_some] at e
    cases e2 : tyN p.1 with
    | none => rw [e2] at e; cases e
    | some t =>
      rw [e2, Option.bind_some] at e
      cases e3 : kitB t n with
      | none => rw [e3] at e; cases e
      | some k =>
        rw [e3] at e
        cases e
        refine h σ H M ρ S p.1 p.2 hs ok e1 _ fun v H1 M1 x1 ok1 r1 => ?_
        exact ⟨v, .ty n, .type t, .type n, k, rfl, .ty n, r1.ty e2, kit_ty e3, q _ H1 M1 x1 ok1 (.bl k)⟩

/-! ### targets -/
def mgN (i : Nat) : MG := fun d ρ => some (ρ.set i (some (.d d)))
theorem img_n (i : Nat) : ImG K (gName i) (mgN i) := fun σ H M ρ ρ' v d hs r e Q q => by
  cases e
  exact q _ (hs.set (s := .d d) r i)
abbrev MGs := List D → Rho → Option Rho
def ImGs (K : PySem.W.Frag) (g : TGs) (m : MGs) : Prop := ∀ (σ : St) (H : Hp) (M : Adr) (ρ ρ' : Rho) (v : List V) (d : List D), RSt K M H σ ρ → RlA K M H v d → m d ρ = some ρ' → ∀ Q : St → Hp → Prop,
  (∀ σ', RSt K M H σ' ρ' → Q σ' H) → g v σ H Q
def mg0 : MGs := fun ds ρ => match ds with
  | [] => some ρ
  | _ => none
def mg1 (g : MG) (gs : MGs) : MGs := fun ds ρ => match ds with
  | [] => none
  | d :: r => (g d ρ).bind fun ρ1 => gs r ρ1
theorem img_0 : ImGs K gNil mg0 := fun σ H M ρ ρ' v d hs r e Q q => by
  cases r <;> cases e
  exact ⟨rfl, q σ hs⟩
theorem img_1 {t : TG} {u : TGs} {g : MG} {gs : MGs} (h1 : ImG K t g) (h2 : ImGs K u gs) : ImGs K (gCons t u) (mg1 g gs) := fun σ H M ρ ρ' v d hs r e Q q => by
  cases r with
  | nil => cases e
  | @cons v vs d ds r1 r2 =>
    unfold mg1 at e
    simp only at e
    cases e1 : g d ρ with
    | none => rw [e1] at e; cases e
    | some ρ1 =>
      rw [e1, Option.bind_some] at e
      exact ⟨v, vs, rfl, h1 σ H M ρ ρ1 v d hs r1 e1 _ fun σ' hs' => h2 σ' H M ρ1 ρ' vs ds hs' r2 e Q q⟩
def mgT (n : Nat) (gs : MGs) : MG := fun d ρ => match d with
  | .tuple xs => if xs.length = n then gs xs ρ else none
  | _ => none
theorem img_t {n : Nat} {t : TGs} {gs : MGs} (h : ImGs K t gs) : ImG K (gTup K n t) (mgT n gs) := fun σ H M ρ ρ' v d hs r e Q q => by
  cases r <;> first | (cases e; done) | skip
  unfold mgT at e
  simp only at e
  split at e <;> first | (cases e; done) | skip
  rename_i h1 h2 hn
  exact ⟨_, _, rfl, h1, by rw [h2.len]; exact hn, h σ H M ρ ρ' _ _ hs h2 e Q q⟩

/-! ### what is walked -/
def ItOk (K : PySem.W.Frag) (J : It) (xs : List D) (M : Adr) (H : Hp) : Prop := ∀ (M1 : Adr) (H1 : Hp) (S1 : Sto), ExtW M H M1 H1 → Ok K M1 S1 H1 → ∀ i : Nat, (xs.length ≤ i → J.stop i H1) ∧ (i < xs.length → J.go i H1) ∧
  ∀ (x : V) (H2 : Hp) (d : D), xs[i]? = some d → J.yld i H1 x H2 → Ext M1 H1 M1 H2 ∧ Ok K M1 S1 H2 ∧ Rl K M1 H2 x d
def ImI (K : PySem.W.Frag) (wi : TI) (m : MN) : Prop := ∀ (σ : St) (H : Hp) (M : Adr) (ρ : Rho) (S : Sto) (xs : List D) (S' : Sto), RSt K M H σ ρ → Ok K M S H → m ρ S = some (xs, S') → ∀ R : It → Hp → Prop,
  (∀ J H' M', Ext M H M' H' → Ok K M' S' H' → ItOk K J xs M' H' → R J H') → wi σ H R
theorem ItOk.mono {J : It} {xs : List D} (h : ItOk K J xs M H) (x : Ext M H M' H') : ItOk K J xs M' H' := fun M1 H1 S1 x1 ok i => h M1 H1 S1 (x.w.trans x1) ok i
theorem pi_or {X : Cx} {tg it : Expr} {w1 w2 : TI} (h1 : PI X tg it w1) (h2 : PI X tg it w2) : PI X tg it (fun σ H R => w1 σ H R ∨ w2 σ H R) :=
  ⟨fun pins s σ H R I h => h.elim (h1.run pins s σ H R I) (h2.run pins s σ H R I)⟩
def iAny (K : PySem.W.Frag) (te : TE) : TI := fun σ H R => iList K te σ H R ∨ iTup K te σ H R
theorem pi_any {X : Cx} {tg it : Expr} (h : PE X it te) : PI X tg it (iAny X.K te) := pi_or (pi_list h) (pi_tup h)
theorem itok_l {a : Addr} {vs : List V} {xs : List D} (hl : LsR K M H a vs) (r : RlA K M H vs xs) : ItOk K (Itl K a) xs M H := fun M1 H1 S1 x ok i =>
  have hl1 := (x.lsr hl).sql
  have r1 := r.monoW x
  ⟨fun h => ⟨vs, hl1, by rw [r1.len]; exact h⟩, fun h => ⟨vs, vs[i]'(by rw [r1.len]; exact h), hl1, List.getElem?_eq_getElem _⟩, fun v H2 d e h => by
    obtain ⟨rfl, h⟩ := h
    obtain ⟨w, e1, r2⟩ := r1.get e
    have := h vs hl1
    rw [e1] at this
    cases this
    exact ⟨.refl, ok, r2⟩⟩
theorem itok_t {a : Addr} {vs : List V} {xs : List D} (hl : SqT K H a vs) (r : RlA K M H vs xs) : ItOk K (Itt K a) xs M H := fun M1 H1 S1 x ok i =>
  have hl1 := x.sqt hl
  have r1 := r.monoW x
  ⟨fun h => ⟨vs, hl1, by rw [r1.len]; exact h⟩, fun h => ⟨vs, vs[i]'(by rw [r1.len]; exact h), hl1, List.getElem?_eq_getElem _⟩, fun v H2 d e h => by
    obtain ⟨rfl, h⟩ := h
    obtain ⟨w, e1, r2⟩ := r1.get e
    have := h vs hl1
    rw [e1] at this
    cases this
    exact ⟨.refl, ok, r2⟩⟩
theorem im_i (h : ImE K te me) : ImI K (iAny K te) (mQE me) := fun σ H M ρ S xs S' hs ok e R q => by
  unfold mQE at e
  cases e1 : me ρ S with
  | none => rw [e1] at e; cases e
  | some p =>
    rw [e1, Option.bind_some] at e
    obtain ⟨d, S1⟩ := p
    cases d with
    | list ys =>
      cases e
      refine .inl (h σ H M ρ S _ _ hs ok e1 _ fun v H1 M1 x1 ok1 r1 => ?_)
      cases r1 with
      | lst h1 h2 => exact ⟨_, rfl, ⟨_, h1.sql⟩, q _ H1 M1 x1 ok1 (itok_l h1 h2)⟩
    | tuple ys =>
      cases e
      refine .inr (h σ H M ρ S _ _ hs ok e1 _ fun v H1 M1 x1 ok1 r1 => ?_)
      cases r1 with
      | tup h1 h2 => exact ⟨_, rfl, ⟨_, h1⟩, q _ H1 M1 x1 ok1 (itok_t h1 h2)⟩
    | _ => cases e
def rng (lo : Int) (n : Nat) : List D := (List.range n).map fun i => .int (lo + (i : Nat))
theorem rng_get {lo : Int} {n i : Nat} {d : D} (h : (rng lo n)[i]? = some d) : i < n ∧ d = .int (lo + i) := by
  unfold rng at h
  rw [List.getElem?_map] at h
  by_cases hi : i < n
  · rw [List.getElem?_range hi] at h
    cases h
    exact ⟨hi, rfl⟩
  · rw [List.getElem?_eq_none (by rw [List.length_range]; omega)] at h
    cases h
theorem rng_len {lo : Int} {n : Nat} : (rng lo n).length = n := by unfold rng; rw [List.length_map, List.length_range]
theorem itok_r {lo : Int} {n : Nat} : ItOk K (Itr lo n) (rng lo n) M H := fun M1 H1 S1 x ok i =>
  ⟨fun h => by rw [rng_len] at h; exact h, fun h => by rw [rng_len] at h; exact h, fun v H2 d e h => by
    obtain ⟨rfl, rfl⟩ := h
    obtain ⟨_, rfl⟩ := rng_get e
    exact ⟨.refl, ok, .int _⟩⟩
def bRng (i : Int) : Bool := decide (-1000000000000 ≤ i ∧ i ≤ 1000000000000)
def mR1 (m : ME) : MN := fun ρ S => (m ρ S).bind fun p => match p.1 with
  | .int j => if bRng j then some (rng 0 j.toNat, p.2) else none
  | _ => none
theorem im_r1 (h : ImE K te me) : ImI K (iRng1 (tCons te tNil)) (mR1 me) := fun σ H M ρ S xs S' hs ok e R q => by
  unfold mR1 at e
  cases e1 : me ρ S with
  | none => rw [e1] at e; cases e
  | some p =>
    rw [e1, Option.bind_some] at e
    obtain ⟨d, S1⟩ := p
    cases d <;> first | (cases e; done) | skip
    simp only at e
    split at e <;> cases e
    rename_i j hb
    have hb : -1000000000000 ≤ j ∧ j ≤ 1000000000000 := of_decide_eq_true hb
    refine h σ H M ρ S _ _ hs ok e1 _ fun v H1 M1 x1 ok1 r1 => ?_
    cases r1
    exact ⟨j, rfl, by omega, by omega, q _ H1 M1 x1 ok1 itok_r⟩
def mR2 (m1 m2 : ME) : MN := fun ρ S => (m1 ρ S).bind fun p => (m2 ρ p.2).bind fun p2 => match p.1, p2.1 with
  | .int i, .int j => if bRng i && bRng j then some (rng i (j - i).toNat, p2.2) else none
  | _, _ => none
theorem im_r2 (ha : ImE K ta ma) (hb : ImE K tb mb) : ImI K (iRng2 (tCons ta (tCons tb tNil))) (mR2 ma mb) := fun σ H M ρ S xs S' hs ok e R q => by
  unfold mR2 at e
  cases e1 : ma ρ S with
  | none => rw [e1] at e; cases e
  | some p =>
    rw [e1, Option.bind_some] at e
    cases e2 : mb ρ p.2 with
    | none => rw [e2] at e; cases e
    | some p2 =>
      rw [e2, Option.bind_some] at e
      split at e <;> first | (cases e; done) | skip
      rename_i i j q1 q2
      split at e <;> cases e
      rename_i hb'
      rw [Bool.and_eq_true] at hb'
      have hi : -1000000000000 ≤ i ∧ i ≤ 1000000000000 := of_decide_eq_true hb'.1
      have hj : -1000000000000 ≤ j ∧ j ≤ 1000000000000 := of_decide_eq_true hb'.2
      refine ha σ H M ρ S p.1 p.2 hs ok e1 _ fun x H1 M1 x1 ok1 r1 => ?_
      refine hb σ H1 M1 ρ p.2 p2.1 p2.2 (hs.mono x1) ok1 e2 _ fun y H2 M2 x2 ok2 r2 => ?_
      rw [q1] at r1
      rw [q2] at r2
      cases r1
      cases r2
      exact ⟨i, j, rfl, ⟨by omega, by omega, by omega, by omega⟩, q _ H2 M2 (x1.trans x2) ok2 itok_r⟩

/-! ### list comprehensions -/
def wipeR (ρ : Rho) : List Nat → Rho
  | [] => ρ
  | v :: vs => (wipeR ρ vs).set v none
theorem RSt.wipe {σ : St} {ρ : Rho} (h : RSt K M H σ ρ) : ∀ vs : List Nat, RSt K M H (L2.wipe σ vs) (wipeR ρ vs)
  | [] => h
  | v :: vs => by
    have ih := RSt.wipe h vs
    unfold L2.wipe wipeR
    refine ⟨by rw [List.length_set, List.length_set]; exact ih.len, fun i s e => ?_⟩
    by_cases hi : v = i
    · subst hi
      by_cases hv : v < (wipeR ρ vs).length
      · rw [List.getElem?_set_self hv] at e; cases e
      · rw [List.getElem?_eq_none (by rw [List.length_set]; omega)] at e; cases e
    · rw [List.getElem?_set_ne hi] at e ⊢
      exact ih.at_ i s e
/-- a target that writes the block's own names alone -/
def GOwn (g : TG) (vs : List Nat) : Prop := ∀ (σ τ : St) (v : V) (H : Hp) (Q : St → Hp → Prop), L2.wipe τ vs = L2.wipe σ vs → g v τ H Q → g v τ H fun σ' H' => L2.wipe σ' vs = L2.wipe σ vs ∧ Q σ' H'
theorem wipe_set {i : Nat} {x : Option V} : ∀ {vs : List Nat} {τ : St}, i ∈ vs → L2.wipe (τ.set i x) vs = L2.wipe τ vs
  | v :: vs, τ, h => by
    unfold L2.wipe
    by_cases hi : i ∈ vs
    · rw [wipe_set hi]
    · have e : v = i := (List.mem_cons.mp h).elim (fun e => e.symm) fun z => absurd z hi
      subst e
      have key : ∀ ws : List Nat, v ∉ ws → ∀ τ : St, L2.wipe (τ.set v x) ws = (L2.wipe τ ws).set v x := fun ws => by
        induction ws with
        | nil => intro _ τ; rfl
        | cons w ws ih =>
          intro hw τ
          rw [List.mem_cons, not_or] at hw
          unfold L2.wipe
          rw [ih hw.2, List.set_comm _ _ hw.1]
      rw [key vs hi, List.set_set]
theorem wipe_wipe (σ : St) : ∀ {vs ws : List Nat}, (∀ i ∈ vs, i ∈ ws) → L2.wipe (L2.wipe σ vs) ws = L2.wipe σ ws
  | [], ws, _ => rfl
  | v :: vs, ws, h => by
    show L2.wipe ((L2.wipe σ vs).set v none) ws = _
    rw [wipe_set (h v List.mem_cons_self), wipe_wipe σ fun i hi => h i (List.mem_cons_of_mem _ hi)]
theorem gown_n {i : Nat} {vs : List Nat} (h : i ∈ vs) : GOwn (gName i) vs := fun σ τ v H Q e q => ⟨by rw [wipe_set h]; exact e, q⟩
def GsOwn (g : TGs) (vs : List Nat) : Prop := ∀ (σ τ : St) (v : List V) (H : Hp) (Q : St → Hp → Prop), L2.wipe τ vs = L2.wipe σ vs → g v τ H Q → g v τ H fun σ' H' => L2.wipe σ' vs = L2.wipe σ vs ∧ Q σ' H'
theorem gown_0 {vs : List Nat} : GsOwn gNil vs := fun σ τ v H Q e q => ⟨q.1, e, q.2⟩
theorem gown_t {K : PySem.W.Frag} {n : Nat} {t : TGs} {vs : List Nat} (h : GsOwn t vs) : GOwn (gTup K n t) vs := fun σ τ v H Q e q => by
  obtain ⟨a, xs, e1, e2, e3, q⟩ := q
  exact ⟨a, xs, e1, e2, e3, h σ τ xs H Q e q⟩
theorem gown_1 {i : Nat} {u : TGs} {vs : List Nat} (h1 : i ∈ vs) (h2 : GsOwn u vs) : GsOwn (gCons (gName i) u) vs := fun σ τ v H Q e q => by
  obtain ⟨x, r, e1, q⟩ := q
  exact ⟨x, r, e1, h2 σ _ r H Q (by rw [wipe_set h1]; exact e) q⟩
def lcRun (mg : MG) (mt : MT) (me : ME) : List D → Rho → Sto → Option (List D × Sto)
  | [], _, S => some ([], S)
  | x :: xs, ρ, S => (mg x ρ).bind fun ρ1 => (mt ρ1 S).bind fun p => if p.1 then (me ρ1 p.2).bind fun q => (lcRun mg mt me xs ρ q.2).map fun r => (q.1 :: r.1, r.2) else lcRun mg mt me xs ρ p.2
def mLc (mi : MN) (mg : MG) (mt : MT) (me : ME) (vs : List Nat) : MN := fun ρ S => (mi ρ S).bind fun p => if p.1.length ≤ 1000000 then lcRun mg mt me p.1 (wipeR ρ vs) p.2 else none
def mYes : MT := fun _ S => some (true, S)
theorem im_yes : ImT K tYes mYes := fun σ H M ρ S b S' hs ok e Q q => by cases e; exact q H M .refl ok
theorem im_lc {wi : TI} {g : TG} {tt : TT} {mi : MN} {mg : MG} {mt : MT} {vs : List Nat} (hi : ImI K wi mi) (hg : ImG K g mg) (ho : GOwn g vs) (ht : ImT K tt mt) (he : ImE K te me) : ImN K (tLc wi g tt te vs) (mLc mi mg mt me vs) := fun σ H M ρ S ys S' hs ok e Q q => by
  unfold mLc at e
  cases e1 : mi ρ S with
  | none => rw [e1] at e; cases e
  | some p =>
    rw [e1, Option.bind_some] at e
    split at e <;> first | (cases e; done) | skip
    rename_i hz
    obtain ⟨xs, S1⟩ := p
    simp only at e hz
    refine hi σ H M ρ S xs S1 hs ok e1 _ fun J H1 M1 x1 ok1 it => ?_
    intro Dl hD
    have hs1 := (hs.mono x1).wipe vs
    refine ⟨fun i m Hi => m = xs.length - i ∧ i ≤ xs.length ∧ ∃ (Mi : Adr) (Si : Sto) (acc : List D) (av : List V) (zs : List D), Ext M1 H1 Mi Hi ∧ Dl ∈ Mi.g ∧ some Dl ∉ Mi.c ∧ Ok K Mi Si Hi ∧ RSt K Mi Hi (L2.wipe σ vs) (wipeR ρ vs) ∧ Hi Dl = some (.lst av) ∧ RlA K Mi Hi av acc ∧
      acc.length ≤ i ∧ lcRun mg mt me (xs.drop i) (wipeR ρ vs) Si = some (zs, S') ∧ acc ++ zs = ys,
      ⟨xs.length, by omega, Nat.zero_le _, M1.gh Dl, S1, [], [], ys, Ext.ghost hD, List.mem_cons_self, fun z => ok1.notin hD (.inl z), ok1.ghost hD, hs1.fresh hD, upd_same, .nil, Nat.zero_le _, e, rfl⟩, ?_⟩
    rintro i m Hi ⟨rfl, hle, Mi, Si, acc, av, zs, xi, hg1, hc1, oki, hsi, hd, ra, hacc, er, hy⟩
    have J1 := it Mi Hi Si xi.w oki i
    by_cases hlt : i < xs.length
    · refine .inr ⟨J1.2.1 hlt, fun Hn => ∃ (Mi : Adr) (Si : Sto) (acc : List D) (av : List V) (zs : List D), Ext M1 H1 Mi Hn ∧ Dl ∈ Mi.g ∧ some Dl ∉ Mi.c ∧ Ok K Mi Si Hn ∧ RSt K Mi Hn (L2.wipe σ vs) (wipeR ρ vs) ∧ Hn Dl = some (.lst av) ∧ RlA K Mi Hn av acc ∧
        acc.length ≤ i + 1 ∧ lcRun mg mt me (xs.drop (i + 1)) (wipeR ρ vs) Si = some (zs, S') ∧ acc ++ zs = ys, fun Hn hN => ⟨xs.length - (i + 1), by omega, rfl, by omega, hN⟩, fun x H2 hx => ?_⟩
      have ed : xs.drop i = xs[i] :: xs.drop (i + 1) := List.drop_eq_getElem_cons hlt
      rw [ed] at er
      unfold lcRun at er
      obtain ⟨x2, ok2, r2⟩ := J1.2.2 x H2 xs[i] (List.getElem?_eq_getElem hlt) hx
      cases e2 : mg xs[i] (wipeR ρ vs) with
      | none => rw [e2] at er; cases er
      | some ρ1 =>
        rw [e2, Option.bind_some] at er
        have hs2 := hsi.mono x2
        refine ho σ _ _ _ _ (wipe_wipe σ fun _ z => z) (hg _ H2 Mi (wipeR ρ vs) ρ1 x xs[i] hs2 r2 e2 _ fun σ' hs' => ?_)
        cases e3 : mt ρ1 Si with
        | none => rw [e3] at er; cases er
        | some p =>
          rw [e3, Option.bind_some] at er
          obtain ⟨b, S3⟩ := p
          refine ht σ' H2 Mi ρ1 Si b S3 hs' ok2 e3 _ fun H3 M3 x3 ok3 => ?_
          have hD3 : H3 Dl = some (.lst av) := x3.keep Dl _ (x2.keep Dl _ hd (.inl hc1)) (.inl hc1)
          have hc3 : some Dl ∉ M3.c := fun z => (x3.sub Dl z).elim hc1 fun z => by rw [x2.keep Dl _ hd (.inl hc1)] at z; cases z
          have hg3 : Dl ∈ M3.g := x3.gk Dl hg1
          have x23 := x2.trans x3
          cases b with
          | false =>
            rw [if_neg (show ¬ (false = true) from Bool.false_ne_true)]
            rw [if_neg (show ¬ (false = true) from Bool.false_ne_true)] at er
            exact ⟨M3, S3, acc, av, zs, xi.trans x23, hg3, hc3, ok3, hsi.mono x23, hD3, ra.mono x23, by omega, er, hy⟩
          | true =>
            rw [if_pos rfl]
            rw [if_pos rfl] at er
            cases e4 : me ρ1 S3 with
            | none => rw [e4] at er; cases er
            | some p4 =>
              rw [e4, Option.bind_some] at er
              cases e5 : lcRun mg mt me (xs.drop (i + 1)) (wipeR ρ vs) p4.2 with
              | none => rw [e5] at er; cases er
              | some p5 =>
                rw [e5] at er
                cases er
                refine he σ' H3 M3 ρ1 S3 p4.1 p4.2 (hs'.mono x3) ok3 e4 _ fun v H4 M4 x4 ok4 r4 => ?_
                have hD4 : H4 Dl = some (.lst av) := x4.keep Dl _ hD3 (.inl hc3)
                have hc4 : some Dl ∉ M4.c := fun z => (x4.sub Dl z).elim hc3 fun z => by rw [hD3] at z; cases z
                have hg4 : Dl ∈ M4.g := x4.gk Dl hg3
                have x24 := x23.trans x4
                have ra4 := ra.mono x24
                have xg : Ext M1 H1 M4 (upd H4 Dl (.lst (av ++ [v]))) := by
                  have y := (xi.trans x24)
                  exact ⟨y.subn, y.gs, y.gk, y.pos, y.dead, fun a o h c => by
                    rw [upd_ne (ne_of_none h hD)]; exact y.keep a o h c, fun a h => y.free a (by
                    by_cases ea : a = Dl
                    · subst ea; rw [upd_same] at h; cases h
                    · rw [upd_ne ea] at h; exact h)⟩
                refine ⟨av, hD4, Nat.lt_of_lt_of_le (show av.length < 1000001 by rw [ra.len]; omega) (by decide), M4, p4.2, acc ++ [p4.1], av ++ [v], p5.1, xg, hg4, hc4, ok4.grow (.inr hg4) hD4 hc4, (hsi.mono x24).grow (.inr hg4) hD4, upd_same,
                  (ra4.append (.one r4)).grow (.inr hg4) hD4, by rw [List.length_append, List.length_singleton]; omega, e5, by rw [List.append_assoc]; exact hy⟩
    · refine .inl ⟨J1.1 (by omega), ?_⟩
      have e0 : xs.drop i = [] := List.drop_eq_nil_of_le (by omega)
      rw [e0] at er
      cases er
      rw [List.append_nil] at hy
      subst hy
      have xf := x1.trans xi
      exact q Dl av Hi Mi xf oki (x1.free Dl hD) hd hg1 ra
end
end G
set_option Elab.async false
set_option linter.all false
set_option autoImplicit false
set_option maxRecDepth 100000
set_option maxHeartbeats 4000000
namespace G
open PySem L2
section
variable {T : ET} {W : WX} {K : PySem.W.Frag} {M M' : Adr} {H H' : Hp} {S S' : Sto} {ta tb tc te : TE} {ma mb mc me : ME} {d : D} {b : Nat}

def Adr.tk (b : Nat) (M : Adr) : Adr := ⟨M.c.take b, M.g⟩
theorem Adr.tkmem {a : Addr} (h : (M.tk b).mem a) : M.mem a := h.elim (fun z => .inl (List.mem_of_mem_take z)) .inr
/-- an error's own dict at dd -/
def XdR (K : PySem.W.Frag) (M : Adr) (H : Hp) (dd : Addr) (fl : List Str) (x : List D) : Prop := ∃ vs, H dd = some (.xd vs) ∧ ∀ (i : Nat) (f : Str), fl[i]? = some f → ∃ v d, vs.lookup f = some v ∧ x[i]? = some d ∧ Rl K M H v d
theorem XdR.mono {dd : Addr} {fl : List Str} {x : List D} (y : Ext M H M' H') (h : XdR K M H dd fl x) : XdR K M' H' dd fl x := by
  obtain ⟨vs, h1, h2⟩ := h
  refine ⟨vs, y.keep dd _ h1 (.inr fun _ z => by cases z), fun i f e => ?_⟩
  obtain ⟨v, d, a, b, r⟩ := h2 i f e
  exact ⟨v, d, a, b, r.mono y⟩
theorem XdR.anti (hs : ∀ a, M'.mem a → M.mem a) {dd : Addr} {fl : List Str} {x : List D} (h : XdR K M H dd fl x) : XdR K M' H dd fl x := by
  obtain ⟨vs, h1, h2⟩ := h
  refine ⟨vs, h1, fun i f e => ?_⟩
  obtain ⟨v, d, a, b, r⟩ := h2 i f e
  exact ⟨v, d, a, b, r.anti hs⟩
/-- what a def hands back: data, or a list that is new -/
def PostR (K : PySem.W.Frag) (b : Nat) (H0 : Hp) (M' : Adr) (H' : Hp) (v : V) : Rt → Prop
  | .val d => Rl K (M'.tk b) H' v d
  | .new ds => ∃ a vs, v = .ref a ∧ H0 a = none ∧ H' a = some (.lst vs) ∧ M'.mem a ∧ some a ∉ M'.c.take b ∧ RlA K M' H' vs ds
  | .exc _ _ => False
/-- an end by return, or by an error -/
def PostE (K : PySem.W.Frag) (T : ET) (W : WX) (b : Nat) (H0 : Hp) (M : Adr) (H : Hp) (D : Ends) (r : Rt) (ρ' : Rho) (S' : Sto) : Prop := match r with
  | .exc c x => ∀ σ' dd H' M', Ext M H M' H' → Ok K M' S' H' → RSt K M' H' σ' ρ' → XdR K M' H' dd (T.flds c) x → W (.ref (T.cls c)) (some dd) σ' H'
  | r => ∀ v H' M', Ext M H M' H' → Ok K M' S' H' → PostR K b H0 M' H' v r → D.rt v H'
theorem PostE.ext {T : ET} {W : WX} {b : Nat} {H0 : Hp} {D : Ends} {r : Rt} {ρ' : Rho} {S' : Sto} (q : PostE K T W b H0 M H D r ρ' S') (x : Ext M H M' H') : PostE K T W b H0 M' H' D r ρ' S' := by
  cases r with
  | val d => exact fun v H2 M2 y ok r => q v H2 M2 (x.trans y) ok r
  | new d => exact fun v H2 M2 y ok r => q v H2 M2 (x.trans y) ok r
  | exc c z => exact fun σ' dd H2 M2 y ok hs r => q σ' dd H2 M2 (x.trans y) ok hs r
theorem PostE.imp {T : ET} {W : WX} {b : Nat} {H0 : Hp} {D D' : Ends} {r : Rt} {ρ' : Rho} {S' : Sto} (q : PostE K T W b H0 M H D r ρ' S') (e : D'.rt = D.rt) : PostE K T W b H0 M H D' r ρ' S' := by
  cases r with
  | val d => unfold PostE at *; rw [e]; exact q
  | new d => unfold PostE at *; rw [e]; exact q
  | exc c z => exact q
def PostC (K : PySem.W.Frag) (T : ET) (W : WX) (b : Nat) (H0 : Hp) (M : Adr) (H : Hp) (D : Ends) (o : Out) (ρ' : Rho) (S' : Sto) : Prop :=
  match o with
  | .nx => ∀ σ' H' M', Ext M H M' H' → Ok K M' S' H' → RSt K M' H' σ' ρ' → D.nx σ' H'
  | .bk => ∀ σ' H' M', Ext M H M' H' → Ok K M' S' H' → RSt K M' H' σ' ρ' → D.bk σ' H'
  | .ct => ∀ σ' H' M', Ext M H M' H' → Ok K M' S' H' → RSt K M' H' σ' ρ' → D.ct σ' H'
  | .rt r => PostE K T W b H0 M H D r ρ' S'
def ImC (K : PySem.W.Frag) (T : ET) (W : WX) (b : Nat) (t : TS) (m : MS) : Prop := ∀ (M0 : Adr) (H0 : Hp) (σ : St) (H : Hp) (M : Adr) (ρ : Rho) (S : Sto) (o : Out) (ρ' : Rho) (S' : Sto), M0.c.length = b → (∀ a, M0.mem a → ∃ vs, H0 a = some (.lst vs)) → Ext M0 H0 M H → RSt K M H σ ρ → Ok K M S H → m ρ S = some (o, ρ', S') →
  ∀ D : Ends, PostC K T W b H0 M H D o ρ' S' → t D σ H
theorem PostC.ext {H0 : Hp} {D : Ends} {o : Out} {ρ' : Rho} (q : PostC K T W b H0 M H D o ρ' S') (x : Ext M H M' H') : PostC K T W b H0 M' H' D o ρ' S' := by
  cases o with
  | nx => exact fun σ' H2 M2 y ok r => q σ' H2 M2 (x.trans y) ok r
  | bk => exact fun σ' H2 M2 y ok r => q σ' H2 M2 (x.trans y) ok r
  | ct => exact fun σ' H2 M2 y ok r => q σ' H2 M2 (x.trans y) ok r
  | rt r => exact PostE.ext q x
def mNext : MS := fun ρ S => some (.nx, ρ, S)
theorem imc_next : ImC K T W b tNext mNext := fun M0 H0 σ H M ρ S o ρ' S' hb hl x0 hs ok e D q => by
  cases e
  exact q σ H M .refl ok hs
def mBrk : MS := fun ρ S => some (.bk, ρ, S)
def mCont : MS := fun ρ S => some (.ct, ρ, S)
theorem imc_brk : ImC K T W b tBreak mBrk := fun M0 H0 σ H M ρ S o ρ' S' hb hl x0 hs ok e D q => by
  cases e
  exact q σ H M .refl ok hs
theorem imc_cont : ImC K T W b tCont mCont := fun M0 H0 σ H M ρ S o ρ' S' hb hl x0 hs ok e D q => by
  cases e
  exact q σ H M .refl ok hs
def mNever : MS := fun _ _ => none
theorem imc_never : ImC K T W b tNever mNever := fun M0 H0 σ H M ρ S o ρ' S' hb hl x0 hs ok e D q => by cases e
def mSeq (m1 m2 : MS) : MS := fun ρ S => (m1 ρ S).bind fun p => match p.1 with
  | .nx => m2 p.2.1 p.2.2
  | o => some (o, p.2)
theorem imc_seq {t u : TS} {m1 m2 : MS} (h1 : ImC K T W b t m1) (h2 : ImC K T W b u m2) : ImC K T W b (tSeq t u) (mSeq m1 m2) := fun M0 H0 σ H M ρ S o ρ' S' hb hl x0 hs ok e D q => by
  unfold mSeq at e
  cases e1 : m1 ρ S with
  | none => rw [e1] at e; cases e
  | some p =>
    rw [e1, Option.bind_some] at e
    obtain ⟨o1, ρ1, S1⟩ := p
    refine h1 M0 H0 σ H M ρ S o1 ρ1 S1 hb hl x0 hs ok e1 { D with nx := u D } ?_
    cases o1 with
    | nx => exact fun σ' H1 M1 x1 ok1 hs1 => h2 M0 H0 σ' H1 M1 ρ1 S1 o ρ' S' hb hl (x0.trans x1) hs1 ok1 e D (q.ext x1)
    | bk => cases e; exact q
    | ct => cases e; exact q
    | rt r => cases e; exact q.imp rfl
def mDrop (m : ME) : MS := fun ρ S => (m ρ S).map fun p => (.nx, ρ, p.2)
theorem imc_drop (h : ImE K te me) : ImC K T W b (tDrop te) (mDrop me) := fun M0 H0 σ H M ρ S o ρ' S' hb hl x0 hs ok e D q => by
  unfold mDrop at e
  cases e1 : me ρ S with
  | none => rw [e1] at e; cases e
  | some p =>
    rw [e1] at e
    cases e
    exact h σ H M ρ S p.1 p.2 hs ok e1 _ fun v H1 M1 x1 ok1 r1 => q σ H1 M1 x1 ok1 (hs.mono x1)
def mRet (m : ME) : MS := fun ρ S => (m ρ S).map fun p => (.rt (.val p.1), ρ, p.2)
theorem imc_ret (h : ImE K te me) : ImC K T W b (tRet te) (mRet me) := fun M0 H0 σ H M ρ S o ρ' S' hb hl x0 hs ok e D q => by
  unfold mRet at e
  cases e1 : me ρ S with
  | none => rw [e1] at e; cases e
  | some p =>
    rw [e1] at e
    cases e
    exact h σ H M ρ S p.1 p.2 hs ok e1 _ fun v H1 M1 x1 ok1 r1 => q v H1 M1 x1 ok1 (r1.anti fun _ => Adr.tkmem)
def mRetL (m : MN) : MS := fun ρ S => (m ρ S).map fun p => (.rt (.new p.1), ρ, p.2)
theorem imc_retL {m : MN} (h : ImN K te m) : ImC K T W b (tRet te) (mRetL m) := fun M0 H0 σ H M ρ S o ρ' S' hb hl x0 hs ok e D q => by
  unfold mRetL at e
  cases e1 : m ρ S with
  | none => rw [e1] at e; cases e
  | some p =>
    rw [e1] at e
    cases e
    exact h σ H M ρ S p.1 p.2 hs ok e1 _ fun a vs H1 M1 x1 ok1 n0 n1 n2 r1 => q _ H1 M1 x1 ok1 ⟨a, vs, rfl, x0.free a n0, n1, .inr n2, fun z => ok1.dj a (List.mem_of_mem_take z) n2, r1⟩
def mRetN : MS := fun ρ S => some (.rt (.val .none), ρ, S)
theorem imc_retN : ImC K T W b tRetN mRetN := fun M0 H0 σ H M ρ S o ρ' S' hb hl x0 hs ok e D q => by
  cases e
  exact q _ H M .refl ok .non
/-- return x: a list of this def's own -/
def mRetV (b i : Nat) : MS := fun ρ S => match ρ[i]? with
  | some (some (.d x)) => some (.rt (.val x), ρ, S)
  | some (some (.loc n)) => if b ≤ n then (S[n]?.join).map fun xs => (.rt (.new xs), ρ, S) else none
  | _ => none
theorem imc_retV {i : Nat} : ImC K T W b (tRet (tVar i)) (mRetV b i) := fun M0 H0 σ H M ρ S o ρ' S' hb hl x0 hs ok e D q => by
  unfold mRetV at e
  split at e <;> first | (cases e; done) | skip
  · rename_i x e1
    cases e
    obtain ⟨v, e2, r⟩ := hs.at_ i _ e1
    exact ⟨v, e2, q v H M .refl ok (Rl.anti (fun _ => Adr.tkmem) r)⟩
  · rename_i n e1
    split at e <;> first | (cases e; done) | skip
    rename_i hn
    cases e2 : S[n]? with
    | none => rw [e2] at e; cases e
    | some c =>
      cases c with
      | none => rw [e2] at e; cases e
      | some xs =>
        rw [e2] at e
        cases e
        obtain ⟨v, e3, a, rfl, r⟩ := hs.at_ i _ e1
        obtain ⟨a', vs, m1, m2, m3⟩ := ok.cell n _ e2
        have ea : a = a' := by rcases r with r | r <;> (rw [r] at m1; cases m1); rfl
        subst ea
        have nb : ¬ some a ∈ M.c.take b := fun z => by
          obtain ⟨j, hj, ej⟩ := List.mem_take_iff_getElem.mp z
          have e4 : M.c[j]? = some (some a) := by rw [List.getElem?_eq_getElem (by omega), ej]
          have := ok.inj j n a e4 m1
          omega
        have h0 : H0 a = none := by
          rcases x0.subn n a m1 with z | z
          · have := (List.getElem?_eq_some_iff.mp z).1
            omega
          · exact z.2
        exact ⟨_, e3, q _ H M .refl ok ⟨a, vs, rfl, h0, m2, .inl (List.mem_of_getElem? m1), nb, m3⟩⟩
end
end G
set_option Elab.async false
set_option linter.all false
set_option autoImplicit false
set_option maxRecDepth 100000
set_option maxHeartbeats 4000000
namespace G
open PySem L2
section
variable {T : ET} {W : WX} {K : PySem.W.Frag} {M M' : Adr} {H H' : Hp} {S S' : Sto} {ta tb tc te : TE} {ma mb mc me : ME} {d : D} {b : Nat}
def mIfS (c : MT) (m1 m2 : MS) : MS := fun ρ S => (c ρ S).bind fun p => if p.1 then m1 ρ p.2 else m2 ρ p.2
theorem imc_if {t : TT} {c : MT} {t1 t2 : TS} {m1 m2 : MS} (h : ImT K t c) (h1 : ImC K T W b t1 m1) (h2 : ImC K T W b t2 m2) : ImC K T W b (tIfS t t1 t2) (mIfS c m1 m2) := fun M0 H0 σ H M ρ S o ρ' S' hb hl x0 hs ok e D q => by
  unfold mIfS at e
  cases e1 : c ρ S with
  | none => rw [e1] at e; cases e
  | some p =>
    rw [e1, Option.bind_some] at e
    obtain ⟨y, S1⟩ := p
    refine h σ H M ρ S _ _ hs ok e1 _ fun H1 M1 x1 ok1 => ?_
    cases y with
    | true => exact h1 M0 H0 σ H1 M1 ρ S1 o ρ' S' hb hl (x0.trans x1) (hs.mono x1) ok1 e D (q.ext x1)
    | false => exact h2 M0 H0 σ H1 M1 ρ S1 o ρ' S' hb hl (x0.trans x1) (hs.mono x1) ok1 e D (q.ext x1)
def mAsg (m : ME) (g : MG) : MS := fun ρ S => (m ρ S).bind fun p => (g p.1 ρ).map fun ρ1 => (.nx, ρ1, p.2)
theorem imc_asg {t : TG} {g : MG} (h : ImE K te me) (hg : ImG K t g) : ImC K T W b (tAsg te t) (mAsg me g) := fun M0 H0 σ H M ρ S o ρ' S' hb hl x0 hs ok e D q => by
  unfold mAsg at e
  cases e1 : me ρ S with
  | none => rw [e1] at e; cases e
  | some p =>
    rw [e1, Option.bind_some] at e
    cases e2 : g p.1 ρ with
    | none => rw [e2] at e; cases e
    | some ρ1 =>
      rw [e2] at e
      cases e
      refine h σ H M ρ S p.1 p.2 hs ok e1 _ fun v H1 M1 x1 ok1 r1 => ?_
      exact hg σ H1 M1 ρ ρ' v p.1 (hs.mono x1) r1 e2 _ fun σ' hs' => q σ' H1 M1 x1 ok1 hs'
/-- x = a new list that is to change -/
def mNew (i : Nat) (m : MN) : MS := fun ρ S => (m ρ S).map fun p => (.nx, ρ.set i (some (.loc p.2.length)), p.2 ++ [some p.1])
theorem imc_new {i : Nat} {m : MN} (h : ImN K te m) : ImC K T W b (tAsg te (gName i)) (mNew i m) := fun M0 H0 σ H M ρ S o ρ' S' hb hl x0 hs ok e D q => by
  unfold mNew at e
  cases e1 : m ρ S with
  | none => rw [e1] at e; cases e
  | some p =>
    rw [e1] at e
    cases e
    refine h σ H M ρ S p.1 p.2 hs ok e1 _ fun a vs H1 M1 x1 ok1 n0 n1 n2 r1 => ?_
    -- the list in the making becomes a cell
    have xu := x1.ungh
    have xa : Ext M H ((M1.ug M).add a) H1 := xu.add n0
    have nm : ∀ c, ((M1.ug M).add a).mem c → M1.mem c := fun c z => by
      rcases z with z | z
      · rcases List.mem_append.mp z with z | z
        · exact .inl z
        · have e : c = a := by simpa using z
          rw [e]; exact .inr n2
      · exact .inr (x1.gk c z)
    have na : ¬ (M1.ug M).mem a := fun z => z.elim (fun z => ok1.dj a z n2) fun z => ok.notin n0 (.inr z)
    have oku := ok1.ug (M := M) x1.gk
    have ok2 : Ok K ((M1.ug M).add a) (p.2 ++ [some p.1]) H1 := by
      refine oku.add n1 na (fun v d _ => .inr trivial) (r1.anti fun c z => ?_) fun n ys e => ?_
      · exact x1.ughmem n2 z
      · obtain ⟨c, us, c1, c2, c3⟩ := ok1.cell n ys e
        exact ⟨c, us, c1, c2, c3.anti fun c z => x1.ughmem n2 z⟩
    refine q _ H1 _ xa ok2 ((hs.mono xa).set (s := .loc p.2.length) ⟨a, rfl, .inl ?_⟩ i)
    show (M1.c ++ [some a])[p.2.length]? = _
    rw [← ok1.len, List.getElem?_append_right (Nat.le_refl _), Nat.sub_self]
    rfl
/-- x op= e -/
def mAug (i : Nat) (f : D → D → Option D) (m : ME) : MS := fun ρ S => (mVar i ρ S).bind fun p => (m ρ S).bind fun q => (f p.1 q.1).map fun z => (.nx, ρ.set i (some (.d z)), q.2)
theorem imc_aug {i : Nat} {ti : TIp} {f : D → D → Option D} (hf : ImR K ti f) (h : ImE K te me) : ImC K T W b (tAug i te ti) (mAug i f me) := fun M0 H0 σ H M ρ S o ρ' S' hb hl x0 hs ok e D q => by
  unfold mAug at e
  cases e0 : mVar i ρ S with
  | none => rw [e0] at e; cases e
  | some p0 =>
    rw [e0, Option.bind_some] at e
    cases e1 : me ρ S with
    | none => rw [e1] at e; cases e
    | some p =>
      rw [e1, Option.bind_some] at e
      cases e2 : f p0.1 p.1 with
      | none => rw [e2] at e; cases e
      | some z =>
        rw [e2] at e
        cases e
        have hv : ρ[i]? = some (some (.d p0.1)) := by
          unfold mVar at e0
          split at e0 <;> cases e0
          assumption
        obtain ⟨v, hv, r⟩ := hs.at_ i _ hv
        refine ⟨v, hv, ?_⟩
        refine h σ H M ρ S p.1 p.2 hs ok e1 _ fun y H1 M1 x1 ok1 r1 => ?_
        refine hf H1 M1 p.2 v y p0.1 p.1 z ok1 (Rl.mono x1 r) r1 e2 _ fun w H2 M2 x2 ok2 r2 => ?_
        have x := x1.trans x2
        exact q _ H2 M2 x ok2 ((hs.mono x).set (s := .d z) r2 i)
theorem imr_ipadd : ImR K (ipI fun i j => i + j) (fI0 fun i j => .int (i + j)) := fun H M S x y dx dy dz ok rx ry e Q q => by
  unfold fI0 at e
  split at e <;> cases e
  cases rx
  cases ry
  exact ⟨_, _, rfl, rfl, q.here ok (.int _)⟩
theorem imr_ipsub : ImR K (ipI fun i j => i - j) (fI0 fun i j => .int (i - j)) := fun H M S x y dx dy dz ok rx ry e Q q => by
  unfold fI0 at e
  split at e <;> cases e
  cases rx
  cases ry
  exact ⟨_, _, rfl, rfl, q.here ok (.int _)⟩
/-- the cell of a name -/
theorem cell_at {σ : St} {ρ : Rho} {i n : Nat} {xs : List D} (hr : RSt K M H σ ρ) (ok : Ok K M S H) (e : ρ[i]? = some (some (.loc n))) (e2 : S[n]? = some (some xs)) :
    ∃ a vs, σ[i]? = some (some (.ref a)) ∧ M.c[n]? = some (some a) ∧ H a = some (.lst vs) ∧ RlA K M H vs xs := by
  obtain ⟨v, e1, a, rfl, r⟩ := hr.at_ i _ e
  obtain ⟨a', vs, m1, m2, m3⟩ := ok.cell n _ e2
  have ea : a = a' := by rcases r with r | r <;> (rw [r] at m1; cases m1); rfl
  subst ea
  exact ⟨a, vs, e1, m1, m2, m3⟩
/-- x[e] = v -/
def mSub (i : Nat) (mi mv : ME) : MS := fun ρ S => (mv ρ S).bind fun p => (mi ρ p.2).bind fun q => match q.1, ρ[i]? with
  | .int k, some (some (.loc n)) => (q.2[n]?.join).bind fun xs => (ixN xs.length k).map fun j => (.nx, ρ, q.2.set n (some (xs.set j p.1)))
  | _, _ => none
theorem imc_sub {i : Nat} {ti tv : TE} {mi mv : ME} (hi : ImE K ti mi) (hv : ImE K tv mv) : ImC K T W b (tAsg tv (gSub (tVar i) ti rSetL)) (mSub i mi mv) := fun M0 H0 σ H M ρ S o ρ' S' hb hl x0 hs ok e D q => by
  unfold mSub at e
  cases e1 : mv ρ S with
  | none => rw [e1] at e; cases e
  | some p =>
    rw [e1, Option.bind_some] at e
    cases e2 : mi ρ p.2 with
    | none => rw [e2] at e; cases e
    | some p2 =>
      rw [e2, Option.bind_some] at e
      split at e <;> first | (cases e; done) | skip
      rename_i k n ek en
      cases e3 : p2.2[n]? with
      | none => rw [e3] at e; cases e
      | some c =>
        cases c with
        | none => rw [e3] at e; cases e
        | some xs =>
          rw [e3] at e
          have e : ((ixN xs.length k).map fun j => ((.nx : Out), ρ, p2.2.set n (some (xs.set j p.1)))) = some (o, ρ', S') := e
          cases e4 : ixN xs.length k with
          | none => rw [e4] at e; cases e
          | some j =>
            rw [e4] at e
            cases e
            refine hv σ H M ρ S p.1 p.2 hs ok e1 _ fun v H1 M1 x1 ok1 r1 => ?_
            obtain ⟨w, hw, _⟩ := hs.at_ i _ en
            refine ⟨w, hw, ?_⟩
            refine hi σ H1 M1 ρ p.2 p2.1 p2.2 (hs.mono x1) ok1 e2 _ fun y H2 M2 x2 ok2 r2 => ?_
            have x := x1.trans x2
            obtain ⟨a, vs, c1, c2, c3, c4⟩ := cell_at (hs.mono x) ok2 en e3
            rw [hw] at c1
            cases c1
            rw [ek] at r2
            cases r2
            refine ⟨a, vs, k, j, rfl, rfl, c3, by rw [c4.len]; exact e4, ?_⟩
            have xc : Ext M2 H2 M2 (upd H2 a (.lst (vs.set j v))) := Ext.setc (List.mem_of_getElem? c2) c3
            exact q σ _ M2 (x.trans xc) (ok2.setc c2 c3 (c4.set (r1.mono x2) j)) (hs.mono (x.trans xc))
/-- x.append(e) -/
def mApp (i : Nat) (m : ME) : ME := fun ρ S => match ρ[i]? with
  | some (some (.loc n)) => (S[n]?.join).bind fun _ => (m ρ S).bind fun p => (p.2[n]?.join).bind fun xs => if xs.length < 1000000 then some (.none, p.2.set n (some (xs ++ [p.1]))) else none
  | _ => none
theorem tyl {a : Addr} {xs : List V} (h : H a = some (.lst xs)) : tyV K "list" (.ref a) H := .inl ⟨rfl, xs, .inl (.inl h)⟩
theorem join_some {α : Type} {x : Option (Option α)} {y : α} (h : x.join = some y) : x = some (some y) := by
  cases x with
  | none => cases h
  | some c => cases c with
    | none => cases h
    | some z => cases h; rfl
theorem im_app {i : Nat} (h : ImE K te me) : ImE K (tBM K "list" rAppend (tVar i) (tCons te tNil)) (mApp i me) := fun σ H M ρ S d S' hs ok e Q q => by
  unfold mApp at e
  split at e <;> first | (cases e; done) | skip
  rename_i n en
  cases e0 : S[n]?.join with
  | none => rw [e0] at e; cases e
  | some xs0 =>
    rw [e0, Option.bind_some] at e
    cases e1 : me ρ S with
    | none => rw [e1] at e; cases e
    | some p =>
      rw [e1, Option.bind_some] at e
      cases e3 : p.2[n]?.join with
      | none => rw [e3] at e; cases e
      | some xs =>
        rw [e3, Option.bind_some] at e
        split at e <;> cases e
        rename_i hz
        obtain ⟨a, us, hw, _, hus, _⟩ := cell_at hs ok en (join_some e0)
        refine ⟨_, hw, tyl hus, ?_⟩
        refine h σ H M ρ S p.1 p.2 hs ok e1 _ fun v H1 M1 x1 ok1 r1 => ?_
        obtain ⟨a', vs, c1, c2, c3, c4⟩ := cell_at (hs.mono x1) ok1 en (join_some e3)
        rw [hw] at c1
        cases c1
        refine ⟨a, vs, v, rfl, rfl, c3, Nat.lt_of_lt_of_le (show vs.length < 1000000 by rw [c4.len]; exact hz) big, ?_⟩
        have xc : Ext M1 H1 M1 (upd H1 a (.lst (vs ++ [v]))) := Ext.setc (List.mem_of_getElem? c2) c3
        exact q _ _ M1 (x1.trans xc) (ok1.setc c2 c3 (c4.append (.one r1))) .non
/-- x.extend(a new list) -/
def mExtN (i : Nat) (m : MN) : ME := fun ρ S => match ρ[i]? with
  | some (some (.loc n)) => (S[n]?.join).bind fun _ => (m ρ S).bind fun p => (p.2[n]?.join).bind fun xs => if xs.length + p.1.length ≤ 1000000 then some (.none, p.2.set n (some (xs ++ p.1))) else none
  | _ => none
theorem im_extN {i : Nat} {m : MN} (h : ImN K te m) : ImE K (tBM K "list" rExtend (tVar i) (tCons te tNil)) (mExtN i m) := fun σ H M ρ S d S' hs ok e Q q => by
  unfold mExtN at e
  split at e <;> first | (cases e; done) | skip
  rename_i n en
  cases e0 : S[n]?.join with
  | none => rw [e0] at e; cases e
  | some xs0 =>
    rw [e0, Option.bind_some] at e
    cases e1 : m ρ S with
    | none => rw [e1] at e; cases e
    | some p =>
      rw [e1, Option.bind_some] at e
      cases e3 : p.2[n]?.join with
      | none => rw [e3] at e; cases e
      | some xs =>
        rw [e3, Option.bind_some] at e
        split at e <;> cases e
        rename_i hz
        obtain ⟨a, us, hw, _, hus, _⟩ := cell_at hs ok en (join_some e0)
        refine ⟨_, hw, tyl hus, ?_⟩
        refine h σ H M ρ S p.1 p.2 hs ok e1 _ fun l ws H1 M1 x1 ok1 n0 n1 n2 r1 => ?_
        obtain ⟨a', vs, c1, c2, c3, c4⟩ := cell_at (hs.mono x1) ok1 en (join_some e3)
        rw [hw] at c1
        cases c1
        refine ⟨a, l, vs, ws, rfl, rfl, c3, n1, Nat.le_trans (show vs.length + ws.length ≤ 1000000 by rw [c4.len, r1.len]; exact hz) big, ?_⟩
        have xc : Ext M1 H1 M1 (upd H1 a (.lst (vs ++ ws))) := Ext.setc (List.mem_of_getElem? c2) c3
        exact q _ _ M1 (x1.trans xc) (ok1.setc c2 c3 (c4.append r1)) .non
/-- x.pop() -/
def mPop (i : Nat) : ME := fun ρ S => match ρ[i]? with
  | some (some (.loc n)) => (S[n]?.join).bind fun xs => (xs[xs.length - 1]?).map fun y => (y, S.set n (some xs.dropLast))
  | _ => none
theorem RlA.dropLast {vs : List V} {ds : List D} (h : RlA K M H vs ds) : RlA K M H vs.dropLast ds.dropLast := by
  rw [List.dropLast_eq_take, List.dropLast_eq_take, h.len]
  exact h.take _
theorem im_pop {i : Nat} : ImE K (tBM0 K "list" rPop (tVar i)) (mPop i) := fun σ H M ρ S d S' hs ok e Q q => by
  unfold mPop at e
  split at e <;> first | (cases e; done) | skip
  rename_i n en
  cases e0 : S[n]?.join with
  | none => rw [e0] at e; cases e
  | some xs =>
    rw [e0, Option.bind_some] at e
    cases e1 : xs[xs.length - 1]? with
    | none => rw [e1] at e; cases e
    | some y =>
      rw [e1] at e
      cases e
      obtain ⟨a, vs, hw, c2, c3, c4⟩ := cell_at hs ok en (join_some e0)
      obtain ⟨v, e2, r⟩ := c4.get e1
      refine ⟨_, hw, tyl c3, ⟨a, vs, v, rfl, rfl, c3, by rw [c4.len]; exact e2, ?_⟩⟩
      have xc : Ext M H M (upd H a (.lst vs.dropLast)) := Ext.setc (List.mem_of_getElem? c2) c3
      exact q _ _ M xc (ok.setc c2 c3 c4.dropLast) (r.mono xc)
/-! ### loops -/
def forRun (mg : MG) (mb : MS) : List D → Rho → Sto → Option (Out × Rho × Sto)
  | [], ρ, S => some (.nx, ρ, S)
  | x :: xs, ρ, S => (mg x ρ).bind fun ρ1 => (mb ρ1 S).bind fun p => match p.1 with
    | .nx => forRun mg mb xs p.2.1 p.2.2
    | .ct => forRun mg mb xs p.2.1 p.2.2
    | .bk => some (.nx, p.2)
    | .rt r => some (.rt r, p.2)
def mFor (mi : MN) (mg : MG) (mb : MS) : MS := fun ρ S => (mi ρ S).bind fun p => forRun mg mb p.1 ρ p.2
theorem imc_for {wi : TI} {g : TG} {tb : TS} {mi : MN} {mg : MG} {mb : MS} (hi : ImI K wi mi) (hg : ImG K g mg) (h : ImC K T W b tb mb) : ImC K T W b (tFor wi g tb) (mFor mi mg mb) := fun M0 H0 σ H M ρ S o ρ' S' hb hl x0 hs ok e D q => by
  unfold mFor at e
  cases e1 : mi ρ S with
  | none => rw [e1] at e; cases e
  | some p =>
    rw [e1, Option.bind_some] at e
    obtain ⟨xs, S1⟩ := p
    simp only at e
    refine hi σ H M ρ S xs S1 hs ok e1 _ fun J H1 M1 x1 ok1 it => ?_
    refine ⟨fun i m σi Hi => m = xs.length - i ∧ i ≤ xs.length ∧ ∃ (Mi : Adr) (ρi : Rho) (Si : Sto), Ext M1 H1 Mi Hi ∧ Ok K Mi Si Hi ∧ RSt K Mi Hi σi ρi ∧ forRun mg mb (xs.drop i) ρi Si = some (o, ρ', S'),
      ⟨xs.length, by omega, Nat.zero_le _, M1, ρ, S1, .refl, ok1, hs.mono x1, e⟩, ?_⟩
    rintro i m σi Hi ⟨rfl, hle, Mi, ρi, Si, xi, oki, hsi, er⟩
    have J1 := it Mi Hi Si xi.w oki i
    by_cases hlt : i < xs.length
    · refine .inr ⟨J1.2.1 hlt, fun σn Hn => ∃ (Mi : Adr) (ρi : Rho) (Si : Sto), Ext M1 H1 Mi Hn ∧ Ok K Mi Si Hn ∧ RSt K Mi Hn σn ρi ∧ forRun mg mb (xs.drop (i + 1)) ρi Si = some (o, ρ', S'), fun σn Hn hN => ⟨xs.length - (i + 1), by omega, rfl, by omega, hN⟩, fun x H2 hx => ?_⟩
      have ed : xs.drop i = xs[i] :: xs.drop (i + 1) := List.drop_eq_getElem_cons hlt
      rw [ed] at er
      unfold forRun at er
      obtain ⟨x2, ok2, r2⟩ := J1.2.2 x H2 xs[i] (List.getElem?_eq_getElem hlt) hx
      cases e2 : mg xs[i] ρi with
      | none => rw [e2] at er; cases er
      | some ρ1 =>
        rw [e2, Option.bind_some] at er
        refine hg _ H2 Mi ρi ρ1 x xs[i] (hsi.mono x2) r2 e2 _ fun σ' hs' => ?_
        cases e3 : mb ρ1 Si with
        | none => rw [e3] at er; cases er
        | some p3 =>
          rw [e3, Option.bind_some] at er
          obtain ⟨o3, ρ3, S3⟩ := p3
          have xx := xi.trans x2
          refine h M0 H0 σ' H2 Mi ρ1 Si o3 ρ3 S3 hb hl ((x0.trans x1).trans xx) hs' ok2 e3 _ ?_
          cases o3 with
          | nx => exact fun σ4 H4 M4 x4 ok4 hs4 => ⟨M4, ρ3, S3, xx.trans x4, ok4, hs4, er⟩
          | ct => exact fun σ4 H4 M4 x4 ok4 hs4 => ⟨M4, ρ3, S3, xx.trans x4, ok4, hs4, er⟩
          | bk => cases er; exact fun σ4 H4 M4 x4 ok4 hs4 => q σ4 H4 M4 ((x1.trans xx).trans x4) ok4 hs4
          | rt r => cases er; exact (PostE.ext q (x1.trans xx)).imp rfl
    · refine .inl ⟨J1.1 (by omega), ?_⟩
      have e0 : xs.drop i = [] := List.drop_eq_nil_of_le (by omega)
      rw [e0] at er
      cases er
      exact q σi Hi Mi (x1.trans xi) oki hsi
def whRun (c : MT) (mb : MS) : Nat → Rho → Sto → Option (Out × Rho × Sto)
  | 0, _, _ => none
  | n + 1, ρ, S => (c ρ S).bind fun p => if p.1 then (mb ρ p.2).bind fun q => match q.1 with
      | .nx => whRun c mb n q.2.1 q.2.2
      | .ct => whRun c mb n q.2.1 q.2.2
      | .bk => some (.nx, q.2)
      | .rt r => some (.rt r, q.2)
    else some (.nx, ρ, p.2)
theorem imc_while {t : TT} {tb : TS} {c : MT} {mb : MS} {n : Nat} (hc : ImT K t c) (h : ImC K T W b tb mb) : ImC K T W b (tWhile t tb) (whRun c mb n) := fun M0 H0 σ H M ρ S o ρ' S' hb hl x0 hs ok e D q => by
  refine ⟨fun m σi Hi => ∃ (Mi : Adr) (ρi : Rho) (Si : Sto), Ext M H Mi Hi ∧ Ok K Mi Si Hi ∧ RSt K Mi Hi σi ρi ∧ whRun c mb m ρi Si = some (o, ρ', S'), ⟨n, M, ρ, S, .refl, ok, hs, e⟩, ?_⟩
  rintro m σi Hi ⟨Mi, ρi, Si, xi, oki, hsi, er⟩
  cases m with
  | zero => cases er
  | succ m =>
    unfold whRun at er
    cases e1 : c ρi Si with
    | none => rw [e1] at er; cases er
    | some p =>
      rw [e1, Option.bind_some] at er
      obtain ⟨y, S1⟩ := p
      refine hc σi Hi Mi ρi Si y S1 hsi oki e1 _ fun H1 M1 x1 ok1 => ?_
      cases y with
      | false =>
        rw [if_neg Bool.false_ne_true]
        rw [if_neg Bool.false_ne_true] at er
        cases er
        exact q σi H1 M1 (xi.trans x1) ok1 (hsi.mono x1)
      | true =>
        rw [if_pos rfl]
        rw [if_pos rfl] at er
        cases e3 : mb ρi S1 with
        | none => rw [e3] at er; cases er
        | some p3 =>
          rw [e3, Option.bind_some] at er
          obtain ⟨o3, ρ3, S3⟩ := p3
          have xx := xi.trans x1
          refine ⟨fun σn Hn => ∃ (Mi : Adr) (ρi : Rho) (Si : Sto), Ext M H Mi Hn ∧ Ok K Mi Si Hn ∧ RSt K Mi Hn σn ρi ∧ whRun c mb m ρi Si = some (o, ρ', S'), fun σn Hn hN => ⟨m, Nat.lt_succ_self m, hN⟩, ?_⟩
          refine h M0 H0 σi H1 M1 ρi S1 o3 ρ3 S3 hb hl (x0.trans xx) (hsi.mono x1) ok1 e3 _ ?_
          cases o3 with
          | nx => exact fun σ4 H4 M4 x4 ok4 hs4 => ⟨M4, ρ3, S3, xx.trans x4, ok4, hs4, er⟩
          | ct => exact fun σ4 H4 M4 x4 ok4 hs4 => ⟨M4, ρ3, S3, xx.trans x4, ok4, hs4, er⟩
          | bk => cases er; exact fun σ4 H4 M4 x4 ok4 hs4 => q σ4 H4 M4 (xx.trans x4) ok4 hs4
          | rt r => cases er; exact (PostE.ext q xx).imp rfl

/-! ### defs and their calls -/
def mDef (np ns : Nat) (body : Nat → MS) : Fn := fun as S => if as.length = np then (body S.length (as.map some ++ List.replicate (ns - np) none) S).bind fun p => match p.1 with
    | .nx => some (.val .none, p.2.2.take S.length)
    | .rt r => some (r, p.2.2.take S.length)
    | _ => none
  else none
def PostF (K : PySem.W.Frag) (T : ET) (M : Adr) (H : Hp) (S' : Sto) (Q : VK) (E : XK) : Rt → Prop
  | .val d => ∀ v H' M', Ext M H M' H' → Ok K M' S' H' → Rl K M' H' v d → Q v H'
  | .new ds => ∀ a vs H' M', Ext M H M' H' → Ok K M' S' H' → H a = none → H' a = some (.lst vs) → a ∈ M'.g → RlA K M' H' vs ds → Q (.ref a) H'
  | .exc c x => ∀ dd H' M', Ext M H M' H' → Ok K M' S' H' → XdR K M' H' dd (T.flds c) x → E (.ref (T.cls c)) (some dd) H'
def spD (K : PySem.W.Frag) (T : ET) (np : Nat) (g : Fn) : Sp := fun vs H Q E => vs.length = np ∧ ∃ (M : Adr) (S : Sto) (as : List Sl) (r : Rt) (S' : Sto), Ok K M S H ∧ RSlA K M H vs as ∧ g as S = some (r, S') ∧ PostF K T M H S' Q E r
theorem RSlA.st {vs : List V} {as : List Sl} (h : RSlA K M H vs as) (k : Nat) : RSt K M H (vs.map some ++ List.replicate k none) (as.map some ++ List.replicate k none) := by
  induction h with
  | nil =>
    refine ⟨by simp, fun i s e => ?_⟩
    simp only [List.map_nil, List.nil_append] at e
    have := List.getElem?_eq_some_iff.mp e
    obtain ⟨h1, h2⟩ := this
    rw [List.getElem_replicate] at h2
    cases h2
  | @cons v vs s ss h1 h2 ih =>
    refine ⟨by simpa using ih.len, fun i t e => ?_⟩
    cases i with
    | zero => cases e; exact ⟨v, rfl, h1⟩
    | succ i => exact ih.at_ i t e
theorem start_eq {N : List Str} {vs : List V} {n : Nat} (h : vs.length = n) : L2.start N vs = vs.map some ++ List.replicate (N.length - n) none := by
  unfold L2.start
  rw [h]
theorem ok_take {S2 : Sto} {n : Nat} (ok : Ok K M' S2 H') (hn : n ≤ M'.c.length) : Ok K (M'.tk n) (S2.take n) H' :=
  ⟨by show (M'.c.take n).length = _; rw [List.length_take, List.length_take, ok.len], fun i j a h1 h2 => by
    have g : ∀ i, (M'.c.take n)[i]? = some (some a) → M'.c[i]? = some (some a) := fun i h => by
      have hi : i < n := by
        have := (List.getElem?_eq_some_iff.mp h).1
        rw [List.length_take] at this; omega
      rw [List.getElem?_take_of_lt hi] at h; exact h
    exact ok.inj i j a (g i h1) (g j h2), fun k xs e => by
    have hk : k < n := by
      have := (List.getElem?_eq_some_iff.mp e).1
      rw [List.length_take] at this; omega
    rw [List.getElem?_take_of_lt hk] at e
    obtain ⟨a, vs, c1, c2, c3⟩ := ok.cell k xs e
    exact ⟨a, vs, by show (M'.c.take n)[k]? = _; rw [List.getElem?_take_of_lt hk]; exact c1, c2, c3.anti fun _ => Adr.tkmem⟩, fun a h => ok.lst a (Adr.tkmem h), fun a h => ok.dj a (List.mem_of_mem_take h)⟩
theorem ok_takeg {S2 : Sto} {n : Nat} {a : Addr} (ok : Ok K M' S2 H') (hn : n ≤ M'.c.length) (ha : M'.mem a) (hc : some a ∉ M'.c.take n) : Ok K ((M'.tk n).gh a) (S2.take n) H' :=
  have o := ok_take ok hn
  have sub : ∀ c, ((M'.tk n).gh a).mem c → M'.mem c := fun c z => by
    rcases z with z | z
    · exact .inl (List.mem_of_mem_take z)
    · rcases List.mem_cons.mp z with z | z
      · rw [z]; exact ha
      · exact .inr z
  ⟨o.len, o.inj, fun k xs e => by
    have hk : k < n := by
      have := (List.getElem?_eq_some_iff.mp e).1
      rw [List.length_take] at this; omega
    rw [List.getElem?_take_of_lt hk] at e
    obtain ⟨c, vs, c1, c2, c3⟩ := ok.cell k xs e
    exact ⟨c, vs, by show (M'.c.take n)[k]? = _; rw [List.getElem?_take_of_lt hk]; exact c1, c2, c3.anti sub⟩, fun c h => ok.lst c (sub c h), fun c h z => by
    rcases List.mem_cons.mp z with z | z
    · rw [z] at h; exact hc h
    · exact o.dj c h z⟩
theorem ext_tk {n : Nat} (x : Ext M H M' H') (hn : M.c.length = n) : Ext M H (M'.tk n) H' :=
  ⟨fun i a h => by
    have h : (M'.c.take n)[i]? = some (some a) := h
    have hi : i < n := by
      have := (List.getElem?_eq_some_iff.mp h).1
      rw [List.length_take] at this; omega
    rw [List.getElem?_take_of_lt hi] at h
    exact x.subn i a h, x.gs, x.gk, fun i a h => by
    have hi : i < n := by rw [← hn]; exact (List.getElem?_eq_some_iff.mp h).1
    show (M'.c.take n)[i]? = _ ∨ (M'.c.take n)[i]? = _
    rw [List.getElem?_take_of_lt hi]
    exact x.pos i a h, fun i h => by
    have hi : i < n := by rw [← hn]; exact (List.getElem?_eq_some_iff.mp h).1
    show (M'.c.take n)[i]? = _
    rw [List.getElem?_take_of_lt hi]
    exact x.dead i h, x.keep, x.free⟩
theorem ext_gh {a : Addr} (x : Ext M H M' H') (h : H a = none) : Ext M H (M'.gh a) H' :=
  ⟨x.subn, fun c z => (List.mem_cons.mp z).elim (fun e => .inr (by rw [e]; exact h)) (x.gs c), fun c z => List.mem_cons_of_mem _ (x.gk c z), x.pos, x.dead, x.keep, x.free⟩
/-- THE RULE for a def -/
theorem def_ok {P : Program} {w : World} {mg : Str → Option Value} {base : Heap} {x qual : Str} {st : Stmt} {f : Addr} {fd : FuncData} {N ps : List Str} {k np ns : Nat} {body : Nat → MS} (F : Fun K x qual st f fd) (Sc : FnScope N ps (defScope st)) (hp : ps.length = np) (hN : N.length = ns)
    (h : ∀ (cdv : Value) (A : Around) (outer : List Env) (s : Shared) (H : Hp) (E : XK) (b : Nat), Room k (A.deeper (PyProof.Rows.envOfC qual (defScope st) s.heap.objs.size f cdv)) →
      ∃ t, PSs (cxOf (L2.CX P w) P w K mg base N qual (defScope st) f cdv A outer s H E) (defBody st) t ∧ ImC K T (fun cls d _ H => E cls d H) b t (body b)) : FnOk P w K mg base (L2.CX P w) (k + 1) f fd ps (spD K T np (mDef np ns body)) := by
  refine F.okX Sc (fun vs H Q E h => by rw [hp]; exact h.1) (fun cdv A outer s H vs Q E hr hsp => ?_)
  obtain ⟨hn, M, S, as, r, S', ok, ra, e, q⟩ := hsp
  obtain ⟨t, h1, h2⟩ := h cdv A outer s H E S.length hr
  refine ⟨t, h1, ?_⟩
  unfold mDef at e
  have ha : as.length = np := by rw [← ra.len]; exact hn
  rw [if_pos ha] at e
  rw [start_eq hn, hN]
  cases e1 : body S.length (as.map some ++ List.replicate (ns - np) none) S with
  | none => rw [e1] at e; cases e
  | some p =>
    rw [e1, Option.bind_some] at e
    obtain ⟨o, ρ', S2⟩ := p
    refine h2 M H _ H M _ S o ρ' S2 ok.len ok.lst .refl (ra.st _) ok e1 _ ?_
    cases o with
    | bk => cases e
    | ct => cases e
    | nx =>
      cases e
      exact fun σ' H' M' x' ok' _ => q _ _ _ (ext_tk x' ok.len) (ok_take ok' (by rw [← ok.len]; exact x'.len)) .non
    | rt r' =>
      cases e
      cases r with
      | val d => exact fun v H' M' x' ok' hr' => q _ _ _ (ext_tk x' ok.len) (ok_take ok' (by rw [← ok.len]; exact x'.len)) hr'
      | exc c x => exact fun σ' dd H' M' x' ok' hs' hd' => q dd H' _ (ext_tk x' ok.len) (ok_take ok' (by rw [← ok.len]; exact x'.len)) (hd'.anti fun _ => Adr.tkmem)
      | new ds =>
        intro v H' M' x' ok' hr'
        obtain ⟨a, vs', rfl, n0, n1, n2, n3, n4⟩ := hr'
        refine q a vs' H' ((M'.tk S.length).gh a) (ext_gh (ext_tk x' ok.len) n0) (ok_takeg ok' (by rw [← ok.len]; exact x'.len) n2 n3) n0 n1 List.mem_cons_self (n4.anti fun c z => ?_)
        rcases z with z | z
        · exact .inl (List.mem_of_mem_take z)
        · rcases List.mem_cons.mp z with z | z
          · rw [z]; exact n2
          · exact .inr z
/-- nothing is known of a call with no level left -/
theorem def_0 {P : Program} {w : World} {mg : Str → Option Value} {base : Heap} {f : Addr} {fd : FuncData} {ps : List Str} {k np : Nat} {g : Fn} (hg : ∀ as S, g as S = none) : FnOk P w K mg base (L2.CX P w) k f fd ps (spD K T np g) := by
  have no : ∀ vs H Q E, ¬ spD K T np g vs H Q E := fun vs H Q E h => by
    obtain ⟨_, M, S, as, r, S', _, _, e, _⟩ := h
    rw [hg] at e
    cases e
  exact ⟨fun vs H Q E h => absurd h (no vs H Q E), fun A outer s H args us vs Q E _ _ _ _ h => absurd h (no vs H Q E)⟩
/-- a call: data, or a new list -/
def rtD : Rt → D
  | .val d => d
  | .new ds => .list ds
  | .exc _ _ => .none
/-- no error -/
def rtE : Rt → Option D
  | .exc _ _ => none
  | r => some (rtD r)
def rtO (q : Rt × Sto) : Option (D × Sto) := (rtE q.1).map fun d => (d, q.2)
def rtN : Rt → Option (List D)
  | .new ds => some ds
  | _ => none
def mCall (np : Nat) (g : Fn) (m : MA) : ME := fun ρ S => (m ρ S).bind fun p => if p.1.length = np then (g p.1 p.2).bind rtO else none
def mCallN (np : Nat) (g : Fn) (m : MA) : MN := fun ρ S => (m ρ S).bind fun p => if p.1.length = np then (g p.1 p.2).bind fun q => (rtN q.1).map fun xs => (xs, q.2) else none
theorem im_callN {g : Fn} {np : Nat} {t : TA} {m : MA} {E : XK} (h : ImA K t m) : ImN K (tCall (spD K T np g) [] E t) (mCallN np g m) := fun σ H M ρ S xs S' hs ok e Q q => by
  unfold mCallN at e
  cases e1 : m ρ S with
  | none => rw [e1] at e; cases e
  | some p =>
    rw [e1, Option.bind_some] at e
    split at e <;> first | (cases e; done) | skip
    rename_i hnp
    cases e2 : g p.1 p.2 with
    | none => rw [e2] at e; cases e
    | some p2 =>
      rw [e2, Option.bind_some] at e
      obtain ⟨r, S2⟩ := p2
      cases r <;> cases e
      refine h σ H M ρ S p.1 p.2 hs ok e1 _ fun vs H1 M1 x1 ok1 r1 => ?_
      show spD K T np g (vs ++ []) H1 Q E
      rw [List.append_nil]
      exact ⟨by rw [r1.len]; exact hnp, M1, p.2, p.1, _, _, ok1, r1, e2, fun a ws H2 M2 x2 ok2 n0 n1 n2 r2 => q a ws H2 M2 (x1.trans x2) ok2 (x1.free a n0) n1 n2 r2⟩
theorem im_call {g : Fn} {np : Nat} {t : TA} {m : MA} {E : XK} (h : ImA K t m) : ImE K (tCall (spD K T np g) [] E t) (mCall np g m) := fun σ H M ρ S d S' hs ok e Q q => by
  unfold mCall at e
  cases e1 : m ρ S with
  | none => rw [e1] at e; cases e
  | some p =>
    rw [e1, Option.bind_some] at e
    split at e <;> first | (cases e; done) | skip
    rename_i hnp
    cases e2 : g p.1 p.2 with
    | none => rw [e2] at e; cases e
    | some p2 =>
      rw [e2] at e
      obtain ⟨r, S2⟩ := p2
      refine h σ H M ρ S p.1 p.2 hs ok e1 _ fun vs H1 M1 x1 ok1 r1 => ?_
      show spD K T np g (vs ++ []) H1 Q E
      rw [List.append_nil]
      refine ⟨by rw [r1.len]; exact hnp, M1, p.2, p.1, r, S2, ok1, r1, e2, ?_⟩
      rcases r with d | ds | ⟨c, z⟩ <;> cases e
      · exact fun v H2 M2 x2 ok2 r2 => q v H2 M2 (x1.trans x2) ok2 r2
      · exact fun a ws H2 M2 x2 ok2 n0 n1 n2 r2 => q _ H2 (M2.ug M1) (x1.trans x2.ungh) (ok2.ug x2.gk) (.lst (.inl ⟨.inl n1, fun z => z.elim (fun z => ok2.dj a z n2) fun z => ok1.notin n0 (.inr z)⟩) (r2.anti fun _ z => x2.ugmem z))
end
end G
set_option Elab.async false
set_option linter.all false
set_option autoImplicit false
set_option maxRecDepth 100000
set_option maxHeartbeats 4000000
namespace G
open PySem L2

/-- contexts that are alike: a def's body, a comprehension's block however it starts -/
structure Fam (ι : Type) where
  X : ι → Cx
  K : PySem.W.Frag
  k : Nat
  hK : ∀ i, (X i).K = K
  calm : ∀ i, (X i).calm = true
  room : ∀ i, Room k (X i).A
  nd : ∀ i, (X i).N.Nodup
  T : ET
  W : WX
  tk : ∀ i, Takes (X i) W
abbrev BI := Shared × Hp × Addr × List (Str × Addr) × List Addr
def Fam.blk {ι : Type} (F : Fam ι) (scope : Scope) : Fam (ι × BI) where
  X := fun p => (F.X p.1).blk p.2.1 p.2.2.1 scope (compEnvC scope p.2.2.2.2.1 p.2.2.2.1 (F.X p.1).env) p.2.2.2.2.2
  K := F.K
  k := F.k
  hK := fun p => F.hK p.1
  calm := fun p => F.calm p.1
  room := fun p => F.room p.1
  nd := fun p => F.nd p.1
  T := F.T
  W := fun _ _ _ _ => False
  tk := fun _ => takes0
section
variable {ι : Type} (F : Fam ι)
def PDE (e : Expr) (m : ME) : Prop := ∃ t, (∀ i, PE (F.X i) e t) ∧ ImE F.K t m
def PDN (e : Expr) (m : MN) : Prop := ∃ t, (∀ i, PE (F.X i) e t) ∧ ImN F.K t m
def PDQ (e : Expr) (m : MN) : Prop := ∃ t, (∀ i, PE (F.X i) e t) ∧ ImQ F.K t m
def PDL (e : Expr) (m : MN) : Prop := ∃ t, (∀ i, PE (F.X i) e t) ∧ ImL F.K t m
def PDT (e : Expr) (m : MT) : Prop := ∃ t, (∀ i, PT (F.X i) e t) ∧ ImT F.K t m
def PDW (e : Expr) (m : MT) : Prop := ∃ t, (∀ i, PW (F.X i) e t) ∧ ImT F.K t m
def PDA (es : List Expr) (m : MA) : Prop := ∃ t, (∀ i, PA (F.X i) es t) ∧ ImA F.K t m
def PDO (e : Option Expr) (m : MO) : Prop := ∃ t, (∀ i, PO (F.X i) e t) ∧ ImO F.K t m
def PDG (e : Expr) (m : MG) : Prop := ∃ t, (∀ i, PG (F.X i) e t) ∧ ImG F.K t m
def PDGs (e : List Expr) (m : MGs) : Prop := ∃ t, (∀ i, PGs (F.X i) e t) ∧ ImGs F.K t m
def PDI (tg e : Expr) (m : MN) : Prop := ∃ t, (∀ i, PI (F.X i) tg e t) ∧ ImI F.K t m
def PDTs (e : List Expr) (m : MT) : Prop := ∃ t, (∀ i, PTs (F.X i) e t) ∧ ImT F.K t m
def PDS (b : Nat) (st : Stmt) (m : MS) : Prop := ∃ t, (∀ i, PS (F.X i) st t) ∧ ImC F.K F.T F.W b t m
def PDSs (b : Nat) (st : List Stmt) (m : MS) : Prop := ∃ t, (∀ i, PSs (F.X i) st t) ∧ ImC F.K F.T F.W b t m
end
section
variable {ι : Type} {F : Fam ι} {a e c : Expr} {es : List Expr} {ma mb mc me : ME} {mn mn2 : MN} {mt mt2 : MT} {m : MA} {pos : Pos} {b : Nat}
/-! ### names, constants -/
theorem d_var (j : Nat) {x : Str} (hN : ∀ i, (F.X i).N[j]? = some x := by exact fun _ => rfl) (hv : ∀ i, Vis (F.X i).env.scope x := by first | exact fun _ => Or.inl rfl | exact fun _ => Or.inr (Or.inl rfl) | exact fun _ => Or.inr (Or.inr rfl))
    (hd : (x == ("__debug__" : Str)) = false := by decide) (hcd : (x == ("__classdict__" : Str)) = false := by decide) : PDE F (.Name x pos) (mVar j) := ⟨_, fun i => pe_var (hN i) (hv i) hd hcd, im_var j⟩
theorem d_qvar (j : Nat) {x : Str} (hN : ∀ i, (F.X i).N[j]? = some x := by exact fun _ => rfl) (hv : ∀ i, Vis (F.X i).env.scope x := by first | exact fun _ => Or.inl rfl | exact fun _ => Or.inr (Or.inl rfl) | exact fun _ => Or.inr (Or.inr rfl))
    (hd : (x == ("__debug__" : Str)) = false := by decide) (hcd : (x == ("__classdict__" : Str)) = false := by decide) : PDQ F (.Name x pos) (mQVar j) := ⟨_, fun i => pe_var (hN i) (hv i) hd hcd, im_qvar j⟩
theorem d_lvar (j : Nat) {x : Str} (hN : ∀ i, (F.X i).N[j]? = some x := by exact fun _ => rfl) (hv : ∀ i, Vis (F.X i).env.scope x := by first | exact fun _ => Or.inl rfl | exact fun _ => Or.inr (Or.inl rfl) | exact fun _ => Or.inr (Or.inr rfl))
    (hd : (x == ("__debug__" : Str)) = false := by decide) (hcd : (x == ("__classdict__" : Str)) = false := by decide) : PDL F (.Name x pos) (mLVar j) := ⟨_, fun i => pe_var (hN i) (hv i) hd hcd, im_lvar j⟩
theorem d_int {n : Int} {j} : PDE F (.Constant (.int n) j pos) (mC (.int n)) := ⟨_, fun _ => pe_int, im_int n⟩
theorem d_bl {n : Bool} {j} : PDE F (.Constant (.bool n) j pos) (mC (.bool n)) := ⟨_, fun _ => pe_bl, im_bl n⟩
theorem d_str {n : Str} {j} : PDE F (.Constant (.str n) j pos) (mC (.str n)) := ⟨_, fun _ => pe_str, im_str n⟩
theorem d_non {j} : PDE F (.Constant .none j pos) (mC .none) := ⟨_, fun _ => pe_non, im_non⟩
/-- a module's int -/
theorem d_glob {n : Int} {t : Tok} {x : Str} (hm : ∀ i, (F.X i).mg x = some (.int n t)) (hg : ∀ i, Gl (F.X i) x := by exact fun _ => rfl) (hd : (x == ("__debug__" : Str)) = false := by decide) : PDE F (.Name x pos) (mC (.int n)) :=
  ⟨_, fun i => pe_glob (v := .int n) (hg i) (hm i) ⟨t, rfl⟩ hd, im_int n⟩
/-! ### kinds -/
theorem d_qe (h : PDE F e me) : PDQ F e (mQE me) := let ⟨t, h1, h2⟩ := h; ⟨t, h1, im_qe h2⟩
theorem d_le (h : PDE F e me) : PDL F e (mLE me) := let ⟨t, h1, h2⟩ := h; ⟨t, h1, im_le h2⟩
theorem d_qn (h : PDN F e mn) : PDQ F e mn := let ⟨t, h1, h2⟩ := h; ⟨t, h1, im_qn h2⟩
theorem d_ln (h : PDN F e mn) : PDL F e mn := let ⟨t, h1, h2⟩ := h; ⟨t, h1, im_ln h2⟩
theorem d_en (h : PDN F e mn) : PDE F e (mEN mn) := let ⟨t, h1, h2⟩ := h; ⟨t, h1, im_en h2⟩
/-! ### operators -/
theorem d_add (h1 : PDE F a ma) (h2 : PDE F e mb) : PDE F (.BinOp a .Add e pos) (mOp fAdd ma mb) := by
  obtain ⟨t1, p1, q1⟩ := h1
  obtain ⟨t2, p2, q2⟩ := h2
  exact ⟨_, fun i => pe_op (by have := op_addX (X := F.X i); rw [F.hK i] at this; exact this) (p1 i) (p2 i), im_op imr_add q1 q2⟩
theorem d_sub (h1 : PDE F a ma) (h2 : PDE F e mb) : PDE F (.BinOp a .Sub e pos) (mOp fSub ma mb) := by
  obtain ⟨t1, p1, q1⟩ := h1
  obtain ⟨t2, p2, q2⟩ := h2
  exact ⟨_, fun i => pe_op op_sub (p1 i) (p2 i), im_op imr_sub q1 q2⟩
theorem d_mul (h1 : PDE F a ma) (h2 : PDE F e mb) : PDE F (.BinOp a .Mult e pos) (mOp fMul ma mb) := by
  obtain ⟨t1, p1, q1⟩ := h1
  obtain ⟨t2, p2, q2⟩ := h2
  exact ⟨_, fun i => pe_op op_mul (p1 i) (p2 i), im_op imr_mul q1 q2⟩
theorem d_div (h1 : PDE F a ma) (h2 : PDE F e mb) : PDE F (.BinOp a .FloorDiv e pos) (mOp fDiv ma mb) := by
  obtain ⟨t1, p1, q1⟩ := h1
  obtain ⟨t2, p2, q2⟩ := h2
  exact ⟨_, fun i => pe_op op_fdiv (p1 i) (p2 i), im_op imr_div q1 q2⟩
theorem d_mod (h1 : PDE F a ma) (h2 : PDE F e mb) : PDE F (.BinOp a .Mod e pos) (mOp fMod ma mb) := by
  obtain ⟨t1, p1, q1⟩ := h1
  obtain ⟨t2, p2, q2⟩ := h2
  exact ⟨_, fun i => pe_op op_mod (p1 i) (p2 i), im_op imr_mod q1 q2⟩
theorem d_pow (h1 : PDE F a ma) (h2 : PDE F e mb) : PDE F (.BinOp a .Pow e pos) (mOp fPow ma mb) := by
  obtain ⟨t1, p1, q1⟩ := h1
  obtain ⟨t2, p2, q2⟩ := h2
  exact ⟨_, fun i => pe_op op_pow (p1 i) (p2 i), im_op imr_pow q1 q2⟩
theorem d_neg (h1 : PDE F a ma) : PDE F (.UnaryOp .USub a pos) (mUn fNeg ma) := by
  obtain ⟨t1, p1, q1⟩ := h1
  exact ⟨_, fun i => pe_un un_neg (p1 i), im_un imu_neg q1⟩
/-- [..] + [..] -/
theorem d_cat (h1 : PDN F a mn) (h2 : PDN F e mn2) : PDN F (.BinOp a .Add e pos) (mCat mn mn2) := by
  obtain ⟨t1, p1, q1⟩ := h1
  obtain ⟨t2, p2, q2⟩ := h2
  exact ⟨_, fun i => pe_op op_cat (p1 i) (p2 i), im_catN q1 q2⟩
/-! ### comparisons: the rule of a sign, by data -/
def CmpOk (F : Fam ι) (op : CmpOp) (f : D → D → Option D) : Prop := ∃ r, (∀ i, OpR (F.X i) (compareOp op) r) ∧ ImR F.K r f
theorem k_units (F : Fam ι) (i : ι) : (F.X i).A.units + 64 < cLine := by have := (F.room i).un; omega
theorem k_eq : CmpOk F .Eq fEq := ⟨_, fun i => by have := op_eqD (X := F.X i) (k_units F i); rw [F.hK i] at this; exact this, imr_eq⟩
theorem k_ne : CmpOk F .NotEq fNe := ⟨_, fun i => by have := op_neD (X := F.X i) (k_units F i); rw [F.hK i] at this; exact this, imr_ne⟩
theorem k_lt : CmpOk F .Lt fLt := ⟨_, fun _ => op_lt, imr_lt⟩
theorem k_le : CmpOk F .LtE fLe := ⟨_, fun _ => op_le, imr_le⟩
theorem k_gt : CmpOk F .Gt fGt := ⟨_, fun _ => op_gt, imr_gt⟩
theorem k_ge : CmpOk F .GtE fGe := ⟨_, fun _ => op_ge, imr_ge⟩
def fIs (x y : D) : Option D := (fIsB x y).or (fIsN x y)
def fIsNot (x y : D) : Option D := (fNotB x y).or (fNotN x y)
theorem k_is : CmpOk F .Is fIs := ⟨_, fun _ => OpR.or op_is_bl op_isN, imr_or imr_isB imr_isN⟩
theorem k_isnot : CmpOk F .IsNot fIsNot := ⟨_, fun _ => OpR.or op_isnot_bl op_notN, imr_or imr_notB imr_notN⟩
theorem d_cmp {op : CmpOp} {f : D → D → Option D} (k : CmpOk F op f) (h1 : PDE F a ma) (h2 : PDE F e mb) (hm : behindInMarks op e = false := by exact nomark _) : PDE F (.Compare a [op] [e] pos) (mOp f ma mb) := by
  obtain ⟨r, k1, k2⟩ := k
  obtain ⟨t1, p1, q1⟩ := h1
  obtain ⟨t2, p2, q2⟩ := h2
  exact ⟨_, fun i => pe_cmpR (k1 i) (p1 i) (p2 i) hm, im_op k2 q1 q2⟩
theorem d_cmpT {op : CmpOp} {f : D → D → Option D} (k : CmpOk F op f) (h1 : PDE F a ma) (h2 : PDE F e mb) (hm : behindInMarks op e = false := by exact nomark _) : PDT F (.Compare a [op] [e] pos) (mTB (mOp f ma mb)) := by
  obtain ⟨r, k1, k2⟩ := k
  obtain ⟨t1, p1, q1⟩ := h1
  obtain ⟨t2, p2, q2⟩ := h2
  exact ⟨_, fun i => pt_cmpR (k1 i) (p1 i) (p2 i) hm, im_tt (im_op k2 q1 q2)⟩
theorem d_chain {op op' : CmpOp} {f g : D → D → Option D} (k : CmpOk F op f) (k' : CmpOk F op' g) (h1 : PDE F a ma) (h2 : PDE F e mb) (h3 : PDE F c mc) (hm : lastMarks [op, op'] [e, c] = false := by with_unfolding_all rfl) :
    PDE F (.Compare a [op, op'] [e, c] pos) (mChain f g ma mb mc) := by
  obtain ⟨r, k1, k2⟩ := k
  obtain ⟨r', k1', k2'⟩ := k'
  obtain ⟨t1, p1, q1⟩ := h1
  obtain ⟨t2, p2, q2⟩ := h2
  obtain ⟨t3, p3, q3⟩ := h3
  exact ⟨_, fun i => pe_chain (k1 i) (k1' i) (p1 i) (p2 i) (p3 i) hm, im_chain k2 k2' q1 q2 q3⟩
theorem d_chainT {op op' : CmpOp} {f g : D → D → Option D} (k : CmpOk F op f) (k' : CmpOk F op' g) (h1 : PDE F a ma) (h2 : PDE F e mb) (h3 : PDE F c mc) (hm : lastMarks [op, op'] [e, c] = false := by with_unfolding_all rfl) :
    PDT F (.Compare a [op, op'] [e, c] pos) (mTB (mChain f g ma mb mc)) := by
  obtain ⟨r, k1, k2⟩ := k
  obtain ⟨r', k1', k2'⟩ := k'
  obtain ⟨t1, p1, q1⟩ := h1
  obtain ⟨t2, p2, q2⟩ := h2
  obtain ⟨t3, p3, q3⟩ := h3
  exact ⟨_, fun i => pt_chain (k1 i) (k1' i) (p1 i) (p2 i) (p3 i) hm, im_tt (im_chain k2 k2' q1 q2 q3)⟩
/-! ### tests -/
theorem d_tv (h : PDE F e me) (he : ∀ i whole, isTrue e (F.X i).env whole = (do let v ← whole; standAt e.pos; holding [v] (truthy v)) := by intro _ _; rfl) : PDT F e (mTru me) := by
  obtain ⟨t, p, q⟩ := h
  exact ⟨_, fun i => by have := pt_truth (p i) (he i); rw [F.hK i] at this; exact this, im_tru q⟩
theorem d_tq (h : PDQ F e mn) (he : ∀ i whole, isTrue e (F.X i).env whole = (do let v ← whole; standAt e.pos; holding [v] (truthy v)) := by intro _ _; rfl) : PDT F e (mTruQ mn) := by
  obtain ⟨t, p, q⟩ := h
  exact ⟨_, fun i => by have := pt_truth (p i) (he i); rw [F.hK i] at this; exact this, im_truQ q⟩
theorem d_not (h : PDT F e mt) : PDT F (.UnaryOp .Not e pos) (mNot mt) := let ⟨t, p, q⟩ := h; ⟨_, fun i => pt_not (p i), im_not q⟩
theorem d_w (h : PDW F e mt) : PDT F e mt := let ⟨t, p, q⟩ := h; ⟨_, fun i => (p i).pt, q⟩
theorem d_and1 (h : PDT F e mt) : PDW F (.BoolOp .And [e] pos) mt := let ⟨t, p, q⟩ := h; ⟨_, fun i => pw_and1 (p i), q⟩
theorem d_or1 (h : PDT F e mt) : PDW F (.BoolOp .Or [e] pos) mt := let ⟨t, p, q⟩ := h; ⟨_, fun i => pw_or1 (p i), q⟩
theorem d_and (h : PDT F a mt) (h2 : PDW F (.BoolOp .And (e :: es) pos) mt2) : PDW F (.BoolOp .And (a :: e :: es) pos) (mAnd mt mt2) := by
  obtain ⟨t, p, q⟩ := h
  obtain ⟨t2, p2, q2⟩ := h2
  exact ⟨_, fun i => pw_and (p i) (p2 i), im_and q q2⟩
theorem d_or (h : PDT F a mt) (h2 : PDW F (.BoolOp .Or (e :: es) pos) mt2) : PDW F (.BoolOp .Or (a :: e :: es) pos) (mOr mt mt2) := by
  obtain ⟨t, p, q⟩ := h
  obtain ⟨t2, p2, q2⟩ := h2
  exact ⟨_, fun i => pw_or (p i) (p2 i), im_or q q2⟩
theorem d_one {op} (h : PDE F e me) : PDE F (.BoolOp op [e] pos) me := let ⟨t, p, q⟩ := h; ⟨_, fun i => pe_one (p i), q⟩
theorem d_andV (h : PDE F a ma) (h2 : PDE F (.BoolOp .And (e :: es) pos) mb) : PDE F (.BoolOp .And (a :: e :: es) pos) (mAndV ma mb) := by
  obtain ⟨t, p, q⟩ := h
  obtain ⟨t2, p2, q2⟩ := h2
  exact ⟨_, fun i => pe_and (p i) (p2 i), im_andV q q2⟩
theorem d_orV (h : PDE F a ma) (h2 : PDE F (.BoolOp .Or (e :: es) pos) mb) : PDE F (.BoolOp .Or (a :: e :: es) pos) (mOrV ma mb) := by
  obtain ⟨t, p, q⟩ := h
  obtain ⟨t2, p2, q2⟩ := h2
  exact ⟨_, fun i => pe_or (p i) (p2 i), im_orV q q2⟩
theorem d_notV (h : PDE F e me) : PDE F (.UnaryOp .Not e pos) (mNotV me) := let ⟨t, p, q⟩ := h; ⟨_, fun i => pe_not (p i), im_notV q⟩
theorem d_ifE (h : PDT F c mt) (h1 : PDE F a ma) (h2 : PDE F e mb) : PDE F (.IfExp c a e pos) (mIf mt ma mb) := by
  obtain ⟨t, p, q⟩ := h
  obtain ⟨t1, p1, q1⟩ := h1
  obtain ⟨t2, p2, q2⟩ := h2
  exact ⟨_, fun i => pe_ifExp (p i) (p1 i) (p2 i), im_if q q1 q2⟩
/-! ### subscripts, displays -/
theorem d_ix (h1 : PDE F a ma) (h2 : PDE F e mb) (hs : PlainIx e := by exact fun _ _ => rfl) : PDE F (.Subscript a e pos) (mOp fIx ma mb) := by
  obtain ⟨t1, p1, q1⟩ := h1
  obtain ⟨t2, p2, q2⟩ := h2
  exact ⟨_, fun i => pe_ix (by have := ix_seq (X := F.X i); rw [F.hK i] at this; exact this) (p1 i) (p2 i) hs, im_op imr_ix q1 q2⟩
theorem d_ixV (j : Nat) {x : Str} {px : Pos} (h2 : PDE F e mb) (hN : ∀ i, (F.X i).N[j]? = some x := by exact fun _ => rfl) (hv : ∀ i, Vis (F.X i).env.scope x := by first | exact fun _ => Or.inl rfl | exact fun _ => Or.inr (Or.inl rfl) | exact fun _ => Or.inr (Or.inr rfl))
    (hd : (x == ("__debug__" : Str)) = false := by decide) (hcd : (x == ("__classdict__" : Str)) = false := by decide) (hs : PlainIx e := by exact fun _ _ => rfl) : PDE F (.Subscript (.Name x px) e pos) (mIxV j mb) := by
  obtain ⟨t2, p2, q2⟩ := h2
  exact ⟨_, fun i => pe_ix (by have := ix_seq (X := F.X i); rw [F.hK i] at this; exact this) (pe_var (hN i) (hv i) hd hcd) (p2 i) hs, im_ixV q2⟩
theorem d_o0 : PDO F none mO0 := ⟨_, fun _ => po_none, im_o0⟩
theorem d_o1 (h : PDE F e me) : PDO F (some e) (mO1 me) := let ⟨t, p, q⟩ := h; ⟨_, fun i => po_some (p i), im_o1 q⟩
theorem d_slT {lo hi : Option Expr} {ml mh : MO} {p2 : Pos} (h : PDE F e me) (hl : PDO F lo ml) (hh : PDO F hi mh) : PDE F (.Subscript e (.Slice lo hi none p2) pos) (mSlT me ml mh) := by
  obtain ⟨t, p, q⟩ := h
  obtain ⟨t1, p1, q1⟩ := hl
  obtain ⟨t2, p2, q2⟩ := hh
  exact ⟨_, fun i => pe_slice (by have := sl_tupA (X := F.X i); rw [F.hK i] at this; exact this) (p i) (p1 i) (p2 i), im_slT q q1 q2⟩
theorem d_slL {lo hi : Option Expr} {ml mh : MO} {p2 : Pos} (h : PDE F e me) (hl : PDO F lo ml) (hh : PDO F hi mh) : PDN F (.Subscript e (.Slice lo hi none p2) pos) (mSlL (mLE me) ml mh) := by
  obtain ⟨t, p, q⟩ := h
  obtain ⟨t1, p1, q1⟩ := hl
  obtain ⟨t2, p2, q2⟩ := hh
  exact ⟨_, fun i => pe_slice (by have := sl_list (X := F.X i); rw [F.hK i] at this; exact this) (p i) (p1 i) (p2 i), im_slL q q1 q2⟩
theorem d_a0 : PDA F [] mA0 := ⟨_, fun _ => pa_nil, im_a0⟩
theorem d_a1 (h : PDE F e me) (hr : PDA F es m) (hs : ∀ i, starEach (e :: es) (F.X i).env = (false, eval e (F.X i).env) :: starEach es (F.X i).env := by intro _; rfl) : PDA F (e :: es) (mA1 me m) := by
  obtain ⟨t, p, q⟩ := h
  obtain ⟨t1, p1, q1⟩ := hr
  exact ⟨_, fun i => pa_cons (p i) (p1 i) (hs i), im_a1 q q1⟩
theorem d_av (j : Nat) {x : Str} {px : Pos} (hr : PDA F es m) (hN : ∀ i, (F.X i).N[j]? = some x := by exact fun _ => rfl) (hv : ∀ i, Vis (F.X i).env.scope x := by first | exact fun _ => Or.inl rfl | exact fun _ => Or.inr (Or.inl rfl) | exact fun _ => Or.inr (Or.inr rfl))
    (hd : (x == ("__debug__" : Str)) = false := by decide) (hcd : (x == ("__classdict__" : Str)) = false := by decide)
    (hs : ∀ i, starEach (.Name x px :: es) (F.X i).env = (false, eval (.Name x px) (F.X i).env) :: starEach es (F.X i).env := by intro _; rfl) : PDA F (.Name x px :: es) (mAV j m) := by
  obtain ⟨t1, p1, q1⟩ := hr
  exact ⟨_, fun i => pa_cons (pe_var (hN i) (hv i) hd hcd) (p1 i) (hs i), im_av q1⟩
theorem d_tup {x1} (h : PDA F es m) : PDE F (.Tuple es x1 pos) (mTup m) := let ⟨t, p, q⟩ := h; ⟨_, fun i => pe_tup (p i), im_tup q⟩
theorem d_lst (h : PDA F es m) : PDN F (.List es pos) (mLst m) := let ⟨t, p, q⟩ := h; ⟨_, fun i => pe_lst (p i), im_lst q⟩
/-! ### calls of builtins -/
section
variable {x : Str} {px : Pos} {id : String}
/-- a call of a builtin whose one argument's reading is known -/
theorem call1 {r : List V → Hp → VK → Prop} {te : TE} {i : ι} (hc : CallR (F.X i) (.builtin id) r) (hg : Gl (F.X i) x) (hm : (F.X i).mg x = none) (hv : bootBuiltins x = some (.builtin id)) (p : PE (F.X i) e te) (hn : x ≠ "__name__") (hdb : (x == ("__debug__" : Str)) = false)
    (hs : starEach [e] (F.X i).env = (false, eval e (F.X i).env) :: starEach [] (F.X i).env) : PE (F.X i) (.Call (.Name x px) [e] [] pos) (tCB r (tCons te tNil)) :=
  pe_callB hc hg hm hv (pa_cons p pa_nil hs) hn hdb hs rfl
theorem call1t {r : List V → Hp → VK → Prop} {te : TE} {i : ι} (hc : CallR (F.X i) (.type id) r) (hg : Gl (F.X i) x) (hm : (F.X i).mg x = none) (hv : bootBuiltins x = some (.type id)) (p : PE (F.X i) e te) (hn : x ≠ "__name__") (hdb : (x == ("__debug__" : Str)) = false)
    (hs : starEach [e] (F.X i).env = (false, eval e (F.X i).env) :: starEach [] (F.X i).env) : PE (F.X i) (.Call (.Name x px) [e] [] pos) (tCB r (tCons te tNil)) :=
  pe_callTy hc hg hm hv (pa_cons p pa_nil hs) hn hdb hs rfl
end
section
variable {px : Pos}
theorem d_len (hm : ∀ i, (F.X i).mg "len" = none) (h : PDQ F e mn) (hg : ∀ i, Gl (F.X i) "len" := by exact fun _ => rfl) (hs : ∀ i, starEach [e] (F.X i).env = (false, eval e (F.X i).env) :: starEach [] (F.X i).env := by intro _; rfl) :
    PDE F (.Call (.Name "len" px) [e] [] pos) (mLen mn) := by
  obtain ⟨t, p, q⟩ := h
  exact ⟨_, fun i => call1 (by have := call_len_seq (X := F.X i); rw [F.hK i] at this; exact this) (hg i) (hm i) PySem.boot_len (p i) (by decide) (by decide) (hs i), im_len q⟩
theorem d_all (hm : ∀ i, (F.X i).mg "all" = none) (h : PDL F e mn) (hg : ∀ i, Gl (F.X i) "all" := by exact fun _ => rfl) (hs : ∀ i, starEach [e] (F.X i).env = (false, eval e (F.X i).env) :: starEach [] (F.X i).env := by intro _; rfl) :
    PDE F (.Call (.Name "all" px) [e] [] pos) (mAll mn) := by
  obtain ⟨t, p, q⟩ := h
  exact ⟨_, fun i => call1 (by have := cr_all (X := F.X i) (F.calm i); rw [F.hK i] at this; exact this) (hg i) (hm i) (by decide +kernel) (p i) (by decide) (by decide) (hs i), im_all q⟩
theorem d_any (hm : ∀ i, (F.X i).mg "any" = none) (h : PDL F e mn) (hg : ∀ i, Gl (F.X i) "any" := by exact fun _ => rfl) (hs : ∀ i, starEach [e] (F.X i).env = (false, eval e (F.X i).env) :: starEach [] (F.X i).env := by intro _; rfl) :
    PDE F (.Call (.Name "any" px) [e] [] pos) (mAny mn) := by
  obtain ⟨t, p, q⟩ := h
  exact ⟨_, fun i => call1 (by have := cr_any (X := F.X i) (F.calm i); rw [F.hK i] at this; exact this) (hg i) (hm i) (by decide +kernel) (p i) (by decide) (by decide) (hs i), im_any q⟩
theorem d_sum (hm : ∀ i, (F.X i).mg "sum" = none) (h : PDL F e mn) (hg : ∀ i, Gl (F.X i) "sum" := by exact fun _ => rfl) (hs : ∀ i, starEach [e] (F.X i).env = (false, eval e (F.X i).env) :: starEach [] (F.X i).env := by intro _; rfl) :
    PDE F (.Call (.Name "sum" px) [e] [] pos) (mSum mn) := by
  obtain ⟨t, p, q⟩ := h
  exact ⟨_, fun i => call1 (by have := cr_sum (X := F.X i) (F.calm i); rw [F.hK i] at this; exact this) (hg i) (hm i) (by decide +kernel) (p i) (by decide) (by decide) (hs i), im_sum q⟩
theorem d_abs (hm : ∀ i, (F.X i).mg "abs" = none) (h : PDE F e me) (hg : ∀ i, Gl (F.X i) "abs" := by exact fun _ => rfl) (hs : ∀ i, starEach [e] (F.X i).env = (false, eval e (F.X i).env) :: starEach [] (F.X i).env := by intro _; rfl) :
    PDE F (.Call (.Name "abs" px) [e] [] pos) (mB fAbs (mA1 me mA0)) := by
  obtain ⟨t, p, q⟩ := h
  exact ⟨_, fun i => call1 call_abs (hg i) (hm i) (by decide +kernel) (p i) (by decide) (by decide) (hs i), im_b imb_abs (im_a1 q im_a0)⟩
theorem d_int1 (hm : ∀ i, (F.X i).mg "int" = none) (h : PDE F e me) (hg : ∀ i, Gl (F.X i) "int" := by exact fun _ => rfl) (hs : ∀ i, starEach [e] (F.X i).env = (false, eval e (F.X i).env) :: starEach [] (F.X i).env := by intro _; rfl) :
    PDE F (.Call (.Name "int" px) [e] [] pos) (mB fInt (mA1 me mA0)) := by
  obtain ⟨t, p, q⟩ := h
  exact ⟨_, fun i => call1t call_int1 (hg i) (hm i) (by decide +kernel) (p i) (by decide) (by decide) (hs i), im_b imb_int (im_a1 q im_a0)⟩
theorem d_list1 (hm : ∀ i, (F.X i).mg "list" = none) (h : PDQ F e mn) (hg : ∀ i, Gl (F.X i) "list" := by exact fun _ => rfl) (hs : ∀ i, starEach [e] (F.X i).env = (false, eval e (F.X i).env) :: starEach [] (F.X i).env := by intro _; rfl) :
    PDN F (.Call (.Name "list" px) [e] [] pos) (mList mn) := by
  obtain ⟨t, p, q⟩ := h
  exact ⟨_, fun i => call1t (by have := call_list_of (X := F.X i); rw [F.hK i] at this; exact this) (hg i) (hm i) (by decide +kernel) (p i) (by decide) (by decide) (hs i), im_list q⟩
theorem d_tuple1 (hm : ∀ i, (F.X i).mg "tuple" = none) (h : PDQ F e mn) (hg : ∀ i, Gl (F.X i) "tuple" := by exact fun _ => rfl) (hs : ∀ i, starEach [e] (F.X i).env = (false, eval e (F.X i).env) :: starEach [] (F.X i).env := by intro _; rfl) :
    PDE F (.Call (.Name "tuple" px) [e] [] pos) (mTuple mn) := by
  obtain ⟨t, p, q⟩ := h
  exact ⟨_, fun i => call1t (by have := call_tuple_of (X := F.X i); rw [F.hK i] at this; exact this) (hg i) (hm i) (by decide +kernel) (p i) (by decide) (by decide) (hs i), im_tuple q⟩
/-- isinstance(x, T), T the name of a built-in type -/
theorem d_isi {T : Str} {n : String} {pT : Pos} (hv : bootBuiltins T = some (.type n)) (hm : ∀ i, (F.X i).mg "isinstance" = none) (hmT : ∀ i, (F.X i).mg T = none) (h : PDE F e me) (hg : ∀ i, Gl (F.X i) "isinstance" := by exact fun _ => rfl) (hgT : ∀ i, Gl (F.X i) T := by exact fun _ => rfl)
    (hn : T ≠ "__name__" := by decide) (hd : (T == ("__debug__" : Str)) = false := by decide)
    (hs : ∀ i, starEach [e, .Name T pT] (F.X i).env = (false, eval e (F.X i).env) :: starEach [.Name T pT] (F.X i).env := by intro _; rfl) (hs2 : ∀ i, starEach [.Name T pT] (F.X i).env = (false, eval (.Name T pT) (F.X i).env) :: starEach [] (F.X i).env := by intro _; rfl)
    (hpl : ∀ i, (backTo pos (starEach [.Name T pT] (F.X i).env)).any (·.1) = false := by intro _; rfl) :
    PDE F (.Call (.Name "isinstance" px) [e, .Name T pT] [] pos) (mIsi n me) := by
  obtain ⟨t, p, q⟩ := h
  exact ⟨_, fun i => pe_callB (by have := call_isi (X := F.X i); rw [F.hK i] at this; exact this) (hg i) (hm i) (by decide +kernel) (pa_cons (p i) (pa_cons (pe_bltn (v := .ty n) (hgT i) (hmT i) hv rfl hn hd) pa_nil (hs2 i)) (hs i)) (by decide) (by decide) (hs i) (hpl i), im_isi q⟩
/-- max(a, b), min(a, b) -/
theorem d_max2 (hm : ∀ i, (F.X i).mg "max" = none) (h : PDE F a ma) (h2 : PDE F e mb) (hg : ∀ i, Gl (F.X i) "max" := by exact fun _ => rfl)
    (hs : ∀ i, starEach [a, e] (F.X i).env = (false, eval a (F.X i).env) :: starEach [e] (F.X i).env := by intro _; rfl) (hs2 : ∀ i, starEach [e] (F.X i).env = (false, eval e (F.X i).env) :: starEach [] (F.X i).env := by intro _; rfl)
    (hpl : ∀ i, (backTo pos (starEach [e] (F.X i).env)).any (·.1) = false := by intro _; rfl) : PDE F (.Call (.Name "max" px) [a, e] [] pos) (mB fMax2 (mA1 ma (mA1 mb mA0))) := by
  obtain ⟨t, p, q⟩ := h
  obtain ⟨t2, p2, q2⟩ := h2
  exact ⟨_, fun i => pe_callB (call_max2 (F.calm i)) (hg i) (hm i) (by decide +kernel) (pa_cons (p i) (pa_cons (p2 i) pa_nil (hs2 i)) (hs i)) (by decide) (by decide) (hs i) (hpl i), im_b imb_max2 (im_a1 q (im_a1 q2 im_a0))⟩
theorem d_min2 (hm : ∀ i, (F.X i).mg "min" = none) (h : PDE F a ma) (h2 : PDE F e mb) (hg : ∀ i, Gl (F.X i) "min" := by exact fun _ => rfl)
    (hs : ∀ i, starEach [a, e] (F.X i).env = (false, eval a (F.X i).env) :: starEach [e] (F.X i).env := by intro _; rfl) (hs2 : ∀ i, starEach [e] (F.X i).env = (false, eval e (F.X i).env) :: starEach [] (F.X i).env := by intro _; rfl)
    (hpl : ∀ i, (backTo pos (starEach [e] (F.X i).env)).any (·.1) = false := by intro _; rfl) : PDE F (.Call (.Name "min" px) [a, e] [] pos) (mB fMin2 (mA1 ma (mA1 mb mA0))) := by
  obtain ⟨t, p, q⟩ := h
  obtain ⟨t2, p2, q2⟩ := h2
  exact ⟨_, fun i => pe_callB (call_min2 (F.calm i)) (hg i) (hm i) (by decide +kernel) (pa_cons (p i) (pa_cons (p2 i) pa_nil (hs2 i)) (hs i)) (by decide) (by decide) (hs i) (hpl i), im_b imb_min2 (im_a1 q (im_a1 q2 im_a0))⟩
end
/-! ### calls of defs -/
theorem d_call {x : Str} {px : Pos} {f : Addr} {fd : FuncData} {ps : List Str} {np : Nat} {g : Fn} (hG : ∀ i, FnOk (F.X i).prog (F.X i).w (F.X i).K (F.X i).mg (F.X i).base (L2.CX (F.X i).prog (F.X i).w) F.k f fd ps (spD F.K F.T np g)) (hm : ∀ i, (F.X i).mg x = some (.ref f)) (hk : PySem.W.keepIn F.K (.ref f) = true) (hb : Binds F.K fd ps [])
    (ha : PDA F (e :: es) m) (hg : ∀ i, Gl (F.X i) x := by exact fun _ => rfl) (hdb : (x == ("__debug__" : Str)) = false := by decide) (he : ∀ i, starEach (e :: es) (F.X i).env = (false, eval e (F.X i).env) :: starEach es (F.X i).env := by intro _; rfl)
    (hpl : ∀ i, (backTo pos (starEach es (F.X i).env)).any (·.1) = false := by intro _; rfl) : PDE F (.Call (.Name x px) (e :: es) [] pos) (mCall np g m) := by
  obtain ⟨t, p, q⟩ := ha
  exact ⟨_, fun i => pe_call (hG i) (F.room i) (hg i) (hm i) (by rw [F.hK i]; exact hk) (by rw [F.hK i]; exact hb) .nil passL (p i) hdb (he i) (hpl i), im_call q⟩
theorem d_callN {x : Str} {px : Pos} {f : Addr} {fd : FuncData} {ps : List Str} {np : Nat} {g : Fn} (hG : ∀ i, FnOk (F.X i).prog (F.X i).w (F.X i).K (F.X i).mg (F.X i).base (L2.CX (F.X i).prog (F.X i).w) F.k f fd ps (spD F.K F.T np g)) (hm : ∀ i, (F.X i).mg x = some (.ref f)) (hk : PySem.W.keepIn F.K (.ref f) = true) (hb : Binds F.K fd ps [])
    (ha : PDA F (e :: es) m) (hg : ∀ i, Gl (F.X i) x := by exact fun _ => rfl) (hdb : (x == ("__debug__" : Str)) = false := by decide) (he : ∀ i, starEach (e :: es) (F.X i).env = (false, eval e (F.X i).env) :: starEach es (F.X i).env := by intro _; rfl)
    (hpl : ∀ i, (backTo pos (starEach es (F.X i).env)).any (·.1) = false := by intro _; rfl) : PDN F (.Call (.Name x px) (e :: es) [] pos) (mCallN np g m) := by
  obtain ⟨t, p, q⟩ := ha
  exact ⟨_, fun i => pe_call (hG i) (F.room i) (hg i) (hm i) (by rw [F.hK i]; exact hk) (by rw [F.hK i]; exact hb) .nil passL (p i) hdb (he i) (hpl i), im_callN q⟩
/-! ### targets, what is walked -/
theorem d_gn (j : Nat) {x : Str} (hi : ∀ i, (F.X i).N[j]? = some x := by exact fun _ => rfl) (hx : ∀ i, Loc (F.X i).env.scope x := by first | exact fun _ => Or.inl rfl | exact fun _ => Or.inr rfl) (hf : ∀ i, (F.X i).fn x = true ∨ (F.X i).env.scope.names.lookup x = some .local := by first | exact fun _ => .inl rfl | exact fun _ => .inr rfl) :
    PDG F (.Name x pos) (mgN j) := ⟨_, fun i => pg_name (F.nd i) (hi i) (hx i) (hf i), img_n j⟩
theorem d_g0 : PDGs F [] mg0 := ⟨_, fun _ => pgs_nil, img_0⟩
theorem d_g1 {g : MG} {gs : MGs} (h : PDG F e g) (h2 : PDGs F es gs) (hs : ∀ i, (assignEach (e :: es) (F.X i).env).map (·.2) = assign e (F.X i).env :: (assignEach es (F.X i).env).map (·.2) := by intro _; rfl) : PDGs F (e :: es) (mg1 g gs) := by
  obtain ⟨t, p, q⟩ := h
  obtain ⟨t2, p2, q2⟩ := h2
  exact ⟨_, fun i => pgs_cons (p i) (p2 i) (hs i), img_1 q q2⟩
theorem d_gt (n : Nat) {k : Nat} {gs : MGs} (h : PDGs F es gs) (hn : ∀ i, (assignEach es (F.X i).env).length = n := by intro _; rfl) (hst : ∀ i, (assignEach es (F.X i).env).findIdx? (·.1) = none := by intro _; rfl) : PDG F (.Tuple es k pos) (mgT n gs) := by
  obtain ⟨t, p, q⟩ := h
  exact ⟨_, fun i => by have := pg_tup (pos := pos) (k := k) (F.calm i) (p i) (hn i) (hst i); rw [F.hK i] at this; exact this, img_t q⟩
theorem d_i {tg : Expr} (h : PDE F e me) : PDI F tg e (mQE me) := by
  obtain ⟨t, p, q⟩ := h
  exact ⟨_, fun i => by have := pi_any (tg := tg) (p i); rw [F.hK i] at this; exact this, im_i q⟩
theorem d_r1 {tg : Expr} {px : Pos} (hm : ∀ i, (F.X i).mg "range" = none) (h : PDE F e me) (hg : ∀ i, Gl (F.X i) "range" := by exact fun _ => rfl) (hs : ∀ i, starEach [e] (F.X i).env = [(false, eval e (F.X i).env)] := by intro _; rfl)
    (hs2 : ∀ i, starEach [e] (F.X i).env = (false, eval e (F.X i).env) :: starEach [] (F.X i).env := by intro _; rfl) : PDI F tg (.Call (.Name "range" px) [e] [] pos) (mR1 me) := by
  obtain ⟨t, p, q⟩ := h
  exact ⟨_, fun i => pi_range1 (hg i) (hm i) (pa_cons (p i) pa_nil (hs2 i)) (hs i), im_r1 q⟩
theorem d_r2 {tg : Expr} {px : Pos} (hm : ∀ i, (F.X i).mg "range" = none) (h : PDE F a ma) (h2 : PDE F e mb) (hg : ∀ i, Gl (F.X i) "range" := by exact fun _ => rfl) (hs : ∀ i, starEach [a, e] (F.X i).env = [(false, eval a (F.X i).env), (false, eval e (F.X i).env)] := by intro _; rfl)
    (hs2 : ∀ i, starEach [e] (F.X i).env = [(false, eval e (F.X i).env)] := by intro _; rfl) (hs3 : ∀ i, starEach [a, e] (F.X i).env = (false, eval a (F.X i).env) :: starEach [e] (F.X i).env := by intro _; rfl) (hs4 : ∀ i, starEach [e] (F.X i).env = (false, eval e (F.X i).env) :: starEach [] (F.X i).env := by intro _; rfl) :
    PDI F tg (.Call (.Name "range" px) [a, e] [] pos) (mR2 ma mb) := by
  obtain ⟨t, p, q⟩ := h
  obtain ⟨t2, p2, q2⟩ := h2
  exact ⟨_, fun i => pi_range2 (hg i) (hm i) (pa_cons (p i) (pa_cons (p2 i) pa_nil (hs4 i)) (hs3 i)) (hs i) (hs2 i), im_r2 q q2⟩
/-! ### comprehensions -/
theorem d_ts0 : PDTs F [] mYes := ⟨_, fun _ => pts_nil, im_yes⟩
theorem d_ts1 (h : PDT F e mt) : PDTs F [e] mt := by
  obtain ⟨t, p, q⟩ := h
  exact ⟨_, fun i => pts_one (p i), q⟩
/-- the target writes the block's own names alone -/
inductive GNames : Expr → List Nat → (ι : Type) → Fam ι → MG → Prop
theorem d_lc {tg elt : Expr} {ifs : List Expr} {scope : Scope} {own : List (Str × Nat)} {mi : MN} {mg : MG} {g : TG} (hi : PDI F tg e mi) (ok : ∀ i, BlkOk (F.X i).N (F.X i).env.scope scope own)
    (hg : ∀ p, PG ((F.blk scope).X p) tg g) (hgi : ImG F.K g mg) (ho : GOwn g (own.map (·.2))) (ht : PDTs (F.blk scope) ifs mt) (he : PDE (F.blk scope) elt me) (hs : ∀ i x, foldedSetIterable e (F.X i).env x = pure x := by intro _ _; rfl) :
    PDN F (.ListComp elt [⟨tg, e, ifs, 0⟩] scope pos) (mLc mi mg mt me (own.map (·.2))) := by
  obtain ⟨ti, pi, qi⟩ := hi
  obtain ⟨tt, pt, qt⟩ := ht
  obtain ⟨te, pe, qe⟩ := he
  exact ⟨_, fun i => pe_lc (F.calm i) (F.nd i) (pi i) (ok i) (fun s H C cl fp => hg (i, s, H, C, cl, fp)) (fun s H C cl fp => pt (i, s, H, C, cl, fp)) (fun s H C cl fp => pe (i, s, H, C, cl, fp)) (hs i), im_lc qi hgi ho qt qe⟩
/-! ### statements -/
theorem d_nil : PDSs F b [] mNext := ⟨_, fun _ => pss_nil, imc_next⟩
variable {st : Stmt} {sts : List Stmt} {s1 s2 : MS}
theorem d_cons (h : PDS F b st s1) (h2 : PDSs F b sts s2) : PDSs F b (st :: sts) (mSeq s1 s2) := by
  obtain ⟨t, p, q⟩ := h
  obtain ⟨t2, p2, q2⟩ := h2
  exact ⟨_, fun i => pss_cons (p i) (p2 i), imc_seq q q2⟩
theorem d_st (h : PDS F b st s1) : PDSs F b [st] s1 := by
  obtain ⟨t, p, q⟩ := h
  exact ⟨_, fun i => pss_one (p i), q⟩
theorem d_doc {x j pos'} : PDS F b (.Expr (.Constant (.str x) j pos) pos') mNext := ⟨_, fun _ => ps_doc, imc_next⟩
theorem d_pass : PDS F b (.Pass pos) mNext := ⟨_, fun _ => ps_pass, imc_next⟩
theorem d_brk : PDS F b (.Break pos) mBrk := ⟨_, fun _ => ps_break, imc_brk⟩
theorem d_cont : PDS F b (.Continue pos) mCont := ⟨_, fun _ => ps_continue, imc_cont⟩
theorem d_raise : PDS F b st mNever := ⟨_, fun _ => ps_never, imc_never⟩
theorem d_expr (h : PDE F e me) (hs : ∀ i, swapsWith e none pos.line (F.X i).env = pure false := by intro _; rfl) : PDS F b (.Expr e pos) (mDrop me) := by
  obtain ⟨t, p, q⟩ := h
  exact ⟨_, fun i => ps_expr (p i) (hs i), imc_drop q⟩
theorem d_ret (h : PDE F e me) : PDS F b (.Return (some e) pos) (mRet me) := by
  obtain ⟨t, p, q⟩ := h
  exact ⟨_, fun i => ps_ret (p i), imc_ret q⟩
theorem d_retL (h : PDN F e mn) : PDS F b (.Return (some e) pos) (mRetL mn) := by
  obtain ⟨t, p, q⟩ := h
  exact ⟨_, fun i => ps_ret (p i), imc_retL q⟩
theorem d_retN : PDS F b (.Return none pos) mRetN := ⟨_, fun _ => ps_retN, imc_retN⟩
theorem d_retV (j : Nat) {x : Str} {px : Pos} (hN : ∀ i, (F.X i).N[j]? = some x := by exact fun _ => rfl) (hv : ∀ i, Vis (F.X i).env.scope x := by first | exact fun _ => Or.inl rfl | exact fun _ => Or.inr (Or.inl rfl) | exact fun _ => Or.inr (Or.inr rfl))
    (hd : (x == ("__debug__" : Str)) = false := by decide) (hcd : (x == ("__classdict__" : Str)) = false := by decide) : PDS F b (.Return (some (.Name x px)) pos) (mRetV b j) := ⟨_, fun i => ps_ret (pe_var (hN i) (hv i) hd hcd), imc_retV⟩
theorem d_if {sa sb : List Stmt} (h : PDT F c mt) (h1 : PDSs F b sa s1) (h2 : PDSs F b sb s2) : PDS F b (.If c sa sb pos) (mIfS mt s1 s2) := by
  obtain ⟨t, p, q⟩ := h
  obtain ⟨t1, p1, q1⟩ := h1
  obtain ⟨t2, p2, q2⟩ := h2
  exact ⟨_, fun i => ps_if (p i) (p1 i) (p2 i), imc_if q q1 q2⟩
theorem d_set (j : Nat) {x : Str} {px : Pos} (h : PDE F e me) (hi : ∀ i, (F.X i).N[j]? = some x := by exact fun _ => rfl) (hx : ∀ i, Loc (F.X i).env.scope x := by first | exact fun _ => Or.inl rfl | exact fun _ => Or.inr rfl) (hs : ∀ i, swapsWith e (some (.Name x px)) pos.line (F.X i).env = pure false := by intro _; rfl)
    (hf : ∀ i, (F.X i).fn x = true ∨ (F.X i).env.scope.names.lookup x = some .local := by first | exact fun _ => .inl rfl | exact fun _ => .inr rfl) : PDS F b (.Assign [.Name x px] e pos) (mAsg me (mgN j)) := by
  obtain ⟨t, p, q⟩ := h
  exact ⟨_, fun i => ps_set (F.nd i) (hi i) (hx i) (p i) (hs i) (hf i), imc_asg q (img_n j)⟩
theorem d_new (j : Nat) {x : Str} {px : Pos} (h : PDN F e mn) (hi : ∀ i, (F.X i).N[j]? = some x := by exact fun _ => rfl) (hx : ∀ i, Loc (F.X i).env.scope x := by first | exact fun _ => Or.inl rfl | exact fun _ => Or.inr rfl) (hs : ∀ i, swapsWith e (some (.Name x px)) pos.line (F.X i).env = pure false := by intro _; rfl)
    (hf : ∀ i, (F.X i).fn x = true ∨ (F.X i).env.scope.names.lookup x = some .local := by first | exact fun _ => .inl rfl | exact fun _ => .inr rfl) : PDS F b (.Assign [.Name x px] e pos) (mNew j mn) := by
  obtain ⟨t, p, q⟩ := h
  exact ⟨_, fun i => ps_set (F.nd i) (hi i) (hx i) (p i) (hs i) (hf i), imc_new q⟩
/-- x = [..], a comprehension on the name's own line -/
theorem d_lcP {tg elt : Expr} {ifs : List Expr} {scope : Scope} {own : List (Str × Nat)} {mi : MN} {mg : MG} {g : TG} (j : Nat) {y : Str} {py spos : Pos} (hi : PDI F tg e mi) (ok : ∀ i, BlkOk (F.X i).N (F.X i).env.scope scope own)
    (hg : ∀ p, PG ((F.blk scope).X p) tg g) (hgi : ImG F.K g mg) (ho : GOwn g (own.map (·.2))) (ht : PDTs (F.blk scope) ifs mt) (he : PDE (F.blk scope) elt me)
    (hsw : ∀ i, swapsWith (.ListComp elt [⟨tg, e, ifs, 0⟩] scope pos) (some (.Name y py)) spos.line (F.X i).env = pure true) (hy : ∀ i, (F.X i).N[j]? = some y := by exact fun _ => rfl) (hyl : ∀ i, (F.X i).env.scope.names.lookup y = some .local := by exact fun _ => rfl)
    (hs : ∀ i x, foldedSetIterable e (F.X i).env x = pure x := by intro _ _; rfl) : ∃ t, (∀ i, PS (F.X i) (.Assign [.Name y py] (.ListComp elt [⟨tg, e, ifs, 0⟩] scope pos) spos) (tAsg t (gName j))) ∧ ImN F.K t (mLc mi mg mt me (own.map (·.2))) := by
  obtain ⟨ti, pi, qi⟩ := hi
  obtain ⟨tt, pt, qt⟩ := ht
  obtain ⟨te, pe, qe⟩ := he
  exact ⟨_, fun i => ps_setLc (F.calm i) (F.nd i) (hy i) (hyl i) (hsw i) (pi i) (ok i) (fun s H C cl fp => hg (i, s, H, C, cl, fp)) (fun s H C cl fp => pt (i, s, H, C, cl, fp)) (fun s H C cl fp => pe (i, s, H, C, cl, fp)) (hs i), im_lc qi hgi ho qt qe⟩
theorem d_lcS {j : Nat} (h : ∃ t, (∀ i, PS (F.X i) st (tAsg t (gName j))) ∧ ImN F.K t mn) : PDS F b st (mAsg (mEN mn) (mgN j)) := by
  obtain ⟨t, p, q⟩ := h
  exact ⟨_, p, imc_asg (im_en q) (img_n j)⟩
theorem d_lcC {j : Nat} (h : ∃ t, (∀ i, PS (F.X i) st (tAsg t (gName j))) ∧ ImN F.K t mn) : PDS F b st (mNew j mn) := by
  obtain ⟨t, p, q⟩ := h
  exact ⟨_, p, imc_new q⟩
theorem d_unp {tg : Expr} {g : MG} (h : PDE F e me) (hg : PDG F tg g) (hs : ∀ i, swapsWithSole [tg] e pos.line (F.X i).env = pure false := by intro _; rfl) (hw : ∀ i, swappedStores [tg] e (F.X i).env = pure none := by intro _; rfl)
    (h1 : ∀ i, (assignEach [tg] (F.X i).env).map (·.2) = [assign tg (F.X i).env] := by intro _; rfl) : PDS F b (.Assign [tg] e pos) (mAsg me g) := by
  obtain ⟨t, p, q⟩ := h
  obtain ⟨t2, p2, q2⟩ := hg
  exact ⟨_, fun i => ps_asg (p i) (p2 i) (hs i) (hw i) (h1 i), imc_asg q q2⟩
theorem d_augA (j : Nat) {x : Str} {px : Pos} (h : PDE F e me) (hi : ∀ i, (F.X i).N[j]? = some x := by exact fun _ => rfl) (hx : ∀ i, Loc (F.X i).env.scope x := by first | exact fun _ => Or.inl rfl | exact fun _ => Or.inr rfl) (hf : ∀ i, (F.X i).fn x = true ∨ (F.X i).env.scope.names.lookup x = some .local := by first | exact fun _ => .inl rfl | exact fun _ => .inr rfl) :
    PDS F b (.AugAssign (.Name x px) .Add e pos) (mAug j (fI0 fun i j => .int (i + j)) me) := by
  obtain ⟨t, p, q⟩ := h
  exact ⟨_, fun i => ps_aug (F.nd i) (hi i) (hx i) (p i) ip_add (hf i), imc_aug imr_ipadd q⟩
theorem d_augS (j : Nat) {x : Str} {px : Pos} (h : PDE F e me) (hi : ∀ i, (F.X i).N[j]? = some x := by exact fun _ => rfl) (hx : ∀ i, Loc (F.X i).env.scope x := by first | exact fun _ => Or.inl rfl | exact fun _ => Or.inr rfl) (hf : ∀ i, (F.X i).fn x = true ∨ (F.X i).env.scope.names.lookup x = some .local := by first | exact fun _ => .inl rfl | exact fun _ => .inr rfl) :
    PDS F b (.AugAssign (.Name x px) .Sub e pos) (mAug j (fI0 fun i j => .int (i - j)) me) := by
  obtain ⟨t, p, q⟩ := h
  exact ⟨_, fun i => ps_aug (F.nd i) (hi i) (hx i) (p i) ip_sub (hf i), imc_aug imr_ipsub q⟩
/-- x[e] = v -/
theorem d_put (j : Nat) {x : Str} {px p2 : Pos} (hi : PDE F a ma) (hv : PDE F e me) (hN : ∀ i, (F.X i).N[j]? = some x := by exact fun _ => rfl) (hvis : ∀ i, Vis (F.X i).env.scope x := by first | exact fun _ => Or.inl rfl | exact fun _ => Or.inr (Or.inl rfl) | exact fun _ => Or.inr (Or.inr rfl))
    (hd : (x == ("__debug__" : Str)) = false := by decide) (hcd : (x == ("__classdict__" : Str)) = false := by decide)
    (ha : ∀ i v, assign (.Subscript (.Name x px) a p2) (F.X i).env v = (do
      let ov ← holding [v] (eval (.Name x px) (F.X i).env)
      let iv ← holding [v, ov] (eval a (F.X i).env)
      standAt p2
      holding [v, ov, iv] (setItem ov iv v)
      release [v, ov, iv] []) := by intro _ _; rfl) (hs : ∀ i, swapsWithSole [.Subscript (.Name x px) a p2] e pos.line (F.X i).env = pure false := by intro _; rfl) (hw : ∀ i, swappedStores [.Subscript (.Name x px) a p2] e (F.X i).env = pure none := by intro _; rfl)
    (h1 : ∀ i, (assignEach [.Subscript (.Name x px) a p2] (F.X i).env).map (·.2) = [assign (.Subscript (.Name x px) a p2) (F.X i).env] := by intro _; rfl) : PDS F b (.Assign [.Subscript (.Name x px) a p2] e pos) (mSub j ma me) := by
  obtain ⟨t, p, q⟩ := hi
  obtain ⟨t2, p2, q2⟩ := hv
  exact ⟨_, fun i => ps_asg (p2 i) (pg_sub (pe_var (hN i) (hvis i) hd hcd) (p i) set_list (ha i)) (hs i) (hw i) (h1 i), imc_sub q q2⟩
/-- methods of lists -/
theorem d_app (j : Nat) {x : Str} {px apos : Pos} (h : PDE F e me) (hN : ∀ i, (F.X i).N[j]? = some x := by exact fun _ => rfl) (hv : ∀ i, Vis (F.X i).env.scope x := by first | exact fun _ => Or.inl rfl | exact fun _ => Or.inr (Or.inl rfl) | exact fun _ => Or.inr (Or.inr rfl))
    (hd : (x == ("__debug__" : Str)) = false := by decide) (hcd : (x == ("__classdict__" : Str)) = false := by decide) (hbase : ∀ i, attributeBase (.Name x px) "append" (F.X i).env (eval (.Name x px) (F.X i).env) = eval (.Name x px) (F.X i).env := by intro _; rfl)
    (hfew : ∀ i, ((backTo pos (starEach [e] (F.X i).env)).all (fun x => !x.1) && (backToKw pos (keywordEach [] (F.X i).env)).all (fun x => x.1.isSome) && decide ([e].length + ([] : List Keyword).length + (if ([] : List Keyword).isEmpty then 0 else 1) < 30)) = true := by intro _; rfl)
    (hline : (apos.endLine == pos.line) = true := by rfl) (hs : ∀ i, starEach [e] (F.X i).env = (false, eval e (F.X i).env) :: starEach [] (F.X i).env := by intro _; rfl) : PDE F (.Call (.Attribute (.Name x px) "append" apos) [e] [] pos) (mApp j me) := by
  obtain ⟨t, p, q⟩ := h
  exact ⟨_, fun i => by have := pe_bm (cpos := pos) (apos := apos) PySem.F.plainAttrs_list PySem.F.slot_list_append PySem.F.type_list_append (mt_append (X := F.X i)) (pe_var (pos := px) (hN i) (hv i) hd hcd) (pa_cons (p i) pa_nil (hs i)) (hbase i) (hfew i) hline (hs i) rfl; rw [F.hK i] at this; exact this, im_app q⟩
theorem d_ext (j : Nat) {x : Str} {px apos : Pos} (h : PDN F e mn) (hN : ∀ i, (F.X i).N[j]? = some x := by exact fun _ => rfl) (hv : ∀ i, Vis (F.X i).env.scope x := by first | exact fun _ => Or.inl rfl | exact fun _ => Or.inr (Or.inl rfl) | exact fun _ => Or.inr (Or.inr rfl))
    (hd : (x == ("__debug__" : Str)) = false := by decide) (hcd : (x == ("__classdict__" : Str)) = false := by decide) (hbase : ∀ i, attributeBase (.Name x px) "extend" (F.X i).env (eval (.Name x px) (F.X i).env) = eval (.Name x px) (F.X i).env := by intro _; rfl)
    (hfew : ∀ i, ((backTo pos (starEach [e] (F.X i).env)).all (fun x => !x.1) && (backToKw pos (keywordEach [] (F.X i).env)).all (fun x => x.1.isSome) && decide ([e].length + ([] : List Keyword).length + (if ([] : List Keyword).isEmpty then 0 else 1) < 30)) = true := by intro _; rfl)
    (hline : (apos.endLine == pos.line) = true := by rfl) (hs : ∀ i, starEach [e] (F.X i).env = (false, eval e (F.X i).env) :: starEach [] (F.X i).env := by intro _; rfl) : PDE F (.Call (.Attribute (.Name x px) "extend" apos) [e] [] pos) (mExtN j mn) := by
  obtain ⟨t, p, q⟩ := h
  exact ⟨_, fun i => by have := pe_bm (cpos := pos) (apos := apos) PySem.F.plainAttrs_list PySem.F.slot_list_extend PySem.F.type_list_extend (mt_extend (X := F.X i)) (pe_var (pos := px) (hN i) (hv i) hd hcd) (pa_cons (p i) pa_nil (hs i)) (hbase i) (hfew i) hline (hs i) rfl; rw [F.hK i] at this; exact this, im_extN q⟩
theorem d_pop (j : Nat) {x : Str} {px apos : Pos} (hN : ∀ i, (F.X i).N[j]? = some x := by exact fun _ => rfl) (hv : ∀ i, Vis (F.X i).env.scope x := by first | exact fun _ => Or.inl rfl | exact fun _ => Or.inr (Or.inl rfl) | exact fun _ => Or.inr (Or.inr rfl))
    (hd : (x == ("__debug__" : Str)) = false := by decide) (hcd : (x == ("__classdict__" : Str)) = false := by decide) (hbase : ∀ i, attributeBase (.Name x px) "pop" (F.X i).env (eval (.Name x px) (F.X i).env) = eval (.Name x px) (F.X i).env := by intro _; rfl)
    (hline : (apos.endLine == pos.line) = true := by rfl) : PDE F (.Call (.Attribute (.Name x px) "pop" apos) [] [] pos) (mPop j) :=
  ⟨_, fun i => by have := pe_bm0 (cpos := pos) (apos := apos) PySem.F.plainAttrs_list PySem.F.slot_list_pop PySem.F.type_list_pop (mt_pop (X := F.X i)) (pe_var (pos := px) (hN i) (hv i) hd hcd) (hbase i) hline; rw [F.hK i] at this; exact this, im_pop⟩
/-- loops -/
theorem d_for {tg : Expr} {body : List Stmt} {mi : MN} {mg : MG} (hi : PDI F tg e mi) (hg : PDG F tg mg) (h : PDSs F b body s1) (hp : ∀ i, PassesOwn (model (F.X i).prog (F.X i).w) (F.X i).A (F.X i).env (F.X i).xe := by first | exact fun _ => passes_of rfl | exact fun i => i.2.2.2) (hs : ∀ i x, foldedSetIterable e (F.X i).env x = pure x := by intro _ _; rfl) :
    PDS F b (.For tg e body [] pos) (mFor mi mg s1) := by
  obtain ⟨t, p, q⟩ := hi
  obtain ⟨t2, p2, q2⟩ := hg
  obtain ⟨t3, p3, q3⟩ := h
  exact ⟨_, fun i => ps_for (hp i) (F.calm i) (p i) (p2 i) (p3 i) (hs i), imc_for q q2 q3⟩
theorem d_while (n : Nat) {body : List Stmt} (hc : PDT F c mt) (h : PDSs F b body s1) (hp : ∀ i, PassesOwn (model (F.X i).prog (F.X i).w) (F.X i).A (F.X i).env (F.X i).xe := by first | exact fun _ => passes_of rfl | exact fun i => i.2.2.2) : PDS F b (.While c body [] pos) (whRun mt s1 n) := by
  obtain ⟨t, p, q⟩ := hc
  obtain ⟨t3, p3, q3⟩ := h
  exact ⟨_, fun i => ps_while (hp i) (p i) (p3 i), imc_while q q3⟩
end
/-- a def's body -/
def Fam.top (P : Program) (w : World) (K : PySem.W.Frag) (mg : Str → Option Value) (base : Heap) (N : List Str) (qual : Str) (scope : Scope) (f : Addr) (cd : Value) (A : Around) (outer : List Env) (s : Shared) (H : Hp) (E : XK) (k : Nat) (hr : Room k (A.deeper (PyProof.Rows.envOfC qual scope s.heap.objs.size f cd))) (nd : N.Nodup) (T : ET) : Fam Unit where
  X := fun _ => cxOf (L2.CX P w) P w K mg base N qual scope f cd A outer s H E
  K := K
  k := k
  hK := fun _ => rfl
  calm := fun _ => rfl
  room := fun _ => hr
  nd := fun _ => nd
  T := T
  W := fun cls d _ H => E cls d H
  tk := fun _ => takes_of rfl rfl rfl rfl
theorem def_d {T : ET} {P : Program} {w : World} {K : PySem.W.Frag} {mg : Str → Option Value} {base : Heap} {x qual : Str} {st : Stmt} {f : Addr} {fd : FuncData} {N ps : List Str} {k np ns : Nat} {body : Nat → MS} (F : Fun K x qual st f fd) (Sc : FnScope N ps (defScope st)) (hp : ps.length = np) (hN : N.length = ns)
    (h : ∀ (cdv : Value) (A : Around) (outer : List Env) (s : Shared) (H : Hp) (E : XK) (b : Nat) (hr : Room k (A.deeper (PyProof.Rows.envOfC qual (defScope st) s.heap.objs.size f cdv))),
      PDSs (Fam.top P w K mg base N qual (defScope st) f cdv A outer s H E k hr Sc.nd T) b (defBody st) (body b)) : FnOk P w K mg base (L2.CX P w) (k + 1) f fd ps (spD K T np (mDef np ns body)) :=
  def_ok F Sc hp hN fun cdv A outer s H E b hr => let ⟨t, p, q⟩ := h cdv A outer s H E b hr; ⟨t, p (), q⟩
end G
set_option Elab.async false
set_option linter.all false
set_option autoImplicit false
set_option maxRecDepth 100000
set_option maxHeartbeats 4000000
namespace G
open PySem PySem.Spec PyProof.Rows L2
theorem ext_tup (l : Addr) (items : Array Value) (n : Nat) (b : Addr) (items2 : Array Value) (n2 : Nat) (dd : Option Addr) (sl : Array (Option Value)) (hs0 : ¬(!items.isEmpty && Builtin.List.listTooLong (items.size + items2.size)) = true) (hs1 : items.size ≤ sizeLine) (hs2 : items.size + items2.size ≤ sizeLine + 1) :
    Meets (Builtin.«list.extend» ⟨[.ref l, .ref b], []⟩) (fun _ R s => s.heap.get? l = some { cls := .type "list", dict := none, data := .seq items n, slots := #[] } ∧ s.heap.get? b = some { cls := .type "tuple", dict := dd, data := .seq items2 n2, slots := sl } ∧ R (.ok (.ret Value.none)) { s with heap := s.heap.update l (Obj.mapSeq fun x => x ++ items2), toks := s.toks }) :=
  .of_wp fun prog w A R s h => by
    obtain ⟨hp, g, d, tk, os⟩ := s; obtain ⟨hl, hb, h⟩ := h
    have f1 := AutoSeq1.idx_int; have f2 := AutoSeq1.sub_tuple_tuple; have f3 := AutoSeq1.sub_list_list; have f4 := AutoSeq1.sub_tuple_list; have f5 := AutoSeq1.sub_list_tuple
    have hz' : (items ++ items2).size ≤ sizeLine + 1 := by rw [Array.size_append]; exact hs2
    wp_walk using (wpAny_updateSeq hl rfl (hz := hs1) (_hz' := hz')), wpAny_loadPart' hl, wpAny_loadPart' hb
    exact ⟨_, rfl, h⟩
def rExtT (K : PySem.W.Frag) : V → List V → Hp → VK → Prop := fun x vs H Q => ∃ l b xs zs, x = .ref l ∧ vs = [.ref b] ∧ H l = some (.lst xs) ∧ SqT K H b zs ∧ xs.length + zs.length ≤ sizeLine ∧ Q .non (upd H l (.lst (xs ++ zs)))
theorem mt_extT {X : Cx} : MtR X "list.extend" (rExtT X.K) := by
  intro pins s σ H x vs v us Q I rx rv h
  obtain ⟨l, b, xs, zs, rfl, rfl, hH, hB, hz, q⟩ := h
  cases rx
  obtain ⟨u, rfl, ru⟩ := rv.one
  cases ru
  obtain ⟨z, its, n, r, hl, e⟩ := I.lstM hH
  obtain ⟨its2, r2, ⟨⟨cls, dd, data, sl⟩, ho, hc, n2, hd⟩, hs⟩ := I.tuple hB
  simp only at hc hd
  subst hc hd
  have hl2 := r2.length
  have hsz : its.toArray.size + its2.toArray.size ≤ sizeLine := by rw [List.size_toArray, List.size_toArray]; omega
  have hlong : ¬ (!its.toArray.isEmpty && Builtin.List.listTooLong (its.toArray.size + its2.toArray.size)) = true := by
    rw [notLongL hsz, Bool.and_false]
    exact Bool.false_ne_true
  refine call_meets F.slot_list_extend ⟨_, e, rfl⟩ F.entry_list_extend (F.args_list_extend_2 _ _)
    (ext_tup l its.toArray n b its2.toArray n2 dd sl hlong (by rw [List.size_toArray]; omega) (by omega)) ⟨e, ho, ?_⟩
  refine ⟨.non, _, I.lset (its' := its ++ its2) hH e (by simp) (r.append r2) ?_, rfl, q⟩
  rw [List.length_append]
  omega
theorem tuple_mul1 (l : Addr) (items : Array Value) (n : Nat) (dd : Option Addr) (sl : Array (Option Value)) (u : Tok) :
    Meets (Builtin.«tuple.__mul__» ⟨[.ref l, .int 1 u], []⟩) (fun _ R s => s.heap.get? l = some { cls := .type "tuple", dict := dd, data := .seq items n, slots := sl } ∧ R (.ok (.ret (Value.ref l))) s) :=
  .of_wp fun prog w A R s h => by
    obtain ⟨hp, g, d, tk, os⟩ := s
    obtain ⟨hl, h⟩ := h
    have f1 := AutoSeq1.idx_int
    wp_walk using wpAny_loadPart' hl
    exact ⟨_, rfl, h⟩
def rRep1 (K : PySem.W.Frag) : R2 := fun x y H Q => ∃ l xs, x = .ref l ∧ y = .int 1 ∧ SqT K H l xs ∧ Q (.ref l) H
theorem op_rep1 {X : Cx} : OpR X (binaryOp .Mult) (rRep1 X.K) := by
  intro pins s σ H x y v u Q I rx ry h
  obtain ⟨l, xs, rfl, rfl, hT, q⟩ := h
  cases rx
  obtain ⟨t, rfl⟩ := ry
  obtain ⟨its, r, ⟨⟨cls, dd, data, sl⟩, ho, hc, n, hd⟩, hs⟩ := I.tuple hT
  simp only at hc hd
  subst hc hd
  exact wpAny_binaryOp_repeat_ref (T := "tuple") (U := "int") (by decide) ⟨_, ho, rfl⟩ (fun s' => typeIs_int s' 1 t) noFill_tuple_mul F.fills_int_mul F.slot_int_rmul repeat_tuple F.slot_int_index.lookup
    (call_meets F.slot_int_rmul (typeIs_int s 1 t) F.entry_int_rmul (F.args_int_rmul_2 _ _) (int_rmul_tuple 1 t l its.toArray n dd sl)
      ⟨ho, rfl, ⟨_, ho, rfl⟩, call_meets F.slot_tuple_mul ⟨_, ho, rfl⟩ F.entry_tuple_mul (F.args_tuple_mul_2 _ _) (tuple_mul1 l its.toArray n dd sl t) ⟨ho, ⟨.ref l, H, I, rfl, q⟩⟩⟩)
section
variable {K : PySem.W.Frag}
def fRep (x y : D) : Option D := match x, y with
  | .tuple xs, .int k => if xs ≠ [] ∧ 1 ≤ k ∧ k ≤ 1000 ∧ xs.length ≤ 1000 then some (.tuple (List.replicate k.toNat xs).flatten) else none
  | _, _ => none
theorem RlA.rep {M : Adr} {H : Hp} {vs : List V} {ds : List D} (h : RlA K M H vs ds) : ∀ k : Nat, RlA K M H (List.replicate k vs).flatten (List.replicate k ds).flatten
  | 0 => .nil
  | k + 1 => by
    rw [List.replicate_succ, List.replicate_succ, List.flatten_cons, List.flatten_cons]
    exact h.append (RlA.rep h k)
theorem imr_rep : ImR K (fun x y H Q => rRepT K x y H Q ∨ rRep1 K x y H Q) fRep := fun H M S x y dx dy dz ok rx ry e Q q => by
  unfold fRep at e
  split at e <;> first | (cases e; done) | skip
  rename_i xs k
  split at e <;> cases e
  rename_i hh
  obtain ⟨h0, h1, h2, h3⟩ := hh
  cases rx with
  | tup g1 g2 =>
    cases ry
    rename_i a vs
    by_cases hk : k = 1
    · subst hk
      refine .inr ⟨a, vs, rfl, rfl, g1, ?_⟩
      have : (List.replicate (1 : Int).toNat xs).flatten = xs := by show ([xs] : List (List D)).flatten = xs; simp
      rw [this] at q
      exact q.here ok (.tup g1 g2)
    · refine .inl ⟨a, k, vs, rfl, rfl, g1, fun e => ?_, by omega, h2, by rw [g2.len]; exact h3, fun p hp => ?_⟩
      · subst e
        cases g2
        exact h0 rfl
      · exact q _ _ M (Ext.new hp) (ok.new hp) (.tup (.inl (.inl upd_same)) ((g2.rep _).mono (Ext.new hp)))
def fMulX (x y : D) : Option D := (fMul x y).or (fRep x y)
theorem imr_mulX : ImR K (fun x y H Q => rI CMul (fun i j => .int (i * j)) x y H Q ∨ (rRepT K x y H Q ∨ rRep1 K x y H Q)) fMulX := imr_or imr_mul imr_rep
/-- x.extend(a tuple) -/
def mExtT (i : Nat) (m : ME) : ME := fun ρ S => match ρ[i]? with
  | some (some (.loc n)) => (S[n]?.join).bind fun _ => (m ρ S).bind fun p => match p.1 with
    | .tuple ys => (p.2[n]?.join).bind fun xs => if xs.length + ys.length ≤ 1000000 then some (.none, p.2.set n (some (xs ++ ys))) else none
    | _ => none
  | _ => none
theorem im_extT {i : Nat} {te : TE} {me : ME} (h : ImE K te me) : ImE K (tBM K "list" (rExtT K) (tVar i) (tCons te tNil)) (mExtT i me) := fun σ H M ρ S d S' hs ok e Q q => by
  unfold mExtT at e
  split at e <;> first | (cases e; done) | skip
  rename_i n en
  cases e0 : S[n]?.join with
  | none => rw [e0] at e; cases e
  | some xs0 =>
    rw [e0, Option.bind_some] at e
    cases e1 : me ρ S with
    | none => rw [e1] at e; cases e
    | some p =>
      rw [e1, Option.bind_some] at e
      split at e <;> first | (cases e; done) | skip
      rename_i ys ey
      cases e3 : p.2[n]?.join with
      | none => rw [e3] at e; cases e
      | some xs =>
        rw [e3, Option.bind_some] at e
        split at e <;> cases e
        rename_i hz
        obtain ⟨a, us, hw, _, hus, _⟩ := cell_at hs ok en (join_some e0)
        refine ⟨_, hw, tyl hus, ?_⟩
        refine h σ H M ρ S p.1 p.2 hs ok e1 _ fun v H1 M1 x1 ok1 r1 => ?_
        obtain ⟨a', vs, c1, c2, c3, c4⟩ := cell_at (hs.mono x1) ok1 en (join_some e3)
        rw [hw] at c1
        cases c1
        rw [ey] at r1
        cases r1 with
        | tup g1 g2 =>
          rename_i l ws
          refine ⟨a, l, vs, ws, rfl, rfl, c3, g1, Nat.le_trans (show vs.length + ws.length ≤ 1000000 by rw [c4.len, g2.len]; exact hz) big, ?_⟩
          have xc : Ext M1 H1 M1 (upd H1 a (.lst (vs ++ ws))) := Ext.setc (List.mem_of_getElem? c2) c3
          exact q _ _ M1 (x1.trans xc) (ok1.setc c2 c3 (c4.append g2)) .non
end
section
variable {ι : Type} {F : Fam ι} {a e : Expr} {ma mb me : ME} {pos : Pos}
theorem d_mulX (h1 : PDE F a ma) (h2 : PDE F e mb) : PDE F (.BinOp a .Mult e pos) (mOp fMulX ma mb) := by
  obtain ⟨t1, p1, q1⟩ := h1
  obtain ⟨t2, p2, q2⟩ := h2
  exact ⟨_, fun i => pe_op (by have := OpR.or (op_mul (X := F.X i)) (OpR.or op_repT op_rep1); rw [F.hK i] at this; exact this) (p1 i) (p2 i), im_op imr_mulX q1 q2⟩
theorem d_extT (j : Nat) {x : Str} {px apos : Pos} (h : PDE F e me) (hN : ∀ i, (F.X i).N[j]? = some x := by exact fun _ => rfl) (hv : ∀ i, Vis (F.X i).env.scope x := by first | exact fun _ => Or.inl rfl | exact fun _ => Or.inr (Or.inl rfl) | exact fun _ => Or.inr (Or.inr rfl))
    (hd : (x == ("__debug__" : Str)) = false := by decide) (hcd : (x == ("__classdict__" : Str)) = false := by decide) (hbase : ∀ i, attributeBase (.Name x px) "extend" (F.X i).env (eval (.Name x px) (F.X i).env) = eval (.Name x px) (F.X i).env := by intro _; rfl)
    (hfew : ∀ i, ((backTo pos (starEach [e] (F.X i).env)).all (fun x => !x.1) && (backToKw pos (keywordEach [] (F.X i).env)).all (fun x => x.1.isSome) && decide ([e].length + ([] : List Keyword).length + (if ([] : List Keyword).isEmpty then 0 else 1) < 30)) = true := by intro _; rfl)
    (hline : (apos.endLine == pos.line) = true := by rfl) (hs : ∀ i, starEach [e] (F.X i).env = (false, eval e (F.X i).env) :: starEach [] (F.X i).env := by intro _; rfl) : PDE F (.Call (.Attribute (.Name x px) "extend" apos) [e] [] pos) (mExtT j me) := by
  obtain ⟨t, p, q⟩ := h
  exact ⟨_, fun i => by have := pe_bm (cpos := pos) (apos := apos) PySem.F.plainAttrs_list PySem.F.slot_list_extend PySem.F.type_list_extend (mt_extT (X := F.X i)) (pe_var (pos := px) (hN i) (hv i) hd hcd) (pa_cons (p i) pa_nil (hs i)) (hbase i) (hfew i) hline (hs i) rfl; rw [F.hK i] at this; exact this, im_extT q⟩
end
end G
set_option Elab.async false
set_option linter.all false
set_option autoImplicit false
set_option maxRecDepth 100000
set_option maxHeartbeats 4000000
/-! enumerate of tuples and lists, zip, in and not in, by data. -/
namespace G
open PySem PySem.Spec PyProof.Rows L2

/-! ### enumerate(tuple), on the heap -/
def IteT (K : PySem.W.Frag) (a : Addr) : It :=
  ⟨fun i H => ∃ (xs : List V) (x : V), SqT K H a xs ∧ xs[i]? = some x, fun i H v H' => ∃ T x, v = .ref T ∧ H T = none ∧ H' = upd H T (.tup [.int (i : Nat), x]) ∧ ∀ xs, SqT K H a xs → xs[i]? = some x, fun i H => ∃ xs : List V, SqT K H a xs ∧ xs.length ≤ i⟩
theorem turn_enumT {P : Program} {w : World} {K : PySem.W.Frag} {elts : List Expr} {kk : Nat} {tpos : Pos} (a e it : Addr) :
    Turn P w K (.Tuple elts kk tpos) (IteT K a) [e, it] e (fun i h => (∃ old, IsEnum h e it ((i : Nat) : Int) old) ∧ h.IsTupleIter it a i ∧ e ≠ it ∧ a ≠ it ∧ a ≠ e) where
  mem := by simp
  obj := fun i h st b hb => by
    obtain ⟨⟨old, he⟩, ⟨o, ho, hc, hd⟩, _⟩ := st
    have e' : b = e ∨ b = it := by simpa using hb
    rcases e' with z | z
    · rw [z]; exact ⟨_, he, fun v q => nomatch q⟩
    · rw [z]; exact ⟨o, ho, fun v q => by rw [hd] at q; cases q⟩
  keep := fun i h h' st k => let ⟨⟨old, he⟩, hi, hne⟩ := st; ⟨⟨old, k e (by simp) _ he⟩, hi.at fun o q => k it (by simp) o q, hne⟩
  item := by
    intro X hP hw hK hc i pins s σ H E I hf st hg
    subst hP hw hK
    obtain ⟨⟨old, he⟩, hit, hne, hai, hae⟩ := st
    obtain ⟨xs, x, hq, hx⟩ := hg
    obtain ⟨its, rv, p, hz⟩ := I.tuple hq
    obtain ⟨u, hu, ru⟩ := rv.get hx
    have hel : e < s.heap.objs.size := Heap.lt_size he
    have hil : it < s.heap.objs.size := by obtain ⟨_, q, _⟩ := hit; exact Heap.lt_size q
    have hlt : i < its.toArray.size := by
      obtain ⟨z, _⟩ := List.getElem?_eq_some_iff.mp hu
      simpa using z
    refine wpAny_pyNext_enum_itemD (Draws.tuple (prog := X.prog) (w := X.w) (A := X.A.in1) (show X.A.in1.handled = none from I.ok.hd hc) it a hai its.toArray) he (show s.heap.IsTupleIter it a i ∧ s.heap.IsTuple a its.toArray from ⟨hit, p⟩) hlt hne (by simp [hne, Ne.symm hae]) fun x' h' tk hP' ho hit' hT hsz hk => ?_
    have ex : u = x' := by
      have z : its[i]? = some x' := by simpa using hP'
      rw [hu] at z
      exact Option.some.inj z
    subst ex
    refine ⟨_, rfl, wpAny_letOwnedTupleGo_enum (s := { s with heap := h', toks := tk + 1 }) ho fun h'' he' sb => ?_⟩
    have hT2 : h''.get? s.heap.objs.size = some { cls := .type "tuple", data := .seq #[.int i tk, u] } := (sb.2 _ (Nat.ne_of_gt hel)).trans hT
    have new : ObjOk X.prog X.w (upd H s.heap.objs.size (.tup [.int (i : Nat), x])) h'' s.heap.objs.size (.tup [.int (i : Nat), x]) :=
      ⟨by show 2 ≤ sizeLine; decide, [.int i tk, u], .cons ⟨_, rfl⟩ (.cons ru .nil), ⟨_, hT2, rfl, _, rfl⟩⟩
    have I1 : Inv X pins σ (upd H s.heap.objs.size (.tup [.int (i : Nat), x])) { s with heap := h'', toks := tk + 1 } :=
      I.turnedNew (ch := [e, it]) (fun b ob hb q => (sb.2 b (fun z => hb (by simp [z]))).trans (hk b ob (fun z => hb (by simp [z])) (fun z => hb (by simp [z])) q)) hf (Nat.le_refl _) new
    refine ⟨.ref s.heap.objs.size, _, I1, rfl, ⟨_, x, rfl, I.hok.fresh (Nat.le_refl _), rfl, fun ys hy => by rw [I.tuple_inj hy hq]; exact hx⟩, ⟨⟨u, ?_⟩, hit'.1.at fun o q => (sb.2 it (Ne.symm hne)).trans q, hne, hai, hae⟩, fun b hb => ?_⟩
    · have e1 : ((i + 1 : Nat) : Int) = (i : Int) + 1 := by omega
      rw [e1]; exact he'
    · have hb' : b < s.heap.objs.size := by
        have e' : b = e ∨ b = it := by simpa using hb
        rcases e' with z | z
        · rw [z]; exact hel
        · rw [z]; exact hil
      rw [upd_ne (Nat.ne_of_lt hb')]
      exact (hf b hb).1
  done := by
    intro X hP hw hK hc i pins s σ H E I hf st hg
    subst hP hw hK
    obtain ⟨⟨old, he⟩, hit, hne, hai, hae⟩ := st
    obtain ⟨xs, hq, hx⟩ := hg
    obtain ⟨its, rv, p, hz⟩ := I.tuple hq
    obtain ⟨f0, f1, f2, f3, f4, f5⟩ := hf it (by simp)
    have hl := rv.length
    have p' : s.heap.IsTuple a its.toArray := p
    have none_ : its.toArray[i]? = none := by simp; omega
    have D : Draws X.prog X.w X.A.in1 it [it, a] i (fun _ _ => True) (fun j h => i ≤ j ∧ h.IsTupleIter it a j ∧ h.IsTuple a its.toArray) :=
      { live := fun j h z => let ⟨o, y, _⟩ := z.2.1; ⟨o, y⟩
        frame := fun j h h' z kk => ⟨z.1, z.2.1.at fun o y => kk it (by simp) o y, z.2.2.at fun o y => kk a (by simp) o y⟩
        item := fun j s Q E hj z _ => absurd z.1 (by omega)
        done := fun s Q E z hE => wpAny_nextOf_tuple_end (show X.A.in1.handled = none from I.ok.hd hc) z.2.1 z.2.2 none_ hE }
    exact wpAny_pyNext_enum_endD D he ⟨Nat.le_refl _, hit, p'⟩ fun h' eb => ⟨rfl, I.turned (t' := s.toks) (fun b o hb q => eb b o hb q) f0 f1 f3 f4 f5⟩
  self := fun A i s Q E st h => let ⟨⟨_, he⟩, _⟩ := st; wpAny_pyIter_enum he h

theorem meets_enumT (l : Addr) (items : Array Value) (n : Nat) (dct : Option Addr) (sl : Array (Option Value)) :
    Meets (Builtin.«enumerate.__new__» ⟨[.type "enumerate", .ref l], []⟩) fun _ R s => s.heap.get? l = some { cls := .type "tuple", dict := dct, data := .seq items n, slots := sl } ∧
      R (.ok (.ret (.ref (s.heap.push { cls := .type "tuple_iterator", data := .fields #[.ref l, .int 0 0] }).objs.size)))
        { s with heap := (s.heap.push { cls := .type "tuple_iterator", data := .fields #[.ref l, .int 0 0] }).push { cls := .type "enumerate", data := .fields #[.none, .bool false, .ref s.heap.objs.size, rawInt 0, .none, .none] } } :=
  .of_wp fun prog w A R s h => by
    obtain ⟨hp, g, d, tk, os⟩ := s
    obtain ⟨hl, h⟩ := h
    have sub1 := sub_enumerate
    have hT : (Shared.heap ⟨hp, g, d, tk, os⟩).IsTuple l items := ⟨_, hl, rfl, n, rfl⟩
    wp_walk using AutoSeq1.wpAny_loadPart' hl
    refine wpAny_stack_any fun st => wpAny_pure ?_
    split
    · rename_i c _ _ _ _ _
      cases (c == Value.type "enumerate")
      all_goals
        wp_walk using AutoSeq1.wpAny_loadPart' hl, wpAny_pyIter_tuple hT
        exact ⟨_, rfl, h⟩
    · wp_walk using AutoSeq1.wpAny_loadPart' hl, wpAny_pyIter_tuple hT
      exact ⟨_, rfl, h⟩
section
variable {prog : Program} {w : World} {A : Around} {E : Value → Shared → Prop} {s : Shared}
theorem call_enumT {l : Addr} {items : Array Value} {Q : Value → Shared → Prop} (hL : s.heap.IsTuple l items)
    (h : ∀ h', IsEnum h' (s.heap.objs.size + 1) s.heap.objs.size 0 .none → h'.IsTupleIter s.heap.objs.size l 0 → h'.objs.size = s.heap.objs.size + 2 → l < s.heap.objs.size →
      (∀ b o, s.heap.get? b = some o → h'.get? b = some o) → Q (.ref (s.heap.objs.size + 1)) { s with heap := h' }) :
    wpAny (model prog w) A (call (.type "enumerate") [.ref l]) Q E s := by
  obtain ⟨⟨c, dct, dt, sl⟩, hl, hc, n, hd⟩ := hL
  have hc : c = .type "tuple" := hc
  have hd : dt = .seq items n := hd
  subst hc hd
  refine callType_new PySem.F.called_enumerate (by decide) (PySem.F.typeCall_enumerate_1 _) (PySem.F.newCall_enumerate_1 _) (fun obj => PySem.F.args_object_init_2 obj _) PySem.F.entry_enumerate_new
    (meets_enumT l items n dct sl) ⟨hl, ?_⟩
  generalize ei : ({ cls := .type "tuple_iterator", data := .fields #[.ref l, .int 0 0] } : Obj) = oi
  have fi : oi.isFreed = false := by subst ei; rfl
  have g1 : (s.heap.push oi).get? s.heap.objs.size = some oi := Heap.get?_push_size _ fi
  have hz : (s.heap.push oi).objs.size = s.heap.objs.size + 1 := Heap.size_push ..
  show _ ∧ _
  rw [hz]
  generalize eo : ({ cls := .type "enumerate", data := .fields #[.none, .bool false, .ref s.heap.objs.size, rawInt 0, .none, .none] } : Obj) = oe
  have fe : oe.isFreed = false := by subst eo; rfl
  have g2 : ((s.heap.push oi).push oe).get? (s.heap.objs.size + 1) = some oe := by
    have := Heap.get?_push_size (s.heap.push oi) (o := oe) fe
    rwa [hz] at this
  subst eo
  refine ⟨⟨_, g2, rfl⟩, h _ g2 ⟨oi, Heap.get?_push_of_some _ g1, by subst ei; rfl, by subst ei; rfl⟩ (by rw [Heap.size_push, hz]) (Heap.lt_size hl) fun b o x => Heap.get?_push_of_some _ (Heap.get?_push_of_some _ x)⟩
end
def iEnumT (K : PySem.W.Frag) (ta : TA) : TI := fun σ H R => ta σ H fun vs H1 => ∃ a xs, vs = [.ref a] ∧ SqT K H1 a xs ∧ R (IteT K a) H1
theorem pi_enumT {X : Cx} {e : Expr} {ta : TA} {p pos tpos : Pos} {elts : List Expr} {kk : Nat} (hg : Gl X "enumerate") (hm : X.mg "enumerate" = none) (ha : PA X [e] ta) (hs : starEach [e] X.env = [(false, eval e X.env)] := by rfl) :
    PI X (.Tuple elts kk tpos) (.Call (.Name "enumerate" p) [e] [] pos) (iEnumT X.K ta) := by
  refine ⟨fun pins s σ H R I h => Call_ (ld_blt I hg hm boot_enumerate (PyProof.Rows.callWith_type1 (thn (ha.run pos pins s σ H _ I h) fun us s1 ⟨vs, H1, I1, r1, q1⟩ => ?_) hs rfl))⟩
  obtain ⟨a, xs, ex, hq, q⟩ := q1
  subst ex
  cases r1 with
  | cons r rr =>
    cases rr
    cases r
    obtain ⟨its, rv, p', hz⟩ := I1.tuple hq
    refine call_enumT (show s1.heap.IsTuple a its.toArray from p') fun h' he hit hsz hal hk => wpAny_pyIter_enum he ?_
    have I2 : Inv X pins σ H1 { s1 with heap := h' } := I1.kept (t' := s1.toks) hk
    generalize ez : s1.heap.objs.size = z at *
    refine ⟨z + 1, [z + 1, z], _, _, H1, rfl, I2, turn_enumT a (z + 1) z, ⟨⟨.none, he⟩, hit, Nat.succ_ne_self _, Nat.ne_of_lt hal, Nat.ne_of_lt (Nat.lt_succ_of_lt hal)⟩, fun b hb => ?_, q⟩
    have hle : s1.heap.objs.size ≤ b := by
      rw [ez]
      rcases List.mem_cons.mp hb with y | y
      · rw [y]; exact Nat.le_succ _
      · rw [List.mem_singleton.mp y]; exact Nat.le_refl _
    exact I1.fpOk hle (I1.hok.fresh hle)

/-! ### enumerate, zip, by data -/
def enumD (k : Nat) : List D → List D
  | [] => []
  | x :: xs => .tuple [.int (k : Nat), x] :: enumD (k + 1) xs
theorem enumD_len : ∀ (xs : List D) (k : Nat), (enumD k xs).length = xs.length
  | [], _ => rfl
  | _ :: xs, k => congrArg (· + 1) (enumD_len xs (k + 1))
theorem enumD_get : ∀ (xs : List D) (k i : Nat) (d : D), (enumD k xs)[i]? = some d → ∃ x, xs[i]? = some x ∧ d = .tuple [.int ((k + i : Nat) : Int), x]
  | [], _, _, _, h => by cases h
  | x :: xs, k, 0, d, h => ⟨x, rfl, (Option.some.inj h).symm⟩
  | x :: xs, k, i + 1, d, h => by
    obtain ⟨y, e1, e2⟩ := enumD_get xs (k + 1) i d h
    exact ⟨y, e1, by rw [e2, show k + 1 + i = k + (i + 1) by omega]⟩
section
variable {K : PySem.W.Frag} {M M' : Adr} {H H' : Hp} {S S' : Sto} {ta tb tc te : TE} {ma mb mc me : ME} {d : D} {t : TA} {m : MA}
theorem pairR {T : Addr} {x y : V} {dx dy : D} {H : Hp} (hT : H T = none) (rx : Rl K M H x dx) (ry : Rl K M H y dy) : Rl K M (upd H T (.tup [x, y])) (.ref T) (.tuple [dx, dy]) :=
  .tup (.inl (.inl upd_same)) (.cons (rx.mono (Ext.new hT)) (.cons (ry.mono (Ext.new hT)) .nil))
theorem itok_el {a : Addr} {vs : List V} {xs : List D} (hl : LsR K M H a vs) (r : RlA K M H vs xs) : ItOk K (Ite K a) (enumD 0 xs) M H := fun M1 H1 S1 x ok i => by
  have hl1 := (x.lsr hl).sql
  have r1 := r.monoW x
  rw [enumD_len]
  refine ⟨fun h => ⟨vs, hl1, by rw [r1.len]; exact h⟩, fun h => ⟨vs, vs[i]'(by rw [r1.len]; exact h), hl1, List.getElem?_eq_getElem _⟩, fun v H2 d e h => ?_⟩
  obtain ⟨T, w, rfl, hT, rfl, h⟩ := h
  obtain ⟨dx, e1, rfl⟩ := enumD_get xs 0 i d e
  obtain ⟨u, e2, r2⟩ := r1.get e1
  have := h vs hl1
  rw [e2] at this
  cases this
  rw [Nat.zero_add]
  exact ⟨Ext.new hT, ok.new hT, pairR hT (.int _) r2⟩
theorem itok_et {a : Addr} {vs : List V} {xs : List D} (hl : SqT K H a vs) (r : RlA K M H vs xs) : ItOk K (IteT K a) (enumD 0 xs) M H := fun M1 H1 S1 x ok i => by
  have hl1 := x.sqt hl
  have r1 := r.monoW x
  rw [enumD_len]
  refine ⟨fun h => ⟨vs, hl1, by rw [r1.len]; exact h⟩, fun h => ⟨vs, vs[i]'(by rw [r1.len]; exact h), hl1, List.getElem?_eq_getElem _⟩, fun v H2 d e h => ?_⟩
  obtain ⟨T, w, rfl, hT, rfl, h⟩ := h
  obtain ⟨dx, e1, rfl⟩ := enumD_get xs 0 i d e
  obtain ⟨u, e2, r2⟩ := r1.get e1
  have := h vs hl1
  rw [e2] at this
  cases this
  rw [Nat.zero_add]
  exact ⟨Ext.new hT, ok.new hT, pairR hT (.int _) r2⟩
def mEnum (m : MA) : MN := fun ρ S => (mDs m ρ S).bind fun p => match p.1 with
  | [.list xs] => some (enumD 0 xs, p.2)
  | [.tuple xs] => some (enumD 0 xs, p.2)
  | _ => none
def iEnumA (K : PySem.W.Frag) (ta : TA) : TI := fun σ H R => iEnum K ta σ H R ∨ iEnumT K ta σ H R
theorem im_enum (h : ImA K t m) : ImI K (iEnumA K t) (mEnum m) := fun σ H M ρ S xs S' hs ok e R q => by
  unfold mEnum at e
  cases e1 : mDs m ρ S with
  | none => rw [e1] at e; cases e
  | some p =>
    rw [e1, Option.bind_some] at e
    obtain ⟨ds, S1⟩ := p
    simp only at e
    split at e <;> cases e
    · refine .inl (mDs_ok h hs ok e1 fun vs H1 M1 x1 ok1 r1 => ?_)
      cases r1 with
      | cons r1 r2 =>
        cases r2
        cases r1 with
        | lst h1 h2 => exact ⟨_, _, rfl, h1.sql, q _ H1 M1 x1 ok1 (itok_el h1 h2)⟩
    · refine .inr (mDs_ok h hs ok e1 fun vs H1 M1 x1 ok1 r1 => ?_)
      cases r1 with
      | cons r1 r2 =>
        cases r2
        cases r1 with
        | tup h1 h2 => exact ⟨_, _, rfl, h1, q _ H1 M1 x1 ok1 (itok_et h1 h2)⟩
def zipD (xs ys : List D) : List D := List.zipWith (fun x y => .tuple [x, y]) xs ys
theorem zipD_get {xs ys : List D} {i : Nat} {d : D} (h : (zipD xs ys)[i]? = some d) : ∃ x y, xs[i]? = some x ∧ ys[i]? = some y ∧ d = .tuple [x, y] := by
  unfold zipD at h
  rw [List.getElem?_zipWith] at h
  cases e1 : xs[i]? with
  | none => rw [e1] at h; cases h
  | some x =>
    cases e2 : ys[i]? with
    | none => rw [e1, e2] at h; cases h
    | some y => rw [e1, e2] at h; exact ⟨x, y, rfl, rfl, (Option.some.inj h).symm⟩
theorem zipD_len {xs ys : List D} : (zipD xs ys).length = min xs.length ys.length := by unfold zipD; exact List.length_zipWith
theorem itok_zl {a b : Addr} {vs ws : List V} {xs ys : List D} (hl : LsR K M H a vs) (r : RlA K M H vs xs) (hl' : LsR K M H b ws) (r' : RlA K M H ws ys) : ItOk K (Itz K a b) (zipD xs ys) M H := fun M1 H1 S1 x ok i => by
  have hl1 := (x.lsr hl).sql
  have hl2 := (x.lsr hl').sql
  have r1 := r.monoW x
  have r2 := r'.monoW x
  rw [zipD_len]
  refine ⟨fun h => ⟨vs, ws, hl1, hl2, by rw [r1.len, r2.len]; omega⟩, fun h => ⟨vs, ws, vs[i]'(by rw [r1.len]; omega), ws[i]'(by rw [r2.len]; omega), hl1, hl2, List.getElem?_eq_getElem _, List.getElem?_eq_getElem _⟩, fun v H2 d e h => ?_⟩
  obtain ⟨T, v1, v2, rfl, hT, rfl, h, h'⟩ := h
  obtain ⟨dx, dy, e1, e2, rfl⟩ := zipD_get e
  obtain ⟨u, e3, r3⟩ := r1.get e1
  obtain ⟨u', e4, r4⟩ := r2.get e2
  have q1 := h vs hl1
  have q2 := h' ws hl2
  rw [e3] at q1
  rw [e4] at q2
  cases q1
  cases q2
  exact ⟨Ext.new hT, ok.new hT, pairR hT r3 r4⟩
theorem itok_zt {a b : Addr} {vs ws : List V} {xs ys : List D} (hl : SqT K H a vs) (r : RlA K M H vs xs) (hl' : SqT K H b ws) (r' : RlA K M H ws ys) : ItOk K (RZ.ItzT K a b) (zipD xs ys) M H := fun M1 H1 S1 x ok i => by
  have hl1 := x.sqt hl
  have hl2 := x.sqt hl'
  have r1 := r.monoW x
  have r2 := r'.monoW x
  rw [zipD_len]
  refine ⟨fun h => ⟨vs, ws, hl1, hl2, by rw [r1.len, r2.len]; omega⟩, fun h => ⟨vs, ws, vs[i]'(by rw [r1.len]; omega), ws[i]'(by rw [r2.len]; omega), hl1, hl2, List.getElem?_eq_getElem _, List.getElem?_eq_getElem _⟩, fun v H2 d e h => ?_⟩
  obtain ⟨T, v1, v2, rfl, hT, rfl, h, h'⟩ := h
  obtain ⟨dx, dy, e1, e2, rfl⟩ := zipD_get e
  obtain ⟨u, e3, r3⟩ := r1.get e1
  obtain ⟨u', e4, r4⟩ := r2.get e2
  have q1 := h vs hl1
  have q2 := h' ws hl2
  rw [e3] at q1
  rw [e4] at q2
  cases q1
  cases q2
  exact ⟨Ext.new hT, ok.new hT, pairR hT r3 r4⟩
def mZip (m : MA) : MN := fun ρ S => (mDs m ρ S).bind fun p => match p.1 with
  | [.list xs, .list ys] => some (zipD xs ys, p.2)
  | [.tuple xs, .tuple ys] => some (zipD xs ys, p.2)
  | _ => none
theorem im_zip (h : ImA K t m) : ImI K (RZ.iZipA K t) (mZip m) := fun σ H M ρ S xs S' hs ok e R q => by
  unfold mZip at e
  cases e1 : mDs m ρ S with
  | none => rw [e1] at e; cases e
  | some p =>
    rw [e1, Option.bind_some] at e
    obtain ⟨ds, S1⟩ := p
    simp only at e
    refine mDs_ok h hs ok e1 fun vs H1 M1 x1 ok1 r1 => ?_
    split at e <;> cases e
    · cases r1 with
      | cons r1 r2 =>
        cases r2 with
        | cons r2 r3 =>
          cases r3
          cases r1 with
          | lst h1 h2 =>
            cases r2 with
            | lst h3 h4 => exact ⟨_, _, _, _, rfl, .inl ⟨h1.sql, h3.sql, q _ H1 M1 x1 ok1 (itok_zl h1 h2 h3 h4)⟩⟩
    · cases r1 with
      | cons r1 r2 =>
        cases r2 with
        | cons r2 r3 =>
          cases r3
          cases r1 with
          | tup h1 h2 =>
            cases r2 with
            | tup h3 h4 => exact ⟨_, _, _, _, rfl, .inr ⟨h1, h3, q _ H1 M1 x1 ok1 (itok_zt h1 h2 h3 h4)⟩⟩
/-! ### in -/
def inD (x : D) (ds : List D) : Option Bool := if SeqAt.shaped x && SeqAt.shaped (.list ds) then some (ds.any fun z => PyData.eqv z x) else none
def rInT (K : PySem.W.Frag) (g : Bool → Bool) : R2 := fun x y H Q => ∃ d ds, Dp K H x d ∧ Dp K H y (.tuple ds) ∧ SeqAt.shaped d = true ∧ SeqAt.shaped (.list ds) = true ∧ Q (.bl (g (ds.any fun z => PyData.eqv z d))) H
theorem op_inT {X : Cx} (hu : X.A.units + 65 < cLine) : OpR X (compareOp .In) (rInT X.K id) := fun pins s σ H x y v u Q I rx ry h => by
  obtain ⟨d, ds, hd, he, sd, se, q⟩ := h
  obtain ⟨as, r1⟩ := Dp.reads I d x v hd rx
  obtain ⟨bs, r2⟩ := Dp.reads I (.tuple ds) y u he ry
  refine SeqAt.in_tuple_reads r2 r1 (SeqAt.canLay_of_shaped se) (SeqAt.canLay_of_shaped sd) ?_ ⟨.bl _, H, I, rfl, q⟩
  exact room_in_shaped sd hu
theorem op_notInT {X : Cx} (hu : X.A.units + 65 < cLine) : OpR X (compareOp .NotIn) (rInT X.K not) := fun pins s σ H x y v u Q I rx ry h => by
  obtain ⟨d, ds, hd, he, sd, se, q⟩ := h
  obtain ⟨as, r1⟩ := Dp.reads I d x v hd rx
  obtain ⟨bs, r2⟩ := Dp.reads I (.tuple ds) y u he ry
  refine SeqAt.notIn_tuple_reads r2 r1 (SeqAt.canLay_of_shaped se) (SeqAt.canLay_of_shaped sd) ?_ ⟨.bl _, H, I, rfl, q⟩
  exact room_in_shaped sd hu
def mInQ (g : Bool → Bool) (ma : ME) (mq : MN) : ME := fun ρ S => (ma ρ S).bind fun p => (mq ρ p.2).bind fun q => (inD p.1 q.1).map fun b => (.bool (g b), q.2)
theorem im_inQ {g : Bool → Bool} {r : R2} {mq : MN} (hr : ∀ (x y : V) (d : D) (ds : List D) (H : Hp) (Q : VK), Dp K H x d → (Dp K H y (.list ds) ∨ Dp K H y (.tuple ds)) → SeqAt.shaped d = true → SeqAt.shaped (.list ds) = true → Q (.bl (g (ds.any fun z => PyData.eqv z d))) H → r x y H Q)
    (ha : ImE K ta ma) (hq : ImQ K tb mq) : ImE K (tOp r ta tb) (mInQ g ma mq) := fun σ H M ρ S d S' hs ok e Q q => by
  unfold mInQ at e
  cases e1 : ma ρ S with
  | none => rw [e1] at e; cases e
  | some p =>
    rw [e1, Option.bind_some] at e
    cases e2 : mq ρ p.2 with
    | none => rw [e2] at e; cases e
    | some p2 =>
      rw [e2, Option.bind_some] at e
      unfold inD at e
      split at e <;> cases e
      rename_i hb
      rw [Bool.and_eq_true] at hb
      refine ha σ H M ρ S p.1 p.2 hs ok e1 _ fun x H1 M1 x1 ok1 r1 => ?_
      refine hq σ H1 M1 ρ p.2 p2.1 p2.2 (hs.mono x1) ok1 e2 _ fun a vs H2 M2 x2 ok2 sq r2 => ?_
      refine hr x (.ref a) p.1 p2.1 H2 Q (r1.mono x2).dp ?_ hb.1 hb.2 (q _ H2 M2 (x1.trans x2) ok2 (.bl _))
      rcases sq with sq | sq
      · exact .inl (.lst sq (RlA.dp _ _ r2))
      · exact .inr (.tup sq (RlA.dp _ _ r2))
end
section
variable {ι : Type} {F : Fam ι} {a e : Expr} {ma mb me : ME} {m : MA} {pos : Pos}
theorem k_units2 (F : Fam ι) (i : ι) : (F.X i).A.units + 65 < cLine := by have := (F.room i).un; omega
variable {mq : MN}
theorem d_in (h1 : PDE F a ma) (h2 : PDQ F e mq) (hm : behindInMarks .In e = false := by rfl) : PDE F (.Compare a [.In] [e] pos) (mInQ (fun b => b) ma mq) := by
  obtain ⟨t1, p1, q1⟩ := h1
  obtain ⟨t2, p2, q2⟩ := h2
  exact ⟨_, fun i => pe_cmpR (by have := OpR.or (op_inD (X := F.X i) (k_units2 F i)) (op_inT (X := F.X i) (k_units2 F i)); rw [F.hK i] at this; exact this) (p1 i) (p2 i) hm,
    im_inQ (r := fun x y H Q => rInD F.K x y H Q ∨ rInT F.K id x y H Q) (fun x y d ds H Q hd he s1 s2 q => he.elim (fun he => .inl ⟨d, ds, hd, he, s1, s2, q⟩) fun he => .inr ⟨d, ds, hd, he, s1, s2, q⟩) q1 q2⟩
theorem d_inT (h1 : PDE F a ma) (h2 : PDQ F e mq) (hm : behindInMarks .In e = false := by rfl) : PDT F (.Compare a [.In] [e] pos) (mTB (mInQ (fun b => b) ma mq)) := by
  obtain ⟨t1, p1, q1⟩ := h1
  obtain ⟨t2, p2, q2⟩ := h2
  exact ⟨_, fun i => pt_cmpR (by have := OpR.or (op_inD (X := F.X i) (k_units2 F i)) (op_inT (X := F.X i) (k_units2 F i)); rw [F.hK i] at this; exact this) (p1 i) (p2 i) hm,
    im_tt (im_inQ (r := fun x y H Q => rInD F.K x y H Q ∨ rInT F.K id x y H Q) (fun x y d ds H Q hd he s1 s2 q => he.elim (fun he => .inl ⟨d, ds, hd, he, s1, s2, q⟩) fun he => .inr ⟨d, ds, hd, he, s1, s2, q⟩) q1 q2)⟩
theorem d_notin (h1 : PDE F a ma) (h2 : PDQ F e mq) (hm : behindInMarks .NotIn e = false := by rfl) : PDE F (.Compare a [.NotIn] [e] pos) (mInQ not ma mq) := by
  obtain ⟨t1, p1, q1⟩ := h1
  obtain ⟨t2, p2, q2⟩ := h2
  exact ⟨_, fun i => pe_cmpR (by have := OpR.or (op_notInD (X := F.X i) (k_units2 F i)) (op_notInT (X := F.X i) (k_units2 F i)); rw [F.hK i] at this; exact this) (p1 i) (p2 i) hm,
    im_inQ (r := fun x y H Q => rNotInD F.K x y H Q ∨ rInT F.K not x y H Q) (fun x y d ds H Q hd he s1 s2 q => he.elim (fun he => .inl ⟨d, ds, hd, he, s1, s2, q⟩) fun he => .inr ⟨d, ds, hd, he, s1, s2, q⟩) q1 q2⟩
theorem d_notinT (h1 : PDE F a ma) (h2 : PDQ F e mq) (hm : behindInMarks .NotIn e = false := by rfl) : PDT F (.Compare a [.NotIn] [e] pos) (mTB (mInQ not ma mq)) := by
  obtain ⟨t1, p1, q1⟩ := h1
  obtain ⟨t2, p2, q2⟩ := h2
  exact ⟨_, fun i => pt_cmpR (by have := OpR.or (op_notInD (X := F.X i) (k_units2 F i)) (op_notInT (X := F.X i) (k_units2 F i)); rw [F.hK i] at this; exact this) (p1 i) (p2 i) hm,
    im_tt (im_inQ (r := fun x y H Q => rNotInD F.K x y H Q ∨ rInT F.K not x y H Q) (fun x y d ds H Q hd he s1 s2 q => he.elim (fun he => .inl ⟨d, ds, hd, he, s1, s2, q⟩) fun he => .inr ⟨d, ds, hd, he, s1, s2, q⟩) q1 q2)⟩
theorem d_enum {elts : List Expr} {kk : Nat} {px tpos : Pos} (hm : ∀ i, (F.X i).mg "enumerate" = none) (h : PDA F [e] m) (hg : ∀ i, Gl (F.X i) "enumerate" := by exact fun _ => rfl) (hs : ∀ i, starEach [e] (F.X i).env = [(false, eval e (F.X i).env)] := by intro _; rfl) :
    PDI F (.Tuple elts kk tpos) (.Call (.Name "enumerate" px) [e] [] pos) (mEnum m) := by
  obtain ⟨t, p, q⟩ := h
  exact ⟨_, fun i => by have := pi_or (pi_enum (elts := elts) (kk := kk) (tpos := tpos) (pos := pos) (p := px) (hg i) (hm i) (p i) (hs i)) (pi_enumT (hg i) (hm i) (p i) (hs i)); rw [F.hK i] at this; exact this, im_enum q⟩
theorem d_zip {elts : List Expr} {kk : Nat} {px tpos : Pos} (hm : ∀ i, (F.X i).mg "zip" = none) (h : PDA F [a, e] m) (hg : ∀ i, Gl (F.X i) "zip" := by exact fun _ => rfl)
    (hs : ∀ i, starEach [a, e] (F.X i).env = (false, eval a (F.X i).env) :: starEach [e] (F.X i).env := by intro _; rfl) (hp : ∀ i, (backTo pos (starEach [e] (F.X i).env)).any (·.1) = false := by intro _; rfl) :
    PDI F (.Tuple elts kk tpos) (.Call (.Name "zip" px) [a, e] [] pos) (mZip m) := by
  obtain ⟨t, p, q⟩ := h
  exact ⟨_, fun i => by have := RZ.pi_zipA (elts := elts) (kk := kk) (tpos := tpos) (pos := pos) (p := px) (hg i) (hm i) (p i) (hs i) (hp i); rw [F.hK i] at this; exact this, im_zip q⟩
end
end G
set_option Elab.async false
set_option linter.all false
set_option autoImplicit false
set_option maxRecDepth 100000
set_option maxHeartbeats 4000000
/-! list + list, slices of lists that may be cells. -/
namespace G
open PySem PySem.Spec PyProof.Rows L2
theorem meets_addL {l b : Addr} {xs ys : Array Value} {n m : Nat} {dl db : Option Addr} {sl sb : Array (Option Value)} (hc : xs.size + ys.size ≤ sizeLine) :
    Meets (Builtin.«list.__add__» ⟨[.ref l, .ref b], []⟩) fun _ R s => s.heap.get? l = some { cls := .type "list", dict := dl, data := .seq xs n, slots := sl } ∧ s.heap.get? b = some { cls := .type "list", dict := db, data := .seq ys m, slots := sb } ∧
      R (.ok (.ret (.ref s.heap.objs.size))) { s with heap := s.heap.push { cls := .type "list", data := .seq (xs ++ ys) } } :=
  .of_wp fun prog w A R s h => by
    obtain ⟨z1, z2, z3, z4, z5⟩ := s
    obtain ⟨e1, e2, q⟩ := h
    have k1 := AutoSeq1.idx_int
    have k2 := AutoSeq1.sub_tuple_tuple
    have k3 := AutoSeq1.sub_list_list
    have k4 := AutoSeq1.sub_tuple_list
    have k5 := AutoSeq1.sub_list_tuple
    wp_walk using AutoSeq1.wpAny_loadPart' e1, AutoSeq1.wpAny_loadPart' e2
    exact ⟨_, rfl, q⟩
def rCatL (K : PySem.W.Frag) : R2 := fun x y H Q => ∃ a b xs ys, x = .ref a ∧ y = .ref b ∧ SqL K H a xs ∧ SqL K H b ys ∧ xs.length + ys.length ≤ sizeLine ∧ ∀ p, H p = none → Q (.ref p) (upd H p (.lst (xs ++ ys)))
theorem op_catL {X : Cx} : OpR X (binaryOp .Add) (rCatL X.K) := fun pins s σ H x y v u Q I rx ry h => by
  obtain ⟨a, b, xs, ys, rfl, rfl, ha, hb, hz, q⟩ := h
  cases rx
  cases ry
  obtain ⟨its, r, ⟨⟨c1, d1, dt1, s1⟩, n, e1, hc1, hd1, ht1⟩, _⟩ := I.list ha
  obtain ⟨its2, r2, ⟨⟨c2, d2, dt2, s2⟩, n2, e2, hc2, hd2, ht2⟩, _⟩ := I.list hb
  simp only at hc1 ht1 hc2 ht2
  subst hc1 ht1 hc2 ht2
  have l1 := r.length
  have l2 := r2.length
  refine concat_meets ⟨_, e1, rfl⟩ ⟨_, e2, rfl⟩ noFill_list_add seq_list_add PySem.F.slot_list_add PySem.F.entry_list_add (PySem.F.args_list_add_2 _ _) (meets_addL (by rw [List.size_toArray, List.size_toArray]; omega)) ⟨e1, e2, ?_⟩
  have ea : its.toArray ++ its2.toArray = (its ++ its2).toArray := by simp
  rw [ea]
  exact ⟨.ref _, _, I.lnew (t' := s.toks) (r.append r2) (by rw [List.length_append]; omega), rfl, q _ I.fresh⟩

section
variable {K : PySem.W.Frag} {M M' : Adr} {H H' : Hp} {S S' : Sto} {ta tb tc te : TE} {ma mb mc me : ME} {d : D}
theorem lvar_at {σ : L2.St} {ρ : Rho} {i : Nat} {xs : List D} (hr : RSt K M H σ ρ) (ok : Ok K M S H) (h : mLVar i ρ S = some (xs, S')) :
    S' = S ∧ ∃ a vs, σ[i]? = some (some (.ref a)) ∧ SqL K H a vs ∧ RlA K M H vs xs := by
  unfold mLVar at h
  split at h
  · rename_i xs e
    cases h
    obtain ⟨v, e1, r⟩ := hr.at_ i _ e
    cases r with
    | lst h1 h2 => exact ⟨rfl, _, _, e1, h1.sql, h2⟩
  · rename_i n e
    cases e2 : S[n]? with
    | none => rw [e2] at h; cases h
    | some c =>
      cases c with
      | none => rw [e2] at h; cases h
      | some xs =>
        rw [e2] at h
        cases h
        obtain ⟨v, e1, a, rfl, r⟩ := hr.at_ i _ e
        obtain ⟨a', vs, m1, m2, m3⟩ := ok.cell n _ e2
        have ea : a = a' := by rcases r with r | r <;> (rw [r] at m1; cases m1); rfl
        subst ea
        exact ⟨rfl, _, _, e1, .inl (.inl m2), m3⟩
  · cases h
theorem lvar_some {σ : L2.St} {ρ : Rho} {i : Nat} {p : List D × Sto} (hr : RSt K M H σ ρ) (h : mLVar i ρ S = some p) : ∃ v, σ[i]? = some (some v) := by
  unfold mLVar at h
  split at h
  · rename_i e; obtain ⟨v, e1, _⟩ := hr.at_ i _ e; exact ⟨v, e1⟩
  · rename_i e; obtain ⟨v, e1, _⟩ := hr.at_ i _ e; exact ⟨v, e1⟩
  · cases h
/-- name + new list: the name is read behind it -/
def mCatV (j : Nat) (mb : MN) : MN := fun ρ S => (mb ρ S).bind fun q => (mLVar j ρ q.2).bind fun p => if p.1.length + q.1.length ≤ 1000000 then some (p.1 ++ q.1, q.2) else none
theorem im_catV {j : Nat} {m2 : MN} (h2 : ImN K tb m2) : ImN K (tOp (rCatL K) (tVar j) tb) (mCatV j m2) := fun σ H M ρ S o S' hs ok e Q q => by
  unfold mCatV at e
  cases e1 : m2 ρ S with
  | none => rw [e1] at e; cases e
  | some p =>
    rw [e1, Option.bind_some] at e
    cases e2 : mLVar j ρ p.2 with
    | none => rw [e2] at e; cases e
    | some p2 =>
      rw [e2, Option.bind_some] at e
      split at e <;> cases e
      rename_i hz
      obtain ⟨v, hv⟩ := lvar_some hs e2
      refine ⟨v, hv, h2 σ H M ρ S p.1 p.2 hs ok e1 _ fun b ws H2 M2 x2 ok2 k0 k1 k2 r2 => ?_⟩
      obtain ⟨_, a, vs, ha, sq, r⟩ := lvar_at (hs.mono x2) ok2 e2
      rw [hv] at ha
      cases ha
      refine ⟨a, b, vs, ws, rfl, rfl, sq, .inl (.inl k1), Nat.le_trans (by rw [r.len, r2.len]; exact hz) big, fun p hp => ?_⟩
      exact q p _ _ (M2.gh p) (x2.trans (Ext.ghost hp)) (ok2.ghost hp) (x2.free p hp) upd_same List.mem_cons_self ((r.append r2).fresh hp)
/-- data + new list, new list + data -/
def mCatX (ma : ME) (mb : MN) : MN := fun ρ S => (mLE ma ρ S).bind fun p => (mb ρ p.2).bind fun q => if p.1.length + q.1.length ≤ 1000000 then some (p.1 ++ q.1, q.2) else none
theorem le_some {ρ : Rho} {p : List D × Sto} (h : mLE me ρ S = some p) : me ρ S = some (.list p.1, p.2) := by
  unfold mLE at h
  cases e1 : me ρ S with
  | none => rw [e1] at h; cases h
  | some q =>
    rw [e1] at h
    obtain ⟨y, S1⟩ := q
    cases y <;> first | (cases h; done) | skip
    cases h
    rfl
theorem im_catX {m2 : MN} (h1 : ImE K ta ma) (h2 : ImN K tb m2) : ImN K (tOp (rCatL K) ta tb) (mCatX ma m2) := fun σ H M ρ S o S' hs ok e Q q => by
  unfold mCatX at e
  cases e1 : mLE ma ρ S with
  | none => rw [e1] at e; cases e
  | some p =>
    rw [e1, Option.bind_some] at e
    cases e2 : m2 ρ p.2 with
    | none => rw [e2] at e; cases e
    | some p2 =>
      rw [e2, Option.bind_some] at e
      split at e <;> cases e
      rename_i hz
      refine h1 σ H M ρ S _ _ hs ok (le_some e1) _ fun v H1 M1 x1 ok1 r1 => ?_
      refine h2 σ H1 M1 ρ _ p2.1 p2.2 (hs.mono x1) ok1 e2 _ fun b ws H2 M2 x2 ok2 k0 k1 k2 r2 => ?_
      have r3 := r1.mono x2
      cases r3 with
      | lst z1 z2 =>
        refine ⟨_, b, _, ws, rfl, rfl, z1.sql, .inl (.inl k1), Nat.le_trans (by rw [z2.len, r2.len]; exact hz) big, fun p hp => ?_⟩
        have x := x1.trans x2
        exact q p _ _ (M2.gh p) (x.trans (Ext.ghost hp)) (ok2.ghost hp) (x.free p hp) upd_same List.mem_cons_self ((z2.append r2).fresh hp)
def mCatY (ma : MN) (mb : ME) : MN := fun ρ S => (ma ρ S).bind fun p => (mLE mb ρ p.2).bind fun q => if p.1.length + q.1.length ≤ 1000000 then some (p.1 ++ q.1, q.2) else none
theorem im_catY {m1 : MN} (h1 : ImN K ta m1) (h2 : ImE K tb mb) : ImN K (tOp (rCatL K) ta tb) (mCatY m1 mb) := fun σ H M ρ S o S' hs ok e Q q => by
  unfold mCatY at e
  cases e1 : m1 ρ S with
  | none => rw [e1] at e; cases e
  | some p =>
    rw [e1, Option.bind_some] at e
    cases e2 : mLE mb ρ p.2 with
    | none => rw [e2] at e; cases e
    | some p2 =>
      rw [e2, Option.bind_some] at e
      split at e <;> cases e
      rename_i hz
      refine h1 σ H M ρ S p.1 p.2 hs ok e1 _ fun a vs H1 M1 x1 ok1 n0 n1 n2 r1 => ?_
      refine h2 σ H1 M1 ρ _ _ _ (hs.mono x1) ok1 (le_some e2) _ fun v H2 M2 x2 ok2 r2 => ?_
      have n3 := x2.keep a _ n1 (.inl fun z => ok1.dj a z n2)
      have r3 := r1.mono x2
      cases r2 with
      | lst z1 z2 =>
        refine ⟨a, _, vs, _, rfl, rfl, .inl (.inl n3), z1.sql, Nat.le_trans (by rw [r3.len, z2.len]; exact hz) big, fun p hp => ?_⟩
        have x := x1.trans x2
        exact q p _ _ (M2.gh p) (x.trans (Ext.ghost hp)) (ok2.ghost hp) (x.free p hp) upd_same List.mem_cons_self ((r3.append z2).fresh hp)
/-- name[lo:hi], a list that may be a cell -/
def mSlV (j : Nat) (lo hi : MO) : MN := fun ρ S => (lo ρ S).bind fun l => (hi ρ l.2).bind fun u => (mLVar j ρ u.2).bind fun p => some (cut p.1 l.1 u.1, u.2)
theorem im_slV {j : Nat} {tl th : TO} {ml mh : MO} (hl : ImO K tl ml) (hh : ImO K th mh) : ImN K (tSl (rSlL K) (tVar j) tl th) (mSlV j ml mh) := fun σ H M ρ S d S' hs ok e Q q => by
  unfold mSlV at e
  cases e2 : ml ρ S with
  | none => rw [e2] at e; cases e
  | some l =>
    rw [e2, Option.bind_some] at e
    cases e3 : mh ρ l.2 with
    | none => rw [e3] at e; cases e
    | some u =>
      rw [e3, Option.bind_some] at e
      cases e4 : mLVar j ρ u.2 with
      | none => rw [e4] at e; cases e
      | some p =>
        rw [e4, Option.bind_some] at e
        cases e
        obtain ⟨v, hv⟩ := lvar_some hs e4
        refine ⟨v, hv, ?_⟩
        refine hl σ H M ρ _ l.1 l.2 hs ok (by rw [e2]) _ fun H2 M2 x2 ok2 => ?_
        refine hh σ H2 M2 ρ _ u.1 u.2 (hs.mono x2) ok2 (by rw [e3]) _ fun H3 M3 x3 ok3 => ?_
        have x := x2.trans x3
        obtain ⟨_, a, vs, ha, sq, r⟩ := lvar_at (hs.mono x) ok3 e4
        rw [hv] at ha
        cases ha
        exact ⟨a, vs, rfl, sq, fun p hp => q p _ _ (M3.gh p) (x.trans (Ext.ghost hp)) (ok3.ghost hp) (x.free p hp) upd_same List.mem_cons_self ((r.cut _ _).fresh hp)⟩
end
section
variable {ι : Type} {F : Fam ι} {a e : Expr} {ma mb me : ME} {mn mn2 : MN} {m : MA} {pos : Pos}
theorem d_catV (j : Nat) {x : Str} {px : Pos} (h2 : PDN F e mn2) (hN : ∀ i, (F.X i).N[j]? = some x := by exact fun _ => rfl) (hv : ∀ i, Vis (F.X i).env.scope x := by first | exact fun _ => Or.inl rfl | exact fun _ => Or.inr (Or.inl rfl) | exact fun _ => Or.inr (Or.inr rfl))
    (hd : (x == ("__debug__" : Str)) = false := by decide) (hcd : (x == ("__classdict__" : Str)) = false := by decide) : PDN F (.BinOp (.Name x px) .Add e pos) (mCatV j mn2) := by
  obtain ⟨t2, p2, q2⟩ := h2
  exact ⟨_, fun i => pe_op (by have := op_catL (X := F.X i); rw [F.hK i] at this; exact this) (pe_var (hN i) (hv i) hd hcd) (p2 i), im_catV q2⟩
theorem d_catX (h1 : PDE F a ma) (h2 : PDN F e mn2) : PDN F (.BinOp a .Add e pos) (mCatX ma mn2) := by
  obtain ⟨t1, p1, q1⟩ := h1
  obtain ⟨t2, p2, q2⟩ := h2
  exact ⟨_, fun i => pe_op (by have := op_catL (X := F.X i); rw [F.hK i] at this; exact this) (p1 i) (p2 i), im_catX q1 q2⟩
theorem d_catY (h1 : PDN F a mn) (h2 : PDE F e mb) : PDN F (.BinOp a .Add e pos) (mCatY mn mb) := by
  obtain ⟨t1, p1, q1⟩ := h1
  obtain ⟨t2, p2, q2⟩ := h2
  exact ⟨_, fun i => pe_op (by have := op_catL (X := F.X i); rw [F.hK i] at this; exact this) (p1 i) (p2 i), im_catY q1 q2⟩
theorem d_slV (j : Nat) {x : Str} {px : Pos} {lo hi : Option Expr} {ml mh : MO} {p2 : Pos} (hl : PDO F lo ml) (hh : PDO F hi mh) (hN : ∀ i, (F.X i).N[j]? = some x := by exact fun _ => rfl) (hv : ∀ i, Vis (F.X i).env.scope x := by first | exact fun _ => Or.inl rfl | exact fun _ => Or.inr (Or.inl rfl) | exact fun _ => Or.inr (Or.inr rfl))
    (hd : (x == ("__debug__" : Str)) = false := by decide) (hcd : (x == ("__classdict__" : Str)) = false := by decide) : PDN F (.Subscript (.Name x px) (.Slice lo hi none p2) pos) (mSlV j ml mh) := by
  obtain ⟨t1, p1, q1⟩ := hl
  obtain ⟨t2, p2, q2⟩ := hh
  exact ⟨_, fun i => pe_slice (by have := sl_list (X := F.X i); rw [F.hK i] at this; exact this) (pe_var (hN i) (hv i) hd hcd) (p1 i) (p2 i), im_slV q1 q2⟩
end
end G
set_option Elab.async false
set_option linter.all false
set_option autoImplicit false
set_option maxRecDepth 100000
set_option maxHeartbeats 4000000
/-! not x, of any value's truth. -/
namespace G
open PySem PySem.Spec PyProof.Rows L2
def tNotT (K : PySem.W.Frag) (ta : TE) : TE := fun σ H Q => ta σ H fun x H1 => ∃ k, TruV K x H1 k ∧ Q (.bl (!k)) H1
theorem pe_notT {X : Cx} {a : Expr} {ta : TE} {pos : Pos} (ha : PE X a ta) : PE X (.UnaryOp .Not a pos) (tNotT X.K ta) :=
  ⟨fun pins s σ H Q I h => UnaryOp_ (thn (ha.run pins s σ H _ I h) fun v s1 ⟨x, H1, I1, r1, k, t, q⟩ => PyProof.Rows.not_of (thn (tru_ok pins s1 σ H1 x v (fun b H2 => Q (.bl (!b)) H2) I1 r1 ⟨k, t, q⟩) fun b s2 z => by
    obtain ⟨H2, I2, q2⟩ := z
    exact ⟨.bl (!b), H2, I2, rfl, q2⟩))⟩
section
variable {K : PySem.W.Frag} {ta : TE} {ma : ME}
def mNotT (ma : ME) : ME := fun ρ S => (mTru ma ρ S).map fun p => (.bool !p.1, p.2)
theorem im_notT (h : ImE K ta ma) : ImE K (tNotT K ta) (mNotT ma) := fun σ H M ρ S d S' hs ok e Q q => by
  unfold mNotT at e
  cases e1 : mTru ma ρ S with
  | none => rw [e1] at e; cases e
  | some p =>
    rw [e1] at e
    cases e
    have h2 : tTru K ta σ H (fun k H' => Q (.bl (!k)) H') := im_tru h σ H M ρ S p.1 p.2 hs ok e1 _ fun H1 M1 x1 ok1 => q _ H1 M1 x1 ok1 (.bl _)
    exact h2
def mNotTQ (mn : MN) : ME := fun ρ S => (mTruQ mn ρ S).map fun p => (.bool !p.1, p.2)
theorem im_notTQ {mn : MN} (h : ImQ K ta mn) : ImE K (tNotT K ta) (mNotTQ mn) := fun σ H M ρ S d S' hs ok e Q q => by
  unfold mNotTQ at e
  cases e1 : mTruQ mn ρ S with
  | none => rw [e1] at e; cases e
  | some p =>
    rw [e1] at e
    cases e
    have h2 : tTru K ta σ H (fun k H' => Q (.bl (!k)) H') := im_truQ h σ H M ρ S p.1 p.2 hs ok e1 _ fun H1 M1 x1 ok1 => q _ H1 M1 x1 ok1 (.bl _)
    exact h2
end
section
variable {ι : Type} {F : Fam ι} {a e : Expr} {me : ME} {mn : MN} {pos : Pos}
theorem d_notE (h : PDE F e me) : PDE F (.UnaryOp .Not e pos) (mNotT me) := by
  obtain ⟨t, p, q⟩ := h
  exact ⟨_, fun i => by have := pe_notT (pos := pos) (p i); rw [F.hK i] at this; exact this, im_notT q⟩
theorem d_notQ (h : PDQ F e mn) : PDE F (.UnaryOp .Not e pos) (mNotTQ mn) := by
  obtain ⟨t, p, q⟩ := h
  exact ⟨_, fun i => by have := pe_notT (pos := pos) (p i); rw [F.hK i] at this; exact this, im_notTQ q⟩
end
end G
set_option Elab.async false
set_option linter.all false
set_option autoImplicit false
set_option maxRecDepth 100000
set_option maxHeartbeats 4000000
/-! comprehensions with two `for`s. -/
namespace G
open PySem L2
structure LcI (K : PySem.W.Frag) (M1 : Adr) (H1 : Hp) (a : Addr) (M : Adr) (H : Hp) (S : Sto) (av : List V) (acc : List D) : Prop where
  x : Ext M1 H1 M H
  g : a ∈ M.g
  c : some a ∉ M.c
  ok : Ok K M S H
  hd : H a = some (.lst av)
  ra : RlA K M H av acc
section
variable {K : PySem.W.Frag} {M M' M1 : Adr} {H H' H1 : Hp} {S S' : Sto} {ta tb tc te : TE} {ma mb mc me : ME} {d : D} {a : Addr} {av : List V} {acc : List D}
theorem LcI.ext (h : LcI K M1 H1 a M H S av acc) (x : Ext M H M' H') (ok : Ok K M' S' H') : LcI K M1 H1 a M' H' S' av acc :=
  ⟨h.x.trans x, x.gk a h.g, fun z => (x.sub a z).elim h.c (fun z => by rw [h.hd] at z; cases z), ok, x.keep a _ h.hd (.inl h.c), h.ra.mono x⟩
theorem LcI.push (h : LcI K M1 H1 a M H S av acc) (h0 : H1 a = none) {v : V} (r : Rl K M H v d) : LcI K M1 H1 a M (upd H a (.lst (av ++ [v]))) S (av ++ [v]) (acc ++ [d]) := by
  refine ⟨?_, h.g, h.c, h.ok.grow (.inr h.g) h.hd h.c, upd_same, (h.ra.append (.one r)).grow (.inr h.g) h.hd⟩
  have y := h.x
  exact ⟨y.subn, y.gs, y.gk, y.pos, y.dead, fun b o e c => by
    rw [upd_ne (ne_of_none e h0)]; exact y.keep b o e c, fun b e => y.free b (by
    by_cases eb : b = a
    · subst eb; rw [upd_same] at e; cases e
    · rw [upd_ne eb] at e; exact e)⟩
def lc2Run (mg : MG) (mt : MT) (mi1 : MN) (mg1 : MG) (mt1 : MT) (me : ME) (vs1 : List Nat) : List D → Rho → Sto → Option (List D × Sto)
  | [], _, S => some ([], S)
  | x :: xs, ρ, S => (mg x ρ).bind fun ρ1 => (mt ρ1 S).bind fun p => if p.1 then
      (mi1 ρ1 p.2).bind fun q => if q.1.length ≤ 1000 then (lcRun mg1 mt1 me q.1 (wipeR ρ1 vs1) q.2).bind fun r => (lc2Run mg mt mi1 mg1 mt1 me vs1 xs ρ r.2).map fun z => (r.1 ++ z.1, z.2) else none
    else lc2Run mg mt mi1 mg1 mt1 me vs1 xs ρ p.2
def mLc2 (mi : MN) (mg : MG) (mt : MT) (mi1 : MN) (mg1 : MG) (mt1 : MT) (me : ME) (vs vs1 : List Nat) : MN := fun ρ S => (mi ρ S).bind fun p => if p.1.length ≤ 1000 then lc2Run mg mt mi1 mg1 mt1 me vs1 p.1 (wipeR ρ vs) p.2 else none
theorem im_lc2 {wi wi1 : TI} {g g1 : TG} {tt tt1 : TT} {mi mi1 : MN} {mg mg1 : MG} {mt mt1 : MT} {vs vs1 : List Nat} (hi : ImI K wi mi) (hg : ImG K g mg) (ho : GOwn g vs) (ht : ImT K tt mt) (hi1 : ImI K wi1 mi1) (hg1 : ImG K g1 mg1) (ho1 : GOwn g1 vs1) (ht1 : ImT K tt1 mt1) (he : ImE K te me) :
    ImN K (tLc2 wi g tt wi1 g1 tt1 te vs vs1) (mLc2 mi mg mt mi1 mg1 mt1 me vs vs1) := fun σ H M ρ S ys S' hs ok e Q q => by
  unfold mLc2 at e
  cases e1 : mi ρ S with
  | none => rw [e1] at e; cases e
  | some p =>
    rw [e1, Option.bind_some] at e
    split at e <;> first | (cases e; done) | skip
    rename_i hz
    obtain ⟨xs, S1⟩ := p
    simp only at e hz
    refine hi σ H M ρ S xs S1 hs ok e1 _ fun J H1 M1 x1 ok1 it => ?_
    intro Dl hD
    have hs1 := (hs.mono x1).wipe vs
    refine ⟨fun i m Hi => m = xs.length - i ∧ i ≤ xs.length ∧ ∃ (Mi : Adr) (Si : Sto) (acc : List D) (av : List V) (zs : List D), LcI K M1 H1 Dl Mi Hi Si av acc ∧ RSt K Mi Hi (L2.wipe σ vs) (wipeR ρ vs) ∧
      acc.length ≤ i * 1000 ∧ lc2Run mg mt mi1 mg1 mt1 me vs1 (xs.drop i) (wipeR ρ vs) Si = some (zs, S') ∧ acc ++ zs = ys,
      ⟨xs.length, by omega, Nat.zero_le _, M1.gh Dl, S1, [], [], ys, ⟨Ext.ghost hD, List.mem_cons_self, fun z => ok1.notin hD (.inl z), ok1.ghost hD, upd_same, .nil⟩, hs1.fresh hD, Nat.zero_le _, e, rfl⟩, ?_⟩
    rintro i m Hi ⟨rfl, hle, Mi, Si, acc, av, zs, I, hsi, hacc, er, hy⟩
    have J1 := it Mi Hi Si I.x.w I.ok i
    by_cases hlt : i < xs.length
    · refine .inr ⟨J1.2.1 hlt, fun Hn => ∃ (Mi : Adr) (Si : Sto) (acc : List D) (av : List V) (zs : List D), LcI K M1 H1 Dl Mi Hn Si av acc ∧ RSt K Mi Hn (L2.wipe σ vs) (wipeR ρ vs) ∧
        acc.length ≤ (i + 1) * 1000 ∧ lc2Run mg mt mi1 mg1 mt1 me vs1 (xs.drop (i + 1)) (wipeR ρ vs) Si = some (zs, S') ∧ acc ++ zs = ys, fun Hn hN => ⟨xs.length - (i + 1), by omega, rfl, by omega, hN⟩, fun x H2 hx => ?_⟩
      have ed : xs.drop i = xs[i] :: xs.drop (i + 1) := List.drop_eq_getElem_cons hlt
      rw [ed] at er
      unfold lc2Run at er
      obtain ⟨x2, ok2, r2⟩ := J1.2.2 x H2 xs[i] (List.getElem?_eq_getElem hlt) hx
      cases e2 : mg xs[i] (wipeR ρ vs) with
      | none => rw [e2] at er; cases er
      | some ρ1 =>
        rw [e2, Option.bind_some] at er
        have hs2 := hsi.mono x2
        have I2 := I.ext x2 ok2
        refine ho σ _ _ _ _ (wipe_wipe σ fun _ z => z) (hg _ H2 Mi (wipeR ρ vs) ρ1 x xs[i] hs2 r2 e2 _ fun σ' hs' => ?_)
        cases e3 : mt ρ1 Si with
        | none => rw [e3] at er; cases er
        | some p =>
          rw [e3, Option.bind_some] at er
          obtain ⟨b, S3⟩ := p
          refine ht σ' H2 Mi ρ1 Si b S3 hs' ok2 e3 _ fun H3 M3 x3 ok3 => ?_
          have I3 := I2.ext x3 ok3
          have hs3 := hs2.mono x3
          have hs3' := hs'.mono x3
          cases b with
          | false =>
            rw [if_neg (show ¬ (false = true) from Bool.false_ne_true)]
            rw [if_neg (show ¬ (false = true) from Bool.false_ne_true)] at er
            exact ⟨M3, S3, acc, av, zs, I3, hs3, by omega, er, hy⟩
          | true =>
            rw [if_pos rfl]
            rw [if_pos rfl] at er
            cases e4 : mi1 ρ1 S3 with
            | none => rw [e4] at er; cases er
            | some p4 =>
              rw [e4, Option.bind_some] at er
              split at er <;> first | (cases er; done) | skip
              rename_i hz1
              obtain ⟨xs1, S4⟩ := p4
              simp only at er hz1
              cases e5 : lcRun mg1 mt1 me xs1 (wipeR ρ1 vs1) S4 with
              | none => rw [e5] at er; cases er
              | some r =>
                rw [e5, Option.bind_some] at er
                cases e6 : lc2Run mg mt mi1 mg1 mt1 me vs1 (xs.drop (i + 1)) (wipeR ρ vs) r.2 with
                | none => rw [e6] at er; cases er
                | some z =>
                  rw [e6] at er
                  cases er
                  refine hi1 σ' H3 M3 ρ1 S3 xs1 S4 hs3' ok3 e4 _ fun J4 H4 M4 x4 ok4 it4 => ?_
                  have I4 := I3.ext x4 ok4
                  refine ⟨fun j k Hj => k = xs1.length - j ∧ j ≤ xs1.length ∧ ∃ (Mj : Adr) (Sj : Sto) (ac : List D) (aw : List V) (us : List D), ExtW M4 H4 Mj Hj ∧ LcI K M1 H1 Dl Mj Hj Sj aw ac ∧ RSt K Mj Hj (L2.wipe σ vs) (wipeR ρ vs) ∧ RSt K Mj Hj (L2.wipe σ' vs1) (wipeR ρ1 vs1) ∧
                    ac.length ≤ i * 1000 + j ∧ lcRun mg1 mt1 me (xs1.drop j) (wipeR ρ1 vs1) Sj = some (us, r.2) ∧ ac ++ us = acc ++ r.1,
                    ⟨xs1.length, by omega, Nat.zero_le _, M4, S4, acc, av, r.1, Ext.refl.w, I4, hs3.mono x4, (hs3'.mono x4).wipe vs1, by omega, e5, rfl⟩, ?_⟩
                  rintro j k Hj ⟨rfl, hle1, Mj, Sj, ac, aw, us, xj, Ij, hsj, hsj', hac, ej, hyj⟩
                  have J5 := it4 Mj Hj Sj xj Ij.ok j
                  by_cases hlt1 : j < xs1.length
                  · refine .inr ⟨J5.2.1 hlt1, fun Hn => ∃ (Mj : Adr) (Sj : Sto) (ac : List D) (aw : List V) (us : List D), ExtW M4 H4 Mj Hn ∧ LcI K M1 H1 Dl Mj Hn Sj aw ac ∧ RSt K Mj Hn (L2.wipe σ vs) (wipeR ρ vs) ∧ RSt K Mj Hn (L2.wipe σ' vs1) (wipeR ρ1 vs1) ∧
                      ac.length ≤ i * 1000 + (j + 1) ∧ lcRun mg1 mt1 me (xs1.drop (j + 1)) (wipeR ρ1 vs1) Sj = some (us, r.2) ∧ ac ++ us = acc ++ r.1, fun Hn hN => ⟨xs1.length - (j + 1), by omega, rfl, by omega, hN⟩, fun x5 H5 hx5 => ?_⟩
                    have ed1 : xs1.drop j = xs1[j] :: xs1.drop (j + 1) := List.drop_eq_getElem_cons hlt1
                    rw [ed1] at ej
                    unfold lcRun at ej
                    obtain ⟨y5, ok5, r5⟩ := J5.2.2 x5 H5 xs1[j] (List.getElem?_eq_getElem hlt1) hx5
                    have I5 := Ij.ext y5 ok5
                    cases e7 : mg1 xs1[j] (wipeR ρ1 vs1) with
                    | none => rw [e7] at ej; cases ej
                    | some ρ5 =>
                      rw [e7, Option.bind_some] at ej
                      refine ho1 σ' _ _ _ _ (wipe_wipe σ' fun _ z => z) (hg1 _ H5 Mj (wipeR ρ1 vs1) ρ5 x5 xs1[j] (hsj'.mono y5) r5 e7 _ fun σ5 hs5 => ?_)
                      cases e8 : mt1 ρ5 Sj with
                      | none => rw [e8] at ej; cases ej
                      | some p8 =>
                        rw [e8, Option.bind_some] at ej
                        obtain ⟨b8, S8⟩ := p8
                        refine ht1 σ5 H5 Mj ρ5 Sj b8 S8 hs5 ok5 e8 _ fun H8 M8 y8 ok8 => ?_
                        have I8 := I5.ext y8 ok8
                        have y58 := y5.trans y8
                        cases b8 with
                        | false =>
                          rw [if_neg (show ¬ (false = true) from Bool.false_ne_true)]
                          rw [if_neg (show ¬ (false = true) from Bool.false_ne_true)] at ej
                          exact ⟨M8, S8, ac, aw, us, xj.trans y58.w, I8, hsj.mono y58, hsj'.mono y58, by omega, ej, hyj⟩
                        | true =>
                          rw [if_pos rfl]
                          rw [if_pos rfl] at ej
                          cases e9 : me ρ5 S8 with
                          | none => rw [e9] at ej; cases ej
                          | some p9 =>
                            rw [e9, Option.bind_some] at ej
                            cases e10 : lcRun mg1 mt1 me (xs1.drop (j + 1)) (wipeR ρ1 vs1) p9.2 with
                            | none => rw [e10] at ej; cases ej
                            | some p10 =>
                              rw [e10] at ej
                              obtain ⟨e11, e12⟩ := Prod.mk.inj (Option.some.inj (show some (p9.1 :: p10.1, p10.2) = some (us, r.2) from ej))
                              subst e11
                              refine he σ5 H8 M8 ρ5 S8 p9.1 p9.2 (hs5.mono y8) ok8 e9 _ fun v H9 M9 y9 ok9 r9 => ?_
                              have I9 := I8.ext y9 ok9
                              have y59 := y58.trans y9
                              have x49 := xj.trans y59.w
                              have hDg := I4.g
                              refine ⟨aw, I9.hd, Nat.lt_of_lt_of_le (show aw.length < 1000001 by rw [I9.ra.len]; have : i * 1000 ≤ 999000 := by (have : i ≤ 999 := by omega); omega
                                                                                                 omega) (by decide), M9, p9.2, ac ++ [p9.1], aw ++ [v], p10.1, x49.trans (ExtW.grow (.inr I9.g) I9.hd), I9.push hD r9, (hsj.mono y59).grow (.inr I9.g) I9.hd, (hsj'.mono y59).grow (.inr I9.g) I9.hd, by rw [List.length_append, List.length_singleton]; omega, by rw [e10, ← e12], by rw [List.append_assoc]; exact hyj⟩
                  · refine .inl ⟨J5.1 (by omega), ?_⟩
                    have e0 : xs1.drop j = [] := List.drop_eq_nil_of_le (by omega)
                    rw [e0] at ej
                    obtain ⟨e11, e12⟩ := Prod.mk.inj (Option.some.inj (show some (([] : List D), Sj) = some (us, r.2) from ej))
                    subst e11
                    subst e12
                    rw [List.append_nil] at hyj
                    subst hyj
                    exact ⟨Mj, _, _, aw, z.1, Ij, hsj, by omega, e6, by rw [List.append_assoc]; exact hy⟩
    · refine .inl ⟨J1.1 (by omega), ?_⟩
      have e0 : xs.drop i = [] := List.drop_eq_nil_of_le (by omega)
      rw [e0] at er
      cases er
      rw [List.append_nil] at hy
      subst hy
      have xf := x1.trans I.x
      exact q Dl av Hi Mi xf I.ok (x1.free Dl hD) I.hd I.g I.ra
end
end G
set_option Elab.async false
set_option linter.all false
set_option autoImplicit false
set_option maxRecDepth 100000
set_option maxHeartbeats 4000000
/-! rules: comprehensions with two `for`s; sorted of ints. -/
namespace G
open PySem L2
section
variable {ι : Type} {F : Fam ι} {a e e1 : Expr} {ma mb me : ME} {mn mn2 : MN} {m : MA} {mt mt1 : MT} {pos : Pos} {st : Stmt} {b : Nat}
theorem d_lc2 {tg elt tg1 : Expr} {ifs ifs1 : List Expr} {scope : Scope} {own : List (Str × Nat)} {vs1 : List Nat} {mi mi1 : MN} {mg mg1 : MG} {g g1 : TG} (hi : PDI F tg e mi) (ok : ∀ i, BlkOk (F.X i).N (F.X i).env.scope scope own) (hv : ∀ i ∈ vs1, i ∈ own.map (·.2))
    (hg : ∀ p, PG ((F.blk scope).X p) tg g) (hgi : ImG F.K g mg) (ho : GOwn g (own.map (·.2))) (ht : PDTs (F.blk scope) ifs mt)
    (hi1 : PDI (F.blk scope) tg1 e1 mi1) (hg1 : ∀ p, PG ((F.blk scope).X p) tg1 g1) (hgi1 : ImG F.K g1 mg1) (ho1 : GOwn g1 vs1) (ht1 : PDTs (F.blk scope) ifs1 mt1)
    (he : PDE (F.blk scope) elt me) (hs : ∀ i x, foldedSetIterable e (F.X i).env x = pure x := by intro _ _; rfl) (hs1 : ∀ env x, foldedSetIterable e1 env x = pure x := by intro _ _; rfl) :
    PDN F (.ListComp elt [⟨tg, e, ifs, 0⟩, ⟨tg1, e1, ifs1, 0⟩] scope pos) (mLc2 mi mg mt mi1 mg1 mt1 me (own.map (·.2)) vs1) := by
  obtain ⟨ti, pi, qi⟩ := hi
  obtain ⟨tt, pt, qt⟩ := ht
  obtain ⟨ti1, pi1, qi1⟩ := hi1
  obtain ⟨tt1, pt1, qt1⟩ := ht1
  obtain ⟨te, pe, qe⟩ := he
  exact ⟨_, fun i => pe_lc2 (F.calm i) (F.nd i) (pi i) (ok i) hv (fun s H C cl fp => hg (i, s, H, C, cl, fp)) (fun s H C cl fp => pt (i, s, H, C, cl, fp)) (fun s H C cl fp => pi1 (i, s, H, C, cl, fp)) (fun s H C cl fp => hg1 (i, s, H, C, cl, fp)) (fun s H C cl fp => pt1 (i, s, H, C, cl, fp))
    (fun s H C cl fp => pe (i, s, H, C, cl, fp)) (hs i) hs1, im_lc2 qi hgi ho qt qi1 hgi1 ho1 qt1 qe⟩
theorem d_lc2P {tg elt tg1 : Expr} {ifs ifs1 : List Expr} {scope : Scope} {own : List (Str × Nat)} {vs1 : List Nat} {mi mi1 : MN} {mg mg1 : MG} {g g1 : TG} (j : Nat) {y : Str} {py spos : Pos} (hi : PDI F tg e mi) (ok : ∀ i, BlkOk (F.X i).N (F.X i).env.scope scope own) (hv : ∀ i ∈ vs1, i ∈ own.map (·.2))
    (hg : ∀ p, PG ((F.blk scope).X p) tg g) (hgi : ImG F.K g mg) (ho : GOwn g (own.map (·.2))) (ht : PDTs (F.blk scope) ifs mt)
    (hi1 : PDI (F.blk scope) tg1 e1 mi1) (hg1 : ∀ p, PG ((F.blk scope).X p) tg1 g1) (hgi1 : ImG F.K g1 mg1) (ho1 : GOwn g1 vs1) (ht1 : PDTs (F.blk scope) ifs1 mt1)
    (he : PDE (F.blk scope) elt me) (hsw : ∀ i, swapsWith (.ListComp elt [⟨tg, e, ifs, 0⟩, ⟨tg1, e1, ifs1, 0⟩] scope pos) (some (.Name y py)) spos.line (F.X i).env = pure true) (hy : ∀ i, (F.X i).N[j]? = some y := by exact fun _ => rfl) (hyl : ∀ i, (F.X i).env.scope.names.lookup y = some .local := by exact fun _ => rfl)
    (hs : ∀ i x, foldedSetIterable e (F.X i).env x = pure x := by intro _ _; rfl) (hs1 : ∀ env x, foldedSetIterable e1 env x = pure x := by intro _ _; rfl) :
    ∃ t, (∀ i, PS (F.X i) (.Assign [.Name y py] (.ListComp elt [⟨tg, e, ifs, 0⟩, ⟨tg1, e1, ifs1, 0⟩] scope pos) spos) (tAsg t (gName j))) ∧ ImN F.K t (mLc2 mi mg mt mi1 mg1 mt1 me (own.map (·.2)) vs1) := by
  obtain ⟨ti, pi, qi⟩ := hi
  obtain ⟨tt, pt, qt⟩ := ht
  obtain ⟨ti1, pi1, qi1⟩ := hi1
  obtain ⟨tt1, pt1, qt1⟩ := ht1
  obtain ⟨te, pe, qe⟩ := he
  exact ⟨_, fun i => ps_setLc2 (F.calm i) (F.nd i) (hy i) (hyl i) (hsw i) (pi i) (ok i) hv (fun s H C cl fp => hg (i, s, H, C, cl, fp)) (fun s H C cl fp => pt (i, s, H, C, cl, fp)) (fun s H C cl fp => pi1 (i, s, H, C, cl, fp)) (fun s H C cl fp => hg1 (i, s, H, C, cl, fp)) (fun s H C cl fp => pt1 (i, s, H, C, cl, fp))
    (fun s H C cl fp => pe (i, s, H, C, cl, fp)) (hs i) hs1, im_lc2 qi hgi ho qt qi1 hgi1 ho1 qt1 qe⟩
end

theorem sorted_one : ∀ {xs ys : List Int}, xs.Perm ys → xs.Pairwise (· ≤ ·) → ys.Pairwise (· ≤ ·) → xs = ys
  | [], ys, p, _, _ => (List.nil_perm.mp p).symm
  | x :: xs, [], p, _, _ => absurd (List.perm_nil.mp p) (by simp)
  | x :: xs, y :: ys, p, h1, h2 => by
    rw [List.pairwise_cons] at h1 h2
    have hx : y ≤ x := by
      rcases List.mem_cons.mp (p.mem_iff.mp List.mem_cons_self) with e | e
      · rw [e]; exact Int.le_refl _
      · exact h2.1 x e
    have hy : x ≤ y := by
      rcases List.mem_cons.mp (p.mem_iff.mpr List.mem_cons_self) with e | e
      · rw [e]; exact Int.le_refl _
      · exact h1.1 y e
    have e : x = y := Int.le_antisymm hy hx
    subst e
    rw [sorted_one (List.perm_cons x |>.mp p) h1.2 h2.2]
def insI (x : Int) : List Int → List Int
  | [] => [x]
  | y :: r => if x ≤ y then x :: y :: r else y :: insI x r
def sortI : List Int → List Int
  | [] => []
  | x :: r => insI x (sortI r)
theorem insI_perm (x : Int) : ∀ r : List Int, (insI x r).Perm (x :: r)
  | [] => .refl _
  | y :: r => by
    unfold insI
    split
    · exact .refl _
    · exact ((insI_perm x r).cons y).trans (.swap x y r)
theorem sortI_perm : ∀ r : List Int, (sortI r).Perm r
  | [] => .nil
  | x :: r => (insI_perm x _).trans ((sortI_perm r).cons x)
theorem insI_up (x : Int) : ∀ r : List Int, r.Pairwise (· ≤ ·) → (insI x r).Pairwise (· ≤ ·)
  | [], _ => by simp [insI]
  | y :: r, h => by
    unfold insI
    split
    · rename_i hxy
      rw [List.pairwise_cons]
      refine ⟨fun z hz => ?_, h⟩
      rcases List.mem_cons.mp hz with e | hz
      · rw [e]; exact hxy
      · exact Int.le_trans hxy ((List.pairwise_cons.mp h).1 z hz)
    · rename_i hxy
      rw [List.pairwise_cons]
      refine ⟨fun z hz => ?_, insI_up x r (List.pairwise_cons.mp h).2⟩
      rcases List.mem_cons.mp ((insI_perm x r).mem_iff.mp hz) with e | hz
      · rw [e]; omega
      · exact (List.pairwise_cons.mp h).1 z hz
theorem sortI_up : ∀ r : List Int, (sortI r).Pairwise (· ≤ ·)
  | [] => .nil
  | x :: r => insI_up x _ (sortI_up r)
section
variable {K : PySem.W.Frag} {M M' : Adr} {H H' : Hp} {S S' : Sto} {te : TE}
def mSortI (m : MN) : MN := fun ρ S => (m ρ S).bind fun p => (intL p.1).map fun ns => ((sortI ns).map .int, p.2)
theorem rl_intsM : ∀ ns : List Int, RlA K M H (ns.map V.int) (ns.map PyData.int)
  | [] => .nil
  | n :: r => .cons (.int n) (rl_intsM r)
theorem im_sortI {m : MN} (h : ImL K te m) : ImN K (tCB (rSortedI K) (tCons te tNil)) (mSortI m) := fun σ H M ρ S b S' hs ok e Q q => by
  unfold mSortI at e
  cases e1 : m ρ S with
  | none => rw [e1] at e; cases e
  | some p =>
    rw [e1, Option.bind_some] at e
    cases e2 : intL p.1 with
    | none => rw [e2] at e; cases e
    | some ns =>
      rw [e2] at e
      cases e
      refine h σ H M ρ S _ _ hs ok e1 _ fun a vs H1 M1 x1 ok1 sq r => ?_
      refine ⟨a, ns, rfl, by rw [← r.intL e2]; exact sq, fun ns' p h1 h2 hp => ?_⟩
      have e3 : ns' = sortI ns := sorted_one (h1.trans (sortI_perm ns).symm) h2 (sortI_up ns)
      subst e3
      exact q p _ _ (M1.gh p) (x1.trans (Ext.ghost hp)) (ok1.ghost hp) (x1.free p hp) upd_same List.mem_cons_self (rl_intsM _)
end
section
variable {ι : Type} {F : Fam ι} {e : Expr} {mn : MN} {pos : Pos}
theorem d_sorted {px : Pos} (hm : ∀ i, (F.X i).mg "sorted" = none) (h : PDL F e mn) (hg : ∀ i, Gl (F.X i) "sorted" := by exact fun _ => rfl) (hs : ∀ i, starEach [e] (F.X i).env = (false, eval e (F.X i).env) :: starEach [] (F.X i).env := by intro _; rfl) :
    PDN F (.Call (.Name "sorted" px) [e] [] pos) (mSortI mn) := by
  obtain ⟨t, p, q⟩ := h
  exact ⟨_, fun i => call1 (by have := cr_sortedI (X := F.X i); rw [F.hK i] at this; exact this) (hg i) (hm i) (by decide +kernel) (p i) (by decide) (by decide) (hs i), im_sortI q⟩
end
end G
set_option Elab.async false
set_option linter.all false
set_option autoImplicit false
set_option maxRecDepth 100000
set_option maxHeartbeats 4000000
/-! range down by ones, list.pop(i), list.index, list(range(..)). -/
namespace G
open PySem L2
def dwn (hi : Int) (n : Nat) : List D := (List.range n).map fun i => .int (hi + (i : Nat) * (-1))
theorem dwn_get {lo : Int} {n i : Nat} {d : D} (h : (dwn lo n)[i]? = some d) : i < n ∧ d = .int (lo + (i : Nat) * (-1)) := by
  unfold dwn at h
  rw [List.getElem?_map] at h
  by_cases hi : i < n
  · rw [List.getElem?_range hi] at h
    cases h
    exact ⟨hi, rfl⟩
  · rw [List.getElem?_eq_none (by rw [List.length_range]; omega)] at h
    cases h
theorem dwn_len {lo : Int} {n : Nat} : (dwn lo n).length = n := by unfold dwn; rw [List.length_map, List.length_range]
section
variable {K : PySem.W.Frag} {M M' : Adr} {H H' : Hp} {S S' : Sto} {ta tb tc te : TE} {ma mb mc me : ME} {d : D}
theorem itok_d {lo : Int} {n : Nat} : ItOk K (Itc lo (-1) n) (dwn lo n) M H := fun M1 H1 S1 x ok i =>
  ⟨fun h => by rw [dwn_len] at h; exact h, fun h => by rw [dwn_len] at h; exact h, fun v H2 d e h => by
    obtain ⟨rfl, rfl⟩ := h
    obtain ⟨_, rfl⟩ := dwn_get e
    exact ⟨.refl, ok, .int _⟩⟩
def mR3 (m1 m2 m3 : ME) : MN := fun ρ S => (m1 ρ S).bind fun p => (m2 ρ p.2).bind fun p2 => (m3 ρ p2.2).bind fun p3 => match p.1, p2.1, p3.1 with
  | .int i, .int j, .int k => if bRng i && bRng j && decide (k = -1) then some (dwn i (i - j).toNat, p3.2) else none
  | _, _, _ => none
theorem im_r3 (ha : ImE K ta ma) (hb : ImE K tb mb) (hc : ImE K tc mc) : ImI K (iRng3 (tCons ta (tCons tb (tCons tc tNil)))) (mR3 ma mb mc) := fun σ H M ρ S xs S' hs ok e R q => by
  unfold mR3 at e
  cases e1 : ma ρ S with
  | none => rw [e1] at e; cases e
  | some p =>
    rw [e1, Option.bind_some] at e
    cases e2 : mb ρ p.2 with
    | none => rw [e2] at e; cases e
    | some p2 =>
      rw [e2, Option.bind_some] at e
      cases e3 : mc ρ p2.2 with
      | none => rw [e3] at e; cases e
      | some p3 =>
        rw [e3, Option.bind_some] at e
        split at e <;> first | (cases e; done) | skip
        rename_i i j k q1 q2 q3
        split at e <;> cases e
        rename_i hb'
        rw [Bool.and_eq_true, Bool.and_eq_true] at hb'
        have hi : -1000000000000 ≤ i ∧ i ≤ 1000000000000 := of_decide_eq_true hb'.1.1
        have hj : -1000000000000 ≤ j ∧ j ≤ 1000000000000 := of_decide_eq_true hb'.1.2
        have hk : k = -1 := of_decide_eq_true hb'.2
        subst hk
        refine ha σ H M ρ S p.1 p.2 hs ok e1 _ fun x H1 M1 x1 ok1 r1 => ?_
        refine hb σ H1 M1 ρ p.2 p2.1 p2.2 (hs.mono x1) ok1 e2 _ fun y H2 M2 x2 ok2 r2 => ?_
        refine hc σ H2 M2 ρ p2.2 p3.1 p3.2 (hs.mono (x1.trans x2)) ok2 e3 _ fun z H3 M3 x3 ok3 r3 => ?_
        rw [q1] at r1
        rw [q2] at r2
        rw [q3] at r3
        cases r1
        cases r2
        cases r3
        exact ⟨i, j, -1, (i - j).toNat, rfl, RgC.neg (by omega) (by omega) (by omega) (by omega), q _ H3 M3 (x1.trans (x2.trans x3)) ok3 itok_d⟩
/-! list.pop(i) -/
def mPopI (i : Nat) (m : ME) : ME := fun ρ S => (match ρ[i]? with
  | some (some (.loc n)) => (S[n]?.join).bind fun _ => (m ρ S).bind fun p => (match p.1 with
    | .int k => (p.2[n]?.join).bind fun xs => if 0 ≤ k ∧ k < xs.length ∧ k ≤ 1000000 then (xs[k.toNat]?).map fun y => (y, p.2.set n (some (xs.eraseIdx k.toNat))) else none
    | _ => none)
  | _ => none)
theorem RlA.eraseIdx {vs : List V} {ds : List D} (h : RlA K M H vs ds) (k : Nat) : RlA K M H (vs.eraseIdx k) (ds.eraseIdx k) := by
  rw [List.eraseIdx_eq_take_drop_succ, List.eraseIdx_eq_take_drop_succ]
  exact (h.take _).append (h.drop _)
theorem seqIx {i : Int} {n : Nat} (h0 : 0 ≤ i) (h1 : i < n) : seqIndex? i n = some i.toNat := by
  unfold seqIndex?
  simp [show ¬ i < 0 by omega, show i < n by omega]
theorem im_popI {i : Nat} (h : ImE K te me) : ImE K (tBM K "list" rPopAt (tVar i) (tCons te tNil)) (mPopI i me) := fun σ H M ρ S d S' hs ok e Q q => by
  unfold mPopI at e
  split at e <;> first | (cases e; done) | skip
  rename_i n en
  cases e0 : S[n]?.join with
  | none => rw [e0] at e; cases e
  | some xs0 =>
    rw [e0, Option.bind_some] at e
    obtain ⟨a0, vs0, hw0, c20, c30, c40⟩ := cell_at hs ok en (join_some e0)
    cases e1 : me ρ S with
    | none => rw [e1] at e; cases e
    | some p =>
      rw [e1, Option.bind_some] at e
      split at e <;> first | (cases e; done) | skip
      rename_i k ek
      cases e2 : p.2[n]?.join with
      | none => rw [e2] at e; cases e
      | some xs =>
        rw [e2, Option.bind_some] at e
        split at e <;> first | (cases e; done) | skip
        rename_i hk
        cases e3 : xs[k.toNat]? with
        | none => rw [e3] at e; cases e
        | some y =>
          rw [e3] at e
          cases e
          refine ⟨_, hw0, tyl c30, h σ H M ρ S p.1 p.2 hs ok e1 _ fun v H1 M1 x1 ok1 r1 => ?_⟩
          rw [ek] at r1
          cases r1
          obtain ⟨a, vs, hw, c2, c3, c4⟩ := cell_at (hs.mono x1) ok1 en (join_some e2)
          rw [hw0] at hw
          cases hw
          obtain ⟨v, e4, r⟩ := c4.get e3
          refine ⟨_, vs, k, k.toNat, v, rfl, rfl, c3, by omega, by omega, seqIx hk.1 (by rw [c4.len]; exact hk.2.1), e4, ?_⟩
          have xc : Ext M1 H1 M1 (upd H1 _ (.lst (vs.eraseIdx k.toNat))) := Ext.setc (List.mem_of_getElem? c2) c3
          exact q _ _ M1 (x1.trans xc) (ok1.setc c2 c3 (c4.eraseIdx _)) (r.mono xc)
/-! name.index(x) -/
def mIdx (i : Nat) (m : ME) : ME := fun ρ S => (mLVar i ρ S).bind fun _ => (m ρ S).bind fun p => (mLVar i ρ p.2).bind fun q =>
  if SeqAt.shaped p.1 && SeqAt.shaped (.list q.1) then (q.1.findIdx? fun z => PyData.eqv z p.1).map fun j => (.int (j : Nat), p.2) else none
theorem im_idx {i : Nat} (h : ImE K te me) : ImE K (tBM K "list" (rIndexD K) (tVar i) (tCons te tNil)) (mIdx i me) := fun σ H M ρ S d S' hs ok e Q q => by
  unfold mIdx at e
  cases e0 : mLVar i ρ S with
  | none => rw [e0] at e; cases e
  | some p0 =>
    rw [e0, Option.bind_some] at e
    obtain ⟨_, a0, vs0, ha0, sq0, _⟩ := lvar_at hs ok e0
    cases e1 : me ρ S with
    | none => rw [e1] at e; cases e
    | some p =>
      rw [e1, Option.bind_some] at e
      cases e2 : mLVar i ρ p.2 with
      | none => rw [e2] at e; cases e
      | some p2 =>
        rw [e2, Option.bind_some] at e
        split at e <;> first | (cases e; done) | skip
        rename_i hb
        rw [Bool.and_eq_true] at hb
        cases e3 : p2.1.findIdx? fun z => PyData.eqv z p.1 with
        | none => rw [e3] at e; cases e
        | some j =>
          rw [e3] at e
          cases e
          refine ⟨_, ha0, .inl ⟨rfl, _, sq0⟩, h σ H M ρ S p.1 p.2 hs ok e1 _ fun v H1 M1 x1 ok1 r1 => ?_⟩
          obtain ⟨_, a, vs, ha, sq, r⟩ := lvar_at (hs.mono x1) ok1 e2
          rw [ha0] at ha
          cases ha
          obtain ⟨hj, hz, hno⟩ := List.findIdx?_eq_some_iff_getElem.mp e3
          refine ⟨_, v, p.1, p2.1, j, p2.1[j], rfl, rfl, .lst sq (RlA.dp _ _ r), r1.dp, hb.2, hb.1, List.getElem?_eq_getElem hj, hz, fun m z' hm ez => ?_, q _ H1 M1 x1 ok1 (.int _)⟩
          obtain ⟨hm', ez'⟩ := List.getElem?_eq_some_iff.mp ez
          rw [← ez']
          have := hno m hm
          simpa using this
/-! list(range(..)), tuple(range(..)) -/
def mRg1 (m : ME) : MN := fun ρ S => (m ρ S).bind fun p => match p.1 with
  | .int j => if decide (0 ≤ j ∧ j ≤ 1000000) then some (rng 0 j.toNat, p.2) else none
  | _ => none
theorem rl_rg (lo : Int) : ∀ (l : List Nat), RlA K M H (l.map fun i => V.int (lo + (i : Nat))) (l.map fun i => PyData.int (lo + (i : Nat)))
  | [] => .nil
  | i :: l => .cons (.int _) (rl_rg lo l)
theorem im_listRg (h : ImE K te me) : ImN K (tLstRg (tRg1 te)) (mRg1 me) := fun σ H M ρ S o S' hs ok e Q q => by
  unfold mRg1 at e
  cases e1 : me ρ S with
  | none => rw [e1] at e; cases e
  | some p =>
    rw [e1, Option.bind_some] at e
    split at e <;> first | (cases e; done) | skip
    rename_i j ej
    split at e <;> cases e
    rename_i hj
    have hj := of_decide_eq_true hj
    refine h σ H M ρ S p.1 p.2 hs ok e1 _ fun v H1 M1 x1 ok1 r1 => ?_
    rw [ej] at r1
    cases r1
    refine ⟨j, rfl, RgOk.of_le (by omega) (by omega) (by omega) (by omega), fun p hp => ?_⟩
    have e2 : (j - 0).toNat = j.toNat := by omega
    refine q p _ _ (M1.gh p) (x1.trans (Ext.ghost hp)) (ok1.ghost hp) (x1.free p hp) upd_same List.mem_cons_self ?_
    unfold rgV rng
    rw [e2]
    exact rl_rg 0 _
end
section
variable {ι : Type} {F : Fam ι} {a e c : Expr} {ma mb mc me : ME} {mn mn2 : MN} {m : MA} {pos : Pos}
theorem d_r3 {tg : Expr} {px : Pos} (hm : ∀ i, (F.X i).mg "range" = none) (h : PDE F a ma) (h2 : PDE F e mb) (h3 : PDE F c mc) (hg : ∀ i, Gl (F.X i) "range" := by exact fun _ => rfl)
    (hs1 : ∀ i, starEach [a, e, c] (F.X i).env = (false, eval a (F.X i).env) :: starEach [e, c] (F.X i).env := by intro _; rfl) (hs2 : ∀ i, starEach [e, c] (F.X i).env = (false, eval e (F.X i).env) :: starEach [c] (F.X i).env := by intro _; rfl)
    (hs3 : ∀ i, starEach [c] (F.X i).env = (false, eval c (F.X i).env) :: starEach [] (F.X i).env := by intro _; rfl) (hp : ∀ i, (backTo pos (starEach [e, c] (F.X i).env)).any (·.1) = false := by intro _; rfl) :
    PDI F tg (.Call (.Name "range" px) [a, e, c] [] pos) (mR3 ma mb mc) := by
  obtain ⟨t, p, q⟩ := h
  obtain ⟨t2, p2, q2⟩ := h2
  obtain ⟨t3, p3, q3⟩ := h3
  exact ⟨_, fun i => pi_range3 (hg i) (hm i) (pa_cons (p i) (pa_cons (p2 i) (pa_cons (p3 i) pa_nil (hs3 i)) (hs2 i)) (hs1 i)) (hs1 i) (hp i), im_r3 q q2 q3⟩
theorem d_popI (j : Nat) {x : Str} {px apos : Pos} (h : PDE F e me) (hN : ∀ i, (F.X i).N[j]? = some x := by exact fun _ => rfl) (hv : ∀ i, Vis (F.X i).env.scope x := by first | exact fun _ => Or.inl rfl | exact fun _ => Or.inr (Or.inl rfl) | exact fun _ => Or.inr (Or.inr rfl))
    (hd : (x == ("__debug__" : Str)) = false := by decide) (hcd : (x == ("__classdict__" : Str)) = false := by decide) (hbase : ∀ i, attributeBase (.Name x px) "pop" (F.X i).env (eval (.Name x px) (F.X i).env) = eval (.Name x px) (F.X i).env := by intro _; rfl)
    (hfew : ∀ i, ((backTo pos (starEach [e] (F.X i).env)).all (fun x => !x.1) && (backToKw pos (keywordEach [] (F.X i).env)).all (fun x => x.1.isSome) && decide ([e].length + ([] : List Keyword).length + (if ([] : List Keyword).isEmpty then 0 else 1) < 30)) = true := by intro _; rfl)
    (hline : (apos.endLine == pos.line) = true := by rfl) (hs : ∀ i, starEach [e] (F.X i).env = (false, eval e (F.X i).env) :: starEach [] (F.X i).env := by intro _; rfl) : PDE F (.Call (.Attribute (.Name x px) "pop" apos) [e] [] pos) (mPopI j me) := by
  obtain ⟨t, p, q⟩ := h
  exact ⟨_, fun i => by have := pe_bm (cpos := pos) (apos := apos) PySem.F.plainAttrs_list PySem.F.slot_list_pop PySem.F.type_list_pop (mt_popAt (X := F.X i)) (pe_var (pos := px) (hN i) (hv i) hd hcd) (pa_cons (p i) pa_nil (hs i)) (hbase i) (hfew i) hline (hs i) rfl; rw [F.hK i] at this; exact this, im_popI q⟩
theorem d_idx (j : Nat) {x : Str} {px apos : Pos} (h : PDE F e me) (hN : ∀ i, (F.X i).N[j]? = some x := by exact fun _ => rfl) (hv : ∀ i, Vis (F.X i).env.scope x := by first | exact fun _ => Or.inl rfl | exact fun _ => Or.inr (Or.inl rfl) | exact fun _ => Or.inr (Or.inr rfl))
    (hd : (x == ("__debug__" : Str)) = false := by decide) (hcd : (x == ("__classdict__" : Str)) = false := by decide) (hbase : ∀ i, attributeBase (.Name x px) "index" (F.X i).env (eval (.Name x px) (F.X i).env) = eval (.Name x px) (F.X i).env := by intro _; rfl)
    (hfew : ∀ i, ((backTo pos (starEach [e] (F.X i).env)).all (fun x => !x.1) && (backToKw pos (keywordEach [] (F.X i).env)).all (fun x => x.1.isSome) && decide ([e].length + ([] : List Keyword).length + (if ([] : List Keyword).isEmpty then 0 else 1) < 30)) = true := by intro _; rfl)
    (hline : (apos.endLine == pos.line) = true := by rfl) (hs : ∀ i, starEach [e] (F.X i).env = (false, eval e (F.X i).env) :: starEach [] (F.X i).env := by intro _; rfl) : PDE F (.Call (.Attribute (.Name x px) "index" apos) [e] [] pos) (mIdx j me) := by
  obtain ⟨t, p, q⟩ := h
  exact ⟨_, fun i => by have := pe_bm (cpos := pos) (apos := apos) PySem.F.plainAttrs_list PySem.F.slot_list_index PySem.F.type_list_index (mt_indexD (X := F.X i) (k_units2 F i)) (pe_var (pos := px) (hN i) (hv i) hd hcd) (pa_cons (p i) pa_nil (hs i)) (hbase i) (hfew i) hline (hs i) rfl; rw [F.hK i] at this; exact this, im_idx q⟩
theorem d_listRg {px px2 pos2 : Pos} (hm : ∀ i, (F.X i).mg "list" = none) (hm2 : ∀ i, (F.X i).mg "range" = none) (h : PDE F e me) (hg : ∀ i, Gl (F.X i) "list" := by exact fun _ => rfl) (hg2 : ∀ i, Gl (F.X i) "range" := by exact fun _ => rfl)
    (hs : ∀ i, starEach [e] (F.X i).env = (false, eval e (F.X i).env) :: starEach [] (F.X i).env := by intro _; rfl)
    (hs2 : ∀ i, starEach [.Call (.Name "range" px2) [e] [] pos2] (F.X i).env = (false, eval (.Call (.Name "range" px2) [e] [] pos2) (F.X i).env) :: starEach [] (F.X i).env := by intro _; rfl) :
    PDN F (.Call (.Name "list" px) [.Call (.Name "range" px2) [e] [] pos2] [] pos) (mRg1 me) := by
  obtain ⟨t, p, q⟩ := h
  exact ⟨_, fun i => pe_listRg (F.calm i) (hg i) (hm i) (prg_1 (hg2 i) (hm2 i) (p i) (hs i)) (hs2 i), im_listRg q⟩
end
end G
set_option Elab.async false
set_option linter.all false
set_option autoImplicit false
set_option maxRecDepth 100000
set_option maxHeartbeats 4000000
/-! loops and comprehensions over a name that may be a cell. -/
namespace G
open PySem L2
def cellAt (S : Sto) (n i : Nat) : Option (Option D) := (S[n]?.join).map fun xs => xs[i]?
def forCell (mg : MG) (mb : MS) (n : Nat) : Nat → Nat → Rho → Sto → Option (Out × Rho × Sto)
  | 0, _, _, _ => none
  | f + 1, i, ρ, S => (cellAt S n i).bind fun y => match y with
    | none => some (.nx, ρ, S)
    | some x => (mg x ρ).bind fun ρ1 => (mb ρ1 S).bind fun p => match p.1 with
      | .nx => forCell mg mb n f (i + 1) p.2.1 p.2.2
      | .ct => forCell mg mb n f (i + 1) p.2.1 p.2.2
      | .bk => some (.nx, p.2)
      | .rt r => some (.rt r, p.2)
def mForV (j : Nat) (mg : MG) (mb : MS) : MS := fun ρ S => match ρ[j]? with
  | some (some (.d (.list xs))) => forRun mg mb xs ρ S
  | some (some (.d (.tuple xs))) => forRun mg mb xs ρ S
  | some (some (.loc n)) => forCell mg mb n 1000 0 ρ S
  | _ => none
def lcCell (mg : MG) (mt : MT) (me : ME) (n : Nat) : Nat → Nat → Rho → Sto → Option (List D × Sto)
  | 0, _, _, _ => none
  | f + 1, i, ρ, S => (cellAt S n i).bind fun y => match y with
    | none => some ([], S)
    | some x => (mg x ρ).bind fun ρ1 => (mt ρ1 S).bind fun p => if p.1 then (me ρ1 p.2).bind fun q => (lcCell mg mt me n f (i + 1) ρ q.2).map fun r => (q.1 :: r.1, r.2) else lcCell mg mt me n f (i + 1) ρ p.2
def mLcV (j : Nat) (mg : MG) (mt : MT) (me : ME) (vs : List Nat) : MN := fun ρ S => match ρ[j]? with
  | some (some (.d (.list xs))) => if xs.length ≤ 1000000 then lcRun mg mt me xs (wipeR ρ vs) S else none
  | some (some (.d (.tuple xs))) => if xs.length ≤ 1000000 then lcRun mg mt me xs (wipeR ρ vs) S else none
  | some (some (.loc n)) => lcCell mg mt me n 1000 0 (wipeR ρ vs) S
  | _ => none
section
variable {T : ET} {W : WX} {K : PySem.W.Frag} {M M' : Adr} {H H' : Hp} {S S' : Sto} {ta tb tc te : TE} {ma mb mc me : ME} {d : D}
theorem cell_of {n i : Nat} {y : Option D} {a : Addr} {M1 : Adr} {H1 : Hp} (hn : M1.c[n]? = some (some a)) (x : Ext M1 H1 M H) (ok : Ok K M S H) (e : cellAt S n i = some y) :
    ∃ xs vs, S[n]? = some (some xs) ∧ xs[i]? = y ∧ H a = some (.lst vs) ∧ RlA K M H vs xs := by
  unfold cellAt at e
  cases e1 : S[n]?.join with
  | none => rw [e1] at e; cases e
  | some xs =>
    rw [e1] at e
    obtain ⟨a', vs, c1, c2, c3⟩ := ok.cell n xs (join_some e1)
    have ea : a' = a := by
      rcases x.pos n a hn with z | z
      · rw [z] at c1; cases c1; rfl
      · rw [z] at c1; cases c1
    subst ea
    exact ⟨xs, vs, join_some e1, Option.some.inj e, c2, c3⟩
theorem itl_stop {a : Addr} {vs : List V} {xs : List D} {i : Nat} (h : H a = some (.lst vs)) (r : RlA K M H vs xs) (e : xs[i]? = none) : (Itl K a).stop i H := ⟨vs, .inl (.inl h), by rw [r.len]; exact List.getElem?_eq_none_iff.mp e⟩
theorem itl_go {a : Addr} {vs : List V} {xs : List D} {i : Nat} {d : D} (h : H a = some (.lst vs)) (r : RlA K M H vs xs) (e : xs[i]? = some d) : (Itl K a).go i H ∧ ∀ x H', (Itl K a).yld i H x H' → H' = H ∧ Rl K M H x d := by
  obtain ⟨v, ev, rv⟩ := r.get e
  refine ⟨⟨vs, v, .inl (.inl h), ev⟩, fun x H' y => ?_⟩
  obtain ⟨rfl, y⟩ := y
  have := y vs (.inl (.inl h))
  rw [ev] at this
  cases this
  exact ⟨rfl, rv⟩
theorem imc_forV {b j : Nat} {g : TG} {tb : TS} {mg : MG} {mb : MS} (hg : ImG K g mg) (h : ImC K T W b tb mb) : ImC K T W b (tFor (iAny K (tVar j)) g tb) (mForV j mg mb) := fun M0 H0 σ H M ρ S o ρ' S' hb hl x0 hs ok e D q => by
  unfold mForV at e
  split at e
  · rename_i xs ej
    exact imc_for (im_i (im_var j)) hg h M0 H0 σ H M ρ S o ρ' S' hb hl x0 hs ok (by unfold mFor mQE mVar; rw [ej]; exact e) D q
  · rename_i xs ej
    exact imc_for (im_i (im_var j)) hg h M0 H0 σ H M ρ S o ρ' S' hb hl x0 hs ok (by unfold mFor mQE mVar; rw [ej]; exact e) D q
  · rename_i n en
    have e00 : ∃ y, cellAt S n 0 = some y := by
      unfold forCell at e
      cases e1 : cellAt S n 0 with
      | none => rw [e1] at e; cases e
      | some y => exact ⟨y, rfl⟩
    obtain ⟨y0, e00⟩ := e00
    have ec : ∃ xs, S[n]? = some (some xs) := by
      unfold cellAt at e00
      cases e1 : S[n]?.join with
      | none => rw [e1] at e00; cases e00
      | some xs => exact ⟨xs, join_some e1⟩
    obtain ⟨xs0, ec⟩ := ec
    obtain ⟨a, vs0, hw, hn, ha, hra⟩ := cell_at hs ok en ec
    refine .inl ⟨_, hw, a, rfl, ⟨vs0, .inl (.inl ha)⟩, ?_⟩
    refine ⟨fun i m σi Hi => ∃ (Mi : Adr) (ρi : Rho) (Si : Sto), Ext M H Mi Hi ∧ Ok K Mi Si Hi ∧ RSt K Mi Hi σi ρi ∧ forCell mg mb n m i ρi Si = some (o, ρ', S'), ⟨1000, M, ρ, S, .refl, ok, hs, e⟩, ?_⟩
    rintro i m σi Hi ⟨Mi, ρi, Si, xi, oki, hsi, er⟩
    cases m with
    | zero => cases er
    | succ m =>
      unfold forCell at er
      cases e1 : cellAt Si n i with
      | none => rw [e1] at er; cases er
      | some y =>
        rw [e1, Option.bind_some] at er
        obtain ⟨xs, vs, c1, c2, c3, c4⟩ := cell_of hn xi oki e1
        cases y with
        | none =>
          cases er
          exact .inl ⟨itl_stop c3 c4 c2, q σi Hi Mi xi oki hsi⟩
        | some x =>
          obtain ⟨g1, g2⟩ := itl_go c3 c4 c2
          refine .inr ⟨g1, fun σn Hn => ∃ (Mi : Adr) (ρi : Rho) (Si : Sto), Ext M H Mi Hn ∧ Ok K Mi Si Hn ∧ RSt K Mi Hn σn ρi ∧ forCell mg mb n m (i + 1) ρi Si = some (o, ρ', S'), fun σn Hn hN => ⟨m, Nat.lt_succ_self m, hN⟩, fun v H2 hx => ?_⟩
          obtain ⟨rfl, rv⟩ := g2 v H2 hx
          simp only at er
          cases e2 : mg x ρi with
          | none => rw [e2] at er; cases er
          | some ρ1 =>
            rw [e2, Option.bind_some] at er
            refine hg _ H2 Mi ρi ρ1 v x hsi rv e2 _ fun σ' hs' => ?_
            cases e3 : mb ρ1 Si with
            | none => rw [e3] at er; cases er
            | some p3 =>
              rw [e3, Option.bind_some] at er
              obtain ⟨o3, ρ3, S3⟩ := p3
              refine h M0 H0 σ' H2 Mi ρ1 Si o3 ρ3 S3 hb hl (x0.trans xi) hs' oki e3 _ ?_
              cases o3 with
              | nx => exact fun σ4 H4 M4 x4 ok4 hs4 => ⟨M4, ρ3, S3, xi.trans x4, ok4, hs4, er⟩
              | ct => exact fun σ4 H4 M4 x4 ok4 hs4 => ⟨M4, ρ3, S3, xi.trans x4, ok4, hs4, er⟩
              | bk => cases er; exact fun σ4 H4 M4 x4 ok4 hs4 => q σ4 H4 M4 (xi.trans x4) ok4 hs4
              | rt r => cases er; exact (PostE.ext q xi).imp rfl
  · cases e
theorem im_lcV {j : Nat} {g : TG} {tt : TT} {mg : MG} {mt : MT} {vs : List Nat} (hg : ImG K g mg) (ho : GOwn g vs) (ht : ImT K tt mt) (he : ImE K te me) : ImN K (tLc (iAny K (tVar j)) g tt te vs) (mLcV j mg mt me vs) := fun σ H M ρ S ys S' hs ok e Q q => by
  unfold mLcV at e
  split at e
  · rename_i xs ej
    split at e <;> first | (cases e; done) | skip
    rename_i hz
    exact im_lc (im_i (im_var j)) hg ho ht he σ H M ρ S ys S' hs ok (by unfold mLc mQE mVar; rw [ej]; show (if xs.length ≤ 1000000 then _ else _) = _; rw [if_pos hz]; exact e) Q q
  · rename_i xs ej
    split at e <;> first | (cases e; done) | skip
    rename_i hz
    exact im_lc (im_i (im_var j)) hg ho ht he σ H M ρ S ys S' hs ok (by unfold mLc mQE mVar; rw [ej]; show (if xs.length ≤ 1000000 then _ else _) = _; rw [if_pos hz]; exact e) Q q
  · rename_i n en
    have e00 : ∃ y, cellAt S n 0 = some y := by
      unfold lcCell at e
      cases e1 : cellAt S n 0 with
      | none => rw [e1] at e; cases e
      | some y => exact ⟨y, rfl⟩
    obtain ⟨y0, e00⟩ := e00
    have ec : ∃ xs, S[n]? = some (some xs) := by
      unfold cellAt at e00
      cases e1 : S[n]?.join with
      | none => rw [e1] at e00; cases e00
      | some xs => exact ⟨xs, join_some e1⟩
    obtain ⟨xs0, ec⟩ := ec
    obtain ⟨a, vs0, hw, hn, ha, hra⟩ := cell_at hs ok en ec
    refine .inl ⟨_, hw, a, rfl, ⟨vs0, .inl (.inl ha)⟩, ?_⟩
    intro Dl hD
    have hs1 := hs.wipe vs
    refine ⟨fun i m Hi => m + i = 1000 ∧ ∃ (Mi : Adr) (Si : Sto) (acc : List D) (av : List V) (zs : List D), Ext M H Mi Hi ∧ Dl ∈ Mi.g ∧ some Dl ∉ Mi.c ∧ Ok K Mi Si Hi ∧ RSt K Mi Hi (L2.wipe σ vs) (wipeR ρ vs) ∧ Hi Dl = some (.lst av) ∧ RlA K Mi Hi av acc ∧
      acc.length ≤ i ∧ lcCell mg mt me n m i (wipeR ρ vs) Si = some (zs, S') ∧ acc ++ zs = ys,
      ⟨1000, rfl, M.gh Dl, S, [], [], ys, Ext.ghost hD, List.mem_cons_self, fun z => ok.notin hD (.inl z), ok.ghost hD, hs1.fresh hD, upd_same, .nil, Nat.zero_le _, e, rfl⟩, ?_⟩
    rintro i m Hi ⟨hmi, Mi, Si, acc, av, zs, xi, hg1, hc1, oki, hsi, hd, ra, hacc, er, hy⟩
    cases m with
    | zero => cases er
    | succ m =>
      unfold lcCell at er
      cases e1 : cellAt Si n i with
      | none => rw [e1] at er; cases er
      | some y =>
        rw [e1, Option.bind_some] at er
        obtain ⟨xs, vs', k1, k2, k3, k4⟩ := cell_of hn xi oki e1
        cases y with
        | none =>
          obtain ⟨e11, e12⟩ := Prod.mk.inj (Option.some.inj (show some (([] : List D), Si) = some (zs, S') from er))
          subst e11
          subst e12
          rw [List.append_nil] at hy
          subst hy
          exact .inl ⟨itl_stop k3 k4 k2, q Dl av Hi Mi xi oki hD hd hg1 ra⟩
        | some x =>
          obtain ⟨w1, w2⟩ := itl_go k3 k4 k2
          refine .inr ⟨w1, fun Hn => ∃ (Mi : Adr) (Si : Sto) (acc : List D) (av : List V) (zs : List D), Ext M H Mi Hn ∧ Dl ∈ Mi.g ∧ some Dl ∉ Mi.c ∧ Ok K Mi Si Hn ∧ RSt K Mi Hn (L2.wipe σ vs) (wipeR ρ vs) ∧ Hn Dl = some (.lst av) ∧ RlA K Mi Hn av acc ∧
            acc.length ≤ i + 1 ∧ lcCell mg mt me n m (i + 1) (wipeR ρ vs) Si = some (zs, S') ∧ acc ++ zs = ys, fun Hn hN => ⟨m, Nat.lt_succ_self m, by omega, hN⟩, fun v H2 hx => ?_⟩
          obtain ⟨rfl, rv⟩ := w2 v H2 hx
          simp only at er
          cases e2 : mg x (wipeR ρ vs) with
          | none => rw [e2] at er; cases er
          | some ρ1 =>
            rw [e2, Option.bind_some] at er
            refine ho σ _ _ _ _ (wipe_wipe σ fun _ z => z) (hg _ H2 Mi (wipeR ρ vs) ρ1 v x hsi rv e2 _ fun σ' hs' => ?_)
            cases e3 : mt ρ1 Si with
            | none => rw [e3] at er; cases er
            | some p =>
              rw [e3, Option.bind_some] at er
              obtain ⟨b, S3⟩ := p
              refine ht σ' H2 Mi ρ1 Si b S3 hs' oki e3 _ fun H3 M3 x3 ok3 => ?_
              have hD3 : H3 Dl = some (.lst av) := x3.keep Dl _ hd (.inl hc1)
              have hc3 : some Dl ∉ M3.c := fun z => (x3.sub Dl z).elim hc1 fun z => by rw [hd] at z; cases z
              have hg3 : Dl ∈ M3.g := x3.gk Dl hg1
              cases b with
              | false =>
                rw [if_neg (show ¬ (false = true) from Bool.false_ne_true)]
                rw [if_neg (show ¬ (false = true) from Bool.false_ne_true)] at er
                exact ⟨M3, S3, acc, av, zs, xi.trans x3, hg3, hc3, ok3, hsi.mono x3, hD3, ra.mono x3, by omega, er, hy⟩
              | true =>
                rw [if_pos rfl]
                rw [if_pos rfl] at er
                cases e4 : me ρ1 S3 with
                | none => rw [e4] at er; cases er
                | some p4 =>
                  rw [e4, Option.bind_some] at er
                  cases e5 : lcCell mg mt me n m (i + 1) (wipeR ρ vs) p4.2 with
                  | none => rw [e5] at er; cases er
                  | some p5 =>
                    rw [e5] at er
                    obtain ⟨e11, e12⟩ := Prod.mk.inj (Option.some.inj (show some (p4.1 :: p5.1, p5.2) = some (zs, S') from er))
                    subst e11
                    refine he σ' H3 M3 ρ1 S3 p4.1 p4.2 (hs'.mono x3) ok3 e4 _ fun v H4 M4 x4 ok4 r4 => ?_
                    have hD4 : H4 Dl = some (.lst av) := x4.keep Dl _ hD3 (.inl hc3)
                    have hc4 : some Dl ∉ M4.c := fun z => (x4.sub Dl z).elim hc3 fun z => by rw [hD3] at z; cases z
                    have hg4 : Dl ∈ M4.g := x4.gk Dl hg3
                    have x24 := x3.trans x4
                    have ra4 := ra.mono x24
                    have xg : Ext M H M4 (upd H4 Dl (.lst (av ++ [v]))) := by
                      have y := (xi.trans x24)
                      exact ⟨y.subn, y.gs, y.gk, y.pos, y.dead, fun a o h c => by
                        rw [upd_ne (ne_of_none h hD)]; exact y.keep a o h c, fun a h => y.free a (by
                        by_cases ea : a = Dl
                        · subst ea; rw [upd_same] at h; cases h
                        · rw [upd_ne ea] at h; exact h)⟩
                    refine ⟨av, hD4, Nat.lt_of_lt_of_le (show av.length < 1000001 by rw [ra.len]; omega) (by decide), M4, p4.2, acc ++ [p4.1], av ++ [v], p5.1, xg, hg4, hc4, ok4.grow (.inr hg4) hD4 hc4, (hsi.mono x24).grow (.inr hg4) hD4, upd_same,
                      (ra4.append (.one r4)).grow (.inr hg4) hD4, by rw [List.length_append, List.length_singleton]; omega, by rw [e5, ← e12], by rw [List.append_assoc]; exact hy⟩
  · cases e
end
section
variable {ι : Type} {F : Fam ι} {a e c : Expr} {ma mb mc me : ME} {mn mn2 : MN} {m : MA} {mt : MT} {pos : Pos} {b : Nat} {s1 : MS} {st : Stmt}
theorem d_forV (j : Nat) {x : Str} {px : Pos} {tg : Expr} {body : List Stmt} {mg : MG} (hg : PDG F tg mg) (h : PDSs F b body s1) (hN : ∀ i, (F.X i).N[j]? = some x := by exact fun _ => rfl) (hv : ∀ i, Vis (F.X i).env.scope x := by first | exact fun _ => Or.inl rfl | exact fun _ => Or.inr (Or.inl rfl) | exact fun _ => Or.inr (Or.inr rfl))
    (hd : (x == ("__debug__" : Str)) = false := by decide) (hcd : (x == ("__classdict__" : Str)) = false := by decide)
    (hp : ∀ i, PassesOwn (model (F.X i).prog (F.X i).w) (F.X i).A (F.X i).env (F.X i).xe := by first | exact fun _ => passes_of rfl | exact fun i => i.2.2.2) (hs : ∀ i y, foldedSetIterable (.Name x px) (F.X i).env y = pure y := by intro _ _; rfl) :
    PDS F b (.For tg (.Name x px) body [] pos) (mForV j mg s1) := by
  obtain ⟨t2, p2, q2⟩ := hg
  obtain ⟨t3, p3, q3⟩ := h
  exact ⟨_, fun i => ps_for (hp i) (F.calm i) (by have := pi_any (tg := tg) (pe_var (pos := px) (hN i) (hv i) hd hcd); rw [F.hK i] at this; exact this) (p2 i) (p3 i) (hs i), imc_forV q2 q3⟩
theorem d_lcV (j : Nat) {x : Str} {px : Pos} {tg elt : Expr} {ifs : List Expr} {scope : Scope} {own : List (Str × Nat)} {mg : MG} {g : TG} (ok : ∀ i, BlkOk (F.X i).N (F.X i).env.scope scope own)
    (hg : ∀ p, PG ((F.blk scope).X p) tg g) (hgi : ImG F.K g mg) (ho : GOwn g (own.map (·.2))) (ht : PDTs (F.blk scope) ifs mt) (he : PDE (F.blk scope) elt me)
    (hN : ∀ i, (F.X i).N[j]? = some x := by exact fun _ => rfl) (hv : ∀ i, Vis (F.X i).env.scope x := by first | exact fun _ => Or.inl rfl | exact fun _ => Or.inr (Or.inl rfl) | exact fun _ => Or.inr (Or.inr rfl))
    (hd : (x == ("__debug__" : Str)) = false := by decide) (hcd : (x == ("__classdict__" : Str)) = false := by decide) (hs : ∀ i y, foldedSetIterable (.Name x px) (F.X i).env y = pure y := by intro _ _; rfl) :
    PDN F (.ListComp elt [⟨tg, .Name x px, ifs, 0⟩] scope pos) (mLcV j mg mt me (own.map (·.2))) := by
  obtain ⟨tt, pt, qt⟩ := ht
  obtain ⟨te, pe, qe⟩ := he
  exact ⟨_, fun i => pe_lc (F.calm i) (F.nd i) (by have := pi_any (tg := tg) (pe_var (pos := px) (hN i) (hv i) hd hcd); rw [F.hK i] at this; exact this) (ok i) (fun s H C cl fp => hg (i, s, H, C, cl, fp)) (fun s H C cl fp => pt (i, s, H, C, cl, fp)) (fun s H C cl fp => pe (i, s, H, C, cl, fp)) (hs i), im_lcV hgi ho qt qe⟩
theorem d_lcVP (k : Nat) {x : Str} {px : Pos} {tg elt : Expr} {ifs : List Expr} {scope : Scope} {own : List (Str × Nat)} {mg : MG} {g : TG} (j : Nat) {y : Str} {py spos : Pos} (ok : ∀ i, BlkOk (F.X i).N (F.X i).env.scope scope own)
    (hg : ∀ p, PG ((F.blk scope).X p) tg g) (hgi : ImG F.K g mg) (ho : GOwn g (own.map (·.2))) (ht : PDTs (F.blk scope) ifs mt) (he : PDE (F.blk scope) elt me)
    (hsw : ∀ i, swapsWith (.ListComp elt [⟨tg, .Name x px, ifs, 0⟩] scope pos) (some (.Name y py)) spos.line (F.X i).env = pure true) (hy : ∀ i, (F.X i).N[j]? = some y := by exact fun _ => rfl) (hyl : ∀ i, (F.X i).env.scope.names.lookup y = some .local := by exact fun _ => rfl)
    (hN : ∀ i, (F.X i).N[k]? = some x := by exact fun _ => rfl) (hv : ∀ i, Vis (F.X i).env.scope x := by first | exact fun _ => Or.inl rfl | exact fun _ => Or.inr (Or.inl rfl) | exact fun _ => Or.inr (Or.inr rfl))
    (hd : (x == ("__debug__" : Str)) = false := by decide) (hcd : (x == ("__classdict__" : Str)) = false := by decide) (hs : ∀ i z, foldedSetIterable (.Name x px) (F.X i).env z = pure z := by intro _ _; rfl) :
    ∃ t, (∀ i, PS (F.X i) (.Assign [.Name y py] (.ListComp elt [⟨tg, .Name x px, ifs, 0⟩] scope pos) spos) (tAsg t (gName j))) ∧ ImN F.K t (mLcV k mg mt me (own.map (·.2))) := by
  obtain ⟨tt, pt, qt⟩ := ht
  obtain ⟨te, pe, qe⟩ := he
  exact ⟨_, fun i => ps_setLc (F.calm i) (F.nd i) (hy i) (hyl i) (hsw i) (by have := pi_any (tg := tg) (pe_var (pos := px) (hN i) (hv i) hd hcd); rw [F.hK i] at this; exact this) (ok i) (fun s H C cl fp => hg (i, s, H, C, cl, fp)) (fun s H C cl fp => pt (i, s, H, C, cl, fp)) (fun s H C cl fp => pe (i, s, H, C, cl, fp)) (hs i), im_lcV hgi ho qt qe⟩
end
end G
set_option Elab.async false
set_option linter.all false
set_option autoImplicit false
set_option maxRecDepth 100000
set_option maxHeartbeats 4000000
/-! xs[::-1] of a tuple, of a list. -/
namespace G
open PySem PySem.Spec PyProof.Rows PySem.W L2
section
variable {prog : Program} {w : World} {A : Around} {E : Value → Shared → Prop} {s : Shared}
theorem applied_rev {sl : Addr} {vs : Value} {n : Nat} {Q : Int × Int × Nat → Shared → Prop} (hs : s.heap.IsSliceOf sl .none .none vs) (ps : IsPart vs (some (-1)))
    (h : Q ((n : Int) - 1, -1, n) s) : wpAny (model prog w) A (Builtin.Slice.sliceApplied (.ref sl) (pure (n : Int))) Q E s := by
  obtain ⟨os, hos, hcs, hds⟩ := id hs
  unfold Builtin.Slice.sliceApplied Builtin.Slice.sliceFields
  refine wpAny_bind (wpAny_bind (wpAny_field hos hds (x := .none) rfl (wpAny_bind (wpAny_field hos hds (x := .none) rfl (wpAny_bind (wpAny_field hos hds (x := vs) rfl (wpAny_pure ?_)))))))
  refine wpAny_bind (HT.slicePart_ ps ?_)
  show wpAny _ _ (if ((-1 : Int) == 0) = true then _ else _) _ _ s
  rw [if_neg (by decide)]
  refine wpAny_bind (slicePart_none (wpAny_bind (slicePart_none (wpAny_bind (wpAny_pure ?_)))))
  show wpAny _ _ (match Builtin.Slice.sliceAdjust none none (-1) (n : Int) with | (lo, hi) => pure (lo, (-1 : Int), Builtin.Slice.slicePlaces lo hi (-1))) _ _ s
  have e1 : Builtin.Slice.sliceAdjust none none (-1) (n : Int) = ((n : Int) - 1, -1) := by simp [Builtin.Slice.sliceAdjust]
  have e2 : Builtin.Slice.slicePlaces ((n : Int) - 1) (-1) (-1) = n := by
    unfold Builtin.Slice.slicePlaces
    simp only [show ¬ ((-1 : Int) > 0) by omega, if_false]
    by_cases hn : 0 < n
    · rw [if_pos (by omega)]
      have : ((n : Int) - 1 - -1 - 1) / (- -1) + 1 = n := by
        rw [show (- -1 : Int) = 1 by omega, Int.ediv_one]
        omega
      rw [this]
      omega
    · rw [if_neg (by omega)]
      omega
  rw [e1]
  show wpAny _ _ (pure ((n : Int) - 1, (-1 : Int), Builtin.Slice.slicePlaces ((n : Int) - 1) (-1) (-1))) _ _ s
  rw [e2]
  exact wpAny_pure h
theorem pick_all {α : Type} : ∀ (r : List α) (f : Nat → Option α), (∀ m, m < r.length → f m = r[m]?) → (List.range r.length).filterMap f = r
  | [], f, _ => rfl
  | x :: r, f, h => by
    rw [List.length_cons, List.range_succ_eq_map, List.filterMap_cons, h 0 (by simp), List.filterMap_map]
    show x :: _ = _
    congr 1
    exact pick_all r (f ∘ Nat.succ) fun m hm => by
      show f (m + 1) = _
      rw [h (m + 1) (by simpa using hm)]
      rfl
theorem pick_rev (xs : Array Value) : ((List.range xs.size).filterMap fun (m : Nat) => xs[((xs.size : Int) - 1 + (m : Int) * (-1)).toNat]?).toArray = xs.toList.reverse.toArray := by
  congr 1
  obtain ⟨l⟩ := xs
  have := pick_all l.reverse (fun (m : Nat) => l[((l.length : Int) - 1 + (m : Int) * (-1)).toNat]?) fun m hm => by
    rw [List.length_reverse] at hm
    rw [List.getElem?_reverse hm]
    congr 1
    omega
  rw [List.length_reverse] at this
  simpa using this
theorem item_rev {t sl : Addr} {items : Array Value} {vs : Value} {Q : Value → Shared → Prop} (ht : IsTup s.heap t items) (hs : s.heap.IsSliceOf sl .none .none vs) (ps : IsPart vs (some (-1)))
    (h : Q (.ref s.heap.objs.size) { s with heap := s.heap.push { cls := .type "tuple", data := .seq items.toList.reverse.toArray } })
    (hsz : items.size ≤ sizeLine) : wpAny (model prog w) A (getItem (.ref t) (.ref sl)) Q E s := by
  have htake : sizeOk (.seq items.toList.reverse.toArray) := by
    show items.toList.reverse.toArray.size ≤ sizeLine
    rw [List.size_toArray, List.length_reverse, Array.length_toList]
    exact hsz
  obtain ⟨os, hos, hcs, hds⟩ := id hs
  have hTs : s.TypeIs (.ref sl) "slice" := ⟨os, hos, hcs⟩
  unfold getItem
  try with_reducible refine wpAny_holding ?_
  first | refine wpAny_bind (wpAny_pure ?_) | skip
  refine wpAny_bind (wpAny_sequenceKey ht.typeIs (by decide) ?_)
  refine wpAny_bind (wpAny_callSpecial?_slot (name := Str.ofString "__getitem__") ht.typeIs PyProof.Rows.slot_tuple_getitem
    (wpAny_call_entry PyProof.Rows.slot_tuple_getitem ht.typeIs entry_tuple_getitem ?_ (args_tuple_getitem _ _)))
  show wpAny _ _ (Builtin.Tuple.tupleItemsOf (.ref t) >>= _) _ _ s
  refine wpAny_bind (tupleItemsOf_ ht ?_)
  refine wpAny_bind (wpAny_typeOf hTs ?_)
  rw [if_pos (by decide)]
  refine wpAny_bind (applied_rev hs ps ?_)
  have hno : ¬ ((((items.size : Int) - 1) == 0 && (-1 : Int) == 1 && items.size == items.size) = true) := by simp
  show wpAny _ _ (if (((items.size : Int) - 1) == 0 && (-1 : Int) == 1 && items.size == items.size) = true then _ else _) _ _ s
  rw [if_neg hno, pick_rev]
  first
    | exact wpAny_bind (m := Builtin.Tuple.tupleExact _) (wpAny_newObj_type (wpAny_pure ⟨_, rfl, wpAny_pure h⟩) htake)
    | exact wpAny_bind (m := Builtin.Tuple.tupleExact _) (wpAny_newObj_type (wpAny_bind (wpAny_pure (wpAny_pure ⟨_, rfl, wpAny_pure h⟩))) htake)
    | exact wpAny_bind (wpAny_bind (m := Builtin.Tuple.tupleExact _) (wpAny_newObj_type (wpAny_pure (wpAny_pure ⟨_, rfl, wpAny_pure h⟩)) htake))
    | exact wpAny_bind (wpAny_bind (m := Builtin.Tuple.tupleExact _) (wpAny_newObj_type (wpAny_pure ⟨_, rfl, wpAny_pure h⟩) htake))
end
/-- a sequence turned round: a tuple gives a tuple, a list a list -/
def tRevT (K : PySem.W.Frag) (te : TE) : TE := fun σ H Q => te σ H fun x H1 => ∃ a xs, x = .ref a ∧ SqT K H1 a xs ∧ ∀ p, H1 p = none → Q (.ref p) (upd H1 p (.tup xs.reverse))
theorem pe_revT {X : Cx} {e : PySem.Expr} {te : TE} {k : Nat} {p1 p2 p3 pos : Pos} (he : PE X e te) : PE X (.Subscript e (.Slice none none (some (.UnaryOp .USub (.Constant (.int 1) k p1) p2)) p3) pos) (tRevT X.K te) := by
  refine ⟨fun pins s σ H Q I h => ?_⟩
  refine Subscript_ (thn (he.run pins s σ H _ I h) fun v s1 ⟨x, H1, I1, r1, q1⟩ => ?_)
  obtain ⟨a, xs, ex, hx, q⟩ := q1
  subst ex
  cases r1
  have hst : PO X (some (.UnaryOp .USub (.Constant (.int 1) k p1) p2)) (tPart (tUn (rU fun i => .int (-i)) (tC (.int 1)))) := po_some (pe_un un_neg pe_int)
  refine wpAny_Slice (thn (po_none.run pins s1 σ H1 (fun o H2 => o = none ∧ H2 = H1) I1 ⟨rfl, rfl⟩) fun vl s2 ⟨l, H2, I2, pl, el, e2⟩ => ?_)
  subst el e2
  refine thn (po_none.run pins s2 σ H2 (fun o H3 => o = none ∧ H3 = H2) I2 ⟨rfl, rfl⟩) fun vu s3 ⟨u, H3, I3, pu, eu, e3⟩ => ?_
  subst eu e3
  refine thn (hst.run pins s3 σ H3 (fun o H4 => o = some (-1) ∧ H4 = H3) I3 ⟨1, rfl, -1, rfl, rfl, rfl⟩) fun vs s4 ⟨o, H4, I4, ps, eo, e4⟩ => ?_
  subst eo e4
  cases pl
  cases pu
  have I5 : Inv X pins σ H4 { s4 with heap := s4.heap.push { cls := .type "slice", data := .fields #[.none, .none, vs] } } := I4.kept (t' := s4.toks) fun b ob q => Heap.get?_push_of_some _ q
  obtain ⟨its, r, ht, hz⟩ := I5.tuple hx
  have hlen := r.length
  show wpAny (model X.prog X.w) X.A (subscriptTail e (.Slice none none (some (.UnaryOp .USub (.Constant (.int 1) k p1) p2)) p3) (.ref a) (.ref s4.heap.objs.size)) (EP X pins σ Q) X.xe { s4 with heap := s4.heap.push { cls := .type "slice", data := .fields #[.none, .none, vs] } }
  refine tail_any (ops := [.ref a, .ref s4.heap.objs.size]) ht.typeIs (PyProof.Rows.slot_tuple_getitem.lookup) ?_ (by with_unfolding_all rfl)
  refine item_rev ht (Heap.IsSliceOf.new _ .none .none vs) ps ?_ (by rw [List.size_toArray]; omega)
  refine ⟨.ref _, _, I5.laid (t' := s4.toks) (o := .tup xs.reverse) (fun b ob q => Heap.get?_push_of_some _ q) (Nat.le_refl _) ?_, rfl, q _ (I5.hok.fresh (Nat.le_refl _))⟩
  exact ⟨by rw [List.length_reverse]; exact hz, _, r.reverse, ⟨_, Heap.get?_push_size _ rfl, rfl, _, rfl⟩⟩
section
variable {K : PySem.W.Frag} {M M' : Adr} {H H' : Hp} {S S' : Sto} {te : TE} {me : ME} {d : D}
def mRevT (m : ME) : ME := fun ρ S => (m ρ S).bind fun p => match p.1 with
  | .tuple xs => some (.tuple xs.reverse, p.2)
  | _ => none
theorem RlA.rev {vs : List V} {ds : List D} (h : RlA K M H vs ds) : RlA K M H vs.reverse ds.reverse := by
  induction ds generalizing vs with
  | nil => cases h; exact .nil
  | cons d ds ih =>
    cases h with
    | cons h1 h2 =>
      rw [List.reverse_cons, List.reverse_cons]
      exact (ih h2).append (.one h1)
theorem im_revT (h : ImE K te me) : ImE K (tRevT K te) (mRevT me) := fun σ H M ρ S d S' hs ok e Q q => by
  unfold mRevT at e
  cases e1 : me ρ S with
  | none => rw [e1] at e; cases e
  | some p =>
    rw [e1, Option.bind_some] at e
    obtain ⟨y, S1⟩ := p
    cases y <;> first | (cases e; done) | skip
    cases e
    refine h σ H M ρ S _ _ hs ok e1 _ fun v H1 M1 x1 ok1 r1 => ?_
    cases r1 with
    | tup h1 h2 => exact ⟨_, _, rfl, h1, fun p hp => q _ _ M1 (x1.trans (Ext.new hp)) (ok1.new hp) (.tup (.inl (.inl upd_same)) (h2.rev.mono (Ext.new hp)))⟩
end
section
variable {ι : Type} {F : Fam ι} {e : PySem.Expr} {me : ME} {pos : Pos}
theorem d_revT {k : Nat} {p1 p2 p3 : Pos} (h : PDE F e me) : PDE F (.Subscript e (.Slice none none (some (.UnaryOp .USub (.Constant (.int 1) k p1) p2)) p3) pos) (mRevT me) := by
  obtain ⟨t, p, q⟩ := h
  exact ⟨_, fun i => by have := pe_revT (k := k) (p1 := p1) (p2 := p2) (p3 := p3) (pos := pos) (p i); rw [F.hK i] at this; exact this, im_revT q⟩
end
end G
set_option Elab.async false
set_option linter.all false
set_option autoImplicit false
set_option maxRecDepth 100000
set_option maxHeartbeats 4000000
/-! bool(x) of an int, a truth value. -/
namespace G
open PySem L2
section
variable {K : PySem.W.Frag}
def fBool : List D → Option D
  | [.int i] => some (.bool (i != 0))
  | [.bool b] => some (.bool b)
  | _ => none
theorem imb_bool : ImB K (fun xs H Q => (∃ i, xs = [.int i] ∧ Q (.bl (i != 0)) H) ∨ ∃ k, xs = [.bl k] ∧ Q (.bl k) H) fBool := fun H M S xs ds dz ok r e Q q => by
  unfold fBool at e
  split at e <;> cases e
  · cases r with
    | cons r1 r2 =>
      cases r1
      cases r2
      exact .inl ⟨_, rfl, q.here ok (.bl _)⟩
  · cases r with
    | cons r1 r2 =>
      cases r1
      cases r2
      exact .inr ⟨_, rfl, q.here ok (.bl _)⟩
end
section
variable {ι : Type} {F : Fam ι} {e : Expr} {me : ME} {pos : Pos}
theorem d_bool1 {px : Pos} (hm : ∀ i, (F.X i).mg "bool" = none) (h : PDE F e me) (hg : ∀ i, Gl (F.X i) "bool" := by exact fun _ => rfl) (hs : ∀ i, starEach [e] (F.X i).env = (false, eval e (F.X i).env) :: starEach [] (F.X i).env := by intro _; rfl) :
    PDE F (.Call (.Name "bool" px) [e] [] pos) (mB fBool (mA1 me mA0)) := by
  obtain ⟨t, p, q⟩ := h
  exact ⟨_, fun i => call1t call_bool1 (hg i) (hm i) (by decide +kernel) (p i) (by decide) (by decide) (hs i), im_b imb_bool (im_a1 q im_a0)⟩
end
end G
set_option Elab.async false
set_option linter.all false
set_option autoImplicit false
set_option maxRecDepth 100000
set_option maxHeartbeats 4000000
/-! <, <=, >, >= of data; sorted of data. -/
namespace G
open PySem PySem.Spec PyProof.Rows L2
abbrev dLt (x y : D) : Bool := PySem.W.dataLt x y
abbrev alk (x y : D) : Bool := PySem.W.alike x y
def alkD (x y : D) : Bool := alk x y && !isN x && decide (x.depth ≤ 60)
section
variable {X : Cx}
def rCmpD (K : PySem.W.Frag) (g : D → D → Bool) : R2 := fun x y H Q => ∃ d e, Dp K H x d ∧ Dp K H y e ∧ alkD d e = true ∧ Q (.bl (g d e)) H
theorem alkD_ne {d e : D} (h : alkD d e = true) : alk d e = true ∧ d ≠ .none ∧ d.depth ≤ 60 := by
  unfold alkD at h
  rw [Bool.and_eq_true, Bool.and_eq_true, decide_eq_true_eq] at h
  refine ⟨h.1.1, fun e => ?_, h.2⟩
  rw [e] at h
  exact absurd h.1.2 (by decide)
theorem op_ltD (hu : X.A.units + 64 < cLine) : OpR X (compareOp .Lt) (rCmpD X.K dLt) := by
  intro pins s σ H x y v u Q I rx ry h
  obtain ⟨d, e, hd, he, a, q⟩ := h
  obtain ⟨as, r1⟩ := Dp.reads I d x v hd rx
  obtain ⟨bs, r2⟩ := Dp.reads I e y u he ry
  obtain ⟨a1, a2, a3⟩ := alkD_ne a
  exact PySem.W.lt_data r1 r2 a1 a2 (by omega) ⟨.bl _, H, I, rfl, q⟩
theorem op_gtD (hu : X.A.units + 64 < cLine) : OpR X (compareOp .Gt) (rCmpD X.K fun d e => dLt e d) := by
  intro pins s σ H x y v u Q I rx ry h
  obtain ⟨d, e, hd, he, a, q⟩ := h
  obtain ⟨as, r1⟩ := Dp.reads I d x v hd rx
  obtain ⟨bs, r2⟩ := Dp.reads I e y u he ry
  obtain ⟨a1, a2, a3⟩ := alkD_ne a
  exact PySem.W.gt_data r1 r2 a1 a2 (by omega) ⟨.bl _, H, I, rfl, q⟩
theorem op_leD (hu : X.A.units + 64 < cLine) : OpR X (compareOp .LtE) (rCmpD X.K fun d e => !dLt e d) := by
  intro pins s σ H x y v u Q I rx ry h
  obtain ⟨d, e, hd, he, a, q⟩ := h
  obtain ⟨as, r1⟩ := Dp.reads I d x v hd rx
  obtain ⟨bs, r2⟩ := Dp.reads I e y u he ry
  obtain ⟨a1, a2, a3⟩ := alkD_ne a
  exact PySem.W.le_data r1 r2 a1 a2 (by omega) ⟨.bl _, H, I, rfl, q⟩
theorem op_geD (hu : X.A.units + 64 < cLine) : OpR X (compareOp .GtE) (rCmpD X.K fun d e => !dLt d e) := by
  intro pins s σ H x y v u Q I rx ry h
  obtain ⟨d, e, hd, he, a, q⟩ := h
  obtain ⟨as, r1⟩ := Dp.reads I d x v hd rx
  obtain ⟨bs, r2⟩ := Dp.reads I e y u he ry
  obtain ⟨a1, a2, a3⟩ := alkD_ne a
  exact PySem.W.ge_data r1 r2 a1 a2 (by omega) ⟨.bl _, H, I, rfl, q⟩
end
def fCmpD (g : D → D → Bool) (x y : D) : Option D := if alkD x y then some (.bool (g x y)) else none
section
variable {K : PySem.W.Frag} {M M' : Adr} {H H' : Hp} {S S' : Sto}
theorem imr_cmpD (g : D → D → Bool) : ImR K (rCmpD K g) (fCmpD g) := fun H M S x y dx dy dz ok rx ry e Q q => by
  unfold fCmpD at e
  split at e <;> cases e
  rename_i h
  exact ⟨dx, dy, rx.dp, ry.dp, h, q.here ok (.bl _)⟩
end
def fLtX (x y : D) : Option D := (fLt x y).or (fCmpD dLt x y)
def fGtX (x y : D) : Option D := (fGt x y).or (fCmpD (fun d e => dLt e d) x y)
def fLeX (x y : D) : Option D := (fLe x y).or (fCmpD (fun d e => !dLt e d) x y)
def fGeX (x y : D) : Option D := (fGe x y).or (fCmpD (fun d e => !dLt d e) x y)
section
variable {ι : Type} {F : Fam ι}
theorem k_ltX : CmpOk F .Lt fLtX := ⟨_, fun i => OpR.or op_lt (by have := op_ltD (X := F.X i) (k_units F i); rw [F.hK i] at this; exact this), imr_or imr_lt (imr_cmpD _)⟩
theorem k_gtX : CmpOk F .Gt fGtX := ⟨_, fun i => OpR.or op_gt (by have := op_gtD (X := F.X i) (k_units F i); rw [F.hK i] at this; exact this), imr_or imr_gt (imr_cmpD _)⟩
theorem k_leX : CmpOk F .LtE fLeX := ⟨_, fun i => OpR.or op_le (by have := op_leD (X := F.X i) (k_units F i); rw [F.hK i] at this; exact this), imr_or imr_le (imr_cmpD _)⟩
theorem k_geX : CmpOk F .GtE fGeX := ⟨_, fun i => OpR.or op_ge (by have := op_geD (X := F.X i) (k_units F i); rw [F.hK i] at this; exact this), imr_or imr_ge (imr_cmpD _)⟩
end
/-! ### sorted -/
abbrev dLe (x y : D) : Bool := PySem.W.dataLe false (fun d : D => d) x y
def neT (d : D) : Bool := match d with
  | .tuple (_ :: _) => true
  | _ => false
def noT (d : D) : Bool := match d with
  | .none => false
  | .tuple _ => false
  | _ => true
def okS (ds : List D) : Bool := ds.all (fun d => ds.all fun e => alk d e) && (ds.all neT || ds.all noT) && ds.all (fun d => decide (d.depth ≤ 60)) && decide (ds.length ≤ 1000000)
theorem okS_of {ds : List D} (h : okS ds = true) : PySem.W.AllAlike ds ∧ PySem.W.Sortable ds ∧ (∀ d ∈ ds, d.depth ≤ 60) ∧ ds.length ≤ 1000000 := by
  unfold okS at h
  rw [Bool.and_eq_true, Bool.and_eq_true, Bool.and_eq_true, Bool.or_eq_true, decide_eq_true_eq] at h
  obtain ⟨⟨⟨h1, h2⟩, h3⟩, h4⟩ := h
  rw [List.all_eq_true] at h1 h3
  refine ⟨fun d hd d' hd' => ?_, ?_, fun d hd => of_decide_eq_true (h3 d hd), h4⟩
  · have := h1 d hd
    rw [List.all_eq_true] at this
    exact this d' hd'
  · rcases h2 with h2 | h2
    · rw [List.all_eq_true] at h2
      refine .inl fun d hd => ?_
      have := h2 d hd
      unfold neT at this
      split at this
      · exact ⟨_, _, rfl⟩
      · cases this
    · rw [List.all_eq_true] at h2
      refine .inr fun d hd => ?_
      have := h2 d hd
      unfold noT at this
      split at this
      · cases this
      · cases this
      · rename_i a b
        exact ⟨fun e => a e, fun xs e => b xs e⟩
def rSortedX (K : PySem.W.Frag) : List V → Hp → VK → Prop := fun us H Q => ∃ (a : Addr) (vs : List V) (ds : List D), us = [V.ref a] ∧ SqL K H a vs ∧ DpAll K H vs ds ∧ okS ds = true ∧
  ∀ (ps : List (V × D)) p, ps.Perm (vs.zip ds) → ps.map (·.2) = ds.mergeSort dLe → H p = none → Q (.ref p) (upd H p (.lst (ps.map (·.1))))
theorem dpall_len {K : PySem.W.Frag} {H : Hp} : ∀ {vs : List V} {ds : List D}, DpAll K H vs ds → vs.length = ds.length
  | _, [], h => by cases h; rfl
  | _, _ :: _, h => by
    cases h with
    | cons h1 h2 => rw [List.length_cons, List.length_cons, dpall_len h2]
theorem each_of {X : Cx} {pins : List (Addr × Obj)} {σ : L2.St} {H : Hp} {s : Shared} (I : L2.Inv X pins σ H s) : ∀ (ds : List D) (vs : List V) (its : List Value), DpAll X.K H vs ds → Vals vs its → PySem.W.EachIs (fun v b => RelV b.1 v) its (vs.zip ds) ∧ PySem.W.EachIs (fun v b => ∃ as, Reads s.heap v b.2 as) its (vs.zip ds)
  | [], _, _, h, r => by cases h; cases r; exact ⟨.nil, .nil⟩
  | d :: ds, _, _, h, r => by
    cases h with
    | cons h1 h2 =>
      cases r with
      | cons r1 r2 =>
        obtain ⟨a, b⟩ := each_of I ds _ _ h2 r2
        exact ⟨.cons r1 a, .cons (Dp.reads I d _ _ h1 r1) b⟩
theorem vals_of : ∀ {out : List Value} {ps : List (V × D)}, PySem.W.EachIs (fun v b => RelV b.1 v) out ps → Vals (ps.map (·.1)) out
  | _, [], h => by cases h; exact .nil
  | _, _ :: _, h => by
    cases h with
    | cons h1 h2 => exact .cons h1 (vals_of h2)
theorem zip_snd {α β : Type} : ∀ {xs : List α} {ys : List β}, xs.length = ys.length → (xs.zip ys).map (·.2) = ys
  | [], [], _ => rfl
  | [], _ :: _, h => by simp at h
  | _ :: _, [], h => by simp at h
  | x :: xs, y :: ys, h => by
    show y :: (xs.zip ys).map (·.2) = _
    rw [zip_snd (by simpa using h)]
theorem cr_sortedX {X : Cx} (hu : X.A.units + 64 < cLine) : CallR X (.builtin "sorted") (rSortedX X.K) := by
  intro pins s σ H us ws Q I r h
  obtain ⟨a, vs, ds, rfl, hs, hd, hok, q⟩ := h
  obtain ⟨its, rv, hl, hz⟩ := I.list hs
  obtain ⟨u, rfl, ru⟩ := vals1 r
  obtain rfl : u = Value.ref a := ru
  obtain ⟨k1, k2, k3, k4⟩ := okS_of hok
  obtain ⟨e1, e2⟩ := each_of I ds vs its hd rv
  have hlen := dpall_len hd
  have ez := zip_snd hlen
  refine PySem.W.sorted_data (enc := fun b : V × D => b.2) hl.isList e1 e2 (by rw [ez]; exact k1) (by rw [ez]; exact k2) (by rw [List.length_zip, hlen, Nat.min_self, ← hlen]; exact hz) (fun b hb => ?_) fun out ho eo => ?_
  · have hm : b.2 ∈ ds := by rw [← ez]; exact List.mem_map.mpr ⟨b, hb, rfl⟩
    have := k3 _ hm
    omega
  · obtain ⟨n, hn⟩ := PyProof.Rows.sortedAll_at s.heap its out.toArray
    have hm : ((vs.zip ds).mergeSort (PySem.W.dataLe false fun b : V × D => b.2)).map (·.2) = ds.mergeSort dLe := by
      have h0 := List.map_mergeSort (r := PySem.W.dataLe false fun b : V × D => b.2) (s := dLe) (f := fun b : V × D => b.2) (l := vs.zip ds) (fun a _ b _ => rfl)
      rw [h0, ez]
    refine ⟨.ref (s.heap.objs.size + 1), upd H (s.heap.objs.size + 1) (.lst (((vs.zip ds).mergeSort (PySem.W.dataLe false fun b : V × D => b.2)).map (·.1))), I.laid (t' := s.toks) (fun b o e => PyProof.Rows.sortedAll_old e) (Nat.le_succ _) ⟨?_, out, n, vals_of eo, hn⟩, rfl, q _ _ (List.mergeSort_perm _ _) hm (I.hok.fresh (Nat.le_succ _))⟩
    rw [List.length_map, List.length_mergeSort, List.length_zip, hlen, Nat.min_self, ← hlen]
    exact hz
def sortX (xs : List D) : Option (List D) := match intL xs with
  | some ns => some ((sortI ns).map .int)
  | none => if okS xs then some (xs.mergeSort dLe) else none
def mSortX (m : MN) : MN := fun ρ S => (m ρ S).bind fun p => (sortX p.1).map fun z => (z, p.2)
section
variable {K : PySem.W.Frag} {M M' : Adr} {H H' : Hp} {S S' : Sto} {te : TE}
theorem RlA.zipAll : ∀ {vs : List V} {ds : List D}, RlA K M H vs ds → ∀ p ∈ vs.zip ds, Rl K M H p.1 p.2
  | _, [], h, p, hp => by cases h; cases hp
  | _, _ :: _, h, p, hp => by
    cases h with
    | cons h1 h2 =>
      rcases List.mem_cons.mp hp with rfl | hp
      · exact h1
      · exact RlA.zipAll h2 p hp
theorem rlA_ps : ∀ {ps : List (V × D)}, (∀ p ∈ ps, Rl K M H p.1 p.2) → RlA K M H (ps.map (·.1)) (ps.map (·.2))
  | [], _ => .nil
  | p :: ps, h => .cons (h p List.mem_cons_self) (rlA_ps fun q hq => h q (List.mem_cons_of_mem _ hq))
theorem im_sortX {m : MN} (h : ImL K te m) : ImN K (tCB (fun us H Q => rSortedI K us H Q ∨ rSortedX K us H Q) (tCons te tNil)) (mSortX m) := fun σ H M ρ S b S' hs ok e Q q => by
  unfold mSortX at e
  cases e1 : m ρ S with
  | none => rw [e1] at e; cases e
  | some p =>
    rw [e1, Option.bind_some] at e
    unfold sortX at e
    cases e2 : intL p.1 with
    | some ns =>
      rw [e2] at e
      cases e
      refine h σ H M ρ S _ _ hs ok e1 _ fun a vs H1 M1 x1 ok1 sq r => ?_
      refine .inl ⟨a, ns, rfl, by rw [← r.intL e2]; exact sq, fun ns' p h1 h2 hp => ?_⟩
      have e3 : ns' = sortI ns := sorted_one (h1.trans (sortI_perm ns).symm) h2 (sortI_up ns)
      subst e3
      exact q p _ _ (M1.gh p) (x1.trans (Ext.ghost hp)) (ok1.ghost hp) (x1.free p hp) upd_same List.mem_cons_self (rl_intsM _)
    | none =>
      rw [e2] at e
      simp only at e
      split at e <;> first | (cases e; done) | skip
      rename_i hok
      cases e
      refine h σ H M ρ S _ _ hs ok e1 _ fun a vs H1 M1 x1 ok1 sq r => ?_
      refine .inr ⟨a, vs, p.1, rfl, sq, r.dp, hok, fun ps l h1 h2 hp => ?_⟩
      have hr : RlA K M1 H1 (ps.map (·.1)) (p.1.mergeSort dLe) := by
        rw [← h2]
        exact rlA_ps fun z hz => RlA.zipAll r z (h1.mem_iff.mp hz)
      exact q l _ _ (M1.gh l) (x1.trans (Ext.ghost hp)) (ok1.ghost hp) (x1.free l hp) upd_same List.mem_cons_self (hr.fresh hp)
end
section
variable {ι : Type} {F : Fam ι} {e : Expr} {mn : MN} {pos : Pos}
theorem CallR.or {X : Cx} {f : Value} {r1 r2 : List V → Hp → VK → Prop} (h1 : CallR X f r1) (h2 : CallR X f r2) : CallR X f (fun us H Q => r1 us H Q ∨ r2 us H Q) := fun pins s σ H us ws Q I r h =>
  h.elim (h1 pins s σ H us ws Q I r) (h2 pins s σ H us ws Q I r)
theorem d_sortedX {px : Pos} (hm : ∀ i, (F.X i).mg "sorted" = none) (h : PDL F e mn) (hg : ∀ i, Gl (F.X i) "sorted" := by exact fun _ => rfl) (hs : ∀ i, starEach [e] (F.X i).env = (false, eval e (F.X i).env) :: starEach [] (F.X i).env := by intro _; rfl) :
    PDN F (.Call (.Name "sorted" px) [e] [] pos) (mSortX mn) := by
  obtain ⟨t, p, q⟩ := h
  exact ⟨_, fun i => call1 (by have := CallR.or (cr_sortedI (X := F.X i)) (cr_sortedX (X := F.X i) (k_units F i)); rw [F.hK i] at this; exact this) (hg i) (hm i) (by decide +kernel) (p i) (by decide) (by decide) (hs i), im_sortX q⟩
end
end G
set_option Elab.async false
set_option linter.all false
set_option autoImplicit false
set_option maxRecDepth 100000
set_option maxHeartbeats 4000000
/-! list + list, both data. -/
namespace G
open PySem PySem.Spec PyProof.Rows L2
section
variable {K : PySem.W.Frag} {ta tb : TE} {ma mb : ME}
def mCatD (ma mb : ME) : MN := fun ρ S => (mLE ma ρ S).bind fun p => (mLE mb ρ p.2).bind fun q => if p.1.length + q.1.length ≤ 1000000 then some (p.1 ++ q.1, q.2) else none
theorem im_catD (h1 : ImE K ta ma) (h2 : ImE K tb mb) : ImN K (tOp (rCatL K) ta tb) (mCatD ma mb) := fun σ H M ρ S o S' hs ok e Q q => by
  unfold mCatD at e
  cases e1 : mLE ma ρ S with
  | none => rw [e1] at e; cases e
  | some p =>
    rw [e1, Option.bind_some] at e
    cases e2 : mLE mb ρ p.2 with
    | none => rw [e2] at e; cases e
    | some p2 =>
      rw [e2, Option.bind_some] at e
      split at e <;> cases e
      rename_i hz
      refine h1 σ H M ρ S _ _ hs ok (le_some e1) _ fun v H1 M1 x1 ok1 r1 => ?_
      refine h2 σ H1 M1 ρ _ _ _ (hs.mono x1) ok1 (le_some e2) _ fun w H2 M2 x2 ok2 r2 => ?_
      have r3 := r1.mono x2
      cases r3 with
      | lst z1 z2 =>
        cases r2 with
        | lst y1 y2 =>
          refine ⟨_, _, _, _, rfl, rfl, z1.sql, y1.sql, Nat.le_trans (by rw [z2.len, y2.len]; exact hz) big, fun p hp => ?_⟩
          have x := x1.trans x2
          exact q p _ _ (M2.gh p) (x.trans (Ext.ghost hp)) (ok2.ghost hp) (x.free p hp) upd_same List.mem_cons_self ((z2.append y2).fresh hp)
end
section
variable {ι : Type} {F : Fam ι} {a e : Expr} {ma mb : ME} {pos : Pos}
theorem d_catD (h1 : PDE F a ma) (h2 : PDE F e mb) : PDN F (.BinOp a .Add e pos) (mCatD ma mb) := by
  obtain ⟨t1, p1, q1⟩ := h1
  obtain ⟨t2, p2, q2⟩ := h2
  exact ⟨_, fun i => pe_op (by have := op_catL (X := F.X i); rw [F.hK i] at this; exact this) (p1 i) (p2 i), im_catD q1 q2⟩
end
end G
set_option Elab.async false
set_option linter.all false
set_option autoImplicit false
set_option maxRecDepth 100000
set_option maxHeartbeats 4000000
/-! A cell that nobody changes any more is data from here on: no step of the program. -/
namespace G
open PySem PySem.Spec PyProof.Rows L2
def mFz (j : Nat) (m : MS) : MS := fun ρ S => match ρ[j]? with
  | some (some (.loc n)) => match S[n]? with
    | some (some xs) => m (ρ.set j (some (.d (.list xs)))) (S.set n none)
    | _ => none
  | _ => m ρ S
section
variable {T : ET} {W : WX} {K : PySem.W.Frag} {M : Adr} {H : Hp} {S : Sto} {b : Nat} {t : TS} {m : MS}
theorem getset_ne {α : Type} {l : List α} {n k : Nat} {a x : α} (h : (l.set n a)[k]? = some x) (hx : a ≠ x) : k ≠ n ∧ l[k]? = some x := by
  rw [List.getElem?_set] at h
  split at h
  · split at h <;> cases h
    exact absurd rfl hx
  · rename_i c
    exact ⟨fun e => c e.symm, h⟩
theorem Ext.kill {n : Nat} {a : Addr} (hn : M.c[n]? = some (some a)) : Ext M H ⟨M.c.set n none, M.g⟩ H where
  subn := fun k a' h => .inl (getset_ne h (by simp)).2
  gs := fun a h => .inl h
  gk := fun a h => h
  pos := fun k a' h => by
    by_cases e : n = k
    · subst e
      exact .inr (List.getElem?_set_self (List.getElem?_eq_some_iff.mp hn).1)
    · exact .inl (by show (M.c.set n none)[k]? = _; rw [List.getElem?_set_ne e]; exact h)
  dead := fun k h => by
    by_cases e : n = k
    · subst e; rw [hn] at h; cases h
    · show (M.c.set n none)[k]? = _
      rw [List.getElem?_set_ne e]; exact h
  keep := fun a o h _ => h
  free := fun a h => h
theorem Ok.kill {n : Nat} (ok : Ok K M S H) (x : Ext M H ⟨M.c.set n none, M.g⟩ H) : Ok K ⟨M.c.set n none, M.g⟩ (S.set n none) H where
  len := by show (M.c.set n none).length = (S.set n none).length; rw [List.length_set, List.length_set, ok.len]
  inj := fun i j a h1 h2 => ok.inj i j a (getset_ne h1 (by simp)).2 (getset_ne h2 (by simp)).2
  cell := fun k xs h => by
    obtain ⟨ne, h⟩ := getset_ne h (by simp)
    obtain ⟨a, vs, e1, e2, e3⟩ := ok.cell k xs h
    exact ⟨a, vs, by show (M.c.set n none)[k]? = _; rw [List.getElem?_set_ne (fun e => ne e.symm)]; exact e1, e2, e3.mono x⟩
  lst := fun a h => ok.lst a (h.elim (fun z => by
    obtain ⟨k, e⟩ := List.mem_iff_getElem?.mp z
    exact .inl (List.mem_of_getElem? (getset_ne e (by simp)).2)) .inr)
  dj := fun a h => ok.dj a (by
    obtain ⟨k, e⟩ := List.mem_iff_getElem?.mp h
    exact List.mem_of_getElem? (getset_ne e (by simp)).2)
theorem imc_fz {j : Nat} (h : ImC K T W b t m) : ImC K T W b t (mFz j m) := fun M0 H0 σ H M ρ S o ρ' S' hb hl x0 hs ok e D q => by
  unfold mFz at e
  split at e
  · rename_i n hj
    split at e <;> first | (cases e; done) | skip
    rename_i xs hn
    obtain ⟨a, vs, c1, c2, c3⟩ := ok.cell n xs hn
    have x := Ext.kill (H := H) c1
    refine h M0 H0 σ H _ _ _ o ρ' S' hb hl (x0.trans x) ?_ (ok.kill x) e D (q.ext x)
    have hs1 := hs.mono x
    refine ⟨by rw [List.length_set]; exact hs1.len, fun i s hi => ?_⟩
    by_cases hij : j = i
    · subst hij
      obtain ⟨v, e1, a', e2, e3⟩ := hs.at_ j (.loc n) hj
      have ea : a' = a := by
        rcases e3 with e3 | e3
        · rw [c1] at e3; cases e3; rfl
        · rw [c1] at e3; cases e3
      subst ea
      rw [List.getElem?_set_self (List.getElem?_eq_some_iff.mp hj).1] at hi
      cases hi
      refine ⟨v, e1, ?_⟩
      rw [e2]
      refine .lst (.inl ⟨.inl c2, fun z => ?_⟩) (c3.mono x)
      rcases z with z | z
      · obtain ⟨k, ek⟩ := List.mem_iff_getElem?.mp z
        obtain ⟨ne, ek⟩ := getset_ne ek (by simp)
        exact ne (ok.inj k n a' ek c1)
      · exact ok.dj a' (List.mem_of_getElem? c1) z
    · rw [List.getElem?_set_ne hij] at hi
      exact hs1.at_ i s hi
  · exact h M0 H0 σ H M ρ S o ρ' S' hb hl x0 hs ok e D q
end
section
variable {ι : Type} {F : Fam ι} {b : Nat} {st : Stmt} {m : MS}
theorem d_fz (j : Nat) (h : PDS F b st m) : PDS F b st (mFz j m) := let ⟨t, p, q⟩ := h; ⟨t, p, imc_fz q⟩
end
end G
set_option Elab.async false
set_option linter.all false
set_option autoImplicit false
set_option maxRecDepth 100000
set_option maxHeartbeats 4000000
/-! x.extend(data: a list or a tuple) -/
namespace G
open PySem PySem.Spec PyProof.Rows L2
theorem ext_lst (l : Addr) (items : Array Value) (n : Nat) (b : Addr) (items2 : Array Value) (n2 : Nat) (dd : Option Addr) (sl : Array (Option Value)) (hs0 : ¬(!items.isEmpty && Builtin.List.listTooLong (items.size + items2.size)) = true) (hs1 : items.size ≤ sizeLine) (hs2 : items.size + items2.size ≤ sizeLine + 1) :
    Meets (Builtin.«list.extend» ⟨[.ref l, .ref b], []⟩) (fun _ R s => s.heap.get? l = some { cls := .type "list", dict := none, data := .seq items n, slots := #[] } ∧ s.heap.get? b = some { cls := .type "list", dict := dd, data := .seq items2 n2, slots := sl } ∧ R (.ok (.ret Value.none)) { s with heap := s.heap.update l (Obj.mapSeq fun x => x ++ items2), toks := s.toks }) :=
  .of_wp fun prog w A R s h => by
    obtain ⟨hp, g, d, tk, os⟩ := s; obtain ⟨hl, hb, h⟩ := h
    have f1 := AutoSeq1.idx_int; have f2 := AutoSeq1.sub_tuple_tuple; have f3 := AutoSeq1.sub_list_list; have f4 := AutoSeq1.sub_tuple_list; have f5 := AutoSeq1.sub_list_tuple
    have hz' : (items ++ items2).size ≤ sizeLine + 1 := by rw [Array.size_append]; exact hs2
    wp_walk using (wpAny_updateSeq hl rfl (hz := hs1) (_hz' := hz')), wpAny_loadPart' hl, wpAny_loadPart' hb
    exact ⟨_, rfl, h⟩
def rExtL (K : PySem.W.Frag) : V → List V → Hp → VK → Prop := fun x vs H Q => ∃ l b xs zs, x = .ref l ∧ vs = [.ref b] ∧ H l = some (.lst xs) ∧ SqL K H b zs ∧ xs.length + zs.length ≤ sizeLine ∧ Q .non (upd H l (.lst (xs ++ zs)))
theorem mt_extL {X : Cx} : MtR X "list.extend" (rExtL X.K) := by
  intro pins s σ H x vs v us Q I rx rv h
  obtain ⟨l, b, xs, zs, rfl, rfl, hH, hB, hz, q⟩ := h
  cases rx
  obtain ⟨u, rfl, ru⟩ := rv.one
  cases ru
  obtain ⟨z, its, n, r, hl, e⟩ := I.lstM hH
  obtain ⟨its2, r2, ⟨⟨cls, dd, data, sl⟩, n2, ho, hc, hd1, hd⟩, hs⟩ := I.list hB
  simp only at hc hd
  subst hc hd
  have hl2 := r2.length
  have hsz : its.toArray.size + its2.toArray.size ≤ sizeLine := by rw [List.size_toArray, List.size_toArray]; omega
  have hlong : ¬ (!its.toArray.isEmpty && Builtin.List.listTooLong (its.toArray.size + its2.toArray.size)) = true := by
    rw [notLongL hsz, Bool.and_false]
    exact Bool.false_ne_true
  refine call_meets F.slot_list_extend ⟨_, e, rfl⟩ F.entry_list_extend (F.args_list_extend_2 _ _)
    (ext_lst l its.toArray n b its2.toArray n2 dd sl hlong (by rw [List.size_toArray]; omega) (by omega)) ⟨e, ho, ?_⟩
  refine ⟨.non, _, I.lset (its' := its ++ its2) hH e (by simp) (r.append r2) ?_, rfl, q⟩
  rw [List.length_append]
  omega

section
variable {K : PySem.W.Frag}
/-- x.extend(data) -/
def mExtD (i : Nat) (m : ME) : ME := fun ρ S => match ρ[i]? with
  | some (some (.loc n)) => (S[n]?.join).bind fun _ => (m ρ S).bind fun p => match p.1 with
    | .tuple ys => (p.2[n]?.join).bind fun xs => if xs.length + ys.length ≤ 1000000 then some (.none, p.2.set n (some (xs ++ ys))) else none
    | .list ys => (p.2[n]?.join).bind fun xs => if xs.length + ys.length ≤ 1000000 then some (.none, p.2.set n (some (xs ++ ys))) else none
    | _ => none
  | _ => none
theorem im_extD {i : Nat} {te : TE} {me : ME} (h : ImE K te me) : ImE K (tBM K "list" (fun x xs H Q => rExtT K x xs H Q ∨ rExtL K x xs H Q) (tVar i) (tCons te tNil)) (mExtD i me) := fun σ H M ρ S d S' hs ok e Q q => by
  unfold mExtD at e
  split at e <;> first | (cases e; done) | skip
  rename_i n en
  cases e0 : S[n]?.join with
  | none => rw [e0] at e; cases e
  | some xs0 =>
    rw [e0, Option.bind_some] at e
    cases e1 : me ρ S with
    | none => rw [e1] at e; cases e
    | some p =>
      rw [e1, Option.bind_some] at e
      split at e <;> first | (cases e; done) | skip
      · rename_i ys ey
        cases e3 : p.2[n]?.join with
        | none => rw [e3] at e; cases e
        | some xs =>
          rw [e3, Option.bind_some] at e
          split at e <;> cases e
          rename_i hz
          obtain ⟨a, us, hw, _, hus, _⟩ := cell_at hs ok en (join_some e0)
          refine ⟨_, hw, tyl hus, ?_⟩
          refine h σ H M ρ S p.1 p.2 hs ok e1 _ fun v H1 M1 x1 ok1 r1 => ?_
          obtain ⟨a', vs, c1, c2, c3, c4⟩ := cell_at (hs.mono x1) ok1 en (join_some e3)
          rw [hw] at c1
          cases c1
          rw [ey] at r1
          cases r1 with
          | tup g1 g2 =>
            rename_i l ws
            refine .inl ⟨a, l, vs, ws, rfl, rfl, c3, g1, Nat.le_trans (show vs.length + ws.length ≤ 1000000 by rw [c4.len, g2.len]; exact hz) big, ?_⟩
            have xc : Ext M1 H1 M1 (upd H1 a (.lst (vs ++ ws))) := Ext.setc (List.mem_of_getElem? c2) c3
            exact q _ _ M1 (x1.trans xc) (ok1.setc c2 c3 (c4.append g2)) .non
      · rename_i ys ey
        cases e3 : p.2[n]?.join with
        | none => rw [e3] at e; cases e
        | some xs =>
          rw [e3, Option.bind_some] at e
          split at e <;> cases e
          rename_i hz
          obtain ⟨a, us, hw, _, hus, _⟩ := cell_at hs ok en (join_some e0)
          refine ⟨_, hw, tyl hus, ?_⟩
          refine h σ H M ρ S p.1 p.2 hs ok e1 _ fun v H1 M1 x1 ok1 r1 => ?_
          obtain ⟨a', vs, c1, c2, c3, c4⟩ := cell_at (hs.mono x1) ok1 en (join_some e3)
          rw [hw] at c1
          cases c1
          rw [ey] at r1
          cases r1 with
          | lst g1 g2 =>
            rename_i l ws
            refine .inr ⟨a, l, vs, ws, rfl, rfl, c3, g1.sql, Nat.le_trans (show vs.length + ws.length ≤ 1000000 by rw [c4.len, g2.len]; exact hz) big, ?_⟩
            have xc : Ext M1 H1 M1 (upd H1 a (.lst (vs ++ ws))) := Ext.setc (List.mem_of_getElem? c2) c3
            exact q _ _ M1 (x1.trans xc) (ok1.setc c2 c3 (c4.append g2)) .non
end

section
variable {ι : Type} {F : Fam ι} {a e : Expr} {ma mb me : ME} {pos : Pos}
theorem d_extD (j : Nat) {x : Str} {px apos : Pos} (h : PDE F e me) (hN : ∀ i, (F.X i).N[j]? = some x := by exact fun _ => rfl) (hv : ∀ i, Vis (F.X i).env.scope x := by first | exact fun _ => Or.inl rfl | exact fun _ => Or.inr (Or.inl rfl) | exact fun _ => Or.inr (Or.inr rfl))
    (hd : (x == ("__debug__" : Str)) = false := by decide) (hcd : (x == ("__classdict__" : Str)) = false := by decide) (hbase : ∀ i, attributeBase (.Name x px) "extend" (F.X i).env (eval (.Name x px) (F.X i).env) = eval (.Name x px) (F.X i).env := by intro _; rfl)
    (hfew : ∀ i, ((backTo pos (starEach [e] (F.X i).env)).all (fun x => !x.1) && (backToKw pos (keywordEach [] (F.X i).env)).all (fun x => x.1.isSome) && decide ([e].length + ([] : List Keyword).length + (if ([] : List Keyword).isEmpty then 0 else 1) < 30)) = true := by intro _; rfl)
    (hline : (apos.endLine == pos.line) = true := by rfl) (hs : ∀ i, starEach [e] (F.X i).env = (false, eval e (F.X i).env) :: starEach [] (F.X i).env := by intro _; rfl) : PDE F (.Call (.Attribute (.Name x px) "extend" apos) [e] [] pos) (mExtD j me) := by
  obtain ⟨t, p, q⟩ := h
  exact ⟨_, fun i => by have := pe_bm (cpos := pos) (apos := apos) PySem.F.plainAttrs_list PySem.F.slot_list_extend PySem.F.type_list_extend (MtR.or (mt_extT (X := F.X i)) (mt_extL (X := F.X i))) (pe_var (pos := px) (hN i) (hv i) hd hcd) (pa_cons (p i) pa_nil (hs i)) (hbase i) (hfew i) hline (hs i) rfl; rw [F.hK i] at this; exact this, im_extD q⟩

end
end G
set_option Elab.async false
set_option linter.all false
set_option autoImplicit false
set_option maxRecDepth 100000
set_option maxHeartbeats 4000000
/-! row[e] += v, row a cell -/
namespace G
open PySem PySem.Spec PyProof.Rows L2
def mAugX (i : Nat) (f : D → D → Option D) (mi mv : ME) : MS := fun ρ S => (mi ρ S).bind fun q => match q.1, ρ[i]? with
  | .int k, some (some (.loc n)) => (q.2[n]?.join).bind fun xs => (atI xs k).bind fun x => (mv ρ q.2).bind fun p => (f x p.1).bind fun z => (p.2[n]?.join).bind fun ys => (ixN ys.length k).map fun j => (.nx, ρ, p.2.set n (some (ys.set j z)))
  | _, _ => none
section
variable {T : ET} {W : WX} {K : PySem.W.Frag} {ti tv : TE} {mi mv : ME} {b : Nat}
theorem imc_augX {i : Nat} {tip : TIp} {f : D → D → Option D} (hf : ImR K tip f) (hi : ImE K ti mi) (hv : ImE K tv mv) : ImC K T W b (tAugS (tVar i) ti tv (rIxL K) tip rSetL) (mAugX i f mi mv) := fun M0 H0 σ H M ρ S o ρ' S' hb hl x0 hs ok e D q => by
  unfold mAugX at e
  cases e1 : mi ρ S with
  | none => rw [e1] at e; cases e
  | some p =>
    rw [e1, Option.bind_some] at e
    obtain ⟨dk, S1⟩ := p
    simp only at e
    split at e <;> first | (cases e; done) | skip
    rename_i k n en
    cases e2 : S1[n]?.join with
    | none => rw [e2] at e; cases e
    | some xs =>
      rw [e2, Option.bind_some] at e
      cases e3 : atI xs k with
      | none => rw [e3] at e; cases e
      | some x =>
        rw [e3, Option.bind_some] at e
        cases e4 : mv ρ S1 with
        | none => rw [e4] at e; cases e
        | some p2 =>
          rw [e4, Option.bind_some] at e
          obtain ⟨dv, S2⟩ := p2
          simp only at e
          cases e5 : f x dv with
          | none => rw [e5] at e; cases e
          | some z =>
            rw [e5, Option.bind_some] at e
            cases e6 : S2[n]?.join with
            | none => rw [e6] at e; cases e
            | some ys =>
              rw [e6, Option.bind_some] at e
              cases e7 : ixN ys.length k with
              | none => rw [e7] at e; cases e
              | some j =>
                rw [e7] at e
                cases e
                obtain ⟨w, hw, a0, ha0, _⟩ := hs.at_ i _ en
                refine ⟨w, hw, ?_⟩
                refine hi σ H M ρ S _ _ hs ok e1 _ fun y H1 M1 x1 ok1 r1 => ?_
                cases r1
                obtain ⟨a, vs, c1, c2, c3, c4⟩ := cell_at (hs.mono x1) ok1 en (join_some e2)
                rw [hw] at c1
                cases c1
                obtain ⟨u, e8, r8⟩ := c4.atI e3
                refine ⟨_, _, _, u, rfl, rfl, .inl (.inl c3), e8, ?_⟩
                refine hv σ H1 M1 ρ S1 _ _ (hs.mono x1) ok1 e4 _ fun y2 H2 M2 x2 ok2 r2 => ?_
                refine hf H2 M2 S2 u y2 x dv z ok2 (r8.mono x2) r2 e5 _ fun v3 H3 M3 x3 ok3 r3 => ?_
                have xx := x1.trans (x2.trans x3)
                obtain ⟨a', vs', d1, d2, d3, d4⟩ := cell_at (hs.mono xx) ok3 en (join_some e6)
                rw [hw] at d1
                cases d1
                refine ⟨_, vs', k, j, rfl, rfl, d3, by rw [d4.len]; exact e7, ?_⟩
                have xc : Ext M3 H3 M3 (upd H3 a (.lst (vs'.set j v3))) := Ext.setc (List.mem_of_getElem? d2) d3
                exact q σ _ M3 (xx.trans xc) (ok3.setc d2 d3 (d4.set r3 j)) (hs.mono (xx.trans xc))
end
theorem get_list {X : Cx} : PGet X (rIxL X.K) := by
  intro pins s σ H x y v u Q I rx ry h
  obtain ⟨p, xs, i, z, rfl, rfl, hq, he, q⟩ := h
  cases rx
  obtain ⟨t, rfl⟩ := ry
  obtain ⟨its, r, pl, hz⟩ := I.list hq
  obtain ⟨j, h1, h2, h3, h4, h5⟩ := atI_get he
  obtain ⟨w, ew, rw1⟩ := r.get h2
  have hl := r.length
  have hn := line63
  by_cases h0 : 0 ≤ i
  · have hj : i.toNat = j := by
      rw [seqIndex_of h0 h5] at h1
      cases h1
      rfl
    exact wpAny_getItem_list pl.isList h0 (by omega) (by rw [hj]; simpa using ew) ⟨z, H, I, rw1, q⟩
  · have hj : (i + (its.toArray.size : Int)).toNat = j := by
      rw [seqIndex_neg (by omega) h4] at h1
      rw [List.size_toArray, ← hl]
      cases h1
      rfl
    exact wpAny_getItem_list_neg pl.isList (by omega) (by rw [List.size_toArray] <;> omega) (by omega) (by rw [hj]; simpa using ew) ⟨z, H, I, rw1, q⟩
section
variable {ι : Type} {F : Fam ι} {b : Nat} {a e : Expr} {ma me : ME} {pos : Pos}
theorem d_augX (j : Nat) {x : Str} {px p2 : Pos} (hi : PDE F a ma) (hv : PDE F e me) (hN : ∀ i, (F.X i).N[j]? = some x := by exact fun _ => rfl) (hvis : ∀ i, Vis (F.X i).env.scope x := by first | exact fun _ => Or.inl rfl | exact fun _ => Or.inr (Or.inl rfl) | exact fun _ => Or.inr (Or.inr rfl))
    (hd : (x == ("__debug__" : Str)) = false := by decide) (hcd : (x == ("__classdict__" : Str)) = false := by decide)
    (ha : ∀ ov iv new, augStore a ov iv new = (do holding [new, ov, iv] (setItem ov iv new); release [new, ov, iv] []; pure .next) := by intros; rfl) : PDS F b (.AugAssign (.Subscript (.Name x px) a p2) .Add e pos) (mAugX j (fI0 fun i j => .int (i + j)) ma me) := by
  obtain ⟨t, p, q⟩ := hi
  obtain ⟨t2, p3, q2⟩ := hv
  exact ⟨_, fun i => by have := ps_augS (X := F.X i) (pos := pos) (tpos := p2) (pe_var (pos := px) (hN i) (hvis i) hd hcd) (p i) (get_list (X := F.X i)) (p3 i) ip_add set_list ha; rw [F.hK i] at this; exact this, imc_augX imr_ipadd q q2⟩
end
end G
set_option Elab.async false
set_option linter.all false
set_option autoImplicit false
set_option maxRecDepth 100000
set_option maxHeartbeats 4000000
/-! zip of a tuple with a list, and of a list with a tuple -/
namespace G
open PySem PySem.Spec PyProof.Rows L2
/-- an iterator that has come to its end -/
theorem endTup {prog : Program} {w : World} {A : Around} (hh : A.handled = none) (it t : Addr) (items : Array Value) (n : Nat) (he : items[n]? = none) :
    Draws prog w A it [it, t] n (fun _ _ => True) (fun i h => i = n ∧ h.IsTupleIter it t n ∧ h.IsTuple t items) where
  live := fun i h st => let ⟨o, ho, _⟩ := st.2.1; ⟨o, ho⟩
  frame := fun i h h1 st hk => ⟨st.1, st.2.1.at fun o q => hk it (by simp) o q, st.2.2.at fun o q => hk t (by simp) o q⟩
  item := fun i s Q E hi st _ => absurd st.1 (by omega)
  done := fun s Q E st hE => wpAny_nextOf_tuple_end hh st.2.1 st.2.2 he hE
theorem endLst {prog : Program} {w : World} {A : Around} (hh : A.handled = none) (it t : Addr) (items : Array Value) (n : Nat) (he : items[n]? = none) :
    Draws prog w A it [it, t] n (fun _ _ => True) (fun i h => i = n ∧ h.IsListIter it t n ∧ h.IsList t items) where
  live := fun i h st => let ⟨o, ho, _⟩ := st.2.1; ⟨o, ho⟩
  frame := fun i h h1 st hk => ⟨st.1, st.2.1.at fun o q => hk it (by simp) o q, st.2.2.at fun o q => hk t (by simp) o q⟩
  item := fun i s Q E hi st _ => absurd st.1 (by omega)
  done := fun s Q E st hE => wpAny_nextOf_list_end hh st.2.1 st.2.2 he hE
theorem five {c z TI TO i1 i2 : Addr} (h : c ∈ [z, TI, TO, i1, i2]) : c = z ∨ c = TI ∨ c = TO ∨ c = i1 ∨ c = i2 := by simpa using h
theorem five_no {c z TI TO i1 i2 : Addr} (h : c ∉ [z, TI, TO, i1, i2]) : c ≠ z ∧ c ≠ TO ∧ c ≠ i1 ∧ c ≠ i2 := by
  refine ⟨?_, ?_, ?_, ?_⟩ <;> (rintro rfl; exact h (by simp))
theorem sep_of {z TI TO i1 i2 a b : Addr} (D : ZipApart z TI TO i1 i2 a b) : ZipSep2 z TI TO i1 i2 [i1, a] [i2, b] where
  TIz := D.TIz
  TOz := D.TOz
  TITO := D.TITO
  TIi1 := D.TIi1
  mem1 := by simp
  zf1 := by simpa using ⟨fun e => D.i1z e.symm, fun e => D.l1z e.symm⟩
  Tf1 := by simpa using ⟨D.TOi1, fun e => D.l1TO e.symm⟩
  TIi2 := D.TIi2
  mem2 := by simp
  zf2 := by simpa using ⟨fun e => D.i2z e.symm, fun e => D.l2z e.symm⟩
  Tf2 := by simpa using ⟨D.TOi2, fun e => D.l2TO e.symm⟩
  sep1_2 := by simpa using ⟨D.i12, fun e => D.l2i1 e.symm⟩
  sep2_1 := by simpa using ⟨fun e => D.i12 e.symm, fun e => D.l1i2 e.symm⟩
/-- a tuple or a list -/
def SqK (K : PySem.W.Frag) (H : Hp) (t : Bool) (a : Addr) (xs : List V) : Prop := bif t then SqT K H a xs else SqL K H a xs
def IterK (h : Heap) (t : Bool) (it l : Addr) (i : Nat) : Prop := bif t then h.IsTupleIter it l i else h.IsListIter it l i
def SeqK (h : Heap) (t : Bool) (l : Addr) (items : Array Value) : Prop := bif t then h.IsTuple l items else h.IsList l items
theorem drawK {prog : Program} {w : World} {A : Around} (hh : A.handled = none) (t : Bool) (it l : Addr) (hne : l ≠ it) (items : Array Value) :
    Draws prog w A it [it, l] items.size (fun i v => items[i]? = some v) (fun i h => IterK h t it l i ∧ SeqK h t l items) := by
  cases t
  · exact Draws.list hh it l hne items
  · exact Draws.tuple hh it l hne items
theorem endK {prog : Program} {w : World} {A : Around} (hh : A.handled = none) (t : Bool) (it l : Addr) (items : Array Value) (n : Nat) (he : items[n]? = none) :
    Draws prog w A it [it, l] n (fun _ _ => True) (fun i h => i = n ∧ IterK h t it l n ∧ SeqK h t l items) := by
  cases t
  · exact endLst hh it l items n he
  · exact endTup hh it l items n he
theorem IterK.obj {h : Heap} {t : Bool} {it l : Addr} {i : Nat} (x : IterK h t it l i) : ∃ o, h.get? it = some o ∧ ∀ v, o.data ≠ .cell v := by
  cases t
  · obtain ⟨o, e, _, d⟩ := x
    exact ⟨o, e, fun v q => by rw [d] at q; cases q⟩
  · obtain ⟨o, e, _, d⟩ := x
    exact ⟨o, e, fun v q => by rw [d] at q; cases q⟩
theorem IterK.at {h h1 : Heap} {t : Bool} {it l : Addr} {i : Nat} (x : IterK h t it l i) (k : ∀ o, h.get? it = some o → h1.get? it = some o) : IterK h1 t it l i := by
  cases t
  · exact Heap.IsListIter.at x k
  · exact Heap.IsTupleIter.at x k
theorem inv_seqK {X : Cx} {pins : List (Addr × Obj)} {σ : L2.St} {H : Hp} {s : Shared} (I : L2.Inv X pins σ H s) {t : Bool} {a : Addr} {xs : List V} (h : SqK X.K H t a xs) : ∃ its : List Value, Vals xs its ∧ SeqK s.heap t a its.toArray := by
  cases t
  · obtain ⟨its, r, p, _⟩ := I.list h
    exact ⟨its, r, p.isList⟩
  · obtain ⟨its, r, p, _⟩ := I.tuple h
    exact ⟨its, r, p⟩
theorem inv_injK {X : Cx} {pins : List (Addr × Obj)} {σ : L2.St} {H : Hp} {s : Shared} (I : L2.Inv X pins σ H s) {t : Bool} {a : Addr} {xs ys : List V} (h : SqK X.K H t a xs) (h1 : SqK X.K H t a ys) : xs = ys := by
  cases t
  · exact I.list_inj h h1
  · exact I.tuple_inj h h1
/-- the two as they stand at each turn -/
def ItK (K : PySem.W.Frag) (t1 t2 : Bool) (a b : Addr) : It :=
  ⟨fun i H => ∃ (xs ys : List V) (x y : V), SqK K H t1 a xs ∧ SqK K H t2 b ys ∧ xs[i]? = some x ∧ ys[i]? = some y,
    fun i H v H2 => ∃ T x y, v = .ref T ∧ H T = none ∧ H2 = upd H T (.tup [x, y]) ∧ (∀ xs, SqK K H t1 a xs → xs[i]? = some x) ∧ ∀ ys, SqK K H t2 b ys → ys[i]? = some y,
    fun i H => ∃ xs ys : List V, SqK K H t1 a xs ∧ SqK K H t2 b ys ∧ (xs.length ≤ i ∨ ys.length ≤ i)⟩
theorem turnK {P : Program} {w : World} {K : PySem.W.Frag} {elts : List Expr} {kk : Nat} {tpos : Pos} {t1 t2 : Bool} {a b z TI TO i1 i2 : Addr} (D : ZipApart z TI TO i1 i2 a b) :
    Turn P w K (.Tuple elts kk tpos) (ItK K t1 t2 a b) [z, TI, TO, i1, i2] z (fun i h => IsZip h z TI TO .none ∧ IsPair h TI (.ref i1) (.ref i2) ∧ (∃ x y, IsPair h TO x y) ∧ IterK h t1 i1 a i ∧ IterK h t2 i2 b i) where
  mem := by simp
  obj := fun i h st c hc => by
    rcases five hc with rfl | rfl | rfl | rfl | rfl
    · exact ⟨_, st.1, fun v q => by cases q⟩
    · exact ⟨_, st.2.1, fun v q => by cases q⟩
    · obtain ⟨x, y, q⟩ := st.2.2.1
      exact ⟨_, q, fun v q => by cases q⟩
    · exact st.2.2.2.1.obj
    · exact st.2.2.2.2.obj
  keep := fun i h h1 st k => ⟨k z (by simp) _ st.1, k TI (by simp) _ st.2.1, let ⟨x, y, q⟩ := st.2.2.1; ⟨x, y, k TO (by simp) _ q⟩, st.2.2.2.1.at fun o q => k i1 (by simp) o q, st.2.2.2.2.at fun o q => k i2 (by simp) o q⟩
  item := by
    intro X hP hw hK hc i pn s σ H E I hf st hg
    subst hP hw hK
    obtain ⟨e1, e2, ⟨x0, y0, e3⟩, e4, e5⟩ := st
    obtain ⟨xs, ys, x, y, g1, g2, g3, g4⟩ := hg
    obtain ⟨its1, v1, p1⟩ := inv_seqK I g1
    obtain ⟨its2, v2, p2⟩ := inv_seqK I g2
    obtain ⟨u1, m1, r1⟩ := v1.get g3
    obtain ⟨u2, m2, r2⟩ := v2.get g4
    have n1 : i < its1.toArray.size := by rw [List.size_toArray]; exact (List.getElem?_eq_some_iff.mp m1).1
    have n2 : i < its2.toArray.size := by rw [List.size_toArray]; exact (List.getElem?_eq_some_iff.mp m2).1
    have hd : X.A.in1.handled = none := I.ok.hd hc
    have big : ∀ c ∈ [z, TI, TO, i1, i2], c < s.heap.objs.size := fun c hcm => by
      rcases five hcm with rfl | rfl | rfl | rfl | rfl
      · exact Heap.lt_size e1
      · exact Heap.lt_size e2
      · exact Heap.lt_size e3
      · obtain ⟨o, q, _⟩ := e4.obj; exact Heap.lt_size q
      · obtain ⟨o, q, _⟩ := e5.obj; exact Heap.lt_size q
    refine wpAny_pyNext_zipD2_item (sep_of D) (drawK hd t1 i1 a D.l1i1 its1.toArray) (drawK hd t2 i2 b D.l2i2 its2.toArray) e1 e2 e3 ⟨e4, p1⟩ ⟨e5, p2⟩ n1 n2 fun y1 y2 h1 tk k1 k2 f1 f2 f3 f4 f5 f6 f7 => ?_
    have w1 : y1 = u1 := by
      have : its1.toArray[i]? = some u1 := by simpa using m1
      rw [this] at k1; exact (Option.some.inj k1).symm
    have w2 : y2 = u2 := by
      have : its2.toArray[i]? = some u2 := by simpa using m2
      rw [this] at k2; exact (Option.some.inj k2).symm
    subst w1 w2
    refine ⟨_, rfl, wpAny_letOwnedTupleGo_zip (s := { s with heap := h1, toks := tk }) f1 fun h2 f8 sb => ?_⟩
    have f9 : h2.get? s.heap.objs.size = some { cls := .type "tuple", data := .seq #[y1, y2] } := (sb.2 _ (Nat.ne_of_gt (Heap.lt_size e1))).trans f5
    have fresh : ObjOk X.prog X.w (upd H s.heap.objs.size (.tup [x, y])) h2 s.heap.objs.size (.tup [x, y]) := ⟨show 2 ≤ sizeLine by decide, [y1, y2], .cons r1 (.cons r2 .nil), _, f9, rfl, _, rfl⟩
    have I1 : L2.Inv X pn σ (upd H s.heap.objs.size (.tup [x, y])) { s with heap := h2, toks := tk } := I.turnedNew (t' := tk) (ch := [z, TI, TO, i1, i2]) (fun c o hb q => by
      obtain ⟨q1, q2, q3, q4⟩ := five_no hb
      exact (sb.2 c q1).trans (f7 c o q1 q2 q3 q4 q)) hf (Nat.le_refl _) fresh
    refine ⟨.ref s.heap.objs.size, _, I1, rfl, ⟨_, x, y, rfl, I.hok.fresh (Nat.le_refl _), rfl, fun l hl => by rw [inv_injK I hl g1]; exact g3, fun l hl => by rw [inv_injK I hl g2]; exact g4⟩, ⟨f8, ?_, ⟨y1, y2, (sb.2 _ D.TOz).trans f2⟩, ?_, ?_⟩, fun c hcm => ?_⟩
    · exact (sb.2 _ D.TIz).trans (f7 _ _ D.TIz D.TITO D.TIi1 D.TIi2 e2)
    · exact f3.1.at fun o q => (sb.2 _ D.i1z).trans q
    · exact f4.1.at fun o q => (sb.2 _ D.i2z).trans q
    · rw [upd_ne (Nat.ne_of_lt (big c hcm))]
      exact (hf c hcm).1
  done := by
    intro X hP hw hK hc i pn s σ H E I hf st hg
    subst hP hw hK
    obtain ⟨e1, e2, ⟨x0, y0, e3⟩, e4, e5⟩ := st
    obtain ⟨xs, ys, g1, g2, g3⟩ := hg
    obtain ⟨its1, v1, p1⟩ := inv_seqK I g1
    obtain ⟨its2, v2, p2⟩ := inv_seqK I g2
    have l1 := v1.length
    have l2 := v2.length
    have hd : X.A.in1.handled = none := I.ok.hd hc
    have fin : ∀ (h1 : Heap) (tk : Nat), (∀ c o, c ≠ z → c ≠ TO → c ≠ i1 → c ≠ i2 → s.heap.get? c = some o → h1.get? c = some o) → (none : Option Value) = none ∧ L2.Inv X pn σ H { s with heap := h1, toks := tk } := fun h1 tk hk => ⟨rfl, I.turnedL (t' := tk) (ch := [z, TI, TO, i1, i2]) (fun c o hb q => by
      obtain ⟨q1, q2, q3, q4⟩ := five_no hb
      exact hk c o q1 q2 q3 q4 q) hf⟩
    by_cases c1 : xs.length ≤ i
    · have m1 : its1.toArray[i]? = none := by simp; omega
      by_cases c2 : ys.length ≤ i
      · have m2 : its2.toArray[i]? = none := by simp; omega
        exact wpAny_pyNext_zipD2_end (sep_of D) (endK hd t1 i1 a its1.toArray i m1) (endK hd t2 i2 b its2.toArray i m2) e1 e2 e3 ⟨rfl, e4, p1⟩ ⟨rfl, e5, p2⟩ (Nat.le_refl _) (Nat.le_refl _) (.inl rfl) fin
      · exact wpAny_pyNext_zipD2_end (sep_of D) (endK hd t1 i1 a its1.toArray i m1) (drawK hd t2 i2 b D.l2i2 its2.toArray) e1 e2 e3 ⟨rfl, e4, p1⟩ ⟨e5, p2⟩ (Nat.le_refl _) (by rw [List.size_toArray]; omega) (.inl rfl) fin
    · have c2 : ys.length ≤ i := g3.elim (fun q => absurd q c1) id
      have m2 : its2.toArray[i]? = none := by simp; omega
      exact wpAny_pyNext_zipD2_end (sep_of D) (drawK hd t1 i1 a D.l1i1 its1.toArray) (endK hd t2 i2 b its2.toArray i m2) e1 e2 e3 ⟨e4, p1⟩ ⟨rfl, e5, p2⟩ (by rw [List.size_toArray]; omega) (Nat.le_refl _) (.inr rfl) fin
  self := fun _ _ _ _ _ st q => wpAny_pyIter_zip st.1 q
/-! the call -/
def itO (t : Bool) (l : Addr) : Obj := { cls := .type (bif t then "tuple_iterator" else "list_iterator"), data := .fields #[.ref l, .int 0 0] }
abbrev zk1 (h : Heap) (t1 : Bool) (a : Addr) : Heap := h.push (itO t1 a)
abbrev zk2 (h : Heap) (t1 t2 : Bool) (a b : Addr) : Heap := (zk1 h t1 a).push (itO t2 b)
abbrev zk3 (h : Heap) (t1 t2 : Bool) (a b : Addr) : Heap := (zk2 h t1 t2 a b).push { cls := .type "tuple", data := .seq #[.ref h.objs.size, .ref (zk1 h t1 a).objs.size] }
abbrev zk4 (h : Heap) (t1 t2 : Bool) (a b : Addr) : Heap := (zk3 h t1 t2 a b).push { cls := .type "tuple", data := .seq #[.none, .none] }
abbrev zk5 (h : Heap) (t1 t2 : Bool) (a b : Addr) : Heap := (zk4 h t1 t2 a b).push { cls := .type "zip", data := .fields #[.none, .bool false, .bool false, .ref (zk2 h t1 t2 a b).objs.size, .ref (zk3 h t1 t2 a b).objs.size] }
theorem meets_zk (t1 t2 : Bool) (a b : Addr) (xs ys : Array Value) :
    Meets (Builtin.«zip.__new__» ⟨[.type "zip", .ref a, .ref b], []⟩) (fun _ R s => SeqK s.heap t1 a xs ∧ SeqK s.heap t2 b ys ∧ R (.ok (.ret (.ref (zk4 s.heap t1 t2 a b).objs.size))) { s with heap := zk5 s.heap t1 t2 a b }) :=
  .of_wp fun prog w A R s h => by
    obtain ⟨hp, g, d, tk, os⟩ := s
    obtain ⟨k1, k2, h⟩ := h
    have kz := sub_zip
    cases t1 <;> cases t2
    · have q1 : Heap.IsList (Shared.heap ⟨hp, g, d, tk, os⟩) a xs := k1
      have q2 : Heap.IsList (Shared.heap ⟨hp.push { cls := .type "list_iterator", data := .fields #[.ref a, .int 0 0] }, g, d, tk, os⟩) b ys := Heap.IsList.push k2 _
      wp_walk using wpAny_pyIter_list q1, wpAny_pyIter_list q2
      exact ⟨_, rfl, h⟩
    · have q1 : Heap.IsList (Shared.heap ⟨hp, g, d, tk, os⟩) a xs := k1
      have q2 : Heap.IsTuple (Shared.heap ⟨hp.push { cls := .type "list_iterator", data := .fields #[.ref a, .int 0 0] }, g, d, tk, os⟩) b ys := Heap.IsTuple.push k2 _
      wp_walk using wpAny_pyIter_list q1, wpAny_pyIter_tuple q2
      exact ⟨_, rfl, h⟩
    · have q1 : Heap.IsTuple (Shared.heap ⟨hp, g, d, tk, os⟩) a xs := k1
      have q2 : Heap.IsList (Shared.heap ⟨hp.push { cls := .type "tuple_iterator", data := .fields #[.ref a, .int 0 0] }, g, d, tk, os⟩) b ys := Heap.IsList.push k2 _
      wp_walk using wpAny_pyIter_tuple q1, wpAny_pyIter_list q2
      exact ⟨_, rfl, h⟩
    · have q1 : Heap.IsTuple (Shared.heap ⟨hp, g, d, tk, os⟩) a xs := k1
      have q2 : Heap.IsTuple (Shared.heap ⟨hp.push { cls := .type "tuple_iterator", data := .fields #[.ref a, .int 0 0] }, g, d, tk, os⟩) b ys := Heap.IsTuple.push k2 _
      wp_walk using wpAny_pyIter_tuple q1, wpAny_pyIter_tuple q2
      exact ⟨_, rfl, h⟩
end G
set_option Elab.async false
set_option linter.all false
set_option autoImplicit false
set_option maxRecDepth 100000
set_option maxHeartbeats 4000000
namespace G
open PySem PySem.Spec PyProof.Rows L2
section
variable {prog : Program} {w : World} {A : Around} {E : Value → Shared → Prop} {s : Shared}
theorem call_zk {t1 t2 : Bool} {a b : Addr} {xs ys : Array Value} {Q : Value → Shared → Prop} (k1 : SeqK s.heap t1 a xs) (k2 : SeqK s.heap t2 b ys)
    (h : ∀ h1, IsZip h1 (s.heap.objs.size + 4) (s.heap.objs.size + 2) (s.heap.objs.size + 3) .none → IsPair h1 (s.heap.objs.size + 2) (.ref s.heap.objs.size) (.ref (s.heap.objs.size + 1)) → IsPair h1 (s.heap.objs.size + 3) .none .none → IterK h1 t1 s.heap.objs.size a 0 → IterK h1 t2 (s.heap.objs.size + 1) b 0 → (∀ c o, s.heap.get? c = some o → h1.get? c = some o) → Q (.ref (s.heap.objs.size + 4)) { s with heap := h1 }) :
    wpAny (model prog w) A (call (.type "zip") [.ref a, .ref b]) Q E s := by
  refine callType_new F.called_zip (by decide) (F.typeCall_zip_2 _ _) (F.newCall_zip_2 _ _) (fun obj => F.args_object_init_3 obj _ _) F.entry_zip_new (meets_zk t1 t2 a b xs ys) ⟨k1, k2, ?_⟩
  have z1 : (zk1 s.heap t1 a).objs.size = s.heap.objs.size + 1 := Heap.size_push ..
  have z2 : (zk2 s.heap t1 t2 a b).objs.size = s.heap.objs.size + 2 := by rw [Heap.size_push, z1]
  have z3 : (zk3 s.heap t1 t2 a b).objs.size = s.heap.objs.size + 3 := by rw [Heap.size_push, z2]
  have z4 : (zk4 s.heap t1 t2 a b).objs.size = s.heap.objs.size + 4 := by rw [Heap.size_push, z3]
  have g5 : (zk5 s.heap t1 t2 a b).get? (zk4 s.heap t1 t2 a b).objs.size = some _ := Heap.get?_push_size _ rfl
  have g4 : (zk5 s.heap t1 t2 a b).get? (zk3 s.heap t1 t2 a b).objs.size = some _ := Heap.get?_push_of_some _ (Heap.get?_push_size _ rfl)
  have g3 : (zk5 s.heap t1 t2 a b).get? (zk2 s.heap t1 t2 a b).objs.size = some _ := Heap.get?_push_of_some _ (Heap.get?_push_of_some _ (Heap.get?_push_size _ rfl))
  have g2 : (zk5 s.heap t1 t2 a b).get? (zk1 s.heap t1 a).objs.size = some _ := Heap.get?_push_of_some _ (Heap.get?_push_of_some _ (Heap.get?_push_of_some _ (Heap.get?_push_size _ rfl)))
  have g1 : (zk5 s.heap t1 t2 a b).get? s.heap.objs.size = some _ := Heap.get?_push_of_some _ (Heap.get?_push_of_some _ (Heap.get?_push_of_some _ (Heap.get?_push_of_some _ (Heap.get?_push_size _ rfl))))
  rw [z2, z3, z4] at g5
  rw [z1, z2] at g3
  rw [z3] at g4
  rw [z1] at g2
  have i1 : IterK (zk5 s.heap t1 t2 a b) t1 s.heap.objs.size a 0 := by cases t1 <;> exact ⟨_, g1, rfl, rfl⟩
  have i2 : IterK (zk5 s.heap t1 t2 a b) t2 (s.heap.objs.size + 1) b 0 := by cases t2 <;> exact ⟨_, g2, rfl, rfl⟩
  show _ ∧ _
  rw [z4]
  exact ⟨⟨_, g5, rfl⟩, h _ g5 g3 g4 i1 i2 fun c o x => Heap.get?_push_of_some _ (Heap.get?_push_of_some _ (Heap.get?_push_of_some _ (Heap.get?_push_of_some _ (Heap.get?_push_of_some _ x))))⟩
end
theorem SeqK.lt {h : Heap} {t : Bool} {a : Addr} {xs : Array Value} (k : SeqK h t a xs) : a < h.objs.size := by
  cases t
  · obtain ⟨o, e, _⟩ := k; exact Heap.lt_size e
  · obtain ⟨o, e, _⟩ := k; exact Heap.lt_size e
def iZipK (K : PySem.W.Frag) (ta : TA) : TI := fun σ H R => ta σ H fun vs H1 => ∃ t1 t2 a b xs ys, vs = [.ref a, .ref b] ∧ SqK K H1 t1 a xs ∧ SqK K H1 t2 b ys ∧ R (ItK K t1 t2 a b) H1
theorem pi_zipK {X : Cx} {e e2 : Expr} {ta : TA} {p pos tpos : Pos} {elts : List Expr} {kk : Nat} (hg : Gl X "zip") (hm : X.mg "zip" = none) (ha : PA X [e, e2] ta)
    (hs : starEach [e, e2] X.env = (false, eval e X.env) :: starEach [e2] X.env := by rfl) (hp : (backTo pos (starEach [e2] X.env)).any (·.1) = false := by rfl) : PI X (.Tuple elts kk tpos) (.Call (.Name "zip" p) [e, e2] [] pos) (iZipK X.K ta) := by
  refine ⟨fun pn s σ H R I h => ?_⟩
  refine Call_ (ld_blt I hg hm PyProof.Rows.boot_zip (PyProof.Rows.callWith_type1 (thn (ha.run pos pn s σ H _ I h) fun us s1 ⟨vs, H1, I1, r1, q1⟩ => ?_) hs hp))
  obtain ⟨t1, t2, a, b, xs, ys, rfl, g1, g2, q⟩ := q1
  cases r1 with
  | cons r rr =>
    cases rr with
    | cons r2 rr =>
      cases rr
      cases r
      cases r2
      obtain ⟨its1, v1, p1⟩ := inv_seqK I1 g1
      obtain ⟨its2, v2, p2⟩ := inv_seqK I1 g2
      refine call_zk p1 p2 fun h1 e1 e2 e3 e4 e5 hk => wpAny_pyIter_zip e1 ?_
      have I2 : L2.Inv X pn σ H1 { s1 with heap := h1 } := I1.kept (t' := s1.toks) hk
      refine ⟨s1.heap.objs.size + 4, [s1.heap.objs.size + 4, s1.heap.objs.size + 2, s1.heap.objs.size + 3, s1.heap.objs.size, s1.heap.objs.size + 1], _, _, H1, rfl, I2, turnK (PySem.W.ktu_apart s1.heap.objs.size a b p1.lt p2.lt), ⟨e1, e2, ⟨_, _, e3⟩, e4, e5⟩, fun c hc => ?_, q⟩
      have hle : s1.heap.objs.size ≤ c := by
        rcases five hc with rfl | rfl | rfl | rfl | rfl <;> omega
      exact I1.fpOk hle (I1.hok.fresh hle)
section
variable {K : PySem.W.Frag} {M : Adr} {H : Hp} {t : TA}
def LsK (K : PySem.W.Frag) (M : Adr) (H : Hp) (t : Bool) (a : Addr) (vs : List V) : Prop := bif t then SqT K H a vs else LsR K M H a vs
theorem LsK.sqk {b : Bool} {a : Addr} {vs : List V} (h : LsK K M H b a vs) : SqK K H b a vs := by
  cases b
  · exact LsR.sql h
  · exact h
theorem LsK.monoW {M1 : Adr} {H1 : Hp} (x : ExtW M H M1 H1) {b : Bool} {a : Addr} {vs : List V} (h : LsK K M H b a vs) : LsK K M1 H1 b a vs := by
  cases b
  · exact x.lsr h
  · exact x.sqt h
theorem itok_zk {t1 t2 : Bool} {a b : Addr} {vs ws : List V} {xs ys : List D} (hl : LsK K M H t1 a vs) (r : RlA K M H vs xs) (hl2 : LsK K M H t2 b ws) (r2 : RlA K M H ws ys) : ItOk K (ItK K t1 t2 a b) (zipD xs ys) M H := fun M1 H1 S1 x ok i => by
  have k1 := (hl.monoW x).sqk
  have k2 := (hl2.monoW x).sqk
  have q1 := r.monoW x
  have q2 := r2.monoW x
  rw [zipD_len]
  refine ⟨fun h => ⟨vs, ws, k1, k2, by rw [q1.len, q2.len]; omega⟩, fun h => ⟨vs, ws, vs[i]'(by rw [q1.len]; omega), ws[i]'(by rw [q2.len]; omega), k1, k2, List.getElem?_eq_getElem _, List.getElem?_eq_getElem _⟩, fun v H2 d e h => ?_⟩
  obtain ⟨T, v1, v2, rfl, hT, rfl, h, h2⟩ := h
  obtain ⟨dx, dy, e1, e2, rfl⟩ := zipD_get e
  obtain ⟨u, e3, r3⟩ := q1.get e1
  obtain ⟨u2, e4, r4⟩ := q2.get e2
  have f1 := h vs k1
  have f2 := h2 ws k2
  rw [e3] at f1
  rw [e4] at f2
  cases f1
  cases f2
  exact ⟨Ext.new hT, ok.new hT, pairR hT r3 r4⟩
def zipX : List D → Option (List D)
  | [.list xs, .list ys] => some (zipD xs ys)
  | [.tuple xs, .tuple ys] => some (zipD xs ys)
  | [.list xs, .tuple ys] => some (zipD xs ys)
  | [.tuple xs, .list ys] => some (zipD xs ys)
  | _ => none
def mZipX (m : MA) : MN := fun ρ S => (mDs m ρ S).bind fun p => (zipX p.1).map fun z => (z, p.2)
theorem im_zipX {m : MA} (h : ImA K t m) : ImI K (iZipK K t) (mZipX m) := fun σ H M ρ S xs S' hs ok e R q => by
  unfold mZipX at e
  cases e1 : mDs m ρ S with
  | none => rw [e1] at e; cases e
  | some p =>
    rw [e1, Option.bind_some] at e
    obtain ⟨ds, S1⟩ := p
    simp only at e
    refine mDs_ok h hs ok e1 fun vs H1 M1 x1 ok1 r1 => ?_
    unfold zipX at e
    split at e <;> cases e
    all_goals
      cases r1 with
      | cons r1 r2 =>
        cases r2 with
        | cons r2 r3 =>
          cases r3
          cases r1
          cases r2
          rename_i g1 g2 _ _ g3 g4
          first
            | exact ⟨false, false, _, _, _, _, rfl, LsK.sqk (b := false) g1, LsK.sqk (b := false) g3, q _ H1 M1 x1 ok1 (itok_zk (t1 := false) (t2 := false) g1 g2 g3 g4)⟩
            | exact ⟨true, true, _, _, _, _, rfl, g1, g3, q _ H1 M1 x1 ok1 (itok_zk (t1 := true) (t2 := true) g1 g2 g3 g4)⟩
            | exact ⟨false, true, _, _, _, _, rfl, LsK.sqk (b := false) g1, g3, q _ H1 M1 x1 ok1 (itok_zk (t1 := false) (t2 := true) g1 g2 g3 g4)⟩
            | exact ⟨true, false, _, _, _, _, rfl, g1, LsK.sqk (b := false) g3, q _ H1 M1 x1 ok1 (itok_zk (t1 := true) (t2 := false) g1 g2 g3 g4)⟩
end
section
variable {ι : Type} {F : Fam ι} {a e : Expr} {m : MA} {pos : Pos}
theorem d_zipX {elts : List Expr} {kk : Nat} {px tpos : Pos} (hm : ∀ i, (F.X i).mg "zip" = none) (h : PDA F [a, e] m) (hg : ∀ i, Gl (F.X i) "zip" := by exact fun _ => rfl)
    (hs : ∀ i, starEach [a, e] (F.X i).env = (false, eval a (F.X i).env) :: starEach [e] (F.X i).env := by intro _; rfl) (hp : ∀ i, (backTo pos (starEach [e] (F.X i).env)).any (·.1) = false := by intro _; rfl) :
    PDI F (.Tuple elts kk tpos) (.Call (.Name "zip" px) [a, e] [] pos) (mZipX m) := by
  obtain ⟨t, p, q⟩ := h
  exact ⟨_, fun i => by have := pi_zipK (elts := elts) (kk := kk) (tpos := tpos) (pos := pos) (p := px) (hg i) (hm i) (p i) (hs i) (hp i); rw [F.hK i] at this; exact this, im_zipX q⟩
end
end G
set_option Elab.async false
set_option linter.all false
set_option autoImplicit false
set_option maxRecDepth 100000
set_option maxHeartbeats 4000000
/-! The program's own errors: made, raised. -/
namespace G
open PySem L2
/-- the base class at B: reading B.__init__ gives ValueError's -/
structure BasC (K : PySem.W.Frag) (mg : Str → Option Value) (x : Str) (B : Addr) : Prop where
  g : mg x = some (.ref B)
  r : PySem.W.readsIn K B (.type "type") = true
  s : PySem.W.specialIn K (.ref B) "__getattribute__" = some (some (.builtin "type.__getattribute__"))
  f : PySem.W.findCls K (.ref B) (.type "type") "__init__" = some (.val (.builtin "ValueError.__init__"))
theorem hv_init : PySem.W.handedIn (.builtin "ValueError.__init__") = true := by decide +kernel
section
variable {X : Cx} {e : Expr} {es : List Expr} {ta : TA} {p1 p2 pos : Pos} {x : Str} {B : Addr}
/-- B.__init__(self, ..) -/
theorem pe_binit {pl : Sem Bool} (C : BasC X.K X.mg x B) (hg : Gl X x) (hx : (x == ("__debug__" : Str)) = false) (ha : PA X (e :: es) ta)
    (hc : eval (.Call (.Attribute (.Name x p1) "__init__" p2) (e :: es) [] pos) X.env = (do
      let recv ← eval (.Name x p1) X.env
      standAt p2.atName
      let (g, more) ← holding [recv] (getMethod recv "__init__" pl)
      callWith pos g more (backTo pos (starEach (e :: es) X.env)) (backToKw pos (keywordEach [] X.env))) := by rfl)
    (hse : starEach (e :: es) X.env = (false, eval e X.env) :: starEach es X.env := by rfl) (hpl : (backTo pos (starEach es X.env)).any (·.1) = false := by rfl) :
    PE X (.Call (.Attribute (.Name x p1) "__init__" p2) (e :: es) [] pos) (tVeI X.K ta) := by
  constructor
  intro pins s σ H Q I h
  apply PySem.W.methodCall_KW (ld_glob I hg C.g _ hx) hc
  apply PySem.W.method_cls I.kIn C.s
  apply PySem.W.cls_value I.kIn C.r C.f hv_init
  change wpAny _ _ (callWith pos (Value.builtin "ValueError.__init__") [] (backTo pos (starEach (e :: es) X.env)) []) _ _ _
  refine PyProof.Rows.callWith_method1 (thn (ha.run pos pins _ σ H _ (I.tok _) h) ?_) hse hpl
  rintro us s1 ⟨vs, H1, J, r1, a, D, ws, rfl, hl, T, ea, q⟩
  cases r1 with
  | cons ra rw' =>
    rename_i u0 ur
    have eu : u0 = Value.ref a := ra
    rw [eu]
    have hn : ur.length ≤ sizeLine := by rw [← Paired.length rw', sizeLine_eq]; omega
    exact oinit_ok T J ea hn fun s' J' => ⟨.non, H1, J', rfl, q⟩
end

/-- the promise of an error's own __init__ -/
def spI (K : PySem.W.Frag) (C : Addr) (fl : List Str) : Sp := fun vs H Q _ => ∃ (a : Addr) (ws : List V), vs = .ref a :: ws ∧ ws.length = fl.length ∧ H a = some (exo a C none) ∧
  ∀ (d : Addr) (fs : List (Str × V)), H d = none → d ≠ a → (∀ (i : Nat) (f : Str), fl[i]? = some f → fs.lookup f = ws[i]?) → Q .non (upd (upd H d (exd d fs)) a (exo a C (some d)))
/-- what is known of the class number c -/
structure ErrC (P : Program) (w : World) (K : PySem.W.Frag) (mg : Str → Option Value) (base : Heap) (T : ET) (c : Nat) (x : Str) (fI : Addr) (fd : FuncData) (ps : List Str) : Prop where
  g : mg x = some (.ref (T.cls c))
  o : OexC K (T.cls c)
  i : PySem.W.findIn K (.ref (T.cls c)) "__init__" = some (some (.ref fI))
  t : PySem.W.typeIn K (.ref fI) = some (.type "function")
  F : FnOk P w K mg base (L2.CX P w) 1 fI fd ps (spI K (T.cls c) (T.flds c))
  b : Binds K fd ps []
theorem look1 (n : Str) (v : V) : ([(n, v)] : List (Str × V)).lookup n = some v := by simp [List.lookup]
/-- what self.n = n behind B.__init__(self, n) leaves -/
theorem init1_read {K : PySem.W.Frag} {C : Addr} {n : Str} (T : OexC K C) (hno : PySem.W.findIn K (.ref C) n = some none) {vs : List V} {H : Hp} {Q : VK} {E : XK} (h : spI K C [n] vs H Q E) :
    tSeq (tDrop (tVeI K (tCons (tVar 0) (tCons (tVar 1) tNil)))) (tOst K n (tVar 0) (tVar 1)) { nx := fun _ H' => Q .non H', rt := Q } (L2.start ["self", n] vs) H := by
  obtain ⟨a, ws, rfl, hl, ha, q⟩ := h
  match ws, hl with
  | [v], _ =>
    refine ⟨.ref a, rfl, v, rfl, a, C, [v], rfl, (by show 1 ≤ 1000; omega), T, ha, ?_⟩
    refine ⟨v, rfl, .ref a, rfl, a, C, rfl, T, hno, .inl ⟨ha, fun dx hd ne => ?_⟩⟩
    refine q dx [(n, v)] hd ne fun i f e => ?_
    cases i with
    | zero => cases e; exact look1 n v
    | succ i => cases e
theorem spI_len {K : PySem.W.Frag} {C : Addr} {fl ps : List Str} (h : ps.length = fl.length + 1) : ∀ vs H Q E, spI K C fl vs H Q E → vs.length = ps.length := by
  rintro vs H Q E ⟨a, ws, rfl, hl, _⟩
  rw [List.length_cons, hl, h]
/-! ### raise C(..) -/
def mRaise (n c : Nat) (m : MA) : MS := fun ρ S => (mDs m ρ S).bind fun p => if p.1.length = n ∧ p.1.length ≤ 1000 then some (.rt (.exc c p.1), ρ, p.2) else none
def tRaise (W : WX) (t : St → Hp → XK → Prop) : TS := fun _ σ H => t σ H fun cls d H' => W cls d σ H'
theorem imc_raise {K : PySem.W.Frag} {T : ET} {W : WX} {b c n : Nat} {t : TA} {m : MA} (hn : (T.flds c).length = n) (hm : ImA K t m) : ImC K T W b (tRaise W (tMkO (T.cls c) (spI K (T.cls c) (T.flds c)) [] t)) (mRaise n c m) := fun M0 H0 σ H M ρ S o ρ' S' hb hl x0 hs ok e D q => by
  unfold mRaise mDs at e
  cases e1 : m ρ S with
  | none => rw [e1] at e; cases e
  | some p =>
    rw [e1, Option.bind_some] at e
    cases e2 : datas p.1 with
    | none => rw [e2] at e; cases e
    | some ds =>
      rw [e2, Option.map_some, Option.bind_some] at e
      split at e <;> cases e
      rename_i hlen
      rw [← hn] at hlen
      refine hm σ H M ρ S p.1 p.2 hs ok e1 _ fun vs H1 M1 x1 ok1 r1 => ?_
      have r2 := r1.datas e2
      refine ⟨by rw [r2.len]; exact hlen.2, fun a ha => ?_⟩
      refine ⟨a, vs, by rw [List.append_nil], by rw [r2.len]; exact hlen.1, upd_same, fun d fs hd ne hf => ?_⟩
      have hd1 : H1 d = none := by rw [upd_ne ne] at hd; exact hd
      refine ⟨rfl, d, fs, upd_same, by rw [upd_ne ne]; exact upd_same, hd1, ?_⟩
      have eh : upd (del (upd (upd (upd H1 a (exo a (T.cls c) none)) d (exd d fs)) a (exo a (T.cls c) (some d))) a) d (.xd fs) = upd H1 d (.xd fs) := by
        funext z
        by_cases hz : z = d
        · subst hz; rw [upd_same, upd_same]
        · rw [upd_ne hz, upd_ne hz]
          by_cases hza : z = a
          · subst hza; rw [del_same, ha]
          · rw [del_ne hza, upd_ne hza, upd_ne hz, upd_ne hza]
      rw [eh]
      have xn : Ext M1 H1 M1 (upd H1 d (.xd fs)) := Ext.new hd1
      refine q σ d _ M1 (x1.trans xn) (ok1.new hd1) ((hs.mono x1).mono xn) ⟨fs, upd_same, fun i f ei => ?_⟩
      have hi : i < vs.length := by
        rw [r2.len, hlen.1]
        exact (List.getElem?_eq_some_iff.mp ei).1
      obtain ⟨y, ey, ry⟩ := r2.get' (List.getElem?_eq_getElem hi)
      exact ⟨vs[i], y, by rw [hf i f ei, List.getElem?_eq_getElem hi], ey, ry.mono xn⟩
section
variable {ι : Type} {F : Fam ι} {e : Expr} {es : List Expr} {m : MA} {b : Nat} {p p2 pos : Pos}
theorem d_raiseC (n c : Nat) {x : Str} {fI : Addr} {fd : FuncData} {ps : List Str} (hk : 2 ≤ F.k) (hn : (F.T.flds c).length = n) (C : ∀ i, ErrC (F.X i).prog (F.X i).w (F.X i).K (F.X i).mg (F.X i).base F.T c x fI fd ps) (ha : PDA F (e :: es) m)
    (hg : ∀ i, Gl (F.X i) x := by exact fun _ => rfl) (hdb : (x == ("__debug__" : Str)) = false := by decide) (he : ∀ i, starEach (e :: es) (F.X i).env = (false, eval e (F.X i).env) :: starEach es (F.X i).env := by intro _; rfl)
    (hpl : ∀ i, (backTo pos (starEach es (F.X i).env)).any (·.1) = false := by intro _; rfl) : PDS F b (.Raise (some (.Call (.Name x p) (e :: es) [] pos)) none p2) (mRaise n c m) := by
  obtain ⟨t, q1, q2⟩ := ha
  refine ⟨_, fun i => ?_, imc_raise (T := F.T) (W := F.W) hn q2⟩
  have mk := pmk_oex (p := p) (pos := pos) (C i).o (C i).i (C i).t (C i).F ((F.room i).mono hk) (C i).b .nil passL (hg i) (C i).g (q1 i) hdb (he i) (hpl i)
  rw [F.hK i] at mk
  exact ps_raise (F.calm i) (F.tk i) mk
end
end G
set_option Elab.async false
set_option linter.all false
set_option autoImplicit false
set_option maxRecDepth 100000
set_option maxHeartbeats 4000000
/-! try with any number of clauses, each with a name or without one. -/
namespace G
open PySem L2
abbrev Sut := Addr → Value → Option Addr → TS
/-- a clause: its class, the slot of its name, its suite -/
abbrev Clz := Value × Option Nat × Sut
def offD : Option Nat → Ends → Ends
  | none, D => D
  | some i, D => { nx := fun τ J => D.nx (τ.set i none) J, bk := fun τ J => D.bk (τ.set i none) J, ct := fun τ J => D.ct (τ.set i none) J, rt := D.rt }
def onS (a : Addr) : Option Nat → St → St
  | none, τ => τ
  | some i, τ => τ.set i (some (.ref a))
def wCl (K : PySem.W.Frag) (Wo : WX) (D : Ends) : List Clz → WX
  | [] => Wo
  | z :: r => fun cls d τ J => ∃ yes, PySem.W.exmOne K cls z.1 = some yes ∧ (yes = true → ∀ a, J a = none → z.2.2 a cls d (offD z.2.1 D) (onS a z.2.1 τ) J) ∧ (yes = false → wCl K Wo D r cls d τ J)
abbrev SutOk (X : Cx) (sts : List Stmt) (ts : Sut) : Prop := ∀ (a : Addr) (oe : Obj) (cls : Value) (d : Option Addr) (pn : List (Addr × Obj)), Zc cls d oe → (∃ fs, oe.data = .fields fs) → PSs (X.suite a ((a, oe) :: pn)) sts (ts a cls d)
inductive Hds (X : Cx) : List ExceptHandler → List Clz → Prop
  | nil : Hds X [] []
  | plain {x : Str} {c : Value} {ts : Sut} {s₀ : Stmt} {sts : List Stmt} {q₁ q₂ : Pos} {hds : List ExceptHandler} {l : List Clz} (hc : Names X x c) (hu : SutOk X (s₀ :: sts) ts) (r : Hds X hds l) :
      Hds X (.ExceptHandler (some (.Name x q₁)) none (s₀ :: sts) q₂ :: hds) ((c, none, ts) :: l)
  | named {x n : Str} {i : Nat} {c : Value} {ts : Sut} {s₀ : Stmt} {sts : List Stmt} {q₁ q₂ : Pos} {hds : List ExceptHandler} {l : List Clz} (hc : Names X x c) (hN : X.N.Nodup) (hi : X.N[i]? = some n) (hk : X.env.kindOf n = some .local) (hu : SutOk X (s₀ :: sts) ts) (r : Hds X hds l) :
      Hds X (.ExceptHandler (some (.Name x q₁)) (some n) (s₀ :: sts) q₂ :: hds) ((c, some i, ts) :: l)
section
variable {X : Cx} {pins : List (Addr × Obj)} {σ : St} {H : Hp} {D : Ends} {Wo : WX} {a : Addr} {cls : Value} {d : Option Addr} {B : Heap} {sI : Shared}
/-- an error that is looked at, clause by clause -/
theorem clauses (ok : X.Ok) (hs : X.stack = X.env :: X.outer) (hf : X.env.frame = some X.env.locals) (tk : Takes X Wo) (J : Inv X pins σ H sI) (nb : ∀ b o, sI.heap.get? b = some o → b ∉ frs X.stack → B.get? b = some o) (na : H a = none) (nL : a ≠ X.env.locals) (nF : a ∉ X.fs)
    {s : Shared} (fl : HandSPX.FlyingZ B (X.env :: X.outer) a (Zc cls d) s.heap) (up : sI.heap.UpToSlots s.heap) (os : s.os = sI.os) (ag : PyProof.Rows.AllBare s.gens) :
    ∀ {hds : List ExceptHandler} {l : List Clz}, Hds X hds l → wCl X.K Wo D l cls d σ H → wpAny (model X.prog X.w) X.A (handleBy (.ref a) X.env hds) (SP X pins D) X.xe s := by
  have JJ : ∀ {h' : Heap}, HandSPX.FlyingZ B (X.env :: X.outer) a (Zc cls d) h' → s.heap.UpToSlots h' → Inv X pins σ H { s with heap := h' } := fun f u => J.landed nb f.1 (up.trans u) os ag
  have J0 : Inv X pins σ H s := J.landed nb fl.1 up os ag
  obtain ⟨oe, fv, hget, hzc, hdat⟩ := fl.there
  have Su := J0.suite hget hdat na nL nF
  intro hds l hk
  induction hk with
  | nil =>
    intro w
    apply wpAny_handleBy_nil
    obtain ⟨_, _, _, ob, va, tb, ot, vt, g1, _, g2, g3, _⟩ := id fl
    unfold PySem.passOn
    apply wpAny_bind
    apply wpAny_field g1 g2 g3
    rw [if_neg (by simp)]
    have out : wpAny (model X.prog X.w) X.A (setFlight (.ref a) X.env.frame) (fun _ s4 => wpAny (model X.prog X.w) X.A (throw (.ref a) : Sem Flow) (SP X pins D) X.xe s4) X.xe s := by
      rw [hf]
      exact HandSPX.setFlight_upZ fl fun h4 hh up4 => wpAny_throw (tk _ _ ⟨a, B, sI, pins, σ, H, cls, d, rfl, J, nb, up.trans up4, .inr (.inr (by rw [hs]; exact hh)), na, os, ag, w⟩)
    first
      | exact wpAny_bind out
      | exact wpAny_bind (wpAny_pure (wpAny_bind out))
  | @plain x c ts s₀ sts q₁ q₂ hds2 l2 hc hu r ih =>
    rintro ⟨yes, e1, hy, hn⟩
    apply wpAny_handleBy_cons (codeAny_handlers_test _) (by rintro ⟨⟩)
    have lt : PySem.W.Looks (model X.prog X.w) s.heap (typeOf (.ref a)) cls := fun A' Q' E' s' k' q' => wpAny_typeOf_ref (k' _ _ hget) (by rw [hzc.1]; exact q')
    have lm := PySem.W.exm_one (M := model X.prog X.w) J0.kIn lt e1
    have nm : ∀ {Q : Value → Shared → Prop} {E : Value → Shared → Prop}, Q c s → wpAny (model X.prog X.w) (X.A.mark (some (.ref a))) (eval (.Name x q₁) X.env) Q E s := by
      intro Q E q
      rcases hc with ⟨hg, hb, hm | ⟨hm, hv, hq⟩⟩
      · exact ld_glob (X := X.suite a ((a, oe) :: (X.pn ++ pins))) Su hg hm q hb
      · exact ld_blt (X := X.suite a ((a, oe) :: (X.pn ++ pins))) Su hg hm hv q hq hb
    apply nm
    apply lm.here
    cases yes with
    | false => exact ih (hn rfl)
    | true =>
      apply codeAny_handlers_suite
      apply HandSPX.lands_againZ fl
      intro h4 f4 u4
      obtain ⟨oe4, fv4, hg4, hz4, hd4⟩ := f4.there
      have S4 := (JJ f4 u4).suite hg4 hd4 na nL nF
      refine wpAny_mono ((hu a oe4 cls d (X.pn ++ pins) hz4 ⟨_, hd4⟩).run [] _ _ H _ S4 (hy rfl a na)) (fun f s6 h6 => ?_) fun _ _ z => z.elim
      cases f with
      | next => obtain ⟨τ, G, S6, q6⟩ := h6; exact ⟨τ, G, S6.unsuite ok, q6⟩
      | brk => obtain ⟨τ, G, S6, q6⟩ := h6; exact ⟨τ, G, S6.unsuite ok, q6⟩
      | cont => obtain ⟨τ, G, S6, q6⟩ := h6; exact ⟨τ, G, S6.unsuite ok, q6⟩
      | ret u => obtain ⟨v, τ, G, S6, rv, q6⟩ := h6; exact ⟨v, τ, G, S6.unsuite ok, rv, q6⟩
  | @named x n i c ts s₀ sts q₁ q₂ hds2 l2 hc hN hi hln hu r ih =>
    rintro ⟨yes, e1, hy, hn⟩
    apply wpAny_handleBy_cons (codeAny_handlers_test _) (by rintro ⟨⟩)
    have lt : PySem.W.Looks (model X.prog X.w) s.heap (typeOf (.ref a)) cls := fun A' Q' E' s' k' q' => wpAny_typeOf_ref (k' _ _ hget) (by rw [hzc.1]; exact q')
    have lm := PySem.W.exm_one (M := model X.prog X.w) J0.kIn lt e1
    have nm : ∀ {Q : Value → Shared → Prop} {E : Value → Shared → Prop}, Q c s → wpAny (model X.prog X.w) (X.A.mark (some (.ref a))) (eval (.Name x q₁) X.env) Q E s := by
      intro Q E q
      rcases hc with ⟨hg, hb, hm | ⟨hm, hv, hq⟩⟩
      · exact ld_glob (X := X.suite a ((a, oe) :: (X.pn ++ pins))) Su hg hm q hb
      · exact ld_blt (X := X.suite a ((a, oe) :: (X.pn ++ pins))) Su hg hm hv q hq hb
    apply nm
    apply lm.here
    cases yes with
    | false => exact ih (hn rfl)
    | true =>
      apply codeAny_handlers_suite_as
      apply HandSPX.lands_againZ fl
      intro h4 f4 u4
      obtain ⟨oe4, fv4, hg4, hz4, hd4⟩ := f4.there
      have S4 := (JJ f4 u4).suite hg4 hd4 na nL nF
      refine store_ok (X := X.suite a ((a, oe4) :: (X.pn ++ pins))) (v := .ref a) S4 hN hi (.inl hln) rfl (fun s5 S5 => ?_) (.inr hln)
      refine wpAny_mono ((hu a oe4 cls d (X.pn ++ pins) hz4 ⟨_, hd4⟩).run [] s5 _ H _ S5 (hy rfl a na)) (fun f s6 h6 => ?_) fun _ _ z => z.elim
      cases f with
      | next => obtain ⟨τ, G, S6, q6⟩ := h6; exact gone_ok (S6.unsuite ok) hN hi hln fun s7 J7 => ⟨_, G, J7, q6⟩
      | brk => obtain ⟨τ, G, S6, q6⟩ := h6; exact gone_ok (S6.unsuite ok) hN hi hln fun s7 J7 => ⟨_, G, J7, q6⟩
      | cont => obtain ⟨τ, G, S6, q6⟩ := h6; exact gone_ok (S6.unsuite ok) hN hi hln fun s7 J7 => ⟨_, G, J7, q6⟩
      | ret u => obtain ⟨v, τ, G, S6, rv, q6⟩ := h6; exact gone_ok (S6.unsuite ok) hN hi hln fun s7 J7 => ⟨v, _, G, J7, rv, q6⟩
end
section
variable {X : Cx} {body : List Stmt} {h₀ : ExceptHandler} {hds : List ExceptHandler} {l : List Clz} {pos : Pos} {tb : WX → TS} {Wo : WX}
theorem ps_tryC (hs : X.stack = X.env :: X.outer) (hf : X.env.frame = some X.env.locals) (tk : Takes X Wo)
    (hb : ∀ (V : WX) (pl : List (Addr × Obj)) (we : Value → Shared → Prop), Takes (X.tr pl we) V → PassesOwn (model X.prog X.w) X.A X.env we → PSs (X.tr pl we) body (tb V))
    (hh : Hds X (h₀ :: hds) l) : PS X (.Try body (h₀ :: hds) [] [] pos) (fun D σ H => tb (wCl X.K Wo D l) D σ H) := by
  constructor
  intro pins s σ H D I h
  have ok := I.ok
  have frm : X.A.frames = some (X.env :: X.outer) := by rw [ok.frames, hs]
  apply wpAny_Try_except
  have bd := hb (wCl X.K Wo D l) (X.pn ++ pins) (fun e s₁ => wpAny (model X.prog X.w) X.A (noteFrame e X.env) (fun _ s₂ => wpAny (model X.prog X.w) X.A (setFlight e none) (fun _ s₃ => wpAny (model X.prog X.w) X.A (handleBy e X.env (h₀ :: hds)) (SP X pins D) X.xe s₃) X.xe s₂) X.xe s₁) (fun u s' xx => by
    obtain ⟨a, B, sI, pins', τ, G, cls, d, rfl, J', nb, up, sky, na, os, ag, w⟩ := xx
    have J : Inv X pins τ G sI := J'.ofTry ok
    have sky : Sky B (X.env :: X.outer) a (Zc cls d) X.env.locals s'.heap := by rw [← hs]; exact sky
    change wpAny (model X.prog X.w) X.A (noteFrame (Value.ref a) X.env) _ _ _
    apply Sky.land Zc.steady frm hf sky
    intro h3 fl up3
    obtain ⟨oe, fv, hget, hz, hd⟩ := fl.there
    have nfr : a ∉ frs (X.env :: X.outer) := fun hm => by
      obtain ⟨_, o', e', hnf⟩ := fl.2.2.1.mem hm
      rw [hget] at e'
      cases e'
      exact hnf _ hd
    refine clauses (s := { s' with heap := h3 }) ok hs hf tk J nb na (fun z => nfr (List.mem_filterMap.mpr ⟨X.env, List.mem_cons_self, by rw [hf, z]⟩)) (fun hm => ?_) fl (up.trans up3) os ag hh w
    obtain ⟨en, he, q⟩ := List.mem_filterMap.mp hm
    exact nfr (List.mem_filterMap.mpr ⟨en, List.mem_cons_of_mem _ he, q⟩)) PassesOwn.looking
  refine wpAny_mono (bd.run [] s σ H D (I.toTry _) h) (fun f s1 hsp => ?_) fun _ _ he => he
  cases f with
  | next => obtain ⟨τ, G, J', q⟩ := hsp; exact wpAny_execs_nil ⟨τ, G, J'.ofTry ok, q⟩
  | brk => obtain ⟨τ, G, J', q⟩ := hsp; exact ⟨τ, G, J'.ofTry ok, q⟩
  | cont => obtain ⟨τ, G, J', q⟩ := hsp; exact ⟨τ, G, J'.ofTry ok, q⟩
  | ret u => obtain ⟨v, τ, G, J', r, q⟩ := hsp; exact ⟨v, τ, G, J'.ofTry ok, r, q⟩
end
end G
set_option Elab.async false
set_option linter.all false
set_option autoImplicit false
set_option maxRecDepth 100000
set_option maxHeartbeats 4000000
/-! Expressions and statements that errors may leave; suites. -/
namespace G
open PySem L2
abbrev MXR := Rho → Sto → Option (Rt × Sto)
def PostX (K : PySem.W.Frag) (T : ET) (W : WX) (M : Adr) (H : Hp) (σ : St) (S' : Sto) (Q : VK) : Rt → Prop
  | .val d => PE1 K M H S' d Q
  | .new ds => ∀ a vs H' M', Ext M H M' H' → Ok K M' S' H' → H a = none → H' a = some (.lst vs) → a ∈ M'.g → RlA K M' H' vs ds → Q (.ref a) H'
  | .exc c x => ∀ dd H' M', Ext M H M' H' → Ok K M' S' H' → XdR K M' H' dd (T.flds c) x → W (.ref (T.cls c)) (some dd) σ H'
def ImX (K : PySem.W.Frag) (T : ET) (W : WX) (t : TE) (m : MXR) : Prop := ∀ (σ : St) (H : Hp) (M : Adr) (ρ : Rho) (S : Sto) (r : Rt) (S' : Sto), RSt K M H σ ρ → Ok K M S H → m ρ S = some (r, S') → ∀ Q : VK, PostX K T W M H σ S' Q r → t σ H Q
section
variable {T : ET} {W : WX} {K : PySem.W.Frag} {M M' : Adr} {H H' : Hp} {S S' : Sto} {t u te : TE} {me : ME} {mn : MN} {mx my : MXR} {b : Nat} {σ : St} {Q : VK}
theorem PostX.ext {r : Rt} (q : PostX K T W M H σ S' Q r) (x : Ext M H M' H') : PostX K T W M' H' σ S' Q r := by
  cases r with
  | val d => exact fun v H2 M2 y ok r => q v H2 M2 (x.trans y) ok r
  | new ds => exact fun a vs H2 M2 y ok n => q a vs H2 M2 (x.trans y) ok (x.free a n)
  | exc c z => exact fun dd H2 M2 y ok r => q dd H2 M2 (x.trans y) ok r
def mXE (m : ME) : MXR := fun ρ S => (m ρ S).map fun p => (.val p.1, p.2)
theorem imx_e (h : ImE K t me) : ImX K T W t (mXE me) := fun σ H M ρ S r S' hs ok e Q q => by
  unfold mXE at e
  cases e1 : me ρ S with
  | none => rw [e1] at e; cases e
  | some p => rw [e1] at e; cases e; exact h σ H M ρ S _ _ hs ok e1 Q q
def mXN (m : MN) : MXR := fun ρ S => (m ρ S).map fun p => (.new p.1, p.2)
theorem imx_n (h : ImN K t mn) : ImX K T W t (mXN mn) := fun σ H M ρ S r S' hs ok e Q q => by
  unfold mXN at e
  cases e1 : mn ρ S with
  | none => rw [e1] at e; cases e
  | some p => rw [e1] at e; cases e; exact h σ H M ρ S _ _ hs ok e1 Q q
def mCallX (np : Nat) (g : Fn) (m : MA) : MXR := fun ρ S => (m ρ S).bind fun p => if p.1.length = np then g p.1 p.2 else none
theorem imx_call {g : Fn} {np : Nat} {ta : TA} {m : MA} (h : ImA K ta m) : ImX K T W (tCallS (spD K T np g) (WE W) ta) (mCallX np g m) := fun σ H M ρ S r S' hs ok e Q q => by
  unfold mCallX at e
  cases e1 : m ρ S with
  | none => rw [e1] at e; cases e
  | some p =>
    rw [e1, Option.bind_some] at e
    split at e <;> first | (cases e; done) | skip
    rename_i hnp
    refine h σ H M ρ S p.1 p.2 hs ok e1 _ fun vs H1 M1 x1 ok1 r1 => ?_
    refine ⟨by rw [r1.len]; exact hnp, M1, p.2, p.1, r, S', ok1, r1, e, ?_⟩
    cases r with
    | val d => exact fun v H2 M2 x2 ok2 r2 => q v H2 M2 (x1.trans x2) ok2 r2
    | new ds => exact fun a ws H2 M2 x2 ok2 n0 n1 n2 r2 => q a ws H2 M2 (x1.trans x2) ok2 (x1.free a n0) n1 n2 r2
    | exc c z => exact fun dd H2 M2 x2 ok2 r2 => q dd H2 M2 (x1.trans x2) ok2 r2
/-- a if c else b -/
def mIfX (c : MT) (a d : MXR) : MXR := fun ρ S => (c ρ S).bind fun p => if p.1 then a ρ p.2 else d ρ p.2
theorem imx_if {tc : TT} {c : MT} (hc : ImT K tc c) (h1 : ImX K T W t mx) (h2 : ImX K T W u my) : ImX K T W (tIf tc t u) (mIfX c mx my) := fun σ H M ρ S r S' hs ok e Q q => by
  unfold mIfX at e
  cases e1 : c ρ S with
  | none => rw [e1] at e; cases e
  | some p =>
    rw [e1, Option.bind_some] at e
    obtain ⟨y, S1⟩ := p
    refine hc σ H M ρ S _ _ hs ok e1 _ fun H1 M1 x1 ok1 => ?_
    cases y with
    | true => exact h1 σ H1 M1 ρ S1 r S' (hs.mono x1) ok1 e Q (q.ext x1)
    | false => exact h2 σ H1 M1 ρ S1 r S' (hs.mono x1) ok1 e Q (q.ext x1)
/-- no error: as data -/
theorem postx_d {r : Rt} {d : D} (ok : Ok K M S H) (hr : rtE r = some d) (q : PE1 K M H S' d Q) : PostX K T W M H σ S' Q r := by
  cases r with
  | val y => cases hr; exact q
  | exc c x => cases hr
  | new ds =>
    cases hr
    intro a vs H2 M2 x2 ok2 n0 n1 n2 r2
    exact q _ H2 (M2.ug M) x2.ungh (ok2.ug x2.gk) (.lst (.inl ⟨.inl n1, fun z => z.elim (fun z => ok2.dj a z n2) fun z => ok.notin n0 (.inr z)⟩) (r2.anti fun _ z => x2.ugmem z))
theorem rtE_or (r : Rt) : (∃ c x, r = .exc c x) ∨ ∃ d, rtE r = some d := by
  cases r with
  | val d => exact .inr ⟨d, rfl⟩
  | new d => exact .inr ⟨_, rfl⟩
  | exc c x => exact .inl ⟨c, x, rfl⟩
/-- what comes of a result: an error goes on, data is used -/
def xk {α : Type} (f : D → Option α) (g : Nat → List D → Option α) (r : Rt) : Option α := match r with
  | .exc c x => g c x
  | .val d => f d
  | .new ds => f (.list ds)
theorem xk_d {α : Type} {f : D → Option α} {g : Nat → List D → Option α} {r : Rt} {d : D} (h : rtE r = some d) : xk f g r = f d := by
  cases r <;> cases h <;> rfl
theorem tru_v {v : V} {d : D} {y : Bool} (r : Rl K M H v d) (e : tru d = some y) : TruV K v H y := by
  cases r with
  | non => cases e; rfl
  | bl c => cases e; rfl
  | int i => cases e; rfl
  | str s => cases e
  | lst h1 h2 => cases e; exact .inl ⟨_, h1.sql, h2.emp.symm⟩
  | tup h1 h2 => cases e; exact .inr (.inl ⟨_, h1, h2.emp.symm⟩)
def mOrXX (a : MXR) (d : ME) : MXR := fun ρ S => (a ρ S).bind fun p => xk (fun z => (tru z).bind fun y => if y then some (.val z, p.2) else (d ρ p.2).map fun q => (.val q.1, q.2)) (fun c x => some (.exc c x, p.2)) p.1
theorem imx_or (h : ImX K T W t mx) (h2 : ImE K te me) : ImX K T W (tOrT K t te) (mOrXX mx me) := fun σ H M ρ S r S' hs ok e Q q => by
  unfold mOrXX at e
  cases e1 : mx ρ S with
  | none => rw [e1] at e; cases e
  | some p =>
    rw [e1, Option.bind_some] at e
    obtain ⟨r1, S1⟩ := p
    refine h σ H M ρ S r1 S1 hs ok e1 _ ?_
    rcases rtE_or r1 with ⟨c, x, rfl⟩ | ⟨d, hd⟩
    · cases e
      exact q
    · rw [xk_d hd] at e
      refine postx_d ok hd fun v H1 M1 x1 ok1 rv => ?_
      cases e2 : tru d with
      | none => rw [e2] at e; cases e
      | some y =>
        rw [e2, Option.bind_some] at e
        refine ⟨y, tru_v rv e2, ?_⟩
        cases y with
        | true => cases e; rw [if_pos rfl]; exact q v H1 M1 x1 ok1 rv
        | false =>
          rw [if_neg Bool.false_ne_true] at e ⊢
          cases e3 : me ρ S1 with
          | none => rw [e3] at e; cases e
          | some p3 => rw [e3] at e; cases e; exact h2 σ H1 M1 ρ S1 _ _ (hs.mono x1) ok1 e3 Q fun v2 H2 M2 x2 ok2 r2 => q v2 H2 M2 (x1.trans x2) ok2 r2
/-! ### statements -/
def mDropX (m : MXR) : MS := fun ρ S => (m ρ S).bind fun p => xk (fun _ => some (.nx, ρ, p.2)) (fun c x => some (.rt (.exc c x), ρ, p.2)) p.1
theorem imc_dropX (h : ImX K T W t mx) : ImC K T W b (tDrop t) (mDropX mx) := fun M0 H0 σ H M ρ S o ρ' S' hb hl x0 hs ok e D q => by
  unfold mDropX at e
  cases e1 : mx ρ S with
  | none => rw [e1] at e; cases e
  | some p =>
    rw [e1, Option.bind_some] at e
    obtain ⟨r1, S1⟩ := p
    refine h σ H M ρ S r1 S1 hs ok e1 _ ?_
    rcases rtE_or r1 with ⟨c, x, rfl⟩ | ⟨d, hd⟩
    · cases e
      exact fun dd H1 M1 x1 ok1 r => q σ dd H1 M1 x1 ok1 (hs.mono x1) r
    · rw [xk_d hd] at e
      cases e
      exact postx_d ok hd fun v H1 M1 x1 ok1 rv => q σ H1 M1 x1 ok1 (hs.mono x1)
def mRetX (m : MXR) : MS := fun ρ S => (m ρ S).map fun p => (.rt p.1, ρ, p.2)
theorem imc_retX (h : ImX K T W t mx) : ImC K T W b (tRet t) (mRetX mx) := fun M0 H0 σ H M ρ S o ρ' S' hb hl x0 hs ok e D q => by
  unfold mRetX at e
  cases e1 : mx ρ S with
  | none => rw [e1] at e; cases e
  | some p =>
    rw [e1] at e
    cases e
    refine h σ H M ρ S p.1 p.2 hs ok e1 _ ?_
    obtain ⟨r, S1⟩ := p
    cases r with
    | val d => exact fun v H1 M1 x1 ok1 r1 => q v H1 M1 x1 ok1 (r1.anti fun _ => Adr.tkmem)
    | new ds => exact fun a vs H1 M1 x1 ok1 n0 n1 n2 r1 => q _ H1 M1 x1 ok1 ⟨a, vs, rfl, x0.free a n0, n1, .inr n2, fun z => ok1.dj a (List.mem_of_mem_take z) n2, r1⟩
    | exc c x => exact fun dd H1 M1 x1 ok1 r => q σ dd H1 M1 x1 ok1 (hs.mono x1) r
def mAsgX (m : MXR) (g : MG) : MS := fun ρ S => (m ρ S).bind fun p => xk (fun d => (g d ρ).map fun ρ1 => (.nx, ρ1, p.2)) (fun c x => some (.rt (.exc c x), ρ, p.2)) p.1
theorem imc_asgX {tg : TG} {g : MG} (h : ImX K T W t mx) (hg : ImG K tg g) : ImC K T W b (tAsg t tg) (mAsgX mx g) := fun M0 H0 σ H M ρ S o ρ' S' hb hl x0 hs ok e D q => by
  unfold mAsgX at e
  cases e1 : mx ρ S with
  | none => rw [e1] at e; cases e
  | some p =>
    rw [e1, Option.bind_some] at e
    obtain ⟨r1, S1⟩ := p
    refine h σ H M ρ S r1 S1 hs ok e1 _ ?_
    rcases rtE_or r1 with ⟨c, x, rfl⟩ | ⟨d, hd⟩
    · cases e
      exact fun dd H1 M1 x1 ok1 r => q σ dd H1 M1 x1 ok1 (hs.mono x1) r
    · rw [xk_d hd] at e
      cases e2 : g d ρ with
      | none => rw [e2] at e; cases e
      | some ρ1 =>
        rw [e2] at e
        cases e
        exact postx_d ok hd fun v H1 M1 x1 ok1 rv => hg σ H1 M1 ρ ρ' v d (hs.mono x1) rv e2 _ fun σ' hs' => q σ' H1 M1 x1 ok1 hs'
end
section
variable {ι : Type} {F : Fam ι} {a e c : Expr} {es : List Expr} {ma mb me : ME} {mn : MN} {mx my : MXR} {mt : MT} {m : MA} {pos p2 : Pos} {b : Nat}
def PDX (F : Fam ι) (e : Expr) (m : MXR) : Prop := ∃ t, (∀ i, PE (F.X i) e t) ∧ ImX F.K F.T F.W t m
theorem d_xe (h : PDE F e me) : PDX F e (mXE me) := let ⟨t, p, q⟩ := h; ⟨t, p, imx_e q⟩
theorem d_xn (h : PDN F e mn) : PDX F e (mXN mn) := let ⟨t, p, q⟩ := h; ⟨t, p, imx_n q⟩
theorem d_callX {x : Str} {px : Pos} {f : Addr} {fd : FuncData} {ps : List Str} {np : Nat} {g : Fn} (hG : ∀ i, FnOk (F.X i).prog (F.X i).w (F.X i).K (F.X i).mg (F.X i).base (L2.CX (F.X i).prog (F.X i).w) F.k f fd ps (spD F.K F.T np g)) (hm : ∀ i, (F.X i).mg x = some (.ref f)) (hk : PySem.W.keepIn F.K (.ref f) = true) (hb : Binds F.K fd ps [])
    (ha : PDA F (e :: es) m) (hg : ∀ i, Gl (F.X i) x := by exact fun _ => rfl) (hdb : (x == ("__debug__" : Str)) = false := by decide) (he : ∀ i, starEach (e :: es) (F.X i).env = (false, eval e (F.X i).env) :: starEach es (F.X i).env := by intro _; rfl)
    (hpl : ∀ i, (backTo pos (starEach es (F.X i).env)).any (·.1) = false := by intro _; rfl) : PDX F (.Call (.Name x px) (e :: es) [] pos) (mCallX np g m) := by
  obtain ⟨t, p, q⟩ := ha
  exact ⟨_, fun i => pe_callS (hG i) (F.room i) (hg i) (hm i) (by rw [F.hK i]; exact hk) (by rw [F.hK i]; exact hb) (fun σ => passAt (F.tk i) σ) (p i) hdb (he i) (hpl i), imx_call q⟩
theorem d_ifX (h : PDT F c mt) (h1 : PDX F a mx) (h2 : PDX F e my) : PDX F (.IfExp c a e pos) (mIfX mt mx my) := by
  obtain ⟨t, p, q⟩ := h
  obtain ⟨t1, p1, q1⟩ := h1
  obtain ⟨t2, p2, q2⟩ := h2
  exact ⟨_, fun i => pe_ifExp (p i) (p1 i) (p2 i), imx_if q q1 q2⟩
theorem d_orX (h : PDX F a mx) (h2 : PDE F (.BoolOp .Or [e] pos) me) : PDX F (.BoolOp .Or [a, e] pos) (mOrXX mx me) := by
  obtain ⟨t, p, q⟩ := h
  obtain ⟨t2, p2, q2⟩ := h2
  exact ⟨_, fun i => by have := pe_orT (p i) (p2 i); rw [F.hK i] at this; exact this, imx_or q q2⟩
theorem d_exprX (h : PDX F e mx) (hs : ∀ i, swapsWith e none pos.line (F.X i).env = pure false := by intro _; rfl) : PDS F b (.Expr e pos) (mDropX mx) := by
  obtain ⟨t, p, q⟩ := h
  exact ⟨_, fun i => ps_expr (p i) (hs i), imc_dropX q⟩
theorem d_retX (h : PDX F e mx) : PDS F b (.Return (some e) pos) (mRetX mx) := by
  obtain ⟨t, p, q⟩ := h
  exact ⟨_, fun i => ps_ret (p i), imc_retX q⟩
theorem d_setX (j : Nat) {x : Str} {px : Pos} (h : PDX F e mx) (hi : ∀ i, (F.X i).N[j]? = some x := by exact fun _ => rfl) (hx : ∀ i, Loc (F.X i).env.scope x := by first | exact fun _ => Or.inl rfl | exact fun _ => Or.inr rfl) (hs : ∀ i, swapsWith e (some (.Name x px)) pos.line (F.X i).env = pure false := by intro _; rfl)
    (hf : ∀ i, (F.X i).fn x = true ∨ (F.X i).env.scope.names.lookup x = some .local := by first | exact fun _ => .inl rfl | exact fun _ => .inr rfl) : PDS F b (.Assign [.Name x px] e pos) (mAsgX mx (mgN j)) := by
  obtain ⟨t, p, q⟩ := h
  exact ⟨_, fun i => ps_set (F.nd i) (hi i) (hx i) (p i) (hs i) (hf i), imc_asgX q (img_n j)⟩
end
end G
set_option Elab.async false
set_option linter.all false
set_option autoImplicit false
set_option maxRecDepth 100000
set_option maxHeartbeats 4000000
/-! Suites: the error that is held, its fields, its classes; try. -/
namespace G
open PySem L2
/-- what a suite knows: the error at a in slot i, its own dict at dd -/
def Hld (K : PySem.W.Frag) (T : ET) (o : Option Nat) (a dd : Addr) (c : Nat) (x : List D) (M : Adr) (H : Hp) (σ : St) : Prop := XdR K M H dd (T.flds c) x ∧ ∀ i, o = some i → σ[i]? = some (some (.ref a))
abbrev PP := Adr → Hp → St → Prop
def Pers (P : PP) : Prop := ∀ M H M' H' σ, Ext M H M' H' → P M H σ → P M' H' σ
def EPp (P : PP) (K : PySem.W.Frag) (t : TE) (m : ME) : Prop := ∀ (σ : St) (H : Hp) (M : Adr) (ρ : Rho) (S : Sto) (d : D) (S' : Sto), P M H σ → RSt K M H σ ρ → Ok K M S H → m ρ S = some (d, S') → ∀ Q : VK, PE1 K M H S' d Q → t σ H Q
def TPp (P : PP) (K : PySem.W.Frag) (t : TT) (m : MT) : Prop := ∀ (σ : St) (H : Hp) (M : Adr) (ρ : Rho) (S : Sto) (d : Bool) (S' : Sto), P M H σ → RSt K M H σ ρ → Ok K M S H → m ρ S = some (d, S') → ∀ Q : Bool → Hp → Prop, (∀ H' M', Ext M H M' H' → Ok K M' S' H' → Q d H') → t σ H Q
def APp (P : PP) (K : PySem.W.Frag) (t : TA) (m : MA) : Prop := ∀ (σ : St) (H : Hp) (M : Adr) (ρ : Rho) (S : Sto) (xs : List Sl) (S' : Sto), P M H σ → RSt K M H σ ρ → Ok K M S H → m ρ S = some (xs, S') → ∀ Q : List V → Hp → Prop, (∀ vs H' M', Ext M H M' H' → Ok K M' S' H' → RSlA K M' H' vs xs → Q vs H') → t σ H Q
def CPp (P : PP) (K : PySem.W.Frag) (T : ET) (W : WX) (b : Nat) (t : TS) (m : MS) : Prop := ∀ (M0 : Adr) (H0 : Hp) (σ : St) (H : Hp) (M : Adr) (ρ : Rho) (S : Sto) (o : Out) (ρ' : Rho) (S' : Sto), P M H σ → M0.c.length = b → (∀ a, M0.mem a → ∃ vs, H0 a = some (.lst vs)) → Ext M0 H0 M H → RSt K M H σ ρ → Ok K M S H → m ρ S = some (o, ρ', S') →
  ∀ D : Ends, PostC K T W b H0 M H D o ρ' S' → t D σ H
section
variable {P : PP} {K : PySem.W.Frag} {T : ET} {W : WX} {M : Adr} {H : Hp} {S : Sto} {b : Nat} {te tf : TE} {me mf : ME} {ta : TA} {ma : MA} {tt tu : TT} {mt mu : MT} {ts us : TS} {ms ns : MS}
theorem hld_pers {i : Option Nat} {a dd : Addr} {c : Nat} {x : List D} : Pers (Hld K T i a dd c x) := fun _ _ _ _ _ y h => ⟨h.1.mono y, h.2⟩
theorem ep_of (h : ImE K te me) : EPp P K te me := fun σ H M ρ S d S' _ hs ok e Q q => h σ H M ρ S d S' hs ok e Q q
theorem tp_of (h : ImT K tt mt) : TPp P K tt mt := fun σ H M ρ S d S' _ hs ok e Q q => h σ H M ρ S d S' hs ok e Q q
theorem ap_0 : APp P K tNil mA0 := fun σ H M ρ S d S' _ hs ok e Q q => im_a0 σ H M ρ S d S' hs ok e Q q
theorem ap_1 (hp : Pers P) (h : EPp P K te me) (h2 : APp P K ta ma) : APp P K (tCons te ta) (mA1 me ma) := fun σ H M ρ S o S' p hs ok e Q q => by
  unfold mA1 at e
  cases e1 : me ρ S with
  | none => rw [e1] at e; cases e
  | some z =>
    rw [e1, Option.bind_some] at e
    cases e2 : ma ρ z.2 with
    | none => rw [e2] at e; cases e
    | some l =>
      rw [e2] at e
      cases e
      refine h σ H M ρ S z.1 z.2 p hs ok e1 _ fun y H1 M1 x1 ok1 r1 => ?_
      refine h2 σ H1 M1 ρ _ l.1 l.2 (hp _ _ _ _ _ x1 p) (hs.mono x1) ok1 e2 _ fun vs H2 M2 x2 ok2 r2 => ?_
      exact q _ H2 M2 (x1.trans x2) ok2 (.cons (show Rl K M2 H2 y z.1 from r1.mono x2) r2)
theorem mDs_p (ht : APp P K ta ma) {σ : St} {ρ : Rho} {ds : List D} {S' : Sto} (p : P M H σ) (hs : RSt K M H σ ρ) (ok : Ok K M S H) (e : mDs ma ρ S = some (ds, S')) {Q : List V → Hp → Prop}
    (q : ∀ vs H' M', Ext M H M' H' → Ok K M' S' H' → RlA K M' H' vs ds → Q vs H') : ta σ H Q := by
  unfold mDs at e
  cases e1 : ma ρ S with
  | none => rw [e1] at e; cases e
  | some z =>
    rw [e1, Option.bind_some] at e
    cases e2 : datas z.1 with
    | none => rw [e2] at e; cases e
    | some es =>
      rw [e2] at e
      cases e
      exact ht σ H M ρ S z.1 z.2 p hs ok e1 Q fun vs H' M' x ok' r => q vs H' M' x ok' (r.datas e2)
theorem ep_tup (ht : APp P K ta ma) : EPp P K (tTup ta) (mTup ma) := fun σ H M ρ S o S' p hs ok e Q q => by
  unfold mTup at e
  cases e1 : mDs ma ρ S with
  | none => rw [e1] at e; cases e
  | some z =>
    rw [e1, Option.bind_some] at e
    split at e <;> cases e
    rename_i hz
    refine mDs_p ht p hs ok e1 fun vs H1 M1 x1 ok1 r1 => ⟨Nat.le_trans (by rw [r1.len]; exact hz) big, fun u hu => ?_⟩
    exact q _ _ M1 (x1.trans (Ext.new hu)) (ok1.new hu) (.tup (.inl (.inl upd_same)) (r1.mono (Ext.new hu)))
/-- a list is data here -/
theorem ep_lst (ht : APp P K ta ma) : EPp P K (tLst ta) (mEN (mLst ma)) := fun σ H M ρ S o S' p hs ok e Q q => by
  unfold mEN mLst at e
  cases e1 : mDs ma ρ S with
  | none => rw [e1] at e; cases e
  | some z =>
    rw [e1, Option.bind_some] at e
    split at e <;> cases e
    rename_i hz
    refine mDs_p ht p hs ok e1 fun vs H1 M1 x1 ok1 r1 => ⟨Nat.le_trans (by rw [r1.len]; exact hz) big, fun u hu => ?_⟩
    have xn : Ext M1 H1 M1 (upd H1 u (.lst vs)) := Ext.new hu
    exact q _ _ M1 (x1.trans xn) (ok1.new hu) (.lst (.inl ⟨.inl upd_same, fun z => ok1.notin hu z⟩) (r1.mono xn))
theorem ep_if (hp : Pers P) (hc : TPp P K tt mt) (h1 : EPp P K te me) (h2 : EPp P K tf mf) : EPp P K (tIf tt te tf) (mIf mt me mf) := fun σ H M ρ S d S' p hs ok e Q q => by
  unfold mIf at e
  cases e1 : mt ρ S with
  | none => rw [e1] at e; cases e
  | some z =>
    rw [e1, Option.bind_some] at e
    obtain ⟨y, S1⟩ := z
    refine hc σ H M ρ S _ _ p hs ok e1 _ fun H1 M1 x1 ok1 => ?_
    have p1 := hp _ _ _ _ _ x1 p
    cases y with
    | true => exact h1 σ H1 M1 ρ S1 d S' p1 (hs.mono x1) ok1 e Q (q.ext x1)
    | false => exact h2 σ H1 M1 ρ S1 d S' p1 (hs.mono x1) ok1 e Q (q.ext x1)
/-- a test by a value True or False -/
theorem tp_tru (h : EPp P K te me) : TPp P K (tTru K te) (mTru me) := fun σ H M ρ S d S' p hs ok e Q q => by
  unfold mTru at e
  cases e1 : me ρ S with
  | none => rw [e1] at e; cases e
  | some z =>
    rw [e1, Option.bind_some] at e
    cases e2 : tru z.1 with
    | none => rw [e2] at e; cases e
    | some y =>
      rw [e2] at e
      cases e
      exact h σ H M ρ S z.1 z.2 p hs ok e1 _ fun v H1 M1 x1 ok1 r1 => ⟨d, tru_v r1 e2, q H1 M1 x1 ok1⟩
theorem tp_and (hp : Pers P) (h : TPp P K tt mt) (h2 : TPp P K tu mu) : TPp P K (tAnd tt tu) (mAnd mt mu) := fun σ H M ρ S d S' p hs ok e Q q => by
  unfold mAnd at e
  cases e1 : mt ρ S with
  | none => rw [e1] at e; cases e
  | some z =>
    rw [e1, Option.bind_some] at e
    obtain ⟨y, S1⟩ := z
    refine h σ H M ρ S _ _ p hs ok e1 _ fun H1 M1 x1 ok1 => ?_
    cases y with
    | true => exact h2 σ H1 M1 ρ S1 d S' (hp _ _ _ _ _ x1 p) (hs.mono x1) ok1 e Q fun H2 M2 x2 ok2 => q H2 M2 (x1.trans x2) ok2
    | false => cases e; exact q H1 M1 x1 ok1
theorem cp_ret (h : EPp P K te me) : CPp P K T W b (tRet te) (mRet me) := fun M0 H0 σ H M ρ S o ρ' S' p hb hl x0 hs ok e D q => by
  unfold mRet at e
  cases e1 : me ρ S with
  | none => rw [e1] at e; cases e
  | some z =>
    rw [e1] at e
    cases e
    exact h σ H M ρ S z.1 z.2 p hs ok e1 _ fun v H1 M1 x1 ok1 r1 => q v H1 M1 x1 ok1 (r1.anti fun _ => Adr.tkmem)
theorem cp_next : CPp P K T W b tNext mNext := fun M0 H0 σ H M ρ S o ρ' S' p hb hl x0 hs ok e D q => imc_next M0 H0 σ H M ρ S o ρ' S' hb hl x0 hs ok e D q
/-- if t: a return; what stands behind -/
theorem cp_if (hp : Pers P) (hc : TPp P K tt mt) (h1 : CPp P K T W b ts ms) (h2 : CPp P K T W b us ns) (hms : ∀ ρ S o ρ' S', ms ρ S = some (o, ρ', S') → o ≠ .nx) : CPp P K T W b (tSeq (tIfS tt ts tNext) us) (mSeq (mIfS mt ms mNext) ns) := fun M0 H0 σ H M ρ S o ρ' S' p hb hl x0 hs ok e D q => by
  unfold mSeq mIfS at e
  cases e1 : mt ρ S with
  | none => rw [e1] at e; cases e
  | some z =>
    rw [e1, Option.bind_some] at e
    obtain ⟨y, S1⟩ := z
    refine hc σ H M ρ S _ _ p hs ok e1 _ fun H1 M1 x1 ok1 => ?_
    have p1 := hp _ _ _ _ _ x1 p
    cases y with
    | true =>
      simp only [if_true] at e
      cases e2 : ms ρ S1 with
      | none => rw [e2] at e; cases e
      | some z2 =>
        rw [e2, Option.bind_some] at e
        obtain ⟨o2, ρ2, S2⟩ := z2
        refine h1 M0 H0 σ H1 M1 ρ S1 o2 ρ2 S2 p1 hb hl (x0.trans x1) (hs.mono x1) ok1 e2 _ ?_
        cases o2 with
        | nx => exact absurd rfl (hms _ _ _ _ _ e2)
        | bk => cases e; exact q.ext x1
        | ct => cases e; exact q.ext x1
        | rt r => cases e; exact (PostE.ext q x1).imp rfl
    | false => exact h2 M0 H0 σ H1 M1 ρ S1 o ρ' S' p1 hb hl (x0.trans x1) (hs.mono x1) ok1 e D (q.ext x1)
theorem ret_ne {ρ ρ' : Rho} {S S' : Sto} {o : Out} (h : mRet me ρ S = some (o, ρ', S')) : o ≠ .nx := by
  unfold mRet at h
  cases e : me ρ S with
  | none =>
    rw [e] at h
    cases h
  | some z =>
    rw [e] at h
    cases h
    exact fun z => by cases z
end
end G
set_option Elab.async false
set_option linter.all false
set_option autoImplicit false
set_option maxRecDepth 100000
set_option maxHeartbeats 4000000
/-! isinstance of a held error that has its own dict. -/
namespace G
open PySem L2
section
open PySem.W
variable {K : PySem.W.Frag} {D x : Addr} {ox : Obj}
/-- a data descriptor is found ahead of the own dict -/
theorem fo_data {od : Option Obj} {nm : Str} {v g : Value} (h1 : (clsIn K D).isSome = true) (h2 : findIn K (.ref D) nm = some (some v)) (h3 : specialIn K v "__get__" = some (some g)) (h4 : takesIn K v = some true) : findObj K D od nm = some (.bind g v) := by
  cases e : clsIn K D with
  | none => rw [e] at h1; cases h1
  | some cd => unfold findObj; simp [e, h2, h3, h4]
theorem cls_some (h : hasDictIn K D = true) : ∃ cd, clsIn K D = some cd := by
  obtain ⟨cd, hc, _⟩ := any_some h
  exact ⟨cd, hc⟩
theorem err_class {prog : Program} {w : World} {A : Around} {E : Value → Shared → Prop} {s : Shared} {Q : Option Value → Shared → Prop} {od : Option Obj} (C : ExcC K D) (X : K.In s.heap) (I : InstAt s.heap x ox D od) (h : Q (some (.ref D)) { s with toks := s.toks + 1 }) :
    wpAny (model prog w) A (getAttr? (.ref x) "__class__") Q E s := by
  obtain ⟨cd, hcd⟩ := cls_some C.hd
  have fo : findObj K D od "__class__" = some (.bind (.builtin "getset_descriptor.__get__") (.builtin "object.__class__")) := fo_data (by rw [hcd]; rfl) C.ha C.hn C.ht
  obtain ⟨hp, g, d, t, os⟩ := s
  have l0 := I.type (M := model prog w)
  have l1 := looks_findIn (M := model prog w) X C.hg
  have l2 := looks_findIn (M := model prog w) X C.hk
  have l3 := looks_find (M := model prog w) X I fo
  have sb : Looks (model prog w) hp (isInstance (.ref x) (.type "BaseException")) true := l0.andThen (looks_subIn X C.hs)
  have n2 : (Value.builtin "BaseException.__getattribute__" == Value.builtin "object.__getattribute__") = false := by decide +kernel
  have n1 : (onTheHeap (Value.ref D) && Value.builtin "BaseException.__getattribute__" == Value.builtin "object.__getattribute__") = false := by rw [n2]; rfl
  unfold getAttr? getAttrBy?; unfold getAttrBy; apply wpAny_bind
  apply wpAny_mkText
  apply wpAny_bind
  apply wpAny_attempt
  apply wpAny_holding
  apply wpAny_bind
  apply l0.at
  apply wpAny_bind
  apply l1.at
  change wpAny _ _ (if (onTheHeap (Value.ref D) && Value.builtin "BaseException.__getattribute__" == Value.builtin "object.__getattribute__") = true then _ else _) _ _ _
  rw [n1, if_neg Bool.false_ne_true]
  unfold getAttrByItsOwn; unfold hookBefore; apply wpAny_bind
  rw [if_pos (show onTheHeap (Value.ref D) = true from rfl)]; apply l2.at
  apply wpAny_bind
  apply wpAny_attempt
  apply wpAny_holding
  unfold callGetattribute
  rw [show (false && onTheHeap (Value.builtin "BaseException.__getattribute__")) = false from rfl, if_neg Bool.false_ne_true]
  unfold boundAndCalled
  rw [PySem.F.excAttr_ValueError.ga.bind (Value.ref x)]; apply wpAny_bind
  apply wpAny_pure
  change wpAny _ _ (call (.builtin "BaseException.__getattribute__") [.ref x, .str "__class__" t]) _ _ _
  apply wpAny_call
  apply codeAny_call_builtin PySem.F.excAttr_ValueError.ga.plain PySem.F.entry_bexc_ga
  refine @check_slot (model prog w) _ _ ⟨hp, g, d, t + 1, os⟩ "BaseException.__getattribute__" "BaseException" "__getattribute__" (.ref x) [.str "__class__" t] [] _ (by decide +kernel) (by decide +kernel) sb (PySem.F.args_bexc_ga _ _) ?_
  unfold Builtin.«object.__getattribute__»; apply wpAny_bind
  apply wpAny_of_eq (a := ((Value.ref x : Value), [Value.str "__class__" t])) (by first | rfl | (simp only [slotArgs]; rfl))
  apply wpAny_bind
  apply wpAny_pure
  apply wpAny_bind
  apply l0.at
  apply wpAny_bind
  apply l3.at
  change wpAny _ _ (holding [Value.builtin "object.__class__"] (call (.builtin "getset_descriptor.__get__") [.builtin "object.__class__", .ref x, .ref D]) >>= ret) _ _ _
  apply wpAny_bind
  apply wpAny_holding
  apply wpAny_call
  refine class_get (s := ⟨hp, g, d, t + 1, os⟩) (ox := ox) (od := od) X I C.hm ?_
  apply wpAny_pure
  change wpAny _ _ (handedOut (.ref D)) _ _ _
  rw [handedOut_of (v := Value.ref D) rfl]
  first
    | exact wpAny_pure h
    | (apply wpAny_pure; exact wpAny_pure h)
    | (apply wpAny_pure; apply wpAny_bind; apply wpAny_pure; exact wpAny_pure h)
theorem kit_err (C : ExcC K D) : KitX K (.ref x) (.ref D) (fun h => ∃ od, InstAt h x ox D od) where
  ty := fun _ _ _ ⟨_, I⟩ => I.type
  it := fun _ _ X _ => by
    obtain ⟨cd, hcd⟩ := cls_some C.hd
    unfold clsIn at hcd
    split at hcd <;> first | (cases hcd; done) | skip
    rename_i ho
    intro A' Q' E' s' k q
    unfold isType loadHead
    apply wpAny_bind
    exact wpAny_loadPart (k _ _ (X _ _ ho)) (wpAny_pure q)
  ne := fun h tp d2 xs n sl X htp => by
    obtain ⟨cd, hcd⟩ := cls_some C.hd
    cases hq : (Value.ref D == Value.ref tp) with
    | false => rfl
    | true =>
      have e : D = tp := Value.ref.inj (beq_iff_eq.mp hq)
      subst e
      unfold clsIn at hcd
      split at hcd <;> first | (cases hcd; done) | skip
      rename_i ho
      cases (X _ _ ho).symm.trans htp
  ca := fun X ⟨_, I⟩ k => err_class C X I k
end
/-- isinstance(e, cl), e the held error at a -/
def rIsX (K : PySem.W.Frag) (a : Addr) (cls : Value) (d : Option Addr) : List V → Hp → VK → Prop := fun xs H Q => ∃ (cV : V) (cv : Value) (r : Bool) (D dd : Addr) (fs : List (Str × V)), xs = [.ref a, cV] ∧ cls = .ref D ∧ ExcC K D ∧ d = some dd ∧ H dd = some (.xd fs) ∧ (∀ u, RelV cV u → u = cv) ∧ PySem.W.kitOne K (.ref D) cv = some r ∧ Q (.bl r) H
theorem call_isX {X : Cx} {a : Addr} {oe : Obj} {cls : Value} {d : Option Addr} {pn : List (Addr × Obj)} (hz : Zc cls d oe) (hf : ∃ vs, oe.data = .fields vs) : CallR (X.suite a ((a, oe) :: pn)) (.builtin "isinstance") (rIsX X.K a cls d) := by
  intro pins s σ H zs us Q I r h; obtain ⟨cV, cv, y, D, dd, fs, rfl, rfl, C, rfl, hd, hcv, e, q⟩ := h
  match us, r with
  | [u0, u1], .cons ra (.cons rc .nil) =>
    have e0 : u0 = Value.ref a := ra
    have e1 := hcv _ rc
    subst e0 e1
    have hget := (I.pin (a, oe) (List.mem_append.mpr (.inl List.mem_cons_self))).1
    have hx : ObjOk X.prog X.w H s.heap dd (.xd fs) := I.hok dd _ hd
    obtain ⟨mA, hns, _⟩ := hx
    obtain ⟨od, ho, _⟩ := lookIn_ns hns
    obtain ⟨vs, hv⟩ := hf
    have J : PySem.W.InstAt s.heap a oe D (some od) := ⟨hget, hz.1, by unfold PySem.W.notCls; rw [hv] <;> rfl, by rw [hz.2]; exact ho⟩
    exact PySem.W.kia_one (kit_err C) I.kIn ⟨_, J⟩ e (fun z => nomatch z) fun tk => ⟨.bl y, H, I.kept (t' := tk) fun _ _ z => z, rfl, q⟩
end G
set_option Elab.async false
set_option linter.all false
set_option autoImplicit false
set_option maxRecDepth 100000
set_option maxHeartbeats 4000000
/-! Suites over contexts; try. -/
namespace G
open PySem L2
section
variable {ι : Type} (F : Fam ι) (j : Option Nat)
abbrev Sux (t : ι → Addr → Obj → Value → Option Addr → List (Addr × Obj) → Prop) : Prop := ∀ i a oe cls d pn, Zc cls d oe → (∃ fs, oe.data = .fields fs) → t i a oe cls d pn
def SDE (e : Expr) (m : Nat → List D → ME) : Prop := ∃ te : Addr → Value → Option Addr → TE, Sux (fun i a oe cls d pn => PE ((F.X i).suite a ((a, oe) :: pn)) e (te a cls d)) ∧ ∀ a dd c x, EPp (Hld F.K F.T j a dd c x) F.K (te a (.ref (F.T.cls c)) (some dd)) (m c x)
def SDT (e : Expr) (m : Nat → List D → MT) : Prop := ∃ te : Addr → Value → Option Addr → TT, Sux (fun i a oe cls d pn => PT ((F.X i).suite a ((a, oe) :: pn)) e (te a cls d)) ∧ ∀ a dd c x, TPp (Hld F.K F.T j a dd c x) F.K (te a (.ref (F.T.cls c)) (some dd)) (m c x)
def SDW (e : Expr) (m : Nat → List D → MT) : Prop := ∃ te : Addr → Value → Option Addr → TT, Sux (fun i a oe cls d pn => PW ((F.X i).suite a ((a, oe) :: pn)) e (te a cls d)) ∧ ∀ a dd c x, TPp (Hld F.K F.T j a dd c x) F.K (te a (.ref (F.T.cls c)) (some dd)) (m c x)
def SDA (es : List Expr) (m : Nat → List D → MA) : Prop := ∃ te : Addr → Value → Option Addr → TA, Sux (fun i a oe cls d pn => PA ((F.X i).suite a ((a, oe) :: pn)) es (te a cls d)) ∧ ∀ a dd c x, APp (Hld F.K F.T j a dd c x) F.K (te a (.ref (F.T.cls c)) (some dd)) (m c x)
def SDC (b : Nat) (sts : List Stmt) (m : Nat → List D → MS) : Prop := ∃ te : Sut, Sux (fun i a oe cls d pn => PSs ((F.X i).suite a ((a, oe) :: pn)) sts (te a cls d)) ∧ ∀ W a dd c x, CPp (Hld F.K F.T j a dd c x) F.K F.T W b (te a (.ref (F.T.cls c)) (some dd)) (m c x)
end
section
variable {ι : Type} {F : Fam ι} {j : Option Nat} {e e2 e3 : Expr} {es : List Expr} {me mf : Nat → List D → ME} {mt mu : Nat → List D → MT} {ma : Nat → List D → MA} {pos : Pos} {b : Nat} {ms ns : Nat → List D → MS} {sts : List Stmt}
theorem su_int {n : Int} {k} : SDE F j (.Constant (.int n) k pos) (fun _ _ => mC (.int n)) := ⟨_, fun _ _ _ _ _ _ _ _ => pe_int, fun _ _ _ _ => ep_of (im_int n)⟩
theorem su_bl {n : Bool} {k} : SDE F j (.Constant (.bool n) k pos) (fun _ _ => mC (.bool n)) := ⟨_, fun _ _ _ _ _ _ _ _ => pe_bl, fun _ _ _ _ => ep_of (im_bl n)⟩
theorem su_str {n : Str} {k} : SDE F j (.Constant (.str n) k pos) (fun _ _ => mC (.str n)) := ⟨_, fun _ _ _ _ _ _ _ _ => pe_str, fun _ _ _ _ => ep_of (im_str n)⟩
theorem su_non {k} : SDE F j (.Constant .none k pos) (fun _ _ => mC .none) := ⟨_, fun _ _ _ _ _ _ _ _ => pe_non, fun _ _ _ _ => ep_of im_non⟩
theorem su_var (k : Nat) {x : Str} (hN : ∀ i, (F.X i).N[k]? = some x := by exact fun _ => rfl) (hv : ∀ i, Vis (F.X i).env.scope x := by first | exact fun _ => Or.inl rfl | exact fun _ => Or.inr (Or.inl rfl) | exact fun _ => Or.inr (Or.inr rfl))
    (hd : (x == ("__debug__" : Str)) = false := by decide) (hcd : (x == ("__classdict__" : Str)) = false := by decide) : SDE F j (.Name x pos) (fun _ _ => mVar k) :=
  ⟨fun _ _ _ => tVar k, fun i _ _ _ _ _ _ _ => pe_var (hN i) (hv i) hd hcd, fun _ _ _ _ => ep_of (im_var k)⟩
/-- e.f, e the held error, of the class number c0 -/
def mFld (c0 k c : Nat) (x : List D) : ME := fun _ S => if c = c0 then (x[k]?).map fun d => (d, S) else none
theorem su_fld (i0 c0 k : Nat) {n f : Str} {px : Pos} (C : XfC F.K (F.T.cls c0)) (hno : PySem.W.findIn F.K (.ref (F.T.cls c0)) f = some none) (hk : (F.T.flds c0)[k]? = some f)
    (hN : ∀ i, (F.X i).N[i0]? = some n := by exact fun _ => rfl) (hv : ∀ i, Vis (F.X i).env.scope n := by first | exact fun _ => Or.inl rfl | exact fun _ => Or.inr (Or.inl rfl) | exact fun _ => Or.inr (Or.inr rfl))
    (hd : (n == ("__debug__" : Str)) = false := by decide) (hcd : (n == ("__classdict__" : Str)) = false := by decide) (hb : ∀ i, attributeBase (.Name n px) f (F.X i).env (eval (.Name n px) (F.X i).env) = eval (.Name n px) (F.X i).env := by exact fun _ => rfl) :
    SDE F (some i0) (.Attribute (.Name n px) f pos) (mFld c0 k) := by
  refine ⟨fun a cls d => tXf a cls d (F.T.cls c0) f (tVar i0), fun i a oe cls d pn hz hf => pe_xf (by rw [F.hK i]; exact C) (by rw [F.hK i]; exact hno) hz hf (pe_var (hN i) (hv i) hd hcd) (hb i), ?_⟩
  intro a dd c x σ H M ρ S y S' p hs ok e Q q
  unfold mFld at e
  split at e <;> first | (cases e; done) | skip
  rename_i hc
  subst hc
  cases e1 : x[k]? with
  | none => rw [e1] at e; cases e
  | some z =>
    rw [e1] at e
    cases e
    obtain ⟨⟨vs, h1, h2⟩, h3⟩ := p
    obtain ⟨v, z, l, e2, r⟩ := h2 k f hk
    rw [e1] at e2
    cases e2
    exact ⟨_, h3 i0 rfl, rfl, rfl, dd, vs, v, rfl, h1, l, q v H M .refl ok r⟩
/-- isinstance(e, x), x a class -/
def mIsX (tab : Nat → Option Bool) (c : Nat) : ME := fun _ S => (tab c).map fun b => (.bool b, S)
theorem su_isX (i0 : Nat) {n x : Str} {p1 p2 p3 : Pos} {cV : V} {cv : Value} {tab : Nat → Option Bool} (hm : ∀ i, (F.X i).mg "isinstance" = none) (hcv : ∀ u, RelV cV u → u = cv)
    (hx : ∀ i a oe pn, PE ((F.X i).suite a ((a, oe) :: pn)) (.Name x p3) (tC cV)) (hC : ∀ c y, tab c = some y → ExcC F.K (F.T.cls c) ∧ PySem.W.kitOne F.K (.ref (F.T.cls c)) cv = some y)
    (hN : ∀ i, (F.X i).N[i0]? = some n := by exact fun _ => rfl) (hv : ∀ i, Vis (F.X i).env.scope n := by first | exact fun _ => Or.inl rfl | exact fun _ => Or.inr (Or.inl rfl) | exact fun _ => Or.inr (Or.inr rfl))
    (hd : (n == ("__debug__" : Str)) = false := by decide) (hcd : (n == ("__classdict__" : Str)) = false := by decide) (hg : ∀ i, Gl (F.X i) "isinstance" := by exact fun _ => rfl)
    (hs : ∀ i, starEach [.Name n p2, .Name x p3] (F.X i).env = (false, eval (.Name n p2) (F.X i).env) :: starEach [.Name x p3] (F.X i).env := by intro _; rfl) (hs2 : ∀ i, starEach [.Name x p3] (F.X i).env = (false, eval (.Name x p3) (F.X i).env) :: starEach [] (F.X i).env := by intro _; rfl)
    (hpl : ∀ i, (backTo pos (starEach [.Name x p3] (F.X i).env)).any (·.1) = false := by intro _; rfl) : SDE F (some i0) (.Call (.Name "isinstance" p1) [.Name n p2, .Name x p3] [] pos) (fun c _ => mIsX tab c) := by
  refine ⟨fun a cls d => tCB (rIsX F.K a cls d) (tCons (tVar i0) (tCons (tC cV) tNil)), fun i a oe cls d pn hz hf => ?_, ?_⟩
  · have hcall := call_isX (X := F.X i) (a := a) (pn := pn) hz hf
    rw [F.hK i] at hcall
    exact pe_callB (X := (F.X i).suite a ((a, oe) :: pn)) hcall (hg i) (hm i) (by decide +kernel) (pa_cons (pe_var (hN i) (hv i) hd hcd) (pa_cons (hx i a oe pn) pa_nil (hs2 i)) (hs i)) (by decide) (by decide) (hs i) (hpl i)
  · intro a dd c x σ H M ρ S y S' p hs ok e Q q
    have e : (tab c).map (fun b => ((PyData.bool b, S) : D × Sto)) = some (y, S') := e
    cases e1 : tab c with
    | none => rw [e1] at e; cases e
    | some z =>
      rw [e1] at e
      cases e
      obtain ⟨⟨vs, h1, _⟩, h3⟩ := p
      obtain ⟨c1, c2⟩ := hC c z e1
      exact ⟨_, h3 i0 rfl, cV, cv, z, _, dd, vs, rfl, rfl, c1, rfl, h1, hcv, c2, q _ H M .refl ok (.bl z)⟩
theorem su_a0 : SDA F j [] (fun _ _ => mA0) := ⟨fun _ _ _ => tNil, fun _ _ _ _ _ _ _ _ => pa_nil, fun _ _ _ _ => ap_0⟩
theorem su_a1 (h : SDE F j e me) (h2 : SDA F j es ma) (hs : ∀ i, starEach (e :: es) (F.X i).env = (false, eval e (F.X i).env) :: starEach es (F.X i).env := by intro _; rfl) : SDA F j (e :: es) (fun c x => mA1 (me c x) (ma c x)) := by
  obtain ⟨t, p, q⟩ := h
  obtain ⟨u, p2, q2⟩ := h2
  exact ⟨fun a cls d => tCons (t a cls d) (u a cls d), fun i a oe cls d pn hz hf => pa_cons (p i a oe cls d pn hz hf) (p2 i a oe cls d pn hz hf) (hs i), fun a dd c x => ap_1 hld_pers (q a dd c x) (q2 a dd c x)⟩
theorem su_tup {x1} (h : SDA F j es ma) : SDE F j (.Tuple es x1 pos) (fun c x => mTup (ma c x)) := by
  obtain ⟨t, p, q⟩ := h
  exact ⟨fun a cls d => tTup (t a cls d), fun i a oe cls d pn hz hf => pe_tup (p i a oe cls d pn hz hf), fun a dd c x => ep_tup (q a dd c x)⟩
theorem su_lst (h : SDA F j es ma) : SDE F j (.List es pos) (fun c x => mEN (mLst (ma c x))) := by
  obtain ⟨t, p, q⟩ := h
  exact ⟨fun a cls d => tLst (t a cls d), fun i a oe cls d pn hz hf => pe_lst (p i a oe cls d pn hz hf), fun a dd c x => ep_lst (q a dd c x)⟩
theorem su_ifE (h : SDT F j e mt) (h1 : SDE F j e2 me) (h2 : SDE F j e3 mf) : SDE F j (.IfExp e e2 e3 pos) (fun c x => mIf (mt c x) (me c x) (mf c x)) := by
  obtain ⟨t, p, q⟩ := h
  obtain ⟨t1, p1, q1⟩ := h1
  obtain ⟨t2, p2, q2⟩ := h2
  exact ⟨fun a cls d => tIf (t a cls d) (t1 a cls d) (t2 a cls d), fun i a oe cls d pn hz hf => pe_ifExp (p i a oe cls d pn hz hf) (p1 i a oe cls d pn hz hf) (p2 i a oe cls d pn hz hf), fun a dd c x => ep_if hld_pers (q a dd c x) (q1 a dd c x) (q2 a dd c x)⟩
theorem su_tv (h : SDE F j e me) (he : ∀ i whole, isTrue e (F.X i).env whole = (do let v ← whole; standAt e.pos; holding [v] (truthy v)) := by intro _ _; rfl) : SDT F j e (fun c x => mTru (me c x)) := by
  obtain ⟨t, p, q⟩ := h
  exact ⟨fun a cls d => tTru F.K (t a cls d), fun i a oe cls d pn hz hf => by have := pt_truth (p i a oe cls d pn hz hf) (he i); rw [F.hK i] at this; exact this, fun a dd c x => tp_tru (q a dd c x)⟩
theorem su_w (h : SDW F j e mt) : SDT F j e mt := let ⟨t, p, q⟩ := h; ⟨t, fun i a oe cls d pn hz hf => (p i a oe cls d pn hz hf).pt, q⟩
theorem su_and1 (h : SDT F j e mt) : SDW F j (.BoolOp .And [e] pos) mt := let ⟨t, p, q⟩ := h; ⟨t, fun i a oe cls d pn hz hf => pw_and1 (p i a oe cls d pn hz hf), q⟩
theorem su_and (h : SDT F j e mt) (h2 : SDW F j (.BoolOp .And (e2 :: es) pos) mu) : SDW F j (.BoolOp .And (e :: e2 :: es) pos) (fun c x => mAnd (mt c x) (mu c x)) := by
  obtain ⟨t, p, q⟩ := h
  obtain ⟨t2, p2, q2⟩ := h2
  exact ⟨fun a cls d => tAnd (t a cls d) (t2 a cls d), fun i a oe cls d pn hz hf => pw_and (p i a oe cls d pn hz hf) (p2 i a oe cls d pn hz hf), fun a dd c x => tp_and hld_pers (q a dd c x) (q2 a dd c x)⟩
theorem su_ret (h : SDE F j e me) : SDC F j b [.Return (some e) pos] (fun c x => mRet (me c x)) := by
  obtain ⟨t, p, q⟩ := h
  exact ⟨fun a cls d => tRet (t a cls d), fun i a oe cls d pn hz hf => pss_one (ps_ret (p i a oe cls d pn hz hf)), fun W a dd c x => cp_ret (q a dd c x)⟩
theorem su_ifS {p2 : Pos} (h : SDT F j e mt) (h1 : SDE F j e2 me) (h2 : SDC F j b sts ns) : SDC F j b (.If e [.Return (some e2) p2] [] pos :: sts) (fun c x => mSeq (mIfS (mt c x) (mRet (me c x)) mNext) (ns c x)) := by
  obtain ⟨t, p, q⟩ := h
  obtain ⟨t1, p1, q1⟩ := h1
  obtain ⟨t2, p2, q2⟩ := h2
  exact ⟨fun a cls d => tSeq (tIfS (t a cls d) (tRet (t1 a cls d)) tNext) (t2 a cls d), fun i a oe cls d pn hz hf => pss_cons (ps_if (p i a oe cls d pn hz hf) (pss_one (ps_ret (p1 i a oe cls d pn hz hf))) pss_nil) (p2 i a oe cls d pn hz hf),
    fun W a dd c x => cp_if hld_pers (q a dd c x) (cp_ret (q1 a dd c x)) (q2 W a dd c x) fun _ _ _ _ _ h => ret_ne h⟩
end
end G
set_option Elab.async false
set_option linter.all false
set_option autoImplicit false
set_option maxRecDepth 100000
set_option maxHeartbeats 4000000
/-! try: the body's errors go through the clauses. -/
namespace G
open PySem L2
theorem RSt.off {K : PySem.W.Frag} {M : Adr} {H : Hp} {σ : St} {ρ : Rho} (h : RSt K M H σ ρ) (v : Option V) (i : Nat) : RSt K M H (σ.set i v) (ρ.set i none) :=
  ⟨by rw [List.length_set, List.length_set, h.len], fun j t e => by
    by_cases hj : i = j
    · subst hj
      by_cases hl : i < ρ.length
      · rw [List.getElem?_set_self hl] at e; cases e
      · rw [List.getElem?_eq_none (by rw [List.length_set]; omega)] at e; cases e
    · rw [List.getElem?_set_ne hj] at e ⊢
      exact h.at_ j t e⟩
/-- a clause's reading: which classes it takes, its name's slot, its suite -/
abbrev Cz := (Nat → Option Bool) × Option Nat × (Nat → List D → MS)
def offR : Option Nat → Rho → Rho
  | none, ρ => ρ
  | some i, ρ => ρ.set i none
def okI : Option Nat → Rho → Bool
  | none, _ => true
  | some i, ρ => decide (i < ρ.length)
def sel : List Cz → Nat → List D → Rho → Sto → Option (Out × Rho × Sto)
  | [], c, x, ρ, S => some (.rt (.exc c x), ρ, S)
  | z :: r, c, x, ρ, S => (z.1 c).bind fun y => if y then (if okI z.2.1 ρ then (z.2.2 c x (offR z.2.1 ρ) S).map fun p => (p.1, offR z.2.1 p.2.1, p.2.2) else none) else sel r c x ρ S
def mTry (m : MS) (l : List Cz) : MS := fun ρ S => (m ρ S).bind fun p => match p.1 with
  | .rt (.exc c x) => sel l c x p.2.1 p.2.2
  | _ => some p
/-- a clause and its reading -/
structure CzOk (K : PySem.W.Frag) (T : ET) (b : Nat) (z : Clz) (y : Cz) : Prop where
  tab : ∀ c v, y.1 c = some v → PySem.W.exmOne K (.ref (T.cls c)) z.1 = some v
  slot : z.2.1 = y.2.1
  su : ∀ W a dd c x, CPp (Hld K T z.2.1 a dd c x) K T W b (z.2.2 a (.ref (T.cls c)) (some dd)) (y.2.2 c x)
inductive CzsOk (K : PySem.W.Frag) (T : ET) (b : Nat) : List Clz → List Cz → Prop
  | nil : CzsOk K T b [] []
  | cons {z : Clz} {y : Cz} {l : List Clz} {r : List Cz} : CzOk K T b z y → CzsOk K T b l r → CzsOk K T b (z :: l) (y :: r)
section
variable {K : PySem.W.Frag} {T : ET} {W : WX} {b : Nat} {M : Adr} {H : Hp} {S S' : Sto}
theorem sel_wish {l : List Clz} {r : List Cz} (h : CzsOk K T b l r) {M0 : Adr} {H0 : Hp} {D : Ends} {o : Out} {ρ ρ' : Rho} {σ : St} {c : Nat} {dd : Addr} {x : List G.D} (hb : M0.c.length = b) (hl : ∀ a, M0.mem a → ∃ vs, H0 a = some (.lst vs)) (x0 : Ext M0 H0 M H) (hs : RSt K M H σ ρ) (ok : Ok K M S H)
    (hx : XdR K M H dd (T.flds c) x) (e : sel r c x ρ S = some (o, ρ', S')) (q : PostC K T W b H0 M H D o ρ' S') : wCl K W D l (.ref (T.cls c)) (some dd) σ H := by
  induction h with
  | nil =>
    cases e
    exact q σ dd H M .refl ok hs hx
  | @cons z y l r h1 h2 ih =>
    unfold sel at e
    cases e1 : y.1 c with
    | none => rw [e1] at e; cases e
    | some v =>
      rw [e1, Option.bind_some] at e
      refine ⟨v, h1.tab c v e1, fun hv a ha => ?_, fun hv => ?_⟩
      · subst hv
        rw [if_pos rfl] at e
        split at e <;> first | (cases e; done) | skip
        rename_i hi
        cases e2 : y.2.2 c x (offR y.2.1 ρ) S with
        | none => rw [e2] at e; cases e
        | some p =>
          rw [e2] at e
          obtain ⟨o2, ρ2, S2⟩ := p
          obtain ⟨rfl, rfl, rfl⟩ : o2 = o ∧ offR y.2.1 ρ2 = ρ' ∧ S2 = S' := by cases e; exact ⟨rfl, rfl, rfl⟩
          rw [← h1.slot] at hi e2 q
          have on : RSt K M H (onS a z.2.1 σ) (offR z.2.1 ρ) ∧ ∀ i, z.2.1 = some i → (onS a z.2.1 σ)[i]? = some (some (.ref a)) := by
            cases hz : z.2.1 with
            | none => exact ⟨hs, fun i e => by cases e⟩
            | some i =>
              rw [hz] at hi
              refine ⟨hs.off _ i, fun k e => ?_⟩
              cases e
              have hi : i < ρ.length := of_decide_eq_true hi
              exact List.getElem?_set_self (by rw [hs.len]; exact hi)
          refine h1.su (fun _ _ _ _ => True) a dd c x M0 H0 _ H M _ S o2 ρ2 S2 ⟨hx, on.2⟩ hb hl x0 on.1 ok e2 _ ?_
          cases hz : z.2.1 with
          | none =>
            rw [hz] at q
            cases o2 with
            | nx => exact q
            | bk => exact q
            | ct => exact q
            | rt r =>
              cases r with
              | val d => exact q
              | new d => exact q
              | exc c2 x2 => exact fun _ _ _ _ _ _ _ _ => trivial
          | some i =>
            rw [hz] at q
            cases o2 with
            | nx => exact fun σ' H' M' x' ok' hs' => q _ H' M' x' ok' (hs'.off none i)
            | bk => exact fun σ' H' M' x' ok' hs' => q _ H' M' x' ok' (hs'.off none i)
            | ct => exact fun σ' H' M' x' ok' hs' => q _ H' M' x' ok' (hs'.off none i)
            | rt r =>
              cases r with
              | val d => exact q
              | new d => exact q
              | exc c2 x2 => exact fun _ _ _ _ _ _ _ _ => trivial
      · subst hv
        rw [if_neg Bool.false_ne_true] at e
        exact ih e
theorem imc_try {tb : WX → TS} {m : MS} {l : List Clz} {r : List Cz} (hm : ∀ V, ImC K T V b (tb V) m) (h : CzsOk K T b l r) : ImC K T W b (fun D σ H => tb (wCl K W D l) D σ H) (mTry m r) := fun M0 H0 σ H M ρ S o ρ' S' hb hl x0 hs ok e D q => by
  unfold mTry at e
  cases e1 : m ρ S with
  | none => rw [e1] at e; cases e
  | some p =>
    rw [e1, Option.bind_some] at e
    obtain ⟨o1, ρ1, S1⟩ := p
    refine hm (wCl K W D l) M0 H0 σ H M ρ S o1 ρ1 S1 hb hl x0 hs ok e1 D ?_
    cases o1 with
    | nx => cases e; exact q
    | bk => cases e; exact q
    | ct => cases e; exact q
    | rt v =>
      cases v with
      | val d => cases e; exact q
      | new d => cases e; exact q
      | exc c x => exact fun σ' dd H' M' x' ok' hs' hx' => sel_wish h hb hl (x0.trans x') hs' ok' hx' e (q.ext x')
end
/-- the body's contexts -/
def Fam.tr {ι : Type} (F : Fam ι) (V : WX) : Fam (Σ i : ι, { p : List (Addr × Obj) × (Value → Shared → Prop) // Takes ((F.X i).tr p.1 p.2) V ∧ PassesOwn (model (F.X i).prog (F.X i).w) (F.X i).A (F.X i).env p.2 }) where
  X := fun q => (F.X q.1).tr q.2.1.1 q.2.1.2
  K := F.K
  k := F.k
  hK := fun q => F.hK q.1
  calm := fun q => F.calm q.1
  room := fun q => F.room q.1
  nd := fun q => F.nd q.1
  T := F.T
  W := V
  tk := fun q => q.2.2.1
/-- the clauses of a try, with their readings -/
inductive PDH {ι : Type} (F : Fam ι) (b : Nat) : List ExceptHandler → List Cz → Prop
  | nil : PDH F b [] []
  | plain {x : Str} {cv : Value} {tab : Nat → Option Bool} {m : Nat → List D → MS} {s₀ : Stmt} {sts : List Stmt} {q₁ q₂ : Pos} {hds : List ExceptHandler} {r : List Cz} (hc : ∀ i, Names (F.X i) x cv) (ht : ∀ c v, tab c = some v → PySem.W.exmOne F.K (.ref (F.T.cls c)) cv = some v) (hs : SDC F none b (s₀ :: sts) m) (h : PDH F b hds r) :
      PDH F b (.ExceptHandler (some (.Name x q₁)) none (s₀ :: sts) q₂ :: hds) ((tab, none, m) :: r)
  | named (j : Nat) {x n : Str} {cv : Value} {tab : Nat → Option Bool} {m : Nat → List D → MS} {s₀ : Stmt} {sts : List Stmt} {q₁ q₂ : Pos} {hds : List ExceptHandler} {r : List Cz} (hc : ∀ i, Names (F.X i) x cv) (ht : ∀ c v, tab c = some v → PySem.W.exmOne F.K (.ref (F.T.cls c)) cv = some v) (hs : SDC F (some j) b (s₀ :: sts) m)
      (hi : ∀ i, (F.X i).N[j]? = some n) (hk : ∀ i, (F.X i).env.kindOf n = some .local) (h : PDH F b hds r) :
      PDH F b (.ExceptHandler (some (.Name x q₁)) (some n) (s₀ :: sts) q₂ :: hds) ((tab, some j, m) :: r)
theorem PDH.get {ι : Type} {F : Fam ι} {b : Nat} {hds : List ExceptHandler} {r : List Cz} (h : PDH F b hds r) : ∃ l, (∀ i, Hds (F.X i) hds l) ∧ CzsOk F.K F.T b l r := by
  induction h with
  | nil => exact ⟨[], fun _ => .nil, .nil⟩
  | plain hc ht hs h ih =>
    obtain ⟨l, h1, h2⟩ := ih
    obtain ⟨ts, p, q⟩ := hs
    exact ⟨(_, none, ts) :: l, fun i => .plain (hc i) (fun a oe cls d pn hz hf => p i a oe cls d pn hz hf) (h1 i), .cons ⟨ht, rfl, q⟩ h2⟩
  | named j hc ht hs hi hk h ih =>
    obtain ⟨l, h1, h2⟩ := ih
    obtain ⟨ts, p, q⟩ := hs
    exact ⟨(_, some j, ts) :: l, fun i => .named (hc i) (F.nd i) (hi i) (hk i) (fun a oe cls d pn hz hf => p i a oe cls d pn hz hf) (h1 i), .cons ⟨ht, rfl, q⟩ h2⟩
theorem d_try {ι : Type} {F : Fam ι} {b : Nat} {body : List Stmt} {h₀ : ExceptHandler} {hds : List ExceptHandler} {pos : Pos} {m : MS} {r : List Cz} (hb : ∀ V, PDSs (F.tr V) b body m) (hh : PDH F b (h₀ :: hds) r)
    (hs : ∀ i, (F.X i).stack = (F.X i).env :: (F.X i).outer := by exact fun _ => rfl) (hf : ∀ i, (F.X i).env.frame = some (F.X i).env.locals := by exact fun _ => rfl) : PDS F b (.Try body (h₀ :: hds) [] [] pos) (mTry m r) := by
  obtain ⟨l, h1, h2⟩ := hh.get
  refine ⟨fun D σ H => (hb (wCl F.K F.W D l)).choose D σ H, fun i => ?_, imc_try (tb := fun V => (hb V).choose) (fun V => (hb V).choose_spec.2) h2⟩
  have := ps_tryC (X := F.X i) (pos := pos) (tb := fun V => (hb V).choose) (hs i) (hf i) (F.tk i) (fun V pl we tk po => (hb V).choose_spec.1 ⟨i, (pl, we), tk, po⟩) (h1 i)
  rw [F.hK i] at this
  exact this
end G
set_option Elab.async false
set_option linter.all false
set_option autoImplicit false
set_option maxRecDepth 100000
set_option maxHeartbeats 4000000
/-! max, min of a list of data, with a default or without one. -/
namespace G
open PySem L2
theorem reads_all {X : Cx} {pins : List (Addr × Obj)} {σ : L2.St} {H : Hp} {s : Shared} (I : L2.Inv X pins σ H s) : ∀ (ds : List D) (vs : List V) (its : List Value), DpAll X.K H vs ds → Vals vs its → ∃ as, ReadsAll s.heap its ds as
  | [], _, _, h, r => by cases h; cases r; exact ⟨_, .nil⟩
  | d :: ds, _, _, h, r => by
    cases h with
    | cons h1 h2 =>
      cases r with
      | cons r1 r2 =>
        obtain ⟨a, e1⟩ := Dp.reads I d _ _ h1 r1
        obtain ⟨b, e2⟩ := reads_all I ds _ _ h2 r2
        exact ⟨_, .cons e1 e2⟩
theorem dpall_at {K : PySem.W.Frag} {H : Hp} : ∀ {vs : List V} {ds : List D} {i : Nat} {v : V}, DpAll K H vs ds → vs[i]? = some v → ∃ d, ds[i]? = some d ∧ Dp K H v d
  | _, [], i, v, h, e => by cases h; cases e
  | _, d :: ds, i, v, h, e => by
    cases h with
    | cons h1 h2 =>
      cases i with
      | zero => cases e; exact ⟨d, rfl, h1⟩
      | succ i => exact dpall_at (i := i) h2 e
theorem vals_at : ∀ {vs : List V} {its : List Value} {i : Nat} {u : Value}, Vals vs its → its[i]? = some u → ∃ v, vs[i]? = some v ∧ RelV v u
  | _, _, i, u, .nil, e => by cases e
  | _, _, 0, u, .cons r1 r2, e => by cases e; exact ⟨_, rfl, r1⟩
  | _, _, i + 1, u, .cons r1 r2, e => vals_at (i := i) r2 e
def okM (ds : List D) : Bool := ds.all (fun d => ds.all fun e => alk d e) && ds.all (fun d => !isN d) && decide (PyData.depthAll ds ≤ 60)
theorem okM_of {ds : List D} (h : okM ds = true) : PySem.W.AlikeAll ds ∧ PyData.depthAll ds ≤ 60 := by
  unfold okM at h
  rw [Bool.and_eq_true, Bool.and_eq_true, decide_eq_true_eq, List.all_eq_true, List.all_eq_true] at h
  refine ⟨⟨fun x hx y hy => ?_, fun x hx e => ?_⟩, h.2⟩
  · have := h.1.1 x hx
    rw [List.all_eq_true] at this
    exact this y hy
  · have := h.1.2 x hx
    rw [e] at this
    cases this
def rBest (K : PySem.W.Frag) (g : D → List D → D) : List V → Hp → VK → Prop := fun us H Q => ∃ (a : Addr) (vs : List V) (d : D) (ds : List D), us = [V.ref a] ∧ SqL K H a vs ∧ DpAll K H vs (d :: ds) ∧ okM (d :: ds) = true ∧ ∀ (i : Nat) (v : V), vs[i]? = some v → (d :: ds)[i]? = some (g d ds) → Q v H
def rBestD (K : PySem.W.Frag) (g : D → List D → D) : List V → List V → Hp → VK → Prop := fun us zs H Q => ∃ (a : Addr) (vs : List V) (z : V) (ds : List D), us = [V.ref a] ∧ zs = [z] ∧ SqL K H a vs ∧ DpAll K H vs ds ∧ okM ds = true ∧ (ds = [] → Q z H) ∧ ∀ (d : D) (r : List D) (i : Nat) (v : V), ds = d :: r → vs[i]? = some v → ds[i]? = some (g d r) → Q v H
section
variable {X : Cx}
theorem best_end {pins : List (Addr × Obj)} {σ : L2.St} {H : Hp} {s : Shared} {Q : VK} (I : L2.Inv X pins σ H s) {vs : List V} {ds : List D} {its : List Value} (hd : DpAll X.K H vs ds) (rv : Vals vs its) {i : Nat} {u : Value} {h' : Heap} {tk : Nat} {bs : List Addr} {z : D} (e : its.toArray[i]? = some u) (r : Reads h' u z bs) (k : ∀ b o, s.heap.get? b = some o → h'.get? b = some o)
    (q : ∀ (i : Nat) (v : V), vs[i]? = some v → ds[i]? = some z → Q v H) : EP X pins σ Q u { s with heap := h', toks := tk } := by
  have e : its[i]? = some u := by rw [List.getElem?_toArray] at e; exact e
  obtain ⟨v, ev, rel⟩ := vals_at rv e
  obtain ⟨d, ed, dp⟩ := dpall_at hd ev
  obtain ⟨as, rd⟩ := Dp.reads I d v u dp rel
  have := (PyProof.Rows.reads_det (fun b o e _ => e) (PyProof.Rows.Reads.keeps k rd) r).1
  subst this
  exact ⟨v, H, I.kept (t' := tk) k, rel, q i v ev ed⟩
theorem cr_maxX (hc : X.calm = true) (hu : X.A.units + 64 < cLine) : CallR X (.builtin "max") (rBest X.K PySem.W.maxD) := by
  intro pins s σ H us ws Q I r h
  obtain ⟨a, vs, d, ds, rfl, hs, hd, hok, q⟩ := h
  obtain ⟨its, rv, hl, hz⟩ := I.list hs
  obtain ⟨u, rfl, ru⟩ := vals1 r
  obtain rfl : u = Value.ref a := ru
  obtain ⟨k1, k2⟩ := okM_of hok
  obtain ⟨as, ra⟩ := reads_all I _ _ _ hd rv
  exact PySem.W.max_list_data (I.ok.hd hc) hl.isList ra k1 (by omega) fun i v h' tk bs e r k => best_end I hd rv e r k q
theorem cr_minX (hc : X.calm = true) (hu : X.A.units + 64 < cLine) : CallR X (.builtin "min") (rBest X.K PySem.W.minD) := by
  intro pins s σ H us ws Q I r h
  obtain ⟨a, vs, d, ds, rfl, hs, hd, hok, q⟩ := h
  obtain ⟨its, rv, hl, hz⟩ := I.list hs
  obtain ⟨u, rfl, ru⟩ := vals1 r
  obtain rfl : u = Value.ref a := ru
  obtain ⟨k1, k2⟩ := okM_of hok
  obtain ⟨as, ra⟩ := reads_all I _ _ _ hd rv
  exact PySem.W.min_list_data (I.ok.hd hc) hl.isList ra k1 (by omega) fun i v h' tk bs e r k => best_end I hd rv e r k q
theorem cr_maxD (hc : X.calm = true) (hu : X.A.units + 64 < cLine) : CallRK X (.builtin "max") ["default"] (rBestD X.K PySem.W.maxD) := by
  intro pins s σ H us zs ws ys Q I r rz h
  obtain ⟨a, vs, z, ds, rfl, rfl, hs, hd, hok, q0, q⟩ := h
  obtain ⟨its, rv, hl, hz⟩ := I.list hs
  obtain ⟨u, rfl, ru⟩ := vals1 r
  obtain rfl : u = Value.ref a := ru
  obtain ⟨y, rfl, ry⟩ := vals1 rz
  obtain ⟨k1, k2⟩ := okM_of hok
  obtain ⟨as, ra⟩ := reads_all I _ _ _ hd rv
  exact PySem.W.max_list_default (I.ok.hd hc) hl.isList ra k1 (by omega) (fun e h' tk k => ⟨z, H, I.kept (t' := tk) k, ry, q0 e⟩) fun d r i v h' tk bs e ev rd k => best_end I hd rv ev rd k fun i v => q d r i v e
theorem cr_minD (hc : X.calm = true) (hu : X.A.units + 64 < cLine) : CallRK X (.builtin "min") ["default"] (rBestD X.K PySem.W.minD) := by
  intro pins s σ H us zs ws ys Q I r rz h
  obtain ⟨a, vs, z, ds, rfl, rfl, hs, hd, hok, q0, q⟩ := h
  obtain ⟨its, rv, hl, hz⟩ := I.list hs
  obtain ⟨u, rfl, ru⟩ := vals1 r
  obtain rfl : u = Value.ref a := ru
  obtain ⟨y, rfl, ry⟩ := vals1 rz
  obtain ⟨k1, k2⟩ := okM_of hok
  obtain ⟨as, ra⟩ := reads_all I _ _ _ hd rv
  exact PySem.W.min_list_default (I.ok.hd hc) hl.isList ra k1 (by omega) (fun e h' tk k => ⟨z, H, I.kept (t' := tk) k, ry, q0 e⟩) fun d r i v h' tk bs e ev rd k => best_end I hd rv ev rd k fun i v => q d r i v e
end
/-- the best of a list -/
def bestO (g : D → List D → D) (xs : List D) : Option D := match xs with
  | [] => none
  | d :: r => if okM (d :: r) then some (g d r) else none
def bestD (g : D → List D → D) (xs : List D) (z : D) : Option D := match xs with
  | [] => some z
  | d :: r => if okM (d :: r) then some (g d r) else none
def mBest (g : D → List D → D) (m : MN) : ME := fun ρ S => (m ρ S).bind fun p => (bestO g p.1).map fun z => (z, p.2)
def mBestD (g : D → List D → D) (m : MN) (z : D) : ME := fun ρ S => (m ρ S).bind fun p => (bestD g p.1 z).map fun z => (z, p.2)
section
variable {K : PySem.W.Frag} {te tf : TE} {mn : MN} {me : ME} {g : D → List D → D}
theorem im_best (h : ImL K te mn) : ImE K (tCB (rBest K g) (tCons te tNil)) (mBest g mn) := fun σ H M ρ S b S' hs ok e Q q => by
  unfold mBest at e
  cases e1 : mn ρ S with
  | none => rw [e1] at e; cases e
  | some p =>
    rw [e1, Option.bind_some] at e
    obtain ⟨xs, S1⟩ := p
    simp only at e
    cases xs with
    | nil => cases e
    | cons d r =>
      unfold bestO at e
      simp only at e
      split at e <;> first | (cases e; done) | skip
      rename_i hok
      cases e
      refine h σ H M ρ S _ _ hs ok e1 _ fun a vs H1 M1 x1 ok1 sq rr => ?_
      refine ⟨a, vs, d, r, rfl, sq, rr.dp, hok, fun i v ev ed => ?_⟩
      obtain ⟨d2, e2, rv⟩ := rr.get' ev
      rw [ed] at e2
      cases e2
      exact q v H1 M1 x1 ok1 rv
theorem im_bestD (h : ImL K te mn) (n : Int) : ImE K (tCKw (rBestD K g) (tCons te tNil) (tCons (tC (.int n)) tNil)) (mBestD g mn (.int n)) := fun σ H M ρ S b S' hs ok e Q q => by
  unfold mBestD at e
  cases e1 : mn ρ S with
  | none => rw [e1] at e; cases e
  | some p =>
    rw [e1, Option.bind_some] at e
    obtain ⟨xs, S1⟩ := p
    simp only at e
    refine h σ H M ρ S _ _ hs ok e1 _ fun a vs H1 M1 x1 ok1 sq rr => ?_
    cases xs with
    | nil =>
      cases e
      exact ⟨a, vs, .int n, [], rfl, rfl, sq, rr.dp, rfl, fun _ => q _ H1 M1 x1 ok1 (.int n), fun d r i v e => by cases e⟩
    | cons d r =>
      unfold bestD at e
      simp only at e
      split at e <;> first | (cases e; done) | skip
      rename_i hok
      cases e
      refine ⟨a, vs, .int n, d :: r, rfl, rfl, sq, rr.dp, hok, (fun e => by cases e), fun d' r' i v e0 ev ed => ?_⟩
      cases e0
      obtain ⟨d2, e3, rv⟩ := rr.get' ev
      rw [ed] at e3
      cases e3
      exact q v H1 M1 x1 ok1 rv
end
section
variable {ι : Type} {F : Fam ι} {e : Expr} {mn : MN} {pos px : Pos}
theorem d_maxL (hm : ∀ i, (F.X i).mg "max" = none) (h : PDL F e mn) (hg : ∀ i, Gl (F.X i) "max" := by exact fun _ => rfl) (hs : ∀ i, starEach [e] (F.X i).env = (false, eval e (F.X i).env) :: starEach [] (F.X i).env := by intro _; rfl) :
    PDE F (.Call (.Name "max" px) [e] [] pos) (mBest PySem.W.maxD mn) := by
  obtain ⟨t, p, q⟩ := h
  exact ⟨_, fun i => call1 (by have := cr_maxX (X := F.X i) (F.calm i) (k_units F i); rw [F.hK i] at this; exact this) (hg i) (hm i) (by decide +kernel) (p i) (by decide) (by decide) (hs i), im_best q⟩
theorem d_minL (hm : ∀ i, (F.X i).mg "min" = none) (h : PDL F e mn) (hg : ∀ i, Gl (F.X i) "min" := by exact fun _ => rfl) (hs : ∀ i, starEach [e] (F.X i).env = (false, eval e (F.X i).env) :: starEach [] (F.X i).env := by intro _; rfl) :
    PDE F (.Call (.Name "min" px) [e] [] pos) (mBest PySem.W.minD mn) := by
  obtain ⟨t, p, q⟩ := h
  exact ⟨_, fun i => call1 (by have := cr_minX (X := F.X i) (F.calm i) (k_units F i); rw [F.hK i] at this; exact this) (hg i) (hm i) (by decide +kernel) (p i) (by decide) (by decide) (hs i), im_best q⟩
theorem d_maxLD {n : Int} {j : Nat} {p1 p2 : Pos} (hm : ∀ i, (F.X i).mg "max" = none) (h : PDL F e mn) (hg : ∀ i, Gl (F.X i) "max" := by exact fun _ => rfl)
    (hs : ∀ i, starEach [e] (F.X i).env = (false, eval e (F.X i).env) :: starEach [] (F.X i).env := by intro _; rfl)
    (hs2 : ∀ i, backTo pos (starEach [e] (F.X i).env) = (false, eval e (F.X i).env) :: backTo pos (starEach [] (F.X i).env) := by intro _; rfl) (hpl : ∀ i, (backTo pos (starEach [e] (F.X i).env)).any (·.1) = false := by intro _; rfl)
    (hall : ∀ i, (backToKw pos (keywordEach [⟨some "default", .Constant (.int n) j p1, p2⟩] (F.X i).env)).all (·.1.isSome) = true := by intro _; rfl) (hnone : ∀ i, (backToKw pos (keywordEach [⟨some "default", .Constant (.int n) j p1, p2⟩] (F.X i).env)).any (·.1.isNone) = false := by intro _; rfl)
    (hks : ∀ i, (backToKw pos (keywordEach [⟨some "default", .Constant (.int n) j p1, p2⟩] (F.X i).env)).filterMap (·.1) = (["default"] : List Str) := by intro _; rfl) : PDE F (.Call (.Name "max" px) [e] [⟨some "default", .Constant (.int n) j p1, p2⟩] pos) (mBestD PySem.W.maxD mn (.int n)) := by
  obtain ⟨t, p, q⟩ := h
  exact ⟨_, fun i => pe_callBK (by have := cr_maxD (X := F.X i) (F.calm i) (k_units F i); rw [F.hK i] at this; exact this) (hg i) (hm i) (by decide +kernel) (pa_cons (p i) pa_nil (hs i)) (pk_cons pe_int pk_nil) (by decide) (by decide) (hs2 i) (hpl i) (hall i) (hnone i) (hks i), im_bestD q n⟩
end
end G
set_option linter.all false
set_option autoImplicit false
set_option maxRecDepth 100000
set_option maxHeartbeats 2000000
namespace G
open PySem L2
/-! what a clause names, told by the classes above -/
theorem kc_ref {K : PySem.W.Frag} {S C : Addr} {b : Bool} (hc : PySem.W.isClsIn K C = true) (ht : PySem.W.typeIn K (.ref C) = some (.type "type")) (hs : PySem.W.subIn K (.ref S) (.ref C) = some b) : PySem.W.kitCls K (.ref S) (.ref C) = some b := by
  have hc : (PySem.W.clsIn K C).isSome = true := hc
  unfold PySem.W.kitCls
  simp only [hc, ht, hs, Bool.true_and]
  rfl
theorem ex_ref {K : PySem.W.Frag} {S C : Addr} {b : Bool} (he : PySem.W.subIn K (.ref C) (.type "BaseException") = some true) (hc : PySem.W.isClsIn K C = true) (ht : PySem.W.typeIn K (.ref C) = some (.type "type")) (hs : PySem.W.subIn K (.ref S) (.ref C) = some b) : PySem.W.exmOne K (.ref S) (.ref C) = some b := by
  unfold PySem.W.exmOne
  simp only [he]
  exact kc_ref hc ht hs
theorem k1_ref {K : PySem.W.Frag} {S C : Addr} (hc : PySem.W.isClsIn K C = true) (ht : PySem.W.typeIn K (.ref C) = some (.type "type")) (hs : PySem.W.subIn K (.ref S) (.ref C) = some true) : PySem.W.kitOne K (.ref S) (.ref C) = some true := by
  unfold PySem.W.kitOne
  rw [kc_ref hc ht hs]
  split <;> rfl
theorem k1_not {K : PySem.W.Frag} {S C : Addr} (hc : PySem.W.isClsIn K C = true) (ht : PySem.W.typeIn K (.ref C) = some (.type "type")) (hs : PySem.W.subIn K (.ref S) (.ref C) = some false) (hr : PySem.W.subIn K (.ref C) (.ref C) = some true) : PySem.W.kitOne K (.ref S) (.ref C) = some false := by
  unfold PySem.W.kitOne
  rw [kc_ref hc ht hs]
  split
  · rename_i e
    have e : (Value.ref S) = .ref C := by simpa using e
    rw [e, hr] at hs
    cases hs
  · rfl
theorem k1_ty {K : PySem.W.Frag} {S : Addr} {b : Bool} (hs : PySem.W.subIn K (.ref S) (.type "ValueError") = some b) : PySem.W.kitOne K (.ref S) (.type "ValueError") = some b := by
  have hm : PySem.W.kitMeta "ValueError" = true := by decide +kernel
  unfold PySem.W.kitOne PySem.W.kitCls
  simp only [hm, if_true, hs]
  split <;> first | rfl | (rename_i e; simp at e)
end G
set_option Elab.async false
set_option linter.all false
set_option autoImplicit false
set_option maxRecDepth 100000
set_option maxHeartbeats 4000000
/-! From readings over slots and cells to plain functions. -/
namespace G
open PySem L2
inductive Pv where
  | d (x : D)
  | c (xs : List D)
  | p (n : Nat) (xs : List D)
  | q (x : D)
abbrev Env := List (Option Pv)
structure Mt (S0 : Sto) (pc : List Nat) (e : Env) (ρ : Rho) (S : Sto) : Prop where
  len : ρ.length = e.length
  d : ∀ (i : Nat) (x : D), e[i]? = some (some (Pv.d x)) → ρ[i]? = some (some (Sl.d x))
  c : ∀ (i : Nat) (xs : List D), e[i]? = some (some (Pv.c xs)) → ∃ n, ρ[i]? = some (some (Sl.loc n)) ∧ S[n]? = some (some xs) ∧ S0.length ≤ n
  p : ∀ (i n : Nat) (xs : List D), e[i]? = some (some (Pv.p n xs)) → ρ[i]? = some (some (Sl.loc n)) ∧ S[n]? = some (some xs) ∧ n ∈ pc
  q : ∀ (i : Nat) (x : D), e[i]? = some (some (Pv.q x)) → ρ[i]? = some (some (Sl.d x)) ∨ ∃ n xs, x = .list xs ∧ ρ[i]? = some (some (Sl.loc n)) ∧ S[n]? = some (some xs) ∧ n < S0.length ∧ n ∉ pc
  dj : ∀ (i j : Nat) (xs ys : List D) (n : Nat), i ≠ j → e[i]? = some (some (Pv.c xs)) → e[j]? = some (some (Pv.c ys)) → ρ[i]? = some (some (Sl.loc n)) → ρ[j]? = some (some (Sl.loc n)) → False
  pd : ∀ (i j n m : Nat) (xs ys : List D), i ≠ j → e[i]? = some (some (Pv.p n xs)) → e[j]? = some (some (Pv.p m ys)) → n ≠ m
  pl : ∀ n ∈ pc, n < S0.length
  le : S0.length ≤ S.length
  fr : ∀ n : Nat, n < S0.length → n ∉ pc → S[n]? = S0[n]?
section
variable {S0 : Sto} {pc : List Nat} {e e' : Env} {ρ ρ' : Rho} {S S' : Sto}
theorem get_set {α : Type} {l : List α} {i j : Nat} {a b : α} (h : (l.set i a)[j]? = some b) : (i = j ∧ a = b) ∨ (i ≠ j ∧ l[j]? = some b) := by
  by_cases hj : i = j
  · subst hj
    by_cases hl : i < l.length
    · rw [List.getElem?_set_self hl] at h; exact .inl ⟨rfl, Option.some.inj h⟩
    · rw [List.getElem?_eq_none (by rw [List.length_set]; omega)] at h; cases h
  · rw [List.getElem?_set_ne hj] at h; exact .inr ⟨hj, h⟩
/-- a slot takes a value of data, another cell or nothing: what is known of the others stays -/
theorem Mt.put (m : Mt S0 pc e ρ S) (i : Nat) (v : Option Pv) (w : Option Sl)
    (hd : ∀ x, v = some (Pv.d x) → w = some (.d x))
    (hc : ∀ xs, v = some (Pv.c xs) → ∃ n, w = some (.loc n) ∧ S[n]? = some (some xs) ∧ S0.length ≤ n ∧ ∀ (j : Nat) (ys : List D), j ≠ i → e[j]? = some (some (Pv.c ys)) → ρ[j]? ≠ some (some (Sl.loc n)))
    (hp : ∀ n xs, v ≠ some (Pv.p n xs)) (hq : ∀ x, v ≠ some (Pv.q x)) : Mt S0 pc (e.set i v) (ρ.set i w) S := by
  have hs : ∀ (j : Nat) (v' : Option Pv), (e.set i v)[j]? = some v' → (i = j ∧ v = v' ∧ j < ρ.length) ∨ (i ≠ j ∧ e[j]? = some v') := fun j v' h => by
    rcases get_set h with ⟨a, b⟩ | h
    · refine .inl ⟨a, b, ?_⟩
      have := (List.getElem?_eq_some_iff.mp h).1
      rw [List.length_set] at this
      rw [m.len]; exact this
    · exact .inr h
  refine ⟨by rw [List.length_set, List.length_set]; exact m.len, ?_, ?_, ?_, ?_, ?_, ?_, m.pl, m.le, m.fr⟩
  · intro j x h
    rcases hs j _ h with ⟨rfl, h1, h2⟩ | ⟨h1, h2⟩
    · rw [List.getElem?_set_self h2, hd x h1]
    · rw [List.getElem?_set_ne h1]; exact m.d j x h2
  · intro j xs h
    rcases hs j _ h with ⟨rfl, h1, h2⟩ | ⟨h1, h2⟩
    · obtain ⟨n, a, b, c, _⟩ := hc xs h1
      exact ⟨n, by rw [List.getElem?_set_self h2, a], b, c⟩
    · rw [List.getElem?_set_ne h1]; exact m.c j xs h2
  · intro j n xs h
    rcases hs j _ h with ⟨rfl, h1, h2⟩ | ⟨h1, h2⟩
    · exact absurd h1 (hp n xs)
    · rw [List.getElem?_set_ne h1]; exact m.p j n xs h2
  · intro j x h
    rcases hs j _ h with ⟨rfl, h1, h2⟩ | ⟨h1, h2⟩
    · exact absurd h1 (hq x)
    · rw [List.getElem?_set_ne h1]; exact m.q j x h2
  · intro j k xs ys n hn h1 h2 r1 r2
    rcases hs j _ h1 with ⟨rfl, a1, a2⟩ | ⟨a1, a2⟩
    · rcases hs k _ h2 with ⟨b0, b1, b2⟩ | ⟨b1, b2⟩
      · exact hn b0
      · obtain ⟨n', c1, c2, c3, c4⟩ := hc xs a1
        rw [List.getElem?_set_self a2, c1] at r1
        rw [List.getElem?_set_ne b1] at r2
        cases r1
        exact c4 k ys (Ne.symm b1) b2 r2
    · rw [List.getElem?_set_ne a1] at r1
      rcases hs k _ h2 with ⟨rfl, b1, b2⟩ | ⟨b1, b2⟩
      · obtain ⟨n', c1, c2, c3, c4⟩ := hc ys b1
        rw [List.getElem?_set_self b2, c1] at r2
        cases r2
        exact c4 j xs (Ne.symm a1) a2 r1
      · rw [List.getElem?_set_ne b1] at r2
        exact m.dj j k xs ys n hn a2 b2 r1 r2
  · intro j k n n' xs ys hn h1 h2
    rcases hs j _ h1 with ⟨_, a1, _⟩ | ⟨a1, a2⟩
    · exact absurd a1 (hp n xs)
    · rcases hs k _ h2 with ⟨_, b1, _⟩ | ⟨b1, b2⟩
      · exact absurd b1 (hp n' ys)
      · exact m.pd j k n n' xs ys hn a2 b2
theorem Mt.setd (m : Mt S0 pc e ρ S) (i : Nat) (x : D) : Mt S0 pc (e.set i (some (.d x))) (ρ.set i (some (.d x))) S :=
  m.put i _ _ (fun y h => by cases h; rfl) (fun xs h => by cases h) (fun n xs h => by cases h) (fun x h => by cases h)
theorem Mt.unset (m : Mt S0 pc e ρ S) (i : Nat) (w : Option Sl) : Mt S0 pc (e.set i none) (ρ.set i w) S :=
  m.put i _ _ (fun y h => by cases h) (fun xs h => by cases h) (fun n xs h => by cases h) (fun x h => by cases h)
theorem Mt.lt (m : Mt S0 pc e ρ S) {j n : Nat} {xs : List D} (h : e[j]? = some (some (Pv.c xs))) (h2 : ρ[j]? = some (some (Sl.loc n))) : n < S.length := by
  obtain ⟨n', a, b, _⟩ := m.c j xs h
  rw [h2] at a; cases a
  exact (List.getElem?_eq_some_iff.mp b).1
/-- a new cell -/
theorem Mt.grow (m : Mt S0 pc e ρ S) (c : Option (List D)) : Mt S0 pc e ρ (S ++ [c]) := by
  have k : ∀ (n : Nat) (x : Option (List D)), S[n]? = some x → (S ++ [c])[n]? = some x := fun n x h => by
    rw [List.getElem?_append_left (List.getElem?_eq_some_iff.mp h).1]; exact h
  refine ⟨m.len, m.d, ?_, ?_, ?_, m.dj, m.pd, m.pl, by rw [List.length_append]; have := m.le; omega, ?_⟩
  · intro i xs h; obtain ⟨n, a, b, d⟩ := m.c i xs h; exact ⟨n, a, k _ _ b, d⟩
  · intro i n xs h; obtain ⟨a, b, d⟩ := m.p i n xs h; exact ⟨a, k _ _ b, d⟩
  · intro i x h
    rcases m.q i x h with a | ⟨n, xs, a, b, d, f⟩
    · exact .inl a
    · exact .inr ⟨n, xs, a, b, k _ _ d, f⟩
  · intro n h1 h2
    rw [List.getElem?_append_left (by have := m.le; omega)]; exact m.fr n h1 h2
theorem Mt.new (m : Mt S0 pc e ρ S) (i : Nat) (xs : List D) : Mt S0 pc (e.set i (some (.c xs))) (ρ.set i (some (.loc S.length))) (S ++ [some xs]) :=
  (m.grow (some xs)).put i _ _ (fun y h => by cases h) (fun ys h => by
    cases h
    refine ⟨S.length, rfl, by rw [List.getElem?_append_right (Nat.le_refl _), Nat.sub_self]; rfl, m.le, fun j ys hj h1 h2 => ?_⟩
    have := m.lt h1 h2
    omega) (fun n xs h => by cases h) (fun x h => by cases h)
/-- a cell is written -/
theorem Mt.wrc (m : Mt S0 pc e ρ S) {i n : Nat} {xs : List D} (h : e[i]? = some (some (Pv.c xs))) (hn : ρ[i]? = some (some (Sl.loc n))) (ys : List D) : Mt S0 pc (e.set i (some (.c ys))) ρ (S.set n (some ys)) := by
  obtain ⟨n', a, b, d⟩ := m.c i xs h
  rw [hn] at a; cases a
  have hl := (List.getElem?_eq_some_iff.mp b).1
  have hs : ∀ (j : Nat) (v' : Option Pv), (e.set i (some (.c ys)))[j]? = some v' → (i = j ∧ v' = some (.c ys)) ∨ (i ≠ j ∧ e[j]? = some v') := fun j v' h => by
    rcases get_set h with ⟨a, b⟩ | h
    · exact .inl ⟨a, b.symm⟩
    · exact .inr h
  refine ⟨by rw [List.length_set]; exact m.len, ?_, ?_, ?_, ?_, ?_, ?_, m.pl, by rw [List.length_set]; exact m.le, ?_⟩
  · intro j x h
    rcases hs j _ h with ⟨_, h1⟩ | ⟨h1, h2⟩
    · cases h1
    · exact m.d j x h2
  · intro j zs h
    rcases hs j _ h with ⟨rfl, h1⟩ | ⟨h1, h2⟩
    · cases h1; exact ⟨n, hn, List.getElem?_set_self hl, d⟩
    · obtain ⟨k, a1, a2, a3⟩ := m.c j zs h2
      refine ⟨k, a1, ?_, a3⟩
      rw [List.getElem?_set_ne]
      · exact a2
      · intro ek; subst ek; exact m.dj i j xs zs n h1 ‹_› h2 hn a1
  · intro j k zs h
    rcases hs j _ h with ⟨_, h1⟩ | ⟨h1, h2⟩
    · cases h1
    · obtain ⟨a1, a2, a3⟩ := m.p j k zs h2
      refine ⟨a1, ?_, a3⟩
      rw [List.getElem?_set_ne]
      · exact a2
      · intro ek; subst ek; have := m.pl _ a3; omega
  · intro j x h
    rcases hs j _ h with ⟨_, h1⟩ | ⟨h1, h2⟩
    · cases h1
    · rcases m.q j x h2 with a1 | ⟨k, zs, a1, a2, a3, a4, a5⟩
      · exact .inl a1
      · refine .inr ⟨k, zs, a1, a2, ?_, a4, a5⟩
        rw [List.getElem?_set_ne]
        · exact a3
        · omega
  · intro j k zs ws l hjk h1 h2 r1 r2
    rcases hs j _ h1 with ⟨rfl, _⟩ | ⟨_, a2⟩
    · rcases hs k _ h2 with ⟨b1, _⟩ | ⟨_, b2⟩
      · exact hjk b1
      · exact m.dj i k xs ws l hjk h b2 r1 r2
    · rcases hs k _ h2 with ⟨rfl, _⟩ | ⟨_, b2⟩
      · exact m.dj j i zs xs l hjk a2 h r1 r2
      · exact m.dj j k zs ws l hjk a2 b2 r1 r2
  · intro j k l l' zs ws hjk h1 h2
    rcases hs j _ h1 with ⟨_, a1⟩ | ⟨_, a2⟩
    · cases a1
    · rcases hs k _ h2 with ⟨_, b1⟩ | ⟨_, b2⟩
      · cases b1
      · exact m.pd j k l l' zs ws hjk a2 b2
  · intro k h1 h2
    rw [List.getElem?_set_ne (by omega)]; exact m.fr k h1 h2
theorem Mt.wrp (m : Mt S0 pc e ρ S) {i n : Nat} {xs : List D} (h : e[i]? = some (some (Pv.p n xs))) (ys : List D) : Mt S0 pc (e.set i (some (.p n ys))) ρ (S.set n (some ys)) := by
  obtain ⟨hn, b, d⟩ := m.p i n xs h
  have hl := (List.getElem?_eq_some_iff.mp b).1
  have hp := m.pl n d
  have hs : ∀ (j : Nat) (v' : Option Pv), (e.set i (some (.p n ys)))[j]? = some v' → (i = j ∧ v' = some (.p n ys)) ∨ (i ≠ j ∧ e[j]? = some v') := fun j v' h => by
    rcases get_set h with ⟨a, b⟩ | h
    · exact .inl ⟨a, b.symm⟩
    · exact .inr h
  refine ⟨by rw [List.length_set]; exact m.len, ?_, ?_, ?_, ?_, ?_, ?_, m.pl, by rw [List.length_set]; exact m.le, ?_⟩
  · intro j x h
    rcases hs j _ h with ⟨_, h1⟩ | ⟨h1, h2⟩
    · cases h1
    · exact m.d j x h2
  · intro j zs h
    rcases hs j _ h with ⟨_, h1⟩ | ⟨h1, h2⟩
    · cases h1
    · obtain ⟨k, a1, a2, a3⟩ := m.c j zs h2
      exact ⟨k, a1, by rw [List.getElem?_set_ne (by omega)]; exact a2, a3⟩
  · intro j k zs hj
    rcases hs j _ hj with ⟨rfl, h1⟩ | ⟨h1, h2⟩
    · cases h1; exact ⟨hn, List.getElem?_set_self hl, d⟩
    · obtain ⟨a1, a2, a3⟩ := m.p j k zs h2
      exact ⟨a1, by rw [List.getElem?_set_ne (m.pd i j n k xs zs h1 h h2)]; exact a2, a3⟩
  · intro j x h
    rcases hs j _ h with ⟨_, h1⟩ | ⟨h1, h2⟩
    · cases h1
    · rcases m.q j x h2 with a1 | ⟨k, zs, a1, a2, a3, a4, a5⟩
      · exact .inl a1
      · refine .inr ⟨k, zs, a1, a2, ?_, a4, a5⟩
        rw [List.getElem?_set_ne]
        · exact a3
        · intro ek; subst ek; exact a5 d
  · intro j k zs ws l hjk h1 h2 r1 r2
    rcases hs j _ h1 with ⟨_, a1⟩ | ⟨_, a2⟩
    · cases a1
    · rcases hs k _ h2 with ⟨_, b1⟩ | ⟨_, b2⟩
      · cases b1
      · exact m.dj j k zs ws l hjk a2 b2 r1 r2
  · intro j k l l' zs ws hjk h1 h2
    rcases hs j _ h1 with ⟨rfl, a1⟩ | ⟨a0, a2⟩
    · cases a1
      rcases hs k _ h2 with ⟨b0, b1⟩ | ⟨b0, b2⟩
      · exact absurd b0 hjk
      · exact m.pd i k _ l' xs ws hjk h b2
    · rcases hs k _ h2 with ⟨rfl, b1⟩ | ⟨b0, b2⟩
      · cases b1; exact m.pd j i l _ zs xs hjk a2 h
      · exact m.pd j k l l' zs ws hjk a2 b2
  · intro k h1 h2
    rw [List.getElem?_set_ne (by intro ek; subst ek; exact h2 d)]; exact m.fr k h1 h2
/-- less is known -/
inductive Wk : Env → Env → Prop
  | nil : Wk [] []
  | keep {x : Option Pv} {a b : Env} : Wk a b → Wk (x :: a) (x :: b)
  | drop {x : Option Pv} {a b : Env} : Wk a b → Wk (x :: a) (none :: b)
theorem Wk.at_ {a b : Env} (w : Wk a b) : ∀ {i : Nat} {v : Pv}, b[i]? = some (some v) → a[i]? = some (some v) := by
  induction w with
  | nil => intro i v h; cases i <;> cases h
  | keep _ ih => intro i v h; cases i with
    | zero => exact h
    | succ i => exact ih h
  | drop _ ih => intro i v h; cases i with
    | zero => cases h
    | succ i => exact ih h
theorem Wk.len {a b : Env} (w : Wk a b) : a.length = b.length := by
  induction w with
  | nil => rfl
  | keep _ ih => rw [List.length_cons, List.length_cons, ih]
  | drop _ ih => rw [List.length_cons, List.length_cons, ih]
theorem Wk.refl : ∀ a : Env, Wk a a
  | [] => .nil
  | _ :: a => .keep (Wk.refl a)
theorem Mt.weak (m : Mt S0 pc e ρ S) (w : Wk e e') : Mt S0 pc e' ρ S :=
  ⟨by rw [m.len, w.len], fun i x h => m.d i x (w.at_ h), fun i xs h => m.c i xs (w.at_ h), fun i n xs h => m.p i n xs (w.at_ h), fun i x h => m.q i x (w.at_ h),
    fun i j xs ys n hn h1 h2 => m.dj i j xs ys n hn (w.at_ h1) (w.at_ h2), fun i j n k xs ys hn h1 h2 => m.pd i j n k xs ys hn (w.at_ h1) (w.at_ h2), m.pl, m.le, m.fr⟩
/-- a cell of a name: its own one, or a parameter's -/
def celP (k : Option Nat) (xs : List D) : Pv := match k with
  | none => .c xs
  | some n => .p n xs
theorem Mt.cell (m : Mt S0 pc e ρ S) {i : Nat} {k : Option Nat} {xs : List D} (h : e[i]? = some (some (celP k xs))) : ∃ n, ρ[i]? = some (some (Sl.loc n)) ∧ S[n]? = some (some xs) := by
  cases k with
  | none => obtain ⟨n, a, b, _⟩ := m.c i xs h; exact ⟨n, a, b⟩
  | some n => obtain ⟨a, b, _⟩ := m.p i n xs h; exact ⟨n, a, b⟩
theorem Mt.wr (m : Mt S0 pc e ρ S) {i n : Nat} {k : Option Nat} {xs : List D} (h : e[i]? = some (some (celP k xs))) (hn : ρ[i]? = some (some (Sl.loc n))) (ys : List D) : Mt S0 pc (e.set i (some (celP k ys))) ρ (S.set n (some ys)) := by
  cases k with
  | none => exact m.wrc h hn ys
  | some l =>
    have := (m.p i l xs h).1
    rw [hn] at this
    cases this
    exact m.wrp h ys
def wipeE (e : Env) : List Nat → Env
  | [] => e
  | v :: vs => (wipeE e vs).set v none
theorem Mt.wipe (m : Mt S0 pc e ρ S) : ∀ vs, Mt S0 pc (wipeE e vs) (wipeR ρ vs) S
  | [] => m
  | v :: vs => (Mt.wipe m vs).unset v none
theorem wipeR_ne {j : Nat} : ∀ {vs : List Nat}, j ∉ vs → (wipeR ρ vs)[j]? = ρ[j]?
  | [], _ => rfl
  | v :: vs, h => by
    rw [List.mem_cons, not_or] at h
    show ((wipeR ρ vs).set v none)[j]? = _
    rw [List.getElem?_set_ne (Ne.symm h.1)]
    exact wipeR_ne h.2
end
/-! ## Expressions -/
section
variable (S0 : Sto) (pc : List Nat)
abbrev MX (β : Type) := Rho → Sto → Option (β × Sto)
def HP {β : Type} (e : Env) (m : MX β) (o : Option β) : Prop := ∀ ρ S, Mt S0 pc e ρ S → ∀ b, o = some b → m ρ S = some (b, S)
/-- .. that change one cell -/
def HX {β : Type} (e : Env) (i : Nat) (k : Option Nat) (x0 : List D) (m : MX β) (o : Option (β × List D)) : Prop :=
  ∀ ρ S, Mt S0 pc (e.set i (some (celP k x0))) ρ S → i < e.length → ∀ b x, o = some (b, x) → ∃ n, ρ[i]? = some (some (Sl.loc n)) ∧ m ρ S = some (b, S.set n (some x))
end
section
variable {S0 : Sto} {pc : List Nat} {e e' : Env} {i : Nat} {k : Option Nat} {x0 : List D} {β γ δ : Type}
theorem hp_bind {m : MX β} {o : Option β} {f : β → MX γ} {g : β → Option γ} (h : HP S0 pc e m o) (h2 : ∀ b, HP S0 pc e (f b) (g b)) : HP S0 pc e (fun ρ S => (m ρ S).bind fun p => f p.1 ρ p.2) (o.bind g) := fun ρ S t c q => by
  cases ho : o with
  | none => rw [ho] at q; cases q
  | some b =>
    rw [ho] at q
    show (m ρ S).bind _ = _
    rw [h ρ S t b ho]
    exact h2 b ρ S t c q
theorem hp_map {m : MX β} {o : Option β} {f : β → γ} (h : HP S0 pc e m o) : HP S0 pc e (fun ρ S => (m ρ S).map fun p => (f p.1, p.2)) (o.map f) := fun ρ S t c q => by
  cases ho : o with
  | none => rw [ho] at q; cases q
  | some b =>
    rw [ho] at q
    show (m ρ S).map _ = _
    rw [h ρ S t b ho]
    cases q
    rfl
theorem hp_lift (o : Option β) : HP S0 pc e (fun _ S => o.map fun z => (z, S)) o := fun ρ S t c q => by
  rw [q]; rfl
theorem hp_bindo {m : MX β} {o : Option β} {g : β → Option γ} (h : HP S0 pc e m o) : HP S0 pc e (fun ρ S => (m ρ S).bind fun p => (g p.1).map fun z => (z, p.2)) (o.bind g) :=
  hp_bind (f := fun b _ S => (g b).map fun z => (z, S)) h fun b => hp_lift (g b)
theorem hx_bind {m : MX β} {o : Option (β × List D)} {f : β → MX γ} {g : β → List D → Option (γ × List D)} (h : HX S0 pc e i k x0 m o) (h2 : ∀ b x, HX S0 pc e i k x (f b) (g b x)) : HX S0 pc e i k x0 (fun ρ S => (m ρ S).bind fun p => f p.1 ρ p.2) (o.bind fun a => g a.1 a.2) := fun ρ S t hi c y q => by
  cases ho : o with
  | none => rw [ho] at q; cases q
  | some b =>
    rw [ho] at q
    show ∃ n, _ ∧ (m ρ S).bind _ = _
    obtain ⟨n, a1, a2⟩ := h ρ S t hi b.1 b.2 (by rw [ho])
    have t2 := t.wr (k := k) (xs := x0) (i := i) (List.getElem?_set_self hi) a1 b.2
    rw [List.set_set] at t2
    obtain ⟨n', b1, b2⟩ := h2 b.1 b.2 ρ _ t2 hi c y q
    rw [a1] at b1
    cases b1
    rw [List.set_set] at b2
    exact ⟨n, a1, by rw [a2]; exact b2⟩
theorem hx_of {m : MX β} {o : Option β} (h : HP S0 pc (e.set i (some (celP k x0))) m o) : HX S0 pc e i k x0 m (o.map fun b => (b, x0)) := fun ρ S t hi c y q => by
  cases ho : o with
  | none => rw [ho] at q; cases q
  | some b =>
    rw [ho] at q
    cases q
    obtain ⟨n, a1, a2⟩ := t.cell (i := i) (k := k) (xs := x0) (List.getElem?_set_self hi)
    refine ⟨n, a1, ?_⟩
    rw [h ρ S t _ ho]
    have hl := (List.getElem?_eq_some_iff.mp a2).1
    have : S.set n (some x0) = S := by
      rw [List.getElem?_eq_getElem hl] at a2
      rw [← Option.some.inj a2]
      exact List.set_getElem_self hl
    rw [this]
theorem hx_map {m : MX β} {o : Option (β × List D)} {f : β → γ} (h : HX S0 pc e i k x0 m o) : HX S0 pc e i k x0 (fun ρ S => (m ρ S).map fun p => (f p.1, p.2)) (o.map fun a => (f a.1, a.2)) := fun ρ S t hi c y q => by
  cases ho : o with
  | none => rw [ho] at q; cases q
  | some b =>
    rw [ho] at q
    obtain ⟨n, a1, a2⟩ := h ρ S t hi b.1 b.2 (by rw [ho])
    cases q
    exact ⟨n, a1, by show (m ρ S).map _ = _; rw [a2]; rfl⟩
theorem hx_bindo {m : MX β} {o : Option (β × List D)} {g : β → Option γ} (h : HX S0 pc e i k x0 m o) : HX S0 pc e i k x0 (fun ρ S => (m ρ S).bind fun p => (g p.1).map fun z => (z, p.2)) (o.bind fun a => (g a.1).map fun z => (z, a.2)) :=
  hx_bind (f := fun b _ S => (g b).map fun z => (z, S)) (g := fun b x => (g b).map fun z => (z, x)) h fun b x => hx_of (hp_lift (g b))
end
end G
set_option Elab.async false
set_option linter.all false
set_option autoImplicit false
set_option maxRecDepth 100000
set_option maxHeartbeats 4000000
namespace G
open PySem L2
section
variable {S0 : Sto} {pc : List Nat} {e e' : Env} {i j : Nat} {k : Option Nat} {x0 : List D} {β γ δ : Type}
/-! ### names -/
def datAt (v : Option (Option Pv)) : Option D := match v with
  | some (some (.d x)) => some x
  | _ => none
def seqAt (v : Option (Option Pv)) : Option (List D) := match v with
  | some (some (.d x)) => asQ x
  | some (some (.q x)) => asQ x
  | some (some (.c xs)) => some xs
  | some (some (.p _ xs)) => some xs
  | _ => none
def lstAt (v : Option (Option Pv)) : Option (List D) := match v with
  | some (some (.d x)) => asL x
  | some (some (.q x)) => asL x
  | some (some (.c xs)) => some xs
  | some (some (.p _ xs)) => some xs
  | _ => none
theorem hp_var {x : D} (h : e[j]? = some (some (Pv.d x))) : HP S0 pc e (mVar j) (some x) := fun ρ S t c q => by
  cases q
  unfold mVar
  rw [t.d j x h]
theorem hp_c (x : D) : HP S0 pc e (mC x) (some x) := fun ρ S t c q => by cases q; rfl
theorem qvar_loc {ρ : Rho} {S : Sto} {n : Nat} {xs : List D} (h : ρ[j]? = some (some (Sl.loc n))) (h2 : S[n]? = some (some xs)) : mQVar j ρ S = some (xs, S) := by
  unfold mQVar
  rw [h]
  show (S[n]?.join).map _ = _
  rw [h2]
  rfl
theorem lvar_loc {ρ : Rho} {S : Sto} {n : Nat} {xs : List D} (h : ρ[j]? = some (some (Sl.loc n))) (h2 : S[n]? = some (some xs)) : mLVar j ρ S = some (xs, S) := by
  unfold mLVar
  rw [h]
  show (S[n]?.join).map _ = _
  rw [h2]
  rfl
theorem qvar_d {ρ : Rho} {S : Sto} {x : D} {xs : List D} (h : ρ[j]? = some (some (Sl.d x))) (h2 : asQ x = some xs) : mQVar j ρ S = some (xs, S) := by
  unfold mQVar
  rw [h]
  cases x <;> cases h2 <;> rfl
theorem lvar_d {ρ : Rho} {S : Sto} {x : D} {xs : List D} (h : ρ[j]? = some (some (Sl.d x))) (h2 : asL x = some xs) : mLVar j ρ S = some (xs, S) := by
  unfold mLVar
  rw [h]
  cases x <;> cases h2 <;> rfl
theorem hp_qvar {o : Option (List D)} (h : seqAt e[j]? = o) : HP S0 pc e (mQVar j) o := fun ρ S t c q => by
  subst h
  unfold seqAt at q
  split at q <;> first | (cases q; done) | skip
  · rename_i x h; exact qvar_d (t.d j x h) q
  · rename_i x h
    rcases t.q j x h with a | ⟨n, xs, rfl, a, b, _⟩
    · exact qvar_d a q
    · cases q; exact qvar_loc a b
  · rename_i xs h; cases q; obtain ⟨n, a, b, _⟩ := t.c j _ h; exact qvar_loc a b
  · rename_i n xs h; cases q; obtain ⟨a, b, _⟩ := t.p j _ _ h; exact qvar_loc a b
theorem hp_lvar {o : Option (List D)} (h : lstAt e[j]? = o) : HP S0 pc e (mLVar j) o := fun ρ S t c q => by
  subst h
  unfold lstAt at q
  split at q <;> first | (cases q; done) | skip
  · rename_i x h; exact lvar_d (t.d j x h) q
  · rename_i x h
    rcases t.q j x h with a | ⟨n, xs, rfl, a, b, _⟩
    · exact lvar_d a q
    · cases q; exact lvar_loc a b
  · rename_i xs h; cases q; obtain ⟨n, a, b, _⟩ := t.c j _ h; exact lvar_loc a b
  · rename_i n xs h; cases q; obtain ⟨a, b, _⟩ := t.p j _ _ h; exact lvar_loc a b
/-! ### from one reading to another -/
theorem hp_qe {m : ME} {o : Option D} (h : HP S0 pc e m o) : HP S0 pc e (mQE m) (o.bind asQ) := hp_bindo h
theorem hx_qe {m : ME} {o : Option (D × List D)} (h : HX S0 pc e i k x0 m o) : HX S0 pc e i k x0 (mQE m) (o.bind fun a => (asQ a.1).map fun z => (z, a.2)) := hx_bindo h
theorem hp_le {m : ME} {o : Option D} (h : HP S0 pc e m o) : HP S0 pc e (mLE m) (o.bind asL) := hp_bindo h
theorem hx_le {m : ME} {o : Option (D × List D)} (h : HX S0 pc e i k x0 m o) : HX S0 pc e i k x0 (mLE m) (o.bind fun a => (asL a.1).map fun z => (z, a.2)) := hx_bindo h
theorem hp_en {m : MN} {o : Option (List D)} (h : HP S0 pc e m o) : HP S0 pc e (mEN m) (o.map .list) := hp_map h
theorem hx_en {m : MN} {o : Option (List D × List D)} (h : HX S0 pc e i k x0 m o) : HX S0 pc e i k x0 (mEN m) (o.map fun a => (.list a.1, a.2)) := hx_map h
/-! ### operators -/
section
variable {ma mb : ME} {oa ob : Option D} {f : D → D → Option D}
theorem hp_op (ha : HP S0 pc e ma oa) (hb : HP S0 pc e mb ob) : HP S0 pc e (mOp f ma mb) (oa.bind fun a => ob.bind fun b => f a b) :=
  hp_bind (f := fun a ρ S => (mb ρ S).bind fun q => (f a q.1).map fun z => (z, q.2)) ha fun a => hp_bindo hb
theorem hx_op {oa : Option (D × List D)} {ob : List D → Option (D × List D)} (ha : HX S0 pc e i k x0 ma oa) (hb : ∀ x, HX S0 pc e i k x mb (ob x)) : HX S0 pc e i k x0 (mOp f ma mb) (oa.bind fun a => (ob a.2).bind fun b => (f a.1 b.1).map fun z => (z, b.2)) :=
  hx_bind (f := fun a ρ S => (mb ρ S).bind fun q => (f a q.1).map fun z => (z, q.2)) (g := fun a x => (ob x).bind fun b => (f a b.1).map fun z => (z, b.2)) ha fun a x => hx_bindo (hb x)
theorem hp_un {f : D → Option D} (ha : HP S0 pc e ma oa) : HP S0 pc e (mUn f ma) (oa.bind f) := hp_bindo ha
theorem hx_un {f : D → Option D} {oa : Option (D × List D)} (ha : HX S0 pc e i k x0 ma oa) : HX S0 pc e i k x0 (mUn f ma) (oa.bind fun a => (f a.1).map fun z => (z, a.2)) := hx_bindo ha
/-- x[e], x a name -/
def ixO (o : Option (List D)) (y : D) : Option D := match y with
  | .int k => o.bind fun xs => atI xs k
  | _ => none
def ixF (j : Nat) (y : D) : MX D := fun ρ S => match y with
  | .int k => (mQVar j ρ S).bind fun q => (atI q.1 k).map fun z => (z, S)
  | _ => none
theorem ixO_eq {j : Nat} {m : ME} : mIxV j m = fun ρ S => (m ρ S).bind fun p => ixF j p.1 ρ p.2 := by
  funext ρ S
  unfold mIxV
  congr 1
theorem hp_ixv {o : Option (List D)} (h : seqAt e[j]? = o) (ha : HP S0 pc e ma oa) : HP S0 pc e (mIxV j ma) (oa.bind (ixO o)) := by
  rw [ixO_eq]
  refine hp_bind (f := ixF j) (g := ixO o) ha fun y => fun ρ S t c q => ?_
  unfold ixF
  unfold ixO at q
  split at q <;> first | (cases q; done) | skip
  rename_i kk
  cases o with
  | none => cases q
  | some xs =>
    have := hp_qvar (S0 := S0) (pc := pc) h ρ S t xs rfl
    have q : atI xs kk = some c := q
    simp [this, q]
theorem hx_ixv {o : List D → Option (List D)} {oa : Option (D × List D)} (h : ∀ x, seqAt (e.set i (some (celP k x)))[j]? = o x) (ha : HX S0 pc e i k x0 ma oa) : HX S0 pc e i k x0 (mIxV j ma) (oa.bind fun a => (ixO (o a.2) a.1).map fun z => (z, a.2)) := by
  rw [ixO_eq]
  refine hx_bind (f := ixF j) (g := fun y x => (ixO (o x) y).map fun z => (z, x)) ha fun y x => hx_of fun ρ S t c q => ?_
  unfold ixF
  unfold ixO at q
  split at q <;> first | (cases q; done) | skip
  rename_i kk
  cases ho : o x with
  | none => rw [ho] at q; cases q
  | some xs =>
    rw [ho] at q
    have := hp_qvar (S0 := S0) (pc := pc) (h x) ρ S t xs ho
    have q : atI xs kk = some c := q
    simp [this, q]
/-! ### slices -/
def asI (y : D) : Option (Option Int) := match y with
  | .int k => some (some k)
  | _ => none
theorem hp_o0 : HP S0 pc e mO0 (some none) := fun ρ S t c q => by cases q; rfl
theorem mO1_eq {m : ME} : mO1 m = fun ρ S => (m ρ S).bind fun p => (asI p.1).map fun z => (z, p.2) := by
  funext ρ S
  unfold mO1
  congr 1
  funext p
  cases p.1 <;> rfl
theorem hp_o1 (ha : HP S0 pc e ma oa) : HP S0 pc e (mO1 ma) (oa.bind asI) := by rw [mO1_eq]; exact hp_bindo ha
theorem hx_o1 {oa : Option (D × List D)} (ha : HX S0 pc e i k x0 ma oa) : HX S0 pc e i k x0 (mO1 ma) (oa.bind fun a => (asI a.1).map fun z => (z, a.2)) := by rw [mO1_eq]; exact hx_bindo ha
def slT (y : D) (l u : Option Int) : Option D := match y with
  | .tuple xs => some (.tuple (cut xs l u))
  | _ => none
theorem mSlT_eq {m : ME} {lo hi : MO} : mSlT m lo hi = fun ρ S => (m ρ S).bind fun p => (lo ρ p.2).bind fun l => (hi ρ l.2).bind fun u => (slT p.1 l.1 u.1).map fun z => (z, u.2) := by
  funext ρ S
  unfold mSlT
  congr 1
  funext p
  congr 1
  funext l
  congr 1
  funext u
  cases p.1 <;> rfl
theorem hp_slT {lo hi : MO} {ol oh : Option (Option Int)} (ha : HP S0 pc e ma oa) (h1 : HP S0 pc e lo ol) (h2 : HP S0 pc e hi oh) : HP S0 pc e (mSlT ma lo hi) (oa.bind fun a => ol.bind fun l => oh.bind fun u => slT a l u) := by
  rw [mSlT_eq]
  exact hp_bind (f := fun a ρ S => (lo ρ S).bind fun l => (hi ρ l.2).bind fun u => (slT a l.1 u.1).map fun z => (z, u.2)) ha fun a => hp_bind (f := fun l ρ S => (hi ρ S).bind fun u => (slT a l u.1).map fun z => (z, u.2)) h1 fun l => hp_bindo h2
theorem hp_slV {lo hi : MO} {ol oh : Option (Option Int)} {o : Option (List D)} (h : lstAt e[j]? = o) (h1 : HP S0 pc e lo ol) (h2 : HP S0 pc e hi oh) : HP S0 pc e (mSlV j lo hi) (ol.bind fun l => oh.bind fun u => o.bind fun xs => some (cut xs l u)) :=
  hp_bind (f := fun l ρ S => (hi ρ S).bind fun u => (mLVar j ρ u.2).bind fun p => some (cut p.1 l u.1, u.2)) (g := fun l => oh.bind fun u => o.bind fun xs => some (cut xs l u)) h1 fun l => hp_bind (f := fun u ρ S => (mLVar j ρ S).bind fun p => some (cut p.1 l u, S)) (g := fun u => o.bind fun xs => some (cut xs l u)) h2 fun u => fun ρ S t c q => by
    cases ho : o with
    | none => rw [ho] at q; cases q
    | some xs =>
      rw [ho] at q
      cases q
      show (mLVar j ρ S).bind _ = _
      rw [hp_lvar (S0 := S0) (pc := pc) h ρ S t xs ho]
      rfl
theorem hp_slL {mn : MN} {lo hi : MO} {on : Option (List D)} {ol oh : Option (Option Int)} (ha : HP S0 pc e mn on) (h1 : HP S0 pc e lo ol) (h2 : HP S0 pc e hi oh) : HP S0 pc e (mSlL mn lo hi) (on.bind fun a => ol.bind fun l => oh.bind fun u => some (cut a l u)) :=
  hp_bind (f := fun a ρ S => (lo ρ S).bind fun l => (hi ρ l.2).bind fun u => some (cut a l.1 u.1, u.2)) ha fun a => hp_bind (f := fun l ρ S => (hi ρ S).bind fun u => some (cut a l u.1, u.2)) h1 fun l => hp_bind (f := fun u ρ S => some (cut a l u, S)) (g := fun u => some (cut a l u)) h2 fun u => fun ρ S t c q => by cases q; rfl
/-! ### tests -/
def asB (y : D) : Option Bool := match y with
  | .bool b => some b
  | _ => none
theorem mTB_eq {m : ME} : mTB m = fun ρ S => (m ρ S).bind fun p => (asB p.1).map fun z => (z, p.2) := by
  funext ρ S
  unfold mTB
  congr 1
  funext p
  cases p.1 <;> rfl
theorem hp_tb (ha : HP S0 pc e ma oa) : HP S0 pc e (mTB ma) (oa.bind asB) := by rw [mTB_eq]; exact hp_bindo ha
theorem hx_tb {oa : Option (D × List D)} (ha : HX S0 pc e i k x0 ma oa) : HX S0 pc e i k x0 (mTB ma) (oa.bind fun a => (asB a.1).map fun z => (z, a.2)) := by rw [mTB_eq]; exact hx_bindo ha
theorem hp_tru (ha : HP S0 pc e ma oa) : HP S0 pc e (mTru ma) (oa.bind tru) := hp_bindo ha
theorem hx_tru {oa : Option (D × List D)} (ha : HX S0 pc e i k x0 ma oa) : HX S0 pc e i k x0 (mTru ma) (oa.bind fun a => (tru a.1).map fun z => (z, a.2)) := hx_bindo ha
theorem hp_truq {m : MN} {o : Option (List D)} (ha : HP S0 pc e m o) : HP S0 pc e (mTruQ m) (o.map fun xs => !xs.isEmpty) := hp_map ha
variable {ta tb : MT} {ca cb : Option Bool}
def ifF {β : Type} (a b : MX β) (c : Bool) : MX β := fun ρ S => if c then a ρ S else b ρ S
def cM {β : Type} (b : β) : MX β := fun _ S => some (b, S)
theorem hp_and (ha : HP S0 pc e ta ca) (hb : HP S0 pc e tb cb) : HP S0 pc e (mAnd ta tb) (ca.bind fun a => if a then cb else some false) :=
  hp_bind (f := ifF tb (cM false)) (g := fun a => if a then cb else some false) ha fun a => by
    cases a
    · exact fun ρ S t c q => by cases q; rfl
    · exact hb
theorem hp_or (ha : HP S0 pc e ta ca) (hb : HP S0 pc e tb cb) : HP S0 pc e (mOr ta tb) (ca.bind fun a => if a then some true else cb) :=
  hp_bind (f := ifF (cM true) tb) (g := fun a => if a then some true else cb) ha fun a => by
    cases a
    · exact hb
    · exact fun ρ S t c q => by cases q; rfl
theorem hx_and {ca : Option (Bool × List D)} {cb : List D → Option (Bool × List D)} (ha : HX S0 pc e i k x0 ta ca) (hb : ∀ x, HX S0 pc e i k x tb (cb x)) : HX S0 pc e i k x0 (mAnd ta tb) (ca.bind fun a => if a.1 then cb a.2 else some (false, a.2)) :=
  hx_bind (f := ifF tb (cM false)) (g := fun a x => if a then cb x else some (false, x)) ha fun a x => by
    cases a
    · exact hx_of (o := some false) (m := cM false) fun ρ S t c q => by cases q; rfl
    · exact hb x
theorem hx_or {ca : Option (Bool × List D)} {cb : List D → Option (Bool × List D)} (ha : HX S0 pc e i k x0 ta ca) (hb : ∀ x, HX S0 pc e i k x tb (cb x)) : HX S0 pc e i k x0 (mOr ta tb) (ca.bind fun a => if a.1 then some (true, a.2) else cb a.2) :=
  hx_bind (f := ifF (cM true) tb) (g := fun a x => if a then some (true, x) else cb x) ha fun a x => by
    cases a
    · exact hb x
    · exact hx_of (o := some true) (m := cM true) fun ρ S t c q => by cases q; rfl
theorem hp_not (ha : HP S0 pc e ta ca) : HP S0 pc e (mNot ta) (ca.map fun b => !b) := hp_map ha
theorem hx_not {ca : Option (Bool × List D)} (ha : HX S0 pc e i k x0 ta ca) : HX S0 pc e i k x0 (mNot ta) (ca.map fun b => (!b.1, b.2)) := hx_map ha
theorem hp_yes : HP S0 pc e mYes (some true) := fun ρ S t c q => by cases q; rfl
/-! ### and, or, not of flags; x if c else y -/
def andO (a : D) (ob : Option D) : Option D := match a with
  | .bool true => ob
  | .bool false => some (.bool false)
  | _ => none
def andF (mb : ME) (a : D) : ME := fun ρ S => match a with
  | .bool true => mb ρ S
  | .bool false => some (.bool false, S)
  | _ => none
def orF (mb : ME) (a : D) : ME := fun ρ S => match a with
  | .bool false => mb ρ S
  | .bool true => some (.bool true, S)
  | _ => none
def orO (a : D) (ob : Option D) : Option D := match a with
  | .bool false => ob
  | .bool true => some (.bool true)
  | _ => none
def notO (a : D) : Option D := match a with
  | .bool b => some (.bool (!b))
  | _ => none
theorem hp_andv (ha : HP S0 pc e ma oa) (hb : HP S0 pc e mb ob) : HP S0 pc e (mAndV ma mb) (oa.bind fun a => andO a ob) := by
  have : mAndV ma mb = fun ρ S => (ma ρ S).bind fun p => andF mb p.1 ρ p.2 := by
    funext ρ S; unfold mAndV; congr 1
  rw [this]
  refine hp_bind (f := andF mb) (g := fun a => andO a ob) ha fun a => fun ρ S t c q => ?_
  unfold andF
  unfold andO at q
  split at q <;> first | (cases q; done) | skip
  · exact hb ρ S t c q
  · cases q; rfl
theorem hp_orv (ha : HP S0 pc e ma oa) (hb : HP S0 pc e mb ob) : HP S0 pc e (mOrV ma mb) (oa.bind fun a => orO a ob) := by
  have : mOrV ma mb = fun ρ S => (ma ρ S).bind fun p => orF mb p.1 ρ p.2 := by
    funext ρ S; unfold mOrV; congr 1
  rw [this]
  refine hp_bind (f := orF mb) (g := fun a => orO a ob) ha fun a => fun ρ S t c q => ?_
  unfold orF
  unfold orO at q
  split at q <;> first | (cases q; done) | skip
  · exact hb ρ S t c q
  · cases q; rfl
theorem hp_notv (ha : HP S0 pc e ma oa) : HP S0 pc e (mNotV ma) (oa.bind notO) := by
  have : mNotV ma = fun ρ S => (ma ρ S).bind fun p => (notO p.1).map fun z => (z, p.2) := by
    funext ρ S; unfold mNotV; congr 1; funext p; cases p.1 <;> rfl
  rw [this]; exact hp_bindo ha
theorem hp_nott (ha : HP S0 pc e ma oa) : HP S0 pc e (mNotT ma) ((oa.bind tru).map fun b => .bool (!b)) := hp_map (hp_tru ha)
theorem hp_nottq {m : MN} {o : Option (List D)} (ha : HP S0 pc e m o) : HP S0 pc e (mNotTQ m) (o.map fun xs => .bool (!(!xs.isEmpty))) := by
  have := hp_map (f := fun b => PyData.bool (!b)) (hp_truq ha)
  rw [Option.map_map] at this
  exact this
theorem hp_ife (hc : HP S0 pc e ta ca) (ha : HP S0 pc e ma oa) (hb : HP S0 pc e mb ob) : HP S0 pc e (mIf ta ma mb) (ca.bind fun c => if c then oa else ob) :=
  hp_bind (f := ifF ma mb) (g := fun c => if c then oa else ob) hc fun c => by
    cases c
    · exact hb
    · exact ha
theorem hx_ife {ca : Option (Bool × List D)} {oa ob : List D → Option (D × List D)} (hc : HX S0 pc e i k x0 ta ca) (ha : ∀ x, HX S0 pc e i k x ma (oa x)) (hb : ∀ x, HX S0 pc e i k x mb (ob x)) : HX S0 pc e i k x0 (mIf ta ma mb) (ca.bind fun c => if c.1 then oa c.2 else ob c.2) :=
  hx_bind (f := ifF ma mb) (g := fun c x => if c then oa x else ob x) hc fun c x => by
    cases c
    · exact hb x
    · exact ha x
def chF (f g : D → D → Option D) (mc : ME) (a b : D) : ME := fun ρ S => (f a b).bind fun z => match z with
  | .bool true => (mc ρ S).bind fun u => (g b u.1).map fun w => (w, u.2)
  | .bool false => some (.bool false, S)
  | _ => none
theorem hp_chain {f g : D → D → Option D} {mc : ME} {oc : Option D} (ha : HP S0 pc e ma oa) (hb : HP S0 pc e mb ob) (hc : HP S0 pc e mc oc) : HP S0 pc e (mChain f g ma mb mc) (oa.bind fun a => ob.bind fun b => (f a b).bind fun z => andO z (oc.bind fun c => g b c)) := by
  have : mChain f g ma mb mc = fun ρ S => (ma ρ S).bind fun p => (fun a ρ S => (mb ρ S).bind fun q => chF f g mc a q.1 ρ q.2) p.1 ρ p.2 := by
    funext ρ S; unfold mChain; congr 1
  rw [this]
  refine hp_bind (f := fun a ρ S => (mb ρ S).bind fun q => chF f g mc a q.1 ρ q.2) (g := fun a => ob.bind fun b => (f a b).bind fun z => andO z (oc.bind fun c => g b c)) ha fun a => hp_bind (f := fun b => chF f g mc a b) (g := fun b => (f a b).bind fun z => andO z (oc.bind fun c => g b c)) hb fun b => fun ρ S t c q => ?_
  unfold chF
  cases hz : f a b with
  | none => rw [hz] at q; cases q
  | some z =>
    rw [hz, Option.bind_some] at q
    unfold andO at q
    split at q <;> first | (cases q; done) | skip
    · have h := hp_bindo (g := g b) hc ρ S t c q
      simpa using h
    · cases q; rfl
end
/-! ### tuples, lists, arguments -/
inductive Arg where
  | v (x : D)
  | s (i : Nat)
def ArOk (ρ : Rho) : List Arg → List Sl → Prop
  | [], [] => True
  | .v x :: as, s :: ss => s = .d x ∧ ArOk ρ as ss
  | .s i :: as, s :: ss => ρ[i]? = some (some s) ∧ ArOk ρ as ss
  | _, _ => False
def HA (S0 : Sto) (pc : List Nat) (e : Env) (m : MA) {β : Type} (o : (List Arg → Option β) → Option β) : Prop := ∀ (κ : List Arg → Option β) ρ S, Mt S0 pc e ρ S → ∀ b, o κ = some b → ∃ as ss, m ρ S = some (ss, S) ∧ ArOk ρ as ss ∧ κ as = some b
theorem ha_0 : HA S0 pc e mA0 (β := β) (fun κ => κ []) := fun κ ρ S t b q => ⟨[], [], rfl, trivial, q⟩
theorem ha_1 {m : ME} {r : MA} {om : Option D} {or_ : (List Arg → Option β) → Option β} (h : HP S0 pc e m om) (h2 : HA S0 pc e r or_) : HA S0 pc e (mA1 m r) (fun κ => om.bind fun x => or_ fun as => κ (.v x :: as)) := fun κ ρ S t b q => by
  cases ho : om with
  | none => simp [ho] at q
  | some x =>
    simp only [ho, Option.bind_some] at q
    obtain ⟨as, ss, a1, a2, a3⟩ := h2 _ ρ S t b q
    exact ⟨.v x :: as, .d x :: ss, by unfold mA1; rw [h ρ S t x ho]; simp [a1], ⟨rfl, a2⟩, a3⟩
def Pv.known (v : Option (Option Pv)) : Bool := match v with
  | some (some _) => true
  | _ => false
theorem Mt.known {ρ : Rho} {S : Sto} (t : Mt S0 pc e ρ S) (h : Pv.known e[j]? = true) : ∃ s, ρ[j]? = some (some s) := by
  unfold Pv.known at h
  split at h <;> first | (cases h; done) | skip
  rename_i v hv
  cases v with
  | d x => exact ⟨_, t.d j x hv⟩
  | c xs => obtain ⟨n, a, _⟩ := t.c j xs hv; exact ⟨_, a⟩
  | p n xs => exact ⟨_, (t.p j n xs hv).1⟩
  | q x => rcases t.q j x hv with a | ⟨n, xs, _, a, _⟩ <;> exact ⟨_, a⟩
theorem ha_v {r : MA} {or_ : (List Arg → Option β) → Option β} (h : Pv.known e[j]? = true) (h2 : HA S0 pc e r or_) : HA S0 pc e (mAV j r) (fun κ => or_ fun as => κ (.s j :: as)) := fun κ ρ S t b q => by
  obtain ⟨s, hs⟩ := t.known h
  obtain ⟨as, ss, a1, a2, a3⟩ := h2 _ ρ S t b q
  exact ⟨.s j :: as, s :: ss, by unfold mAV; rw [hs]; simp [a1], ⟨hs, a2⟩, a3⟩
/-- .. with effects -/
def HAX (S0 : Sto) (pc : List Nat) (e : Env) (i : Nat) (k : Option Nat) (x0 : List D) (m : MA) {β : Type} (o : (List Arg → List D → Option β) → Option β) : Prop := ∀ (κ : List Arg → List D → Option β) ρ S, Mt S0 pc (e.set i (some (celP k x0))) ρ S → i < e.length → ∀ b, o κ = some b → ∃ as ss n x, ρ[i]? = some (some (Sl.loc n)) ∧ m ρ S = some (ss, S.set n (some x)) ∧ ArOk ρ as ss ∧ κ as x = some b
theorem self_set {ρ : Rho} {S : Sto} (t : Mt S0 pc (e.set i (some (celP k x0))) ρ S) (hi : i < e.length) : ∃ n, ρ[i]? = some (some (Sl.loc n)) ∧ S.set n (some x0) = S ∧ S[n]? = some (some x0) := by
  obtain ⟨n, a1, a2⟩ := t.cell (i := i) (k := k) (xs := x0) (List.getElem?_set_self hi)
  have hl := (List.getElem?_eq_some_iff.mp a2).1
  refine ⟨n, a1, ?_, a2⟩
  have a3 := a2
  rw [List.getElem?_eq_getElem hl] at a3
  rw [← Option.some.inj a3]
  exact List.set_getElem_self hl
theorem hax_0 : HAX S0 pc e i k x0 mA0 (β := β) (fun κ => κ [] x0) := fun κ ρ S t hi b q => by
  obtain ⟨n, a1, a2, _⟩ := self_set t hi
  exact ⟨[], [], n, x0, a1, by rw [a2]; rfl, trivial, q⟩
theorem hax_1 {m : ME} {r : MA} {om : Option (D × List D)} {or_ : List D → (List Arg → List D → Option β) → Option β} (h : HX S0 pc e i k x0 m om) (h2 : ∀ x, HAX S0 pc e i k x r (or_ x)) : HAX S0 pc e i k x0 (mA1 m r) (fun κ => om.bind fun a => or_ a.2 fun as x => κ (.v a.1 :: as) x) := fun κ ρ S t hi b q => by
  cases ho : om with
  | none => simp [ho] at q
  | some x =>
    simp only [ho, Option.bind_some] at q
    obtain ⟨n, a1, a2⟩ := h ρ S t hi x.1 x.2 (by rw [ho])
    have t2 := t.wr (k := k) (xs := x0) (i := i) (List.getElem?_set_self hi) a1 x.2
    rw [List.set_set] at t2
    obtain ⟨as, ss, n', y, b1, b2, b3, b4⟩ := h2 x.2 _ ρ _ t2 hi b q
    rw [a1] at b1
    cases b1
    rw [List.set_set] at b2
    exact ⟨.v x.1 :: as, .d x.1 :: ss, n, y, a1, by unfold mA1; rw [a2, Option.bind_some, b2]; rfl, ⟨rfl, b3⟩, b4⟩
theorem hax_v {r : MA} {or_ : (List Arg → List D → Option β) → Option β} (h : Pv.known (e.set i (some (celP k x0)))[j]? = true) (h2 : HAX S0 pc e i k x0 r or_) : HAX S0 pc e i k x0 (mAV j r) (fun κ => or_ fun as x => κ (.s j :: as) x) := fun κ ρ S t hi b q => by
  obtain ⟨s, hs⟩ := t.known h
  obtain ⟨as, ss, n, x, a1, a2, a3, a4⟩ := h2 _ ρ S t hi b q
  exact ⟨.s j :: as, s :: ss, n, x, a1, by unfold mAV; rw [hs]; simp [a2], ⟨hs, a3⟩, a4⟩
/-- displays: all items are data -/
def HD (S0 : Sto) (pc : List Nat) (e : Env) (m : MA) {β : Type} (o : (List D → Option β) → Option β) : Prop := ∀ (κ : List D → Option β) ρ S, Mt S0 pc e ρ S → ∀ b, o κ = some b → ∃ ds, m ρ S = some (ds.map .d, S) ∧ κ ds = some b
theorem hd_0 : HD S0 pc e mA0 (β := β) (fun κ => κ []) := fun κ ρ S t b q => ⟨[], rfl, q⟩
theorem hd_1 {m : ME} {r : MA} {om : Option D} {or_ : (List D → Option β) → Option β} (h : HP S0 pc e m om) (h2 : HD S0 pc e r or_) : HD S0 pc e (mA1 m r) (fun κ => om.bind fun x => or_ fun as => κ (x :: as)) := fun κ ρ S t b q => by
  cases ho : om with
  | none => simp [ho] at q
  | some x =>
    simp only [ho, Option.bind_some] at q
    obtain ⟨ds, a1, a3⟩ := h2 _ ρ S t b q
    exact ⟨x :: ds, by unfold mA1; rw [h ρ S t x ho]; simp [a1], a3⟩
theorem datas_map : ∀ ds : List D, datas (ds.map Sl.d) = some ds
  | [] => rfl
  | x :: r => by show (datas (r.map Sl.d)).map _ = _; rw [datas_map r]; rfl
theorem mDs_of {m : MA} {ρ : Rho} {S S' : Sto} {ds : List D} (h : m ρ S = some (ds.map .d, S')) : mDs m ρ S = some (ds, S') := by
  unfold mDs
  rw [h, Option.bind_some]
  simp only
  rw [datas_map]
  rfl
def mkT (xs : List D) : Option D := if xs.length ≤ 1000000 then some (.tuple xs) else none
def mkL (xs : List D) : Option (List D) := if xs.length ≤ 1000000 then some xs else none
theorem hp_tup {m : MA} {o : (List D → Option D) → Option D} {o' : Option D} (h : HD S0 pc e m o) (ho : o mkT = o') : HP S0 pc e (mTup m) o' := fun ρ S t c q => by
  subst ho
  obtain ⟨ds, a1, a2⟩ := h mkT ρ S t c q
  unfold mTup
  rw [mDs_of a1, Option.bind_some]
  unfold mkT at a2
  simp only
  split at a2
  · cases a2; rename_i hh; rw [if_pos hh]
  · cases a2
theorem hp_lst {m : MA} {o : (List D → Option (List D)) → Option (List D)} {o' : Option (List D)} (h : HD S0 pc e m o) (ho : o mkL = o') : HP S0 pc e (mLst m) o' := fun ρ S t c q => by
  subst ho
  obtain ⟨ds, a1, a2⟩ := h mkL ρ S t c q
  unfold mLst
  rw [mDs_of a1, Option.bind_some]
  unfold mkL at a2
  simp only
  split at a2
  · cases a2; rename_i hh; rw [if_pos hh]
  · cases a2
theorem hp_b {f : List D → Option D} {m : MA} {o : (List D → Option D) → Option D} {o' : Option D} (h : HD S0 pc e m o) (ho : o f = o') : HP S0 pc e (mB f m) o' := fun ρ S t c q => by
  subst ho
  obtain ⟨ds, a1, a2⟩ := h f ρ S t c q
  unfold mB
  rw [mDs_of a1, Option.bind_some]
  simp [a2]
def HDX (S0 : Sto) (pc : List Nat) (e : Env) (i : Nat) (k : Option Nat) (x0 : List D) (m : MA) {β : Type} (o : (List D → List D → Option β) → Option β) : Prop := ∀ (κ : List D → List D → Option β) ρ S, Mt S0 pc (e.set i (some (celP k x0))) ρ S → i < e.length → ∀ b, o κ = some b → ∃ ds n x, ρ[i]? = some (some (Sl.loc n)) ∧ m ρ S = some (ds.map .d, S.set n (some x)) ∧ κ ds x = some b
theorem hdx_0 : HDX S0 pc e i k x0 mA0 (β := β) (fun κ => κ [] x0) := fun κ ρ S t hi b q => by
  obtain ⟨n, a1, a2, _⟩ := self_set t hi
  exact ⟨[], n, x0, a1, by rw [a2]; rfl, q⟩
theorem hdx_1 {m : ME} {r : MA} {om : Option (D × List D)} {or_ : List D → (List D → List D → Option β) → Option β} (h : HX S0 pc e i k x0 m om) (h2 : ∀ x, HDX S0 pc e i k x r (or_ x)) : HDX S0 pc e i k x0 (mA1 m r) (fun κ => om.bind fun a => or_ a.2 fun as x => κ (a.1 :: as) x) := fun κ ρ S t hi b q => by
  cases ho : om with
  | none => simp [ho] at q
  | some x =>
    simp only [ho, Option.bind_some] at q
    obtain ⟨n, a1, a2⟩ := h ρ S t hi x.1 x.2 (by rw [ho])
    have t2 := t.wr (k := k) (xs := x0) (i := i) (List.getElem?_set_self hi) a1 x.2
    rw [List.set_set] at t2
    obtain ⟨ds, n', y, b1, b2, b4⟩ := h2 x.2 _ ρ _ t2 hi b q
    rw [a1] at b1
    cases b1
    rw [List.set_set] at b2
    exact ⟨x.1 :: ds, n, y, a1, by unfold mA1; rw [a2, Option.bind_some, b2]; rfl, b4⟩
theorem hx_tup {m : MA} {o : (List D → List D → Option (D × List D)) → Option (D × List D)} {o' : Option (D × List D)} (h : HDX S0 pc e i k x0 m o) (ho : (o fun ds x => (mkT ds).map fun z => (z, x)) = o') : HX S0 pc e i k x0 (mTup m) o' := fun ρ S t hi c y q => by
  subst ho
  obtain ⟨ds, n, x, a1, a2, a3⟩ := h _ ρ S t hi _ q
  refine ⟨n, a1, ?_⟩
  unfold mTup
  rw [mDs_of a2, Option.bind_some]
  unfold mkT at a3
  simp only
  split at a3
  · cases a3; rename_i hh; rw [if_pos hh]
  · cases a3
theorem hx_lst {m : MA} {o : (List D → List D → Option (List D × List D)) → Option (List D × List D)} {o' : Option (List D × List D)} (h : HDX S0 pc e i k x0 m o) (ho : (o fun ds x => (mkL ds).map fun z => (z, x)) = o') : HX S0 pc e i k x0 (mLst m) o' := fun ρ S t hi c y q => by
  subst ho
  obtain ⟨ds, n, x, a1, a2, a3⟩ := h _ ρ S t hi _ q
  refine ⟨n, a1, ?_⟩
  unfold mLst
  rw [mDs_of a2, Option.bind_some]
  unfold mkL at a3
  simp only
  split at a3
  · cases a3; rename_i hh; rw [if_pos hh]
  · cases a3
theorem hx_b {f : List D → Option D} {m : MA} {o : (List D → List D → Option (D × List D)) → Option (D × List D)} {o' : Option (D × List D)} (h : HDX S0 pc e i k x0 m o) (ho : (o fun ds x => (f ds).map fun z => (z, x)) = o') : HX S0 pc e i k x0 (mB f m) o' := fun ρ S t hi c y q => by
  subst ho
  obtain ⟨ds, n, x, a1, a2, a3⟩ := h _ ρ S t hi _ q
  refine ⟨n, a1, ?_⟩
  unfold mB
  rw [mDs_of a2, Option.bind_some]
  simp only
  cases hf : f ds with
  | none => rw [hf] at a3; cases a3
  | some z => rw [hf] at a3; cases a3; rfl
end
end G
set_option Elab.async false
set_option linter.all false
set_option autoImplicit false
set_option maxRecDepth 100000
set_option maxHeartbeats 4000000
namespace G
open PySem L2
section
variable {S0 : Sto} {pc : List Nat} {e e' : Env} {i j : Nat} {k : Option Nat} {x0 : List D} {β γ δ : Type}
/-! ### builtins -/
section
variable {m : MN} {o : Option (List D)} {ox : Option (List D × List D)} {ma mb mc : ME} {oa ob oc : Option D}
def lenD (xs : List D) : D := .int xs.length
theorem hp_len (h : HP S0 pc e m o) : HP S0 pc e (mLen m) (o.map lenD) := hp_map h
theorem hx_len (h : HX S0 pc e i k x0 m ox) : HX S0 pc e i k x0 (mLen m) (ox.map fun a => (lenD a.1, a.2)) := hx_map h
def allD (xs : List D) : Option D := (bools xs).map fun bs => .bool (bs.all id)
def anyD (xs : List D) : Option D := (bools xs).map fun bs => .bool (bs.any id)
def sumD (xs : List D) : Option D := (intL xs).map fun bs => .int bs.sum
def sortD (xs : List D) : Option (List D) := (intL xs).map fun bs => (sortI bs).map .int
theorem mAll_eq : mAll m = fun ρ S => (m ρ S).bind fun p => (allD p.1).map fun z => (z, p.2) := by
  funext ρ S; unfold mAll mBools allD; congr 1; funext p; rw [Option.map_map]; rfl
theorem mAny_eq : mAny m = fun ρ S => (m ρ S).bind fun p => (anyD p.1).map fun z => (z, p.2) := by
  funext ρ S; unfold mAny mBools anyD; congr 1; funext p; rw [Option.map_map]; rfl
theorem mSum_eq : mSum m = fun ρ S => (m ρ S).bind fun p => (sumD p.1).map fun z => (z, p.2) := by
  funext ρ S; unfold mSum sumD; congr 1; funext p; rw [Option.map_map]; rfl
theorem mSortI_eq : mSortI m = fun ρ S => (m ρ S).bind fun p => (sortD p.1).map fun z => (z, p.2) := by
  funext ρ S; unfold mSortI sortD; congr 1; funext p; rw [Option.map_map]; rfl
theorem hp_all (h : HP S0 pc e m o) : HP S0 pc e (mAll m) (o.bind allD) := by rw [mAll_eq]; exact hp_bindo h
theorem hp_any (h : HP S0 pc e m o) : HP S0 pc e (mAny m) (o.bind anyD) := by rw [mAny_eq]; exact hp_bindo h
theorem hp_sum (h : HP S0 pc e m o) : HP S0 pc e (mSum m) (o.bind sumD) := by rw [mSum_eq]; exact hp_bindo h
theorem hp_sortI (h : HP S0 pc e m o) : HP S0 pc e (mSortI m) (o.bind sortD) := by rw [mSortI_eq]; exact hp_bindo h
theorem hx_all (h : HX S0 pc e i k x0 m ox) : HX S0 pc e i k x0 (mAll m) (ox.bind fun a => (allD a.1).map fun z => (z, a.2)) := by rw [mAll_eq]; exact hx_bindo h
theorem hx_any (h : HX S0 pc e i k x0 m ox) : HX S0 pc e i k x0 (mAny m) (ox.bind fun a => (anyD a.1).map fun z => (z, a.2)) := by rw [mAny_eq]; exact hx_bindo h
theorem hx_sum (h : HX S0 pc e i k x0 m ox) : HX S0 pc e i k x0 (mSum m) (ox.bind fun a => (sumD a.1).map fun z => (z, a.2)) := by rw [mSum_eq]; exact hx_bindo h
theorem hx_sortI (h : HX S0 pc e i k x0 m ox) : HX S0 pc e i k x0 (mSortI m) (ox.bind fun a => (sortD a.1).map fun z => (z, a.2)) := by rw [mSortI_eq]; exact hx_bindo h
theorem hp_list (h : HP S0 pc e m o) : HP S0 pc e (mList m) o := h
theorem hx_list (h : HX S0 pc e i k x0 m ox) : HX S0 pc e i k x0 (mList m) ox := h
theorem hp_tuple (h : HP S0 pc e m o) : HP S0 pc e (mTuple m) (o.map .tuple) := hp_map h
theorem hx_tuple (h : HX S0 pc e i k x0 m ox) : HX S0 pc e i k x0 (mTuple m) (ox.map fun a => (.tuple a.1, a.2)) := hx_map h
theorem hp_isi {n : String} (h : HP S0 pc e ma oa) : HP S0 pc e (mIsi n ma) (oa.bind (fIsi n)) := hp_bindo h
def rg1 (y : D) : Option (List D) := match y with
  | .int j => if bRng j then some (rng 0 j.toNat) else none
  | _ => none
def rg2 (x y : D) : Option (List D) := match x, y with
  | .int i, .int j => if bRng i && bRng j then some (rng i (j - i).toNat) else none
  | _, _ => none
def rg3 (x y z : D) : Option (List D) := match x, y, z with
  | .int i, .int j, .int k => if bRng i && bRng j && decide (k = -1) then some (dwn i (i - j).toNat) else none
  | _, _, _ => none
def rgL (y : D) : Option (List D) := match y with
  | .int j => if decide (0 ≤ j ∧ j ≤ 1000000) then some (rng 0 j.toNat) else none
  | _ => none
theorem mR1_eq : mR1 ma = fun ρ S => (ma ρ S).bind fun p => (rg1 p.1).map fun z => (z, p.2) := by
  funext ρ S; unfold mR1; congr 1; funext p; unfold rg1; cases p.1 <;> first | rfl | (simp only; split <;> rfl)
theorem mRg1_eq : mRg1 ma = fun ρ S => (ma ρ S).bind fun p => (rgL p.1).map fun z => (z, p.2) := by
  funext ρ S; unfold mRg1; congr 1; funext p; unfold rgL; cases p.1 <;> first | rfl | (simp only; split <;> rfl)
theorem mR2_eq : mR2 ma mb = fun ρ S => (ma ρ S).bind fun p => (mb ρ p.2).bind fun q => (rg2 p.1 q.1).map fun z => (z, q.2) := by
  funext ρ S; unfold mR2; congr 1; funext p; congr 1; funext q; unfold rg2; cases p.1 <;> cases q.1 <;> first | rfl | (simp only; split <;> rfl)
theorem mR3_eq : mR3 ma mb mc = fun ρ S => (ma ρ S).bind fun p => (mb ρ p.2).bind fun q => (mc ρ q.2).bind fun r => (rg3 p.1 q.1 r.1).map fun z => (z, r.2) := by
  funext ρ S; unfold mR3; congr 1; funext p; congr 1; funext q; congr 1; funext r; unfold rg3; cases p.1 <;> cases q.1 <;> cases r.1 <;> first | rfl | (simp only; split <;> rfl)
theorem hp_r1 (h : HP S0 pc e ma oa) : HP S0 pc e (mR1 ma) (oa.bind rg1) := by rw [mR1_eq]; exact hp_bindo h
theorem hx_r1 {oa : Option (D × List D)} (h : HX S0 pc e i k x0 ma oa) : HX S0 pc e i k x0 (mR1 ma) (oa.bind fun a => (rg1 a.1).map fun z => (z, a.2)) := by rw [mR1_eq]; exact hx_bindo h
theorem hp_rgL (h : HP S0 pc e ma oa) : HP S0 pc e (mRg1 ma) (oa.bind rgL) := by rw [mRg1_eq]; exact hp_bindo h
theorem hp_r2 (h : HP S0 pc e ma oa) (h2 : HP S0 pc e mb ob) : HP S0 pc e (mR2 ma mb) (oa.bind fun a => ob.bind fun b => rg2 a b) := by
  rw [mR2_eq]; exact hp_bind (f := fun a ρ S => (mb ρ S).bind fun q => (rg2 a q.1).map fun z => (z, q.2)) (g := fun a => ob.bind fun b => rg2 a b) h fun a => hp_bindo h2
theorem hx_r2 {oa : Option (D × List D)} {ob : List D → Option (D × List D)} (ha : HX S0 pc e i k x0 ma oa) (hb : ∀ x, HX S0 pc e i k x mb (ob x)) : HX S0 pc e i k x0 (mR2 ma mb) (oa.bind fun a => (ob a.2).bind fun b => (rg2 a.1 b.1).map fun z => (z, b.2)) := by
  rw [mR2_eq]
  exact hx_bind (f := fun a ρ S => (mb ρ S).bind fun q => (rg2 a q.1).map fun z => (z, q.2)) (g := fun a x => (ob x).bind fun b => (rg2 a b.1).map fun z => (z, b.2)) ha fun a x => hx_bindo (hb x)
theorem hp_r3 (h : HP S0 pc e ma oa) (h2 : HP S0 pc e mb ob) (h3 : HP S0 pc e mc oc) : HP S0 pc e (mR3 ma mb mc) (oa.bind fun a => ob.bind fun b => oc.bind fun c => rg3 a b c) := by
  rw [mR3_eq]; exact hp_bind (f := fun a ρ S => (mb ρ S).bind fun q => (mc ρ q.2).bind fun r => (rg3 a q.1 r.1).map fun z => (z, r.2)) (g := fun a => ob.bind fun b => oc.bind fun c => rg3 a b c) h fun a => hp_bind (f := fun b ρ S => (mc ρ S).bind fun r => (rg3 a b r.1).map fun z => (z, r.2)) (g := fun b => oc.bind fun c => rg3 a b c) h2 fun b => hp_bindo h3
def enO : List D → Option (List D)
  | [.list xs] => some (enumD 0 xs)
  | [.tuple xs] => some (enumD 0 xs)
  | _ => none
def zipO : List D → Option (List D)
  | [.list xs, .list ys] => some (zipD xs ys)
  | [.tuple xs, .tuple ys] => some (zipD xs ys)
  | _ => none
theorem hp_ds {m : MA} {o : (List D → Option β) → Option β} {o' : Option β} {f : List D → Option β} (h : HD S0 pc e m o) (ho : o f = o') : HP S0 pc e (fun ρ S => (mDs m ρ S).bind fun p => (f p.1).map fun z => (z, p.2)) o' := fun ρ S t c q => by
  subst ho
  obtain ⟨ds, a1, a2⟩ := h f ρ S t c q
  show (mDs m ρ S).bind _ = _
  rw [mDs_of a1, Option.bind_some]
  simp [a2]
theorem mEnum_eq {m : MA} : mEnum m = fun ρ S => (mDs m ρ S).bind fun p => (enO p.1).map fun z => (z, p.2) := by
  funext ρ S; unfold mEnum; congr 1; funext p; unfold enO; split <;> first | rfl | (rename_i h1 h2; split <;> first | rfl | simp_all)
theorem mZip_eq {m : MA} : mZip m = fun ρ S => (mDs m ρ S).bind fun p => (zipO p.1).map fun z => (z, p.2) := by
  funext ρ S; unfold mZip; congr 1; funext p; unfold zipO; split <;> first | rfl | (rename_i h1 h2; split <;> first | rfl | simp_all)
theorem hp_enum {m : MA} {o : (List D → Option (List D)) → Option (List D)} {o' : Option (List D)} (h : HD S0 pc e m o) (ho : o enO = o') : HP S0 pc e (mEnum m) o' := by rw [mEnum_eq]; exact hp_ds h ho
theorem hp_zip {m : MA} {o : (List D → Option (List D)) → Option (List D)} {o' : Option (List D)} (h : HD S0 pc e m o) (ho : o zipO = o') : HP S0 pc e (mZip m) o' := by rw [mZip_eq]; exact hp_ds h ho
def inO (g : Bool → Bool) (x : D) (xs : List D) : Option D := (inD x xs).map fun b => .bool (g b)
theorem mInQ_eq {g : Bool → Bool} {mq : MN} : mInQ g ma mq = fun ρ S => (ma ρ S).bind fun p => (mq ρ p.2).bind fun q => (inO g p.1 q.1).map fun z => (z, q.2) := by
  funext ρ S; unfold mInQ; congr 1; funext p; congr 1; funext q; unfold inO; rw [Option.map_map]; rfl
theorem hp_inq {g : Bool → Bool} {mq : MN} {oq : Option (List D)} (h : HP S0 pc e ma oa) (h2 : HP S0 pc e mq oq) : HP S0 pc e (mInQ g ma mq) (oa.bind fun a => oq.bind fun q => inO g a q) := by
  rw [mInQ_eq]; exact hp_bind (f := fun a ρ S => (mq ρ S).bind fun q => (inO g a q.1).map fun z => (z, q.2)) (g := fun a => oq.bind fun q => inO g a q) h fun a => hp_bindo h2
/-! ### list + list -/
def catO (xs ys : List D) : Option (List D) := if xs.length + ys.length ≤ 1000000 then some (xs ++ ys) else none
theorem ifSome {c : Prop} [Decidable c] {x : β} {S : Sto} : (if c then some (x, S) else none) = (if c then some x else none).map fun z => (z, S) := by split <;> rfl
theorem hp_cat {m1 m2 : MN} {o1 o2 : Option (List D)} (h : HP S0 pc e m1 o1) (h2 : HP S0 pc e m2 o2) : HP S0 pc e (mCat m1 m2) (o1.bind fun a => o2.bind fun b => catO a b) := by
  have : mCat m1 m2 = fun ρ S => (m1 ρ S).bind fun p => (m2 ρ p.2).bind fun q => (catO p.1 q.1).map fun z => (z, q.2) := by
    funext ρ S; unfold mCat; congr 1; funext p; congr 1; funext q; exact ifSome
  rw [this]; exact hp_bind (f := fun a ρ S => (m2 ρ S).bind fun q => (catO a q.1).map fun z => (z, q.2)) (g := fun a => o2.bind fun b => catO a b) h fun a => hp_bindo h2
theorem hx_cat {m1 m2 : MN} {o1 : Option (List D × List D)} {o2 : List D → Option (List D × List D)} (h : HX S0 pc e i k x0 m1 o1) (h2 : ∀ x, HX S0 pc e i k x m2 (o2 x)) : HX S0 pc e i k x0 (mCat m1 m2) (o1.bind fun a => (o2 a.2).bind fun b => (catO a.1 b.1).map fun z => (z, b.2)) := by
  have : mCat m1 m2 = fun ρ S => (m1 ρ S).bind fun p => (m2 ρ p.2).bind fun q => (catO p.1 q.1).map fun z => (z, q.2) := by
    funext ρ S; unfold mCat; congr 1; funext p; congr 1; funext q; exact ifSome
  rw [this]
  exact hx_bind (f := fun a ρ S => (m2 ρ S).bind fun q => (catO a q.1).map fun z => (z, q.2)) (g := fun a x => (o2 x).bind fun b => (catO a b.1).map fun z => (z, b.2)) h fun a x => hx_bindo (h2 x)
theorem hp_catV {m2 : MN} {o1 o2 : Option (List D)} (h : lstAt e[j]? = o1) (h2 : HP S0 pc e m2 o2) : HP S0 pc e (mCatV j m2) (o2.bind fun b => o1.bind fun a => catO a b) := by
  have : mCatV j m2 = fun ρ S => (m2 ρ S).bind fun q => (mLVar j ρ q.2).bind fun p => if p.1.length + q.1.length ≤ 1000000 then some (p.1 ++ q.1, q.2) else none := rfl
  rw [this]
  refine hp_bind (f := fun b ρ S => (mLVar j ρ S).bind fun p => if p.1.length + b.length ≤ 1000000 then some (p.1 ++ b, S) else none) (g := fun b => o1.bind fun a => catO a b) h2 fun b => fun ρ S t c q => ?_
  cases o1 with
  | none => cases q
  | some xs =>
    show (mLVar j ρ S).bind _ = _
    rw [hp_lvar (S0 := S0) (pc := pc) h ρ S t xs rfl, Option.bind_some]
    have q : catO xs b = some c := q
    unfold catO at q
    split at q
    · rename_i hh; cases q; rw [if_pos hh]
    · cases q
theorem hp_catX {m2 : MN} {o2 : Option (List D)} (h : HP S0 pc e ma oa) (h2 : HP S0 pc e m2 o2) : HP S0 pc e (mCatX ma m2) ((oa.bind asL).bind fun a => o2.bind fun b => catO a b) := by
  have : mCatX ma m2 = fun ρ S => (mLE ma ρ S).bind fun p => (m2 ρ p.2).bind fun q => (catO p.1 q.1).map fun z => (z, q.2) := by
    funext ρ S; unfold mCatX; congr 1; funext p; congr 1; funext q; exact ifSome
  rw [this]; exact hp_bind (f := fun a ρ S => (m2 ρ S).bind fun q => (catO a q.1).map fun z => (z, q.2)) (g := fun a => o2.bind fun b => catO a b) (hp_le h) fun a => hp_bindo h2
theorem hp_catY {m1 : MN} {o1 : Option (List D)} (h : HP S0 pc e m1 o1) (h2 : HP S0 pc e mb ob) : HP S0 pc e (mCatY m1 mb) (o1.bind fun a => (ob.bind asL).bind fun b => catO a b) := by
  have : mCatY m1 mb = fun ρ S => (m1 ρ S).bind fun p => (mLE mb ρ p.2).bind fun q => (catO p.1 q.1).map fun z => (z, q.2) := by
    funext ρ S; unfold mCatY; congr 1; funext p; congr 1; funext q; exact ifSome
  rw [this]; exact hp_bind (f := fun a ρ S => (mLE mb ρ S).bind fun q => (catO a q.1).map fun z => (z, q.2)) (g := fun a => (ob.bind asL).bind fun b => catO a b) h fun a => hp_bindo (hp_le h2)
def revT (y : D) : Option D := match y with
  | .tuple xs => some (.tuple xs.reverse)
  | _ => none
theorem hp_revT (h : HP S0 pc e ma oa) : HP S0 pc e (mRevT ma) (oa.bind revT) := by
  have : mRevT ma = fun ρ S => (ma ρ S).bind fun p => (revT p.1).map fun z => (z, p.2) := by
    funext ρ S; unfold mRevT; congr 1; funext p; unfold revT; cases p.1 <;> rfl
  rw [this]; exact hp_bindo h
def idxO (x : D) (xs : List D) : Option D := if SeqAt.shaped x && SeqAt.shaped (.list xs) then (xs.findIdx? fun z => PyData.eqv z x).map fun j => .int (j : Nat) else none
theorem hp_idx {o1 : Option (List D)} (h : lstAt e[j]? = o1) (h2 : HP S0 pc e ma oa) : HP S0 pc e (mIdx j ma) (o1.bind fun xs => oa.bind fun x => idxO x xs) := fun ρ S t c q => by
  cases o1 with
  | none => cases q
  | some xs =>
    have e1 := hp_lvar (S0 := S0) (pc := pc) h ρ S t xs rfl
    cases oa with
    | none => cases q
    | some x =>
      have q : idxO x xs = some c := q
      unfold mIdx
      rw [e1, Option.bind_some, h2 ρ S t x rfl, Option.bind_some]
      simp only
      rw [e1, Option.bind_some]
      unfold idxO at q
      split at q
      · rename_i hh
        rw [if_pos hh]
        cases hf : xs.findIdx? fun z => PyData.eqv z x with
        | none => rw [hf] at q; cases q
        | some n => rw [hf] at q; cases q; rfl
      · cases q
end
/-! ### targets -/
def HG (S0 : Sto) (pc : List Nat) (e : Env) (mg : MG) (ts : List Nat) {Y : Type} (oY : D → Option Y) (ev : Y → Env) : Prop := ∀ ρ S d, Mt S0 pc e ρ S → ∀ y, oY d = some y → ∃ ρ1, mg d ρ = some ρ1 ∧ Mt S0 pc (ev y) ρ1 S ∧ ∀ j, j ∉ ts → ρ1[j]? = ρ[j]?
theorem hg_n : HG S0 pc e (mgN j) [j] some (fun y => e.set j (some (Pv.d y))) := fun ρ S d t y q => by
  cases q
  refine ⟨_, rfl, t.setd j d, fun l hl => ?_⟩
  rw [List.mem_singleton] at hl
  exact List.getElem?_set_ne (Ne.symm hl)
def un2 (d : D) : Option (D × D) := match d with
  | .tuple [x, y] => some (x, y)
  | _ => none
def un3 (d : D) : Option (D × D × D) := match d with
  | .tuple [x, y, z] => some (x, y, z)
  | _ => none
def un4 (d : D) : Option (D × D × D × D) := match d with
  | .tuple [x, y, z, w] => some (x, y, z, w)
  | _ => none
theorem hg_2 {a b : Nat} : HG S0 pc e (mgT 2 (mg1 (mgN a) (mg1 (mgN b) mg0))) [a, b] un2 (fun y => (e.set a (some (Pv.d y.1))).set b (some (Pv.d y.2))) := fun ρ S d t y q => by
  unfold un2 at q
  split at q <;> cases q
  refine ⟨_, rfl, (t.setd a _).setd b _, fun l hl => ?_⟩
  simp only [List.mem_cons, List.not_mem_nil, or_false, not_or] at hl
  rw [List.getElem?_set_ne (Ne.symm hl.2), List.getElem?_set_ne (Ne.symm hl.1)]
theorem hg_3 {a b c : Nat} : HG S0 pc e (mgT 3 (mg1 (mgN a) (mg1 (mgN b) (mg1 (mgN c) mg0)))) [a, b, c] un3 (fun y => ((e.set a (some (Pv.d y.1))).set b (some (Pv.d y.2.1))).set c (some (Pv.d y.2.2))) := fun ρ S d t y q => by
  unfold un3 at q
  split at q <;> cases q
  refine ⟨_, rfl, ((t.setd a _).setd b _).setd c _, fun l hl => ?_⟩
  simp only [List.mem_cons, List.not_mem_nil, or_false, not_or] at hl
  rw [List.getElem?_set_ne (Ne.symm hl.2.2), List.getElem?_set_ne (Ne.symm hl.2.1), List.getElem?_set_ne (Ne.symm hl.1)]
theorem hg_4 {a b c f : Nat} : HG S0 pc e (mgT 4 (mg1 (mgN a) (mg1 (mgN b) (mg1 (mgN c) (mg1 (mgN f) mg0))))) [a, b, c, f] un4 (fun y => (((e.set a (some (Pv.d y.1))).set b (some (Pv.d y.2.1))).set c (some (Pv.d y.2.2.1))).set f (some (Pv.d y.2.2.2))) := fun ρ S d t y q => by
  unfold un4 at q
  split at q <;> cases q
  refine ⟨_, rfl, (((t.setd a _).setd b _).setd c _).setd f _, fun l hl => ?_⟩
  simp only [List.mem_cons, List.not_mem_nil, or_false, not_or] at hl
  rw [List.getElem?_set_ne (Ne.symm hl.2.2.2), List.getElem?_set_ne (Ne.symm hl.2.2.1), List.getElem?_set_ne (Ne.symm hl.2.1), List.getElem?_set_ne (Ne.symm hl.1)]
/-! ### comprehensions -/
section
variable {Y Y1 : Type}
def lcP (oY : D → Option Y) (ot : Y → Option Bool) (oe : Y → Option D) : List D → Option (List D)
  | [] => some []
  | x :: xs => (oY x).bind fun y => (ot y).bind fun b => if b then (oe y).bind fun z => (lcP oY ot oe xs).map (z :: ·) else lcP oY ot oe xs
def lcPz (oY : D → Option Y) (ot : Y → Option Bool) (oe : Y → Option D) (xs : List D) : Option (List D) := if xs.length ≤ 1000000 then lcP oY ot oe xs else none
def gdM (n : Nat) (r : List D → MN) (xs : List D) : MN := fun ρ S => if xs.length ≤ n then r xs ρ S else none
theorem lcP_run {mg : MG} {ts : List Nat} {mt : MT} {me : ME} {oY : D → Option Y} {ot : Y → Option Bool} {oe : Y → Option D} {ev : Y → Env} (hg : HG S0 pc e mg ts oY ev) (ht : ∀ y, HP S0 pc (ev y) mt (ot y)) (he : ∀ y, HP S0 pc (ev y) me (oe y)) :
    ∀ (xs : List D) (ρ : Rho) (S : Sto), Mt S0 pc e ρ S → ∀ ys, lcP oY ot oe xs = some ys → lcRun mg mt me xs ρ S = some (ys, S)
  | [], ρ, S, t, ys, q => by cases q; rfl
  | x :: xs, ρ, S, t, ys, q => by
    unfold lcP at q
    cases h1 : oY x with
    | none => rw [h1] at q; cases q
    | some y =>
      rw [h1, Option.bind_some] at q
      obtain ⟨ρ1, a1, a2, _⟩ := hg ρ S x t y h1
      cases h2 : ot y with
      | none => rw [h2] at q; cases q
      | some b =>
        rw [h2, Option.bind_some] at q
        unfold lcRun
        rw [a1, Option.bind_some, ht y ρ1 S a2 b h2, Option.bind_some]
        cases b with
        | false => exact lcP_run hg ht he xs ρ S t ys q
        | true =>
          simp only [if_true] at q ⊢
          cases h3 : oe y with
          | none => rw [h3] at q; cases q
          | some z =>
            rw [h3, Option.bind_some] at q
            rw [he y ρ1 S a2 z h3, Option.bind_some]
            cases h4 : lcP oY ot oe xs with
            | none => rw [h4] at q; cases q
            | some zs =>
              rw [h4] at q
              cases q
              simp only
              rw [lcP_run hg ht he xs ρ S t zs h4]
              rfl
theorem hp_lc {mi : MN} {mg : MG} {ts vs : List Nat} {mt : MT} {me : ME} {oi : Option (List D)} {oY : D → Option Y} {ot : Y → Option Bool} {oe : Y → Option D} {ev : Y → Env} (hi : HP S0 pc e mi oi) (hg : HG S0 pc (wipeE e vs) mg ts oY ev) (ht : ∀ y, HP S0 pc (ev y) mt (ot y)) (he : ∀ y, HP S0 pc (ev y) me (oe y)) :
    HP S0 pc e (mLc mi mg mt me vs) (oi.bind (lcPz oY ot oe)) :=
  hp_bind (f := gdM 1000000 fun xs ρ S => lcRun mg mt me xs (wipeR ρ vs) S) (g := lcPz oY ot oe) hi fun xs => fun ρ S t c q => by
    unfold gdM
    unfold lcPz at q
    split at q
    · rename_i hh
      rw [if_pos hh]
      exact lcP_run hg ht he xs _ S (t.wipe vs) c q
    · cases q

def lcVz (oY : D → Option Y) (ot : Y → Option Bool) (oe : Y → Option D) (xs : List D) : Option (List D) := if xs.length < 1000 then lcP oY ot oe xs else none
theorem cellAt_of {S : Sto} {n l : Nat} {xs : List D} (h : S[n]? = some (some xs)) : cellAt S n l = some xs[l]? := by
  unfold cellAt; rw [h]; rfl
/-- .. directly: the cell read again at each turn -/
theorem lcCell_P {mg : MG} {ts : List Nat} {mt : MT} {me : ME} {oY : D → Option Y} {ot : Y → Option Bool} {oe : Y → Option D} {ev : Y → Env} (hg : HG S0 pc e mg ts oY ev) (ht : ∀ y, HP S0 pc (ev y) mt (ot y)) (he : ∀ y, HP S0 pc (ev y) me (oe y)) {n : Nat} {S : Sto} {xs : List D} (h : S[n]? = some (some xs)) {ρ : Rho} (t : Mt S0 pc e ρ S) :
    ∀ (f l : Nat) (ys : List D), xs.length < f + l → l ≤ xs.length → lcP oY ot oe (xs.drop l) = some ys → lcCell mg mt me n f l ρ S = some (ys, S)
  | 0, l, ys, hf, hl, q => by omega
  | f + 1, l, ys, hf, hl, q => by
    unfold lcCell
    rw [cellAt_of h, Option.bind_some]
    by_cases hlt : l < xs.length
    · rw [List.getElem?_eq_getElem hlt]
      rw [List.drop_eq_getElem_cons hlt] at q
      unfold lcP at q
      simp only
      cases h1 : oY xs[l] with
      | none => rw [h1] at q; cases q
      | some y =>
        rw [h1, Option.bind_some] at q
        obtain ⟨ρ1, a1, a2, _⟩ := hg ρ S _ t y h1
        cases h2 : ot y with
        | none => rw [h2] at q; cases q
        | some b =>
          rw [h2, Option.bind_some] at q
          rw [a1, Option.bind_some, ht y ρ1 S a2 b h2, Option.bind_some]
          cases b with
          | false => exact lcCell_P hg ht he h t f (l + 1) ys (by omega) (by omega) q
          | true =>
            simp only [if_true] at q ⊢
            cases h3 : oe y with
            | none => rw [h3] at q; cases q
            | some z =>
              rw [h3, Option.bind_some] at q
              rw [he y ρ1 S a2 z h3, Option.bind_some]
              cases h4 : lcP oY ot oe (xs.drop (l + 1)) with
              | none => rw [h4] at q; cases q
              | some zs =>
                rw [h4] at q
                cases q
                simp only
                rw [lcCell_P hg ht he h t f (l + 1) zs (by omega) (by omega) h4]
                rfl
    · rw [List.getElem?_eq_none (by omega)]
      rw [List.drop_eq_nil_of_le (by omega)] at q
      cases q
      rfl
theorem seqAt_cases {o : List D} {ρ : Rho} {S : Sto} (t : Mt S0 pc e ρ S) (h : seqAt e[j]? = some o) : (∃ x, ρ[j]? = some (some (Sl.d x)) ∧ asQ x = some o) ∨ ∃ n, ρ[j]? = some (some (Sl.loc n)) ∧ S[n]? = some (some o) := by
  unfold seqAt at h
  split at h <;> first | (cases h; done) | skip
  · rename_i x hx; exact .inl ⟨x, t.d j x hx, h⟩
  · rename_i x hx
    rcases t.q j x hx with a | ⟨n, xs, rfl, a, b, _⟩
    · exact .inl ⟨x, a, h⟩
    · cases h; exact .inr ⟨n, a, b⟩
  · rename_i xs hx; cases h; obtain ⟨n, a, b, _⟩ := t.c j _ hx; exact .inr ⟨n, a, b⟩
  · rename_i n xs hx; cases h; obtain ⟨a, b, _⟩ := t.p j _ _ hx; exact .inr ⟨n, a, b⟩
theorem hp_lcV {o : Option (List D)} {mg : MG} {ts vs : List Nat} {mt : MT} {me : ME} {oY : D → Option Y} {ot : Y → Option Bool} {oe : Y → Option D} {ev : Y → Env} (h : seqAt e[j]? = o) (hg : HG S0 pc (wipeE e vs) mg ts oY ev) (ht : ∀ y, HP S0 pc (ev y) mt (ot y)) (he : ∀ y, HP S0 pc (ev y) me (oe y)) :
    HP S0 pc e (mLcV j mg mt me vs) (o.bind (lcVz oY ot oe)) := fun ρ S t c q => by
  cases o with
  | none => cases q
  | some xs =>
    have q : lcVz oY ot oe xs = some c := q
    unfold lcVz at q
    split at q <;> first | (cases q; done) | skip
    rename_i hz
    rcases seqAt_cases t h with ⟨x, a1, a2⟩ | ⟨n, a1, a2⟩
    · unfold mLcV
      rw [a1]
      cases x <;> cases a2
      · simp only
        rw [if_pos (by omega)]
        exact lcP_run hg ht he xs _ S (t.wipe vs) c q
      · simp only
        rw [if_pos (by omega)]
        exact lcP_run hg ht he xs _ S (t.wipe vs) c q
    · unfold mLcV
      rw [a1]
      exact lcCell_P hg ht he a2 (t.wipe vs) 1000 0 c (by omega) (by omega) (by rw [List.drop_zero]; exact q)
/-- with draws -/
def lcX (oY : D → Option Y) (ot : List D → Y → Option (Bool × List D)) (oe : List D → Y → Option (D × List D)) : List D → List D → Option (List D × List D)
  | s, [] => some ([], s)
  | s, x :: xs => (oY x).bind fun y => (ot s y).bind fun b => if b.1 then (oe b.2 y).bind fun z => (lcX oY ot oe z.2 xs).map fun r => (z.1 :: r.1, r.2) else lcX oY ot oe b.2 xs
def lcXz (oY : D → Option Y) (ot : List D → Y → Option (Bool × List D)) (oe : List D → Y → Option (D × List D)) (s xs : List D) : Option (List D × List D) := if xs.length ≤ 1000000 then lcX oY ot oe s xs else none
theorem lcX_run {mg : MG} {ts : List Nat} {mt : MT} {me : ME} {oY : D → Option Y} {ot : List D → Y → Option (Bool × List D)} {oe : List D → Y → Option (D × List D)} {ev : Y → Env} (hts : i ∉ ts) (hl : i < e.length) (hle : ∀ y, (ev y).length = e.length) (hg : ∀ s, HG S0 pc (e.set i (some (celP k s))) mg ts oY (fun y => (ev y).set i (some (celP k s)))) (ht : ∀ s y, HX S0 pc (ev y) i k s mt (ot s y)) (he : ∀ s y, HX S0 pc (ev y) i k s me (oe s y)) :
    ∀ (xs : List D) (ρ : Rho) (s : List D) (S : Sto) (n : Nat), Mt S0 pc (e.set i (some (celP k s))) ρ S → ρ[i]? = some (some (Sl.loc n)) → ∀ ys s', lcX oY ot oe s xs = some (ys, s') → lcRun mg mt me xs ρ S = some (ys, S.set n (some s'))
  | [], ρ, s, S, n, t, hn, ys, s', q => by
    cases q
    obtain ⟨n', a1, a2, _⟩ := self_set t hl
    rw [hn] at a1; cases a1
    rw [a2]; rfl
  | x :: xs, ρ, s, S, n, t, hn, ys, s', q => by
    unfold lcX at q
    cases h1 : oY x with
    | none => rw [h1] at q; cases q
    | some y =>
      rw [h1, Option.bind_some] at q
      obtain ⟨ρ1, a1, a2, a3⟩ := hg s ρ S x t y h1
      have hn1 : ρ1[i]? = some (some (Sl.loc n)) := by rw [a3 i hts]; exact hn
      cases h2 : ot s y with
      | none => rw [h2] at q; cases q
      | some b =>
        rw [h2, Option.bind_some] at q
        obtain ⟨n1, b1, b2⟩ := ht s y ρ1 S a2 (by rw [hle]; exact hl) b.1 b.2 (by rw [h2])
        rw [hn1] at b1; cases b1
        unfold lcRun
        rw [a1, Option.bind_some, b2, Option.bind_some]
        have t1 := t.wr (k := k) (xs := s) (i := i) (List.getElem?_set_self hl) hn b.2
        rw [List.set_set] at t1
        have u1 := a2.wr (k := k) (xs := s) (i := i) (List.getElem?_set_self (by rw [hle]; exact hl)) hn1 b.2
        rw [List.set_set] at u1
        obtain ⟨bb, bs⟩ := b
        cases bb with
        | false =>
          have := lcX_run hts hl hle hg ht he xs ρ bs _ n t1 hn ys s' q
          rw [List.set_set] at this
          exact this
        | true =>
          simp only [if_true] at q ⊢
          cases h3 : oe bs y with
          | none => rw [h3] at q; cases q
          | some z =>
            rw [h3, Option.bind_some] at q
            obtain ⟨n2, c1, c2⟩ := he bs y ρ1 _ u1 (by rw [hle]; exact hl) z.1 z.2 (by rw [h3])
            rw [hn1] at c1; cases c1
            rw [List.set_set] at c2
            rw [c2, Option.bind_some]
            have t2 := t.wr (k := k) (xs := s) (i := i) (List.getElem?_set_self hl) hn z.2
            rw [List.set_set] at t2
            cases h4 : lcX oY ot oe z.2 xs with
            | none => rw [h4] at q; cases q
            | some r =>
              rw [h4] at q
              cases q
              have := lcX_run hts hl hle hg ht he xs ρ z.2 _ n t2 hn r.1 r.2 (by rw [h4])
              rw [List.set_set] at this
              simp only
              rw [this]
              rfl
theorem hx_lc {mi : MN} {mg : MG} {ts vs : List Nat} {mt : MT} {me : ME} {oi : Option (List D × List D)} {oY : D → Option Y} {ot : List D → Y → Option (Bool × List D)} {oe : List D → Y → Option (D × List D)} {ev : Y → Env} {e1 : Env} (hi : HX S0 pc e i k x0 mi oi) (hw : ∀ s, wipeE (e.set i (some (celP k s))) vs = e1.set i (some (celP k s))) (hts : i ∉ ts) (hvs : i ∉ vs) (hl1 : e1.length = e.length) (hle : ∀ y, (ev y).length = e1.length) (hg : ∀ s, HG S0 pc (e1.set i (some (celP k s))) mg ts oY (fun y => (ev y).set i (some (celP k s)))) (ht : ∀ s y, HX S0 pc (ev y) i k s mt (ot s y)) (he : ∀ s y, HX S0 pc (ev y) i k s me (oe s y)) :
    HX S0 pc e i k x0 (mLc mi mg mt me vs) (oi.bind fun a => lcXz oY ot oe a.2 a.1) :=
  hx_bind (f := gdM 1000000 fun xs ρ S => lcRun mg mt me xs (wipeR ρ vs) S) (g := fun xs s => lcXz oY ot oe s xs) hi fun xs s => fun ρ S t hi2 c y q => by
    unfold gdM
    unfold lcXz at q
    split at q
    · rename_i hh
      obtain ⟨n, a1, a2⟩ := t.cell (i := i) (k := k) (xs := s) (List.getElem?_set_self hi2)
      refine ⟨n, a1, ?_⟩
      rw [if_pos hh]
      have tw := t.wipe vs
      rw [hw] at tw
      exact lcX_run hts (by rw [hl1]; exact hi2) hle hg ht he xs _ s S n tw (by rw [wipeR_ne hvs]; exact a1) c y q
    · cases q
/-- two fors -/
def lc2P (oY : D → Option Y) (ot : Y → Option Bool) (oi : Y → Option (List D)) (oY1 : D → Option Y1) (ot1 : Y → Y1 → Option Bool) (oe : Y → Y1 → Option D) : List D → Option (List D)
  | [] => some []
  | x :: xs => (oY x).bind fun y => (ot y).bind fun b => if b then (oi y).bind fun q => if q.length ≤ 1000 then (lcP oY1 (ot1 y) (oe y) q).bind fun r => (lc2P oY ot oi oY1 ot1 oe xs).map fun z => r ++ z else none else lc2P oY ot oi oY1 ot1 oe xs
def lc2Pz (oY : D → Option Y) (ot : Y → Option Bool) (oi : Y → Option (List D)) (oY1 : D → Option Y1) (ot1 : Y → Y1 → Option Bool) (oe : Y → Y1 → Option D) (xs : List D) : Option (List D) := if xs.length ≤ 1000 then lc2P oY ot oi oY1 ot1 oe xs else none
theorem lc2P_run {mg mg1 : MG} {ts ts1 vs1 : List Nat} {mt mt1 : MT} {mi1 : MN} {me : ME} {oY : D → Option Y} {ot : Y → Option Bool} {oi : Y → Option (List D)} {oY1 : D → Option Y1} {ot1 : Y → Y1 → Option Bool} {oe : Y → Y1 → Option D} {ev : Y → Env} {ev1 : Y → Y1 → Env}
    (hg : HG S0 pc e mg ts oY ev) (ht : ∀ y, HP S0 pc (ev y) mt (ot y)) (hi1 : ∀ y, HP S0 pc (ev y) mi1 (oi y)) (hg1 : ∀ y, HG S0 pc (wipeE (ev y) vs1) mg1 ts1 oY1 (ev1 y)) (ht1 : ∀ y z, HP S0 pc (ev1 y z) mt1 (ot1 y z)) (he : ∀ y z, HP S0 pc (ev1 y z) me (oe y z)) :
    ∀ (xs : List D) (ρ : Rho) (S : Sto), Mt S0 pc e ρ S → ∀ ys, lc2P oY ot oi oY1 ot1 oe xs = some ys → lc2Run mg mt mi1 mg1 mt1 me vs1 xs ρ S = some (ys, S)
  | [], ρ, S, t, ys, q => by cases q; rfl
  | x :: xs, ρ, S, t, ys, q => by
    unfold lc2P at q
    cases h1 : oY x with
    | none => rw [h1] at q; cases q
    | some y =>
      rw [h1, Option.bind_some] at q
      obtain ⟨ρ1, a1, a2, _⟩ := hg ρ S x t y h1
      cases h2 : ot y with
      | none => rw [h2] at q; cases q
      | some b =>
        rw [h2, Option.bind_some] at q
        unfold lc2Run
        rw [a1, Option.bind_some, ht y ρ1 S a2 b h2, Option.bind_some]
        cases b with
        | false => exact lc2P_run hg ht hi1 hg1 ht1 he xs ρ S t ys q
        | true =>
          simp only [if_true] at q ⊢
          cases h3 : oi y with
          | none => rw [h3] at q; cases q
          | some l =>
            rw [h3, Option.bind_some] at q
            rw [hi1 y ρ1 S a2 l h3, Option.bind_some]
            split at q <;> first | (cases q; done) | skip
            rename_i hz
            simp only
            rw [if_pos hz]
            cases h4 : lcP oY1 (ot1 y) (oe y) l with
            | none => rw [h4] at q; cases q
            | some r =>
              rw [h4, Option.bind_some] at q
              rw [lcP_run (hg1 y) (ht1 y) (he y) l _ S (a2.wipe vs1) r h4, Option.bind_some]
              cases h5 : lc2P oY ot oi oY1 ot1 oe xs with
              | none => rw [h5] at q; cases q
              | some zs =>
                rw [h5] at q
                cases q
                simp only
                rw [lc2P_run hg ht hi1 hg1 ht1 he xs ρ S t zs h5]
                rfl
theorem hp_lc2 {mi : MN} {mg mg1 : MG} {ts ts1 vs vs1 : List Nat} {mt mt1 : MT} {mi1 : MN} {me : ME} {oi0 : Option (List D)} {oY : D → Option Y} {ot : Y → Option Bool} {oi : Y → Option (List D)} {oY1 : D → Option Y1} {ot1 : Y → Y1 → Option Bool} {oe : Y → Y1 → Option D} {ev : Y → Env} {ev1 : Y → Y1 → Env}
    (h0 : HP S0 pc e mi oi0) (hg : HG S0 pc (wipeE e vs) mg ts oY ev) (ht : ∀ y, HP S0 pc (ev y) mt (ot y)) (hi1 : ∀ y, HP S0 pc (ev y) mi1 (oi y)) (hg1 : ∀ y, HG S0 pc (wipeE (ev y) vs1) mg1 ts1 oY1 (ev1 y)) (ht1 : ∀ y z, HP S0 pc (ev1 y z) mt1 (ot1 y z)) (he : ∀ y z, HP S0 pc (ev1 y z) me (oe y z)) :
    HP S0 pc e (mLc2 mi mg mt mi1 mg1 mt1 me vs vs1) (oi0.bind (lc2Pz oY ot oi oY1 ot1 oe)) :=
  hp_bind (f := gdM 1000 fun xs ρ S => lc2Run mg mt mi1 mg1 mt1 me vs1 xs (wipeR ρ vs) S) (g := lc2Pz oY ot oi oY1 ot1 oe) h0 fun xs => fun ρ S t c q => by
    unfold gdM
    unfold lc2Pz at q
    split at q
    · rename_i hh
      rw [if_pos hh]
      exact lc2P_run hg ht hi1 hg1 ht1 he xs _ S (t.wipe vs) c q
    · cases q
end
end
end G
set_option Elab.async false
set_option linter.all false
set_option autoImplicit false
set_option maxRecDepth 100000
set_option maxHeartbeats 4000000
namespace G
open PySem L2
/-! ## Functions and their calls -/
inductive Pk where
  | d (x : D)
  | p (xs : List D)
  | q (x : D)
inductive Kd where
  | d | p | q
def QA (S : Sto) (s : Sl) (x : D) : Prop := s = .d x ∨ ∃ (n : Nat) (xs : List D), x = .list xs ∧ s = .loc n ∧ S[n]? = some (some xs)
def AO (S : Sto) : List Sl → List Pk → Prop
  | as, [] => as = []
  | as, .d x :: vs => ∃ as', as = .d x :: as' ∧ AO S as' vs
  | as, .p xs :: vs => ∃ n as', as = .loc n :: as' ∧ S[n]? = some (some xs) ∧ AO S as' vs
  | as, .q x :: vs => ∃ s as', as = s :: as' ∧ QA S s x ∧ AO S as' vs
def pls : List Sl → List Pk → List Nat
  | .loc n :: as, .p _ :: vs => n :: pls as vs
  | _ :: as, _ :: vs => pls as vs
  | _, _ => []
def qls : List Sl → List Pk → List Nat
  | .loc n :: as, .q _ :: vs => n :: qls as vs
  | _ :: as, _ :: vs => qls as vs
  | _, _ => []
def wrs (S : Sto) : List Nat → List (List D) → Sto
  | n :: ns, x :: xs => wrs (S.set n (some x)) ns xs
  | _, _ => S
def FSpec {A : Type} (g : Fn) (F : List Pk → Option A) (rt : A → Rt) (outs : A → List (List D)) : Prop := ∀ S as vs, AO S as vs → (pls as vs).Nodup → (∀ n ∈ qls as vs, n ∉ pls as vs) → ∀ a, F vs = some a → g as S = some (rt a, wrs S (pls as vs) (outs a))
section
variable {S0 : Sto} {pc : List Nat} {e e' : Env} {i j : Nat} {k : Option Nat} {x0 : List D} {β γ δ : Type}
theorem wrs_nil (S : Sto) (xs : List (List D)) : wrs S [] xs = S := by cases xs <;> rfl
def qAt (v : Option (Option Pv)) : Option Pk := match v with
  | some (some (.d x)) => some (.q x)
  | some (some (.q x)) => some (.q x)
  | some (some (.c xs)) => some (.q (.list xs))
  | some (some (.p _ xs)) => some (.q (.list xs))
  | _ => none
def pAt (v : Option (Option Pv)) : Option Pk := match v with
  | some (some (.c xs)) => some (.p xs)
  | some (some (.p _ xs)) => some (.p xs)
  | _ => none
/-- the arguments as the callee takes them -/
def cvt (e : Env) (i : Option Nat) : Kd → Arg → Option Pk
  | .d, .v x => some (.d x)
  | .d, .s j => (datAt e[j]?).map .d
  | .q, .v x => some (.q x)
  | .q, .s j => if some j = i then none else qAt e[j]?
  | .p, .s j => if some j = i then pAt e[j]? else none
  | .p, .v _ => none
def cvts (e : Env) (i : Option Nat) : List Kd → List Arg → Option (List Pk)
  | [], [] => some []
  | q :: ks, a :: as => (cvt e i q a).bind fun x => (cvts e i ks as).map (x :: ·)
  | _, _ => none
def noP : List Kd → Bool
  | [] => true
  | .p :: _ => false
  | _ :: r => noP r
theorem cvts_ok {ρ : Rho} {S : Sto} (t : Mt S0 pc e ρ S) : ∀ (ks : List Kd) (as : List Arg) (ss : List Sl) (vs : List Pk), noP ks = true → ArOk ρ as ss → cvts e none ks as = some vs → AO S ss vs ∧ pls ss vs = [] ∧ ss.length = ks.length
  | [], [], [], vs, _, h, q => by cases q; exact ⟨rfl, rfl, rfl⟩
  | [], [], _ :: _, vs, _, h, q => by cases h
  | [], _ :: _, _, vs, _, h, q => by cases q
  | _ :: _, [], _, vs, _, h, q => by cases q
  | q0 :: ks, a :: as, [], vs, _, h, q => by cases a <;> cases h
  | q0 :: ks, a :: as, s :: ss, vs, hn, h, q => by
    unfold cvts at q
    cases h1 : cvt e none q0 a with
    | none => rw [h1] at q; cases q
    | some x =>
      rw [h1, Option.bind_some] at q
      cases h2 : cvts e none ks as with
      | none => rw [h2] at q; cases q
      | some ws =>
        rw [h2] at q
        cases q
        cases q0 with
        | p => cases hn
        | d =>
          have ih := cvts_ok t ks as ss ws hn (by cases a <;> exact h.2) h2
          have hx : ∃ d, x = .d d ∧ s = .d d := by
            cases a with
            | v d => cases h1; exact ⟨d, rfl, h.1⟩
            | s j =>
              have h1 : (datAt e[j]?).map Pk.d = some x := h1
              unfold datAt at h1
              split at h1 <;> cases h1
              rename_i d hd
              have := t.d j d hd
              rw [h.1] at this
              cases this
              exact ⟨d, rfl, rfl⟩
          obtain ⟨d, rfl, rfl⟩ := hx
          exact ⟨⟨ss, rfl, ih.1⟩, ih.2.1, by rw [List.length_cons, List.length_cons, ih.2.2]⟩
        | q =>
          have ih := cvts_ok t ks as ss ws hn (by cases a <;> exact h.2) h2
          have hx : ∃ d, x = .q d ∧ QA S s d := by
            cases a with
            | v d => cases h1; exact ⟨d, rfl, .inl h.1⟩
            | s j =>
              have h1 : (if some j = (none : Option Nat) then none else qAt e[j]?) = some x := h1
              rw [if_neg (by simp)] at h1
              unfold qAt at h1
              split at h1 <;> cases h1
              · rename_i d hd
                have := t.d j d hd
                rw [h.1] at this
                cases this
                exact ⟨d, rfl, .inl rfl⟩
              · rename_i d hd
                refine ⟨d, rfl, ?_⟩
                rcases t.q j d hd with a1 | ⟨n, xs, rfl, a1, a2, _⟩
                · rw [h.1] at a1; cases a1; exact .inl rfl
                · rw [h.1] at a1; cases a1; exact .inr ⟨n, xs, rfl, rfl, a2⟩
              · rename_i xs hd
                obtain ⟨n, a1, a2, _⟩ := t.c j xs hd
                rw [h.1] at a1; cases a1; exact ⟨_, rfl, .inr ⟨n, xs, rfl, rfl, a2⟩⟩
              · rename_i n xs hd
                obtain ⟨a1, a2, _⟩ := t.p j n xs hd
                rw [h.1] at a1; cases a1; exact ⟨_, rfl, .inr ⟨n, xs, rfl, rfl, a2⟩⟩
          obtain ⟨d, rfl, hq⟩ := hx
          refine ⟨⟨s, ss, rfl, hq, ih.1⟩, ?_, by rw [List.length_cons, List.length_cons, ih.2.2]⟩
          cases s <;> exact ih.2.1
def callO {A : Type} (F : List Pk → Option A) (ks : List Kd) (e : Env) (as : List Arg) : Option A := (cvts e none ks as).bind F
section
variable {A : Type} {g : Fn} {F : List Pk → Option A} {rt : A → Rt} {outs : A → List (List D)} {ks : List Kd} {m : MA} {np : Nat}
theorem call_pure (c : FSpec g F rt outs) (hn : noP ks = true) {ρ : Rho} {S : Sto} (t : Mt S0 pc e ρ S) {as : List Arg} {ss : List Sl} (h : ArOk ρ as ss) {a : A} (hF : callO F ks e as = some a) : ss.length = ks.length ∧ g ss S = some (rt a, S) := by
  unfold callO at hF
  cases hv : cvts e none ks as with
  | none => rw [hv] at hF; cases hF
  | some vs =>
    rw [hv, Option.bind_some] at hF
    obtain ⟨a1, a2, a3⟩ := cvts_ok t ks as ss vs hn h hv
    refine ⟨a3, ?_⟩
    have := c S ss vs a1 (by rw [a2]; exact List.nodup_nil) (by rw [a2]; intro n _ h; cases h) a hF
    rw [a2, wrs_nil] at this
    exact this
theorem hp_callE {o : (List Arg → Option A) → Option A} {o' : Option A} (c : FSpec g F rt outs) (hn : noP ks = true) (hnp : ks.length = np) (ha : HA S0 pc e m o) (ho : o (callO F ks e) = o') : HP S0 pc e (mCall np g m) (o'.bind fun a => rtE (rt a)) := fun ρ S t b q => by
  subst ho
  cases h0 : o (callO F ks e) with
  | none => rw [h0] at q; cases q
  | some a =>
    rw [h0, Option.bind_some] at q
    obtain ⟨as, ss, a1, a2, a3⟩ := ha _ ρ S t a h0
    obtain ⟨b1, b2⟩ := call_pure c hn t a2 a3
    unfold mCall
    rw [a1, Option.bind_some]
    simp only
    rw [if_pos (by rw [b1, hnp]), b2, Option.bind_some]
    unfold rtO
    rw [q]
    rfl
theorem hp_callU {o : (List Arg → Option A) → Option A} {o' : Option A} (val : A → D) (c : FSpec g F rt outs) (hn : noP ks = true) (hnp : ks.length = np) (hv : ∀ a, rtE (rt a) = some (val a)) (ha : HA S0 pc e m o) (ho : o (callO F ks e) = o') : HP S0 pc e (mCall np g m) (o'.map val) := by
  have h := hp_callE c hn hnp ha ho
  simp only [hv] at h
  rwa [show (o'.bind fun a => some (val a)) = o'.map val from by cases o' <;> rfl] at h
theorem hp_callD {F : List Pk → Option D} {o : (List Arg → Option D) → Option D} {o' : Option D} (c : FSpec g F .val (fun _ => [])) (hn : noP ks = true) (hnp : ks.length = np) (ha : HA S0 pc e m o) (ho : o (callO F ks e) = o') : HP S0 pc e (mCall np g m) o' := by
  have := hp_callU (fun a => a) c hn hnp (fun _ => rfl) ha ho
  rwa [Option.map_id'] at this
theorem hp_callN {F : List Pk → Option (List D)} {o : (List Arg → Option (List D)) → Option (List D)} {o' : Option (List D)} (c : FSpec g F .new (fun _ => [])) (hn : noP ks = true) (hnp : ks.length = np) (ha : HA S0 pc e m o) (ho : o (callO F ks e) = o') : HP S0 pc e (mCallN np g m) o' := fun ρ S t b q => by
  subst ho
  obtain ⟨as, ss, a1, a2, a3⟩ := ha _ ρ S t b q
  obtain ⟨b1, b2⟩ := call_pure c hn t a2 a3
  unfold mCallN
  rw [a1, Option.bind_some]
  simp only
  rw [if_pos (by rw [b1, hnp]), b2]
  rfl
/-- .. that write a cell: one parameter's, the slot i -/
def oneP : List Kd → Bool
  | [] => false
  | .p :: r => noP r
  | _ :: r => oneP r
theorem Mt.apart {ρ : Rho} {S : Sto} {xs : List D} (t : Mt S0 pc e ρ S) (hi : e[i]? = some (some (celP k xs))) {n : Nat} (hn : ρ[i]? = some (some (Sl.loc n))) (hj : j ≠ i) {v : Pv} (hv : e[j]? = some (some v)) : ρ[j]? ≠ some (some (Sl.loc n)) := by
  intro hr
  cases k with
  | none =>
    obtain ⟨n', a1, a2, a3⟩ := t.c i xs hi
    rw [hn] at a1; cases a1
    cases v with
    | d x => have := t.d j x hv; rw [hr] at this; cases this
    | c ys => exact t.dj j i ys xs n hj hv hi hr hn
    | p m ys => have := (t.p j m ys hv); rw [hr] at this; obtain ⟨b1, _, b3⟩ := this; cases b1; have := t.pl _ b3; omega
    | q x =>
      rcases t.q j x hv with b | ⟨m, ys, _, b1, _, b3, _⟩
      · rw [hr] at b; cases b
      · rw [hr] at b1; cases b1; omega
  | some l =>
    obtain ⟨a1, a2, a3⟩ := t.p i l xs hi
    rw [hn] at a1; cases a1
    cases v with
    | d x => have := t.d j x hv; rw [hr] at this; cases this
    | c ys => obtain ⟨m, b1, _, b3⟩ := t.c j ys hv; rw [hr] at b1; cases b1; have := t.pl _ a3; omega
    | p m ys => obtain ⟨b1, _, _⟩ := t.p j m ys hv; rw [hr] at b1; cases b1; exact t.pd j i _ _ ys xs hj hv hi rfl
    | q x =>
      rcases t.q j x hv with b | ⟨m, ys, _, b1, _, _, b4⟩
      · rw [hr] at b; cases b
      · rw [hr] at b1; cases b1; exact b4 a3
theorem cvts_okX {ρ : Rho} {S : Sto} {xs : List D} (t : Mt S0 pc e ρ S) (hi : e[i]? = some (some (celP k xs))) {n : Nat} (hn : ρ[i]? = some (some (Sl.loc n))) (hS : S[n]? = some (some xs)) : ∀ (ks : List Kd) (as : List Arg) (ss : List Sl) (vs : List Pk), ArOk ρ as ss → cvts e (some i) ks as = some vs → AO S ss vs ∧ (noP ks = true → pls ss vs = []) ∧ (oneP ks = true → pls ss vs = [n]) ∧ (n ∉ qls ss vs) ∧ ss.length = ks.length
  | [], [], [], vs, h, q => by cases q; exact ⟨rfl, fun _ => rfl, fun h => (by cases h), (by simp [qls]), rfl⟩
  | [], [], _ :: _, vs, h, q => by cases h
  | [], _ :: _, _, vs, h, q => by cases q
  | _ :: _, [], _, vs, h, q => by cases q
  | q0 :: ks, a :: as, [], vs, h, q => by cases a <;> cases h
  | q0 :: ks, a :: as, s :: ss, vs, h, q => by
    unfold cvts at q
    cases h1 : cvt e (some i) q0 a with
    | none => rw [h1] at q; cases q
    | some x =>
      rw [h1, Option.bind_some] at q
      cases h2 : cvts e (some i) ks as with
      | none => rw [h2] at q; cases q
      | some ws =>
        rw [h2] at q
        cases q
        have ih := cvts_okX t hi hn hS ks as ss ws (by cases a <;> exact h.2) h2
        cases q0 with
        | p =>
          cases a with
          | v d => cases h1
          | s j =>
            have h1 : (if some j = some i then pAt e[j]? else none) = some x := h1
            split at h1 <;> first | (cases h1; done) | skip
            rename_i hj
            have hj : j = i := Option.some.inj hj
            subst hj
            have hs : s = .loc n := by have := h.1; rw [hn] at this; cases this; rfl
            subst hs
            have hx : x = .p xs := by
              rename_i h0
              rw [hi] at h0
              cases k <;> exact (Option.some.inj h0).symm
            subst hx
            refine ⟨⟨n, ss, rfl, hS, ih.1⟩, fun h => absurd (show false = true from h) Bool.false_ne_true, fun h => ?_, ih.2.2.2.1, by rw [List.length_cons, List.length_cons, ih.2.2.2.2]⟩
            show n :: pls ss ws = [n]
            rw [ih.2.1 h]
        | d =>
          have hx : ∃ d, x = .d d ∧ s = .d d := by
            cases a with
            | v d => cases h1; exact ⟨d, rfl, h.1⟩
            | s j =>
              have h1 : (datAt e[j]?).map Pk.d = some x := h1
              unfold datAt at h1
              split at h1 <;> cases h1
              rename_i d hd
              have := t.d j d hd
              rw [h.1] at this
              cases this
              exact ⟨d, rfl, rfl⟩
          obtain ⟨d, rfl, rfl⟩ := hx
          exact ⟨⟨ss, rfl, ih.1⟩, ih.2.1, ih.2.2.1, ih.2.2.2.1, by rw [List.length_cons, List.length_cons, ih.2.2.2.2]⟩
        | q =>
          have hx : ∃ d, x = .q d ∧ QA S s d ∧ s ≠ .loc n := by
            cases a with
            | v d => cases h1; exact ⟨d, rfl, .inl h.1, by rw [h.1]; exact fun h => by cases h⟩
            | s j =>
              have h1 : (if some j = some i then none else qAt e[j]?) = some x := h1
              split at h1 <;> first | (cases h1; done) | skip
              rename_i hj
              have hj : j ≠ i := fun h => hj (by rw [h])
              have hs := h.1
              unfold qAt at h1
              split at h1 <;> cases h1
              · rename_i d hd
                have := t.d j d hd
                rw [hs] at this
                cases this
                exact ⟨d, rfl, .inl rfl, fun h => by cases h⟩
              · rename_i d hd
                have ap := t.apart hi hn hj hd
                rw [hs] at ap
                refine ⟨d, rfl, ?_, fun h => ap (by rw [h])⟩
                rcases t.q j d hd with a1 | ⟨n, xs, rfl, a1, a2, _⟩
                · rw [hs] at a1; cases a1; exact .inl rfl
                · rw [hs] at a1; cases a1; exact .inr ⟨n, xs, rfl, rfl, a2⟩
              · rename_i xs hd
                have ap := t.apart hi hn hj hd
                rw [hs] at ap
                obtain ⟨n, a1, a2, _⟩ := t.c j xs hd
                rw [hs] at a1; cases a1; exact ⟨_, rfl, .inr ⟨n, xs, rfl, rfl, a2⟩, fun h => ap (by rw [h])⟩
              · rename_i n xs hd
                have ap := t.apart hi hn hj hd
                rw [hs] at ap
                obtain ⟨a1, a2, _⟩ := t.p j n xs hd
                rw [hs] at a1; cases a1; exact ⟨_, rfl, .inr ⟨n, xs, rfl, rfl, a2⟩, fun h => ap (by rw [h])⟩
          obtain ⟨d, rfl, hq, hne⟩ := hx
          refine ⟨⟨s, ss, rfl, hq, ih.1⟩, ?_, ?_, ?_, by rw [List.length_cons, List.length_cons, ih.2.2.2.2]⟩
          · cases s <;> exact ih.2.1
          · cases s <;> exact ih.2.2.1
          · cases s with
            | d _ => exact ih.2.2.2.1
            | loc l =>
              show n ∉ l :: qls ss ws
              rw [List.mem_cons, not_or]
              exact ⟨fun h => hne (by rw [h]), ih.2.2.2.1⟩
def callX (F : List Pk → Option A) (ks : List Kd) (e : Env) (i : Nat) (k : Option Nat) (as : List Arg) (x : List D) : Option A := (cvts (e.set i (some (celP k x))) (some i) ks as).bind F
theorem call_eff (c : FSpec g F rt outs) (hn : oneP ks = true) {ρ : Rho} {S : Sto} {x y : List D} (t : Mt S0 pc (e.set i (some (celP k x))) ρ S) (hi : i < e.length) {as : List Arg} {ss : List Sl} (h : ArOk ρ as ss) {a : A} (hF : callX F ks e i k as x = some a) (hy : outs a = [y]) {n : Nat} (hr : ρ[i]? = some (some (Sl.loc n))) : ss.length = ks.length ∧ g ss S = some (rt a, S.set n (some y)) := by
  unfold callX at hF
  cases hv : cvts (e.set i (some (celP k x))) (some i) ks as with
  | none => rw [hv] at hF; cases hF
  | some vs =>
    rw [hv, Option.bind_some] at hF
    obtain ⟨n', b1, b2⟩ := t.cell (i := i) (k := k) (xs := x) (List.getElem?_set_self hi)
    rw [hr] at b1; cases b1
    obtain ⟨a1, a2, a3, a4, a5⟩ := cvts_okX t (List.getElem?_set_self hi) hr b2 ks as ss vs h hv
    refine ⟨a5, ?_⟩
    have := c S ss vs a1 (by rw [a3 hn]; exact List.nodup_cons.mpr ⟨by simp, List.nodup_nil⟩) (by rw [a3 hn]; intro l hl h2; rw [List.mem_singleton.mp h2] at hl; exact a4 hl) a hF
    rw [a3 hn, hy] at this
    exact this
theorem hx_callU {o : (List Arg → List D → Option A) → Option A} {o' : Option A} (val : A → D) (out : A → List D) (c : FSpec g F rt outs) (hn : oneP ks = true) (hnp : ks.length = np) (hv : ∀ a, rtE (rt a) = some (val a)) (hu : ∀ a, outs a = [out a]) (ha : HAX S0 pc e i k x0 m o) (ho : o (callX F ks e i k) = o') : HX S0 pc e i k x0 (mCall np g m) (o'.map fun a => (val a, out a)) := fun ρ S t hi b y q => by
  subst ho
  cases h0 : o (callX F ks e i k) with
  | none => rw [h0] at q; cases q
  | some a =>
    rw [h0] at q
    cases q
    obtain ⟨as, ss, n, x, a1, a2, a3, a4⟩ := ha _ ρ S t hi a h0
    refine ⟨n, a1, ?_⟩
    have t2 := t.wr (k := k) (xs := x0) (i := i) (List.getElem?_set_self hi) a1 x
    rw [List.set_set] at t2
    obtain ⟨b1, b2⟩ := call_eff c hn t2 hi a3 a4 (hu a) a1
    unfold mCall
    rw [a2, Option.bind_some]
    simp only
    rw [if_pos (by rw [b1, hnp]), b2, List.set_set, Option.bind_some]
    unfold rtO
    rw [hv]
    rfl
theorem hx_callD {F : List Pk → Option (D × List D)} {o : (List Arg → List D → Option (D × List D)) → Option (D × List D)} {o' : Option (D × List D)} (c : FSpec g F (fun a => .val a.1) (fun a => [a.2])) (hn : oneP ks = true) (hnp : ks.length = np) (ha : HAX S0 pc e i k x0 m o) (ho : o (callX F ks e i k) = o') : HX S0 pc e i k x0 (mCall np g m) o' := by
  have := hx_callU (fun a => a.1) (fun a => a.2) c hn hnp (fun _ => rfl) (fun _ => rfl) ha ho
  rwa [show (fun a : D × List D => (a.1, a.2)) = fun a => a from rfl, Option.map_id'] at this
theorem hx_callN {F : List Pk → Option (List D × List D)} {o : (List Arg → List D → Option (List D × List D)) → Option (List D × List D)} {o' : Option (List D × List D)} (c : FSpec g F (fun a => .new a.1) (fun a => [a.2])) (hn : oneP ks = true) (hnp : ks.length = np) (ha : HAX S0 pc e i k x0 m o) (ho : o (callX F ks e i k) = o') : HX S0 pc e i k x0 (mCallN np g m) o' := fun ρ S t hi b y q => by
  subst ho
  obtain ⟨as, ss, n, x, a1, a2, a3, a4⟩ := ha _ ρ S t hi _ q
  refine ⟨n, a1, ?_⟩
  have t2 := t.wr (k := k) (xs := x0) (i := i) (List.getElem?_set_self hi) a1 x
  rw [List.set_set] at t2
  obtain ⟨b1, b2⟩ := call_eff c hn t2 hi a3 a4 rfl a1
  unfold mCallN
  rw [a2, Option.bind_some]
  simp only
  rw [if_pos (by rw [b1, hnp]), b2, List.set_set]
  rfl
end
/-- pop -/
theorem hx_pop : HX S0 pc e i k x0 (mPop i) ((x0[x0.length - 1]?).map fun y => (y, x0.dropLast)) := fun ρ S t hi b y q => by
  obtain ⟨n, a1, a2⟩ := t.cell (i := i) (k := k) (xs := x0) (List.getElem?_set_self hi)
  refine ⟨n, a1, ?_⟩
  unfold mPop
  rw [a1]
  simp only
  rw [a2]
  show (x0[x0.length - 1]?).map _ = _
  cases h : x0[x0.length - 1]? with
  | none => rw [h] at q; cases q
  | some z => rw [h] at q; cases q; rfl
def popO (xs : List D) (y : D) : Option (D × List D) := match y with
  | .int k => if 0 ≤ k ∧ k < xs.length ∧ k ≤ 1000000 then (xs[k.toNat]?).map fun y => (y, xs.eraseIdx k.toNat) else none
  | _ => none
theorem hx_popI {me : ME} {om : Option D} (h : HP S0 pc (e.set i (some (celP k x0))) me om) : HX S0 pc e i k x0 (mPopI i me) (om.bind (popO x0)) := fun ρ S t hi b y q => by
  obtain ⟨n, a1, a2⟩ := t.cell (i := i) (k := k) (xs := x0) (List.getElem?_set_self hi)
  refine ⟨n, a1, ?_⟩
  cases om with
  | none => cases q
  | some z =>
    replace q : popO x0 z = some (b, y) := q
    unfold mPopI
    rw [a1]
    simp only
    rw [a2, h ρ S t z rfl]
    unfold popO at q
    split at q <;> first | (cases q; done) | skip
    rename_i kk
    split at q <;> first | (cases q; done) | skip
    rename_i hh
    show (S[n]?.join).bind _ = _
    rw [a2]
    show (if _ then _ else _) = _
    rw [if_pos hh]
    cases h2 : x0[kk.toNat]? with
    | none => rw [h2] at q; cases q
    | some w => rw [h2] at q; cases q; rfl
end
end G
set_option Elab.async false
set_option linter.all false
set_option autoImplicit false
set_option maxRecDepth 100000
set_option maxHeartbeats 4000000
namespace G
open PySem L2
/-! ## Statements -/
abbrev PT (A : Type) := A → Out → Rho → Sto → Prop
def HS (S0 : Sto) (pc : List Nat) {A : Type} (e : Env) (m : MS) (o : Option A) (P : PT A) : Prop := ∀ ρ S, Mt S0 pc e ρ S → ∀ a, o = some a → ∃ out ρ' S', m ρ S = some (out, ρ', S') ∧ P a out ρ' S'
section
variable {S0 : Sto} {pc : List Nat} {e e' : Env} {i j b : Nat} {k : Option Nat} {x0 : List D} {β γ δ A R : Type} {P : PT A} {m1 m2 m3 : MS} {me : ME} {mn : MN} {o : Option A}
/-- a block that goes on to its end -/
def PostB (S0 : Sto) (pc : List Nat) {σ : Type} (ev : σ → Env) : PT σ := fun s out ρ S => out = .nx ∧ Mt S0 pc (ev s) ρ S
inductive Step (σ R : Type) where
  | nx (s : σ)
  | bk (s : σ)
  | rt (r : R)
def PostS (S0 : Sto) (pc : List Nat) {σ R : Type} (ev : σ → Env) (PR : PT R) : PT (Step σ R) := fun a out ρ S => match a with
  | .nx s => (out = .nx ∨ out = .ct) ∧ Mt S0 pc (ev s) ρ S
  | .bk s => out = .bk ∧ Mt S0 pc (ev s) ρ S
  | .rt r => (∃ r', out = .rt r') ∧ PR r out ρ S
/-- a def -/
def PFn (S0 : Sto) (pc : List Nat) {A : Type} (rt : A → Rt) (outs : A → List (List D)) : PT A := fun a out ρ S => (out = .rt (rt a) ∨ (out = .nx ∧ rt a = .val .none)) ∧ S.take S0.length = wrs S0 pc (outs a)
theorem hs_skip (h : HS S0 pc e m2 o P) : HS S0 pc e (mSeq mNext m2) o P := h
theorem hs_assoc (h : HS S0 pc e (mSeq m1 (mSeq m2 m3)) o P) : HS S0 pc e (mSeq (mSeq m1 m2) m3) o P := fun ρ S t a q => by
  obtain ⟨out, ρ', S', h1, h2⟩ := h ρ S t a q
  refine ⟨out, ρ', S', ?_, h2⟩
  rw [← h1]
  unfold mSeq
  cases m1 ρ S with
  | none => rfl
  | some p =>
    obtain ⟨o1, ρ1, S1⟩ := p
    cases o1 <;> rfl
theorem seq_next (m : MS) : mSeq m mNext = m := by
  funext ρ S
  unfold mSeq mNext
  cases m ρ S with
  | none => rfl
  | some p =>
    obtain ⟨o1, ρ1, S1⟩ := p
    cases o1 <;> rfl
theorem hs_last (h : HS S0 pc e (mSeq m1 mNext) o P) : HS S0 pc e m1 o P := by rw [seq_next] at h; exact h
theorem hs_end {σ : Type} {ev : σ → Env} {s : σ} (w : Wk e (ev s)) : HS S0 pc e mNext (some s) (PostB S0 pc ev) := fun ρ S t a q => by
  cases q
  exact ⟨.nx, ρ, S, rfl, rfl, t.weak w⟩
theorem hs_endS {σ : Type} {ev : σ → Env} {PR : PT R} {s : σ} (w : Wk e (ev s)) : HS S0 pc e mNext (some (.nx s)) (PostS S0 pc ev PR) := fun ρ S t a q => by
  cases q
  exact ⟨.nx, ρ, S, rfl, .inl rfl, t.weak w⟩
theorem hs_brk {σ : Type} {ev : σ → Env} {PR : PT R} {s : σ} (w : Wk e (ev s)) : HS S0 pc e (mSeq mBrk m2) (some (.bk s)) (PostS S0 pc ev PR) := fun ρ S t a q => by
  cases q
  exact ⟨.bk, ρ, S, rfl, rfl, t.weak w⟩
theorem hs_cont {σ : Type} {ev : σ → Env} {PR : PT R} {s : σ} (w : Wk e (ev s)) : HS S0 pc e (mSeq mCont m2) (some (.nx s)) (PostS S0 pc ev PR) := fun ρ S t a q => by
  cases q
  exact ⟨.ct, ρ, S, rfl, .inr rfl, t.weak w⟩
theorem hs_never : HS S0 pc e (mSeq mNever m2) none P := fun ρ S t a q => by cases q
/-- the end of a def without return -/
theorem hs_fall {a0 : A} (hp : ∀ ρ S, Mt S0 pc e ρ S → P a0 .nx ρ S) : HS S0 pc e mNext (some a0) P := fun ρ S t a q => by
  cases q
  exact ⟨.nx, ρ, S, rfl, hp ρ S t⟩
/-! ### assignments -/
theorem seq_asg {mg : MG} {ρ ρ1 : Rho} {S S1 : Sto} {d : D} (h : me ρ S = some (d, S1)) (h2 : mg d ρ = some ρ1) : mSeq (mAsg me mg) m2 ρ S = m2 ρ1 S1 := by
  simp [mSeq, mAsg, h, h2]
theorem hs_asg {oe : Option D} {kk : D → Option A} (h : HP S0 pc e me oe) (h2 : ∀ v, HS S0 pc (e.set j (some (Pv.d v))) m2 (kk v) P) : HS S0 pc e (mSeq (mAsg me (mgN j)) m2) (oe.bind kk) P := fun ρ S t a q => by
  cases ho : oe with
  | none => rw [ho] at q; cases q
  | some v =>
    rw [ho, Option.bind_some] at q
    rw [seq_asg (h ρ S t v ho) (show mgN j v ρ = some _ from rfl)]
    exact h2 v _ S (t.setd j v) a q
theorem hs_unp {Y : Type} {mg : MG} {ts : List Nat} {oY : D → Option Y} {ev : Y → Env} {oe : Option D} {kk : Y → Option A} (h : HP S0 pc e me oe) (hg : HG S0 pc e mg ts oY ev) (h2 : ∀ y, HS S0 pc (ev y) m2 (kk y) P) : HS S0 pc e (mSeq (mAsg me mg) m2) (oe.bind fun v => (oY v).bind kk) P := fun ρ S t a q => by
  cases ho : oe with
  | none => rw [ho] at q; cases q
  | some v =>
    rw [ho, Option.bind_some] at q
    cases hy : oY v with
    | none => rw [hy] at q; cases q
    | some y =>
      rw [hy, Option.bind_some] at q
      obtain ⟨ρ1, a1, a2, _⟩ := hg ρ S v t y hy
      rw [seq_asg (h ρ S t v ho) a1]
      exact h2 y _ S a2 a q
theorem hx_use {m : MX β} {ox : Option (β × List D)} (he : e.set i (some (celP k x0)) = e) (hi : i < e.length) (h : HX S0 pc e i k x0 m ox) {ρ : Rho} {S : Sto} (t : Mt S0 pc e ρ S) {v : β} {x : List D} (ho : ox = some (v, x)) : ∃ S', m ρ S = some (v, S') ∧ Mt S0 pc (e.set i (some (celP k x))) ρ S' := by
  have t' := t
  rw [← he] at t'
  obtain ⟨n, a1, a2⟩ := h ρ S t' hi v x ho
  have t2 := t'.wr (k := k) (xs := x0) (i := i) (List.getElem?_set_self hi) a1 x
  rw [List.set_set] at t2
  exact ⟨_, a2, t2⟩
theorem hs_asgX {oe : Option (D × List D)} {kk : D → List D → Option A} (he : e.set i (some (celP k x0)) = e) (hi : Nat.ble (i + 1) e.length = true) (h : HX S0 pc e i k x0 me oe) (h2 : ∀ v x, HS S0 pc ((e.set i (some (celP k x))).set j (some (Pv.d v))) m2 (kk v x) P) : HS S0 pc e (mSeq (mAsg me (mgN j)) m2) (oe.bind fun a => kk a.1 a.2) P := fun ρ S t a q => by
  cases ho : oe with
  | none => rw [ho] at q; cases q
  | some v =>
    rw [ho, Option.bind_some] at q
    obtain ⟨S', a1, a2⟩ := hx_use he (Nat.le_of_ble_eq_true hi) h t (v := v.1) (x := v.2) (by rw [ho])
    rw [seq_asg a1 (show mgN j v.1 ρ = some _ from rfl)]
    exact h2 v.1 v.2 _ S' (a2.setd j v.1) a q
theorem hs_unpX {Y : Type} {mg : MG} {ts : List Nat} {oY : D → Option Y} {ev : List D → Y → Env} {oe : Option (D × List D)} {kk : Y → List D → Option A} (he : e.set i (some (celP k x0)) = e) (hi : Nat.ble (i + 1) e.length = true) (h : HX S0 pc e i k x0 me oe) (hg : ∀ x, HG S0 pc (e.set i (some (celP k x))) mg ts oY (ev x)) (h2 : ∀ y x, HS S0 pc (ev x y) m2 (kk y x) P) : HS S0 pc e (mSeq (mAsg me mg) m2) (oe.bind fun a => (oY a.1).bind fun y => kk y a.2) P := fun ρ S t a q => by
  cases ho : oe with
  | none => rw [ho] at q; cases q
  | some v =>
    rw [ho, Option.bind_some] at q
    cases hy : oY v.1 with
    | none => rw [hy] at q; cases q
    | some y =>
      rw [hy, Option.bind_some] at q
      obtain ⟨S', a1, a2⟩ := hx_use he (Nat.le_of_ble_eq_true hi) h t (v := v.1) (x := v.2) (by rw [ho])
      obtain ⟨ρ1, b1, b2, _⟩ := hg v.2 ρ S' v.1 a2 y hy
      rw [seq_asg a1 b1]
      exact h2 y v.2 _ S' b2 a q
theorem hs_new {on : Option (List D)} {kk : List D → Option A} (h : HP S0 pc e mn on) (h2 : ∀ xs, HS S0 pc (e.set j (some (Pv.c xs))) m2 (kk xs) P) : HS S0 pc e (mSeq (mNew j mn) m2) (on.bind kk) P := fun ρ S t a q => by
  cases ho : on with
  | none => rw [ho] at q; cases q
  | some v =>
    rw [ho, Option.bind_some] at q
    obtain ⟨out, ρ', S', b1, b2⟩ := h2 v _ _ (t.new j v) a q
    exact ⟨out, ρ', S', by rw [← b1]; simp [mSeq, mNew, h ρ S t v ho], b2⟩
theorem hs_newX {on : Option (List D × List D)} {kk : List D → List D → Option A} (he : e.set i (some (celP k x0)) = e) (hi : Nat.ble (i + 1) e.length = true) (h : HX S0 pc e i k x0 mn on) (h2 : ∀ xs x, HS S0 pc ((e.set i (some (celP k x))).set j (some (Pv.c xs))) m2 (kk xs x) P) : HS S0 pc e (mSeq (mNew j mn) m2) (on.bind fun a => kk a.1 a.2) P := fun ρ S t a q => by
  cases ho : on with
  | none => rw [ho] at q; cases q
  | some v =>
    rw [ho, Option.bind_some] at q
    obtain ⟨S1, a1, a2⟩ := hx_use he (Nat.le_of_ble_eq_true hi) h t (v := v.1) (x := v.2) (by rw [ho])
    obtain ⟨out, ρ', S', b1, b2⟩ := h2 v.1 v.2 _ _ (a2.new j v.1) a q
    exact ⟨out, ρ', S', by rw [← b1]; simp [mSeq, mNew, a1], b2⟩
theorem hs_aug {f : D → D → Option D} {x : D} {oe : Option D} {kk : D → Option A} (hx : e[j]? = some (some (Pv.d x))) (h : HP S0 pc e me oe) (h2 : ∀ v, HS S0 pc (e.set j (some (Pv.d v))) m2 (kk v) P) : HS S0 pc e (mSeq (mAug j f me) m2) (oe.bind fun y => (f x y).bind kk) P := fun ρ S t a q => by
  cases ho : oe with
  | none => rw [ho] at q; cases q
  | some y =>
    rw [ho, Option.bind_some] at q
    cases hf : f x y with
    | none => rw [hf] at q; cases q
    | some v =>
      rw [hf, Option.bind_some] at q
      obtain ⟨out, ρ', S', b1, b2⟩ := h2 v _ _ (t.setd j v) a q
      exact ⟨out, ρ', S', by rw [← b1]; simp [mSeq, mAug, mVar, t.d j x hx, h ρ S t y ho, hf], b2⟩
theorem hs_augX {f : D → D → Option D} {x : D} {oe : Option (D × List D)} {kk : D → List D → Option A} (hx : e[j]? = some (some (Pv.d x))) (he : e.set i (some (celP k x0)) = e) (hi : Nat.ble (i + 1) e.length = true) (h : HX S0 pc e i k x0 me oe) (h2 : ∀ v x, HS S0 pc ((e.set i (some (celP k x))).set j (some (Pv.d v))) m2 (kk v x) P) : HS S0 pc e (mSeq (mAug j f me) m2) (oe.bind fun y => (f x y.1).bind fun z => kk z y.2) P := fun ρ S t a q => by
  cases ho : oe with
  | none => rw [ho] at q; cases q
  | some y =>
    rw [ho, Option.bind_some] at q
    cases hf : f x y.1 with
    | none => rw [hf] at q; cases q
    | some v =>
      rw [hf, Option.bind_some] at q
      obtain ⟨S1, a1, a2⟩ := hx_use he (Nat.le_of_ble_eq_true hi) h t (v := y.1) (x := y.2) (by rw [ho])
      obtain ⟨out, ρ', S', b1, b2⟩ := h2 v y.2 _ _ (a2.setd j v) a q
      exact ⟨out, ρ', S', by rw [← b1]; simp [mSeq, mAug, mVar, t.d j x hx, a1, hf], b2⟩
/-! ### cells -/
def subO (xs : List D) (y v : D) : Option (List D) := match y with
  | .int q => (ixN xs.length q).map fun j => xs.set j v
  | _ => none
theorem hs_sub {mi mv : ME} {ov oi : Option D} {xs : List D} {kk : List D → Option A} (hx : e[j]? = some (some (celP k xs))) (hv : HP S0 pc e mv ov) (hi : HP S0 pc e mi oi) (h2 : ∀ ys, HS S0 pc (e.set j (some (celP k ys))) m2 (kk ys) P) : HS S0 pc e (mSeq (mSub j mi mv) m2) (ov.bind fun v => oi.bind fun y => (subO xs y v).bind kk) P := fun ρ S t a q => by
  cases ho : ov with
  | none => rw [ho] at q; cases q
  | some v =>
    rw [ho, Option.bind_some] at q
    cases ho2 : oi with
    | none => rw [ho2] at q; cases q
    | some y =>
      rw [ho2, Option.bind_some] at q
      obtain ⟨n, a1, a2⟩ := t.cell hx
      unfold subO at q
      split at q <;> first | (cases q; done) | skip
      rename_i z
      cases hz : ixN xs.length z with
      | none => rw [hz] at q; cases q
      | some l =>
        rw [hz] at q
        obtain ⟨out, ρ', S', b1, b2⟩ := h2 (xs.set l v) _ _ (t.wr hx a1 (xs.set l v)) a q
        exact ⟨out, ρ', S', by rw [← b1]; simp [mSeq, mSub, hv ρ S t v ho, hi ρ S t _ ho2, a1, a2, hz], b2⟩
/-- x[e] op= v: read, then written -/
def appO (xs : List D) (v : D) : Option (List D) := if xs.length < 1000000 then some (xs ++ [v]) else none
def extO (xs ys : List D) : Option (List D) := if xs.length + ys.length ≤ 1000000 then some (xs ++ ys) else none
def extT (xs : List D) (v : D) : Option (List D) := match v with
  | .tuple ys => extO xs ys
  | _ => none
theorem hs_app {oe : Option D} {xs : List D} {kk : List D → Option A} (hx : e[j]? = some (some (celP k xs))) (h : HP S0 pc e me oe) (h2 : ∀ ys, HS S0 pc (e.set j (some (celP k ys))) m2 (kk ys) P) : HS S0 pc e (mSeq (mDrop (mApp j me)) m2) (oe.bind fun v => (appO xs v).bind kk) P := fun ρ S t a q => by
  cases ho : oe with
  | none => rw [ho] at q; cases q
  | some v =>
    rw [ho, Option.bind_some] at q
    unfold appO at q
    split at q <;> first | (cases q; done) | skip
    rename_i hz
    obtain ⟨n, a1, a2⟩ := t.cell hx
    obtain ⟨out, ρ', S', b1, b2⟩ := h2 (xs ++ [v]) _ _ (t.wr hx a1 (xs ++ [v])) a q
    exact ⟨out, ρ', S', by rw [← b1]; simp [mSeq, mDrop, mApp, h ρ S t v ho, a1, a2, hz], b2⟩
theorem hs_appX {l : Option Nat} {oe : Option (D × List D)} {xs : List D} {kk : List D → List D → Option A} (he : e.set i (some (celP k x0)) = e) (hi : Nat.ble (i + 1) e.length = true) (hij : (i == j) = false) (hx : e[j]? = some (some (celP l xs))) (h : HX S0 pc e i k x0 me oe) (h2 : ∀ ys x, HS S0 pc ((e.set i (some (celP k x))).set j (some (celP l ys))) m2 (kk ys x) P) : HS S0 pc e (mSeq (mDrop (mApp j me)) m2) (oe.bind fun v => (appO xs v.1).bind fun ys => kk ys v.2) P := fun ρ S t a q => by
  have hij : i ≠ j := by simpa using hij
  cases ho : oe with
  | none => rw [ho] at q; cases q
  | some v =>
    rw [ho, Option.bind_some] at q
    unfold appO at q
    split at q <;> first | (cases q; done) | skip
    rename_i hz
    obtain ⟨n, a1, a2⟩ := t.cell hx
    obtain ⟨S1, c1, c2⟩ := hx_use he (Nat.le_of_ble_eq_true hi) h t (v := v.1) (x := v.2) (by rw [ho])
    have hx2 : (e.set i (some (celP k v.2)))[j]? = some (some (celP l xs)) := by rw [List.getElem?_set_ne hij]; exact hx
    obtain ⟨n', a3, a4⟩ := c2.cell hx2
    rw [a1] at a3; cases a3
    obtain ⟨out, ρ', S', b1, b2⟩ := h2 (xs ++ [v.1]) v.2 _ _ (c2.wr hx2 a1 (xs ++ [v.1])) a q
    exact ⟨out, ρ', S', by rw [← b1]; simp [mSeq, mDrop, mApp, c1, a1, a2, a4, hz], b2⟩
theorem hs_extN {on : Option (List D)} {xs : List D} {kk : List D → Option A} (hx : e[j]? = some (some (celP k xs))) (h : HP S0 pc e mn on) (h2 : ∀ ys, HS S0 pc (e.set j (some (celP k ys))) m2 (kk ys) P) : HS S0 pc e (mSeq (mDrop (mExtN j mn)) m2) (on.bind fun v => (extO xs v).bind kk) P := fun ρ S t a q => by
  cases ho : on with
  | none => rw [ho] at q; cases q
  | some v =>
    rw [ho, Option.bind_some] at q
    unfold extO at q
    split at q <;> first | (cases q; done) | skip
    rename_i hz
    obtain ⟨n, a1, a2⟩ := t.cell hx
    obtain ⟨out, ρ', S', b1, b2⟩ := h2 (xs ++ v) _ _ (t.wr hx a1 (xs ++ v)) a q
    exact ⟨out, ρ', S', by rw [← b1]; simp [mSeq, mDrop, mExtN, h ρ S t v ho, a1, a2, hz], b2⟩
theorem hs_extNX {l : Option Nat} {on : Option (List D × List D)} {xs : List D} {kk : List D → List D → Option A} (he : e.set i (some (celP k x0)) = e) (hi : Nat.ble (i + 1) e.length = true) (hij : (i == j) = false) (hx : e[j]? = some (some (celP l xs))) (h : HX S0 pc e i k x0 mn on) (h2 : ∀ ys x, HS S0 pc ((e.set i (some (celP k x))).set j (some (celP l ys))) m2 (kk ys x) P) : HS S0 pc e (mSeq (mDrop (mExtN j mn)) m2) (on.bind fun v => (extO xs v.1).bind fun ys => kk ys v.2) P := fun ρ S t a q => by
  have hij : i ≠ j := by simpa using hij
  cases ho : on with
  | none => rw [ho] at q; cases q
  | some v =>
    rw [ho, Option.bind_some] at q
    unfold extO at q
    split at q <;> first | (cases q; done) | skip
    rename_i hz
    obtain ⟨n, a1, a2⟩ := t.cell hx
    obtain ⟨S1, c1, c2⟩ := hx_use he (Nat.le_of_ble_eq_true hi) h t (v := v.1) (x := v.2) (by rw [ho])
    have hx2 : (e.set i (some (celP k v.2)))[j]? = some (some (celP l xs)) := by rw [List.getElem?_set_ne hij]; exact hx
    obtain ⟨n', a3, a4⟩ := c2.cell hx2
    rw [a1] at a3; cases a3
    obtain ⟨out, ρ', S', b1, b2⟩ := h2 (xs ++ v.1) v.2 _ _ (c2.wr hx2 a1 (xs ++ v.1)) a q
    exact ⟨out, ρ', S', by rw [← b1]; simp [mSeq, mDrop, mExtN, c1, a1, a2, a4, hz], b2⟩
theorem hs_extT {oe : Option D} {xs : List D} {kk : List D → Option A} (hx : e[j]? = some (some (celP k xs))) (h : HP S0 pc e me oe) (h2 : ∀ ys, HS S0 pc (e.set j (some (celP k ys))) m2 (kk ys) P) : HS S0 pc e (mSeq (mDrop (mExtT j me)) m2) (oe.bind fun v => (extT xs v).bind kk) P := fun ρ S t a q => by
  cases ho : oe with
  | none => rw [ho] at q; cases q
  | some v =>
    rw [ho, Option.bind_some] at q
    unfold extT at q
    split at q <;> first | (cases q; done) | skip
    rename_i ys
    unfold extO at q
    split at q <;> first | (cases q; done) | skip
    rename_i hz
    obtain ⟨n, a1, a2⟩ := t.cell hx
    obtain ⟨out, ρ', S', b1, b2⟩ := h2 (xs ++ ys) _ _ (t.wr hx a1 (xs ++ ys)) a q
    exact ⟨out, ρ', S', by rw [← b1]; simp [mSeq, mDrop, mExtT, h ρ S t _ ho, a1, a2, hz], b2⟩
theorem hs_drop {oe : Option D} (h : HP S0 pc e me oe) (h2 : HS S0 pc e m2 o P) : HS S0 pc e (mSeq (mDrop me) m2) (oe.bind fun _ => o) P := fun ρ S t a q => by
  cases ho : oe with
  | none => rw [ho] at q; cases q
  | some v =>
    rw [ho, Option.bind_some] at q
    obtain ⟨out, ρ', S', b1, b2⟩ := h2 _ _ t a q
    exact ⟨out, ρ', S', by rw [← b1]; simp [mSeq, mDrop, h ρ S t v ho], b2⟩
theorem hs_dropX {oe : Option (D × List D)} {kk : List D → Option A} (he : e.set i (some (celP k x0)) = e) (hi : Nat.ble (i + 1) e.length = true) (h : HX S0 pc e i k x0 me oe) (h2 : ∀ x, HS S0 pc (e.set i (some (celP k x))) m2 (kk x) P) : HS S0 pc e (mSeq (mDrop me) m2) (oe.bind fun a => kk a.2) P := fun ρ S t a q => by
  cases ho : oe with
  | none => rw [ho] at q; cases q
  | some v =>
    rw [ho, Option.bind_some] at q
    obtain ⟨S1, a1, a2⟩ := hx_use he (Nat.le_of_ble_eq_true hi) h t (v := v.1) (x := v.2) (by rw [ho])
    obtain ⟨out, ρ', S', b1, b2⟩ := h2 v.2 _ _ a2 a q
    exact ⟨out, ρ', S', by rw [← b1]; simp [mSeq, mDrop, a1], b2⟩
/-! ### return -/
theorem hs_ret {oe : Option D} {mk : D → A} (h : HP S0 pc e me oe) (hp : ∀ ρ S v, Mt S0 pc e ρ S → P (mk v) (.rt (.val v)) ρ S) : HS S0 pc e (mSeq (mRet me) m2) (oe.map mk) P := fun ρ S t a q => by
  cases ho : oe with
  | none => rw [ho] at q; cases q
  | some v =>
    rw [ho] at q
    cases q
    exact ⟨_, ρ, S, by simp [mSeq, mRet, h ρ S t v ho], hp ρ S v t⟩
theorem hs_retX {oe : Option (D × List D)} {mk : D → List D → A} (he : e.set i (some (celP k x0)) = e) (hi : Nat.ble (i + 1) e.length = true) (h : HX S0 pc e i k x0 me oe) (hp : ∀ ρ S v x, Mt S0 pc (e.set i (some (celP k x))) ρ S → P (mk v x) (.rt (.val v)) ρ S) : HS S0 pc e (mSeq (mRet me) m2) (oe.map fun a => mk a.1 a.2) P := fun ρ S t a q => by
  cases ho : oe with
  | none => rw [ho] at q; cases q
  | some v =>
    rw [ho] at q
    cases q
    obtain ⟨S1, a1, a2⟩ := hx_use he (Nat.le_of_ble_eq_true hi) h t (v := v.1) (x := v.2) (by rw [ho])
    exact ⟨_, ρ, S1, by simp [mSeq, mRet, a1], hp ρ S1 v.1 v.2 a2⟩
theorem hs_retL {on : Option (List D)} {mk : List D → A} (h : HP S0 pc e mn on) (hp : ∀ ρ S v, Mt S0 pc e ρ S → P (mk v) (.rt (.new v)) ρ S) : HS S0 pc e (mSeq (mRetL mn) m2) (on.map mk) P := fun ρ S t a q => by
  cases ho : on with
  | none => rw [ho] at q; cases q
  | some v =>
    rw [ho] at q
    cases q
    exact ⟨_, ρ, S, by simp [mSeq, mRetL, h ρ S t v ho], hp ρ S v t⟩
theorem hs_retLX {on : Option (List D × List D)} {mk : List D → List D → A} (he : e.set i (some (celP k x0)) = e) (hi : Nat.ble (i + 1) e.length = true) (h : HX S0 pc e i k x0 mn on) (hp : ∀ ρ S v x, Mt S0 pc (e.set i (some (celP k x))) ρ S → P (mk v x) (.rt (.new v)) ρ S) : HS S0 pc e (mSeq (mRetL mn) m2) (on.map fun a => mk a.1 a.2) P := fun ρ S t a q => by
  cases ho : on with
  | none => rw [ho] at q; cases q
  | some v =>
    rw [ho] at q
    cases q
    obtain ⟨S1, a1, a2⟩ := hx_use he (Nat.le_of_ble_eq_true hi) h t (v := v.1) (x := v.2) (by rw [ho])
    exact ⟨_, ρ, S1, by simp [mSeq, mRetL, a1], hp ρ S1 v.1 v.2 a2⟩
/-- return x, a list of this def's own -/
theorem hs_retV {xs : List D} {a0 : A} (hb : b = S0.length) (hx : e[j]? = some (some (Pv.c xs))) (hp : ∀ ρ S, Mt S0 pc e ρ S → P a0 (.rt (.new xs)) ρ S) : HS S0 pc e (mSeq (mRetV b j) m2) (some a0) P := fun ρ S t a q => by
  cases q
  obtain ⟨n, a1, a2, a3⟩ := t.c j xs hx
  exact ⟨_, ρ, S, by simp [mSeq, mRetV, a1, a2, show b ≤ n by omega], hp ρ S t⟩
theorem hs_retVd {x : D} {a0 : A} (hx : e[j]? = some (some (Pv.d x))) (hp : ∀ ρ S, Mt S0 pc e ρ S → P a0 (.rt (.val x)) ρ S) : HS S0 pc e (mSeq (mRetV b j) m2) (some a0) P := fun ρ S t a q => by
  cases q
  exact ⟨_, ρ, S, by simp [mSeq, mRetV, t.d j x hx], hp ρ S t⟩
theorem hs_retN {a0 : A} (hp : ∀ ρ S, Mt S0 pc e ρ S → P a0 (.rt (.val .none)) ρ S) : HS S0 pc e (mSeq mRetN m2) (some a0) P := fun ρ S t a q => by
  cases q
  exact ⟨_, ρ, S, by simp [mSeq, mRetN], hp ρ S t⟩
/-! ### if -/
variable {c : MT}
theorem hs_if {oc : Option Bool} {oa ob : Option A} (hc : HP S0 pc e c oc) (ha : HS S0 pc e (mSeq m1 m3) oa P) (hb : HS S0 pc e (mSeq m2 m3) ob P) : HS S0 pc e (mSeq (mIfS c m1 m2) m3) (oc.bind fun z => if z then oa else ob) P := fun ρ S t a q => by
  cases ho : oc with
  | none => rw [ho] at q; cases q
  | some z =>
    rw [ho, Option.bind_some] at q
    have e1 := hc ρ S t z ho
    cases z with
    | true =>
      obtain ⟨out, ρ', S', b1, b2⟩ := ha _ _ t a q
      exact ⟨out, ρ', S', by rw [← b1]; simp [mSeq, mIfS, e1], b2⟩
    | false =>
      obtain ⟨out, ρ', S', b1, b2⟩ := hb _ _ t a q
      exact ⟨out, ρ', S', by rw [← b1]; simp [mSeq, mIfS, e1], b2⟩
theorem hs_ifX {oc : Option (Bool × List D)} {oa ob : List D → Option A} (he : e.set i (some (celP k x0)) = e) (hi : Nat.ble (i + 1) e.length = true) (hc : HX S0 pc e i k x0 c oc) (ha : ∀ x, HS S0 pc (e.set i (some (celP k x))) (mSeq m1 m3) (oa x) P) (hb : ∀ x, HS S0 pc (e.set i (some (celP k x))) (mSeq m2 m3) (ob x) P) : HS S0 pc e (mSeq (mIfS c m1 m2) m3) (oc.bind fun z => if z.1 then oa z.2 else ob z.2) P := fun ρ S t a q => by
  cases ho : oc with
  | none => rw [ho] at q; cases q
  | some z =>
    rw [ho, Option.bind_some] at q
    obtain ⟨z, x⟩ := z
    obtain ⟨S1, a1, a2⟩ := hx_use he (Nat.le_of_ble_eq_true hi) hc t (v := z) (x := x) ho
    cases z with
    | true =>
      obtain ⟨out, ρ', S', b1, b2⟩ := ha x _ _ a2 a q
      exact ⟨out, ρ', S', by rw [← b1]; simp [mSeq, mIfS, a1], b2⟩
    | false =>
      obtain ⟨out, ρ', S', b1, b2⟩ := hb x _ _ a2 a q
      exact ⟨out, ρ', S', by rw [← b1]; simp [mSeq, mIfS, a1], b2⟩
theorem hs_join {σ : Type} {ev : σ → Env} {os : Option σ} {kk : σ → Option A} (h : HS S0 pc e m1 os (PostB S0 pc ev)) (h2 : ∀ s, HS S0 pc (ev s) m2 (kk s) P) : HS S0 pc e (mSeq m1 m2) (os.bind kk) P := fun ρ S t a q => by
  cases ho : os with
  | none => rw [ho] at q; cases q
  | some s =>
    rw [ho, Option.bind_some] at q
    obtain ⟨out, ρ1, S1, a1, a2, a3⟩ := h ρ S t s ho
    subst a2
    obtain ⟨out, ρ', S', b1, b2⟩ := h2 s _ _ a3 a q
    exact ⟨out, ρ', S', by rw [← b1]; simp [mSeq, a1], b2⟩
/-! ### loops -/
section
variable {σ Y : Type} {ev : σ → Env} {evy : σ → Y → Env} {mg : MG} {mb : MS} {mi : MN} {ts : List Nat} {oY : D → Option Y} {f : σ → Y → Option σ} {fr : σ → Y → Option (Step σ R)}
def forP (oY : D → Option Y) (f : σ → Y → Option σ) : σ → List D → Option σ
  | s, [] => some s
  | s, x :: xs => (oY x).bind fun y => (f s y).bind fun s' => forP oY f s' xs
def forR (oY : D → Option Y) (f : σ → Y → Option (Step σ R)) : σ → List D → Option (σ ⊕ R)
  | s, [] => some (.inl s)
  | s, x :: xs => (oY x).bind fun y => (f s y).bind fun a => match a with
    | .nx s' => forR oY f s' xs
    | .bk s' => some (.inl s')
    | .rt r => some (.inr r)
theorem forP_run (hg : ∀ s, HG S0 pc (ev s) mg ts oY (evy s)) (hb : ∀ s y, HS S0 pc (evy s y) mb (f s y) (PostB S0 pc ev)) : ∀ (xs : List D) (s s' : σ) (ρ : Rho) (S : Sto), Mt S0 pc (ev s) ρ S → forP oY f s xs = some s' → ∃ ρ' S', forRun mg mb xs ρ S = some (.nx, ρ', S') ∧ Mt S0 pc (ev s') ρ' S'
  | [], s, s', ρ, S, t, q => by cases q; exact ⟨ρ, S, rfl, t⟩
  | x :: xs, s, s', ρ, S, t, q => by
    unfold forP at q
    cases h1 : oY x with
    | none => rw [h1] at q; cases q
    | some y =>
      rw [h1, Option.bind_some] at q
      obtain ⟨ρ1, a1, a2, _⟩ := hg s ρ S x t y h1
      cases h2 : f s y with
      | none => rw [h2] at q; cases q
      | some s1 =>
        rw [h2, Option.bind_some] at q
        obtain ⟨out, ρ2, S2, b1, b2, b3⟩ := hb s y ρ1 S a2 s1 h2
        subst b2
        obtain ⟨ρ', S', c1, c2⟩ := forP_run hg hb xs s1 s' ρ2 S2 b3 q
        refine ⟨ρ', S', ?_, c2⟩
        unfold forRun
        rw [a1, Option.bind_some, b1]
        exact c1
def PRr (S0 : Sto) (pc : List Nat) {σ R : Type} (ev : σ → Env) (PR : PT R) : σ ⊕ R → Out × Rho × Sto → Prop
  | .inl s, p => p.1 = .nx ∧ Mt S0 pc (ev s) p.2.1 p.2.2
  | .inr r, p => (∃ r', p.1 = .rt r') ∧ PR r p.1 p.2.1 p.2.2
theorem forR_run {PR : PT R} (hg : ∀ s, HG S0 pc (ev s) mg ts oY (evy s)) (hb : ∀ s y, HS S0 pc (evy s y) mb (fr s y) (PostS S0 pc ev PR)) : ∀ (xs : List D) (s : σ) (z : σ ⊕ R) (ρ : Rho) (S : Sto), Mt S0 pc (ev s) ρ S → forR oY fr s xs = some z → ∃ p, forRun mg mb xs ρ S = some p ∧ PRr S0 pc ev PR z p
  | [], s, z, ρ, S, t, q => by cases q; exact ⟨_, rfl, rfl, t⟩
  | x :: xs, s, z, ρ, S, t, q => by
    unfold forR at q
    cases h1 : oY x with
    | none => rw [h1] at q; cases q
    | some y =>
      rw [h1, Option.bind_some] at q
      obtain ⟨ρ1, a1, a2, _⟩ := hg s ρ S x t y h1
      cases h2 : fr s y with
      | none => rw [h2] at q; cases q
      | some s1 =>
        rw [h2, Option.bind_some] at q
        obtain ⟨out, ρ2, S2, b1, b2⟩ := hb s y ρ1 S a2 s1 h2
        cases s1 with
        | nx s1 =>
          obtain ⟨b2, b3⟩ := b2
          obtain ⟨p, c1, c2⟩ := forR_run hg hb xs s1 z ρ2 S2 b3 q
          refine ⟨p, ?_, c2⟩
          unfold forRun
          rw [a1, Option.bind_some, b1]
          rcases b2 with rfl | rfl <;> exact c1
        | bk s1 =>
          obtain ⟨rfl, b3⟩ := b2
          cases q
          exact ⟨_, by unfold forRun; rw [a1, Option.bind_some, b1]; rfl, rfl, b3⟩
        | rt r =>
          obtain ⟨⟨r', rfl⟩, b3⟩ := b2
          cases q
          exact ⟨_, by unfold forRun; rw [a1, Option.bind_some, b1]; rfl, ⟨r', rfl⟩, b3⟩
theorem hs_for {oi : Option (List D)} {s0 : σ} {kk : σ → Option A} (hi : HP S0 pc e mi oi) (w : Wk e (ev s0)) (hg : ∀ s, HG S0 pc (ev s) mg ts oY (evy s)) (hb : ∀ s y, HS S0 pc (evy s y) mb (f s y) (PostB S0 pc ev)) (h2 : ∀ s, HS S0 pc (ev s) m2 (kk s) P) :
    HS S0 pc e (mSeq (mFor mi mg mb) m2) (oi.bind fun xs => (forP oY f s0 xs).bind kk) P := fun ρ S t a q => by
  cases ho : oi with
  | none => rw [ho] at q; cases q
  | some xs =>
    rw [ho, Option.bind_some] at q
    cases h1 : forP oY f s0 xs with
    | none => rw [h1] at q; cases q
    | some s =>
      rw [h1, Option.bind_some] at q
      obtain ⟨ρ1, S1, a1, a2⟩ := forP_run hg hb xs s0 s ρ S (t.weak w) h1
      obtain ⟨out, ρ', S', b1, b2⟩ := h2 s _ _ a2 a q
      exact ⟨out, ρ', S', by rw [← b1]; simp [mSeq, mFor, hi ρ S t xs ho, a1], b2⟩
theorem hs_forX {oi : Option (List D × List D)} {s0 : List D → σ} {kk : σ → Option A} (he : e.set i (some (celP k x0)) = e) (hl : Nat.ble (i + 1) e.length = true) (hi : HX S0 pc e i k x0 mi oi) (w : ∀ x, Wk (e.set i (some (celP k x))) (ev (s0 x))) (hg : ∀ s, HG S0 pc (ev s) mg ts oY (evy s)) (hb : ∀ s y, HS S0 pc (evy s y) mb (f s y) (PostB S0 pc ev)) (h2 : ∀ s, HS S0 pc (ev s) m2 (kk s) P) :
    HS S0 pc e (mSeq (mFor mi mg mb) m2) (oi.bind fun a => (forP oY f (s0 a.2) a.1).bind kk) P := fun ρ S t a q => by
  cases ho : oi with
  | none => rw [ho] at q; cases q
  | some xs =>
    rw [ho, Option.bind_some] at q
    cases h1 : forP oY f (s0 xs.2) xs.1 with
    | none => rw [h1] at q; cases q
    | some s =>
      rw [h1, Option.bind_some] at q
      obtain ⟨S2, c1, c2⟩ := hx_use he (Nat.le_of_ble_eq_true hl) hi t (v := xs.1) (x := xs.2) (by rw [ho])
      obtain ⟨ρ1, S1, a1, a2⟩ := forP_run hg hb xs.1 (s0 xs.2) s ρ S2 (c2.weak (w xs.2)) h1
      obtain ⟨out, ρ', S', b1, b2⟩ := h2 s _ _ a2 a q
      exact ⟨out, ρ', S', by rw [← b1]; simp [mSeq, mFor, c1, a1], b2⟩
/-- what comes behind a loop that can return -/
def afterR (kk : σ → Option A) (inj : R → A) (z : σ ⊕ R) : Option A := match z with
  | .inl s => kk s
  | .inr r => some (inj r)
def PostI (inj : R → A) (P : PT A) : PT R := fun r out ρ S => P (inj r) out ρ S
theorem after_run {kk : σ → Option A} {inj : R → A} {z : σ ⊕ R} {p : Out × Rho × Sto} {ρ : Rho} {S : Sto} (hm : m1 ρ S = some p) (hp : PRr S0 pc ev (PostI inj P) z p) (h2 : ∀ s, HS S0 pc (ev s) m2 (kk s) P) {a : A} (q : afterR kk inj z = some a) : ∃ out ρ' S', mSeq m1 m2 ρ S = some (out, ρ', S') ∧ P a out ρ' S' := by
  obtain ⟨o1, ρ1, S1⟩ := p
  unfold mSeq
  rw [hm, Option.bind_some]
  cases z with
  | inl s =>
    obtain ⟨e1, b⟩ := hp
    have e1 : o1 = .nx := e1
    subst e1
    exact h2 s _ _ b a q
  | inr r =>
    obtain ⟨⟨r', e1⟩, b⟩ := hp
    have e1 : o1 = .rt r' := e1
    subst e1
    cases q
    exact ⟨_, _, _, rfl, b⟩
theorem hs_forR {oi : Option (List D)} {s0 : σ} {kk : σ → Option A} {inj : R → A} (hi : HP S0 pc e mi oi) (w : Wk e (ev s0)) (hg : ∀ s, HG S0 pc (ev s) mg ts oY (evy s)) (hb : ∀ s y, HS S0 pc (evy s y) mb (fr s y) (PostS S0 pc ev (PostI inj P))) (h2 : ∀ s, HS S0 pc (ev s) m2 (kk s) P) :
    HS S0 pc e (mSeq (mFor mi mg mb) m2) (oi.bind fun xs => (forR oY fr s0 xs).bind (afterR kk inj)) P := fun ρ S t a q => by
  cases ho : oi with
  | none => rw [ho] at q; cases q
  | some xs =>
    rw [ho, Option.bind_some] at q
    cases h1 : forR oY fr s0 xs with
    | none => rw [h1] at q; cases q
    | some z =>
      rw [h1, Option.bind_some] at q
      obtain ⟨p, a1, a2⟩ := forR_run hg hb xs s0 z ρ S (t.weak w) h1
      exact after_run (by simp [mFor, hi ρ S t xs ho, a1]) a2 h2 q
theorem hs_forRX {oi : Option (List D × List D)} {s0 : List D → σ} {kk : σ → Option A} {inj : R → A} (he : e.set i (some (celP k x0)) = e) (hl : Nat.ble (i + 1) e.length = true) (hi : HX S0 pc e i k x0 mi oi) (w : ∀ x, Wk (e.set i (some (celP k x))) (ev (s0 x))) (hg : ∀ s, HG S0 pc (ev s) mg ts oY (evy s)) (hb : ∀ s y, HS S0 pc (evy s y) mb (fr s y) (PostS S0 pc ev (PostI inj P))) (h2 : ∀ s, HS S0 pc (ev s) m2 (kk s) P) :
    HS S0 pc e (mSeq (mFor mi mg mb) m2) (oi.bind fun a => (forR oY fr (s0 a.2) a.1).bind (afterR kk inj)) P := fun ρ S t a q => by
  cases ho : oi with
  | none => rw [ho] at q; cases q
  | some xs =>
    rw [ho, Option.bind_some] at q
    cases h1 : forR oY fr (s0 xs.2) xs.1 with
    | none => rw [h1] at q; cases q
    | some z =>
      rw [h1, Option.bind_some] at q
      obtain ⟨S2, c1, c2⟩ := hx_use he (Nat.le_of_ble_eq_true hl) hi t (v := xs.1) (x := xs.2) (by rw [ho])
      obtain ⟨p, a1, a2⟩ := forR_run hg hb xs.1 (s0 xs.2) z ρ S2 (c2.weak (w xs.2)) h1
      exact after_run (by simp [mFor, c1, a1]) a2 h2 q
/-! over a name: a cell that the block leaves alone -/
def lessK (xs : List D) : Option (List D) := if xs.length < 1000 then some xs else none
/-- a slot that a block leaves alone -/
def Kp (m : MS) (j : Nat) : Prop := ∀ ρ S out ρ' S', m ρ S = some (out, ρ', S') → ρ'[j]? = ρ[j]?
def KpG (mg : MG) (j : Nat) : Prop := ∀ d ρ ρ', mg d ρ = some ρ' → ρ'[j]? = ρ[j]?
theorem kg_n {l j : Nat} (h : (l == j) = false) : KpG (mgN l) j := fun d ρ ρ' q => by
  cases q
  exact List.getElem?_set_ne (by simpa using h)
def KpGs (mg : MGs) (j : Nat) : Prop := ∀ d ρ ρ', mg d ρ = some ρ' → ρ'[j]? = ρ[j]?
theorem kgs_0 {j : Nat} : KpGs mg0 j := fun d ρ ρ' q => by
  unfold mg0 at q
  split at q <;> cases q
  rfl
theorem kgs_1 {g : MG} {gs : MGs} {j : Nat} (h : KpG g j) (h2 : KpGs gs j) : KpGs (mg1 g gs) j := fun d ρ ρ' q => by
  unfold mg1 at q
  split at q <;> first | (cases q; done) | skip
  rename_i d r
  cases hg : g d ρ with
  | none => rw [hg] at q; cases q
  | some ρ1 =>
    rw [hg, Option.bind_some] at q
    rw [h2 _ _ _ q, h _ _ _ hg]
theorem kg_t {n : Nat} {gs : MGs} {j : Nat} (h : KpGs gs j) : KpG (mgT n gs) j := fun d ρ ρ' q => by
  unfold mgT at q
  split at q <;> first | (cases q; done) | skip
  split at q <;> first | (cases q; done) | skip
  exact h _ _ _ q
theorem kp_next {j : Nat} : Kp mNext j := fun ρ S out ρ' S' q => by cases q; rfl
theorem kp_never {j : Nat} : Kp mNever j := fun ρ S out ρ' S' q => by cases q
theorem kp_brk {j : Nat} : Kp mBrk j := fun ρ S out ρ' S' q => by cases q; rfl
theorem kp_cont {j : Nat} : Kp mCont j := fun ρ S out ρ' S' q => by cases q; rfl
theorem kp_seq {m1 m2 : MS} {j : Nat} (h1 : Kp m1 j) (h2 : Kp m2 j) : Kp (mSeq m1 m2) j := fun ρ S out ρ' S' q => by
  unfold mSeq at q
  cases h : m1 ρ S with
  | none => rw [h] at q; cases q
  | some p =>
    rw [h, Option.bind_some] at q
    obtain ⟨o1, ρ1, S1⟩ := p
    have a := h1 _ _ _ _ _ h
    cases o1 <;> first | (cases q; exact a) | (rw [h2 _ _ _ _ _ q, a])
theorem kp_if {c : MT} {m1 m2 : MS} {j : Nat} (h1 : Kp m1 j) (h2 : Kp m2 j) : Kp (mIfS c m1 m2) j := fun ρ S out ρ' S' q => by
  unfold mIfS at q
  cases h : c ρ S with
  | none => rw [h] at q; cases q
  | some p =>
    rw [h, Option.bind_some] at q
    obtain ⟨b, S1⟩ := p
    cases b
    · exact h2 _ _ _ _ _ q
    · exact h1 _ _ _ _ _ q
theorem kp_asg {me : ME} {mg : MG} {j : Nat} (h : KpG mg j) : Kp (mAsg me mg) j := fun ρ S out ρ' S' q => by
  unfold mAsg at q
  cases h1 : me ρ S with
  | none => rw [h1] at q; cases q
  | some p =>
    rw [h1, Option.bind_some] at q
    cases h2 : mg p.1 ρ with
    | none => rw [h2] at q; cases q
    | some ρ1 => rw [h2] at q; cases q; exact h _ _ _ h2
theorem kp_new {mn : MN} {l j : Nat} (h : (l == j) = false) : Kp (mNew l mn) j := fun ρ S out ρ' S' q => by
  unfold mNew at q
  cases h1 : mn ρ S with
  | none => rw [h1] at q; cases q
  | some p => rw [h1] at q; cases q; exact List.getElem?_set_ne (by simpa using h)
theorem kp_aug {f : D → D → Option D} {me : ME} {l j : Nat} (h : (l == j) = false) : Kp (mAug l f me) j := fun ρ S out ρ' S' q => by
  unfold mAug at q
  cases h1 : mVar l ρ S with
  | none => rw [h1] at q; cases q
  | some p =>
    rw [h1, Option.bind_some] at q
    cases h2 : me ρ S with
    | none => rw [h2] at q; cases q
    | some p2 =>
      rw [h2, Option.bind_some] at q
      cases h3 : f p.1 p2.1 with
      | none => rw [h3] at q; cases q
      | some z => rw [h3] at q; cases q; exact List.getElem?_set_ne (by simpa using h)
theorem kp_sub {mi mv : ME} {l j : Nat} : Kp (mSub l mi mv) j := fun ρ S out ρ' S' q => by
  unfold mSub at q
  cases h1 : mv ρ S with
  | none => rw [h1] at q; cases q
  | some p =>
    rw [h1, Option.bind_some] at q
    cases h2 : mi ρ p.2 with
    | none => rw [h2] at q; cases q
    | some p2 =>
      rw [h2, Option.bind_some] at q
      split at q <;> first | (cases q; done) | skip
      rename_i kk n _ _
      cases h3 : p2.2[n]?.join with
      | none => rw [h3] at q; cases q
      | some xs =>
        rw [h3, Option.bind_some] at q
        cases h4 : ixN xs.length kk with
        | none => rw [h4] at q; cases q
        | some z => rw [h4] at q; cases q; rfl
theorem kp_drop {me : ME} {j : Nat} : Kp (mDrop me) j := fun ρ S out ρ' S' q => by
  unfold mDrop at q
  cases h1 : me ρ S with
  | none => rw [h1] at q; cases q
  | some p => rw [h1] at q; cases q; rfl
theorem kp_ret {me : ME} {j : Nat} : Kp (mRet me) j := fun ρ S out ρ' S' q => by
  unfold mRet at q
  cases h1 : me ρ S with
  | none => rw [h1] at q; cases q
  | some p => rw [h1] at q; cases q; rfl
theorem kp_retL {me : MN} {j : Nat} : Kp (mRetL me) j := fun ρ S out ρ' S' q => by
  unfold mRetL at q
  cases h1 : me ρ S with
  | none => rw [h1] at q; cases q
  | some p => rw [h1] at q; cases q; rfl
theorem kp_retN {j : Nat} : Kp mRetN j := fun ρ S out ρ' S' q => by cases q; rfl
theorem kp_retV {b l j : Nat} : Kp (mRetV b l) j := fun ρ S out ρ' S' q => by
  unfold mRetV at q
  split at q <;> first | (cases q; done) | skip
  · cases q; rfl
  · rename_i n _
    split at q <;> first | (cases q; done) | skip
    cases h : S[n]?.join with
    | none => rw [h] at q; cases q
    | some xs => rw [h] at q; cases q; rfl
theorem kp_forRun {mg : MG} {mb : MS} {j : Nat} (h : KpG mg j) (h2 : Kp mb j) : ∀ (xs : List D) ρ S out ρ' S', forRun mg mb xs ρ S = some (out, ρ', S') → ρ'[j]? = ρ[j]?
  | [], ρ, S, out, ρ', S', q => by cases q; rfl
  | x :: xs, ρ, S, out, ρ', S', q => by
    unfold forRun at q
    cases h1 : mg x ρ with
    | none => rw [h1] at q; cases q
    | some ρ1 =>
      rw [h1, Option.bind_some] at q
      cases h3 : mb ρ1 S with
      | none => rw [h3] at q; cases q
      | some p =>
        rw [h3, Option.bind_some] at q
        obtain ⟨o1, ρ2, S2⟩ := p
        have a := (h2 _ _ _ _ _ h3).trans (h _ _ _ h1)
        cases o1 with
        | nx => rw [kp_forRun h h2 xs _ _ _ _ _ q, a]
        | ct => rw [kp_forRun h h2 xs _ _ _ _ _ q, a]
        | bk => cases q; exact a
        | rt r => cases q; exact a
theorem kp_for {mi : MN} {mg : MG} {mb : MS} {j : Nat} (h : KpG mg j) (h2 : Kp mb j) : Kp (mFor mi mg mb) j := fun ρ S out ρ' S' q => by
  unfold mFor at q
  cases h1 : mi ρ S with
  | none => rw [h1] at q; cases q
  | some p => rw [h1, Option.bind_some] at q; exact kp_forRun h h2 _ _ _ _ _ _ q
theorem kp_forCell {mg : MG} {mb : MS} {n j : Nat} (h : KpG mg j) (h2 : Kp mb j) : ∀ (f i : Nat) ρ S out ρ' S', forCell mg mb n f i ρ S = some (out, ρ', S') → ρ'[j]? = ρ[j]?
  | 0, i, ρ, S, out, ρ', S', q => by cases q
  | f + 1, i, ρ, S, out, ρ', S', q => by
    unfold forCell at q
    cases h0 : cellAt S n i with
    | none => rw [h0] at q; cases q
    | some y =>
      rw [h0, Option.bind_some] at q
      cases y with
      | none => cases q; rfl
      | some x =>
        simp only at q
        cases h1 : mg x ρ with
        | none => rw [h1] at q; cases q
        | some ρ1 =>
          rw [h1, Option.bind_some] at q
          cases h3 : mb ρ1 S with
          | none => rw [h3] at q; cases q
          | some p =>
            rw [h3, Option.bind_some] at q
            obtain ⟨o1, ρ2, S2⟩ := p
            have a := (h2 _ _ _ _ _ h3).trans (h _ _ _ h1)
            cases o1 with
            | nx => rw [kp_forCell h h2 f _ _ _ _ _ _ q, a]
            | ct => rw [kp_forCell h h2 f _ _ _ _ _ _ q, a]
            | bk => cases q; exact a
            | rt r => cases q; exact a
theorem kp_forV {l : Nat} {mg : MG} {mb : MS} {j : Nat} (h : KpG mg j) (h2 : Kp mb j) : Kp (mForV l mg mb) j := fun ρ S out ρ' S' q => by
  unfold mForV at q
  split at q <;> first | (cases q; done) | skip
  · exact kp_forRun h h2 _ _ _ _ _ _ q
  · exact kp_forRun h h2 _ _ _ _ _ _ q
  · exact kp_forCell h h2 _ _ _ _ _ _ _ q
theorem kp_while {c : MT} {mb : MS} {n j : Nat} (h2 : Kp mb j) : Kp (whRun c mb n) j := by
  induction n with
  | zero => exact fun ρ S out ρ' S' q => by cases q
  | succ n ih =>
    intro ρ S out ρ' S' q
    unfold whRun at q
    cases h1 : c ρ S with
    | none => rw [h1] at q; cases q
    | some p =>
      rw [h1, Option.bind_some] at q
      obtain ⟨b, S1⟩ := p
      cases b with
      | false => cases q; rfl
      | true =>
        simp only [if_true] at q
        cases h3 : mb ρ S1 with
        | none => rw [h3] at q; cases q
        | some p =>
          rw [h3, Option.bind_some] at q
          obtain ⟨o1, ρ2, S2⟩ := p
          have a := h2 _ _ _ _ _ h3
          cases o1 with
          | nx => rw [ih _ _ _ _ _ q, a]
          | ct => rw [ih _ _ _ _ _ q, a]
          | bk => cases q; exact a
          | rt r => cases q; exact a
theorem forCellR {PR : PT R} {xs : List D} (hx : ∀ s, seqAt (ev s)[j]? = some xs) (hg : ∀ s, HG S0 pc (ev s) mg ts oY (evy s)) (hb : ∀ s y, HS S0 pc (evy s y) mb (fr s y) (PostS S0 pc ev PR)) (hkg : KpG mg j) (hk : Kp mb j) {n : Nat} : ∀ (fu l : Nat) (s : σ) (z : σ ⊕ R) (ρ : Rho) (S : Sto), xs.length < fu + l → l ≤ xs.length → Mt S0 pc (ev s) ρ S → ρ[j]? = some (some (Sl.loc n)) → forR oY fr s (xs.drop l) = some z → ∃ p, forCell mg mb n fu l ρ S = some p ∧ PRr S0 pc ev PR z p
  | 0, l, s, z, ρ, S, hf, hl, t, hn, q => by omega
  | fu + 1, l, s, z, ρ, S, hf, hl, t, hn, q => by
    have hS : S[n]? = some (some xs) := by
      rcases seqAt_cases t (hx s) with ⟨x, a, _⟩ | ⟨n', a, b⟩
      · rw [hn] at a; cases a
      · rw [hn] at a; cases a; exact b
    unfold forCell
    rw [cellAt_of hS, Option.bind_some]
    by_cases hlt : l < xs.length
    · rw [List.getElem?_eq_getElem hlt]
      rw [List.drop_eq_getElem_cons hlt] at q
      unfold forR at q
      simp only
      cases h1 : oY xs[l] with
      | none => rw [h1] at q; cases q
      | some y =>
        rw [h1, Option.bind_some] at q
        obtain ⟨ρ1, a1, a2, _⟩ := hg s ρ S _ t y h1
        cases h2 : fr s y with
        | none => rw [h2] at q; cases q
        | some s1 =>
          rw [h2, Option.bind_some] at q
          obtain ⟨out, ρ2, S2, b1, b2⟩ := hb s y ρ1 S a2 s1 h2
          have hn2 : ρ2[j]? = some (some (Sl.loc n)) := by rw [hk _ _ _ _ _ b1, hkg _ _ _ a1, hn]
          rw [a1, Option.bind_some, b1, Option.bind_some]
          cases s1 with
          | nx s1 =>
            obtain ⟨b2, b3⟩ := b2
            obtain ⟨p, c1, c2⟩ := forCellR hx hg hb hkg hk fu (l + 1) s1 z ρ2 S2 (by omega) (by omega) b3 hn2 q
            refine ⟨p, ?_, c2⟩
            rcases b2 with rfl | rfl <;> exact c1
          | bk s1 =>
            obtain ⟨rfl, b3⟩ := b2
            cases q
            exact ⟨_, rfl, rfl, b3⟩
          | rt r =>
            obtain ⟨⟨r', rfl⟩, b3⟩ := b2
            cases q
            exact ⟨_, rfl, ⟨r', rfl⟩, b3⟩
    · rw [List.getElem?_eq_none (by omega)]
      rw [List.drop_eq_nil_of_le (by omega)] at q
      cases q
      exact ⟨_, rfl, rfl, t⟩
theorem forCellP {xs : List D} (hx : ∀ s, seqAt (ev s)[j]? = some xs) (hg : ∀ s, HG S0 pc (ev s) mg ts oY (evy s)) (hb : ∀ s y, HS S0 pc (evy s y) mb (f s y) (PostB S0 pc ev)) (hkg : KpG mg j) (hk : Kp mb j) {n : Nat} : ∀ (fu l : Nat) (s s' : σ) (ρ : Rho) (S : Sto), xs.length < fu + l → l ≤ xs.length → Mt S0 pc (ev s) ρ S → ρ[j]? = some (some (Sl.loc n)) → forP oY f s (xs.drop l) = some s' → ∃ ρ' S', forCell mg mb n fu l ρ S = some (.nx, ρ', S') ∧ Mt S0 pc (ev s') ρ' S'
  | 0, l, s, z, ρ, S, hf, hl, t, hn, q => by omega
  | fu + 1, l, s, z, ρ, S, hf, hl, t, hn, q => by
    have hS : S[n]? = some (some xs) := by
      rcases seqAt_cases t (hx s) with ⟨x, a, _⟩ | ⟨n', a, b⟩
      · rw [hn] at a; cases a
      · rw [hn] at a; cases a; exact b
    unfold forCell
    rw [cellAt_of hS, Option.bind_some]
    by_cases hlt : l < xs.length
    · rw [List.getElem?_eq_getElem hlt]
      rw [List.drop_eq_getElem_cons hlt] at q
      unfold forP at q
      simp only
      cases h1 : oY xs[l] with
      | none => rw [h1] at q; cases q
      | some y =>
        rw [h1, Option.bind_some] at q
        obtain ⟨ρ1, a1, a2, _⟩ := hg s ρ S _ t y h1
        cases h2 : f s y with
        | none => rw [h2] at q; cases q
        | some s1 =>
          rw [h2, Option.bind_some] at q
          obtain ⟨out, ρ2, S2, b1, rfl, b3⟩ := hb s y ρ1 S a2 s1 h2
          have hn2 : ρ2[j]? = some (some (Sl.loc n)) := by rw [hk _ _ _ _ _ b1, hkg _ _ _ a1, hn]
          rw [a1, Option.bind_some, b1, Option.bind_some]
          exact forCellP hx hg hb hkg hk fu (l + 1) s1 z ρ2 S2 (by omega) (by omega) b3 hn2 q
    · rw [List.getElem?_eq_none (by omega)]
      rw [List.drop_eq_nil_of_le (by omega)] at q
      cases q
      exact ⟨_, _, rfl, t⟩
theorem hs_forV {o1 : Option (List D)} {s0 : σ} {kk : σ → Option A} (h : seqAt e[j]? = o1) (w : Wk e (ev s0)) (hx : ∀ s, seqAt (ev s)[j]? = o1) (hg : ∀ s, HG S0 pc (ev s) mg ts oY (evy s)) (hb : ∀ s y, HS S0 pc (evy s y) mb (f s y) (PostB S0 pc ev)) (hkg : KpG mg j) (hk : Kp mb j) (h2 : ∀ s, HS S0 pc (ev s) m2 (kk s) P) :
    HS S0 pc e (mSeq (mForV j mg mb) m2) ((o1.bind lessK).bind fun xs => (forP oY f s0 xs).bind kk) P := fun ρ S t a q => by
  cases o1 with
  | none => cases q
  | some xs =>
    rw [Option.bind_some] at q
    unfold lessK at q
    split at q <;> first | (cases q; done) | skip
    rename_i hz
    rw [Option.bind_some] at q
    cases h1 : forP oY f s0 xs with
    | none => rw [h1] at q; cases q
    | some s =>
      rw [h1, Option.bind_some] at q
      rcases seqAt_cases t h with ⟨x, c1, c2⟩ | ⟨n, c1, c2⟩
      · obtain ⟨ρ1, S1, a1, a2⟩ := forP_run hg hb xs s0 s ρ S (t.weak w) h1
        obtain ⟨out, ρ', S', b1, b2⟩ := h2 s _ _ a2 a q
        refine ⟨out, ρ', S', ?_, b2⟩
        rw [← b1]
        cases x <;> cases c2 <;> simp [mSeq, mForV, c1, a1]
      · obtain ⟨ρ1, S1, a1, a2⟩ := forCellP hx hg hb hkg hk 1000 0 s0 s ρ S (by omega) (by omega) (t.weak w) c1 (by rw [List.drop_zero]; exact h1)
        obtain ⟨out, ρ', S', b1, b2⟩ := h2 s _ _ a2 a q
        refine ⟨out, ρ', S', ?_, b2⟩
        rw [← b1]
        simp [mSeq, mForV, c1, a1]
theorem hs_forVR {o1 : Option (List D)} {s0 : σ} {kk : σ → Option A} {inj : R → A} (h : seqAt e[j]? = o1) (w : Wk e (ev s0)) (hx : ∀ s, seqAt (ev s)[j]? = o1) (hg : ∀ s, HG S0 pc (ev s) mg ts oY (evy s)) (hb : ∀ s y, HS S0 pc (evy s y) mb (fr s y) (PostS S0 pc ev (PostI inj P))) (hkg : KpG mg j) (hk : Kp mb j) (h2 : ∀ s, HS S0 pc (ev s) m2 (kk s) P) :
    HS S0 pc e (mSeq (mForV j mg mb) m2) ((o1.bind lessK).bind fun xs => (forR oY fr s0 xs).bind (afterR kk inj)) P := fun ρ S t a q => by
  cases o1 with
  | none => cases q
  | some xs =>
    rw [Option.bind_some] at q
    unfold lessK at q
    split at q <;> first | (cases q; done) | skip
    rename_i hz
    rw [Option.bind_some] at q
    cases h1 : forR oY fr s0 xs with
    | none => rw [h1] at q; cases q
    | some z =>
      rw [h1, Option.bind_some] at q
      rcases seqAt_cases t h with ⟨x, c1, c2⟩ | ⟨n, c1, c2⟩
      · obtain ⟨p, a1, a2⟩ := forR_run hg hb xs s0 z ρ S (t.weak w) h1
        exact after_run (by cases x <;> cases c2 <;> simp [mForV, c1, a1]) a2 h2 q
      · obtain ⟨p, a1, a2⟩ := forCellR hx hg hb hkg hk 1000 0 s0 z ρ S (by omega) (by omega) (t.weak w) c1 (by rw [List.drop_zero]; exact h1)
        exact after_run (by simp [mForV, c1, a1]) a2 h2 q
/-- while -/
def whP (oc : σ → Option Bool) (f : σ → Option σ) : Nat → σ → Option σ
  | 0, _ => none
  | n + 1, s => (oc s).bind fun b => if b then (f s).bind fun s' => whP oc f n s' else some s
def whR (oc : σ → Option Bool) (f : σ → Option (Step σ R)) : Nat → σ → Option (σ ⊕ R)
  | 0, _ => none
  | n + 1, s => (oc s).bind fun b => if b then (f s).bind fun a => match a with
      | .nx s' => whR oc f n s'
      | .bk s' => some (.inl s')
      | .rt r => some (.inr r)
    else some (.inl s)
theorem whR_run {PR : PT R} {oc : σ → Option Bool} {g : σ → Option (Step σ R)} (hc : ∀ s, HP S0 pc (ev s) c (oc s)) (hb : ∀ s, HS S0 pc (ev s) mb (g s) (PostS S0 pc ev PR)) : ∀ (n : Nat) (s : σ) (z : σ ⊕ R) (ρ : Rho) (S : Sto), Mt S0 pc (ev s) ρ S → whR oc g n s = some z → ∃ p, whRun c mb n ρ S = some p ∧ PRr S0 pc ev PR z p
  | 0, s, z, ρ, S, t, q => by cases q
  | n + 1, s, z, ρ, S, t, q => by
    unfold whR at q
    cases h1 : oc s with
    | none => rw [h1] at q; cases q
    | some b =>
      rw [h1, Option.bind_some] at q
      have e1 := hc s ρ S t b h1
      unfold whRun
      rw [e1, Option.bind_some]
      cases b with
      | false => cases q; exact ⟨_, rfl, rfl, t⟩
      | true =>
        simp only [if_true] at q ⊢
        cases h2 : g s with
        | none => rw [h2] at q; cases q
        | some s1 =>
          rw [h2, Option.bind_some] at q
          obtain ⟨out, ρ2, S2, b1, b2⟩ := hb s ρ S t s1 h2
          rw [b1, Option.bind_some]
          cases s1 with
          | nx s1 =>
            obtain ⟨b2, b3⟩ := b2
            obtain ⟨p, c1, c2⟩ := whR_run hc hb n s1 z ρ2 S2 b3 q
            refine ⟨p, ?_, c2⟩
            rcases b2 with rfl | rfl <;> exact c1
          | bk s1 =>
            obtain ⟨rfl, b3⟩ := b2
            cases q
            exact ⟨_, rfl, rfl, b3⟩
          | rt r =>
            obtain ⟨⟨r', rfl⟩, b3⟩ := b2
            cases q
            exact ⟨_, rfl, ⟨r', rfl⟩, b3⟩
theorem whP_run {oc : σ → Option Bool} {g : σ → Option σ} (hc : ∀ s, HP S0 pc (ev s) c (oc s)) (hb : ∀ s, HS S0 pc (ev s) mb (g s) (PostB S0 pc ev)) : ∀ (n : Nat) (s s' : σ) (ρ : Rho) (S : Sto), Mt S0 pc (ev s) ρ S → whP oc g n s = some s' → ∃ ρ' S', whRun c mb n ρ S = some (.nx, ρ', S') ∧ Mt S0 pc (ev s') ρ' S'
  | 0, s, z, ρ, S, t, q => by cases q
  | n + 1, s, z, ρ, S, t, q => by
    unfold whP at q
    cases h1 : oc s with
    | none => rw [h1] at q; cases q
    | some b =>
      rw [h1, Option.bind_some] at q
      have e1 := hc s ρ S t b h1
      unfold whRun
      rw [e1, Option.bind_some]
      cases b with
      | false => cases q; exact ⟨_, _, rfl, t⟩
      | true =>
        simp only [if_true] at q ⊢
        cases h2 : g s with
        | none => rw [h2] at q; cases q
        | some s1 =>
          rw [h2, Option.bind_some] at q
          obtain ⟨out, ρ2, S2, b1, rfl, b3⟩ := hb s ρ S t s1 h2
          rw [b1, Option.bind_some]
          exact whP_run hc hb n s1 z ρ2 S2 b3 q
theorem hs_while {oc : σ → Option Bool} {g : σ → Option σ} {s0 : σ} {n : Nat} {kk : σ → Option A} (w : Wk e (ev s0)) (hc : ∀ s, HP S0 pc (ev s) c (oc s)) (hb : ∀ s, HS S0 pc (ev s) mb (g s) (PostB S0 pc ev)) (h2 : ∀ s, HS S0 pc (ev s) m2 (kk s) P) :
    HS S0 pc e (mSeq (whRun c mb n) m2) ((whP oc g n s0).bind kk) P := fun ρ S t a q => by
  cases h1 : whP oc g n s0 with
  | none => rw [h1] at q; cases q
  | some s =>
    rw [h1, Option.bind_some] at q
    obtain ⟨ρ1, S1, a1, a2⟩ := whP_run hc hb n s0 s ρ S (t.weak w) h1
    obtain ⟨out, ρ', S', b1, b2⟩ := h2 s _ _ a2 a q
    exact ⟨out, ρ', S', by rw [← b1]; simp [mSeq, a1], b2⟩
theorem hs_whileR {oc : σ → Option Bool} {g : σ → Option (Step σ R)} {s0 : σ} {n : Nat} {kk : σ → Option A} {inj : R → A} (w : Wk e (ev s0)) (hc : ∀ s, HP S0 pc (ev s) c (oc s)) (hb : ∀ s, HS S0 pc (ev s) mb (g s) (PostS S0 pc ev (PostI inj P))) (h2 : ∀ s, HS S0 pc (ev s) m2 (kk s) P) :
    HS S0 pc e (mSeq (whRun c mb n) m2) ((whR oc g n s0).bind (afterR kk inj)) P := fun ρ S t a q => by
  cases h1 : whR oc g n s0 with
  | none => rw [h1] at q; cases q
  | some z =>
    rw [h1, Option.bind_some] at q
    obtain ⟨p, a1, a2⟩ := whR_run hc hb n s0 z ρ S (t.weak w) h1
    exact after_run a1 a2 h2 q
end
end
end G
set_option Elab.async false
set_option linter.all false
set_option autoImplicit false
set_option maxRecDepth 100000
set_option maxHeartbeats 4000000
namespace G
open PySem L2
/-! ## Defs -/
def envOf : List Sl → List Pk → Env
  | .loc n :: as, .p x :: vs => some (.p n x) :: envOf as vs
  | _ :: as, .d x :: vs => some (.d x) :: envOf as vs
  | _ :: as, .q x :: vs => some (.q x) :: envOf as vs
  | _ :: as, _ :: vs => none :: envOf as vs
  | _, _ => []
def AtS (S : Sto) (P Q : List Nat) (s : Sl) : Pv → Prop
  | .d x => s = .d x
  | .p n x => s = .loc n ∧ S[n]? = some (some x) ∧ n ∈ P
  | .q x => QA S s x ∧ ∀ n, s = .loc n → n ∈ Q
  | .c _ => False
theorem AtS.mono {S : Sto} {P Q P' Q' : List Nat} {s : Sl} {v : Pv} (h : AtS S P Q s v) (h1 : ∀ n ∈ P, n ∈ P') (h2 : ∀ n ∈ Q, n ∈ Q') : AtS S P' Q' s v := by
  cases v with
  | d x => exact h
  | p n x => exact ⟨h.1, h.2.1, h1 _ h.2.2⟩
  | q x => exact ⟨h.1, fun n e => h2 _ (h.2 n e)⟩
  | c x => exact h
theorem ent_ok {S : Sto} {m : Nat} : ∀ (vs : List Pk) (as : List Sl), AO S as vs → (envOf as vs).length = as.length ∧ ∀ (i : Nat) (v : Pv), (envOf as vs ++ List.replicate m none)[i]? = some (some v) → ∃ s, (as.map some ++ List.replicate m none)[i]? = some (some s) ∧ AtS S (pls as vs) (qls as vs) s v
  | [], as, h => by
    have h : as = [] := h
    subst h
    refine ⟨rfl, fun i v e => ?_⟩
    have := (List.getElem?_eq_some_iff.mp e)
    obtain ⟨a, b⟩ := this
    simp [envOf] at b
  | .d x :: vs, as, h => by
    obtain ⟨as, rfl, h⟩ := h
    obtain ⟨l, ih⟩ := ent_ok (m := m) vs as h
    refine ⟨by show _ + 1 = _ + 1; rw [l], fun i v e => ?_⟩
    cases i with
    | zero => cases e; exact ⟨_, rfl, rfl⟩
    | succ i => exact ih i v e
  | .p x :: vs, as, h => by
    obtain ⟨n, as, rfl, hS, h⟩ := h
    obtain ⟨l, ih⟩ := ent_ok (m := m) vs as h
    refine ⟨by show _ + 1 = _ + 1; rw [l], fun i v e => ?_⟩
    cases i with
    | zero => cases e; exact ⟨_, rfl, rfl, hS, List.mem_cons_self⟩
    | succ i =>
      obtain ⟨s, a, b⟩ := ih i v e
      exact ⟨s, a, b.mono (fun n z => List.mem_cons_of_mem _ z) fun n z => z⟩
  | .q x :: vs, as, h => by
    obtain ⟨s0, as, rfl, hQ, h⟩ := h
    obtain ⟨l, ih⟩ := ent_ok (m := m) vs as h
    have e0 : envOf (s0 :: as) (.q x :: vs) = some (.q x) :: envOf as vs := by cases s0 <;> rfl
    have e1 : pls (s0 :: as) (.q x :: vs) = pls as vs := by cases s0 <;> rfl
    rw [e0, e1]
    refine ⟨by show _ + 1 = _ + 1; rw [l], fun i v e => ?_⟩
    cases i with
    | zero => cases e; exact ⟨_, rfl, hQ, fun n e => by subst e; exact List.mem_cons_self⟩
    | succ i =>
      obtain ⟨s, a, b⟩ := ih i v e
      refine ⟨s, a, b.mono (fun n z => z) fun n z => ?_⟩
      cases s0 with
      | d _ => exact z
      | loc _ => exact List.mem_cons_of_mem _ z
theorem ent_pd {S : Sto} {m : Nat} : ∀ (vs : List Pk) (as : List Sl), AO S as vs → (pls as vs).Nodup → ∀ (i j n k : Nat) (xs ys : List D), i ≠ j → (envOf as vs ++ List.replicate m none)[i]? = some (some (Pv.p n xs)) → (envOf as vs ++ List.replicate m none)[j]? = some (some (Pv.p k ys)) → n ≠ k
  | [], as, h, hd, i, j, n, k, xs, ys, hij, e1, e2 => by
    have h : as = [] := h
    subst h
    obtain ⟨a, b⟩ := List.getElem?_eq_some_iff.mp e1
    simp [envOf] at b
  | .d x :: vs, as, h, hd, i, j, n, k, xs, ys, hij, e1, e2 => by
    obtain ⟨as, rfl, h⟩ := h
    cases i with
    | zero => cases e1
    | succ i =>
      cases j with
      | zero => cases e2
      | succ j => exact ent_pd vs as h hd i j n k xs ys (by omega) e1 e2
  | .q x :: vs, as, h, hd, i, j, n, k, xs, ys, hij, e1, e2 => by
    obtain ⟨s0, as, rfl, hQ, h⟩ := h
    have e0 : envOf (s0 :: as) (.q x :: vs) = some (.q x) :: envOf as vs := by cases s0 <;> rfl
    have e3 : pls (s0 :: as) (.q x :: vs) = pls as vs := by cases s0 <;> rfl
    rw [e0] at e1 e2
    rw [e3] at hd
    cases i with
    | zero => cases e1
    | succ i =>
      cases j with
      | zero => cases e2
      | succ j => exact ent_pd vs as h hd i j n k xs ys (by omega) e1 e2
  | .p x :: vs, as, h, hd, i, j, n, k, xs, ys, hij, e1, e2 => by
    obtain ⟨l, as, rfl, hS, h⟩ := h
    have hd : (l :: pls as vs).Nodup := hd
    obtain ⟨hd1, hd2⟩ := List.nodup_cons.mp hd
    obtain ⟨_, ih⟩ := ent_ok (m := m) vs as h
    cases i with
    | zero =>
      cases e1
      cases j with
      | zero => exact absurd rfl hij
      | succ j =>
        obtain ⟨s, _, b⟩ := ih j _ e2
        intro e
        subst e
        exact hd1 b.2.2
    | succ i =>
      cases j with
      | zero =>
        cases e2
        obtain ⟨s, _, b⟩ := ih i _ e1
        intro e
        subst e
        exact hd1 b.2.2
      | succ j => exact ent_pd vs as h hd2 i j n k xs ys (by omega) e1 e2
theorem pls_lt {S : Sto} : ∀ (vs : List Pk) (as : List Sl), AO S as vs → ∀ n ∈ pls as vs, n < S.length
  | [], as, h, n, hn => by
    have h : as = [] := h
    subst h
    cases hn
  | .d x :: vs, as, h, n, hn => by obtain ⟨as, rfl, h⟩ := h; exact pls_lt vs as h n hn
  | .q x :: vs, as, h, n, hn => by obtain ⟨s0, as, rfl, _, h⟩ := h; exact pls_lt vs as h n (by cases s0 <;> exact hn)
  | .p x :: vs, as, h, n, hn => by
    obtain ⟨l, as, rfl, hS, h⟩ := h
    rcases List.mem_cons.mp hn with rfl | hn
    · exact (List.getElem?_eq_some_iff.mp hS).1
    · exact pls_lt vs as h n hn
theorem qls_lt {S : Sto} {s : Sl} {x : D} {n : Nat} (h : QA S s x) (e : s = .loc n) : n < S.length := by
  subst e
  rcases h with h | ⟨n', xs, _, h, h2⟩
  · cases h
  · cases h; exact (List.getElem?_eq_some_iff.mp h2).1
theorem Mt.start {S : Sto} {as : List Sl} {vs : List Pk} {m : Nat} (h : AO S as vs) (hd : (pls as vs).Nodup) (hq : ∀ n ∈ qls as vs, n ∉ pls as vs) : Mt S (pls as vs) (envOf as vs ++ List.replicate m none) (as.map some ++ List.replicate m none) S := by
  obtain ⟨l, ih⟩ := ent_ok (m := m) vs as h
  refine ⟨by simp [l], ?_, ?_, ?_, ?_, ?_, ?_, pls_lt vs as h, Nat.le_refl _, fun n _ _ => rfl⟩
  · intro i x e; obtain ⟨s, a, b⟩ := ih i _ e; have b : s = .d x := b; rw [a, b]
  · intro i x e; obtain ⟨s, a, b⟩ := ih i _ e; exact absurd b (fun z => z)
  · intro i n x e; obtain ⟨s, a, b⟩ := ih i _ e; obtain ⟨b1, b2, b3⟩ := b; exact ⟨by rw [a, b1], b2, b3⟩
  · intro i x e
    obtain ⟨s, a, b⟩ := ih i _ e
    obtain ⟨b1, b2⟩ := b
    rcases b1 with b1 | ⟨n, xs, c1, c2, c3⟩
    · exact .inl (by rw [a, b1])
    · exact .inr ⟨n, xs, c1, by rw [a, c2], c3, (List.getElem?_eq_some_iff.mp c3).1, hq n (b2 n c2)⟩
  · intro i j xs ys n _ e; obtain ⟨s, a, b⟩ := ih i _ e; exact absurd b (fun z => z)
  · intro i j n k xs ys hij e1 e2; exact ent_pd vs as h hd i j n k xs ys hij e1 e2
/-! the cells at the end -/
inductive FinE (e : Env) : List Nat → List (List D) → Prop
  | nil : FinE e [] []
  | cons {i n : Nat} {x : List D} {pc : List Nat} {xs : List (List D)} (h : e[i]? = some (some (Pv.p n x))) : FinE e pc xs → FinE e (n :: pc) (x :: xs)
theorem wrs_len : ∀ (pc : List Nat) (S : Sto) (xs : List (List D)), (wrs S pc xs).length = S.length
  | [], S, xs => by rw [wrs_nil]
  | n :: pc, S, [] => rfl
  | n :: pc, S, x :: xs => by show (wrs (S.set n (some x)) pc xs).length = _; rw [wrs_len pc, List.length_set]
theorem wrs_ne : ∀ (pc : List Nat) (S : Sto) (xs : List (List D)) (m : Nat), m ∉ pc → (wrs S pc xs)[m]? = S[m]?
  | [], S, xs, m, h => by rw [wrs_nil]
  | n :: pc, S, [], m, h => rfl
  | n :: pc, S, x :: xs, m, h => by
    rw [List.mem_cons, not_or] at h
    show (wrs (S.set n (some x)) pc xs)[m]? = _
    rw [wrs_ne pc _ xs m h.2, List.getElem?_set_ne (Ne.symm h.1)]
theorem wrs_at {S0 : Sto} {pc0 : List Nat} {e : Env} {ρ : Rho} {S : Sto} (t : Mt S0 pc0 e ρ S) : ∀ (pc : List Nat) (T : Sto) (xs : List (List D)), FinE e pc xs → pc.Nodup → T.length = S0.length → ∀ m ∈ pc, (wrs T pc xs)[m]? = S[m]?
  | [], T, xs, h, hd, hl, m, hm => by cases hm
  | n :: pc, T, xs, h, hd, hl, m, hm => by
    cases h with
    | cons he hf =>
      rename_i i x xs
      obtain ⟨hd1, hd2⟩ := List.nodup_cons.mp hd
      show (wrs (T.set n (some x)) pc xs)[m]? = _
      obtain ⟨_, b, c⟩ := t.p i n x he
      by_cases hmn : m = n
      · subst hmn
        rw [wrs_ne pc _ xs m hd1, List.getElem?_set_self (by rw [hl]; exact t.pl _ c), b]
      · exact wrs_at t pc _ xs hf hd2 (by rw [List.length_set]; exact hl) m ((List.mem_cons.mp hm).resolve_left hmn)
theorem Mt.fin {S0 : Sto} {pc : List Nat} {e : Env} {ρ : Rho} {S : Sto} (t : Mt S0 pc e ρ S) (hd : pc.Nodup) {xs : List (List D)} (h : FinE e pc xs) : S.take S0.length = wrs S0 pc xs := by
  refine List.ext_getElem? fun m => ?_
  by_cases hm : m < S0.length
  · rw [List.getElem?_take_of_lt hm]
    by_cases hp : m ∈ pc
    · rw [wrs_at t pc S0 xs h hd rfl m hp]
    · rw [wrs_ne pc S0 xs m hp, t.fr m hm hp]
  · rw [List.getElem?_eq_none (by rw [List.length_take]; omega), List.getElem?_eq_none (by rw [wrs_len]; omega)]
section
variable {S0 : Sto} {pc : List Nat} {e : Env} {A R : Type} {rt : A → Rt} {outs : A → List (List D)} {ρ : Rho} {S : Sto} {a : A} {r : Rt}
theorem pf_rt (t : Mt S0 pc e ρ S) (hd : pc.Nodup) (hr : rt a = r) (h : FinE e pc (outs a)) : PFn S0 pc rt outs a (.rt r) ρ S := ⟨.inl (by rw [hr]), t.fin hd h⟩
theorem pf_nx (t : Mt S0 pc e ρ S) (hd : pc.Nodup) (hr : rt a = .val .none) (h : FinE e pc (outs a)) : PFn S0 pc rt outs a .nx ρ S := ⟨.inr ⟨rfl, hr⟩, t.fin hd h⟩
theorem ps_rt {σ : Type} {ev : σ → Env} {PR : PT R} {x : R} (h : PR x (.rt r) ρ S) : PostS S0 pc ev PR (.rt x) (.rt r) ρ S := ⟨⟨r, rfl⟩, h⟩
theorem pi_rt {P : PT A} {inj : R → A} {x : R} {out : Out} (h : P (inj x) out ρ S) : PostI inj P x out ρ S := h
end
theorem fspec_mk {A : Type} {rt : A → Rt} {outs : A → List (List D)} {np ns : Nat} {body : Nat → MS} {F : List Pk → Option A} (h : ∀ (S : Sto) (as : List Sl) (vs : List Pk), AO S as vs → (pls as vs).Nodup → ∀ a, F vs = some a → as.length = np ∧ ∃ o, HS S (pls as vs) (envOf as vs ++ List.replicate (ns - np) none) (body S.length) o (PFn S (pls as vs) rt outs) ∧ o = some a) : FSpec (mDef np ns body) F rt outs := fun S as vs hao hd hq a hF => by
  obtain ⟨h1, o, h2, h3⟩ := h S as vs hao hd a hF
  obtain ⟨out, ρ', S', a1, a2, a3⟩ := h2 _ S (Mt.start hao hd hq) a h3
  unfold mDef
  rw [if_pos h1, a1, Option.bind_some]
  rcases a2 with a2 | ⟨a2, a4⟩
  · subst a2; simp only; rw [a3]
  · subst a2; simp only; rw [a3, a4]
end G
set_option Elab.async false
set_option linter.all false
set_option autoImplicit false
set_option maxRecDepth 100000
set_option maxHeartbeats 4000000
namespace G
open PySem L2
def bx {β γ δ : Type} (o : Option (β × γ)) (f : β → γ → Option δ) : Option δ := o.bind fun a => f a.1 a.2
def lx {β γ : Type} (x : γ) (o : Option β) : Option (β × γ) := o.map fun b => (b, x)
theorem bx_some {β γ δ : Type} (b : β) (x : γ) (f : β → γ → Option δ) : bx (some (b, x)) f = f b x := rfl
theorem lx_some {β γ : Type} (b : β) (x : γ) : lx x (some b) = some (b, x) := rfl
theorem bx_lx {β γ δ : Type} (x : γ) (o : Option β) (f : β → γ → Option δ) : bx (lx x o) f = o.bind fun b => f b x := by cases o <;> rfl
section
variable {S0 : Sto} {pc : List Nat} {e e' : Env} {i j : Nat} {k : Option Nat} {x0 : List D} {β γ δ A R : Type} {P : PT A} {m1 m2 m3 : MS} {me ma mb : ME} {mn : MN} {f : D → D → Option D}
theorem x_of {m : MX β} {o : Option β} (h : HP S0 pc (e.set i (some (celP k x0))) m o) : HX S0 pc e i k x0 m (lx x0 o) := hx_of h
section
variable {oa : Option (D × List D)} {ob : List D → Option (D × List D)} {on : Option (List D × List D)}
theorem x_qe (h : HX S0 pc e i k x0 ma oa) : HX S0 pc e i k x0 (mQE ma) (bx oa fun a x => lx x (asQ a)) := hx_qe h
theorem x_le (h : HX S0 pc e i k x0 ma oa) : HX S0 pc e i k x0 (mLE ma) (bx oa fun a x => lx x (asL a)) := hx_le h
theorem x_en (h : HX S0 pc e i k x0 mn on) : HX S0 pc e i k x0 (mEN mn) (bx on fun a x => some (.list a, x)) := by
  have := hx_en h; rw [Option.map_eq_bind] at this; exact this
theorem x_op (ha : HX S0 pc e i k x0 ma oa) (hb : ∀ x, HX S0 pc e i k x mb (ob x)) : HX S0 pc e i k x0 (mOp f ma mb) (bx oa fun a x => bx (ob x) fun b y => lx y (f a b)) := hx_op ha hb
theorem x_un {f : D → Option D} (ha : HX S0 pc e i k x0 ma oa) : HX S0 pc e i k x0 (mUn f ma) (bx oa fun a x => lx x (f a)) := hx_un ha
theorem x_ixv {o : List D → Option (List D)} (h : ∀ x, seqAt (e.set i (some (celP k x)))[j]? = o x) (ha : HX S0 pc e i k x0 ma oa) : HX S0 pc e i k x0 (mIxV j ma) (bx oa fun a x => lx x (ixO (o x) a)) := hx_ixv h ha
theorem x_o1 (ha : HX S0 pc e i k x0 ma oa) : HX S0 pc e i k x0 (mO1 ma) (bx oa fun a x => lx x (asI a)) := hx_o1 ha
theorem x_slT {lo hi : MO} {ol oh : List D → Option (Option Int × List D)} (ha : HX S0 pc e i k x0 ma oa) (h1 : ∀ x, HX S0 pc e i k x lo (ol x)) (h2 : ∀ x, HX S0 pc e i k x hi (oh x)) : HX S0 pc e i k x0 (mSlT ma lo hi) (bx oa fun a x => bx (ol x) fun l y => bx (oh y) fun u z => lx z (slT a l u)) := by
  rw [mSlT_eq]
  exact hx_bind (f := fun a ρ S => (lo ρ S).bind fun l => (hi ρ l.2).bind fun u => (slT a l.1 u.1).map fun z => (z, u.2)) (g := fun a x => bx (ol x) fun l y => bx (oh y) fun u z => lx z (slT a l u)) ha fun a x => hx_bind (f := fun l ρ S => (hi ρ S).bind fun u => (slT a l u.1).map fun z => (z, u.2)) (g := fun l y => bx (oh y) fun u z => lx z (slT a l u)) (h1 x) fun l y => hx_bindo (h2 y)
theorem x_slL {lo hi : MO} {ol oh : List D → Option (Option Int × List D)} (ha : HX S0 pc e i k x0 mn on) (h1 : ∀ x, HX S0 pc e i k x lo (ol x)) (h2 : ∀ x, HX S0 pc e i k x hi (oh x)) : HX S0 pc e i k x0 (mSlL mn lo hi) (bx on fun a x => bx (ol x) fun l y => bx (oh y) fun u z => some (cut a l u, z)) :=
  hx_bind (f := fun a ρ S => (lo ρ S).bind fun l => (hi ρ l.2).bind fun u => some (cut a l.1 u.1, u.2)) (g := fun a x => bx (ol x) fun l y => bx (oh y) fun u z => some (cut a l u, z)) ha fun a x => hx_bind (f := fun l ρ S => (hi ρ S).bind fun u => some (cut a l u.1, u.2)) (g := fun l y => bx (oh y) fun u z => some (cut a l u, z)) (h1 x) fun l y => hx_bind (f := fun u ρ S => some (cut a l u, S)) (g := fun u z => some (cut a l u, z)) (h2 y) fun u z => hx_of (o := some (cut a l u)) fun ρ S t c q => by cases q; rfl
theorem x_slV {o : List D → Option (List D)} {lo hi : MO} {ol : Option (Option Int × List D)} {oh : List D → Option (Option Int × List D)} (h : ∀ x, lstAt (e.set i (some (celP k x)))[j]? = o x) (h1 : HX S0 pc e i k x0 lo ol) (h2 : ∀ x, HX S0 pc e i k x hi (oh x)) : HX S0 pc e i k x0 (mSlV j lo hi) (bx ol fun l y => bx (oh y) fun u z => lx z ((o z).bind fun xs => some (cut xs l u))) :=
  hx_bind (f := fun l ρ S => (hi ρ S).bind fun u => (mLVar j ρ u.2).bind fun p => some (cut p.1 l u.1, u.2)) (g := fun l y => bx (oh y) fun u z => lx z ((o z).bind fun xs => some (cut xs l u))) h1 fun l y => hx_bind (f := fun u ρ S => (mLVar j ρ S).bind fun p => some (cut p.1 l u, S)) (g := fun u z => lx z ((o z).bind fun xs => some (cut xs l u))) (h2 y) fun u z => hx_of fun ρ S t c q => by
    cases ho : o z with
    | none => rw [ho] at q; cases q
    | some xs =>
      rw [ho] at q
      cases q
      show (mLVar j ρ S).bind _ = _
      rw [hp_lvar (S0 := S0) (pc := pc) (h z) ρ S t xs ho]
      rfl
theorem x_tb (ha : HX S0 pc e i k x0 ma oa) : HX S0 pc e i k x0 (mTB ma) (bx oa fun a x => lx x (asB a)) := hx_tb ha
theorem x_tru (ha : HX S0 pc e i k x0 ma oa) : HX S0 pc e i k x0 (mTru ma) (bx oa fun a x => lx x (tru a)) := hx_tru ha
theorem x_not {t : MT} {ca : Option (Bool × List D)} (ha : HX S0 pc e i k x0 t ca) : HX S0 pc e i k x0 (mNot t) (bx ca fun a x => some (!a, x)) := by
  have := hx_not ha; rw [Option.map_eq_bind] at this; exact this
theorem x_and {ta tb : MT} {ca : Option (Bool × List D)} {cb : List D → Option (Bool × List D)} (ha : HX S0 pc e i k x0 ta ca) (hb : ∀ x, HX S0 pc e i k x tb (cb x)) : HX S0 pc e i k x0 (mAnd ta tb) (bx ca fun a x => if a then cb x else some (false, x)) := hx_and ha hb
theorem x_or {ta tb : MT} {ca : Option (Bool × List D)} {cb : List D → Option (Bool × List D)} (ha : HX S0 pc e i k x0 ta ca) (hb : ∀ x, HX S0 pc e i k x tb (cb x)) : HX S0 pc e i k x0 (mOr ta tb) (bx ca fun a x => if a then some (true, x) else cb x) := hx_or ha hb
theorem x_ife {c : MT} {ca : Option (Bool × List D)} {oa ob : List D → Option (D × List D)} (hc : HX S0 pc e i k x0 c ca) (ha : ∀ x, HX S0 pc e i k x ma (oa x)) (hb : ∀ x, HX S0 pc e i k x mb (ob x)) : HX S0 pc e i k x0 (mIf c ma mb) (bx ca fun c x => if c then oa x else ob x) := hx_ife hc ha hb
theorem x_andv {oa : Option (D × List D)} {ob : List D → Option (D × List D)} (ha : HX S0 pc e i k x0 ma oa) (hb : ∀ x, HX S0 pc e i k x mb (ob x)) : HX S0 pc e i k x0 (mAndV ma mb) (bx oa fun a x => match a with | .bool true => ob x | .bool false => some (.bool false, x) | _ => none) := by
  have : mAndV ma mb = fun ρ S => (ma ρ S).bind fun p => andF mb p.1 ρ p.2 := by
    funext ρ S; unfold mAndV; congr 1
  rw [this]
  refine hx_bind (f := andF mb) (g := fun a x => match a with | .bool true => ob x | .bool false => some (.bool false, x) | _ => none) ha fun a x => fun ρ S t hi c y q => ?_
  split at q <;> first | (cases q; done) | skip
  · exact hb x ρ S t hi c y q
  · cases q
    obtain ⟨n, a1, a2, _⟩ := self_set t hi
    exact ⟨n, a1, by rw [a2]; rfl⟩
theorem x_orv {oa : Option (D × List D)} {ob : List D → Option (D × List D)} (ha : HX S0 pc e i k x0 ma oa) (hb : ∀ x, HX S0 pc e i k x mb (ob x)) : HX S0 pc e i k x0 (mOrV ma mb) (bx oa fun a x => match a with | .bool false => ob x | .bool true => some (.bool true, x) | _ => none) := by
  have : mOrV ma mb = fun ρ S => (ma ρ S).bind fun p => orF mb p.1 ρ p.2 := by
    funext ρ S; unfold mOrV; congr 1
  rw [this]
  refine hx_bind (f := orF mb) (g := fun a x => match a with | .bool false => ob x | .bool true => some (.bool true, x) | _ => none) ha fun a x => fun ρ S t hi c y q => ?_
  split at q <;> first | (cases q; done) | skip
  · exact hb x ρ S t hi c y q
  · cases q
    obtain ⟨n, a1, a2, _⟩ := self_set t hi
    exact ⟨n, a1, by rw [a2]; rfl⟩
theorem x_len (h : HX S0 pc e i k x0 mn on) : HX S0 pc e i k x0 (mLen mn) (bx on fun a x => some (lenD a, x)) := by
  have := hx_len h; rw [Option.map_eq_bind] at this; exact this
theorem x_all (h : HX S0 pc e i k x0 mn on) : HX S0 pc e i k x0 (mAll mn) (bx on fun a x => lx x (allD a)) := hx_all h
theorem x_any (h : HX S0 pc e i k x0 mn on) : HX S0 pc e i k x0 (mAny mn) (bx on fun a x => lx x (anyD a)) := hx_any h
theorem x_sum (h : HX S0 pc e i k x0 mn on) : HX S0 pc e i k x0 (mSum mn) (bx on fun a x => lx x (sumD a)) := hx_sum h
theorem x_sortI (h : HX S0 pc e i k x0 mn on) : HX S0 pc e i k x0 (mSortI mn) (bx on fun a x => lx x (sortD a)) := hx_sortI h
theorem x_tuple (h : HX S0 pc e i k x0 mn on) : HX S0 pc e i k x0 (mTuple mn) (bx on fun a x => some (.tuple a, x)) := by
  have := hx_tuple h; rw [Option.map_eq_bind] at this; exact this
theorem x_list (h : HX S0 pc e i k x0 mn on) : HX S0 pc e i k x0 (mList mn) on := h
theorem x_r1 (h : HX S0 pc e i k x0 ma oa) : HX S0 pc e i k x0 (mR1 ma) (bx oa fun a x => lx x (rg1 a)) := hx_r1 h
theorem x_rgL (h : HX S0 pc e i k x0 ma oa) : HX S0 pc e i k x0 (mRg1 ma) (bx oa fun a x => lx x (rgL a)) := by rw [mRg1_eq]; exact hx_bindo h
theorem x_r2 (ha : HX S0 pc e i k x0 ma oa) (hb : ∀ x, HX S0 pc e i k x mb (ob x)) : HX S0 pc e i k x0 (mR2 ma mb) (bx oa fun a x => bx (ob x) fun b y => lx y (rg2 a b)) := hx_r2 ha hb
theorem x_cat {n2 : MN} {o2 : List D → Option (List D × List D)} (h : HX S0 pc e i k x0 mn on) (h2 : ∀ x, HX S0 pc e i k x n2 (o2 x)) : HX S0 pc e i k x0 (mCat mn n2) (bx on fun a x => bx (o2 x) fun b y => lx y (catO a b)) := hx_cat h h2
theorem x_catV {o1 : List D → Option (List D)} (h : ∀ x, lstAt (e.set i (some (celP k x)))[j]? = o1 x) (h2 : HX S0 pc e i k x0 mn on) : HX S0 pc e i k x0 (mCatV j mn) (bx on fun b x => lx x ((o1 x).bind fun a => catO a b)) := by
  have : mCatV j mn = fun ρ S => (mn ρ S).bind fun q => (mLVar j ρ q.2).bind fun p => if p.1.length + q.1.length ≤ 1000000 then some (p.1 ++ q.1, q.2) else none := rfl
  rw [this]
  refine hx_bind (f := fun b ρ S => (mLVar j ρ S).bind fun p => if p.1.length + b.length ≤ 1000000 then some (p.1 ++ b, S) else none) (g := fun b x => lx x ((o1 x).bind fun a => catO a b)) h2 fun b x => hx_of fun ρ S t c q => ?_
  cases ho : o1 x with
  | none => rw [ho] at q; cases q
  | some xs =>
    rw [ho] at q
    show (mLVar j ρ S).bind _ = _
    rw [hp_lvar (S0 := S0) (pc := pc) (h x) ρ S t xs ho, Option.bind_some]
    have q : catO xs b = some c := q
    unfold catO at q
    split at q
    · rename_i hh; cases q; rw [if_pos hh]
    · cases q
theorem x_lc {Y : Type} {mi : MN} {mg : MG} {ts vs : List Nat} {mt : MT} {oi : Option (List D × List D)} {oY : D → Option Y} {ot : List D → Y → Option (Bool × List D)} {oe : List D → Y → Option (D × List D)} {ev : Y → Env} (e1 : Env) (hi : HX S0 pc e i k x0 mi oi) (hw : ∀ s, wipeE (e.set i (some (celP k s))) vs = e1.set i (some (celP k s))) (hts : ts.contains i = false) (hvs : vs.contains i = false) (hl1 : e1.length = e.length) (hle : ∀ y, (ev y).length = e1.length) (hg : ∀ s, HG S0 pc (e1.set i (some (celP k s))) mg ts oY (fun y => (ev y).set i (some (celP k s)))) (ht : ∀ s y, HX S0 pc (ev y) i k s mt (ot s y)) (he : ∀ s y, HX S0 pc (ev y) i k s me (oe s y)) :
    HX S0 pc e i k x0 (mLc mi mg mt me vs) (bx oi fun xs s => lcXz oY ot oe s xs) := hx_lc hi hw (fun h => by rw [List.contains_iff_mem.mpr h] at hts; cases hts) (fun h => by rw [List.contains_iff_mem.mpr h] at hvs; cases hvs) hl1 hle hg ht he
theorem x_callU {g : Fn} {F : List Pk → Option A} {rt : A → Rt} {outs : A → List (List D)} {ks : List Kd} {m : MA} {np : Nat} {o : (List Arg → List D → Option A) → Option A} {o' : Option A} (val : A → D) (out : A → List D) (c : FSpec g F rt outs) (hn : oneP ks = true) (hnp : ks.length = np) (hv : ∀ a, rtE (rt a) = some (val a)) (hu : ∀ a, outs a = [out a]) (ha : HAX S0 pc e i k x0 m o) (ho : o (callX F ks e i k) = o') : HX S0 pc e i k x0 (mCall np g m) (o'.bind fun a => some (val a, out a)) := by
  have := hx_callU val out c hn hnp hv hu ha ho; rw [Option.map_eq_bind] at this; exact this
theorem x_pop : HX S0 pc e i k x0 (mPop i) ((x0[x0.length - 1]?).bind fun y => some (y, x0.dropLast)) := by
  have := hx_pop (S0 := S0) (pc := pc) (e := e) (i := i) (k := k) (x0 := x0); rw [Option.map_eq_bind] at this; exact this
end
/-! arguments and displays with effects -/
theorem xa_1 {m : ME} {r : MA} {om : Option (D × List D)} {or_ : List D → (List Arg → List D → Option β) → Option β} (h : HX S0 pc e i k x0 m om) (h2 : ∀ x, HAX S0 pc e i k x r (or_ x)) : HAX S0 pc e i k x0 (mA1 m r) (fun κ => bx om fun a x => or_ x fun as y => κ (.v a :: as) y) := hax_1 h h2
theorem xd_1 {m : ME} {r : MA} {om : Option (D × List D)} {or_ : List D → (List D → List D → Option β) → Option β} (h : HX S0 pc e i k x0 m om) (h2 : ∀ x, HDX S0 pc e i k x r (or_ x)) : HDX S0 pc e i k x0 (mA1 m r) (fun κ => bx om fun a x => or_ x fun as y => κ (a :: as) y) := hdx_1 h h2
theorem x_tup {m : MA} {o : (List D → List D → Option (D × List D)) → Option (D × List D)} {o' : Option (D × List D)} (h : HDX S0 pc e i k x0 m o) (ho : (o fun ds x => lx x (mkT ds)) = o') : HX S0 pc e i k x0 (mTup m) o' := hx_tup h ho
theorem x_lst {m : MA} {o : (List D → List D → Option (List D × List D)) → Option (List D × List D)} {o' : Option (List D × List D)} (h : HDX S0 pc e i k x0 m o) (ho : (o fun ds x => lx x (mkL ds)) = o') : HX S0 pc e i k x0 (mLst m) o' := hx_lst h ho
theorem x_b {f : List D → Option D} {m : MA} {o : (List D → List D → Option (D × List D)) → Option (D × List D)} {o' : Option (D × List D)} (h : HDX S0 pc e i k x0 m o) (ho : (o fun ds x => lx x (f ds)) = o') : HX S0 pc e i k x0 (mB f m) o' := hx_b h ho
/-! statements -/
theorem s_asgX {oe : Option (D × List D)} {kk : D → List D → Option A} (he : e.set i (some (celP k x0)) = e) (hi : Nat.ble (i + 1) e.length = true) (h : HX S0 pc e i k x0 me oe) (h2 : ∀ v x, HS S0 pc ((e.set i (some (celP k x))).set j (some (Pv.d v))) m2 (kk v x) P) : HS S0 pc e (mSeq (mAsg me (mgN j)) m2) (bx oe kk) P := hs_asgX he hi h h2
theorem s_unpX {Y : Type} {mg : MG} {ts : List Nat} {oY : D → Option Y} {ev : List D → Y → Env} {oe : Option (D × List D)} {kk : Y → List D → Option A} (he : e.set i (some (celP k x0)) = e) (hi : Nat.ble (i + 1) e.length = true) (h : HX S0 pc e i k x0 me oe) (hg : ∀ x, HG S0 pc (e.set i (some (celP k x))) mg ts oY (ev x)) (h2 : ∀ y x, HS S0 pc (ev x y) m2 (kk y x) P) : HS S0 pc e (mSeq (mAsg me mg) m2) (bx oe fun v x => (oY v).bind fun y => kk y x) P := hs_unpX he hi h hg h2
theorem s_newX {on : Option (List D × List D)} {kk : List D → List D → Option A} (he : e.set i (some (celP k x0)) = e) (hi : Nat.ble (i + 1) e.length = true) (h : HX S0 pc e i k x0 mn on) (h2 : ∀ xs x, HS S0 pc ((e.set i (some (celP k x))).set j (some (Pv.c xs))) m2 (kk xs x) P) : HS S0 pc e (mSeq (mNew j mn) m2) (bx on kk) P := hs_newX he hi h h2
theorem s_augX {x : D} {oe : Option (D × List D)} {kk : D → List D → Option A} (hx : e[j]? = some (some (Pv.d x))) (he : e.set i (some (celP k x0)) = e) (hi : Nat.ble (i + 1) e.length = true) (h : HX S0 pc e i k x0 me oe) (h2 : ∀ v x, HS S0 pc ((e.set i (some (celP k x))).set j (some (Pv.d v))) m2 (kk v x) P) : HS S0 pc e (mSeq (mAug j f me) m2) (bx oe fun y z => (f x y).bind fun v => kk v z) P := hs_augX hx he hi h h2
theorem s_appX {l : Option Nat} {oe : Option (D × List D)} {xs : List D} {kk : List D → List D → Option A} (he : e.set i (some (celP k x0)) = e) (hi : Nat.ble (i + 1) e.length = true) (hij : (i == j) = false) (hx : e[j]? = some (some (celP l xs))) (h : HX S0 pc e i k x0 me oe) (h2 : ∀ ys x, HS S0 pc ((e.set i (some (celP k x))).set j (some (celP l ys))) m2 (kk ys x) P) : HS S0 pc e (mSeq (mDrop (mApp j me)) m2) (bx oe fun v x => (appO xs v).bind fun ys => kk ys x) P := hs_appX he hi hij hx h h2
theorem s_extNX {l : Option Nat} {on : Option (List D × List D)} {xs : List D} {kk : List D → List D → Option A} (he : e.set i (some (celP k x0)) = e) (hi : Nat.ble (i + 1) e.length = true) (hij : (i == j) = false) (hx : e[j]? = some (some (celP l xs))) (h : HX S0 pc e i k x0 mn on) (h2 : ∀ ys x, HS S0 pc ((e.set i (some (celP k x))).set j (some (celP l ys))) m2 (kk ys x) P) : HS S0 pc e (mSeq (mDrop (mExtN j mn)) m2) (bx on fun v x => (extO xs v).bind fun ys => kk ys x) P := hs_extNX he hi hij hx h h2
theorem s_dropX {oe : Option (D × List D)} {kk : List D → Option A} (he : e.set i (some (celP k x0)) = e) (hi : Nat.ble (i + 1) e.length = true) (h : HX S0 pc e i k x0 me oe) (h2 : ∀ x, HS S0 pc (e.set i (some (celP k x))) m2 (kk x) P) : HS S0 pc e (mSeq (mDrop me) m2) (bx oe fun _ x => kk x) P := hs_dropX he hi h h2
theorem s_retX {oe : Option (D × List D)} {mk : D → List D → A} (he : e.set i (some (celP k x0)) = e) (hi : Nat.ble (i + 1) e.length = true) (h : HX S0 pc e i k x0 me oe) (hp : ∀ ρ S v x, Mt S0 pc (e.set i (some (celP k x))) ρ S → P (mk v x) (.rt (.val v)) ρ S) : HS S0 pc e (mSeq (mRet me) m2) (bx oe fun v x => some (mk v x)) P := by
  have := hs_retX (m2 := m2) he hi h hp; rw [Option.map_eq_bind] at this; exact this
theorem s_retLX {on : Option (List D × List D)} {mk : List D → List D → A} (he : e.set i (some (celP k x0)) = e) (hi : Nat.ble (i + 1) e.length = true) (h : HX S0 pc e i k x0 mn on) (hp : ∀ ρ S v x, Mt S0 pc (e.set i (some (celP k x))) ρ S → P (mk v x) (.rt (.new v)) ρ S) : HS S0 pc e (mSeq (mRetL mn) m2) (bx on fun v x => some (mk v x)) P := by
  have := hs_retLX (m2 := m2) he hi h hp; rw [Option.map_eq_bind] at this; exact this
theorem s_ret {oe : Option D} {mk : D → A} (h : HP S0 pc e me oe) (hp : ∀ ρ S v, Mt S0 pc e ρ S → P (mk v) (.rt (.val v)) ρ S) : HS S0 pc e (mSeq (mRet me) m2) (oe.bind fun v => some (mk v)) P := by
  have := hs_ret (m2 := m2) h hp; rw [Option.map_eq_bind] at this; exact this
theorem s_retL {on : Option (List D)} {mk : List D → A} (h : HP S0 pc e mn on) (hp : ∀ ρ S v, Mt S0 pc e ρ S → P (mk v) (.rt (.new v)) ρ S) : HS S0 pc e (mSeq (mRetL mn) m2) (on.bind fun v => some (mk v)) P := by
  have := hs_retL (m2 := m2) h hp; rw [Option.map_eq_bind] at this; exact this
theorem s_ifX {c : MT} {oc : Option (Bool × List D)} {oa ob : List D → Option A} (he : e.set i (some (celP k x0)) = e) (hi : Nat.ble (i + 1) e.length = true) (hc : HX S0 pc e i k x0 c oc) (ha : ∀ x, HS S0 pc (e.set i (some (celP k x))) (mSeq m1 m3) (oa x) P) (hb : ∀ x, HS S0 pc (e.set i (some (celP k x))) (mSeq m2 m3) (ob x) P) : HS S0 pc e (mSeq (mIfS c m1 m2) m3) (bx oc fun z x => if z then oa x else ob x) P := hs_ifX he hi hc ha hb
section
variable {σ Y : Type} {ev : σ → Env} {evy : σ → Y → Env} {mg : MG} {mb : MS} {mi : MN} {ts : List Nat} {oY : D → Option Y} {f : σ → Y → Option σ} {fr : σ → Y → Option (Step σ R)}
theorem s_forX {oi : Option (List D × List D)} {s0 : List D → σ} {kk : σ → Option A} (he : e.set i (some (celP k x0)) = e) (hl : Nat.ble (i + 1) e.length = true) (hi : HX S0 pc e i k x0 mi oi) (w : ∀ x, Wk (e.set i (some (celP k x))) (ev (s0 x))) (hg : ∀ s, HG S0 pc (ev s) mg ts oY (evy s)) (hb : ∀ s y, HS S0 pc (evy s y) mb (f s y) (PostB S0 pc ev)) (h2 : ∀ s, HS S0 pc (ev s) m2 (kk s) P) :
    HS S0 pc e (mSeq (mFor mi mg mb) m2) (bx oi fun xs x => (forP oY f (s0 x) xs).bind kk) P := hs_forX he hl hi w hg hb h2
theorem s_forRX {oi : Option (List D × List D)} {s0 : List D → σ} {kk : σ → Option A} {inj : R → A} (he : e.set i (some (celP k x0)) = e) (hl : Nat.ble (i + 1) e.length = true) (hi : HX S0 pc e i k x0 mi oi) (w : ∀ x, Wk (e.set i (some (celP k x))) (ev (s0 x))) (hg : ∀ s, HG S0 pc (ev s) mg ts oY (evy s)) (hb : ∀ s y, HS S0 pc (evy s y) mb (fr s y) (PostS S0 pc ev (PostI inj P))) (h2 : ∀ s, HS S0 pc (ev s) m2 (kk s) P) :
    HS S0 pc e (mSeq (mFor mi mg mb) m2) (bx oi fun xs x => (forR oY fr (s0 x) xs).bind (afterR kk inj)) P := hs_forRX he hl hi w hg hb h2
end
end
end G
namespace G
open PySem L2
theorem fspec_none {A : Type} {g : Fn} {F : List Pk → Option A} {rt : A → Rt} {outs : A → List (List D)} (h : ∀ vs, F vs = none) : FSpec g F rt outs := fun S as vs _ _ _ a hF => by rw [h] at hF; cases hF
end G
namespace G
open PySem L2
section
variable {S0 : Sto} {pc : List Nat} {e : Env} {i : Nat} {k : Option Nat} {x0 : List D} {mn : MN} {o : Option (List D)} {on : Option (List D × List D)}
theorem hp_sortX (h : HP S0 pc e mn o) : HP S0 pc e (mSortX mn) (o.bind sortX) := hp_bindo h
theorem x_sortX (h : HX S0 pc e i k x0 mn on) : HX S0 pc e i k x0 (mSortX mn) (bx on fun a x => lx x (sortX a)) := hx_bindo h
end
end G
set_option Elab.async false
set_option linter.all false
set_option autoImplicit false
set_option maxRecDepth 100000
set_option maxHeartbeats 4000000
namespace G
open PySem L2
section
variable {S0 : Sto} {pc : List Nat} {e : Env} {ma mb : ME} {oa ob : Option D}
theorem hp_catD (h : HP S0 pc e ma oa) (h2 : HP S0 pc e mb ob) : HP S0 pc e (mCatD ma mb) ((oa.bind asL).bind fun a => (ob.bind asL).bind fun b => catO a b) := by
  have : mCatD ma mb = fun ρ S => (mLE ma ρ S).bind fun p => (mLE mb ρ p.2).bind fun q => (catO p.1 q.1).map fun z => (z, q.2) := by
    funext ρ S; unfold mCatD; congr 1; funext p; congr 1; funext q; exact ifSome
  rw [this]; exact hp_bind (f := fun a ρ S => (mLE mb ρ S).bind fun q => (catO a q.1).map fun z => (z, q.2)) (g := fun a => (ob.bind asL).bind fun b => catO a b) (hp_le h) fun a => hp_bindo (hp_le h2)
end
end G
set_option Elab.async false
set_option linter.all false
set_option autoImplicit false
set_option maxRecDepth 100000
set_option maxHeartbeats 4000000
namespace G
open PySem L2
section
variable {S0 : Sto} {pc : List Nat} {e : Env} {j : Nat} {A : Type} {P : PT A} {m1 m2 : MS} {o : Option A}
theorem fz_seq (ρ : Rho) (S : Sto) : mSeq (mFz j m1) m2 ρ S = mFz j (mSeq m1 m2) ρ S := by
  cases h : ρ[j]? with
  | none => simp only [mFz, mSeq, h]
  | some v =>
    cases v with
    | none => simp only [mFz, mSeq, h]
    | some s =>
      cases s with
      | d x => simp only [mFz, mSeq, h]
      | loc n =>
        cases h2 : S[n]? with
        | none => simp only [mFz, mSeq, h, h2]; rfl
        | some v =>
          cases v with
          | none => simp only [mFz, mSeq, h, h2]; rfl
          | some xs => simp only [mFz, mSeq, h, h2]
theorem Mt.fz {ρ : Rho} {S : Sto} (t : Mt S0 pc e ρ S) {xs : List D} (hx : e[j]? = some (some (.c xs))) : ∃ n, ρ[j]? = some (some (.loc n)) ∧ S[n]? = some (some xs) ∧ Mt S0 pc (e.set j (some (.d (.list xs)))) (ρ.set j (some (.d (.list xs)))) (S.set n none) := by
  obtain ⟨n, h1, h2, h3⟩ := t.c j xs hx
  have hl : j < ρ.length := (List.getElem?_eq_some_iff.mp h1).1
  refine ⟨n, h1, h2, ⟨by rw [List.length_set, List.length_set, t.len], fun i x hi => ?_, fun i ys hi => ?_, fun i k ys hi => ?_, fun i x hi => ?_, fun i k ys zs r ne hi hk hr1 hr2 => ?_, fun i k r r' ys zs ne hi hk => ?_, t.pl, by rw [List.length_set]; exact t.le, fun k hk hp => ?_⟩⟩
  · by_cases c : j = i
    · subst c
      rw [List.getElem?_set_self (by rw [← t.len]; exact hl)] at hi
      cases hi
      rw [List.getElem?_set_self hl]
    · rw [List.getElem?_set_ne c] at hi ⊢
      exact t.d i x hi
  · obtain ⟨ne, hi⟩ := getset_ne hi (by simp)
    obtain ⟨k, k1, k2, k3⟩ := t.c i ys hi
    refine ⟨k, by rw [List.getElem?_set_ne (fun e => ne e.symm)]; exact k1, ?_, k3⟩
    have : k ≠ n := fun e => t.dj i j ys xs n ne hi hx (e ▸ k1) h1
    rw [List.getElem?_set_ne (fun e => this e.symm)]; exact k2
  · obtain ⟨ne, hi⟩ := getset_ne hi (by simp)
    obtain ⟨k1, k2, k3⟩ := t.p i k ys hi
    have := t.pl k k3
    exact ⟨by rw [List.getElem?_set_ne (fun e => ne e.symm)]; exact k1, by rw [List.getElem?_set_ne (by omega)]; exact k2, k3⟩
  · obtain ⟨ne, hi⟩ := getset_ne hi (by simp)
    rcases t.q i x hi with k | ⟨k, ys, k1, k2, k3, k4, k5⟩
    · exact .inl (by rw [List.getElem?_set_ne (fun e => ne e.symm)]; exact k)
    · exact .inr ⟨k, ys, k1, by rw [List.getElem?_set_ne (fun e => ne e.symm)]; exact k2, by rw [List.getElem?_set_ne (by omega)]; exact k3, k4, k5⟩
  · obtain ⟨n1, hi⟩ := getset_ne hi (by simp)
    obtain ⟨n2, hk⟩ := getset_ne hk (by simp)
    rw [List.getElem?_set_ne (fun e => n1 e.symm)] at hr1
    rw [List.getElem?_set_ne (fun e => n2 e.symm)] at hr2
    exact t.dj i k ys zs r ne hi hk hr1 hr2
  · exact t.pd i k r r' ys zs ne (getset_ne hi (by simp)).2 (getset_ne hk (by simp)).2
  · rw [List.getElem?_set_ne (by omega)]
    exact t.fr k hk hp
theorem hs_fz {xs : List D} (hx : e[j]? = some (some (.c xs))) (h : HS S0 pc (e.set j (some (.d (.list xs)))) (mSeq m1 m2) o P) : HS S0 pc e (mSeq (mFz j m1) m2) o P := fun ρ S t a q => by
  obtain ⟨n, h1, h2, t'⟩ := t.fz hx
  obtain ⟨out, ρ', S', k1, k2⟩ := h _ _ t' a q
  refine ⟨out, ρ', S', ?_, k2⟩
  rw [fz_seq]
  unfold mFz
  rw [h1]
  simp only [h2]
  exact k1
theorem hs_fzd {x : D} (hx : e[j]? = some (some (.d x))) (h : HS S0 pc e (mSeq m1 m2) o P) : HS S0 pc e (mSeq (mFz j m1) m2) o P := fun ρ S t a q => by
  obtain ⟨out, ρ', S', k1, k2⟩ := h _ _ t a q
  refine ⟨out, ρ', S', ?_, k2⟩
  rw [fz_seq]
  unfold mFz
  rw [t.d j x hx]
  exact k1
end
end G
set_option Elab.async false
set_option linter.all false
set_option autoImplicit false
set_option maxRecDepth 100000
set_option maxHeartbeats 4000000
namespace G
open PySem L2
def extD (xs : List D) (v : D) : Option (List D) := match v with
  | .tuple ys => extO xs ys
  | .list ys => extO xs ys
  | _ => none
section
variable {S0 : Sto} {pc : List Nat} {e : Env} {j : Nat} {k : Option Nat} {A : Type} {P : PT A} {m2 : MS} {me : ME}
theorem hs_extD {oe : Option D} {xs : List D} {kk : List D → Option A} (hx : e[j]? = some (some (celP k xs))) (h : HP S0 pc e me oe) (h2 : ∀ ys, HS S0 pc (e.set j (some (celP k ys))) m2 (kk ys) P) : HS S0 pc e (mSeq (mDrop (mExtD j me)) m2) (oe.bind fun v => (extD xs v).bind kk) P := fun ρ S t a q => by
  cases ho : oe with
  | none => rw [ho] at q; cases q
  | some v =>
    rw [ho, Option.bind_some] at q
    unfold extD at q
    split at q <;> first | (cases q; done) | skip
    · rename_i ys
      unfold extO at q
      split at q <;> first | (cases q; done) | skip
      rename_i hz
      obtain ⟨n, a1, a2⟩ := t.cell hx
      obtain ⟨out, ρ', S', b1, b2⟩ := h2 (xs ++ ys) _ _ (t.wr hx a1 (xs ++ ys)) a q
      exact ⟨out, ρ', S', by rw [← b1]; simp [mSeq, mDrop, mExtD, h ρ S t _ ho, a1, a2, hz], b2⟩
    · rename_i ys
      unfold extO at q
      split at q <;> first | (cases q; done) | skip
      rename_i hz
      obtain ⟨n, a1, a2⟩ := t.cell hx
      obtain ⟨out, ρ', S', b1, b2⟩ := h2 (xs ++ ys) _ _ (t.wr hx a1 (xs ++ ys)) a q
      exact ⟨out, ρ', S', by rw [← b1]; simp [mSeq, mDrop, mExtD, h ρ S t _ ho, a1, a2, hz], b2⟩
end
end G
set_option Elab.async false
set_option linter.all false
set_option autoImplicit false
set_option maxRecDepth 100000
set_option maxHeartbeats 4000000
namespace G
open PySem L2
section
variable {S0 : Sto} {pc : List Nat} {e : Env} {j : Nat} {k : Option Nat} {A : Type} {P : PT A} {m2 : MS}
/-- row[y] += v -/
def addO (xs : List D) (y v : D) : Option (List D) := (ixO (some xs) y).bind fun x => (fI0 (fun i j => .int (i + j)) x v).bind fun z => subO xs y z
theorem hs_addI {mi mv : ME} {ov oi : Option D} {xs : List D} {kk : List D → Option A} (hx : e[j]? = some (some (celP k xs))) (hv : HP S0 pc e mv ov) (hi : HP S0 pc e mi oi) (h2 : ∀ ys, HS S0 pc (e.set j (some (celP k ys))) m2 (kk ys) P) : HS S0 pc e (mSeq (mAugX j (fI0 fun i j => .int (i + j)) mi mv) m2) (ov.bind fun v => oi.bind fun y => (addO xs y v).bind kk) P := fun ρ S t a q => by
  cases ho : ov with
  | none => rw [ho] at q; cases q
  | some v =>
    rw [ho, Option.bind_some] at q
    cases ho2 : oi with
    | none => rw [ho2] at q; cases q
    | some y =>
      rw [ho2, Option.bind_some] at q
      obtain ⟨n, a1, a2⟩ := t.cell hx
      unfold addO at q
      cases y <;> first | (cases q; done) | skip
      rename_i z
      cases h3 : ixO (some xs) (.int z) with
      | none => rw [h3] at q; cases q
      | some x =>
        rw [h3, Option.bind_some] at q
        have h3 : atI xs z = some x := h3
        cases h4 : fI0 (fun i j => .int (i + j)) x v with
        | none => rw [h4] at q; cases q
        | some w =>
          rw [h4, Option.bind_some] at q
          unfold subO at q
          simp only at q
          cases hz : ixN xs.length z with
          | none => rw [hz] at q; cases q
          | some l =>
            rw [hz] at q
            obtain ⟨out, ρ', S', b1, b2⟩ := h2 (xs.set l w) _ _ (t.wr hx a1 (xs.set l w)) a q
            exact ⟨out, ρ', S', by rw [← b1]; simp [mSeq, mAugX, hv ρ S t v ho, hi ρ S t _ ho2, a1, a2, hz, h3, h4], b2⟩
end
end G
set_option Elab.async false
set_option linter.all false
set_option autoImplicit false
set_option maxRecDepth 100000
set_option maxHeartbeats 4000000
namespace G
open PySem L2
section
variable {S0 : Sto} {pc : List Nat} {e : Env}
theorem hp_zipX {m : MA} {o : (List D → Option (List D)) → Option (List D)} {o' : Option (List D)} (h : HD S0 pc e m o) (ho : o zipX = o') : HP S0 pc e (mZipX m) o' := hp_ds h ho
end
end G
set_option Elab.async false
set_option linter.all false
set_option autoImplicit false
set_option maxRecDepth 100000
set_option maxHeartbeats 4000000
/-! Errors in plain functions. -/
namespace G
open PySem L2
section
variable {S0 : Sto} {pc : List Nat} {e e' e1 : Env} {i j b : Nat} {β γ A R σ : Type} {P : PT A} {m1 m2 : MS} {me : ME} {mn : MN} {o : Option A} {mx my : MXR} {ox oy : Option Rt}
theorem hp_xe {oe : Option D} (h : HP S0 pc e me oe) : HP S0 pc e (mXE me) (oe.map Rt.val) := fun ρ S t c q => by
  cases ho : oe with
  | none => rw [ho] at q; cases q
  | some d => rw [ho] at q; cases q; unfold mXE; rw [h ρ S t d ho]; rfl
theorem hp_xn {on : Option (List D)} (h : HP S0 pc e mn on) : HP S0 pc e (mXN mn) (on.map Rt.new) := fun ρ S t c q => by
  cases ho : on with
  | none => rw [ho] at q; cases q
  | some d => rw [ho] at q; cases q; unfold mXN; rw [h ρ S t d ho]; rfl
theorem hp_callX {A : Type} {g : Fn} {F : List Pk → Option A} {rt : A → Rt} {outs : A → List (List D)} {ks : List Kd} {m : MA} {np : Nat} {o : (List Arg → Option A) → Option A} {o' : Option A} (c : FSpec g F rt outs) (hn : noP ks = true) (hnp : ks.length = np) (ha : HA S0 pc e m o) (ho : o (callO F ks e) = o') : HP S0 pc e (mCallX np g m) (o'.map rt) := fun ρ S t d q => by
  subst ho
  cases h0 : o (callO F ks e) with
  | none => rw [h0] at q; cases q
  | some a =>
    rw [h0] at q
    cases q
    obtain ⟨as, ss, a1, a2, a3⟩ := ha _ ρ S t a h0
    obtain ⟨b1, b2⟩ := call_pure c hn t a2 a3
    unfold mCallX
    rw [a1, Option.bind_some]
    simp only
    rw [if_pos (by rw [b1, hnp]), b2]
theorem hp_callXM {g : Fn} {F : List Pk → Option Rt} {outs : Rt → List (List D)} {ks : List Kd} {m : MA} {np : Nat} {o : (List Arg → Option Rt) → Option Rt} {o' : Option Rt} (c : FSpec g F (fun a => a) outs) (hn : noP ks = true) (hnp : ks.length = np) (ha : HA S0 pc e m o) (ho : o (callO F ks e) = o') : HP S0 pc e (mCallX np g m) o' := by
  have := hp_callX c hn hnp ha ho
  rwa [Option.map_id'] at this
theorem hp_ifX {c : MT} {oc : Option Bool} (hc : HP S0 pc e c oc) (h1 : HP S0 pc e mx ox) (h2 : HP S0 pc e my oy) : HP S0 pc e (mIfX c mx my) (oc.bind fun z => if z then ox else oy) := fun ρ S t d q => by
  cases ho : oc with
  | none => rw [ho] at q; cases q
  | some z =>
    rw [ho, Option.bind_some] at q
    unfold mIfX
    rw [hc ρ S t z ho, Option.bind_some]
    cases z with
    | true => exact h1 ρ S t d q
    | false => exact h2 ρ S t d q
/-- an error goes on, else f of the data -/
def xb {β : Type} (r : Rt) (f : D → Option β) (g : Nat → List D → Option β) : Option β := xk f g r
def orX (ox : Option Rt) (oe : Option D) : Option Rt := ox.bind fun r => xb r (fun z => (tru z).bind fun y => if y then some (.val z) else oe.map Rt.val) (fun c x => some (.exc c x))
theorem hp_orX {oe : Option D} (h : HP S0 pc e mx ox) (h2 : HP S0 pc e me oe) : HP S0 pc e (mOrXX mx me) (orX ox oe) := fun ρ S t d q => by
  unfold orX at q
  cases ho : ox with
  | none => rw [ho] at q; cases q
  | some r =>
    rw [ho, Option.bind_some] at q
    unfold mOrXX
    rw [h ρ S t r ho, Option.bind_some]
    have key : ∀ z : D, ((tru z).bind fun y => if y then some (Rt.val z) else oe.map Rt.val) = some d → ((tru z).bind fun y => if y then some (Rt.val z, S) else (me ρ S).map fun q => (Rt.val q.1, q.2)) = some (d, S) := fun z hz => by
      cases ht : tru z with
      | none => rw [ht] at hz; cases hz
      | some y =>
        rw [ht, Option.bind_some] at hz
        rw [Option.bind_some]
        cases y with
        | true => cases hz; rfl
        | false =>
          rw [if_neg Bool.false_ne_true] at hz ⊢
          cases hoe : oe with
          | none => rw [hoe] at hz; cases hz
          | some v => rw [hoe] at hz; cases hz; rw [h2 ρ S t v hoe]; rfl
    cases r with
    | val z => exact key z q
    | new z => exact key (.list z) q
    | exc c x => cases q; rfl
/-! ### statements -/
theorem hs_raiseC {m : MA} {n c : Nat} {mk : List D → A} {oa : (List D → Option A) → Option A} {o' : Option A} (h : HD S0 pc e m oa) (hp : ∀ ρ S x, Mt S0 pc e ρ S → P (mk x) (.rt (.exc c x)) ρ S) (ho : oa (fun x => if x.length = n ∧ x.length ≤ 1000 then some (mk x) else none) = o') : HS S0 pc e (mSeq (mRaise n c m) m2) o' P := fun ρ S t a q => by
  subst ho
  obtain ⟨ds, a1, a2⟩ := h _ ρ S t a q
  split at a2 <;> cases a2
  rename_i hl
  refine ⟨.rt (.exc c ds), ρ, S, ?_, hp ρ S ds t⟩
  unfold mSeq mRaise mDs
  simp only [a1, datas_map, Option.bind_some, Option.map_some, if_pos hl]
theorem hs_dropXX (h : HP S0 pc e mx ox) {mk : Nat → List D → A} {kk : Option A} (h2 : HS S0 pc e m2 kk P) (hp : ∀ ρ S c x, Mt S0 pc e ρ S → P (mk c x) (.rt (.exc c x)) ρ S) : HS S0 pc e (mSeq (mDropX mx) m2) (ox.bind fun r => xb r (fun _ => kk) (fun c x => some (mk c x))) P := fun ρ S t a q => by
  cases ho : ox with
  | none => rw [ho] at q; cases q
  | some r =>
    rw [ho, Option.bind_some] at q
    have e1 := h ρ S t r ho
    cases r with
    | val z =>
      obtain ⟨out, ρ', S', b1, b2⟩ := h2 ρ S t a q
      exact ⟨out, ρ', S', by rw [← b1]; simp [mSeq, mDropX, e1, xk], b2⟩
    | new z =>
      obtain ⟨out, ρ', S', b1, b2⟩ := h2 ρ S t a q
      exact ⟨out, ρ', S', by rw [← b1]; simp [mSeq, mDropX, e1, xk], b2⟩
    | exc c x =>
      cases q
      exact ⟨.rt (.exc c x), ρ, S, by simp [mSeq, mDropX, e1, xk], hp ρ S c x t⟩
theorem hs_asgXX (h : HP S0 pc e mx ox) {mk : Nat → List D → A} {kk : D → Option A} (h2 : ∀ v, HS S0 pc (e.set j (some (Pv.d v))) m2 (kk v) P) (hp : ∀ ρ S c x, Mt S0 pc e ρ S → P (mk c x) (.rt (.exc c x)) ρ S) : HS S0 pc e (mSeq (mAsgX mx (mgN j)) m2) (ox.bind fun r => xb r kk (fun c x => some (mk c x))) P := fun ρ S t a q => by
  cases ho : ox with
  | none => rw [ho] at q; cases q
  | some r =>
    rw [ho, Option.bind_some] at q
    have e1 := h ρ S t r ho
    cases r with
    | val z =>
      obtain ⟨out, ρ', S', b1, b2⟩ := h2 z _ S (t.setd j z) a q
      exact ⟨out, ρ', S', by rw [← b1]; simp [mSeq, mAsgX, mgN, e1, xk], b2⟩
    | new z =>
      obtain ⟨out, ρ', S', b1, b2⟩ := h2 (.list z) _ S (t.setd j (.list z)) a q
      exact ⟨out, ρ', S', by rw [← b1]; simp [mSeq, mAsgX, mgN, e1, xk], b2⟩
    | exc c x =>
      cases q
      exact ⟨.rt (.exc c x), ρ, S, by simp [mSeq, mAsgX, e1, xk], hp ρ S c x t⟩
theorem hs_retXX (h : HP S0 pc e mx ox) {mk : Rt → A} (hp : ∀ ρ S r, Mt S0 pc e ρ S → P (mk r) (.rt r) ρ S) : HS S0 pc e (mSeq (mRetX mx) m2) (ox.bind fun r => some (mk r)) P := fun ρ S t a q => by
  cases ho : ox with
  | none => rw [ho] at q; cases q
  | some r =>
    rw [ho, Option.bind_some] at q
    cases q
    exact ⟨.rt r, ρ, S, by simp [mSeq, mRetX, h ρ S t r ho], hp ρ S r t⟩
/-! ### try -/
/-- a try's body: it goes on, or ends by a return or an error -/
def PostT (S0 : Sto) (pc : List Nat) {σ : Type} (ev : σ → Env) (e1 : Env) : PT (Step σ Rt) := fun a out ρ S => match a with
  | .nx s => out = .nx ∧ Mt S0 pc (ev s) ρ S
  | .bk _ => False
  | .rt r => out = .rt r ∧ Mt S0 pc e1 ρ S
theorem hs_endT {σ : Type} {ev : σ → Env} {s : σ} (w : Wk e (ev s)) : HS S0 pc e mNext (some (.nx s)) (PostT S0 pc ev e1) := fun ρ S t a q => by
  cases q
  exact ⟨.nx, ρ, S, rfl, rfl, t.weak w⟩
/-- a suite: it returns data -/
def PostU (S0 : Sto) (pc : List Nat) (e2 : Env) : PT D := fun d out ρ S => out = .rt (.val d) ∧ Mt S0 pc e2 ρ S
abbrev Pz := (Nat → Option Bool) × (Nat → List D → Option D)
def selO : List Pz → Nat → List D → Option Rt
  | [], _, _ => none
  | z :: r, c, x => (z.1 c).bind fun y => if y then (z.2 c x).map Rt.val else selO r c x
inductive HZ (S0 : Sto) (pc : List Nat) (e1 : Env) : List Cz → List Pz → Prop
  | nil : HZ S0 pc e1 [] []
  | plain {tab : Nat → Option Bool} {m : Nat → List D → MS} {f : Nat → List D → Option D} {l : List Cz} {r : List Pz} (h : ∀ c x, HS S0 pc e1 (m c x) (f c x) (PostU S0 pc e1)) (h2 : HZ S0 pc e1 l r) : HZ S0 pc e1 ((tab, none, m) :: l) ((tab, f) :: r)
  | named {tab : Nat → Option Bool} {m : Nat → List D → MS} {f : Nat → List D → Option D} {l : List Cz} {r : List Pz} {i : Nat} (hi : Nat.ble (i + 1) e1.length = true) (he : e1.set i none = e1) (h : ∀ c x, HS S0 pc e1 (m c x) (f c x) (PostU S0 pc e1)) (h2 : HZ S0 pc e1 l r) : HZ S0 pc e1 ((tab, some i, m) :: l) ((tab, f) :: r)
theorem sel_pure {l : List Cz} {r : List Pz} (h : HZ S0 pc e1 l r) {c : Nat} {x : List D} {ρ : Rho} {S : Sto} (t : Mt S0 pc e1 ρ S) {v : Rt} (q : selO r c x = some v) : (∃ d, v = .val d) ∧ ∃ ρ' S', sel l c x ρ S = some (.rt v, ρ', S') ∧ Mt S0 pc e1 ρ' S' := by
  induction h with
  | nil => cases q
  | @plain tab m f l r h h2 ih =>
    unfold selO at q
    unfold sel
    simp only at q ⊢
    cases ht : tab c with
    | none => rw [ht] at q; cases q
    | some y =>
      rw [ht, Option.bind_some] at q
      rw [Option.bind_some]
      cases y with
      | false => rw [if_neg Bool.false_ne_true] at q ⊢; exact ih q
      | true =>
        rw [if_pos rfl] at q ⊢
        cases hf : f c x with
        | none => rw [hf] at q; cases q
        | some d =>
          rw [hf] at q
          cases q
          obtain ⟨out, ρ', S', b1, rfl, b3⟩ := h c x ρ S t d hf
          refine ⟨⟨d, rfl⟩, ρ', S', ?_, b3⟩
          simp [okI, offR, b1]
  | @named tab m f l r i hi he h h2 ih =>
    unfold selO at q
    unfold sel
    simp only at q ⊢
    cases ht : tab c with
    | none => rw [ht] at q; cases q
    | some y =>
      rw [ht, Option.bind_some] at q
      rw [Option.bind_some]
      cases y with
      | false => rw [if_neg Bool.false_ne_true] at q ⊢; exact ih q
      | true =>
        rw [if_pos rfl] at q ⊢
        cases hf : f c x with
        | none => rw [hf] at q; cases q
        | some d =>
          rw [hf] at q
          cases q
          have hl : i < ρ.length := by rw [t.len]; exact Nat.le_of_ble_eq_true hi
          have t2 : Mt S0 pc e1 (ρ.set i none) S := by have := t.unset i none; rwa [he] at this
          obtain ⟨out, ρ', S', b1, rfl, b3⟩ := h c x _ S t2 d hf
          have b4 : Mt S0 pc e1 (ρ'.set i none) S' := by have := b3.unset i none; rwa [he] at this
          refine ⟨⟨d, rfl⟩, ρ'.set i none, S', ?_, b4⟩
          simp [okI, offR, b1, hl]
def trySel {σ A : Type} (kk : σ → Option A) (mk : Rt → A) (l : List Pz) : Step σ Rt → Option A
  | .nx s => kk s
  | .bk _ => none
  | .rt r => (match r with | .exc c x => selO l c x | r => some r).bind fun r => some (mk r)
theorem hs_tryP {σ : Type} {ev : σ → Env} {ob : Option (Step σ Rt)} {m : MS} {l : List Cz} {r : List Pz} {kk : σ → Option A} {mk : Rt → A} (hb : HS S0 pc e m ob (PostT S0 pc ev e1)) (hl : HZ S0 pc e1 l r) (hk : ∀ s, HS S0 pc (ev s) m2 (kk s) P) (hp : ∀ ρ S v, Mt S0 pc e1 ρ S → P (mk v) (.rt v) ρ S) :
    HS S0 pc e (mSeq (mTry m l) m2) (ob.bind (trySel kk mk r)) P := fun ρ S t a q => by
  cases ho : ob with
  | none => rw [ho] at q; cases q
  | some st =>
    rw [ho, Option.bind_some] at q
    obtain ⟨out, ρ1, S1, b1, b2⟩ := hb ρ S t st ho
    cases st with
    | bk s => exact b2.elim
    | nx s =>
      obtain ⟨rfl, t1⟩ := b2
      obtain ⟨o2, ρ2, S2, c1, c2⟩ := hk s ρ1 S1 t1 a q
      exact ⟨o2, ρ2, S2, by rw [← c1]; simp [mSeq, mTry, b1], c2⟩
    | rt v =>
      obtain ⟨rfl, t1⟩ := b2
      cases v with
      | val d => cases q; exact ⟨_, ρ1, S1, by simp [mSeq, mTry, b1], hp _ _ _ t1⟩
      | new d => cases q; exact ⟨_, ρ1, S1, by simp [mSeq, mTry, b1], hp _ _ _ t1⟩
      | exc c x =>
        have q : (selO r c x).bind (fun r => some (mk r)) = some a := q
        cases hs : selO r c x with
        | none => rw [hs] at q; cases q
        | some v =>
          rw [hs] at q
          cases q
          obtain ⟨_, ρ2, S2, c1, c2⟩ := sel_pure hl t1 hs
          exact ⟨_, ρ2, S2, by simp [mSeq, mTry, b1, c1], hp _ _ _ c2⟩
/-! ### suites -/
theorem hp_fld {c0 k c : Nat} {x : List D} : HP S0 pc e (mFld c0 k c x) (if c = c0 then x[k]? else none) := fun ρ S t d q => by
  unfold mFld
  split at q <;> first | (cases q; done) | skip
  rename_i h
  rw [if_pos h, q]
  rfl
theorem hp_isX {tab : Nat → Option Bool} {c : Nat} : HP S0 pc e (mIsX tab c) ((tab c).map PyData.bool) := fun ρ S t d q => by
  show ((tab c).map fun b => ((PyData.bool b, S) : D × Sto)) = _
  cases h : tab c with
  | none => rw [h] at q; cases q
  | some y => rw [h] at q; cases q; rfl
theorem hu_ret {oe : Option D} (h : HP S0 pc e me oe) : HS S0 pc e (mRet me) oe (PostU S0 pc e) := fun ρ S t a q => ⟨.rt (.val a), ρ, S, by unfold mRet; rw [h ρ S t a q]; rfl, rfl, t⟩
theorem hu_if {mt : MT} {ot : Option Bool} {oe : Option D} {m : MS} {om : Option D} (ht : HP S0 pc e mt ot) (h : HP S0 pc e me oe) (h2 : HS S0 pc e m om (PostU S0 pc e)) : HS S0 pc e (mSeq (mIfS mt (mRet me) mNext) m) (ot.bind fun y => if y then oe else om) (PostU S0 pc e) := fun ρ S t a q => by
  cases ho : ot with
  | none => rw [ho] at q; cases q
  | some y =>
    rw [ho, Option.bind_some] at q
    cases y with
    | true =>
      refine ⟨.rt (.val a), ρ, S, ?_, rfl, t⟩
      simp [mSeq, mIfS, mRet, ht ρ S t _ ho, h ρ S t a q]
    | false =>
      obtain ⟨out, ρ', S', b1, b2⟩ := h2 ρ S t a q
      refine ⟨out, ρ', S', ?_, b2⟩
      rw [← b1]
      simp [mSeq, mIfS, mNext, ht ρ S t _ ho]
end
end G
set_option Elab.async false
set_option linter.all false
set_option autoImplicit false
set_option maxRecDepth 100000
set_option maxHeartbeats 4000000
namespace G
open PySem L2
def tabL (l : List (Option Bool)) (c : Nat) : Option Bool := (l[c]?).join
/-- a table's rows, one by one -/
theorem tabL_ok {R : Nat → Bool → Prop} {l : List (Option Bool)} (h : ∀ (c : Nat) (o : Option Bool), l[c]? = some o → ∀ v, o = some v → R c v) : ∀ c v, tabL l c = some v → R c v := fun c v e => by
  unfold tabL at e
  cases e1 : l[c]? with
  | none => rw [e1] at e; cases e
  | some o => rw [e1] at e; exact h c o e1 v e
section
variable {S0 : Sto} {pc : List Nat} {e : Env} {mn : MN} {on : Option (List D)} {g : D → List D → D} {z : D}
theorem hp_best (h : HP S0 pc e mn on) : HP S0 pc e (mBest g mn) (on.bind (bestO g)) := hp_bindo h
theorem hp_bestD (h : HP S0 pc e mn on) : HP S0 pc e (mBestD g mn z) (on.bind fun xs => bestD g xs z) := hp_bindo h
end
end G
set_option Elab.async false
set_option linter.all false
set_option autoImplicit false
set_option maxRecDepth 100000
set_option maxHeartbeats 4000000
/-! A call without cells, whose arguments change a cell. -/
namespace G
open PySem L2
def callP {A : Type} (F : List Pk → Option A) (ks : List Kd) (e : Env) (i : Nat) (k : Option Nat) (as : List Arg) (x : List D) : Option (A × List D) := ((cvts (e.set i (some (celP k x))) none ks as).bind F).map fun a => (a, x)
section
variable {S0 : Sto} {pc : List Nat} {e : Env} {i : Nat} {k : Option Nat} {x0 : List D} {A : Type} {g : Fn} {F : List Pk → Option A} {rt : A → Rt} {outs : A → List (List D)} {ks : List Kd} {m : MA} {np : Nat}
theorem hx_callP {o : (List Arg → List D → Option (A × List D)) → Option (A × List D)} {o' : Option (A × List D)} (c : FSpec g F rt outs) (hn : noP ks = true) (hnp : ks.length = np) (ha : HAX S0 pc e i k x0 m o) (ho : o (callP F ks e i k) = o') : HX S0 pc e i k x0 (mCall np g m) (o'.bind fun a => (rtE (rt a.1)).map fun d => (d, a.2)) := fun ρ S t hi b y q => by
  subst ho
  cases h0 : o (callP F ks e i k) with
  | none => rw [h0] at q; cases q
  | some a =>
    rw [h0, Option.bind_some] at q
    obtain ⟨as, ss, n, x, a1, a2, a3, a4⟩ := ha _ ρ S t hi a h0
    unfold callP at a4
    cases hF : (cvts (e.set i (some (celP k x))) none ks as).bind F with
    | none => rw [hF] at a4; cases a4
    | some z =>
      rw [hF] at a4
      cases a4
      have t2 := t.wr (k := k) (xs := x0) (i := i) (List.getElem?_set_self hi) a1 x
      rw [List.set_set] at t2
      obtain ⟨b1, b2⟩ := call_pure c hn t2 a3 hF
      cases hr : rtE (rt z) with
      | none => rw [hr] at q; cases q
      | some d =>
        rw [hr] at q
        cases q
        refine ⟨n, a1, ?_⟩
        unfold mCall
        rw [a2, Option.bind_some]
        simp only
        rw [if_pos (by rw [b1, hnp]), b2, Option.bind_some]
        unfold rtO
        rw [hr]
        rfl
theorem hx_callPD {F : List Pk → Option D} {o : (List Arg → List D → Option (D × List D)) → Option (D × List D)} {o' : Option (D × List D)} (c : FSpec g F .val (fun _ => [])) (hn : noP ks = true) (hnp : ks.length = np) (ha : HAX S0 pc e i k x0 m o) (ho : o (callP F ks e i k) = o') : HX S0 pc e i k x0 (mCall np g m) o' := by
  have h := hx_callP c hn hnp ha ho
  rwa [show (o'.bind fun a => (rtE (Rt.val a.1)).map fun d => (d, a.2)) = o' from by cases o' <;> rfl] at h
theorem hx_callPN {F : List Pk → Option (List D)} {o : (List Arg → List D → Option (List D × List D)) → Option (List D × List D)} {o' : Option (List D × List D)} (c : FSpec g F .new (fun _ => [])) (hn : noP ks = true) (hnp : ks.length = np) (ha : HAX S0 pc e i k x0 m o) (ho : o (callP F ks e i k) = o') : HX S0 pc e i k x0 (mCallN np g m) o' := fun ρ S t hi b y q => by
  subst ho
  obtain ⟨as, ss, n, x, a1, a2, a3, a4⟩ := ha _ ρ S t hi _ q
  unfold callP at a4
  cases hF : (cvts (e.set i (some (celP k x))) none ks as).bind F with
  | none => rw [hF] at a4; cases a4
  | some z =>
    rw [hF] at a4
    cases a4
    have t2 := t.wr (k := k) (xs := x0) (i := i) (List.getElem?_set_self hi) a1 y
    rw [List.set_set] at t2
    obtain ⟨b1, b2⟩ := call_pure c hn t2 a3 hF
    refine ⟨n, a1, ?_⟩
    unfold mCallN
    rw [a2, Option.bind_some]
    simp only
    rw [if_pos (by rw [b1, hnp]), b2]
    rfl
end
end G
set_option linter.all false
set_option autoImplicit false
namespace G
open PySem L2
/-- require -/
def d_require : Fn := mDef 2 2 fun b =>
  (mIfS (mNot (mTru (mVar 0))) mNever mNext)
/-- is_integer -/
def d_is_integer : Fn := mDef 3 3 fun b =>
  (mRet (mAndV (mIsi "int" (mVar 0)) (mAndV (mNotV (mIsi "bool" (mVar 0))) (mChain fLeX fLeX (mVar 1) (mVar 0) (mVar 2)))))
/-- is_tuple -/
def d_is_tuple : Fn := mDef 3 3 fun b =>
  (mRet (mAndV (mIsi "tuple" (mVar 0)) (mChain fLeX fLeX (mVar 1) (mLen (mQVar 0)) (mVar 2))))
/-- are_integers -/
def d_are_integers (F_is_integer : Fn) : Fn := mDef 3 4 fun b =>
  (mRet (mAll (mLc (mQE (mVar 0)) (mgN 3) mYes (mCall 3 F_is_integer (mAV 3 (mAV 1 (mAV 2 mA0)))) [3])))
/-- is_tree_form -/
def d_is_tree_form (F__is_node : Fn) : Fn := mDef 3 6 fun b =>
  (mSeq (mNew 3 (mLst (mA1 (mVar 1) mA0)))
  (mSeq (mAsg (mC (.int 0)) (mgN 4))
  (mSeq (whRun (mTruQ (mQVar 3)) (mSeq (mAsg (mPop 3) (mgN 5))
  (mSeq (mAug 4 (fI0 fun i j => .int (i + j)) (mC (.int 1)))
  (mSeq (mIfS (mTB (mOp fGtX (mVar 4) (mC (.int 15)))) (mRet (mC (.bool false))) mNext)
  (mIfS (mOr (mTB (mOp fIsNot (mVar 5) (mC .none))) (mNot (mTru (mVar 2)))) (mSeq (mIfS (mNot (mTru (mCall 2 F__is_node (mAV 0 (mAV 5 mA0))))) (mRet (mC (.bool false))) mNext)
  (mDrop (mExtD 3 (mSlT (mVar 5) (mO1 (mC (.int 1))) mO0)))) mNext)))) 60)
  (mRet (mC (.bool true))))))
/-- _is_node -/
def d__is_node (F_is_tuple F_is_integer : Fn) : Fn := mDef 2 2 fun b =>
  (mSeq (mIfS (mOr (mNot (mTru (mCall 3 F_is_tuple (mAV 1 (mA1 (mC (.int 1)) (mA1 (mOp fAdd (mC (.int 2)) (mC (.int 1))) mA0)))))) (mNot (mTru (mCall 3 F_is_integer (mA1 (mIxV 1 (mC (.int 0))) (mA1 (mC (.int 0)) (mA1 (mOp fSub (mLen (mQVar 0)) (mC (.int 1))) mA0))))))) (mRet (mC (.bool false))) mNext)
  (mRet (mOp fEq (mLen (mQVar 1)) (mOp fAdd (mC (.int 1)) (mIxV 0 (mIxV 1 (mC (.int 0))))))))
/-- size_of -/
def d_size_of (F_size_of : Fn) : Fn := mDef 1 2 fun b =>
  (mRet (mOp fAdd (mC (.int 1)) (mSum (mLc (mQE (mSlT (mVar 0) (mO1 (mC (.int 1))) mO0)) (mgN 1) mYes (mCall 1 F_size_of (mAV 1 mA0)) [1]))))
/-- order_key -/
def d_order_key (F_size_of : Fn) : Fn := mDef 1 1 fun b =>
  (mRet (mTup (mA1 (mCall 1 F_size_of (mAV 0 mA0)) (mA1 (mVar 0) mA0))))
/-- is_arities -/
def d_is_arities (F_is_tuple F_are_integers : Fn) : Fn := mDef 1 1 fun b =>
  (mRet (mAndV (mCall 3 F_is_tuple (mAV 0 (mA1 (mC (.int 1)) (mA1 (mC (.int 4)) mA0)))) (mCall 3 F_are_integers (mAV 0 (mA1 (mC (.int 0)) (mA1 (mC (.int 2)) mA0))))))
/-- is_tree -/
def d_is_tree (F_is_tree_form : Fn) : Fn := mDef 2 2 fun b =>
  (mRet (mCall 3 F_is_tree_form (mAV 0 (mAV 1 (mA1 (mC (.bool false)) mA0)))))
/-- _require_tree -/
def d__require_tree (F_require F_is_arities F_is_tree : Fn) : Fn := mDef 3 3 fun b =>
  (mSeq (mDrop (mCall 2 F_require (mA1 (mCall 1 F_is_arities (mAV 0 mA0)) (mA1 (mC (.str "arities")) mA0))))
  (mDrop (mCall 2 F_require (mA1 (mCall 2 F_is_tree (mAV 0 (mAV 1 mA0))) (mAV 2 mA0)))))
/-- _require_two -/
def d__require_two (F__require_tree F_require F_is_tree : Fn) : Fn := mDef 3 3 fun b =>
  (mSeq (mDrop (mCall 3 F__require_tree (mAV 0 (mAV 1 (mA1 (mC (.str "first")) mA0)))))
  (mDrop (mCall 2 F_require (mA1 (mCall 2 F_is_tree (mAV 0 (mAV 2 mA0))) (mA1 (mC (.str "second")) mA0)))))
/-- is_before -/
def d_is_before (F__require_two F_order_key : Fn) : Fn := mDef 3 3 fun b =>
  (mSeq (mDrop (mCall 3 F__require_two (mAV 0 (mAV 1 (mAV 2 mA0)))))
  (mRet (mOp fLtX (mCall 1 F_order_key (mAV 1 mA0)) (mCall 1 F_order_key (mAV 2 mA0)))))
/-- _law_stream -/
def d__law_stream : Fn := mDef 1 1 fun b =>
  (mRetL (mLst (mA1 (mEN (mList (mQVar 0))) (mA1 (mC (.int 0)) (mA1 (mC (.int 0)) mA0)))))
/-- _law_next -/
def d__law_next : Fn := mDef 2 5 fun b =>
  (mSeq (mIfS (mTB (mOp fEq (mIxV 0 (mC (.int 1))) (mC (.int 0)))) (mSeq (mAsg (mIxV 0 (mC (.int 2))) (mgN 2))
  (mSeq (mAsg (mOp fAdd (mC (.int 7)) (mVar 2)) (mgN 3))
  (mSeq (mIfS (mTB (mOp fLtX (mVar 2) (mLen (mQE (mIxV 0 (mC (.int 0))))))) (mAsg (mB fAbs (mA1 (mOp fIx (mIxV 0 (mC (.int 0))) (mVar 2)) mA0)) (mgN 3)) mNext)
  (mSeq (mIfS (mTB (mOp fLtX (mVar 3) (mOp fPow (mC (.int 10)) (mC (.int 18))))) (mSeq (mAsg (mOp fMod (mB fInt (mA1 (mOp fAdd (mOp fAdd (mOp fMulX (mVar 3) (mC (.int 48271))) (mOp fMulX (mVar 2) (mC (.int 69621)))) (mC (.int 11))) mA0)) (mC (.int 2147483647))) (mgN 3))
  (mAsg (mOp fAdd (mOp fMulX (mOp fMod (mB fInt (mA1 (mOp fAdd (mOp fMulX (mVar 3) (mC (.int 16807))) (mC (.int 13))) mA0)) (mC (.int 2147483647))) (mC (.int 65537))) (mVar 3)) (mgN 3))) mNext)
  (mSeq (mSub 0 (mC (.int 1)) (mVar 3))
  (mSub 0 (mC (.int 2)) (mOp fAdd (mVar 2) (mC (.int 1))))))))) mNext)
  (mSeq (mAsg (mOp fMod (mB fInt (mA1 (mIxV 0 (mC (.int 1))) mA0)) (mVar 1)) (mgN 4))
  (mSeq (mSub 0 (mC (.int 1)) (mOp fDiv (mIxV 0 (mC (.int 1))) (mVar 1)))
  (mRet (mVar 4)))))
/-- _law_is_integer -/
def d__law_is_integer : Fn := mDef 1 1 fun b =>
  (mRet (mAndV (mIsi "int" (mVar 0)) (mNotV (mIsi "bool" (mVar 0)))))
/-- _law_equal -/
def d__law_equal (F__law_is_integer F__law_equal : Fn) : Fn := mDef 2 3 fun b =>
  (mSeq (mIfS (mTB (mOp fIs (mVar 1) (mC .none))) (mRet (mOp fIs (mVar 0) (mC .none))) mNext)
  (mSeq (mIfS (mTru (mIsi "bool" (mVar 1))) (mRet (mAndV (mIsi "bool" (mVar 0)) (mOp fEq (mVar 0) (mVar 1)))) mNext)
  (mSeq (mIfS (mTru (mIsi "int" (mVar 1))) (mRet (mAndV (mCall 1 F__law_is_integer (mAV 0 mA0)) (mOp fEq (mVar 0) (mVar 1)))) mNext)
  (mSeq (mIfS (mTru (mIsi "str" (mVar 1))) (mRet (mAndV (mIsi "str" (mVar 0)) (mOp fEq (mVar 0) (mVar 1)))) mNext)
  (mSeq (mIfS (mAnd (mTru (mIsi "tuple" (mVar 1))) (mNot (mTru (mIsi "tuple" (mVar 0))))) (mRet (mC (.bool false))) mNext)
  (mSeq (mIfS (mAnd (mTru (mIsi "list" (mVar 1))) (mNot (mTru (mIsi "list" (mVar 0))))) (mRet (mC (.bool false))) mNext)
  (mSeq (mIfS (mTB (mOp fNe (mLen (mQVar 0)) (mLen (mQVar 1)))) (mRet (mC (.bool false))) mNext)
  (mRet (mAll (mLc (mR1 (mLen (mQVar 1))) (mgN 2) mYes (mCall 2 F__law_equal (mA1 (mIxV 0 (mVar 2)) (mA1 (mIxV 1 (mVar 2)) mA0))) [2]))))))))))
/-- _law_pick -/
def d__law_pick (F__law_next : Fn) : Fn := mDef 2 2 fun b =>
  (mRet (mIxV 1 (mCall 2 F__law_next (mAV 0 (mA1 (mLen (mQVar 1)) mA0)))))
/-- _law_arities -/
def d__law_arities (F__law_pick : Fn) : Fn := mDef 1 1 fun b =>
  (mRet (mCall 2 F__law_pick (mAV 0 (mA1 (mEN (mLst (mA1 (mTup (mA1 (mC (.int 0)) (mA1 (mC (.int 0)) (mA1 (mC (.int 2)) mA0)))) (mA1 (mTup (mA1 (mC (.int 0)) (mA1 (mC (.int 2)) mA0))) (mA1 (mTup (mA1 (mC (.int 0)) (mA1 (mC (.int 1)) (mA1 (mC (.int 2)) mA0)))) (mA1 (mTup (mA1 (mC (.int 0)) (mA1 (mC (.int 0)) (mA1 (mC (.int 1)) mA0)))) (mA1 (mTup (mA1 (mC (.int 2)) (mA1 (mC (.int 0)) (mA1 (mC (.int 1)) (mA1 (mC (.int 0)) mA0))))) (mA1 (mTup (mA1 (mC (.int 0)) (mA1 (mC (.int 0)) (mA1 (mC (.int 1)) (mA1 (mC (.int 2)) mA0))))) (mA1 (mTup (mA1 (mC (.int 1)) (mA1 (mC (.int 0)) mA0))) (mA1 (mTup (mA1 (mC (.int 0)) mA0)) (mA1 (mTup (mA1 (mC (.int 1)) (mA1 (mC (.int 1)) (mA1 (mC (.int 0)) (mA1 (mC (.int 2)) mA0))))) mA0))))))))))) mA0))))
/-- _law_tree -/
def d__law_tree (F__law_next F__law_pick F__law_tree : Fn) : Fn := mDef 3 7 fun b =>
  (mSeq (mAsg (mEN (mLc (mR1 (mLen (mQVar 1))) (mgN 4) (mTB (mOp fEq (mIxV 1 (mVar 4)) (mC (.int 0)))) (mVar 4) [4])) (mgN 3))
  (mSeq (mAsg (mEN (mLc (mR1 (mLen (mQVar 1))) (mgN 4) (mTB (mChain fLtX fLtX (mC (.int 0)) (mIxV 1 (mVar 4)) (mVar 2))) (mVar 4) [4])) (mgN 5))
  (mSeq (mIfS (mOr (mNot (mTru (mVar 5))) (mTB (mOp fEq (mCall 2 F__law_next (mAV 0 (mA1 (mC (.int 5)) mA0))) (mC (.int 0))))) (mRet (mTup (mA1 (mCall 2 F__law_pick (mAV 0 (mAV 3 mA0))) mA0))) mNext)
  (mSeq (mAsg (mCall 2 F__law_pick (mAV 0 (mAV 5 mA0))) (mgN 4))
  (mSeq (mIfS (mTB (mOp fEq (mIxV 1 (mVar 4)) (mC (.int 1)))) (mRet (mTup (mA1 (mVar 4) (mA1 (mCall 3 F__law_tree (mAV 0 (mAV 1 (mA1 (mOp fSub (mVar 2) (mC (.int 1))) mA0)))) mA0)))) mNext)
  (mSeq (mAsg (mOp fAdd (mC (.int 1)) (mCall 2 F__law_next (mAV 0 (mA1 (mOp fSub (mVar 2) (mC (.int 2))) mA0)))) (mgN 6))
  (mRet (mTup (mA1 (mVar 4) (mA1 (mCall 3 F__law_tree (mAV 0 (mAV 1 (mAV 6 mA0)))) (mA1 (mCall 3 F__law_tree (mAV 0 (mAV 1 (mA1 (mOp fSub (mOp fSub (mVar 2) (mC (.int 1))) (mVar 6)) mA0)))) mA0)))))))))))
/-- _law_size -/
def d__law_size (F__law_size : Fn) : Fn := mDef 1 2 fun b =>
  (mRet (mOp fAdd (mC (.int 1)) (mSum (mLc (mQE (mSlT (mVar 0) (mO1 (mC (.int 1))) mO0)) (mgN 1) mYes (mCall 1 F__law_size (mAV 1 mA0)) [1]))))
/-- _law_spots -/
def d__law_spots (F__law_spots : Fn) : Fn := mDef 1 5 fun b =>
  (mSeq (mNew 1 (mLst (mA1 (mTup (mA1 (mTup mA0) (mA1 (mVar 0) mA0))) mA0)))
  (mSeq (mFor (mR1 (mOp fSub (mLen (mQVar 0)) (mC (.int 1)))) (mgN 2) (mDrop (mExtN 1 (mLc (mQE (mEN (mCallN 1 F__law_spots (mA1 (mIxV 0 (mOp fAdd (mVar 2) (mC (.int 1)))) mA0)))) (mgT 2 (mg1 (mgN 3) (mg1 (mgN 4) mg0))) mYes (mTup (mA1 (mOp fAdd (mTup (mA1 (mVar 2) mA0)) (mVar 3)) (mA1 (mVar 4) mA0))) [3, 4]))))
  (mRetV b 1)))
/-- _law_order -/
def d__law_order (F__law_spots F__law_size : Fn) : Fn := mDef 1 3 fun b =>
  (mRet (mTup (mA1 (mCall 1 F__law_size (mAV 0 mA0)) (mA1 (mTuple (mLc (mQE (mEN (mCallN 1 F__law_spots (mAV 0 mA0)))) (mgT 2 (mg1 (mgN 1) (mg1 (mgN 2) mg0))) mYes (mIxV 2 (mC (.int 0))) [1, 2])) mA0))))
/-- _law_all -/
def d__law_all : Fn := mDef 2 9 fun b =>
  (mSeq (mNew 2 (mLst (mA1 (mEN (mLst mA0)) mA0)))
  (mSeq (mFor (mR2 (mC (.int 1)) (mOp fAdd (mVar 1) (mC (.int 1)))) (mgN 3) (mSeq (mNew 4 (mLst mA0))
  (mSeq (mFor (mR1 (mLen (mQVar 0))) (mgN 5) (mSeq (mIfS (mAnd (mTB (mOp fEq (mIxV 0 (mVar 5)) (mC (.int 0)))) (mTB (mOp fEq (mVar 3) (mC (.int 1))))) (mDrop (mApp 4 (mTup (mA1 (mVar 5) mA0)))) mNext)
  (mSeq (mIfS (mAnd (mTB (mOp fEq (mIxV 0 (mVar 5)) (mC (.int 1)))) (mTB (mOp fGtX (mVar 3) (mC (.int 1))))) (mDrop (mExtN 4 (mLc (mQE (mIxV 2 (mOp fSub (mVar 3) (mC (.int 1))))) (mgN 6) mYes (mTup (mA1 (mVar 5) (mA1 (mVar 6) mA0))) [6]))) mNext)
  (mIfS (mTB (mOp fEq (mIxV 0 (mVar 5)) (mC (.int 2)))) (mFor (mR2 (mC (.int 1)) (mOp fSub (mVar 3) (mC (.int 1)))) (mgN 7) (mFor (mQE (mIxV 2 (mVar 7))) (mgN 6) (mDrop (mExtN 4 (mLc (mQE (mIxV 2 (mOp fSub (mOp fSub (mVar 3) (mC (.int 1))) (mVar 7)))) (mgN 8) mYes (mTup (mA1 (mVar 5) (mA1 (mVar 6) (mA1 (mVar 8) mA0)))) [8]))))) mNext))))
  (mFz 4 (mDrop (mApp 2 (mVar 4)))))))
  (mRetV b 2)))
/-- law -/
def d_law (F__law_stream F__law_arities F__law_all F__law_pick F__law_tree F__law_equal F__law_order F_is_before F_is_tree : Fn) : Fn := mDef 1 10 fun b =>
  (mSeq (mNew 1 (mCallN 1 F__law_stream (mAV 0 mA0)))
  (mSeq (mAsg (mCall 1 F__law_arities (mAV 1 mA0)) (mgN 2))
  (mSeq (mNew 3 (mLst mA0))
  (mSeq (mFor (mQE (mEN (mCallN 2 F__law_all (mAV 2 (mA1 (mC (.int 5)) mA0))))) (mgN 4) (mDrop (mExtD 3 (mVar 4))))
  (mSeq (mNew 3 (mSlV 3 mO0 (mO1 (mC (.int 300)))))
  (mSeq (mFor (mR1 (mC (.int 12))) (mgN 5) (mSeq (mAsg (mIf (mTB (mOp fLtX (mVar 5) (mC (.int 8)))) (mCall 2 F__law_pick (mAV 1 (mAV 3 mA0))) (mCall 3 F__law_tree (mAV 1 (mAV 2 (mA1 (mC (.int 15)) mA0))))) (mgN 6))
  (mSeq (mAsg (mIf (mTB (mOp fLtX (mVar 5) (mC (.int 6)))) (mCall 2 F__law_pick (mAV 1 (mAV 3 mA0))) (mCall 3 F__law_tree (mAV 1 (mAV 2 (mA1 (mC (.int 9)) mA0))))) (mgN 7))
  (mSeq (mIfS (mNot (mTru (mCall 2 F__law_equal (mA1 (mEN (mLst (mA1 (mCall 3 F_is_before (mAV 2 (mAV 6 (mAV 7 mA0)))) (mA1 (mCall 3 F_is_before (mAV 2 (mAV 6 (mAV 6 mA0)))) mA0)))) (mA1 (mEN (mLst (mA1 (mOp fLtX (mCall 1 F__law_order (mAV 6 mA0)) (mCall 1 F__law_order (mAV 7 mA0))) (mA1 (mC (.bool false)) mA0)))) mA0))))) (mRet (mC (.bool false))) mNext)
  (mIfS (mTB (mOp fNe (mCall 3 F_is_before (mAV 2 (mAV 7 (mAV 6 mA0)))) (mAndV (mOp fNe (mVar 6) (mVar 7)) (mNotV (mOp fLtX (mCall 1 F__law_order (mAV 6 mA0)) (mCall 1 F__law_order (mAV 7 mA0))))))) (mRet (mC (.bool false))) mNext)))))
  (mSeq (mAsg (mCall 3 F__law_tree (mAV 1 (mAV 2 (mA1 (mC (.int 3)) mA0)))) (mgN 8))
  (mRet (mAndV (mAll (mLcV 3 (mgN 9) mYes (mCall 2 F_is_tree (mAV 2 (mAV 9 mA0))) [9])) (mInQ (fun b => b) (mVar 8) (mQVar 3)))))))))))
structure Fs where
  require : Fn
  is_integer : Fn
  is_tuple : Fn
  are_integers : Fn
  is_tree_form : Fn
  _is_node : Fn
  size_of : Fn
  order_key : Fn
  is_arities : Fn
  is_tree : Fn
  _require_tree : Fn
  _require_two : Fn
  is_before : Fn
  _law_stream : Fn
  _law_next : Fn
  _law_is_integer : Fn
  _law_equal : Fn
  _law_pick : Fn
  _law_arities : Fn
  _law_tree : Fn
  _law_size : Fn
  _law_spots : Fn
  _law_order : Fn
  _law_all : Fn
  law : Fn
def Fs.bot : Fs where
  require := fun _ _ => none
  is_integer := fun _ _ => none
  is_tuple := fun _ _ => none
  are_integers := fun _ _ => none
  is_tree_form := fun _ _ => none
  _is_node := fun _ _ => none
  size_of := fun _ _ => none
  order_key := fun _ _ => none
  is_arities := fun _ _ => none
  is_tree := fun _ _ => none
  _require_tree := fun _ _ => none
  _require_two := fun _ _ => none
  is_before := fun _ _ => none
  _law_stream := fun _ _ => none
  _law_next := fun _ _ => none
  _law_is_integer := fun _ _ => none
  _law_equal := fun _ _ => none
  _law_pick := fun _ _ => none
  _law_arities := fun _ _ => none
  _law_tree := fun _ _ => none
  _law_size := fun _ _ => none
  _law_spots := fun _ _ => none
  _law_order := fun _ _ => none
  _law_all := fun _ _ => none
  law := fun _ _ => none
def Fs.step (F : Fs) : Fs where
  require := d_require
  is_integer := d_is_integer
  is_tuple := d_is_tuple
  are_integers := d_are_integers F.is_integer
  is_tree_form := d_is_tree_form F._is_node
  _is_node := d__is_node F.is_tuple F.is_integer
  size_of := d_size_of F.size_of
  order_key := d_order_key F.size_of
  is_arities := d_is_arities F.is_tuple F.are_integers
  is_tree := d_is_tree F.is_tree_form
  _require_tree := d__require_tree F.require F.is_arities F.is_tree
  _require_two := d__require_two F._require_tree F.require F.is_tree
  is_before := d_is_before F._require_two F.order_key
  _law_stream := d__law_stream
  _law_next := d__law_next
  _law_is_integer := d__law_is_integer
  _law_equal := d__law_equal F._law_is_integer F._law_equal
  _law_pick := d__law_pick F._law_next
  _law_arities := d__law_arities F._law_pick
  _law_tree := d__law_tree F._law_next F._law_pick F._law_tree
  _law_size := d__law_size F._law_size
  _law_spots := d__law_spots F._law_spots
  _law_order := d__law_order F._law_spots F._law_size
  _law_all := d__law_all
  law := d_law F._law_stream F._law_arities F._law_all F._law_pick F._law_tree F._law_equal F._law_order F.is_before F.is_tree
def lev : Nat → Fs
  | 0 => Fs.bot
  | n + 1 => (lev n).step
end G
set_option Elab.async false
set_option linter.all false
set_option autoImplicit false
set_option maxRecDepth 100000
set_option maxHeartbeats 4000000
namespace G
open PySem L2
def topS (i : Nat) : Stmt := PySem.Challenge.pw_rootfirst_k03_whole_order_of_trees.main.body.getD i (.Pass ⟨0, 0, 0, 0⟩)
abbrev s_require : Stmt := topS 7
abbrev N_require : List Str := ["holds", "name"]
theorem sc_require : FnScope N_require ["holds", "name"] (defScope s_require) := ⟨rfl, rfl, rfl, by decide +kernel, rfl, by decide +kernel, by decide +kernel⟩
abbrev s_is_integer : Stmt := topS 8
abbrev N_is_integer : List Str := ["value", "least", "most"]
theorem sc_is_integer : FnScope N_is_integer ["value", "least", "most"] (defScope s_is_integer) := ⟨rfl, rfl, rfl, by decide +kernel, rfl, by decide +kernel, by decide +kernel⟩
abbrev s_is_tuple : Stmt := topS 9
abbrev N_is_tuple : List Str := ["value", "least", "most"]
theorem sc_is_tuple : FnScope N_is_tuple ["value", "least", "most"] (defScope s_is_tuple) := ⟨rfl, rfl, rfl, by decide +kernel, rfl, by decide +kernel, by decide +kernel⟩
abbrev s_are_integers : Stmt := topS 10
abbrev N_are_integers : List Str := ["values", "least", "most", "value"]
theorem sc_are_integers : FnScope N_are_integers ["values", "least", "most"] (defScope s_are_integers) := ⟨rfl, rfl, rfl, by decide +kernel, rfl, by decide +kernel, by decide +kernel⟩
abbrev s_is_tree_form : Stmt := topS 11
abbrev N_is_tree_form : List Str := ["arities", "value", "with_holes", "waiting", "nodes", "node"]
theorem sc_is_tree_form : FnScope N_is_tree_form ["arities", "value", "with_holes"] (defScope s_is_tree_form) := ⟨rfl, rfl, rfl, by decide +kernel, rfl, by decide +kernel, by decide +kernel⟩
abbrev s__is_node : Stmt := topS 12
abbrev N__is_node : List Str := ["arities", "value"]
theorem sc__is_node : FnScope N__is_node ["arities", "value"] (defScope s__is_node) := ⟨rfl, rfl, rfl, by decide +kernel, rfl, by decide +kernel, by decide +kernel⟩
abbrev s_size_of : Stmt := topS 14
abbrev N_size_of : List Str := ["tree", "child"]
theorem sc_size_of : FnScope N_size_of ["tree"] (defScope s_size_of) := ⟨rfl, rfl, rfl, by decide +kernel, rfl, by decide +kernel, by decide +kernel⟩
abbrev s_order_key : Stmt := topS 15
abbrev N_order_key : List Str := ["tree"]
theorem sc_order_key : FnScope N_order_key ["tree"] (defScope s_order_key) := ⟨rfl, rfl, rfl, by decide +kernel, rfl, by decide +kernel, by decide +kernel⟩
abbrev s_is_arities : Stmt := topS 17
abbrev N_is_arities : List Str := ["value"]
theorem sc_is_arities : FnScope N_is_arities ["value"] (defScope s_is_arities) := ⟨rfl, rfl, rfl, by decide +kernel, rfl, by decide +kernel, by decide +kernel⟩
abbrev s_is_tree : Stmt := topS 18
abbrev N_is_tree : List Str := ["arities", "value"]
theorem sc_is_tree : FnScope N_is_tree ["arities", "value"] (defScope s_is_tree) := ⟨rfl, rfl, rfl, by decide +kernel, rfl, by decide +kernel, by decide +kernel⟩
abbrev s__require_tree : Stmt := topS 19
abbrev N__require_tree : List Str := ["arities", "tree", "name"]
theorem sc__require_tree : FnScope N__require_tree ["arities", "tree", "name"] (defScope s__require_tree) := ⟨rfl, rfl, rfl, by decide +kernel, rfl, by decide +kernel, by decide +kernel⟩
abbrev s__require_two : Stmt := topS 20
abbrev N__require_two : List Str := ["arities", "first", "second"]
theorem sc__require_two : FnScope N__require_two ["arities", "first", "second"] (defScope s__require_two) := ⟨rfl, rfl, rfl, by decide +kernel, rfl, by decide +kernel, by decide +kernel⟩
abbrev s_is_before : Stmt := topS 21
abbrev N_is_before : List Str := ["arities", "first", "second"]
theorem sc_is_before : FnScope N_is_before ["arities", "first", "second"] (defScope s_is_before) := ⟨rfl, rfl, rfl, by decide +kernel, rfl, by decide +kernel, by decide +kernel⟩
abbrev s__law_stream : Stmt := topS 23
abbrev N__law_stream : List Str := ["script"]
theorem sc__law_stream : FnScope N__law_stream ["script"] (defScope s__law_stream) := ⟨rfl, rfl, rfl, by decide +kernel, rfl, by decide +kernel, by decide +kernel⟩
abbrev s__law_next : Stmt := topS 24
abbrev N__law_next : List Str := ["stream", "many", "k", "cell", "digit"]
theorem sc__law_next : FnScope N__law_next ["stream", "many"] (defScope s__law_next) := ⟨rfl, rfl, rfl, by decide +kernel, rfl, by decide +kernel, by decide +kernel⟩
abbrev s__law_is_integer : Stmt := topS 25
abbrev N__law_is_integer : List Str := ["actual"]
theorem sc__law_is_integer : FnScope N__law_is_integer ["actual"] (defScope s__law_is_integer) := ⟨rfl, rfl, rfl, by decide +kernel, rfl, by decide +kernel, by decide +kernel⟩
abbrev s__law_equal : Stmt := topS 26
abbrev N__law_equal : List Str := ["actual", "due", "at"]
theorem sc__law_equal : FnScope N__law_equal ["actual", "due"] (defScope s__law_equal) := ⟨rfl, rfl, rfl, by decide +kernel, rfl, by decide +kernel, by decide +kernel⟩
abbrev s__law_pick : Stmt := topS 27
abbrev N__law_pick : List Str := ["stream", "rows"]
theorem sc__law_pick : FnScope N__law_pick ["stream", "rows"] (defScope s__law_pick) := ⟨rfl, rfl, rfl, by decide +kernel, rfl, by decide +kernel, by decide +kernel⟩
abbrev s__law_arities : Stmt := topS 28
abbrev N__law_arities : List Str := ["stream"]
theorem sc__law_arities : FnScope N__law_arities ["stream"] (defScope s__law_arities) := ⟨rfl, rfl, rfl, by decide +kernel, rfl, by decide +kernel, by decide +kernel⟩
abbrev s__law_tree : Stmt := topS 29
abbrev N__law_tree : List Str := ["stream", "arities", "nodes", "leaves", "symbol", "inner", "left"]
theorem sc__law_tree : FnScope N__law_tree ["stream", "arities", "nodes"] (defScope s__law_tree) := ⟨rfl, rfl, rfl, by decide +kernel, rfl, by decide +kernel, by decide +kernel⟩
abbrev s__law_size : Stmt := topS 30
abbrev N__law_size : List Str := ["tree", "child"]
theorem sc__law_size : FnScope N__law_size ["tree"] (defScope s__law_size) := ⟨rfl, rfl, rfl, by decide +kernel, rfl, by decide +kernel, by decide +kernel⟩
abbrev s__law_spots : Stmt := topS 31
abbrev N__law_spots : List Str := ["tree", "found", "k", "place", "below"]
theorem sc__law_spots : FnScope N__law_spots ["tree"] (defScope s__law_spots) := ⟨rfl, rfl, rfl, by decide +kernel, rfl, by decide +kernel, by decide +kernel⟩
abbrev s__law_order : Stmt := topS 32
abbrev N__law_order : List Str := ["tree", "place", "below"]
theorem sc__law_order : FnScope N__law_order ["tree"] (defScope s__law_order) := ⟨rfl, rfl, rfl, by decide +kernel, rfl, by decide +kernel, by decide +kernel⟩
abbrev s__law_all : Stmt := topS 33
abbrev N__law_all : List Str := ["arities", "most", "rows", "size", "found", "symbol", "child", "left", "other"]
theorem sc__law_all : FnScope N__law_all ["arities", "most"] (defScope s__law_all) := ⟨rfl, rfl, rfl, by decide +kernel, rfl, by decide +kernel, by decide +kernel⟩
abbrev s_law : Stmt := topS 34
abbrev N_law : List Str := ["script", "stream", "arities", "rows", "row", "turn", "first", "second", "small", "tree"]
theorem sc_law : FnScope N_law ["script"] (defScope s_law) := ⟨rfl, rfl, rfl, by decide +kernel, rfl, by decide +kernel, by decide +kernel⟩
section
variable {T : ET} {P : Program} {w : World} {K : PySem.W.Frag} {mg : Str → Option Value} {base : Heap} {k : Nat} {B : Addr}
theorem ok_require {f : Addr} {fd : FuncData} (F : Fun K "require" "require" s_require f fd)
    
    : FnOk P w K mg base (L2.CX P w) (k + 3) f fd ["holds", "name"] (spD K T 2 (d_require)) := 
  def_d F sc_require rfl rfl fun cdv A outer s H E2 b hr =>
    (d_st (d_if (d_not (d_tv (d_var 0))) (d_st d_raise) d_nil))
theorem ok_is_integer {f : Addr} {fd : FuncData} (F : Fun K "is_integer" "is_integer" s_is_integer f fd)
    (z_isinstance : mg "isinstance" = none)
    (z_int : mg "int" = none)
    (z_bool : mg "bool" = none)
    : FnOk P w K mg base (L2.CX P w) (k + 3) f fd ["value", "least", "most"] (spD K T 3 (d_is_integer)) := 
  def_d F sc_is_integer rfl rfl fun cdv A outer s H E2 b hr =>
    (d_st (d_ret (d_andV (d_isi (by decide +kernel) (fun _ => z_isinstance) (fun _ => z_int) (d_var 0)) (d_andV (d_notV (d_isi (by decide +kernel) (fun _ => z_isinstance) (fun _ => z_bool) (d_var 0))) (d_one (d_chain k_leX k_leX (d_var 1) (d_var 0) (d_var 2)))))))
theorem ok_is_tuple {f : Addr} {fd : FuncData} (F : Fun K "is_tuple" "is_tuple" s_is_tuple f fd)
    (z_isinstance : mg "isinstance" = none)
    (z_tuple : mg "tuple" = none)
    (z_len : mg "len" = none)
    : FnOk P w K mg base (L2.CX P w) (k + 3) f fd ["value", "least", "most"] (spD K T 3 (d_is_tuple)) := 
  def_d F sc_is_tuple rfl rfl fun cdv A outer s H E2 b hr =>
    (d_st (d_ret (d_andV (d_isi (by decide +kernel) (fun _ => z_isinstance) (fun _ => z_tuple) (d_var 0)) (d_one (d_chain k_leX k_leX (d_var 1) (d_len (fun _ => z_len) (d_qvar 0)) (d_var 2))))))
theorem ok_are_integers {f : Addr} {fd : FuncData} (F : Fun K "are_integers" "are_integers" s_are_integers f fd)
    {a_is_integer : Addr} {fd_is_integer : FuncData} {F_is_integer : Fn} (h_is_integer : FnOk P w K mg base (L2.CX P w) (k + 2) a_is_integer fd_is_integer ["value", "least", "most"] (spD K T 3 F_is_integer)) (g_is_integer : mg "is_integer" = some (.ref a_is_integer)) (k_is_integer : PySem.W.keepIn K (.ref a_is_integer) = true) (b_is_integer : Binds K fd_is_integer ["value", "least", "most"] [])
    (z_all : mg "all" = none)
    : FnOk P w K mg base (L2.CX P w) (k + 3) f fd ["values", "least", "most"] (spD K T 3 (d_are_integers F_is_integer)) := 
  def_d F sc_are_integers rfl rfl fun cdv A outer s H E2 b hr =>
    (d_st (d_ret (d_all (fun _ => z_all) (d_ln (d_lc (own := [("value", 3)]) (d_i (d_var 0)) (fun _ => blkOk_by (N := N_are_integers) (sc := defScope s_are_integers) (by decide +kernel)) (fun _ => pg_name (i := 3) sc_are_integers.nd rfl (by first | exact .inl rfl | exact .inr rfl)) (img_n 3) (gown_n (by decide)) d_ts0 (d_call (fun _ => h_is_integer) (fun _ => g_is_integer) k_is_integer b_is_integer (d_av 3 (d_av 1 (d_av 2 d_a0)))))))))
theorem ok_is_tree_form {f : Addr} {fd : FuncData} (F : Fun K "is_tree_form" "is_tree_form" s_is_tree_form f fd)
    {a__is_node : Addr} {fd__is_node : FuncData} {F__is_node : Fn} (h__is_node : FnOk P w K mg base (L2.CX P w) (k + 2) a__is_node fd__is_node ["arities", "value"] (spD K T 2 F__is_node)) (g__is_node : mg "_is_node" = some (.ref a__is_node)) (k__is_node : PySem.W.keepIn K (.ref a__is_node) = true) (b__is_node : Binds K fd__is_node ["arities", "value"] [])
    {t_MOST_NODES : Tok} (c_MOST_NODES : mg "MOST_NODES" = some (.int 15 t_MOST_NODES))
    : FnOk P w K mg base (L2.CX P w) (k + 3) f fd ["arities", "value", "with_holes"] (spD K T 3 (d_is_tree_form F__is_node)) := 
  def_d F sc_is_tree_form rfl rfl fun cdv A outer s H E2 b hr =>
    (d_cons (d_new 3 (d_lst (d_a1 (d_var 1) d_a0)))
    (d_cons (d_set 4 d_int)
    (d_cons (d_while 60 (d_tq (d_qvar 3)) (d_cons (d_set 5 (d_pop 3))
    (d_cons (d_augA 4 d_int)
    (d_cons (d_if (d_cmpT k_gtX (d_var 4) (d_glob (fun _ => c_MOST_NODES))) (d_st (d_ret d_bl)) d_nil)
    (d_st (d_if (d_w (d_or (d_cmpT k_isnot (d_var 5) d_non) (d_or1 (d_not (d_tv (d_var 2)))))) (d_cons (d_if (d_not (d_tv (d_call (fun _ => h__is_node) (fun _ => g__is_node) k__is_node b__is_node (d_av 0 (d_av 5 d_a0))))) (d_st (d_ret d_bl)) d_nil)
    (d_st (d_expr (d_extD 3 (d_slT (d_var 5) (d_o1 d_int) d_o0))))) d_nil))))))
    (d_st (d_ret d_bl)))))
theorem ok__is_node {f : Addr} {fd : FuncData} (F : Fun K "_is_node" "_is_node" s__is_node f fd)
    {a_is_tuple : Addr} {fd_is_tuple : FuncData} {F_is_tuple : Fn} (h_is_tuple : FnOk P w K mg base (L2.CX P w) (k + 2) a_is_tuple fd_is_tuple ["value", "least", "most"] (spD K T 3 F_is_tuple)) (g_is_tuple : mg "is_tuple" = some (.ref a_is_tuple)) (k_is_tuple : PySem.W.keepIn K (.ref a_is_tuple) = true) (b_is_tuple : Binds K fd_is_tuple ["value", "least", "most"] [])
    {a_is_integer : Addr} {fd_is_integer : FuncData} {F_is_integer : Fn} (h_is_integer : FnOk P w K mg base (L2.CX P w) (k + 2) a_is_integer fd_is_integer ["value", "least", "most"] (spD K T 3 F_is_integer)) (g_is_integer : mg "is_integer" = some (.ref a_is_integer)) (k_is_integer : PySem.W.keepIn K (.ref a_is_integer) = true) (b_is_integer : Binds K fd_is_integer ["value", "least", "most"] [])
    (z_len : mg "len" = none)
    {t_MOST_CHILDREN : Tok} (c_MOST_CHILDREN : mg "MOST_CHILDREN" = some (.int 2 t_MOST_CHILDREN))
    : FnOk P w K mg base (L2.CX P w) (k + 3) f fd ["arities", "value"] (spD K T 2 (d__is_node F_is_tuple F_is_integer)) := 
  def_d F sc__is_node rfl rfl fun cdv A outer s H E2 b hr =>
    (d_cons (d_if (d_w (d_or (d_not (d_tv (d_call (fun _ => h_is_tuple) (fun _ => g_is_tuple) k_is_tuple b_is_tuple (d_av 1 (d_a1 d_int (d_a1 (d_add (d_glob (fun _ => c_MOST_CHILDREN)) d_int) d_a0)))))) (d_or1 (d_not (d_tv (d_call (fun _ => h_is_integer) (fun _ => g_is_integer) k_is_integer b_is_integer (d_a1 (d_ixV 1 d_int) (d_a1 d_int (d_a1 (d_sub (d_len (fun _ => z_len) (d_qvar 0)) d_int) d_a0))))))))) (d_st (d_ret d_bl)) d_nil)
    (d_st (d_ret (d_cmp k_eq (d_len (fun _ => z_len) (d_qvar 1)) (d_add d_int (d_ixV 0 (d_ixV 1 d_int)))))))
theorem ok_size_of {f : Addr} {fd : FuncData} (F : Fun K "size_of" "size_of" s_size_of f fd)
    {a_size_of : Addr} {fd_size_of : FuncData} {F_size_of : Fn} (h_size_of : FnOk P w K mg base (L2.CX P w) (k + 2) a_size_of fd_size_of ["tree"] (spD K T 1 F_size_of)) (g_size_of : mg "size_of" = some (.ref a_size_of)) (k_size_of : PySem.W.keepIn K (.ref a_size_of) = true) (b_size_of : Binds K fd_size_of ["tree"] [])
    (z_sum : mg "sum" = none)
    : FnOk P w K mg base (L2.CX P w) (k + 3) f fd ["tree"] (spD K T 1 (d_size_of F_size_of)) := 
  def_d F sc_size_of rfl rfl fun cdv A outer s H E2 b hr =>
    (d_st (d_ret (d_add d_int (d_sum (fun _ => z_sum) (d_ln (d_lc (own := [("child", 1)]) (d_i (d_slT (d_var 0) (d_o1 d_int) d_o0)) (fun _ => blkOk_by (N := N_size_of) (sc := defScope s_size_of) (by decide +kernel)) (fun _ => pg_name (i := 1) sc_size_of.nd rfl (by first | exact .inl rfl | exact .inr rfl)) (img_n 1) (gown_n (by decide)) d_ts0 (d_call (fun _ => h_size_of) (fun _ => g_size_of) k_size_of b_size_of (d_av 1 d_a0))))))))
theorem ok_order_key {f : Addr} {fd : FuncData} (F : Fun K "order_key" "order_key" s_order_key f fd)
    {a_size_of : Addr} {fd_size_of : FuncData} {F_size_of : Fn} (h_size_of : FnOk P w K mg base (L2.CX P w) (k + 2) a_size_of fd_size_of ["tree"] (spD K T 1 F_size_of)) (g_size_of : mg "size_of" = some (.ref a_size_of)) (k_size_of : PySem.W.keepIn K (.ref a_size_of) = true) (b_size_of : Binds K fd_size_of ["tree"] [])
    : FnOk P w K mg base (L2.CX P w) (k + 3) f fd ["tree"] (spD K T 1 (d_order_key F_size_of)) := 
  def_d F sc_order_key rfl rfl fun cdv A outer s H E2 b hr =>
    (d_st (d_ret (d_tup (d_a1 (d_call (fun _ => h_size_of) (fun _ => g_size_of) k_size_of b_size_of (d_av 0 d_a0)) (d_a1 (d_var 0) d_a0)))))
theorem ok_is_arities {f : Addr} {fd : FuncData} (F : Fun K "is_arities" "is_arities" s_is_arities f fd)
    {a_is_tuple : Addr} {fd_is_tuple : FuncData} {F_is_tuple : Fn} (h_is_tuple : FnOk P w K mg base (L2.CX P w) (k + 2) a_is_tuple fd_is_tuple ["value", "least", "most"] (spD K T 3 F_is_tuple)) (g_is_tuple : mg "is_tuple" = some (.ref a_is_tuple)) (k_is_tuple : PySem.W.keepIn K (.ref a_is_tuple) = true) (b_is_tuple : Binds K fd_is_tuple ["value", "least", "most"] [])
    {a_are_integers : Addr} {fd_are_integers : FuncData} {F_are_integers : Fn} (h_are_integers : FnOk P w K mg base (L2.CX P w) (k + 2) a_are_integers fd_are_integers ["values", "least", "most"] (spD K T 3 F_are_integers)) (g_are_integers : mg "are_integers" = some (.ref a_are_integers)) (k_are_integers : PySem.W.keepIn K (.ref a_are_integers) = true) (b_are_integers : Binds K fd_are_integers ["values", "least", "most"] [])
    {t_MOST_SYMBOLS : Tok} (c_MOST_SYMBOLS : mg "MOST_SYMBOLS" = some (.int 4 t_MOST_SYMBOLS))
    {t_MOST_CHILDREN : Tok} (c_MOST_CHILDREN : mg "MOST_CHILDREN" = some (.int 2 t_MOST_CHILDREN))
    : FnOk P w K mg base (L2.CX P w) (k + 3) f fd ["value"] (spD K T 1 (d_is_arities F_is_tuple F_are_integers)) := 
  def_d F sc_is_arities rfl rfl fun cdv A outer s H E2 b hr =>
    (d_st (d_ret (d_andV (d_call (fun _ => h_is_tuple) (fun _ => g_is_tuple) k_is_tuple b_is_tuple (d_av 0 (d_a1 d_int (d_a1 (d_glob (fun _ => c_MOST_SYMBOLS)) d_a0)))) (d_one (d_call (fun _ => h_are_integers) (fun _ => g_are_integers) k_are_integers b_are_integers (d_av 0 (d_a1 d_int (d_a1 (d_glob (fun _ => c_MOST_CHILDREN)) d_a0))))))))
theorem ok_is_tree {f : Addr} {fd : FuncData} (F : Fun K "is_tree" "is_tree" s_is_tree f fd)
    {a_is_tree_form : Addr} {fd_is_tree_form : FuncData} {F_is_tree_form : Fn} (h_is_tree_form : FnOk P w K mg base (L2.CX P w) (k + 2) a_is_tree_form fd_is_tree_form ["arities", "value", "with_holes"] (spD K T 3 F_is_tree_form)) (g_is_tree_form : mg "is_tree_form" = some (.ref a_is_tree_form)) (k_is_tree_form : PySem.W.keepIn K (.ref a_is_tree_form) = true) (b_is_tree_form : Binds K fd_is_tree_form ["arities", "value", "with_holes"] [])
    : FnOk P w K mg base (L2.CX P w) (k + 3) f fd ["arities", "value"] (spD K T 2 (d_is_tree F_is_tree_form)) := 
  def_d F sc_is_tree rfl rfl fun cdv A outer s H E2 b hr =>
    (d_st (d_ret (d_call (fun _ => h_is_tree_form) (fun _ => g_is_tree_form) k_is_tree_form b_is_tree_form (d_av 0 (d_av 1 (d_a1 d_bl d_a0))))))
theorem ok__require_tree {f : Addr} {fd : FuncData} (F : Fun K "_require_tree" "_require_tree" s__require_tree f fd)
    {a_require : Addr} {fd_require : FuncData} {F_require : Fn} (h_require : FnOk P w K mg base (L2.CX P w) (k + 2) a_require fd_require ["holds", "name"] (spD K T 2 F_require)) (g_require : mg "require" = some (.ref a_require)) (k_require : PySem.W.keepIn K (.ref a_require) = true) (b_require : Binds K fd_require ["holds", "name"] [])
    {a_is_arities : Addr} {fd_is_arities : FuncData} {F_is_arities : Fn} (h_is_arities : FnOk P w K mg base (L2.CX P w) (k + 2) a_is_arities fd_is_arities ["value"] (spD K T 1 F_is_arities)) (g_is_arities : mg "is_arities" = some (.ref a_is_arities)) (k_is_arities : PySem.W.keepIn K (.ref a_is_arities) = true) (b_is_arities : Binds K fd_is_arities ["value"] [])
    {a_is_tree : Addr} {fd_is_tree : FuncData} {F_is_tree : Fn} (h_is_tree : FnOk P w K mg base (L2.CX P w) (k + 2) a_is_tree fd_is_tree ["arities", "value"] (spD K T 2 F_is_tree)) (g_is_tree : mg "is_tree" = some (.ref a_is_tree)) (k_is_tree : PySem.W.keepIn K (.ref a_is_tree) = true) (b_is_tree : Binds K fd_is_tree ["arities", "value"] [])
    : FnOk P w K mg base (L2.CX P w) (k + 3) f fd ["arities", "tree", "name"] (spD K T 3 (d__require_tree F_require F_is_arities F_is_tree)) := 
  def_d F sc__require_tree rfl rfl fun cdv A outer s H E2 b hr =>
    (d_cons (d_expr (d_call (fun _ => h_require) (fun _ => g_require) k_require b_require (d_a1 (d_call (fun _ => h_is_arities) (fun _ => g_is_arities) k_is_arities b_is_arities (d_av 0 d_a0)) (d_a1 d_str d_a0))))
    (d_st (d_expr (d_call (fun _ => h_require) (fun _ => g_require) k_require b_require (d_a1 (d_call (fun _ => h_is_tree) (fun _ => g_is_tree) k_is_tree b_is_tree (d_av 0 (d_av 1 d_a0))) (d_av 2 d_a0))))))
theorem ok__require_two {f : Addr} {fd : FuncData} (F : Fun K "_require_two" "_require_two" s__require_two f fd)
    {a__require_tree : Addr} {fd__require_tree : FuncData} {F__require_tree : Fn} (h__require_tree : FnOk P w K mg base (L2.CX P w) (k + 2) a__require_tree fd__require_tree ["arities", "tree", "name"] (spD K T 3 F__require_tree)) (g__require_tree : mg "_require_tree" = some (.ref a__require_tree)) (k__require_tree : PySem.W.keepIn K (.ref a__require_tree) = true) (b__require_tree : Binds K fd__require_tree ["arities", "tree", "name"] [])
    {a_require : Addr} {fd_require : FuncData} {F_require : Fn} (h_require : FnOk P w K mg base (L2.CX P w) (k + 2) a_require fd_require ["holds", "name"] (spD K T 2 F_require)) (g_require : mg "require" = some (.ref a_require)) (k_require : PySem.W.keepIn K (.ref a_require) = true) (b_require : Binds K fd_require ["holds", "name"] [])
    {a_is_tree : Addr} {fd_is_tree : FuncData} {F_is_tree : Fn} (h_is_tree : FnOk P w K mg base (L2.CX P w) (k + 2) a_is_tree fd_is_tree ["arities", "value"] (spD K T 2 F_is_tree)) (g_is_tree : mg "is_tree" = some (.ref a_is_tree)) (k_is_tree : PySem.W.keepIn K (.ref a_is_tree) = true) (b_is_tree : Binds K fd_is_tree ["arities", "value"] [])
    : FnOk P w K mg base (L2.CX P w) (k + 3) f fd ["arities", "first", "second"] (spD K T 3 (d__require_two F__require_tree F_require F_is_tree)) := 
  def_d F sc__require_two rfl rfl fun cdv A outer s H E2 b hr =>
    (d_cons (d_expr (d_call (fun _ => h__require_tree) (fun _ => g__require_tree) k__require_tree b__require_tree (d_av 0 (d_av 1 (d_a1 d_str d_a0)))))
    (d_st (d_expr (d_call (fun _ => h_require) (fun _ => g_require) k_require b_require (d_a1 (d_call (fun _ => h_is_tree) (fun _ => g_is_tree) k_is_tree b_is_tree (d_av 0 (d_av 2 d_a0))) (d_a1 d_str d_a0))))))
theorem ok_is_before {f : Addr} {fd : FuncData} (F : Fun K "is_before" "is_before" s_is_before f fd)
    {a__require_two : Addr} {fd__require_two : FuncData} {F__require_two : Fn} (h__require_two : FnOk P w K mg base (L2.CX P w) (k + 2) a__require_two fd__require_two ["arities", "first", "second"] (spD K T 3 F__require_two)) (g__require_two : mg "_require_two" = some (.ref a__require_two)) (k__require_two : PySem.W.keepIn K (.ref a__require_two) = true) (b__require_two : Binds K fd__require_two ["arities", "first", "second"] [])
    {a_order_key : Addr} {fd_order_key : FuncData} {F_order_key : Fn} (h_order_key : FnOk P w K mg base (L2.CX P w) (k + 2) a_order_key fd_order_key ["tree"] (spD K T 1 F_order_key)) (g_order_key : mg "order_key" = some (.ref a_order_key)) (k_order_key : PySem.W.keepIn K (.ref a_order_key) = true) (b_order_key : Binds K fd_order_key ["tree"] [])
    : FnOk P w K mg base (L2.CX P w) (k + 3) f fd ["arities", "first", "second"] (spD K T 3 (d_is_before F__require_two F_order_key)) := 
  def_d F sc_is_before rfl rfl fun cdv A outer s H E2 b hr =>
    (d_cons (d_expr (d_call (fun _ => h__require_two) (fun _ => g__require_two) k__require_two b__require_two (d_av 0 (d_av 1 (d_av 2 d_a0)))))
    (d_st (d_ret (d_cmp k_ltX (d_call (fun _ => h_order_key) (fun _ => g_order_key) k_order_key b_order_key (d_av 1 d_a0)) (d_call (fun _ => h_order_key) (fun _ => g_order_key) k_order_key b_order_key (d_av 2 d_a0))))))
theorem ok__law_stream {f : Addr} {fd : FuncData} (F : Fun K "_law_stream" "_law_stream" s__law_stream f fd)
    (z_list : mg "list" = none)
    : FnOk P w K mg base (L2.CX P w) (k + 3) f fd ["script"] (spD K T 1 (d__law_stream)) := 
  def_d F sc__law_stream rfl rfl fun cdv A outer s H E2 b hr =>
    (d_st (d_retL (d_lst (d_a1 (d_en (d_list1 (fun _ => z_list) (d_qvar 0))) (d_a1 d_int (d_a1 d_int d_a0))))))
theorem ok__law_next {f : Addr} {fd : FuncData} (F : Fun K "_law_next" "_law_next" s__law_next f fd)
    (z_len : mg "len" = none)
    (z_abs : mg "abs" = none)
    (z_int : mg "int" = none)
    : FnOk P w K mg base (L2.CX P w) (k + 3) f fd ["stream", "many"] (spD K T 2 (d__law_next)) := 
  def_d F sc__law_next rfl rfl fun cdv A outer s H E2 b hr =>
    (d_cons (d_if (d_cmpT k_eq (d_ixV 0 d_int) d_int) (d_cons (d_set 2 (d_ixV 0 d_int))
    (d_cons (d_set 3 (d_add d_int (d_var 2)))
    (d_cons (d_if (d_cmpT k_ltX (d_var 2) (d_len (fun _ => z_len) (d_qe (d_ixV 0 d_int)))) (d_st (d_set 3 (d_abs (fun _ => z_abs) (d_ix (d_ixV 0 d_int) (d_var 2))))) d_nil)
    (d_cons (d_if (d_cmpT k_ltX (d_var 3) (d_pow d_int d_int)) (d_cons (d_set 3 (d_mod (d_int1 (fun _ => z_int) (d_add (d_add (d_mulX (d_var 3) d_int) (d_mulX (d_var 2) d_int)) d_int)) d_int))
    (d_st (d_set 3 (d_add (d_mulX (d_mod (d_int1 (fun _ => z_int) (d_add (d_mulX (d_var 3) d_int) d_int)) d_int) d_int) (d_var 3))))) d_nil)
    (d_cons (d_put 0 d_int (d_var 3))
    (d_st (d_put 0 d_int (d_add (d_var 2) d_int)))))))) d_nil)
    (d_cons (d_set 4 (d_mod (d_int1 (fun _ => z_int) (d_ixV 0 d_int)) (d_var 1)))
    (d_cons (d_put 0 d_int (d_div (d_ixV 0 d_int) (d_var 1)))
    (d_st (d_ret (d_var 4))))))
theorem ok__law_is_integer {f : Addr} {fd : FuncData} (F : Fun K "_law_is_integer" "_law_is_integer" s__law_is_integer f fd)
    (z_isinstance : mg "isinstance" = none)
    (z_int : mg "int" = none)
    (z_bool : mg "bool" = none)
    : FnOk P w K mg base (L2.CX P w) (k + 3) f fd ["actual"] (spD K T 1 (d__law_is_integer)) := 
  def_d F sc__law_is_integer rfl rfl fun cdv A outer s H E2 b hr =>
    (d_st (d_ret (d_andV (d_isi (by decide +kernel) (fun _ => z_isinstance) (fun _ => z_int) (d_var 0)) (d_one (d_notV (d_isi (by decide +kernel) (fun _ => z_isinstance) (fun _ => z_bool) (d_var 0)))))))
theorem ok__law_equal {f : Addr} {fd : FuncData} (F : Fun K "_law_equal" "_law_equal" s__law_equal f fd)
    {a__law_is_integer : Addr} {fd__law_is_integer : FuncData} {F__law_is_integer : Fn} (h__law_is_integer : FnOk P w K mg base (L2.CX P w) (k + 2) a__law_is_integer fd__law_is_integer ["actual"] (spD K T 1 F__law_is_integer)) (g__law_is_integer : mg "_law_is_integer" = some (.ref a__law_is_integer)) (k__law_is_integer : PySem.W.keepIn K (.ref a__law_is_integer) = true) (b__law_is_integer : Binds K fd__law_is_integer ["actual"] [])
    {a__law_equal : Addr} {fd__law_equal : FuncData} {F__law_equal : Fn} (h__law_equal : FnOk P w K mg base (L2.CX P w) (k + 2) a__law_equal fd__law_equal ["actual", "due"] (spD K T 2 F__law_equal)) (g__law_equal : mg "_law_equal" = some (.ref a__law_equal)) (k__law_equal : PySem.W.keepIn K (.ref a__law_equal) = true) (b__law_equal : Binds K fd__law_equal ["actual", "due"] [])
    (z_isinstance : mg "isinstance" = none)
    (z_bool : mg "bool" = none)
    (z_int : mg "int" = none)
    (z_str : mg "str" = none)
    (z_tuple : mg "tuple" = none)
    (z_list : mg "list" = none)
    (z_len : mg "len" = none)
    (z_all : mg "all" = none)
    (z_range : mg "range" = none)
    : FnOk P w K mg base (L2.CX P w) (k + 3) f fd ["actual", "due"] (spD K T 2 (d__law_equal F__law_is_integer F__law_equal)) := 
  def_d F sc__law_equal rfl rfl fun cdv A outer s H E2 b hr =>
    (d_cons (d_if (d_cmpT k_is (d_var 1) d_non) (d_st (d_ret (d_cmp k_is (d_var 0) d_non))) d_nil)
    (d_cons (d_if (d_tv (d_isi (by decide +kernel) (fun _ => z_isinstance) (fun _ => z_bool) (d_var 1))) (d_st (d_ret (d_andV (d_isi (by decide +kernel) (fun _ => z_isinstance) (fun _ => z_bool) (d_var 0)) (d_one (d_cmp k_eq (d_var 0) (d_var 1)))))) d_nil)
    (d_cons (d_if (d_tv (d_isi (by decide +kernel) (fun _ => z_isinstance) (fun _ => z_int) (d_var 1))) (d_st (d_ret (d_andV (d_call (fun _ => h__law_is_integer) (fun _ => g__law_is_integer) k__law_is_integer b__law_is_integer (d_av 0 d_a0)) (d_one (d_cmp k_eq (d_var 0) (d_var 1)))))) d_nil)
    (d_cons (d_if (d_tv (d_isi (by decide +kernel) (fun _ => z_isinstance) (fun _ => z_str) (d_var 1))) (d_st (d_ret (d_andV (d_isi (by decide +kernel) (fun _ => z_isinstance) (fun _ => z_str) (d_var 0)) (d_one (d_cmp k_eq (d_var 0) (d_var 1)))))) d_nil)
    (d_cons (d_if (d_w (d_and (d_tv (d_isi (by decide +kernel) (fun _ => z_isinstance) (fun _ => z_tuple) (d_var 1))) (d_and1 (d_not (d_tv (d_isi (by decide +kernel) (fun _ => z_isinstance) (fun _ => z_tuple) (d_var 0))))))) (d_st (d_ret d_bl)) d_nil)
    (d_cons (d_if (d_w (d_and (d_tv (d_isi (by decide +kernel) (fun _ => z_isinstance) (fun _ => z_list) (d_var 1))) (d_and1 (d_not (d_tv (d_isi (by decide +kernel) (fun _ => z_isinstance) (fun _ => z_list) (d_var 0))))))) (d_st (d_ret d_bl)) d_nil)
    (d_cons (d_if (d_cmpT k_ne (d_len (fun _ => z_len) (d_qvar 0)) (d_len (fun _ => z_len) (d_qvar 1))) (d_st (d_ret d_bl)) d_nil)
    (d_st (d_ret (d_all (fun _ => z_all) (d_ln (d_lc (own := [("at", 2)]) (d_r1 (fun _ => z_range) (d_len (fun _ => z_len) (d_qvar 1))) (fun _ => blkOk_by (N := N__law_equal) (sc := defScope s__law_equal) (by decide +kernel)) (fun _ => pg_name (i := 2) sc__law_equal.nd rfl (by first | exact .inl rfl | exact .inr rfl)) (img_n 2) (gown_n (by decide)) d_ts0 (d_call (fun _ => h__law_equal) (fun _ => g__law_equal) k__law_equal b__law_equal (d_a1 (d_ixV 0 (d_var 2)) (d_a1 (d_ixV 1 (d_var 2)) d_a0)))))))))))))))
theorem ok__law_pick {f : Addr} {fd : FuncData} (F : Fun K "_law_pick" "_law_pick" s__law_pick f fd)
    {a__law_next : Addr} {fd__law_next : FuncData} {F__law_next : Fn} (h__law_next : FnOk P w K mg base (L2.CX P w) (k + 2) a__law_next fd__law_next ["stream", "many"] (spD K T 2 F__law_next)) (g__law_next : mg "_law_next" = some (.ref a__law_next)) (k__law_next : PySem.W.keepIn K (.ref a__law_next) = true) (b__law_next : Binds K fd__law_next ["stream", "many"] [])
    (z_len : mg "len" = none)
    : FnOk P w K mg base (L2.CX P w) (k + 3) f fd ["stream", "rows"] (spD K T 2 (d__law_pick F__law_next)) := 
  def_d F sc__law_pick rfl rfl fun cdv A outer s H E2 b hr =>
    (d_st (d_ret (d_ixV 1 (d_call (fun _ => h__law_next) (fun _ => g__law_next) k__law_next b__law_next (d_av 0 (d_a1 (d_len (fun _ => z_len) (d_qvar 1)) d_a0))))))
theorem ok__law_arities {f : Addr} {fd : FuncData} (F : Fun K "_law_arities" "_law_arities" s__law_arities f fd)
    {a__law_pick : Addr} {fd__law_pick : FuncData} {F__law_pick : Fn} (h__law_pick : FnOk P w K mg base (L2.CX P w) (k + 2) a__law_pick fd__law_pick ["stream", "rows"] (spD K T 2 F__law_pick)) (g__law_pick : mg "_law_pick" = some (.ref a__law_pick)) (k__law_pick : PySem.W.keepIn K (.ref a__law_pick) = true) (b__law_pick : Binds K fd__law_pick ["stream", "rows"] [])
    : FnOk P w K mg base (L2.CX P w) (k + 3) f fd ["stream"] (spD K T 1 (d__law_arities F__law_pick)) := 
  def_d F sc__law_arities rfl rfl fun cdv A outer s H E2 b hr =>
    (d_st (d_ret (d_call (fun _ => h__law_pick) (fun _ => g__law_pick) k__law_pick b__law_pick (d_av 0 (d_a1 (d_en (d_lst (d_a1 (d_tup (d_a1 d_int (d_a1 d_int (d_a1 d_int d_a0)))) (d_a1 (d_tup (d_a1 d_int (d_a1 d_int d_a0))) (d_a1 (d_tup (d_a1 d_int (d_a1 d_int (d_a1 d_int d_a0)))) (d_a1 (d_tup (d_a1 d_int (d_a1 d_int (d_a1 d_int d_a0)))) (d_a1 (d_tup (d_a1 d_int (d_a1 d_int (d_a1 d_int (d_a1 d_int d_a0))))) (d_a1 (d_tup (d_a1 d_int (d_a1 d_int (d_a1 d_int (d_a1 d_int d_a0))))) (d_a1 (d_tup (d_a1 d_int (d_a1 d_int d_a0))) (d_a1 (d_tup (d_a1 d_int d_a0)) (d_a1 (d_tup (d_a1 d_int (d_a1 d_int (d_a1 d_int (d_a1 d_int d_a0))))) d_a0))))))))))) d_a0)))))
theorem ok__law_tree {f : Addr} {fd : FuncData} (F : Fun K "_law_tree" "_law_tree" s__law_tree f fd)
    {a__law_next : Addr} {fd__law_next : FuncData} {F__law_next : Fn} (h__law_next : FnOk P w K mg base (L2.CX P w) (k + 2) a__law_next fd__law_next ["stream", "many"] (spD K T 2 F__law_next)) (g__law_next : mg "_law_next" = some (.ref a__law_next)) (k__law_next : PySem.W.keepIn K (.ref a__law_next) = true) (b__law_next : Binds K fd__law_next ["stream", "many"] [])
    {a__law_pick : Addr} {fd__law_pick : FuncData} {F__law_pick : Fn} (h__law_pick : FnOk P w K mg base (L2.CX P w) (k + 2) a__law_pick fd__law_pick ["stream", "rows"] (spD K T 2 F__law_pick)) (g__law_pick : mg "_law_pick" = some (.ref a__law_pick)) (k__law_pick : PySem.W.keepIn K (.ref a__law_pick) = true) (b__law_pick : Binds K fd__law_pick ["stream", "rows"] [])
    {a__law_tree : Addr} {fd__law_tree : FuncData} {F__law_tree : Fn} (h__law_tree : FnOk P w K mg base (L2.CX P w) (k + 2) a__law_tree fd__law_tree ["stream", "arities", "nodes"] (spD K T 3 F__law_tree)) (g__law_tree : mg "_law_tree" = some (.ref a__law_tree)) (k__law_tree : PySem.W.keepIn K (.ref a__law_tree) = true) (b__law_tree : Binds K fd__law_tree ["stream", "arities", "nodes"] [])
    (z_range : mg "range" = none)
    (z_len : mg "len" = none)
    : FnOk P w K mg base (L2.CX P w) (k + 3) f fd ["stream", "arities", "nodes"] (spD K T 3 (d__law_tree F__law_next F__law_pick F__law_tree)) := 
  def_d F sc__law_tree rfl rfl fun cdv A outer s H E2 b hr =>
    (d_cons (d_lcS (d_lcP 3 (own := [("symbol", 4)]) (d_r1 (fun _ => z_range) (d_len (fun _ => z_len) (d_qvar 1))) (fun _ => blkOk_by (N := N__law_tree) (sc := defScope s__law_tree) (by decide +kernel)) (fun _ => pg_name (i := 4) sc__law_tree.nd rfl (by first | exact .inl rfl | exact .inr rfl)) (img_n 4) (gown_n (by decide)) (d_ts1 (d_cmpT k_eq (d_ixV 1 (d_var 4)) d_int)) (d_var 4) (fun _ => sw_true rfl rfl rfl (by decide +kernel))))
    (d_cons (d_lcS (d_lcP 5 (own := [("symbol", 4)]) (d_r1 (fun _ => z_range) (d_len (fun _ => z_len) (d_qvar 1))) (fun _ => blkOk_by (N := N__law_tree) (sc := defScope s__law_tree) (by decide +kernel)) (fun _ => pg_name (i := 4) sc__law_tree.nd rfl (by first | exact .inl rfl | exact .inr rfl)) (img_n 4) (gown_n (by decide)) (d_ts1 (d_chainT k_ltX k_ltX d_int (d_ixV 1 (d_var 4)) (d_var 2))) (d_var 4) (fun _ => sw_true rfl rfl rfl (by decide +kernel))))
    (d_cons (d_if (d_w (d_or (d_not (d_tv (d_var 5))) (d_or1 (d_cmpT k_eq (d_call (fun _ => h__law_next) (fun _ => g__law_next) k__law_next b__law_next (d_av 0 (d_a1 d_int d_a0))) d_int)))) (d_st (d_ret (d_tup (d_a1 (d_call (fun _ => h__law_pick) (fun _ => g__law_pick) k__law_pick b__law_pick (d_av 0 (d_av 3 d_a0))) d_a0)))) d_nil)
    (d_cons (d_set 4 (d_call (fun _ => h__law_pick) (fun _ => g__law_pick) k__law_pick b__law_pick (d_av 0 (d_av 5 d_a0))))
    (d_cons (d_if (d_cmpT k_eq (d_ixV 1 (d_var 4)) d_int) (d_st (d_ret (d_tup (d_a1 (d_var 4) (d_a1 (d_call (fun _ => h__law_tree) (fun _ => g__law_tree) k__law_tree b__law_tree (d_av 0 (d_av 1 (d_a1 (d_sub (d_var 2) d_int) d_a0)))) d_a0))))) d_nil)
    (d_cons (d_set 6 (d_add d_int (d_call (fun _ => h__law_next) (fun _ => g__law_next) k__law_next b__law_next (d_av 0 (d_a1 (d_sub (d_var 2) d_int) d_a0)))))
    (d_st (d_ret (d_tup (d_a1 (d_var 4) (d_a1 (d_call (fun _ => h__law_tree) (fun _ => g__law_tree) k__law_tree b__law_tree (d_av 0 (d_av 1 (d_av 6 d_a0)))) (d_a1 (d_call (fun _ => h__law_tree) (fun _ => g__law_tree) k__law_tree b__law_tree (d_av 0 (d_av 1 (d_a1 (d_sub (d_sub (d_var 2) d_int) (d_var 6)) d_a0)))) d_a0))))))))))))
theorem ok__law_size {f : Addr} {fd : FuncData} (F : Fun K "_law_size" "_law_size" s__law_size f fd)
    {a__law_size : Addr} {fd__law_size : FuncData} {F__law_size : Fn} (h__law_size : FnOk P w K mg base (L2.CX P w) (k + 2) a__law_size fd__law_size ["tree"] (spD K T 1 F__law_size)) (g__law_size : mg "_law_size" = some (.ref a__law_size)) (k__law_size : PySem.W.keepIn K (.ref a__law_size) = true) (b__law_size : Binds K fd__law_size ["tree"] [])
    (z_sum : mg "sum" = none)
    : FnOk P w K mg base (L2.CX P w) (k + 3) f fd ["tree"] (spD K T 1 (d__law_size F__law_size)) := 
  def_d F sc__law_size rfl rfl fun cdv A outer s H E2 b hr =>
    (d_st (d_ret (d_add d_int (d_sum (fun _ => z_sum) (d_ln (d_lc (own := [("child", 1)]) (d_i (d_slT (d_var 0) (d_o1 d_int) d_o0)) (fun _ => blkOk_by (N := N__law_size) (sc := defScope s__law_size) (by decide +kernel)) (fun _ => pg_name (i := 1) sc__law_size.nd rfl (by first | exact .inl rfl | exact .inr rfl)) (img_n 1) (gown_n (by decide)) d_ts0 (d_call (fun _ => h__law_size) (fun _ => g__law_size) k__law_size b__law_size (d_av 1 d_a0))))))))
theorem ok__law_spots {f : Addr} {fd : FuncData} (F : Fun K "_law_spots" "_law_spots" s__law_spots f fd)
    {a__law_spots : Addr} {fd__law_spots : FuncData} {F__law_spots : Fn} (h__law_spots : FnOk P w K mg base (L2.CX P w) (k + 2) a__law_spots fd__law_spots ["tree"] (spD K T 1 F__law_spots)) (g__law_spots : mg "_law_spots" = some (.ref a__law_spots)) (k__law_spots : PySem.W.keepIn K (.ref a__law_spots) = true) (b__law_spots : Binds K fd__law_spots ["tree"] [])
    (z_range : mg "range" = none)
    (z_len : mg "len" = none)
    : FnOk P w K mg base (L2.CX P w) (k + 3) f fd ["tree"] (spD K T 1 (d__law_spots F__law_spots)) := 
  def_d F sc__law_spots rfl rfl fun cdv A outer s H E2 b hr =>
    (d_cons (d_new 1 (d_lst (d_a1 (d_tup (d_a1 (d_tup d_a0) (d_a1 (d_var 0) d_a0))) d_a0)))
    (d_cons (d_for (d_r1 (fun _ => z_range) (d_sub (d_len (fun _ => z_len) (d_qvar 0)) d_int)) (d_gn 2) (d_st (d_expr (d_ext 1 (d_lc (own := [("place", 3), ("below", 4)]) (d_i (d_en (d_callN (fun _ => h__law_spots) (fun _ => g__law_spots) k__law_spots b__law_spots (d_a1 (d_ixV 0 (d_add (d_var 2) d_int)) d_a0)))) (fun _ => blkOk_by (N := N__law_spots) (sc := defScope s__law_spots) (by decide +kernel)) (fun _ => pg_tup rfl (pgs_cons (pg_name (i := 3) sc__law_spots.nd rfl (by first | exact .inl rfl | exact .inr rfl)) (pgs_cons (pg_name (i := 4) sc__law_spots.nd rfl (by first | exact .inl rfl | exact .inr rfl)) pgs_nil))) (img_t (img_1 (img_n 3) (img_1 (img_n 4) img_0))) (gown_t (gown_1 (by decide) (gown_1 (by decide) gown_0))) d_ts0 (d_tup (d_a1 (d_add (d_tup (d_a1 (d_var 2) d_a0)) (d_var 3)) (d_a1 (d_var 4) d_a0))))))))
    (d_st (d_retV 1))))
theorem ok__law_order {f : Addr} {fd : FuncData} (F : Fun K "_law_order" "_law_order" s__law_order f fd)
    {a__law_spots : Addr} {fd__law_spots : FuncData} {F__law_spots : Fn} (h__law_spots : FnOk P w K mg base (L2.CX P w) (k + 2) a__law_spots fd__law_spots ["tree"] (spD K T 1 F__law_spots)) (g__law_spots : mg "_law_spots" = some (.ref a__law_spots)) (k__law_spots : PySem.W.keepIn K (.ref a__law_spots) = true) (b__law_spots : Binds K fd__law_spots ["tree"] [])
    {a__law_size : Addr} {fd__law_size : FuncData} {F__law_size : Fn} (h__law_size : FnOk P w K mg base (L2.CX P w) (k + 2) a__law_size fd__law_size ["tree"] (spD K T 1 F__law_size)) (g__law_size : mg "_law_size" = some (.ref a__law_size)) (k__law_size : PySem.W.keepIn K (.ref a__law_size) = true) (b__law_size : Binds K fd__law_size ["tree"] [])
    (z_tuple : mg "tuple" = none)
    : FnOk P w K mg base (L2.CX P w) (k + 3) f fd ["tree"] (spD K T 1 (d__law_order F__law_spots F__law_size)) := 
  def_d F sc__law_order rfl rfl fun cdv A outer s H E2 b hr =>
    (d_st (d_ret (d_tup (d_a1 (d_call (fun _ => h__law_size) (fun _ => g__law_size) k__law_size b__law_size (d_av 0 d_a0)) (d_a1 (d_tuple1 (fun _ => z_tuple) (d_qn (d_lc (own := [("place", 1), ("below", 2)]) (d_i (d_en (d_callN (fun _ => h__law_spots) (fun _ => g__law_spots) k__law_spots b__law_spots (d_av 0 d_a0)))) (fun _ => blkOk_by (N := N__law_order) (sc := defScope s__law_order) (by decide +kernel)) (fun _ => pg_tup rfl (pgs_cons (pg_name (i := 1) sc__law_order.nd rfl (by first | exact .inl rfl | exact .inr rfl)) (pgs_cons (pg_name (i := 2) sc__law_order.nd rfl (by first | exact .inl rfl | exact .inr rfl)) pgs_nil))) (img_t (img_1 (img_n 1) (img_1 (img_n 2) img_0))) (gown_t (gown_1 (by decide) (gown_1 (by decide) gown_0))) d_ts0 (d_ixV 2 d_int)))) d_a0)))))
theorem ok__law_all {f : Addr} {fd : FuncData} (F : Fun K "_law_all" "_law_all" s__law_all f fd)
    (z_range : mg "range" = none)
    (z_len : mg "len" = none)
    : FnOk P w K mg base (L2.CX P w) (k + 3) f fd ["arities", "most"] (spD K T 2 (d__law_all)) := 
  def_d F sc__law_all rfl rfl fun cdv A outer s H E2 b hr =>
    (d_cons (d_new 2 (d_lst (d_a1 (d_en (d_lst d_a0)) d_a0)))
    (d_cons (d_for (d_r2 (fun _ => z_range) d_int (d_add (d_var 1) d_int)) (d_gn 3) (d_cons (d_new 4 (d_lst d_a0))
    (d_cons (d_for (d_r1 (fun _ => z_range) (d_len (fun _ => z_len) (d_qvar 0))) (d_gn 5) (d_cons (d_if (d_w (d_and (d_cmpT k_eq (d_ixV 0 (d_var 5)) d_int) (d_and1 (d_cmpT k_eq (d_var 3) d_int)))) (d_st (d_expr (d_app 4 (d_tup (d_a1 (d_var 5) d_a0))))) d_nil)
    (d_cons (d_if (d_w (d_and (d_cmpT k_eq (d_ixV 0 (d_var 5)) d_int) (d_and1 (d_cmpT k_gtX (d_var 3) d_int)))) (d_st (d_expr (d_ext 4 (d_lc (own := [("child", 6)]) (d_i (d_ixV 2 (d_sub (d_var 3) d_int))) (fun _ => blkOk_by (N := N__law_all) (sc := defScope s__law_all) (by decide +kernel)) (fun _ => pg_name (i := 6) sc__law_all.nd rfl (by first | exact .inl rfl | exact .inr rfl)) (img_n 6) (gown_n (by decide)) d_ts0 (d_tup (d_a1 (d_var 5) (d_a1 (d_var 6) d_a0))))))) d_nil)
    (d_st (d_if (d_cmpT k_eq (d_ixV 0 (d_var 5)) d_int) (d_st (d_for (d_r2 (fun _ => z_range) d_int (d_sub (d_var 3) d_int)) (d_gn 7) (d_st (d_for (d_i (d_ixV 2 (d_var 7))) (d_gn 6) (d_st (d_expr (d_ext 4 (d_lc (own := [("other", 8)]) (d_i (d_ixV 2 (d_sub (d_sub (d_var 3) d_int) (d_var 7)))) (fun _ => blkOk_by (N := N__law_all) (sc := defScope s__law_all) (by decide +kernel)) (fun _ => pg_name (i := 8) sc__law_all.nd rfl (by first | exact .inl rfl | exact .inr rfl)) (img_n 8) (gown_n (by decide)) d_ts0 (d_tup (d_a1 (d_var 5) (d_a1 (d_var 6) (d_a1 (d_var 8) d_a0)))))))))))) d_nil)))))
    (d_st (d_fz 4 (d_expr (d_app 2 (d_var 4))))))))
    (d_st (d_retV 2))))
theorem ok_law {f : Addr} {fd : FuncData} (F : Fun K "law" "law" s_law f fd)
    {a__law_stream : Addr} {fd__law_stream : FuncData} {F__law_stream : Fn} (h__law_stream : FnOk P w K mg base (L2.CX P w) (k + 2) a__law_stream fd__law_stream ["script"] (spD K T 1 F__law_stream)) (g__law_stream : mg "_law_stream" = some (.ref a__law_stream)) (k__law_stream : PySem.W.keepIn K (.ref a__law_stream) = true) (b__law_stream : Binds K fd__law_stream ["script"] [])
    {a__law_arities : Addr} {fd__law_arities : FuncData} {F__law_arities : Fn} (h__law_arities : FnOk P w K mg base (L2.CX P w) (k + 2) a__law_arities fd__law_arities ["stream"] (spD K T 1 F__law_arities)) (g__law_arities : mg "_law_arities" = some (.ref a__law_arities)) (k__law_arities : PySem.W.keepIn K (.ref a__law_arities) = true) (b__law_arities : Binds K fd__law_arities ["stream"] [])
    {a__law_all : Addr} {fd__law_all : FuncData} {F__law_all : Fn} (h__law_all : FnOk P w K mg base (L2.CX P w) (k + 2) a__law_all fd__law_all ["arities", "most"] (spD K T 2 F__law_all)) (g__law_all : mg "_law_all" = some (.ref a__law_all)) (k__law_all : PySem.W.keepIn K (.ref a__law_all) = true) (b__law_all : Binds K fd__law_all ["arities", "most"] [])
    {a__law_pick : Addr} {fd__law_pick : FuncData} {F__law_pick : Fn} (h__law_pick : FnOk P w K mg base (L2.CX P w) (k + 2) a__law_pick fd__law_pick ["stream", "rows"] (spD K T 2 F__law_pick)) (g__law_pick : mg "_law_pick" = some (.ref a__law_pick)) (k__law_pick : PySem.W.keepIn K (.ref a__law_pick) = true) (b__law_pick : Binds K fd__law_pick ["stream", "rows"] [])
    {a__law_tree : Addr} {fd__law_tree : FuncData} {F__law_tree : Fn} (h__law_tree : FnOk P w K mg base (L2.CX P w) (k + 2) a__law_tree fd__law_tree ["stream", "arities", "nodes"] (spD K T 3 F__law_tree)) (g__law_tree : mg "_law_tree" = some (.ref a__law_tree)) (k__law_tree : PySem.W.keepIn K (.ref a__law_tree) = true) (b__law_tree : Binds K fd__law_tree ["stream", "arities", "nodes"] [])
    {a__law_equal : Addr} {fd__law_equal : FuncData} {F__law_equal : Fn} (h__law_equal : FnOk P w K mg base (L2.CX P w) (k + 2) a__law_equal fd__law_equal ["actual", "due"] (spD K T 2 F__law_equal)) (g__law_equal : mg "_law_equal" = some (.ref a__law_equal)) (k__law_equal : PySem.W.keepIn K (.ref a__law_equal) = true) (b__law_equal : Binds K fd__law_equal ["actual", "due"] [])
    {a__law_order : Addr} {fd__law_order : FuncData} {F__law_order : Fn} (h__law_order : FnOk P w K mg base (L2.CX P w) (k + 2) a__law_order fd__law_order ["tree"] (spD K T 1 F__law_order)) (g__law_order : mg "_law_order" = some (.ref a__law_order)) (k__law_order : PySem.W.keepIn K (.ref a__law_order) = true) (b__law_order : Binds K fd__law_order ["tree"] [])
    {a_is_before : Addr} {fd_is_before : FuncData} {F_is_before : Fn} (h_is_before : FnOk P w K mg base (L2.CX P w) (k + 2) a_is_before fd_is_before ["arities", "first", "second"] (spD K T 3 F_is_before)) (g_is_before : mg "is_before" = some (.ref a_is_before)) (k_is_before : PySem.W.keepIn K (.ref a_is_before) = true) (b_is_before : Binds K fd_is_before ["arities", "first", "second"] [])
    {a_is_tree : Addr} {fd_is_tree : FuncData} {F_is_tree : Fn} (h_is_tree : FnOk P w K mg base (L2.CX P w) (k + 2) a_is_tree fd_is_tree ["arities", "value"] (spD K T 2 F_is_tree)) (g_is_tree : mg "is_tree" = some (.ref a_is_tree)) (k_is_tree : PySem.W.keepIn K (.ref a_is_tree) = true) (b_is_tree : Binds K fd_is_tree ["arities", "value"] [])
    (z_range : mg "range" = none)
    (z_all : mg "all" = none)
    : FnOk P w K mg base (L2.CX P w) (k + 3) f fd ["script"] (spD K T 1 (d_law F__law_stream F__law_arities F__law_all F__law_pick F__law_tree F__law_equal F__law_order F_is_before F_is_tree)) := 
  def_d F sc_law rfl rfl fun cdv A outer s H E2 b hr =>
    (d_cons (d_new 1 (d_callN (fun _ => h__law_stream) (fun _ => g__law_stream) k__law_stream b__law_stream (d_av 0 d_a0)))
    (d_cons (d_set 2 (d_call (fun _ => h__law_arities) (fun _ => g__law_arities) k__law_arities b__law_arities (d_av 1 d_a0)))
    (d_cons (d_new 3 (d_lst d_a0))
    (d_cons (d_for (d_i (d_en (d_callN (fun _ => h__law_all) (fun _ => g__law_all) k__law_all b__law_all (d_av 2 (d_a1 d_int d_a0))))) (d_gn 4) (d_st (d_expr (d_extD 3 (d_var 4)))))
    (d_cons (d_new 3 (d_slV 3 d_o0 (d_o1 d_int)))
    (d_cons (d_for (d_r1 (fun _ => z_range) d_int) (d_gn 5) (d_cons (d_set 6 (d_ifE (d_cmpT k_ltX (d_var 5) d_int) (d_call (fun _ => h__law_pick) (fun _ => g__law_pick) k__law_pick b__law_pick (d_av 1 (d_av 3 d_a0))) (d_call (fun _ => h__law_tree) (fun _ => g__law_tree) k__law_tree b__law_tree (d_av 1 (d_av 2 (d_a1 d_int d_a0))))))
    (d_cons (d_set 7 (d_ifE (d_cmpT k_ltX (d_var 5) d_int) (d_call (fun _ => h__law_pick) (fun _ => g__law_pick) k__law_pick b__law_pick (d_av 1 (d_av 3 d_a0))) (d_call (fun _ => h__law_tree) (fun _ => g__law_tree) k__law_tree b__law_tree (d_av 1 (d_av 2 (d_a1 d_int d_a0))))))
    (d_cons (d_if (d_not (d_tv (d_call (fun _ => h__law_equal) (fun _ => g__law_equal) k__law_equal b__law_equal (d_a1 (d_en (d_lst (d_a1 (d_call (fun _ => h_is_before) (fun _ => g_is_before) k_is_before b_is_before (d_av 2 (d_av 6 (d_av 7 d_a0)))) (d_a1 (d_call (fun _ => h_is_before) (fun _ => g_is_before) k_is_before b_is_before (d_av 2 (d_av 6 (d_av 6 d_a0)))) d_a0)))) (d_a1 (d_en (d_lst (d_a1 (d_cmp k_ltX (d_call (fun _ => h__law_order) (fun _ => g__law_order) k__law_order b__law_order (d_av 6 d_a0)) (d_call (fun _ => h__law_order) (fun _ => g__law_order) k__law_order b__law_order (d_av 7 d_a0))) (d_a1 d_bl d_a0)))) d_a0))))) (d_st (d_ret d_bl)) d_nil)
    (d_st (d_if (d_cmpT k_ne (d_call (fun _ => h_is_before) (fun _ => g_is_before) k_is_before b_is_before (d_av 2 (d_av 7 (d_av 6 d_a0)))) (d_andV (d_cmp k_ne (d_var 6) (d_var 7)) (d_one (d_notV (d_cmp k_ltX (d_call (fun _ => h__law_order) (fun _ => g__law_order) k__law_order b__law_order (d_av 6 d_a0)) (d_call (fun _ => h__law_order) (fun _ => g__law_order) k__law_order b__law_order (d_av 7 d_a0))))))) (d_st (d_ret d_bl)) d_nil))))))
    (d_cons (d_set 8 (d_call (fun _ => h__law_tree) (fun _ => g__law_tree) k__law_tree b__law_tree (d_av 1 (d_av 2 (d_a1 d_int d_a0)))))
    (d_st (d_ret (d_andV (d_all (fun _ => z_all) (d_ln (d_lcV 3 (own := [("tree", 9)]) (fun _ => blkOk_by (N := N_law) (sc := defScope s_law) (by decide +kernel)) (fun _ => pg_name (i := 9) sc_law.nd rfl (by first | exact .inl rfl | exact .inr rfl)) (img_n 9) (gown_n (by decide)) d_ts0 (d_call (fun _ => h_is_tree) (fun _ => g_is_tree) k_is_tree b_is_tree (d_av 2 (d_av 9 d_a0)))))) (d_one (d_in (d_var 8) (d_qvar 3)))))))))))))
end
end G
set_option Elab.async false
set_option linter.all false
set_option autoImplicit false
set_option maxRecDepth 100000
set_option maxHeartbeats 4000000
namespace G
open PySem L2
def q_dd {A : Type} (F : D → D → Option A) (vs : List Pk) : Option A := match vs with
  | [.d x0, .d x1] => F x0 x1
  | _ => none
def q_ddd {A : Type} (F : D → D → D → Option A) (vs : List Pk) : Option A := match vs with
  | [.d x0, .d x1, .d x2] => F x0 x1 x2
  | _ => none
def q_d {A : Type} (F : D → Option A) (vs : List Pk) : Option A := match vs with
  | [.d x0] => F x0
  | _ => none
def q_pd {A : Type} (F : List D → D → Option A) (vs : List Pk) : Option A := match vs with
  | [.p x0, .d x1] => F x0 x1
  | _ => none
def q_pq {A : Type} (F : List D → D → Option A) (vs : List Pk) : Option A := match vs with
  | [.p x0, .q x1] => F x0 x1
  | _ => none
def q_p {A : Type} (F : List D → Option A) (vs : List Pk) : Option A := match vs with
  | [.p x0] => F x0
  | _ => none
def q_pdd {A : Type} (F : List D → D → D → Option A) (vs : List Pk) : Option A := match vs with
  | [.p x0, .d x1, .d x2] => F x0 x1 x2
  | _ => none
def p_require (holds1 : D) (name2 : D) : Option (Unit) :=
  ((((some holds1).bind tru).map fun b => !b).bind fun c3 => if c3 then none else (some ()))
theorem fs_require  : FSpec (d_require) (q_dd (p_require)) (fun _ => .val .none) (fun _ => []) := fspec_mk fun S as vs hao hnd a hF => by
  unfold q_dd at hF
  split at hF <;> first | (cases hF; done) | skip
  rename_i holds1 name2
  obtain ⟨_, rfl, _, rfl, rfl⟩ := hao
  refine ⟨rfl, p_require holds1 name2, ?_, hF⟩
  (have hnd : ([] : List Nat).Nodup := hnd; show HS S [] ([some (Pv.d holds1), some (Pv.d name2)] : Env) _ (p_require holds1 name2) (PFn S [] (fun _ => .val .none) (fun _ => [])); unfold p_require; exact (hs_last (hs_if (hp_not (hp_tru (hp_var rfl))) hs_never (hs_skip (hs_fall (fun _ _ t => pf_nx t hnd rfl .nil))))))
theorem c_require : ∀ j, 1 ≤ j → FSpec (lev j).require (q_dd p_require) (fun _ => .val .none) (fun _ => [])
  | 0, h => by omega
  | j + 1, h => show FSpec (d_require) _ _ _ from fs_require
def p_is_integer (value1 : D) (least2 : D) (most3 : D) : Option (D) :=
  ((((some value1).bind (fIsi "int")).bind fun b9 => andO b9 ((((some value1).bind (fIsi "bool")).bind notO).bind fun b8 => andO b8 ((some least2).bind fun v4 => (some value1).bind fun v5 => (fLeX v4 v5).bind fun v6 => andO v6 ((some most3).bind fun v7 => fLeX v5 v7)))).bind fun r10 => some r10)
theorem fs_is_integer  : FSpec (d_is_integer) (q_ddd (p_is_integer)) (fun a => .val a) (fun _ => []) := fspec_mk fun S as vs hao hnd a hF => by
  unfold q_ddd at hF
  split at hF <;> first | (cases hF; done) | skip
  rename_i value1 least2 most3
  obtain ⟨_, rfl, _, rfl, _, rfl, rfl⟩ := hao
  refine ⟨rfl, p_is_integer value1 least2 most3, ?_, hF⟩
  (have hnd : ([] : List Nat).Nodup := hnd; show HS S [] ([some (Pv.d value1), some (Pv.d least2), some (Pv.d most3)] : Env) _ (p_is_integer value1 least2 most3) (PFn S [] (fun a => .val a) (fun _ => [])); unfold p_is_integer; exact (hs_last (s_ret (hp_andv (hp_isi (hp_var rfl)) (hp_andv (hp_notv (hp_isi (hp_var rfl))) (hp_chain (hp_var rfl) (hp_var rfl) (hp_var rfl)))) (fun _ _ r10 t => (pf_rt t hnd rfl .nil)))))
theorem c_is_integer : ∀ j, 1 ≤ j → FSpec (lev j).is_integer (q_ddd p_is_integer) (fun a => .val a) (fun _ => [])
  | 0, h => by omega
  | j + 1, h => show FSpec (d_is_integer) _ _ _ from fs_is_integer
def p_is_tuple (value1 : D) (least2 : D) (most3 : D) : Option (D) :=
  ((((some value1).bind (fIsi "tuple")).bind fun b8 => andO b8 ((some least2).bind fun v4 => ((asQ value1).map lenD).bind fun v5 => (fLeX v4 v5).bind fun v6 => andO v6 ((some most3).bind fun v7 => fLeX v5 v7))).bind fun r9 => some r9)
theorem fs_is_tuple  : FSpec (d_is_tuple) (q_ddd (p_is_tuple)) (fun a => .val a) (fun _ => []) := fspec_mk fun S as vs hao hnd a hF => by
  unfold q_ddd at hF
  split at hF <;> first | (cases hF; done) | skip
  rename_i value1 least2 most3
  obtain ⟨_, rfl, _, rfl, _, rfl, rfl⟩ := hao
  refine ⟨rfl, p_is_tuple value1 least2 most3, ?_, hF⟩
  (have hnd : ([] : List Nat).Nodup := hnd; show HS S [] ([some (Pv.d value1), some (Pv.d least2), some (Pv.d most3)] : Env) _ (p_is_tuple value1 least2 most3) (PFn S [] (fun a => .val a) (fun _ => [])); unfold p_is_tuple; exact (hs_last (s_ret (hp_andv (hp_isi (hp_var rfl)) (hp_chain (hp_var rfl) (hp_len (hp_qvar rfl)) (hp_var rfl))) (fun _ _ r9 t => (pf_rt t hnd rfl .nil)))))
theorem c_is_tuple : ∀ j, 1 ≤ j → FSpec (lev j).is_tuple (q_ddd p_is_tuple) (fun a => .val a) (fun _ => [])
  | 0, h => by omega
  | j + 1, h => show FSpec (d_is_tuple) _ _ _ from fs_is_tuple
def p_are_integers (values1 : D) (least2 : D) (most3 : D) : Option (D) :=
  (((((some values1).bind asQ).bind (lcPz some (fun y4 => (some true)) (fun y4 => (p_is_integer y4 least2 most3)))).bind allD).bind fun r5 => some r5)
theorem fs_are_integers {F_is_integer : Fn} (c_is_integer : FSpec F_is_integer (q_ddd p_is_integer) (fun a => .val a) (fun _ => [])) : FSpec (d_are_integers F_is_integer) (q_ddd (p_are_integers)) (fun a => .val a) (fun _ => []) := fspec_mk fun S as vs hao hnd a hF => by
  unfold q_ddd at hF
  split at hF <;> first | (cases hF; done) | skip
  rename_i values1 least2 most3
  obtain ⟨_, rfl, _, rfl, _, rfl, rfl⟩ := hao
  refine ⟨rfl, p_are_integers values1 least2 most3, ?_, hF⟩
  (have hnd : ([] : List Nat).Nodup := hnd; show HS S [] ([some (Pv.d values1), some (Pv.d least2), some (Pv.d most3), none] : Env) _ (p_are_integers values1 least2 most3) (PFn S [] (fun a => .val a) (fun _ => [])); unfold p_are_integers; exact (hs_last (s_ret (hp_all (hp_lc (hp_qe (hp_var rfl)) hg_n (fun y4 => hp_yes) (fun y4 => (hp_callD (ks := [.d, .d, .d]) c_is_integer rfl rfl (ha_v rfl (ha_v rfl (ha_v rfl ha_0))) rfl)))) (fun _ _ r5 t => (pf_rt t hnd rfl .nil)))))
theorem c_are_integers : ∀ j, 2 ≤ j → FSpec (lev j).are_integers (q_ddd p_are_integers) (fun a => .val a) (fun _ => [])
  | 0, h => by omega
  | j + 1, h => show FSpec (d_are_integers (lev j).is_integer) _ _ _ from fs_are_integers (c_is_integer j (by omega))
def p__is_node (arities1 : D) (value2 : D) : Option (D) :=
  ((((((some (PyData.int 1)).bind fun a3 => ((some (PyData.int 2)).bind fun v4 => (some (PyData.int 1)).bind fun v5 => fAdd v4 v5).bind fun a6 => p_is_tuple value2 a3 a6).bind tru).map fun b => !b).bind fun b12 => if b12 then some true else (((((some (PyData.int 0)).bind (ixO (asQ value2))).bind fun a7 => (some (PyData.int 0)).bind fun a8 => (((asQ arities1).map lenD).bind fun v9 => (some (PyData.int 1)).bind fun v10 => fSub v9 v10).bind fun a11 => p_is_integer a7 a8 a11).bind tru).map fun b => !b)).bind fun c13 => if c13 then ((some (PyData.bool false)).bind fun r14 => some r14) else ((((asQ value2).map lenD).bind fun v17 => ((some (PyData.int 1)).bind fun v15 => (((some (PyData.int 0)).bind (ixO (asQ value2))).bind (ixO (asQ arities1))).bind fun v16 => fAdd v15 v16).bind fun v18 => fEq v17 v18).bind fun r19 => some r19))
theorem fs__is_node {F_is_tuple : Fn} (c_is_tuple : FSpec F_is_tuple (q_ddd p_is_tuple) (fun a => .val a) (fun _ => [])) {F_is_integer : Fn} (c_is_integer : FSpec F_is_integer (q_ddd p_is_integer) (fun a => .val a) (fun _ => [])) : FSpec (d__is_node F_is_tuple F_is_integer) (q_dd (p__is_node)) (fun a => .val a) (fun _ => []) := fspec_mk fun S as vs hao hnd a hF => by
  unfold q_dd at hF
  split at hF <;> first | (cases hF; done) | skip
  rename_i arities1 value2
  obtain ⟨_, rfl, _, rfl, rfl⟩ := hao
  refine ⟨rfl, p__is_node arities1 value2, ?_, hF⟩
  (have hnd : ([] : List Nat).Nodup := hnd; show HS S [] ([some (Pv.d arities1), some (Pv.d value2)] : Env) _ (p__is_node arities1 value2) (PFn S [] (fun a => .val a) (fun _ => [])); unfold p__is_node; exact (hs_last (hs_assoc (hs_if (hp_or (hp_not (hp_tru (hp_callD (ks := [.d, .d, .d]) c_is_tuple rfl rfl (ha_v rfl (ha_1 (hp_c _) (ha_1 (hp_op (hp_c _) (hp_c _)) ha_0))) rfl))) (hp_not (hp_tru (hp_callD (ks := [.d, .d, .d]) c_is_integer rfl rfl (ha_1 (hp_ixv rfl (hp_c _)) (ha_1 (hp_c _) (ha_1 (hp_op (hp_len (hp_qvar rfl)) (hp_c _)) ha_0))) rfl)))) (s_ret (hp_c _) (fun _ _ r14 t => (pf_rt t hnd rfl .nil))) (hs_skip (s_ret (hp_op (hp_len (hp_qvar rfl)) (hp_op (hp_c _) (hp_ixv rfl (hp_ixv rfl (hp_c _))))) (fun _ _ r19 t => (pf_rt t hnd rfl .nil))))))))
theorem c__is_node : ∀ j, 2 ≤ j → FSpec (lev j)._is_node (q_dd p__is_node) (fun a => .val a) (fun _ => [])
  | 0, h => by omega
  | j + 1, h => show FSpec (d__is_node (lev j).is_tuple (lev j).is_integer) _ _ _ from fs__is_node (c_is_tuple j (by omega)) (c_is_integer j (by omega))
def l_is_tree_form_1 (with_holes3 : D) (arities1 : D) (s7 : List D × D) : Option (Step (List D × D) (D)) :=
  (bx ((s7.1[s7.1.length - 1]?).bind fun v8 => some (v8, s7.1.dropLast)) fun node9 s10 => ((some (PyData.int 1)).bind fun v11 => (fI0 (fun i j => .int (i + j)) s7.2 v11).bind fun nodes12 => ((((some nodes12).bind fun v13 => (some (PyData.int 15)).bind fun v14 => fGtX v13 v14).bind asB).bind fun c15 => if c15 then ((some (PyData.bool false)).bind fun r16 => some (Step.rt r16)) else (((((some node9).bind fun v17 => (some PyData.none).bind fun v18 => fIsNot v17 v18).bind asB).bind fun b19 => if b19 then some true else (((some with_holes3).bind tru).map fun b => !b)).bind fun c20 => if c20 then ((((p__is_node arities1 node9).bind tru).map fun b => !b).bind fun c21 => if c21 then ((some (PyData.bool false)).bind fun r22 => some (Step.rt r22)) else (((some node9).bind fun v24 => ((some (PyData.int 1)).bind asI).bind fun l25 => (some none).bind fun h26 => slT v24 l25 h26).bind fun v27 => (extD s10 v27).bind fun ys23 => (some (Step.nx (ys23, nodes12))))) else (some (Step.nx (s10, nodes12)))))))
def l_is_tree_form_1t (s7 : List D × D) : Option Bool :=
  ((some s7.1).map fun xs => !xs.isEmpty)
def p_is_tree_form (arities1 : D) (value2 : D) (with_holes3 : D) : Option (D) :=
  (((some value2).bind fun x4 => mkL [x4]).bind fun waiting5 => ((some (PyData.int 0)).bind fun nodes6 => ((whR (l_is_tree_form_1t) (l_is_tree_form_1 with_holes3 arities1) 60 (waiting5, nodes6)).bind (afterR (fun (s28 : List D × D) => ((some (PyData.bool true)).bind fun r29 => some r29)) (fun r => r)))))
theorem fs_is_tree_form {F__is_node : Fn} (c__is_node : FSpec F__is_node (q_dd p__is_node) (fun a => .val a) (fun _ => [])) : FSpec (d_is_tree_form F__is_node) (q_ddd (p_is_tree_form)) (fun a => .val a) (fun _ => []) := fspec_mk fun S as vs hao hnd a hF => by
  unfold q_ddd at hF
  split at hF <;> first | (cases hF; done) | skip
  rename_i arities1 value2 with_holes3
  obtain ⟨_, rfl, _, rfl, _, rfl, rfl⟩ := hao
  refine ⟨rfl, p_is_tree_form arities1 value2 with_holes3, ?_, hF⟩
  (have hnd : ([] : List Nat).Nodup := hnd; show HS S [] ([some (Pv.d arities1), some (Pv.d value2), some (Pv.d with_holes3), none, none, none] : Env) _ (p_is_tree_form arities1 value2 with_holes3) (PFn S [] (fun a => .val a) (fun _ => [])); unfold p_is_tree_form; exact (hs_last (hs_assoc (hs_new (hp_lst (hd_1 (hp_var rfl) hd_0) rfl) (fun waiting5 => (hs_assoc (hs_asg (hp_c _) (fun nodes6 => (hs_assoc (hs_whileR (ev := fun (s7 : List D × D) => ([some (Pv.d arities1), some (Pv.d value2), some (Pv.d with_holes3), some (Pv.c s7.1), some (Pv.d s7.2), none] : Env)) (.keep (.keep (.keep (.keep (.keep (.keep .nil)))))) (fun s7 => by unfold l_is_tree_form_1t; exact (hp_truq (hp_qvar rfl))) (fun s7 => by unfold l_is_tree_form_1; exact (hs_last (hs_assoc (s_asgX (i := 3) (k := none) (x0 := s7.1) rfl rfl x_pop (fun node9 s10 => (hs_assoc (hs_aug rfl (hp_c _) (fun nodes12 => (hs_assoc (hs_if (hp_tb (hp_op (hp_var rfl) (hp_c _))) (s_ret (hp_c _) (fun _ _ r16 t => (ps_rt (pi_rt (pf_rt t hnd rfl .nil))))) (hs_skip (hs_if (hp_or (hp_tb (hp_op (hp_var rfl) (hp_c _))) (hp_not (hp_tru (hp_var rfl)))) (hs_assoc (hs_if (hp_not (hp_tru (hp_callD (ks := [.d, .d]) c__is_node rfl rfl (ha_v rfl (ha_v rfl ha_0)) rfl))) (s_ret (hp_c _) (fun _ _ r22 t => (ps_rt (pi_rt (pf_rt t hnd rfl .nil))))) (hs_skip (hs_extD (k := none) rfl (hp_slT (hp_var rfl) (hp_o1 (hp_c _)) hp_o0) (fun ys23 => (hs_endS (.keep (.keep (.keep (.keep (.keep (.drop .nil)))))))))))) (hs_skip (hs_endS (.keep (.keep (.keep (.keep (.keep (.drop .nil)))))))))))))))))))) (fun s28 => (s_ret (hp_c _) (fun _ _ r29 t => (pf_rt t hnd rfl .nil))))))))))))))
theorem c_is_tree_form : ∀ j, 3 ≤ j → FSpec (lev j).is_tree_form (q_ddd p_is_tree_form) (fun a => .val a) (fun _ => [])
  | 0, h => by omega
  | j + 1, h => show FSpec (d_is_tree_form (lev j)._is_node) _ _ _ from fs_is_tree_form (c__is_node j (by omega))
def b_size_of (r_self : D → Option (D)) (k : Nat) (tree1 : D) : Option (D) :=
  (((some (PyData.int 1)).bind fun v6 => (((((some tree1).bind fun v3 => ((some (PyData.int 1)).bind asI).bind fun l4 => (some none).bind fun h5 => slT v3 l4 h5).bind asQ).bind (lcPz some (fun y2 => (some true)) (fun y2 => (r_self y2)))).bind sumD).bind fun v7 => fAdd v6 v7).bind fun r8 => some r8)
def p_size_of : Nat → D → Option (D)
  | 0, _ => none
  | k + 1, tree1 => b_size_of (p_size_of k) k tree1
theorem fs_size_of {r_self : D → Option (D)} {k : Nat} {F_size_of : Fn} (c_size_of : FSpec F_size_of (q_d r_self) (fun a => .val a) (fun _ => [])) : FSpec (d_size_of F_size_of) (q_d (b_size_of r_self k)) (fun a => .val a) (fun _ => []) := fspec_mk fun S as vs hao hnd a hF => by
  unfold q_d at hF
  split at hF <;> first | (cases hF; done) | skip
  rename_i tree1
  obtain ⟨_, rfl, rfl⟩ := hao
  refine ⟨rfl, b_size_of r_self k tree1, ?_, hF⟩
  (have hnd : ([] : List Nat).Nodup := hnd; show HS S [] ([some (Pv.d tree1), none] : Env) _ (b_size_of r_self k tree1) (PFn S [] (fun a => .val a) (fun _ => [])); unfold b_size_of; exact (hs_last (s_ret (hp_op (hp_c _) (hp_sum (hp_lc (hp_qe (hp_slT (hp_var rfl) (hp_o1 (hp_c _)) hp_o0)) hg_n (fun y2 => hp_yes) (fun y2 => (hp_callD (ks := [.d]) c_size_of rfl rfl (ha_v rfl ha_0) rfl))))) (fun _ _ r8 t => (pf_rt t hnd rfl .nil)))))
theorem c_size_of : ∀ k j, k + 1 ≤ j → FSpec (lev j).size_of (q_d (p_size_of k)) (fun a => .val a) (fun _ => [])
  | 0, j, h => fspec_none fun vs => by unfold q_d; split <;> rfl
  | k + 1, 0, h => by omega
  | k + 1, j + 1, h => show FSpec (d_size_of (lev j).size_of) (q_d (b_size_of (p_size_of k) k)) _ _ from fs_size_of (c_size_of k j (by omega))
def p_order_key (k : Nat) (tree1 : D) : Option (D) :=
  (((p_size_of k tree1).bind fun x2 => (some tree1).bind fun x3 => mkT [x2, x3]).bind fun r4 => some r4)
theorem fs_order_key {k : Nat} {F_size_of : Fn} (c_size_of : FSpec F_size_of (q_d (p_size_of k)) (fun a => .val a) (fun _ => [])) : FSpec (d_order_key F_size_of) (q_d (p_order_key k)) (fun a => .val a) (fun _ => []) := fspec_mk fun S as vs hao hnd a hF => by
  unfold q_d at hF
  split at hF <;> first | (cases hF; done) | skip
  rename_i tree1
  obtain ⟨_, rfl, rfl⟩ := hao
  refine ⟨rfl, p_order_key k tree1, ?_, hF⟩
  (have hnd : ([] : List Nat).Nodup := hnd; show HS S [] ([some (Pv.d tree1)] : Env) _ (p_order_key k tree1) (PFn S [] (fun a => .val a) (fun _ => [])); unfold p_order_key; exact (hs_last (s_ret (hp_tup (hd_1 (hp_callD (ks := [.d]) c_size_of rfl rfl (ha_v rfl ha_0) rfl) (hd_1 (hp_var rfl) hd_0)) rfl) (fun _ _ r4 t => (pf_rt t hnd rfl .nil)))))
theorem c_order_key : ∀ k j, k + 2 ≤ j → FSpec (lev j).order_key (q_d (p_order_key k)) (fun a => .val a) (fun _ => [])
  | k, 0, h => by omega
  | k, j + 1, h => show FSpec (d_order_key (lev j).size_of) _ _ _ from fs_order_key (c_size_of k j (by omega))
def p_is_arities (value1 : D) : Option (D) :=
  ((((some (PyData.int 1)).bind fun a2 => (some (PyData.int 4)).bind fun a3 => p_is_tuple value1 a2 a3).bind fun b6 => andO b6 ((some (PyData.int 0)).bind fun a4 => (some (PyData.int 2)).bind fun a5 => p_are_integers value1 a4 a5)).bind fun r7 => some r7)
theorem fs_is_arities {F_is_tuple : Fn} (c_is_tuple : FSpec F_is_tuple (q_ddd p_is_tuple) (fun a => .val a) (fun _ => [])) {F_are_integers : Fn} (c_are_integers : FSpec F_are_integers (q_ddd p_are_integers) (fun a => .val a) (fun _ => [])) : FSpec (d_is_arities F_is_tuple F_are_integers) (q_d (p_is_arities)) (fun a => .val a) (fun _ => []) := fspec_mk fun S as vs hao hnd a hF => by
  unfold q_d at hF
  split at hF <;> first | (cases hF; done) | skip
  rename_i value1
  obtain ⟨_, rfl, rfl⟩ := hao
  refine ⟨rfl, p_is_arities value1, ?_, hF⟩
  (have hnd : ([] : List Nat).Nodup := hnd; show HS S [] ([some (Pv.d value1)] : Env) _ (p_is_arities value1) (PFn S [] (fun a => .val a) (fun _ => [])); unfold p_is_arities; exact (hs_last (s_ret (hp_andv (hp_callD (ks := [.d, .d, .d]) c_is_tuple rfl rfl (ha_v rfl (ha_1 (hp_c _) (ha_1 (hp_c _) ha_0))) rfl) (hp_callD (ks := [.d, .d, .d]) c_are_integers rfl rfl (ha_v rfl (ha_1 (hp_c _) (ha_1 (hp_c _) ha_0))) rfl)) (fun _ _ r7 t => (pf_rt t hnd rfl .nil)))))
theorem c_is_arities : ∀ j, 3 ≤ j → FSpec (lev j).is_arities (q_d p_is_arities) (fun a => .val a) (fun _ => [])
  | 0, h => by omega
  | j + 1, h => show FSpec (d_is_arities (lev j).is_tuple (lev j).are_integers) _ _ _ from fs_is_arities (c_is_tuple j (by omega)) (c_are_integers j (by omega))
def p_is_tree (arities1 : D) (value2 : D) : Option (D) :=
  (((some (PyData.bool false)).bind fun a3 => p_is_tree_form arities1 value2 a3).bind fun r4 => some r4)
theorem fs_is_tree {F_is_tree_form : Fn} (c_is_tree_form : FSpec F_is_tree_form (q_ddd p_is_tree_form) (fun a => .val a) (fun _ => [])) : FSpec (d_is_tree F_is_tree_form) (q_dd (p_is_tree)) (fun a => .val a) (fun _ => []) := fspec_mk fun S as vs hao hnd a hF => by
  unfold q_dd at hF
  split at hF <;> first | (cases hF; done) | skip
  rename_i arities1 value2
  obtain ⟨_, rfl, _, rfl, rfl⟩ := hao
  refine ⟨rfl, p_is_tree arities1 value2, ?_, hF⟩
  (have hnd : ([] : List Nat).Nodup := hnd; show HS S [] ([some (Pv.d arities1), some (Pv.d value2)] : Env) _ (p_is_tree arities1 value2) (PFn S [] (fun a => .val a) (fun _ => [])); unfold p_is_tree; exact (hs_last (s_ret (hp_callD (ks := [.d, .d, .d]) c_is_tree_form rfl rfl (ha_v rfl (ha_v rfl (ha_1 (hp_c _) ha_0))) rfl) (fun _ _ r4 t => (pf_rt t hnd rfl .nil)))))
theorem c_is_tree : ∀ j, 4 ≤ j → FSpec (lev j).is_tree (q_dd p_is_tree) (fun a => .val a) (fun _ => [])
  | 0, h => by omega
  | j + 1, h => show FSpec (d_is_tree (lev j).is_tree_form) _ _ _ from fs_is_tree (c_is_tree_form j (by omega))
def p__require_tree (arities1 : D) (tree2 : D) (name3 : D) : Option (Unit) :=
  ((((p_is_arities arities1).bind fun a4 => (some (PyData.str "arities")).bind fun a5 => p_require a4 a5).map fun _ => PyData.none).bind fun _ => ((((p_is_tree arities1 tree2).bind fun a6 => p_require a6 name3).map fun _ => PyData.none).bind fun _ => (some ())))
theorem fs__require_tree {F_require : Fn} (c_require : FSpec F_require (q_dd p_require) (fun _ => .val .none) (fun _ => [])) {F_is_arities : Fn} (c_is_arities : FSpec F_is_arities (q_d p_is_arities) (fun a => .val a) (fun _ => [])) {F_is_tree : Fn} (c_is_tree : FSpec F_is_tree (q_dd p_is_tree) (fun a => .val a) (fun _ => [])) : FSpec (d__require_tree F_require F_is_arities F_is_tree) (q_ddd (p__require_tree)) (fun _ => .val .none) (fun _ => []) := fspec_mk fun S as vs hao hnd a hF => by
  unfold q_ddd at hF
  split at hF <;> first | (cases hF; done) | skip
  rename_i arities1 tree2 name3
  obtain ⟨_, rfl, _, rfl, _, rfl, rfl⟩ := hao
  refine ⟨rfl, p__require_tree arities1 tree2 name3, ?_, hF⟩
  (have hnd : ([] : List Nat).Nodup := hnd; show HS S [] ([some (Pv.d arities1), some (Pv.d tree2), some (Pv.d name3)] : Env) _ (p__require_tree arities1 tree2 name3) (PFn S [] (fun _ => .val .none) (fun _ => [])); unfold p__require_tree; exact (hs_last (hs_assoc (hs_drop (hp_callU (ks := [.d, .d]) (fun _ => PyData.none) c_require rfl rfl (fun _ => rfl) (ha_1 (hp_callD (ks := [.d]) c_is_arities rfl rfl (ha_v rfl ha_0) rfl) (ha_1 (hp_c _) ha_0)) rfl) (hs_drop (hp_callU (ks := [.d, .d]) (fun _ => PyData.none) c_require rfl rfl (fun _ => rfl) (ha_1 (hp_callD (ks := [.d, .d]) c_is_tree rfl rfl (ha_v rfl (ha_v rfl ha_0)) rfl) (ha_v rfl ha_0)) rfl) (hs_fall (fun _ _ t => pf_nx t hnd rfl .nil)))))))
theorem c__require_tree : ∀ j, 5 ≤ j → FSpec (lev j)._require_tree (q_ddd p__require_tree) (fun _ => .val .none) (fun _ => [])
  | 0, h => by omega
  | j + 1, h => show FSpec (d__require_tree (lev j).require (lev j).is_arities (lev j).is_tree) _ _ _ from fs__require_tree (c_require j (by omega)) (c_is_arities j (by omega)) (c_is_tree j (by omega))
def p__require_two (arities1 : D) (first2 : D) (second3 : D) : Option (Unit) :=
  ((((some (PyData.str "first")).bind fun a4 => p__require_tree arities1 first2 a4).map fun _ => PyData.none).bind fun _ => ((((p_is_tree arities1 second3).bind fun a5 => (some (PyData.str "second")).bind fun a6 => p_require a5 a6).map fun _ => PyData.none).bind fun _ => (some ())))
theorem fs__require_two {F__require_tree : Fn} (c__require_tree : FSpec F__require_tree (q_ddd p__require_tree) (fun _ => .val .none) (fun _ => [])) {F_require : Fn} (c_require : FSpec F_require (q_dd p_require) (fun _ => .val .none) (fun _ => [])) {F_is_tree : Fn} (c_is_tree : FSpec F_is_tree (q_dd p_is_tree) (fun a => .val a) (fun _ => [])) : FSpec (d__require_two F__require_tree F_require F_is_tree) (q_ddd (p__require_two)) (fun _ => .val .none) (fun _ => []) := fspec_mk fun S as vs hao hnd a hF => by
  unfold q_ddd at hF
  split at hF <;> first | (cases hF; done) | skip
  rename_i arities1 first2 second3
  obtain ⟨_, rfl, _, rfl, _, rfl, rfl⟩ := hao
  refine ⟨rfl, p__require_two arities1 first2 second3, ?_, hF⟩
  (have hnd : ([] : List Nat).Nodup := hnd; show HS S [] ([some (Pv.d arities1), some (Pv.d first2), some (Pv.d second3)] : Env) _ (p__require_two arities1 first2 second3) (PFn S [] (fun _ => .val .none) (fun _ => [])); unfold p__require_two; exact (hs_last (hs_assoc (hs_drop (hp_callU (ks := [.d, .d, .d]) (fun _ => PyData.none) c__require_tree rfl rfl (fun _ => rfl) (ha_v rfl (ha_v rfl (ha_1 (hp_c _) ha_0))) rfl) (hs_drop (hp_callU (ks := [.d, .d]) (fun _ => PyData.none) c_require rfl rfl (fun _ => rfl) (ha_1 (hp_callD (ks := [.d, .d]) c_is_tree rfl rfl (ha_v rfl (ha_v rfl ha_0)) rfl) (ha_1 (hp_c _) ha_0)) rfl) (hs_fall (fun _ _ t => pf_nx t hnd rfl .nil)))))))
theorem c__require_two : ∀ j, 6 ≤ j → FSpec (lev j)._require_two (q_ddd p__require_two) (fun _ => .val .none) (fun _ => [])
  | 0, h => by omega
  | j + 1, h => show FSpec (d__require_two (lev j)._require_tree (lev j).require (lev j).is_tree) _ _ _ from fs__require_two (c__require_tree j (by omega)) (c_require j (by omega)) (c_is_tree j (by omega))
def p_is_before (k : Nat) (arities1 : D) (first2 : D) (second3 : D) : Option (D) :=
  (((p__require_two arities1 first2 second3).map fun _ => PyData.none).bind fun _ => (((p_order_key k first2).bind fun v4 => (p_order_key k second3).bind fun v5 => fLtX v4 v5).bind fun r6 => some r6))
theorem fs_is_before {k : Nat} {F__require_two : Fn} (c__require_two : FSpec F__require_two (q_ddd p__require_two) (fun _ => .val .none) (fun _ => [])) {F_order_key : Fn} (c_order_key : FSpec F_order_key (q_d (p_order_key k)) (fun a => .val a) (fun _ => [])) : FSpec (d_is_before F__require_two F_order_key) (q_ddd (p_is_before k)) (fun a => .val a) (fun _ => []) := fspec_mk fun S as vs hao hnd a hF => by
  unfold q_ddd at hF
  split at hF <;> first | (cases hF; done) | skip
  rename_i arities1 first2 second3
  obtain ⟨_, rfl, _, rfl, _, rfl, rfl⟩ := hao
  refine ⟨rfl, p_is_before k arities1 first2 second3, ?_, hF⟩
  (have hnd : ([] : List Nat).Nodup := hnd; show HS S [] ([some (Pv.d arities1), some (Pv.d first2), some (Pv.d second3)] : Env) _ (p_is_before k arities1 first2 second3) (PFn S [] (fun a => .val a) (fun _ => [])); unfold p_is_before; exact (hs_last (hs_assoc (hs_drop (hp_callU (ks := [.d, .d, .d]) (fun _ => PyData.none) c__require_two rfl rfl (fun _ => rfl) (ha_v rfl (ha_v rfl (ha_v rfl ha_0))) rfl) (s_ret (hp_op (hp_callD (ks := [.d]) c_order_key rfl rfl (ha_v rfl ha_0) rfl) (hp_callD (ks := [.d]) c_order_key rfl rfl (ha_v rfl ha_0) rfl)) (fun _ _ r6 t => (pf_rt t hnd rfl .nil)))))))
theorem c_is_before : ∀ k j, k + 7 ≤ j → FSpec (lev j).is_before (q_ddd (p_is_before k)) (fun a => .val a) (fun _ => [])
  | k, 0, h => by omega
  | k, j + 1, h => show FSpec (d_is_before (lev j)._require_two (lev j).order_key) _ _ _ from fs_is_before (c__require_two j (by omega)) (c_order_key k j (by omega))
def p__law_stream (script1 : D) : Option (List D) :=
  ((((asQ script1).map PyData.list).bind fun x2 => (some (PyData.int 0)).bind fun x3 => (some (PyData.int 0)).bind fun x4 => mkL [x2, x3, x4]).bind fun r5 => some r5)
theorem fs__law_stream  : FSpec (d__law_stream) (q_d (p__law_stream)) (fun a => .new a) (fun _ => []) := fspec_mk fun S as vs hao hnd a hF => by
  unfold q_d at hF
  split at hF <;> first | (cases hF; done) | skip
  rename_i script1
  obtain ⟨_, rfl, rfl⟩ := hao
  refine ⟨rfl, p__law_stream script1, ?_, hF⟩
  (have hnd : ([] : List Nat).Nodup := hnd; show HS S [] ([some (Pv.d script1)] : Env) _ (p__law_stream script1) (PFn S [] (fun a => .new a) (fun _ => [])); unfold p__law_stream; exact (hs_last (s_retL (hp_lst (hd_1 (hp_en (hp_list (hp_qvar rfl))) (hd_1 (hp_c _) (hd_1 (hp_c _) hd_0))) rfl) (fun _ _ r5 t => (pf_rt t hnd rfl .nil)))))
theorem c__law_stream : ∀ j, 1 ≤ j → FSpec (lev j)._law_stream (q_d p__law_stream) (fun a => .new a) (fun _ => [])
  | 0, h => by omega
  | j + 1, h => show FSpec (d__law_stream) _ _ _ from fs__law_stream
def p__law_next (stream1 : List D) (many2 : D) : Option (D × List D) :=
  (((((((some (PyData.int 1)).bind (ixO (some stream1))).bind fun v4 => (some (PyData.int 0)).bind fun v5 => fEq v4 v5).bind asB).bind fun c6 => if c6 then (((some (PyData.int 2)).bind (ixO (some stream1))).bind fun k7 => (((some (PyData.int 7)).bind fun v8 => (some k7).bind fun v9 => fAdd v8 v9).bind fun cell10 => ((((((some k7).bind fun v12 => ((((some (PyData.int 0)).bind (ixO (some stream1))).bind asQ).map lenD).bind fun v13 => fLtX v12 v13).bind asB).bind fun c14 => if c14 then (((((some (PyData.int 0)).bind (ixO (some stream1))).bind fun v16 => (some k7).bind fun v17 => fIx v16 v17).bind fun x15 => fAbs [x15]).bind fun cell18 => (some cell18)) else (some cell10)) : Option (D)).bind fun (s11 : D) => ((((((some s11).bind fun v22 => ((some (PyData.int 10)).bind fun v20 => (some (PyData.int 18)).bind fun v21 => fPow v20 v21).bind fun v23 => fLtX v22 v23).bind asB).bind fun c24 => if c24 then (((((((some s11).bind fun v26 => (some (PyData.int 48271)).bind fun v27 => fMulX v26 v27).bind fun v30 => ((some k7).bind fun v28 => (some (PyData.int 69621)).bind fun v29 => fMulX v28 v29).bind fun v31 => fAdd v30 v31).bind fun v32 => (some (PyData.int 11)).bind fun v33 => fAdd v32 v33).bind fun x25 => fInt [x25]).bind fun v34 => (some (PyData.int 2147483647)).bind fun v35 => fMod v34 v35).bind fun cell36 => ((((((((some cell36).bind fun v38 => (some (PyData.int 16807)).bind fun v39 => fMulX v38 v39).bind fun v40 => (some (PyData.int 13)).bind fun v41 => fAdd v40 v41).bind fun x37 => fInt [x37]).bind fun v42 => (some (PyData.int 2147483647)).bind fun v43 => fMod v42 v43).bind fun v44 => (some (PyData.int 65537)).bind fun v45 => fMulX v44 v45).bind fun v46 => (some cell36).bind fun v47 => fAdd v46 v47).bind fun cell48 => (some cell48))) else (some s11)) : Option (D)).bind fun (s19 : D) => ((some s19).bind fun v49 => (some (PyData.int 1)).bind fun v50 => (subO stream1 v50 v49).bind fun ys51 => (((some k7).bind fun v52 => (some (PyData.int 1)).bind fun v53 => fAdd v52 v53).bind fun v54 => (some (PyData.int 2)).bind fun v55 => (subO ys51 v55 v54).bind fun ys56 => (some ys56))))))) else (some stream1)) : Option (List D)).bind fun (s3 : List D) => (((((some (PyData.int 1)).bind (ixO (some s3))).bind fun x57 => fInt [x57]).bind fun v58 => (some many2).bind fun v59 => fMod v58 v59).bind fun digit60 => ((((some (PyData.int 1)).bind (ixO (some s3))).bind fun v61 => (some many2).bind fun v62 => fDiv v61 v62).bind fun v63 => (some (PyData.int 1)).bind fun v64 => (subO s3 v64 v63).bind fun ys65 => ((some digit60).bind fun r66 => some (r66, ys65)))))
theorem fs__law_next  : FSpec (d__law_next) (q_pd (p__law_next)) (fun a => .val a.1) (fun a => [a.2]) := fspec_mk fun S as vs hao hnd a hF => by
  unfold q_pd at hF
  split at hF <;> first | (cases hF; done) | skip
  rename_i stream1 many2
  obtain ⟨n0, _, rfl, hS0, _, rfl, rfl⟩ := hao
  refine ⟨rfl, p__law_next stream1 many2, ?_, hF⟩
  (have hnd : ([n0] : List Nat).Nodup := hnd; show HS S [n0] ([some (Pv.p n0 stream1), some (Pv.d many2), none, none, none] : Env) _ (p__law_next stream1 many2) (PFn S [n0] (fun a => .val a.1) (fun a => [a.2])); unfold p__law_next; exact (hs_last (hs_assoc (hs_join (ev := fun (s3 : List D) => ([some (Pv.p n0 s3), some (Pv.d many2), none, none, none] : Env)) (hs_last (hs_if (hp_tb (hp_op (hp_ixv rfl (hp_c _)) (hp_c _))) (hs_assoc (hs_asg (hp_ixv rfl (hp_c _)) (fun k7 => (hs_assoc (hs_asg (hp_op (hp_c _) (hp_var rfl)) (fun cell10 => (hs_assoc (hs_join (ev := fun (s11 : D) => ([some (Pv.p n0 stream1), some (Pv.d many2), some (Pv.d k7), some (Pv.d s11), none] : Env)) (hs_last (hs_if (hp_tb (hp_op (hp_var rfl) (hp_len (hp_qe (hp_ixv rfl (hp_c _)))))) (hs_asg (hp_b (hd_1 (hp_op (hp_ixv rfl (hp_c _)) (hp_var rfl)) hd_0) rfl) (fun cell18 => (hs_end (.keep (.keep (.keep (.keep (.keep .nil)))))))) (hs_skip (hs_end (.keep (.keep (.keep (.keep (.keep .nil))))))))) (fun s11 => (hs_assoc (hs_join (ev := fun (s19 : D) => ([some (Pv.p n0 stream1), some (Pv.d many2), some (Pv.d k7), some (Pv.d s19), none] : Env)) (hs_last (hs_if (hp_tb (hp_op (hp_var rfl) (hp_op (hp_c _) (hp_c _)))) (hs_assoc (hs_asg (hp_op (hp_b (hd_1 (hp_op (hp_op (hp_op (hp_var rfl) (hp_c _)) (hp_op (hp_var rfl) (hp_c _))) (hp_c _)) hd_0) rfl) (hp_c _)) (fun cell36 => (hs_asg (hp_op (hp_op (hp_op (hp_b (hd_1 (hp_op (hp_op (hp_var rfl) (hp_c _)) (hp_c _)) hd_0) rfl) (hp_c _)) (hp_c _)) (hp_var rfl)) (fun cell48 => (hs_end (.keep (.keep (.keep (.keep (.keep .nil))))))))))) (hs_skip (hs_end (.keep (.keep (.keep (.keep (.keep .nil))))))))) (fun s19 => (hs_assoc (hs_sub (k := (some n0)) rfl (hp_var rfl) (hp_c _) (fun ys51 => (hs_sub (k := (some n0)) rfl (hp_op (hp_var rfl) (hp_c _)) (hp_c _) (fun ys56 => (hs_end (.keep (.keep (.drop (.drop (.keep .nil))))))))))))))))))))))) (hs_skip (hs_end (.keep (.keep (.keep (.keep (.keep .nil))))))))) (fun s3 => (hs_assoc (hs_asg (hp_op (hp_b (hd_1 (hp_ixv rfl (hp_c _)) hd_0) rfl) (hp_var rfl)) (fun digit60 => (hs_assoc (hs_sub (k := (some n0)) rfl (hp_op (hp_ixv rfl (hp_c _)) (hp_var rfl)) (hp_c _) (fun ys65 => (s_ret (hp_var rfl) (fun _ _ r66 t => (pf_rt t hnd rfl (.cons (i := 0) rfl .nil)))))))))))))))
theorem c__law_next : ∀ j, 1 ≤ j → FSpec (lev j)._law_next (q_pd p__law_next) (fun a => .val a.1) (fun a => [a.2])
  | 0, h => by omega
  | j + 1, h => show FSpec (d__law_next) _ _ _ from fs__law_next
def p__law_is_integer (actual1 : D) : Option (D) :=
  ((((some actual1).bind (fIsi "int")).bind fun b2 => andO b2 (((some actual1).bind (fIsi "bool")).bind notO)).bind fun r3 => some r3)
theorem fs__law_is_integer  : FSpec (d__law_is_integer) (q_d (p__law_is_integer)) (fun a => .val a) (fun _ => []) := fspec_mk fun S as vs hao hnd a hF => by
  unfold q_d at hF
  split at hF <;> first | (cases hF; done) | skip
  rename_i actual1
  obtain ⟨_, rfl, rfl⟩ := hao
  refine ⟨rfl, p__law_is_integer actual1, ?_, hF⟩
  (have hnd : ([] : List Nat).Nodup := hnd; show HS S [] ([some (Pv.d actual1)] : Env) _ (p__law_is_integer actual1) (PFn S [] (fun a => .val a) (fun _ => [])); unfold p__law_is_integer; exact (hs_last (s_ret (hp_andv (hp_isi (hp_var rfl)) (hp_notv (hp_isi (hp_var rfl)))) (fun _ _ r3 t => (pf_rt t hnd rfl .nil)))))
theorem c__law_is_integer : ∀ j, 1 ≤ j → FSpec (lev j)._law_is_integer (q_d p__law_is_integer) (fun a => .val a) (fun _ => [])
  | 0, h => by omega
  | j + 1, h => show FSpec (d__law_is_integer) _ _ _ from fs__law_is_integer
def b__law_equal (r_self : D → D → Option (D)) (k : Nat) (actual1 : D) (due2 : D) : Option (D) :=
  ((((some due2).bind fun v3 => (some PyData.none).bind fun v4 => fIs v3 v4).bind asB).bind fun c5 => if c5 then (((some actual1).bind fun v6 => (some PyData.none).bind fun v7 => fIs v6 v7).bind fun r8 => some r8) else ((((some due2).bind (fIsi "bool")).bind tru).bind fun c9 => if c9 then ((((some actual1).bind (fIsi "bool")).bind fun b12 => andO b12 ((some actual1).bind fun v10 => (some due2).bind fun v11 => fEq v10 v11)).bind fun r13 => some r13) else ((((some due2).bind (fIsi "int")).bind tru).bind fun c14 => if c14 then (((p__law_is_integer actual1).bind fun b17 => andO b17 ((some actual1).bind fun v15 => (some due2).bind fun v16 => fEq v15 v16)).bind fun r18 => some r18) else ((((some due2).bind (fIsi "str")).bind tru).bind fun c19 => if c19 then ((((some actual1).bind (fIsi "str")).bind fun b22 => andO b22 ((some actual1).bind fun v20 => (some due2).bind fun v21 => fEq v20 v21)).bind fun r23 => some r23) else (((((some due2).bind (fIsi "tuple")).bind tru).bind fun b24 => if b24 then ((((some actual1).bind (fIsi "tuple")).bind tru).map fun b => !b) else some false).bind fun c25 => if c25 then ((some (PyData.bool false)).bind fun r26 => some r26) else (((((some due2).bind (fIsi "list")).bind tru).bind fun b27 => if b27 then ((((some actual1).bind (fIsi "list")).bind tru).map fun b => !b) else some false).bind fun c28 => if c28 then ((some (PyData.bool false)).bind fun r29 => some r29) else (((((asQ actual1).map lenD).bind fun v30 => ((asQ due2).map lenD).bind fun v31 => fNe v30 v31).bind asB).bind fun c32 => if c32 then ((some (PyData.bool false)).bind fun r33 => some r33) else ((((((asQ due2).map lenD).bind rg1).bind (lcPz some (fun y34 => (some true)) (fun y34 => (((some y34).bind (ixO (asQ actual1))).bind fun a35 => ((some y34).bind (ixO (asQ due2))).bind fun a36 => r_self a35 a36)))).bind allD).bind fun r37 => some r37))))))))
def p__law_equal : Nat → D → D → Option (D)
  | 0, _, _ => none
  | k + 1, actual1, due2 => b__law_equal (p__law_equal k) k actual1 due2
theorem fs__law_equal {r_self : D → D → Option (D)} {k : Nat} {F__law_is_integer : Fn} (c__law_is_integer : FSpec F__law_is_integer (q_d p__law_is_integer) (fun a => .val a) (fun _ => [])) {F__law_equal : Fn} (c__law_equal : FSpec F__law_equal (q_dd r_self) (fun a => .val a) (fun _ => [])) : FSpec (d__law_equal F__law_is_integer F__law_equal) (q_dd (b__law_equal r_self k)) (fun a => .val a) (fun _ => []) := fspec_mk fun S as vs hao hnd a hF => by
  unfold q_dd at hF
  split at hF <;> first | (cases hF; done) | skip
  rename_i actual1 due2
  obtain ⟨_, rfl, _, rfl, rfl⟩ := hao
  refine ⟨rfl, b__law_equal r_self k actual1 due2, ?_, hF⟩
  (have hnd : ([] : List Nat).Nodup := hnd; show HS S [] ([some (Pv.d actual1), some (Pv.d due2), none] : Env) _ (b__law_equal r_self k actual1 due2) (PFn S [] (fun a => .val a) (fun _ => [])); unfold b__law_equal; exact (hs_last (hs_assoc (hs_if (hp_tb (hp_op (hp_var rfl) (hp_c _))) (s_ret (hp_op (hp_var rfl) (hp_c _)) (fun _ _ r8 t => (pf_rt t hnd rfl .nil))) (hs_skip (hs_assoc (hs_if (hp_tru (hp_isi (hp_var rfl))) (s_ret (hp_andv (hp_isi (hp_var rfl)) (hp_op (hp_var rfl) (hp_var rfl))) (fun _ _ r13 t => (pf_rt t hnd rfl .nil))) (hs_skip (hs_assoc (hs_if (hp_tru (hp_isi (hp_var rfl))) (s_ret (hp_andv (hp_callD (ks := [.d]) c__law_is_integer rfl rfl (ha_v rfl ha_0) rfl) (hp_op (hp_var rfl) (hp_var rfl))) (fun _ _ r18 t => (pf_rt t hnd rfl .nil))) (hs_skip (hs_assoc (hs_if (hp_tru (hp_isi (hp_var rfl))) (s_ret (hp_andv (hp_isi (hp_var rfl)) (hp_op (hp_var rfl) (hp_var rfl))) (fun _ _ r23 t => (pf_rt t hnd rfl .nil))) (hs_skip (hs_assoc (hs_if (hp_and (hp_tru (hp_isi (hp_var rfl))) (hp_not (hp_tru (hp_isi (hp_var rfl))))) (s_ret (hp_c _) (fun _ _ r26 t => (pf_rt t hnd rfl .nil))) (hs_skip (hs_assoc (hs_if (hp_and (hp_tru (hp_isi (hp_var rfl))) (hp_not (hp_tru (hp_isi (hp_var rfl))))) (s_ret (hp_c _) (fun _ _ r29 t => (pf_rt t hnd rfl .nil))) (hs_skip (hs_assoc (hs_if (hp_tb (hp_op (hp_len (hp_qvar rfl)) (hp_len (hp_qvar rfl)))) (s_ret (hp_c _) (fun _ _ r33 t => (pf_rt t hnd rfl .nil))) (hs_skip (s_ret (hp_all (hp_lc (hp_r1 (hp_len (hp_qvar rfl))) hg_n (fun y34 => hp_yes) (fun y34 => (hp_callD (ks := [.d, .d]) c__law_equal rfl rfl (ha_1 (hp_ixv rfl (hp_var rfl)) (ha_1 (hp_ixv rfl (hp_var rfl)) ha_0)) rfl)))) (fun _ _ r37 t => (pf_rt t hnd rfl .nil))))))))))))))))))))))))))
theorem c__law_equal : ∀ k j, k + 2 ≤ j → FSpec (lev j)._law_equal (q_dd (p__law_equal k)) (fun a => .val a) (fun _ => [])
  | 0, j, h => fspec_none fun vs => by unfold q_dd; split <;> rfl
  | k + 1, 0, h => by omega
  | k + 1, j + 1, h => show FSpec (d__law_equal (lev j)._law_is_integer (lev j)._law_equal) (q_dd (b__law_equal (p__law_equal k) k)) _ _ from fs__law_equal (c__law_is_integer j (by omega)) (c__law_equal k j (by omega))
def p__law_pick (stream1 : List D) (rows2 : D) : Option (D × List D) :=
  (bx (bx (bx (lx stream1 ((asQ rows2).map lenD)) fun v3 s4 => p__law_next s4 v3) fun v5 s6 => lx s6 (ixO (asQ rows2) v5)) fun r7 s8 => some (r7, s8))
theorem fs__law_pick {F__law_next : Fn} (c__law_next : FSpec F__law_next (q_pd p__law_next) (fun a => .val a.1) (fun a => [a.2])) : FSpec (d__law_pick F__law_next) (q_pq (p__law_pick)) (fun a => .val a.1) (fun a => [a.2]) := fspec_mk fun S as vs hao hnd a hF => by
  unfold q_pq at hF
  split at hF <;> first | (cases hF; done) | skip
  rename_i stream1 rows2
  obtain ⟨n0, _, rfl, hS0, s1, _, rfl, hQ1, rfl⟩ := hao
  refine ⟨rfl, p__law_pick stream1 rows2, ?_, hF⟩
  cases s1 <;> (have hnd : ([n0] : List Nat).Nodup := hnd; show HS S [n0] ([some (Pv.p n0 stream1), some (Pv.q rows2)] : Env) _ (p__law_pick stream1 rows2) (PFn S [n0] (fun a => .val a.1) (fun a => [a.2])); unfold p__law_pick; exact (hs_last (s_retX (i := 0) (k := (some n0)) (x0 := stream1) rfl rfl (x_ixv (fun _ => rfl) (hx_callD (ks := [.p, .d]) c__law_next rfl rfl (hax_v rfl (xa_1 (x_of (hp_len (hp_qvar rfl))) (fun s4 => hax_0))) rfl)) (fun _ _ r7 s8 t => (pf_rt t hnd rfl (.cons (i := 0) rfl .nil))))))
theorem c__law_pick : ∀ j, 2 ≤ j → FSpec (lev j)._law_pick (q_pq p__law_pick) (fun a => .val a.1) (fun a => [a.2])
  | 0, h => by omega
  | j + 1, h => show FSpec (d__law_pick (lev j)._law_next) _ _ _ from fs__law_pick (c__law_next j (by omega))
def p__law_arities (stream1 : List D) : Option (D × List D) :=
  (bx (bx (lx stream1 ((((some (PyData.int 0)).bind fun x11 => (some (PyData.int 0)).bind fun x12 => (some (PyData.int 2)).bind fun x13 => mkT [x11, x12, x13]).bind fun x2 => ((some (PyData.int 0)).bind fun x14 => (some (PyData.int 2)).bind fun x15 => mkT [x14, x15]).bind fun x3 => ((some (PyData.int 0)).bind fun x16 => (some (PyData.int 1)).bind fun x17 => (some (PyData.int 2)).bind fun x18 => mkT [x16, x17, x18]).bind fun x4 => ((some (PyData.int 0)).bind fun x19 => (some (PyData.int 0)).bind fun x20 => (some (PyData.int 1)).bind fun x21 => mkT [x19, x20, x21]).bind fun x5 => ((some (PyData.int 2)).bind fun x22 => (some (PyData.int 0)).bind fun x23 => (some (PyData.int 1)).bind fun x24 => (some (PyData.int 0)).bind fun x25 => mkT [x22, x23, x24, x25]).bind fun x6 => ((some (PyData.int 0)).bind fun x26 => (some (PyData.int 0)).bind fun x27 => (some (PyData.int 1)).bind fun x28 => (some (PyData.int 2)).bind fun x29 => mkT [x26, x27, x28, x29]).bind fun x7 => ((some (PyData.int 1)).bind fun x30 => (some (PyData.int 0)).bind fun x31 => mkT [x30, x31]).bind fun x8 => ((some (PyData.int 0)).bind fun x32 => mkT [x32]).bind fun x9 => ((some (PyData.int 1)).bind fun x33 => (some (PyData.int 1)).bind fun x34 => (some (PyData.int 0)).bind fun x35 => (some (PyData.int 2)).bind fun x36 => mkT [x33, x34, x35, x36]).bind fun x10 => mkL [x2, x3, x4, x5, x6, x7, x8, x9, x10]).map PyData.list)) fun v37 s38 => p__law_pick s38 v37) fun r39 s40 => some (r39, s40))
theorem fs__law_arities {F__law_pick : Fn} (c__law_pick : FSpec F__law_pick (q_pq p__law_pick) (fun a => .val a.1) (fun a => [a.2])) : FSpec (d__law_arities F__law_pick) (q_p (p__law_arities)) (fun a => .val a.1) (fun a => [a.2]) := fspec_mk fun S as vs hao hnd a hF => by
  unfold q_p at hF
  split at hF <;> first | (cases hF; done) | skip
  rename_i stream1
  obtain ⟨n0, _, rfl, hS0, rfl⟩ := hao
  refine ⟨rfl, p__law_arities stream1, ?_, hF⟩
  (have hnd : ([n0] : List Nat).Nodup := hnd; show HS S [n0] ([some (Pv.p n0 stream1)] : Env) _ (p__law_arities stream1) (PFn S [n0] (fun a => .val a.1) (fun a => [a.2])); unfold p__law_arities; exact (hs_last (s_retX (i := 0) (k := (some n0)) (x0 := stream1) rfl rfl (hx_callD (ks := [.p, .q]) c__law_pick rfl rfl (hax_v rfl (xa_1 (x_of (hp_en (hp_lst (hd_1 (hp_tup (hd_1 (hp_c _) (hd_1 (hp_c _) (hd_1 (hp_c _) hd_0))) rfl) (hd_1 (hp_tup (hd_1 (hp_c _) (hd_1 (hp_c _) hd_0)) rfl) (hd_1 (hp_tup (hd_1 (hp_c _) (hd_1 (hp_c _) (hd_1 (hp_c _) hd_0))) rfl) (hd_1 (hp_tup (hd_1 (hp_c _) (hd_1 (hp_c _) (hd_1 (hp_c _) hd_0))) rfl) (hd_1 (hp_tup (hd_1 (hp_c _) (hd_1 (hp_c _) (hd_1 (hp_c _) (hd_1 (hp_c _) hd_0)))) rfl) (hd_1 (hp_tup (hd_1 (hp_c _) (hd_1 (hp_c _) (hd_1 (hp_c _) (hd_1 (hp_c _) hd_0)))) rfl) (hd_1 (hp_tup (hd_1 (hp_c _) (hd_1 (hp_c _) hd_0)) rfl) (hd_1 (hp_tup (hd_1 (hp_c _) hd_0) rfl) (hd_1 (hp_tup (hd_1 (hp_c _) (hd_1 (hp_c _) (hd_1 (hp_c _) (hd_1 (hp_c _) hd_0)))) rfl) hd_0))))))))) rfl))) (fun s38 => hax_0))) rfl) (fun _ _ r39 s40 t => (pf_rt t hnd rfl (.cons (i := 0) rfl .nil))))))
theorem c__law_arities : ∀ j, 3 ≤ j → FSpec (lev j)._law_arities (q_p p__law_arities) (fun a => .val a.1) (fun a => [a.2])
  | 0, h => by omega
  | j + 1, h => show FSpec (d__law_arities (lev j)._law_pick) _ _ _ from fs__law_arities (c__law_pick j (by omega))
def b__law_tree (r_self : List D → D → D → Option (D × List D)) (k : Nat) (stream1 : List D) (arities2 : D) (nodes3 : D) : Option (D × List D) :=
  ((((((asQ arities2).map lenD).bind rg1).bind (lcPz some (fun y4 => ((((some y4).bind (ixO (asQ arities2))).bind fun v5 => (some (PyData.int 0)).bind fun v6 => fEq v5 v6).bind asB)) (fun y4 => (some y4)))).map PyData.list).bind fun leaves7 => ((((((asQ arities2).map lenD).bind rg1).bind (lcPz some (fun y8 => (((some (PyData.int 0)).bind fun v9 => ((some y8).bind (ixO (asQ arities2))).bind fun v10 => (fLtX v9 v10).bind fun v11 => andO v11 ((some nodes3).bind fun v12 => fLtX v10 v12)).bind asB)) (fun y8 => (some y8)))).map PyData.list).bind fun inner13 => (bx (bx (lx stream1 (((some inner13).bind tru).map fun b => !b)) fun v14 s15 => if v14 then some (true, s15) else (bx (bx (bx (lx s15 (some (PyData.int 5))) fun v16 s17 => p__law_next s17 v16) fun v18 s19 => bx (lx s19 (some (PyData.int 0))) fun v20 s21 => lx s21 (fEq v18 v20)) fun v22 s23 => lx s23 (asB v22))) fun v24 s25 => if v24 then (bx (bx (p__law_pick s25 leaves7) fun v26 s27 => lx s27 (mkT [v26])) fun r28 s29 => some (r28, s29)) else (bx (p__law_pick s25 inner13) fun symbol30 s31 => (((((some symbol30).bind (ixO (asQ arities2))).bind fun v32 => (some (PyData.int 1)).bind fun v33 => fEq v32 v33).bind asB).bind fun c34 => if c34 then (bx (bx (lx s31 (some symbol30)) fun v35 s36 => bx (bx (lx s36 ((some nodes3).bind fun v37 => (some (PyData.int 1)).bind fun v38 => fSub v37 v38)) fun v39 s40 => r_self s40 arities2 v39) fun v41 s42 => lx s42 (mkT [v35, v41])) fun r43 s44 => some (r43, s44)) else (bx (bx (lx s31 (some (PyData.int 1))) fun v45 s46 => bx (bx (lx s46 ((some nodes3).bind fun v47 => (some (PyData.int 2)).bind fun v48 => fSub v47 v48)) fun v49 s50 => p__law_next s50 v49) fun v51 s52 => lx s52 (fAdd v45 v51)) fun left53 s54 => (bx (bx (lx s54 (some symbol30)) fun v55 s56 => bx (r_self s56 arities2 left53) fun v57 s58 => bx (bx (lx s58 (((some nodes3).bind fun v59 => (some (PyData.int 1)).bind fun v60 => fSub v59 v60).bind fun v61 => (some left53).bind fun v62 => fSub v61 v62)) fun v63 s64 => r_self s64 arities2 v63) fun v65 s66 => lx s66 (mkT [v55, v57, v65])) fun r67 s68 => some (r67, s68))))))))
def p__law_tree : Nat → List D → D → D → Option (D × List D)
  | 0, _, _, _ => none
  | k + 1, stream1, arities2, nodes3 => b__law_tree (p__law_tree k) k stream1 arities2 nodes3
theorem fs__law_tree {r_self : List D → D → D → Option (D × List D)} {k : Nat} {F__law_next : Fn} (c__law_next : FSpec F__law_next (q_pd p__law_next) (fun a => .val a.1) (fun a => [a.2])) {F__law_pick : Fn} (c__law_pick : FSpec F__law_pick (q_pq p__law_pick) (fun a => .val a.1) (fun a => [a.2])) {F__law_tree : Fn} (c__law_tree : FSpec F__law_tree (q_pdd r_self) (fun a => .val a.1) (fun a => [a.2])) : FSpec (d__law_tree F__law_next F__law_pick F__law_tree) (q_pdd (b__law_tree r_self k)) (fun a => .val a.1) (fun a => [a.2]) := fspec_mk fun S as vs hao hnd a hF => by
  unfold q_pdd at hF
  split at hF <;> first | (cases hF; done) | skip
  rename_i stream1 arities2 nodes3
  obtain ⟨n0, _, rfl, hS0, _, rfl, _, rfl, rfl⟩ := hao
  refine ⟨rfl, b__law_tree r_self k stream1 arities2 nodes3, ?_, hF⟩
  (have hnd : ([n0] : List Nat).Nodup := hnd; show HS S [n0] ([some (Pv.p n0 stream1), some (Pv.d arities2), some (Pv.d nodes3), none, none, none, none] : Env) _ (b__law_tree r_self k stream1 arities2 nodes3) (PFn S [n0] (fun a => .val a.1) (fun a => [a.2])); unfold b__law_tree; exact (hs_last (hs_assoc (hs_asg (hp_en (hp_lc (hp_r1 (hp_len (hp_qvar rfl))) hg_n (fun y4 => (hp_tb (hp_op (hp_ixv rfl (hp_var rfl)) (hp_c _)))) (fun y4 => (hp_var rfl)))) (fun leaves7 => (hs_assoc (hs_asg (hp_en (hp_lc (hp_r1 (hp_len (hp_qvar rfl))) hg_n (fun y8 => (hp_tb (hp_chain (hp_c _) (hp_ixv rfl (hp_var rfl)) (hp_var rfl)))) (fun y8 => (hp_var rfl)))) (fun inner13 => (hs_assoc (s_ifX (i := 0) (k := (some n0)) (x0 := stream1) rfl rfl (x_or (x_of (hp_not (hp_tru (hp_var rfl)))) (fun s15 => (x_tb (x_op (hx_callD (ks := [.p, .d]) c__law_next rfl rfl (hax_v rfl (xa_1 (x_of (hp_c _)) (fun s17 => hax_0))) rfl) (fun s19 => (x_of (hp_c _))))))) (fun s25 => (s_retX (i := 0) (k := (some n0)) (x0 := s25) rfl rfl (x_tup (xd_1 (hx_callD (ks := [.p, .q]) c__law_pick rfl rfl (hax_v rfl (hax_v rfl hax_0)) rfl) (fun s27 => hdx_0)) rfl) (fun _ _ r28 s29 t => (pf_rt t hnd rfl (.cons (i := 0) rfl .nil))))) (fun s25 => (hs_skip (hs_assoc (s_asgX (i := 0) (k := (some n0)) (x0 := s25) rfl rfl (hx_callD (ks := [.p, .q]) c__law_pick rfl rfl (hax_v rfl (hax_v rfl hax_0)) rfl) (fun symbol30 s31 => (hs_assoc (hs_if (hp_tb (hp_op (hp_ixv rfl (hp_var rfl)) (hp_c _))) (s_retX (i := 0) (k := (some n0)) (x0 := s31) rfl rfl (x_tup (xd_1 (x_of (hp_var rfl)) (fun s36 => (xd_1 (hx_callD (ks := [.p, .d, .d]) c__law_tree rfl rfl (hax_v rfl (hax_v rfl (xa_1 (x_of (hp_op (hp_var rfl) (hp_c _))) (fun s40 => hax_0)))) rfl) (fun s42 => hdx_0)))) rfl) (fun _ _ r43 s44 t => (pf_rt t hnd rfl (.cons (i := 0) rfl .nil)))) (hs_skip (hs_assoc (s_asgX (i := 0) (k := (some n0)) (x0 := s31) rfl rfl (x_op (x_of (hp_c _)) (fun s46 => (hx_callD (ks := [.p, .d]) c__law_next rfl rfl (hax_v rfl (xa_1 (x_of (hp_op (hp_var rfl) (hp_c _))) (fun s50 => hax_0))) rfl))) (fun left53 s54 => (s_retX (i := 0) (k := (some n0)) (x0 := s54) rfl rfl (x_tup (xd_1 (x_of (hp_var rfl)) (fun s56 => (xd_1 (hx_callD (ks := [.p, .d, .d]) c__law_tree rfl rfl (hax_v rfl (hax_v rfl (hax_v rfl hax_0))) rfl) (fun s58 => (xd_1 (hx_callD (ks := [.p, .d, .d]) c__law_tree rfl rfl (hax_v rfl (hax_v rfl (xa_1 (x_of (hp_op (hp_op (hp_var rfl) (hp_c _)) (hp_var rfl))) (fun s64 => hax_0)))) rfl) (fun s66 => hdx_0)))))) rfl) (fun _ _ r67 s68 t => (pf_rt t hnd rfl (.cons (i := 0) rfl .nil)))))))))))))))))))))))))
theorem c__law_tree : ∀ k j, k + 3 ≤ j → FSpec (lev j)._law_tree (q_pdd (p__law_tree k)) (fun a => .val a.1) (fun a => [a.2])
  | 0, j, h => fspec_none fun vs => by unfold q_pdd; split <;> rfl
  | k + 1, 0, h => by omega
  | k + 1, j + 1, h => show FSpec (d__law_tree (lev j)._law_next (lev j)._law_pick (lev j)._law_tree) (q_pdd (b__law_tree (p__law_tree k) k)) _ _ from fs__law_tree (c__law_next j (by omega)) (c__law_pick j (by omega)) (c__law_tree k j (by omega))
def b__law_size (r_self : D → Option (D)) (k : Nat) (tree1 : D) : Option (D) :=
  (((some (PyData.int 1)).bind fun v6 => (((((some tree1).bind fun v3 => ((some (PyData.int 1)).bind asI).bind fun l4 => (some none).bind fun h5 => slT v3 l4 h5).bind asQ).bind (lcPz some (fun y2 => (some true)) (fun y2 => (r_self y2)))).bind sumD).bind fun v7 => fAdd v6 v7).bind fun r8 => some r8)
def p__law_size : Nat → D → Option (D)
  | 0, _ => none
  | k + 1, tree1 => b__law_size (p__law_size k) k tree1
theorem fs__law_size {r_self : D → Option (D)} {k : Nat} {F__law_size : Fn} (c__law_size : FSpec F__law_size (q_d r_self) (fun a => .val a) (fun _ => [])) : FSpec (d__law_size F__law_size) (q_d (b__law_size r_self k)) (fun a => .val a) (fun _ => []) := fspec_mk fun S as vs hao hnd a hF => by
  unfold q_d at hF
  split at hF <;> first | (cases hF; done) | skip
  rename_i tree1
  obtain ⟨_, rfl, rfl⟩ := hao
  refine ⟨rfl, b__law_size r_self k tree1, ?_, hF⟩
  (have hnd : ([] : List Nat).Nodup := hnd; show HS S [] ([some (Pv.d tree1), none] : Env) _ (b__law_size r_self k tree1) (PFn S [] (fun a => .val a) (fun _ => [])); unfold b__law_size; exact (hs_last (s_ret (hp_op (hp_c _) (hp_sum (hp_lc (hp_qe (hp_slT (hp_var rfl) (hp_o1 (hp_c _)) hp_o0)) hg_n (fun y2 => hp_yes) (fun y2 => (hp_callD (ks := [.d]) c__law_size rfl rfl (ha_v rfl ha_0) rfl))))) (fun _ _ r8 t => (pf_rt t hnd rfl .nil)))))
theorem c__law_size : ∀ k j, k + 1 ≤ j → FSpec (lev j)._law_size (q_d (p__law_size k)) (fun a => .val a) (fun _ => [])
  | 0, j, h => fspec_none fun vs => by unfold q_d; split <;> rfl
  | k + 1, 0, h => by omega
  | k + 1, j + 1, h => show FSpec (d__law_size (lev j)._law_size) (q_d (b__law_size (p__law_size k) k)) _ _ from fs__law_size (c__law_size k j (by omega))
def l__law_spots_1 (r_self : D → Option (List D)) (tree1 : D) (s6 : List D) (y7 : D) : Option (List D) :=
  ((((((((some y7).bind fun v10 => (some (PyData.int 1)).bind fun v11 => fAdd v10 v11).bind (ixO (asQ tree1))).bind fun a12 => r_self a12).map PyData.list).bind asQ).bind (lcPz un2 (fun y9 => (some true)) (fun y9 => ((((some y7).bind fun x15 => mkT [x15]).bind fun v16 => (some y9.1).bind fun v17 => fAdd v16 v17).bind fun x13 => (some y9.2).bind fun x14 => mkT [x13, x14])))).bind fun v18 => (extO s6 v18).bind fun ys8 => (some ys8))
def b__law_spots (r_self : D → Option (List D)) (k : Nat) (tree1 : D) : Option (List D) :=
  ((((mkT []).bind fun x3 => (some tree1).bind fun x4 => mkT [x3, x4]).bind fun x2 => mkL [x2]).bind fun found5 => (((((asQ tree1).map lenD).bind fun v21 => (some (PyData.int 1)).bind fun v22 => fSub v21 v22).bind rg1).bind fun xs20 => (forP some (l__law_spots_1 r_self tree1) found5 xs20).bind fun (s19 : List D) => (some s19)))
def p__law_spots : Nat → D → Option (List D)
  | 0, _ => none
  | k + 1, tree1 => b__law_spots (p__law_spots k) k tree1
theorem fs__law_spots {r_self : D → Option (List D)} {k : Nat} {F__law_spots : Fn} (c__law_spots : FSpec F__law_spots (q_d r_self) (fun a => .new a) (fun _ => [])) : FSpec (d__law_spots F__law_spots) (q_d (b__law_spots r_self k)) (fun a => .new a) (fun _ => []) := fspec_mk fun S as vs hao hnd a hF => by
  unfold q_d at hF
  split at hF <;> first | (cases hF; done) | skip
  rename_i tree1
  obtain ⟨_, rfl, rfl⟩ := hao
  refine ⟨rfl, b__law_spots r_self k tree1, ?_, hF⟩
  (have hnd : ([] : List Nat).Nodup := hnd; show HS S [] ([some (Pv.d tree1), none, none, none, none] : Env) _ (b__law_spots r_self k tree1) (PFn S [] (fun a => .new a) (fun _ => [])); unfold b__law_spots; exact (hs_last (hs_assoc (hs_new (hp_lst (hd_1 (hp_tup (hd_1 (hp_tup hd_0 rfl) (hd_1 (hp_var rfl) hd_0)) rfl) hd_0) rfl) (fun found5 => (hs_assoc (hs_for (ev := fun (s6 : List D) => ([some (Pv.d tree1), some (Pv.c s6), none, none, none] : Env)) (hp_r1 (hp_op (hp_len (hp_qvar rfl)) (hp_c _))) (.keep (.keep (.keep (.keep (.keep .nil))))) (fun _ => hg_n) (fun s6 y7 => by unfold l__law_spots_1; exact (hs_last (hs_extN (k := none) rfl (hp_lc (hp_qe (hp_en (hp_callN (ks := [.d]) c__law_spots rfl rfl (ha_1 (hp_ixv rfl (hp_op (hp_var rfl) (hp_c _))) ha_0) rfl))) hg_2 (fun y9 => hp_yes) (fun y9 => (hp_tup (hd_1 (hp_op (hp_tup (hd_1 (hp_var rfl) hd_0) rfl) (hp_var rfl)) (hd_1 (hp_var rfl) hd_0)) rfl))) (fun ys8 => (hs_end (.keep (.keep (.drop (.keep (.keep .nil)))))))))) (fun s19 => (hs_retV rfl rfl (fun _ _ t => (pf_rt t hnd rfl .nil)))))))))))
theorem c__law_spots : ∀ k j, k + 1 ≤ j → FSpec (lev j)._law_spots (q_d (p__law_spots k)) (fun a => .new a) (fun _ => [])
  | 0, j, h => fspec_none fun vs => by unfold q_d; split <;> rfl
  | k + 1, 0, h => by omega
  | k + 1, j + 1, h => show FSpec (d__law_spots (lev j)._law_spots) (q_d (b__law_spots (p__law_spots k) k)) _ _ from fs__law_spots (c__law_spots k j (by omega))
def p__law_order (k : Nat) (tree1 : D) : Option (D) :=
  (((p__law_size k tree1).bind fun x2 => (((((p__law_spots k tree1).map PyData.list).bind asQ).bind (lcPz un2 (fun y4 => (some true)) (fun y4 => ((some (PyData.int 0)).bind (ixO (asQ y4.2)))))).map PyData.tuple).bind fun x3 => mkT [x2, x3]).bind fun r5 => some r5)
theorem fs__law_order {k : Nat} {F__law_spots : Fn} (c__law_spots : FSpec F__law_spots (q_d (p__law_spots k)) (fun a => .new a) (fun _ => [])) {F__law_size : Fn} (c__law_size : FSpec F__law_size (q_d (p__law_size k)) (fun a => .val a) (fun _ => [])) : FSpec (d__law_order F__law_spots F__law_size) (q_d (p__law_order k)) (fun a => .val a) (fun _ => []) := fspec_mk fun S as vs hao hnd a hF => by
  unfold q_d at hF
  split at hF <;> first | (cases hF; done) | skip
  rename_i tree1
  obtain ⟨_, rfl, rfl⟩ := hao
  refine ⟨rfl, p__law_order k tree1, ?_, hF⟩
  (have hnd : ([] : List Nat).Nodup := hnd; show HS S [] ([some (Pv.d tree1), none, none] : Env) _ (p__law_order k tree1) (PFn S [] (fun a => .val a) (fun _ => [])); unfold p__law_order; exact (hs_last (s_ret (hp_tup (hd_1 (hp_callD (ks := [.d]) c__law_size rfl rfl (ha_v rfl ha_0) rfl) (hd_1 (hp_tuple (hp_lc (hp_qe (hp_en (hp_callN (ks := [.d]) c__law_spots rfl rfl (ha_v rfl ha_0) rfl))) hg_2 (fun y4 => hp_yes) (fun y4 => (hp_ixv rfl (hp_c _))))) hd_0)) rfl) (fun _ _ r5 t => (pf_rt t hnd rfl .nil)))))
theorem c__law_order : ∀ k j, k + 2 ≤ j → FSpec (lev j)._law_order (q_d (p__law_order k)) (fun a => .val a) (fun _ => [])
  | k, 0, h => by omega
  | k, j + 1, h => show FSpec (d__law_order (lev j)._law_spots (lev j)._law_size) _ _ _ from fs__law_order (c__law_spots k j (by omega)) (c__law_size k j (by omega))
def l__law_all_4 (y6 : D) (y38 : D) (s5 : List D) (y9 : D) (s39 : List D) (y40 : D) : Option (List D) :=
  (((((((some y6).bind fun v43 => (some (PyData.int 1)).bind fun v44 => fSub v43 v44).bind fun v45 => (some y38).bind fun v46 => fSub v45 v46).bind (ixO (some s5))).bind asQ).bind (lcPz some (fun y42 => (some true)) (fun y42 => ((some y9).bind fun x47 => (some y40).bind fun x48 => (some y42).bind fun x49 => mkT [x47, x48, x49])))).bind fun v50 => (extO s39 v50).bind fun ys41 => (some ys41))
def l__law_all_3 (s5 : List D) (y6 : D) (y9 : D) (s37 : List D) (y38 : D) : Option (List D) :=
  ((((some y38).bind (ixO (some s5))).bind asQ).bind fun xs52 => (forP some (l__law_all_4 y6 y38 s5 y9) s37 xs52).bind fun (s51 : List D) => (some s51))
def l__law_all_2 (arities1 : D) (y6 : D) (s5 : List D) (s8 : List D) (y9 : D) : Option (List D) :=
  ((((((((some y9).bind (ixO (asQ arities1))).bind fun v11 => (some (PyData.int 0)).bind fun v12 => fEq v11 v12).bind asB).bind fun b15 => if b15 then (((some y6).bind fun v13 => (some (PyData.int 1)).bind fun v14 => fEq v13 v14).bind asB) else some false).bind fun c16 => if c16 then (((some y9).bind fun x18 => mkT [x18]).bind fun v19 => (appO s8 v19).bind fun ys17 => (some ys17)) else (some s8)) : Option (List D)).bind fun (s10 : List D) => ((((((((some y9).bind (ixO (asQ arities1))).bind fun v21 => (some (PyData.int 1)).bind fun v22 => fEq v21 v22).bind asB).bind fun b25 => if b25 then (((some y6).bind fun v23 => (some (PyData.int 1)).bind fun v24 => fGtX v23 v24).bind asB) else some false).bind fun c26 => if c26 then ((((((some y6).bind fun v29 => (some (PyData.int 1)).bind fun v30 => fSub v29 v30).bind (ixO (some s5))).bind asQ).bind (lcPz some (fun y28 => (some true)) (fun y28 => ((some y9).bind fun x31 => (some y28).bind fun x32 => mkT [x31, x32])))).bind fun v33 => (extO s10 v33).bind fun ys27 => (some ys27)) else (some s10)) : Option (List D)).bind fun (s20 : List D) => (((((some y9).bind (ixO (asQ arities1))).bind fun v34 => (some (PyData.int 2)).bind fun v35 => fEq v34 v35).bind asB).bind fun c36 => if c36 then (((some (PyData.int 1)).bind fun v57 => ((some y6).bind fun v55 => (some (PyData.int 1)).bind fun v56 => fSub v55 v56).bind fun v58 => rg2 v57 v58).bind fun xs54 => (forP some (l__law_all_3 s5 y6 y9) s20 xs54).bind fun (s53 : List D) => (some s53)) else (some s20))))
def l__law_all_1 (arities1 : D) (s5 : List D) (y6 : D) : Option (List D) :=
  ((mkL []).bind fun found7 => ((((asQ arities1).map lenD).bind rg1).bind fun xs62 => (forP some (l__law_all_2 arities1 y6 s5) found7 xs62).bind fun (s59 : List D) => ((some (PyData.list s59)).bind fun v61 => (appO s5 v61).bind fun ys60 => (some ys60))))
def p__law_all (arities1 : D) (most2 : D) : Option (List D) :=
  ((((mkL []).map PyData.list).bind fun x3 => mkL [x3]).bind fun rows4 => (((some (PyData.int 1)).bind fun v67 => ((some most2).bind fun v65 => (some (PyData.int 1)).bind fun v66 => fAdd v65 v66).bind fun v68 => rg2 v67 v68).bind fun xs64 => (forP some (l__law_all_1 arities1) rows4 xs64).bind fun (s63 : List D) => (some s63)))
theorem fs__law_all  : FSpec (d__law_all) (q_dd (p__law_all)) (fun a => .new a) (fun _ => []) := fspec_mk fun S as vs hao hnd a hF => by
  unfold q_dd at hF
  split at hF <;> first | (cases hF; done) | skip
  rename_i arities1 most2
  obtain ⟨_, rfl, _, rfl, rfl⟩ := hao
  refine ⟨rfl, p__law_all arities1 most2, ?_, hF⟩
  (have hnd : ([] : List Nat).Nodup := hnd; show HS S [] ([some (Pv.d arities1), some (Pv.d most2), none, none, none, none, none, none, none] : Env) _ (p__law_all arities1 most2) (PFn S [] (fun a => .new a) (fun _ => [])); unfold p__law_all; exact (hs_last (hs_assoc (hs_new (hp_lst (hd_1 (hp_en (hp_lst hd_0 rfl)) hd_0) rfl) (fun rows4 => (hs_assoc (hs_for (ev := fun (s5 : List D) => ([some (Pv.d arities1), some (Pv.d most2), some (Pv.c s5), none, none, none, none, none, none] : Env)) (hp_r2 (hp_c _) (hp_op (hp_var rfl) (hp_c _))) (.keep (.keep (.keep (.keep (.keep (.keep (.keep (.keep (.keep .nil))))))))) (fun _ => hg_n) (fun s5 y6 => by unfold l__law_all_1; exact (hs_last (hs_assoc (hs_new (hp_lst hd_0 rfl) (fun found7 => (hs_assoc (hs_for (ev := fun (s8 : List D) => ([some (Pv.d arities1), some (Pv.d most2), some (Pv.c s5), some (Pv.d y6), some (Pv.c s8), none, none, none, none] : Env)) (hp_r1 (hp_len (hp_qvar rfl))) (.keep (.keep (.keep (.keep (.keep (.keep (.keep (.keep (.keep .nil))))))))) (fun _ => hg_n) (fun s8 y9 => by unfold l__law_all_2; exact (hs_last (hs_assoc (hs_join (ev := fun (s10 : List D) => ([some (Pv.d arities1), some (Pv.d most2), some (Pv.c s5), some (Pv.d y6), some (Pv.c s10), some (Pv.d y9), none, none, none] : Env)) (hs_last (hs_if (hp_and (hp_tb (hp_op (hp_ixv rfl (hp_var rfl)) (hp_c _))) (hp_tb (hp_op (hp_var rfl) (hp_c _)))) (hs_app (k := none) rfl (hp_tup (hd_1 (hp_var rfl) hd_0) rfl) (fun ys17 => (hs_end (.keep (.keep (.keep (.keep (.keep (.keep (.keep (.keep (.keep .nil)))))))))))) (hs_skip (hs_end (.keep (.keep (.keep (.keep (.keep (.keep (.keep (.keep (.keep .nil))))))))))))) (fun s10 => (hs_assoc (hs_join (ev := fun (s20 : List D) => ([some (Pv.d arities1), some (Pv.d most2), some (Pv.c s5), some (Pv.d y6), some (Pv.c s20), some (Pv.d y9), none, none, none] : Env)) (hs_last (hs_if (hp_and (hp_tb (hp_op (hp_ixv rfl (hp_var rfl)) (hp_c _))) (hp_tb (hp_op (hp_var rfl) (hp_c _)))) (hs_extN (k := none) rfl (hp_lc (hp_qe (hp_ixv rfl (hp_op (hp_var rfl) (hp_c _)))) hg_n (fun y28 => hp_yes) (fun y28 => (hp_tup (hd_1 (hp_var rfl) (hd_1 (hp_var rfl) hd_0)) rfl))) (fun ys27 => (hs_end (.keep (.keep (.keep (.keep (.keep (.keep (.keep (.keep (.keep .nil)))))))))))) (hs_skip (hs_end (.keep (.keep (.keep (.keep (.keep (.keep (.keep (.keep (.keep .nil))))))))))))) (fun s20 => (hs_if (hp_tb (hp_op (hp_ixv rfl (hp_var rfl)) (hp_c _))) (hs_for (ev := fun (s37 : List D) => ([some (Pv.d arities1), some (Pv.d most2), some (Pv.c s5), some (Pv.d y6), some (Pv.c s37), some (Pv.d y9), none, none, none] : Env)) (hp_r2 (hp_c _) (hp_op (hp_var rfl) (hp_c _))) (.keep (.keep (.keep (.keep (.keep (.keep (.keep (.keep (.keep .nil))))))))) (fun _ => hg_n) (fun s37 y38 => by unfold l__law_all_3; exact (hs_last (hs_for (ev := fun (s39 : List D) => ([some (Pv.d arities1), some (Pv.d most2), some (Pv.c s5), some (Pv.d y6), some (Pv.c s39), some (Pv.d y9), none, some (Pv.d y38), none] : Env)) (hp_qe (hp_ixv rfl (hp_var rfl))) (.keep (.keep (.keep (.keep (.keep (.keep (.keep (.keep (.keep .nil))))))))) (fun _ => hg_n) (fun s39 y40 => by unfold l__law_all_4; exact (hs_last (hs_extN (k := none) rfl (hp_lc (hp_qe (hp_ixv rfl (hp_op (hp_op (hp_var rfl) (hp_c _)) (hp_var rfl)))) hg_n (fun y42 => hp_yes) (fun y42 => (hp_tup (hd_1 (hp_var rfl) (hd_1 (hp_var rfl) (hd_1 (hp_var rfl) hd_0))) rfl))) (fun ys41 => (hs_end (.keep (.keep (.keep (.keep (.keep (.keep (.drop (.keep (.keep .nil)))))))))))))) (fun s51 => (hs_end (.keep (.keep (.keep (.keep (.keep (.keep (.keep (.drop (.keep .nil)))))))))))))) (fun s53 => (hs_end (.keep (.keep (.keep (.keep (.keep (.drop (.keep (.keep (.keep .nil)))))))))))) (hs_skip (hs_end (.keep (.keep (.keep (.keep (.keep (.drop (.keep (.keep (.keep .nil)))))))))))))))))))) (fun s59 => (hs_fz rfl (hs_app (k := none) rfl (hp_var rfl) (fun ys60 => (hs_end (.keep (.keep (.keep (.drop (.drop (.keep (.keep (.keep (.keep .nil))))))))))))))))))))) (fun s63 => (hs_retV rfl rfl (fun _ _ t => (pf_rt t hnd rfl .nil)))))))))))
theorem c__law_all : ∀ j, 1 ≤ j → FSpec (lev j)._law_all (q_dd p__law_all) (fun a => .new a) (fun _ => [])
  | 0, h => by omega
  | j + 1, h => show FSpec (d__law_all) _ _ _ from fs__law_all
def l_law_1 (s6 : List D) (y7 : D) : Option (List D) :=
  ((some y7).bind fun v9 => (extD s6 v9).bind fun ys8 => (some ys8))
def l_law_2 (k : Nat) (rows14 : List D) (arities3 : D) (s15 : List D) (y16 : D) : Option (Step (List D) (D)) :=
  (bx (bx (lx s15 (((some y16).bind fun v17 => (some (PyData.int 8)).bind fun v18 => fLtX v17 v18).bind asB)) fun v19 s20 => if v19 then (p__law_pick s20 (PyData.list rows14)) else (bx (lx s20 (some (PyData.int 15))) fun v21 s22 => p__law_tree k s22 arities3 v21)) fun first23 s24 => (bx (bx (lx s24 (((some y16).bind fun v25 => (some (PyData.int 6)).bind fun v26 => fLtX v25 v26).bind asB)) fun v27 s28 => if v27 then (p__law_pick s28 (PyData.list rows14)) else (bx (lx s28 (some (PyData.int 9))) fun v29 s30 => p__law_tree k s30 arities3 v29)) fun second31 s32 => (((((((p_is_before k arities3 first23 second31).bind fun x33 => (p_is_before k arities3 first23 first23).bind fun x34 => mkL [x33, x34]).map PyData.list).bind fun a35 => ((((p__law_order k first23).bind fun v38 => (p__law_order k second31).bind fun v39 => fLtX v38 v39).bind fun x36 => (some (PyData.bool false)).bind fun x37 => mkL [x36, x37]).map PyData.list).bind fun a40 => p__law_equal k a35 a40).bind tru).map fun b => !b).bind fun c41 => if c41 then ((some (PyData.bool false)).bind fun r42 => some (Step.rt r42)) else ((((p_is_before k arities3 second31 first23).bind fun v48 => (((some first23).bind fun v43 => (some second31).bind fun v44 => fNe v43 v44).bind fun b47 => andO b47 (((p__law_order k first23).bind fun v45 => (p__law_order k second31).bind fun v46 => fLtX v45 v46).bind notO)).bind fun v49 => fNe v48 v49).bind asB).bind fun c50 => if c50 then ((some (PyData.bool false)).bind fun r51 => some (Step.rt r51)) else (some (Step.nx s32))))))
def p_law (k : Nat) (script1 : D) : Option (D) :=
  ((p__law_stream script1).bind fun stream2 => (bx (p__law_arities stream2) fun arities3 s4 => ((mkL []).bind fun rows5 => (((((some (PyData.int 5)).bind fun a64 => p__law_all arities3 a64).map PyData.list).bind asQ).bind fun xs63 => (forP some (l_law_1) rows5 xs63).bind fun (s10 : List D) => (((some none).bind fun l11 => ((some (PyData.int 300)).bind asI).bind fun h12 => (some s10).bind fun xs13 => some (cut xs13 l11 h12)).bind fun rows14 => (((some (PyData.int 12)).bind rg1).bind fun xs62 => (forR some (l_law_2 k rows14 arities3) s4 xs62).bind (afterR (fun (s52 : List D) => (bx (bx (lx s52 (some (PyData.int 3))) fun v53 s54 => p__law_tree k s54 arities3 v53) fun small55 s56 => (((((some rows14).bind (lcVz some (fun y57 => (some true)) (fun y57 => (p_is_tree arities3 y57)))).bind allD).bind fun b60 => andO b60 ((some small55).bind fun v58 => (some rows14).bind fun v59 => inO (fun b => b) v58 v59)).bind fun r61 => some r61))) (fun r => r))))))))
theorem fs_law {k : Nat} {F__law_stream : Fn} (c__law_stream : FSpec F__law_stream (q_d p__law_stream) (fun a => .new a) (fun _ => [])) {F__law_arities : Fn} (c__law_arities : FSpec F__law_arities (q_p p__law_arities) (fun a => .val a.1) (fun a => [a.2])) {F__law_all : Fn} (c__law_all : FSpec F__law_all (q_dd p__law_all) (fun a => .new a) (fun _ => [])) {F__law_pick : Fn} (c__law_pick : FSpec F__law_pick (q_pq p__law_pick) (fun a => .val a.1) (fun a => [a.2])) {F__law_tree : Fn} (c__law_tree : FSpec F__law_tree (q_pdd (p__law_tree k)) (fun a => .val a.1) (fun a => [a.2])) {F__law_equal : Fn} (c__law_equal : FSpec F__law_equal (q_dd (p__law_equal k)) (fun a => .val a) (fun _ => [])) {F__law_order : Fn} (c__law_order : FSpec F__law_order (q_d (p__law_order k)) (fun a => .val a) (fun _ => [])) {F_is_before : Fn} (c_is_before : FSpec F_is_before (q_ddd (p_is_before k)) (fun a => .val a) (fun _ => [])) {F_is_tree : Fn} (c_is_tree : FSpec F_is_tree (q_dd p_is_tree) (fun a => .val a) (fun _ => [])) : FSpec (d_law F__law_stream F__law_arities F__law_all F__law_pick F__law_tree F__law_equal F__law_order F_is_before F_is_tree) (q_d (p_law k)) (fun a => .val a) (fun _ => []) := fspec_mk fun S as vs hao hnd a hF => by
  unfold q_d at hF
  split at hF <;> first | (cases hF; done) | skip
  rename_i script1
  obtain ⟨_, rfl, rfl⟩ := hao
  refine ⟨rfl, p_law k script1, ?_, hF⟩
  (have hnd : ([] : List Nat).Nodup := hnd; show HS S [] ([some (Pv.d script1), none, none, none, none, none, none, none, none, none] : Env) _ (p_law k script1) (PFn S [] (fun a => .val a) (fun _ => [])); unfold p_law; exact (hs_last (hs_assoc (hs_new (hp_callN (ks := [.d]) c__law_stream rfl rfl (ha_v rfl ha_0) rfl) (fun stream2 => (hs_assoc (s_asgX (i := 1) (k := none) (x0 := stream2) rfl rfl (hx_callD (ks := [.p]) c__law_arities rfl rfl (hax_v rfl hax_0) rfl) (fun arities3 s4 => (hs_assoc (hs_new (hp_lst hd_0 rfl) (fun rows5 => (hs_assoc (hs_for (ev := fun (s6 : List D) => ([some (Pv.d script1), some (Pv.c s4), some (Pv.d arities3), some (Pv.c s6), none, none, none, none, none, none] : Env)) (hp_qe (hp_en (hp_callN (ks := [.d, .d]) c__law_all rfl rfl (ha_v rfl (ha_1 (hp_c _) ha_0)) rfl))) (.keep (.keep (.keep (.keep (.keep (.keep (.keep (.keep (.keep (.keep .nil)))))))))) (fun _ => hg_n) (fun s6 y7 => by unfold l_law_1; exact (hs_last (hs_extD (k := none) rfl (hp_var rfl) (fun ys8 => (hs_end (.keep (.keep (.keep (.keep (.drop (.keep (.keep (.keep (.keep (.keep .nil))))))))))))))) (fun s10 => (hs_assoc (hs_new (hp_slV rfl hp_o0 (hp_o1 (hp_c _))) (fun rows14 => (hs_assoc (hs_forR (ev := fun (s15 : List D) => ([some (Pv.d script1), some (Pv.c s15), some (Pv.d arities3), some (Pv.c rows14), none, none, none, none, none, none] : Env)) (hp_r1 (hp_c _)) (.keep (.keep (.keep (.keep (.keep (.keep (.keep (.keep (.keep (.keep .nil)))))))))) (fun _ => hg_n) (fun s15 y16 => by unfold l_law_2; exact (hs_last (hs_assoc (s_asgX (i := 1) (k := none) (x0 := s15) rfl rfl (x_ife (x_of (hp_tb (hp_op (hp_var rfl) (hp_c _)))) (fun s20 => (hx_callD (ks := [.p, .q]) c__law_pick rfl rfl (hax_v rfl (hax_v rfl hax_0)) rfl)) (fun s20 => (hx_callD (ks := [.p, .d, .d]) c__law_tree rfl rfl (hax_v rfl (hax_v rfl (xa_1 (x_of (hp_c _)) (fun s22 => hax_0)))) rfl))) (fun first23 s24 => (hs_assoc (s_asgX (i := 1) (k := none) (x0 := s24) rfl rfl (x_ife (x_of (hp_tb (hp_op (hp_var rfl) (hp_c _)))) (fun s28 => (hx_callD (ks := [.p, .q]) c__law_pick rfl rfl (hax_v rfl (hax_v rfl hax_0)) rfl)) (fun s28 => (hx_callD (ks := [.p, .d, .d]) c__law_tree rfl rfl (hax_v rfl (hax_v rfl (xa_1 (x_of (hp_c _)) (fun s30 => hax_0)))) rfl))) (fun second31 s32 => (hs_assoc (hs_if (hp_not (hp_tru (hp_callD (ks := [.d, .d]) c__law_equal rfl rfl (ha_1 (hp_en (hp_lst (hd_1 (hp_callD (ks := [.d, .d, .d]) c_is_before rfl rfl (ha_v rfl (ha_v rfl (ha_v rfl ha_0))) rfl) (hd_1 (hp_callD (ks := [.d, .d, .d]) c_is_before rfl rfl (ha_v rfl (ha_v rfl (ha_v rfl ha_0))) rfl) hd_0)) rfl)) (ha_1 (hp_en (hp_lst (hd_1 (hp_op (hp_callD (ks := [.d]) c__law_order rfl rfl (ha_v rfl ha_0) rfl) (hp_callD (ks := [.d]) c__law_order rfl rfl (ha_v rfl ha_0) rfl)) (hd_1 (hp_c _) hd_0)) rfl)) ha_0)) rfl))) (s_ret (hp_c _) (fun _ _ r42 t => (ps_rt (pi_rt (pf_rt t hnd rfl .nil))))) (hs_skip (hs_if (hp_tb (hp_op (hp_callD (ks := [.d, .d, .d]) c_is_before rfl rfl (ha_v rfl (ha_v rfl (ha_v rfl ha_0))) rfl) (hp_andv (hp_op (hp_var rfl) (hp_var rfl)) (hp_notv (hp_op (hp_callD (ks := [.d]) c__law_order rfl rfl (ha_v rfl ha_0) rfl) (hp_callD (ks := [.d]) c__law_order rfl rfl (ha_v rfl ha_0) rfl)))))) (s_ret (hp_c _) (fun _ _ r51 t => (ps_rt (pi_rt (pf_rt t hnd rfl .nil))))) (hs_skip (hs_endS (.keep (.keep (.keep (.keep (.keep (.drop (.drop (.drop (.keep (.keep .nil)))))))))))))))))))))))) (fun s52 => (hs_assoc (s_asgX (i := 1) (k := none) (x0 := s52) rfl rfl (hx_callD (ks := [.p, .d, .d]) c__law_tree rfl rfl (hax_v rfl (hax_v rfl (xa_1 (x_of (hp_c _)) (fun s54 => hax_0)))) rfl) (fun small55 s56 => (s_ret (hp_andv (hp_all (hp_lcV rfl hg_n (fun y57 => hp_yes) (fun y57 => (hp_callD (ks := [.d, .d]) c_is_tree rfl rfl (ha_v rfl (ha_v rfl ha_0)) rfl)))) (hp_inq (hp_var rfl) (hp_qvar rfl))) (fun _ _ r61 t => (pf_rt t hnd rfl .nil))))))))))))))))))))))))))
theorem c_law : ∀ k j, k + 8 ≤ j → FSpec (lev j).law (q_d (p_law k)) (fun a => .val a) (fun _ => [])
  | k, 0, h => by omega
  | k, j + 1, h => show FSpec (d_law (lev j)._law_stream (lev j)._law_arities (lev j)._law_all (lev j)._law_pick (lev j)._law_tree (lev j)._law_equal (lev j)._law_order (lev j).is_before (lev j).is_tree) _ _ _ from fs_law (c__law_stream j (by omega)) (c__law_arities j (by omega)) (c__law_all j (by omega)) (c__law_pick j (by omega)) (c__law_tree k j (by omega)) (c__law_equal k j (by omega)) (c__law_order k j (by omega)) (c_is_before k j (by omega)) (c_is_tree j (by omega))
end G
set_option linter.all false
set_option autoImplicit false
set_option maxRecDepth 100000
set_option maxHeartbeats 2000000
namespace G
open PySem L2
mutual
def nd : D → Bool
  | .dict _ => false
  | .list xs => nds xs
  | .tuple xs => nds xs
  | _ => true
def nds : List D → Bool
  | [] => true
  | x :: r => nd x && nds r
end
theorem kit1 : kitB "NoneType" "int" = some false ∧ kitB "bool" "int" = some true ∧ kitB "int" "int" = some true ∧ kitB "str" "int" = some false ∧ kitB "list" "int" = some false ∧ kitB "tuple" "int" = some false := by decide +kernel
theorem kit2 : kitB "NoneType" "bool" = some false ∧ kitB "bool" "bool" = some true ∧ kitB "int" "bool" = some false ∧ kitB "str" "bool" = some false ∧ kitB "list" "bool" = some false ∧ kitB "tuple" "bool" = some false := by decide +kernel
theorem kit3 : kitB "NoneType" "tuple" = some false ∧ kitB "bool" "tuple" = some false ∧ kitB "int" "tuple" = some false ∧ kitB "str" "tuple" = some false ∧ kitB "list" "tuple" = some false ∧ kitB "tuple" "tuple" = some true := by decide +kernel
theorem kit4 : kitB "NoneType" "str" = some false ∧ kitB "bool" "str" = some false ∧ kitB "int" "str" = some false ∧ kitB "str" "str" = some true ∧ kitB "list" "str" = some false ∧ kitB "tuple" "str" = some false := by decide +kernel
theorem kit5 : kitB "NoneType" "list" = some false ∧ kitB "bool" "list" = some false ∧ kitB "int" "list" = some false ∧ kitB "str" "list" = some false ∧ kitB "list" "list" = some true ∧ kitB "tuple" "list" = some false := by decide +kernel
def isInt (v : D) (l m : Int) : Bool := match v with
  | .int i => decide (l ≤ i) && decide (i ≤ m)
  | _ => false
def notDict (v : D) : Bool := match v with | .dict _ => false | _ => true
def isTup (v : D) (l m : Int) : Bool := match v with
  | .tuple xs => decide (l ≤ xs.length) && decide ((xs.length : Int) ≤ m)
  | _ => false
theorem bools_map {α : Type} (f : α → Bool) : ∀ xs : List α, bools (xs.map fun x => PyData.bool (f x)) = some (xs.map f)
  | [] => rfl
  | x :: xs => by
    show (bools (xs.map fun x => PyData.bool (f x))).map (f x :: ·) = _
    rw [bools_map f xs]
    rfl
theorem all_map_id {α : Type} (f : α → Bool) (xs : List α) : (xs.map f).all id = xs.all f := by
  induction xs with
  | nil => rfl
  | cons x xs ih => simp [ih]
def isAr (v : D) : Bool := match v with
  | .tuple xs => decide (1 ≤ xs.length) && decide (xs.length ≤ 4) && xs.all fun x => isInt x 0 2
  | _ => false
def okv (v : D) : Bool := match v with
  | .tuple xs => xs.all notDict && decide (xs.length ≤ 1000000)
  | .dict _ => false
  | _ => true
theorem okv_nd {v : D} (h : okv v = true) : notDict v = true := by
  cases v <;> first | rfl | exact h
theorem sh_int (i : Int) : SeqAt.shaped (.int i) = true := rfl
theorem ev_int (i j : Int) : PyData.eqv (.int i) (.int j) = decide (i = j) := by
  have h : PyData.eqv (.int i) (.int j) = (i == j) := rfl
  rw [h, Bool.beq_eq_decide_eq]
theorem atI_0 {α : Type} (x : α) (r : List α) : atI (x :: r) 0 = some x := by simp [atI, ixN]
theorem atI_n {α : Type} {xs : List α} {i : Int} (h0 : 0 ≤ i) (h : i < xs.length) : atI xs i = xs[i.toNat]? := by
  unfold atI ixN
  rw [if_pos h0, if_pos h]
  rfl
abbrev dA (A : List Int) : D := .tuple (A.map .int)
def nodeOk (A : List Int) (v : D) : Bool := match v with
  | .tuple (.int s :: r) => decide (r.length ≤ 2) && (decide (0 ≤ s) && (decide (s < A.length) && decide ((r.length : Int) = A.getD s.toNat 0)))
  | _ => false
def kids (v : D) : List D := match v with
  | .tuple (_ :: r) => r
  | _ => []
def trRun (A : List Int) : Nat → List D → Int → Option Bool
  | 0, _, _ => none
  | f + 1, stk, k => match stk.getLast? with
    | none => some true
    | some v => if 15 < k + 1 ∨ nodeOk A v = false then some false else trRun A f (stk.dropLast ++ kids v) (k + 1)
theorem ok_kids {A : List Int} {v : D} (h : nodeOk A v = true) : ∃ x r, v = .tuple (x :: r) ∧ kids v = r ∧ r.length ≤ 2 := by
  unfold nodeOk at h
  split at h
  · rename_i s r
    rw [Bool.and_eq_true] at h
    exact ⟨_, _, rfl, rfl, of_decide_eq_true h.1⟩
  · cases h
theorem cut_from {α : Type} (xs : List α) (k : Nat) : cut xs (some (k : Int)) none = xs.drop k := by
  unfold cut
  rw [HT.sIx_nat, HT.sIx_none]
  by_cases h : k ≤ xs.length
  · rw [Nat.min_eq_left h]
    exact List.take_of_length_le (by rw [List.length_drop]; omega)
  · rw [Nat.min_eq_right (by omega), List.drop_eq_nil_of_le (Nat.le_refl _), List.drop_eq_nil_of_le (by omega)]
    simp
theorem cut_to {α : Type} (xs : List α) (k : Nat) : cut xs none (some (k : Int)) = xs.take k := by
  unfold cut
  rw [HT.sIx_nat, HT.sIx_none, List.drop_zero, Nat.sub_zero]
  by_cases h : k ≤ xs.length
  · rw [Nat.min_eq_left h]
  · rw [Nat.min_eq_right (by omega), List.take_of_length_le (Nat.le_refl _), List.take_of_length_le (by omega)]
theorem cut_f1 {α : Type} (x : α) (r : List α) : cut (x :: r) (some 1) none = r := cut_from (x :: r) 1
theorem tr_last {α : Type} (S0 : List α) (x : α) : (S0 ++ [x])[S0.length]? = some x := by simp
theorem tr_set {α : Type} (S0 : List α) (x y : α) : (S0 ++ [x]).set S0.length y = S0 ++ [y] := by simp
theorem last_some {α : Type} {xs : List α} {v : α} (h : xs.getLast? = some v) : xs = xs.dropLast ++ [v] := by
  obtain ⟨ys, rfl⟩ := List.getLast?_eq_some_iff.mp h
  simp
mutual
def dk : D → Bool
  | .dict _ => false
  | .tuple xs => dks xs && decide (xs.length ≤ 1000000)
  | _ => true
def dks : List D → Bool
  | [] => true
  | x :: r => dk x && dks r
end
theorem dks_mem : ∀ {xs : List D}, dks xs = true → ∀ x ∈ xs, dk x = true
  | y :: r, h, x, hx => by
    unfold dks at h
    rw [Bool.and_eq_true] at h
    rcases List.mem_cons.mp hx with e | hx
    · rw [e]; exact h.1
    · exact dks_mem h.2 x hx
theorem dk_nd {v : D} (h : dk v = true) : notDict v = true := by
  cases v with
  | dict _ => unfold dk at h; cases h
  | _ => rfl
theorem dk_ok {v : D} (h : dk v = true) : okv v = true := by
  cases v with
  | tuple xs =>
    unfold dk at h
    rw [Bool.and_eq_true] at h
    show (xs.all notDict && decide (xs.length ≤ 1000000)) = true
    rw [h.2, Bool.and_true, List.all_eq_true]
    exact fun x hx => dk_nd (dks_mem h.1 x hx)
  | dict _ => unfold dk at h; cases h
  | _ => rfl
theorem dk_kids {A : List Int} {v : D} (h : dk v = true) (c : nodeOk A v = true) : ∀ u ∈ kids v, dk u = true := by
  obtain ⟨x, r, rfl, hk, hr⟩ := ok_kids c
  rw [hk]
  unfold dk at h
  rw [Bool.and_eq_true] at h
  exact fun u hu => dks_mem h.1 u (List.mem_cons_of_mem _ hu)
inductive T where
  | l (s : Nat)
  | u (s : Nat) (a : T)
  | b (s : Nat) (x y : T)
def T.d : T → D
  | .l s => .tuple [.int s]
  | .u s a => .tuple [.int s, a.d]
  | .b s x y => .tuple [.int s, x.d, y.d]
def T.n : T → Nat
  | .l _ => 1
  | .u _ a => a.n + 1
  | .b _ x y => x.n + y.n + 1
def T.ok (A : List Int) : T → Prop
  | .l s => A[s]? = some 0
  | .u s a => A[s]? = some 1 ∧ a.ok A
  | .b s x y => A[s]? = some 2 ∧ x.ok A ∧ y.ok A
def T.kids : T → List T
  | .l _ => []
  | .u _ a => [a]
  | .b _ x y => [x, y]
theorem T.dk : ∀ t : T, G.dk t.d = true
  | .l s => by simp [T.d, G.dk, G.dks]
  | .u s a => by simp [T.d, G.dk, G.dks, T.dk a]
  | .b s x y => by simp [T.d, G.dk, G.dks, T.dk x, T.dk y]
theorem T.kd (t : T) : G.kids t.d = t.kids.map T.d := by cases t <;> rfl
theorem T.n_pos (t : T) : 1 ≤ t.n := by cases t <;> simp [T.n]
def sumn (ts : List T) : Nat := (ts.map T.n).sum
theorem sumn_append (a b : List T) : sumn (a ++ b) = sumn a + sumn b := by simp [sumn]
theorem T.n_kids (t : T) : t.n = sumn t.kids + 1 := by cases t <;> simp [T.n, T.kids, sumn]
theorem nodeOk_mk {A : List Int} {s : Nat} {r : List D} {a : Nat} (h : A[s]? = some (a : Int)) (ha : a ≤ 2) (hr : r.length = a) : nodeOk A (.tuple (.int s :: r)) = true := by
  have hl := (List.getElem?_eq_some_iff.mp h).1
  unfold nodeOk
  have e : A.getD ((s : Int)).toNat 0 = (a : Int) := by
    rw [List.getD_eq_getElem?_getD, Int.toNat_natCast, h]
    rfl
  simp only [e, hr, decide_eq_true_eq, Bool.and_eq_true]
  exact ⟨ha, by omega, by omega, trivial⟩
theorem T.node {A : List Int} {t : T} (h : t.ok A) : nodeOk A t.d = true := by
  cases t with
  | l s => exact nodeOk_mk (a := 0) h (by omega) rfl
  | u s a => exact nodeOk_mk (a := 1) h.1 (by omega) rfl
  | b s x y => exact nodeOk_mk (a := 2) h.1 (by omega) rfl
theorem T.kok {A : List Int} {t : T} (h : t.ok A) : ∀ u ∈ t.kids, u.ok A := by
  cases t with
  | l s => intro u hu; cases hu
  | u s a => intro u hu; rw [List.mem_singleton.mp hu]; exact h.2
  | b s x y =>
    intro u hu
    rcases List.mem_cons.mp hu with e | hu
    · rw [e]; exact h.2.1
    · rw [List.mem_singleton.mp hu]; exact h.2.2
theorem tr_step {A : List Int} {f : Nat} {ts : List T} {t : T} {k : Int} (h : t.ok A) (hk : ¬ 15 < k + 1) : trRun A (f + 1) ((ts ++ [t]).map T.d) k = trRun A f ((ts ++ t.kids).map T.d) (k + 1) := by
  have e1 : ((ts ++ [t]).map T.d).getLast? = some t.d := by simp
  have e2 : ((ts ++ [t]).map T.d).dropLast = ts.map T.d := by simp
  show (match ((ts ++ [t]).map T.d).getLast? with | none => some true | some v => if 15 < k + 1 ∨ nodeOk A v = false then some false else trRun A f (((ts ++ [t]).map T.d).dropLast ++ G.kids v) (k + 1)) = _
  rw [e1]
  simp only
  rw [if_neg (by rw [T.node h]; simp; omega), e2, T.kd, List.map_append]
theorem tr_good {A : List Int} : ∀ (f : Nat) (ts : List T) (k : Int), (∀ t ∈ ts, t.ok A) → k + sumn ts ≤ 15 → sumn ts < f → trRun A f (ts.map T.d) k = some true
  | f + 1, ts, k, ho, hk, hf => by
    rcases List.eq_nil_or_concat ts with e | ⟨us, t, e⟩
    · subst e; rfl
    · rw [List.concat_eq_append] at e
      subst e
      rw [sumn_append] at hk hf
      have h1 : sumn [t] = t.n := by simp [sumn]
      have h2 := t.n_kids
      rw [tr_step (ho t (by simp)) (by omega)]
      refine tr_good f _ _ (fun u hu => ?_) ?_ ?_
      · rcases List.mem_append.mp hu with hu | hu
        · exact ho u (by simp [hu])
        · exact T.kok (ho t (by simp)) u hu
      · rw [sumn_append]; omega
      · rw [sumn_append]; omega
theorem tr_big {A : List Int} : ∀ (f : Nat) (ts : List T) (k : Int), (∀ t ∈ ts, t.ok A) → k ≤ 15 → 15 < k + sumn ts → 17 ≤ f + k → trRun A f (ts.map T.d) k = some false
  | 0, ts, k, ho, h15, hk, hf => by omega
  | f + 1, ts, k, ho, h15, hk, hf => by
    rcases List.eq_nil_or_concat ts with e | ⟨us, t, e⟩
    · subst e
      have : sumn [] = 0 := rfl
      omega
    · rw [List.concat_eq_append] at e
      subst e
      by_cases c : 15 < k + 1
      · show (match ((us ++ [t]).map T.d).getLast? with | none => some true | some v => if 15 < k + 1 ∨ nodeOk A v = false then some false else trRun A f (((us ++ [t]).map T.d).dropLast ++ G.kids v) (k + 1)) = _
        have e1 : ((us ++ [t]).map T.d).getLast? = some t.d := by simp
        rw [e1]
        simp only
        rw [if_pos (.inl c)]
      · rw [sumn_append] at hk
        have h1 : sumn [t] = t.n := by simp [sumn]
        have h2 := t.n_kids
        rw [tr_step (ho t (by simp)) c]
        refine tr_big f _ _ (fun u hu => ?_) (by omega) ?_ (by omega)
        · rcases List.mem_append.mp hu with hu | hu
          · exact ho u (by simp [hu])
          · exact T.kok (ho t (by simp)) u hu
        · rw [sumn_append]; omega
inductive Bad (A : List Int) : D → Prop
  | here {v : D} : nodeOk A v = false → Bad A v
  | kid {v u : D} : u ∈ kids v → Bad A u → Bad A v
theorem tr_bad {A : List Int} : ∀ (f : Nat) (stk : List D) (k : Int), (∃ v ∈ stk, Bad A v) → k ≤ 15 → 17 ≤ f + k → trRun A f stk k = some false
  | 0, stk, k, hb, h15, hf => by omega
  | f + 1, stk, k, hb, h15, hf => by
    obtain ⟨v, hv, bv⟩ := hb
    cases e : stk.getLast? with
    | none =>
      have e0 : stk = [] := List.getLast?_eq_none_iff.mp e
      subst e0
      cases hv
    | some x =>
      unfold trRun
      rw [e]
      simp only
      by_cases c : 15 < k + 1 ∨ nodeOk A x = false
      · rw [if_pos c]
      · rw [if_neg c]
        have es := last_some e
        refine tr_bad f _ _ ?_ (by omega) (by omega)
        rw [es] at hv
        rcases List.mem_append.mp hv with hv | hv
        · exact ⟨v, List.mem_append_left _ hv, bv⟩
        · rw [List.mem_singleton] at hv
          subst hv
          cases bv with
          | here h => exact absurd (.inr h) c
          | kid h1 h2 => exact ⟨_, List.mem_append_right _ h1, h2⟩
abbrev Cell (ns : List Int) (c k : Int) : List D := [.list (ns.map .int), .int c, .int k]
def first (ns : List Int) (k : Int) : Int := if k < (ns.length : Int) then (if ns.getD k.toNat 0 < 0 then -(ns.getD k.toNat 0) else ns.getD k.toNat 0) else 7 + k
def mix (c k : Int) : Int := if c < 1000000000000000000 then ((c * 48271 + k * 69621 + 11) % 2147483647 * 16807 + 13) % 2147483647 * 65537 + (c * 48271 + k * 69621 + 11) % 2147483647 else c
def nxt (ns : List Int) (c k : Int) : Int × Int := if c = 0 then (mix (first ns k) k, k + 1) else (c, k)
theorem a30 {α : Type} (x y z : α) : atI [x, y, z] 0 = some x := rfl
theorem a31 {α : Type} (x y z : α) : atI [x, y, z] 1 = some y := rfl
theorem a32 {α : Type} (x y z : α) : atI [x, y, z] 2 = some z := rfl
theorem i31 : ixN 3 1 = some 1 := rfl
theorem i32 : ixN 3 2 = some 2 := rfl
theorem first_nn (ns : List Int) (k : Int) (hk : 0 ≤ k) : 0 ≤ first ns k := by
  unfold first
  split
  · split <;> omega
  · omega
theorem mix_nn (c k : Int) (hc : 0 ≤ c) : 0 ≤ mix c k := by
  unfold mix
  split
  · have a1 := Int.emod_nonneg (c * 48271 + k * 69621 + 11) (show (2147483647 : Int) ≠ 0 by decide)
    have a2 := Int.emod_nonneg ((c * 48271 + k * 69621 + 11) % 2147483647 * 16807 + 13) (show (2147483647 : Int) ≠ 0 by decide)
    omega
  · exact hc
theorem at_get {α : Type} {xs : List α} {g : Int} (h0 : 0 ≤ g) (h1 : g < xs.length) : ∃ x, x ∈ xs ∧ atI xs g = some x := by
  have hg : g.toNat < xs.length := by omega
  exact ⟨xs[g.toNat], List.getElem_mem hg, by rw [atI_n h0 h1, List.getElem?_eq_getElem hg]⟩
abbrev iD (l : List Nat) : List D := l.map fun (i : Nat) => PyData.int (i : Int)
abbrev pD (p : List Nat) : D := .tuple (iD p)
inductive Stp where
  | s0 (c : Nat)
  | s1 (l : List Nat)
  | s2 (l : List (List Nat))
def Stp.d : Stp → D
  | .s0 c => .int c
  | .s1 l => pD l
  | .s2 l => .tuple (l.map pD)
def ltl (m : Nat) (l : List Nat) : Prop := l.length = m ∧ ∀ c ∈ l, c < m
def Stp.ok (m : Nat) : Int → Stp → Prop := fun a s => match s with
  | .s0 c => a = 0 ∧ c < m
  | .s1 l => a = 1 ∧ ltl m l
  | .s2 l => a = 2 ∧ l.length = m ∧ ∀ r ∈ l, ltl m r
theorem bR {m : Nat} (h : m ≤ 1000) : bRng (m : Int) = true := by unfold bRng; exact decide_eq_true (by omega)
structure Ar (A : List Int) : Prop where
  leaf : ∃ i : Nat, A[i]? = some 0
  le : ∀ a ∈ A, 0 ≤ a ∧ a ≤ 2
  len : 1 ≤ A.length ∧ A.length ≤ 4
def ars : List (List Int) := [[0, 0, 2], [0, 1], [0, 2], [0, 1, 2], [2, 0, 1], [0, 0, 1]]
theorem ars_ar : ∀ A ∈ ars, Ar A := by
  intro A h
  simp only [ars, List.mem_cons, List.not_mem_nil, or_false] at h
  rcases h with rfl | rfl | rfl | rfl | rfl | rfl
  · exact ⟨⟨0, rfl⟩, by decide, by decide⟩
  · exact ⟨⟨0, rfl⟩, by decide, by decide⟩
  · exact ⟨⟨0, rfl⟩, by decide, by decide⟩
  · exact ⟨⟨0, rfl⟩, by decide, by decide⟩
  · exact ⟨⟨1, rfl⟩, by decide, by decide⟩
  · exact ⟨⟨0, rfl⟩, by decide, by decide⟩
inductive StOk (m : Nat) : List Int → List Stp → Prop
  | nil : StOk m [] []
  | cons {a : Int} {s : Stp} {A : List Int} {r : List Stp} : s.ok m a → StOk m A r → StOk m (a :: A) (s :: r)
theorem StOk.len {m : Nat} {A : List Int} {r : List Stp} (h : StOk m A r) : r.length = A.length := by
  induction h with
  | nil => rfl
  | cons _ _ ih => simp [ih]
theorem StOk.get {m : Nat} {A : List Int} {r : List Stp} (h : StOk m A r) : ∀ {i : Nat} {a : Int}, A[i]? = some a → ∃ s, r[i]? = some s ∧ s.ok m a := by
  induction h with
  | nil => intro i a e; cases e
  | cons h1 h2 ih =>
    intro i a e
    cases i with
    | zero => cases e; exact ⟨_, rfl, h1⟩
    | succ i => exact ih e
def auD (A : List Int) (good : List Bool) (sts : List Stp) : D := .tuple [dA A, .tuple (good.map .bool), .tuple (sts.map Stp.d)]
structure AuOk (A : List Int) (good : List Bool) (sts : List Stp) : Prop where
  ar : Ar A
  len : 1 ≤ good.length ∧ good.length ≤ 4
  st : StOk good.length A sts
theorem stOk_of {m : Nat} : ∀ {A : List Int} {sts : List Stp}, sts.length = A.length → (∀ (i : Nat) (a : Int), A[i]? = some a → ∃ s : Stp, sts[i]? = some s ∧ s.ok m a) → StOk m A sts
  | [], [], _, _ => .nil
  | a :: A, s :: sts, hl, h => by
    obtain ⟨s', e, o⟩ := h 0 a rfl
    cases e
    exact .cons o (stOk_of (by simpa using hl) fun i b e => h (i + 1) b e)
theorem isAr_dA {A : List Int} (hA : Ar A) : isAr (dA A) = true ∧ okv (dA A) = true := by
  have hl := hA.len
  refine ⟨?_, ?_⟩
  · show (decide (1 ≤ (A.map PyData.int).length) && decide ((A.map PyData.int).length ≤ 4) && (A.map PyData.int).all fun x => isInt x 0 2) = true
    rw [Bool.and_eq_true, Bool.and_eq_true, decide_eq_true_eq, decide_eq_true_eq, List.length_map, List.all_eq_true]
    refine ⟨hl, fun x hx => ?_⟩
    obtain ⟨a, ha, rfl⟩ := List.mem_map.mp hx
    have := hA.le a ha
    show (decide (0 ≤ a) && decide (a ≤ 2)) = true
    rw [Bool.and_eq_true, decide_eq_true_eq, decide_eq_true_eq]
    exact this
  · show ((A.map PyData.int).all notDict && decide ((A.map PyData.int).length ≤ 1000000)) = true
    rw [Bool.and_eq_true, decide_eq_true_eq, List.length_map, List.all_eq_true]
    refine ⟨fun x hx => ?_, by omega⟩
    obtain ⟨a, ha, rfl⟩ := List.mem_map.mp hx
    rfl
theorem all_tt {α : Type} (xs : List α) : (xs.map fun _ => true).all id = true := by rw [List.all_eq_true]; intro x hx; obtain ⟨_, _, rfl⟩ := List.mem_map.mp hx; rfl
theorem bools_c {α : Type} (xs : List α) : bools (xs.map fun _ => PyData.bool true) = some (xs.map fun _ => true) := bools_map (fun _ => true) xs
theorem bools_o {α β : Type} (f : α → β) (xs : List α) : bools (List.map ((fun _ => PyData.bool true) ∘ f) xs) = some (xs.map fun _ => true) := bools_map (fun _ => true) xs
theorem st_mem {m : Nat} {A : List Int} {r : List Stp} (h : StOk m A r) : ∀ x ∈ zipD (r.map Stp.d) (A.map .int), ∃ (e : Stp) (a : Int), x = .tuple [e.d, .int a] ∧ e.ok m a := by
  induction h with
  | nil => intro x hx; cases hx
  | @cons a e A r h1 h2 ih =>
    intro x hx
    rcases List.mem_cons.mp hx with rfl | hx
    · exact ⟨e, a, rfl, h1⟩
    · exact ih x hx
theorem zip_len {m : Nat} {A : List Int} {r : List Stp} (h : StOk m A r) : (zipD (r.map Stp.d) (A.map .int)).length = A.length := by rw [zipD_len, List.length_map, List.length_map, h.len, Nat.min_self]
def nth (cs : List Nat) (i : Nat) : Nat := cs.getD i 0
def app : Stp → List Nat → Nat
  | .s0 c, _ => c
  | .s1 l, [q] => nth l q
  | .s2 l, [q, r] => nth (l.getD q []) r
  | _, _ => 0
theorem at_i {cs : List Nat} {i : Nat} (h : i < cs.length) : atI (iD cs) (i : Int) = some (.int (nth cs i : Nat)) := by
  unfold nth
  rw [atI_n (by omega) (by rw [List.length_map]; omega), Int.toNat_natCast, List.getElem?_map, List.getElem?_eq_getElem h, List.getD_eq_getElem?_getD, List.getElem?_eq_getElem h]
  rfl
theorem at_l {cs : List (List Nat)} {i : Nat} (h : i < cs.length) : atI (cs.map pD) (i : Int) = some (pD (cs.getD i [])) := by
  rw [atI_n (by omega) (by rw [List.length_map]; omega), Int.toNat_natCast, List.getElem?_map, List.getElem?_eq_getElem h, List.getD_eq_getElem?_getD, List.getElem?_eq_getElem h]
  rfl
theorem getD_mem {α : Type} {cs : List α} {i : Nat} {d : α} (h : i < cs.length) : cs.getD i d ∈ cs := by
  rw [List.getD_eq_getElem?_getD, List.getElem?_eq_getElem h]
  exact List.getElem_mem h
theorem app_lt {m : Nat} {a : Int} {s : Stp} (h : s.ok m a) {qs : List Nat} (hl : (qs.length : Int) = a) (hq : ∀ q ∈ qs, q < m) : app s qs < m := by
  cases s with
  | s0 c => exact h.2
  | s1 l =>
    obtain ⟨rfl, h1, h2⟩ := h
    match qs, hl, hq with
    | [q], _, hq =>
      exact h2 _ (getD_mem (by have := hq q (by simp); omega))
    | [], hl, _ => simp at hl
    | _ :: _ :: _, hl, _ => simp at hl; omega
  | s2 l =>
    obtain ⟨rfl, h1, h2⟩ := h
    match qs, hl, hq with
    | [q, r], _, hq =>
      have hr := h2 _ (getD_mem (d := []) (i := q) (cs := l) (by have := hq q (by simp); omega))
      exact hr.2 _ (getD_mem (by have := hq r (by simp); rw [hr.1]; omega))
    | [], hl, _ => simp at hl
    | [_], hl, _ => simp at hl
    | _ :: _ :: _ :: _, hl, _ => simp at hl; omega
def stp (sts : List Stp) (i : Nat) : Stp := sts.getD i (.s0 0)
def st (sts : List Stp) : T → Nat
  | .l s => app (stp sts s) []
  | .u s a => app (stp sts s) [st sts a]
  | .b s x y => app (stp sts s) [st sts x, st sts y]
theorem stp_get {m : Nat} {A : List Int} {sts : List Stp} (h : StOk m A sts) {i : Nat} {a : Int} (e : A[i]? = some a) : (stp sts i).ok m a ∧ atI (sts.map Stp.d) (i : Int) = some (stp sts i).d := by
  obtain ⟨s, e1, o⟩ := h.get e
  have hi := (List.getElem?_eq_some_iff.mp e1).1
  have es : stp sts i = s := by unfold stp; rw [List.getD_eq_getElem?_getD, e1]; rfl
  rw [es]
  refine ⟨o, ?_⟩
  rw [atI_n (by omega) (by rw [List.length_map]; omega), Int.toNat_natCast, List.getElem?_map, e1]
  rfl
theorem st_lt {m : Nat} {A : List Int} {sts : List Stp} (h : StOk m A sts) : ∀ t : T, t.ok A → st sts t < m
  | .l s, o => app_lt (stp_get h o).1 rfl (by simp)
  | .u s a, o => app_lt (stp_get h o.1).1 rfl (by intro q hq; rw [List.mem_singleton.mp hq]; exact st_lt h a o.2)
  | .b s x y, o => app_lt (stp_get h o.1).1 rfl (by
      intro q hq
      rcases List.mem_cons.mp hq with rfl | hq
      · exact st_lt h x o.2.1
      · rw [List.mem_singleton.mp hq]; exact st_lt h y o.2.2)
theorem sh_ints : ∀ p : List Nat, PyData.canLayAll0 (p.map fun (i : Nat) => PyData.int (i : Int)) = true ∧ PyData.depthAll (p.map fun (i : Nat) => PyData.int (i : Int)) = 0
  | [] => ⟨rfl, rfl⟩
  | i :: p => by
    obtain ⟨h1, h2⟩ := sh_ints p
    refine ⟨?_, ?_⟩
    · show (true && PyData.canLayAll0 _) = true
      rw [h1]; rfl
    · show max 0 (PyData.depthAll _) = 0
      rw [h2]; rfl
theorem sh_place (p : List Nat) : SeqAt.shaped (pD p) = true := by
  obtain ⟨h1, h2⟩ := sh_ints p
  show (PyData.canLayAll0 _ && decide (PyData.depthAll _ + 1 ≤ 64)) = true
  rw [h1, h2]
  rfl
theorem sh_nil : SeqAt.shaped (.tuple []) = true := rfl
theorem ev_nil (p : List Nat) : PyData.eqv (pD p) (.tuple []) = p.isEmpty := by
  cases p <;> rfl
theorem c_t1 {α : Type} (xs : List α) : cut xs none (some 1) = xs.take 1 := cut_to xs 1
theorem c_t2 {α : Type} (xs : List α) : cut xs none (some 2) = xs.take 2 := cut_to xs 2
theorem c_f2 {α : Type} (xs : List α) : cut xs (some 2) none = xs.drop 2 := cut_from xs 2
theorem c_f3 {α : Type} (xs : List α) : cut xs (some 3) none = xs.drop 3 := cut_from xs 3
def T.has : T → List Nat → Prop
  | _, [] => True
  | .u _ a, 0 :: p => a.has p
  | .b _ x _, 0 :: p => x.has p
  | .b _ _ y, 1 :: p => y.has p
  | _, _ => False
def T.putD (x : D) : T → List Nat → D
  | _, [] => x
  | .l s, _ :: _ => x
  | .u s a, _ :: p => .tuple [.int s, a.putD x p]
  | .b s a y, 0 :: p => .tuple [.int s, a.putD x p, y.d]
  | .b s a y, _ :: p => .tuple [.int s, a.d, y.putD x p]
theorem a21 {α : Type} (x y : α) : atI [x, y] 1 = some y := rfl
def T.places : T → List (List Nat)
  | .l _ => [[]]
  | .u _ a => [] :: a.places.map (0 :: ·)
  | .b _ x y => [] :: (x.places.map (0 :: ·) ++ y.places.map (1 :: ·))
theorem T.places_len : ∀ t : T, t.places.length = t.n
  | .l s => rfl
  | .u s a => by simp [T.places, T.n, T.places_len a]
  | .b s x y => by simp [T.places, T.n, T.places_len x, T.places_len y]
theorem places_plen : ∀ (t : T), ∀ z ∈ t.places, z.length < t.n
  | .l s, z, hz => by rw [List.mem_singleton.mp hz]; simp [T.n]
  | .u s a, z, hz => by
    rcases List.mem_cons.mp hz with e | hz
    · rw [e]; simp [T.n]
    · obtain ⟨y, hy, rfl⟩ := List.mem_map.mp hz
      have := places_plen a y hy
      simp [T.n]; omega
  | .b s x y, z, hz => by
    rcases List.mem_cons.mp hz with e | hz
    · rw [e]; simp [T.n]
    · rcases List.mem_append.mp hz with hz | hz
      · obtain ⟨w, hw, rfl⟩ := List.mem_map.mp hz
        have := places_plen x w hw
        simp [T.n]; omega
      · obtain ⟨w, hw, rfl⟩ := List.mem_map.mp hz
        have := places_plen y w hw
        simp [T.n]; omega
theorem places_has : ∀ (t : T), ∀ z ∈ t.places, t.has z
  | .l s, z, hz => by rw [List.mem_singleton.mp hz]; trivial
  | .u s a, z, hz => by
    rcases List.mem_cons.mp hz with e | hz
    · rw [e]; trivial
    · obtain ⟨y, hy, rfl⟩ := List.mem_map.mp hz
      exact places_has a y hy
  | .b s x y, z, hz => by
    rcases List.mem_cons.mp hz with e | hz
    · rw [e]; trivial
    · rcases List.mem_append.mp hz with hz | hz
      · obtain ⟨w, hw, rfl⟩ := List.mem_map.mp hz
        exact places_has x w hw
      · obtain ⟨w, hw, rfl⟩ := List.mem_map.mp hz
        exact places_has y w hw
theorem r00 : rng 0 0 = [] := rfl
theorem r01 : rng 0 1 = [.int 0] := rfl
theorem r02 : rng 0 2 = [.int 0, .int 1] := rfl
def T.sub : T → List Nat → T
  | t, [] => t
  | .l s, _ :: _ => .l s
  | .u _ a, _ :: p => a.sub p
  | .b _ x _, 0 :: p => x.sub p
  | .b _ _ y, _ :: p => y.sub p
def symp (A : List Int) (q : Int → Bool) (d : D) : Bool := match d with
  | .int i => q (A.getD i.toNat 0)
  | _ => false
def syms (A : List Int) (q : Int → Bool) : List D := (rng 0 A.length).filter (symp A q)
theorem syms_mem {A : List Int} {q : Int → Bool} {v : D} : v ∈ syms A q ↔ ∃ i : Nat, v = .int i ∧ ∃ a, A[i]? = some a ∧ q a = true := by
  unfold syms rng
  rw [List.mem_filter, List.mem_map]
  constructor
  · rintro ⟨⟨i, hi, rfl⟩, h⟩
    rw [List.mem_range] at hi
    have h : q (A.getD ((0 + (i : Int))).toNat 0) = true := h
    rw [Int.zero_add, Int.toNat_natCast, List.getD_eq_getElem?_getD, List.getElem?_eq_getElem hi] at h
    exact ⟨i, by rw [Int.zero_add], A[i], List.getElem?_eq_getElem hi, h⟩
  · rintro ⟨i, rfl, a, e, h⟩
    have hi := (List.getElem?_eq_some_iff.mp e).1
    refine ⟨⟨i, List.mem_range.mpr hi, by rw [Int.zero_add]⟩, ?_⟩
    show q (A.getD ((i : Int)).toNat 0) = true
    rw [Int.toNat_natCast, List.getD_eq_getElem?_getD, e]
    exact h
theorem rng_mem {n : Nat} {v : D} (h : v ∈ rng 0 n) : ∃ i : Nat, v = .int i ∧ i < n := by
  unfold rng at h
  rw [List.mem_map] at h
  obtain ⟨i, hi, rfl⟩ := h
  exact ⟨i, by rw [Int.zero_add], List.mem_range.mp hi⟩
theorem syms_len {A : List Int} {q : Int → Bool} : (syms A q).length ≤ A.length := by
  unfold syms
  exact Nat.le_trans (List.length_filter_le ..) (by rw [rng_len]; exact Nat.le_refl _)
theorem at_A {A : List Int} {i : Nat} {a : Int} (e : A[i]? = some a) : atI (A.map PyData.int) (i : Int) = some (.int a) := by
  have hi := (List.getElem?_eq_some_iff.mp e).1
  rw [atI_n (by omega) (by rw [List.length_map]; omega), Int.toNat_natCast, List.getElem?_map, e]
  rfl

def qN (N a : Int) : Bool := decide (a < N)
end G
set_option linter.all false
set_option autoImplicit false
set_option maxRecDepth 100000
set_option maxHeartbeats 2000000
namespace G
open PySem L2
/-! rounds: the states that trees have -/
def chs {α : Type} (l : List α) : Nat → List (List α)
  | 0 => [[]]
  | n + 1 => (chs l n).flatMap fun c => l.map fun x => c ++ [x]
theorem chs_mem {α : Type} {l : List α} : ∀ {n : Nat} {c : List α}, c ∈ chs l n ↔ c.length = n ∧ ∀ x ∈ c, x ∈ l
  | 0, c => by
    simp only [chs, List.mem_singleton]
    constructor
    · rintro rfl; simp
    · rintro ⟨h, _⟩; exact List.length_eq_zero_iff.mp h
  | n + 1, c => by
    simp only [chs, List.mem_flatMap, List.mem_map]
    constructor
    · rintro ⟨c', h, x, hx, rfl⟩
      have := chs_mem.mp h
      refine ⟨by simp [this.1], fun y hy => ?_⟩
      rcases List.mem_append.mp hy with hy | hy
      · exact this.2 y hy
      · rw [List.mem_singleton.mp hy]; exact hx
    · rintro ⟨h1, h2⟩
      have hne : c ≠ [] := by intro e; rw [e] at h1; simp at h1
      refine ⟨c.dropLast, chs_mem.mpr ⟨by rw [List.length_dropLast]; omega, fun y hy => h2 y ((List.dropLast_sublist c).subset hy)⟩, c.getLast hne, h2 _ (List.getLast_mem hne), List.dropLast_concat_getLast hne⟩
theorem chs_map {α β : Type} (f : α → β) (l : List α) : ∀ n, chs (l.map f) n = (chs l n).map (·.map f)
  | 0 => rfl
  | n + 1 => by
    simp only [chs, chs_map f l n, List.flatMap_map, List.map_flatMap, List.map_map]
    congr 1
    funext c
    simp [Function.comp_def]
theorem fm_len {α β : Type} (f : α → List β) (k : Nat) (h : ∀ x, (f x).length = k) : ∀ xs : List α, (xs.flatMap f).length = xs.length * k
  | [] => by simp
  | x :: xs => by rw [List.flatMap_cons, List.length_append, h, fm_len f k h xs, List.length_cons, Nat.succ_mul, Nat.add_comm]
theorem chs_len {α : Type} (l : List α) (n : Nat) : (chs l (n + 1)).length = (chs l n).length * l.length := fm_len _ _ (fun _ => by simp) _
theorem chs_len2 {α : Type} (l : List α) (n : Nat) (hn : n ≤ 2) (hl : l.length ≤ 30) : (chs l n).length ≤ 1000 := by
  have : n = 0 ∨ n = 1 ∨ n = 2 := by omega
  rcases this with rfl | rfl | rfl
  · simp [chs]
  · rw [chs_len]; simp [chs]; omega
  · rw [chs_len, chs_len]
    have h1 : (chs l 0).length = 1 := rfl
    rw [h1, Nat.one_mul]
    exact Nat.le_trans (Nat.mul_le_mul hl hl) (by omega)
def add1 (l : List Nat) (q : Nat) : List Nat := if q ∈ l then l else l ++ [q]
def adds (l : List Nat) : List Nat → List Nat
  | [] => l
  | q :: cs => adds (add1 l q) cs
theorem add1_pre (l : List Nat) (q : Nat) : ∃ t, add1 l q = l ++ t := by
  unfold add1
  split
  · exact ⟨[], (List.append_nil l).symm⟩
  · exact ⟨[q], rfl⟩
theorem add1_mem {l : List Nat} {q x : Nat} : x ∈ add1 l q ↔ x ∈ l ∨ x = q := by
  unfold add1
  split
  · rename_i h
    exact ⟨.inl, fun z => z.elim id fun e => by rw [e]; exact h⟩
  · simp
theorem add1_nd {l : List Nat} {q : Nat} (h : l.Nodup) : (add1 l q).Nodup := by
  unfold add1
  split
  · exact h
  · rename_i hq
    rw [List.nodup_append]
    exact ⟨h, by simp, fun a ha b hb => by rw [List.mem_singleton.mp hb]; exact fun e => hq (e ▸ ha)⟩
theorem adds_pre : ∀ (cs l : List Nat), ∃ t, adds l cs = l ++ t
  | [], l => ⟨[], (List.append_nil l).symm⟩
  | q :: cs, l => by
    obtain ⟨t, e⟩ := adds_pre cs (add1 l q)
    obtain ⟨t', e'⟩ := add1_pre l q
    exact ⟨t' ++ t, by rw [adds, e, e', List.append_assoc]⟩
theorem adds_mem : ∀ {cs l : List Nat} {x : Nat}, x ∈ adds l cs ↔ x ∈ l ∨ x ∈ cs
  | [], l, x => by simp [adds]
  | q :: cs, l, x => by
    rw [adds, adds_mem, add1_mem, List.mem_cons, or_assoc]
theorem adds_nd : ∀ {cs l : List Nat}, l.Nodup → (adds l cs).Nodup
  | [], l, h => h
  | q :: cs, l, h => adds_nd (cs := cs) (add1_nd h)
def cands (sts : List Stp) (l : List Nat) (i : Nat) (a : Int) : List Nat := (chs l a.toNat).map (app (stp sts i))
def rnd1 (sts : List Stp) : List Int → Nat → List Nat → List Nat
  | [], _, l => l
  | a :: A, i, l => rnd1 sts A (i + 1) (adds l (cands sts l i a))
def rnd (sts : List Stp) (A : List Int) (l : List Nat) : List Nat := rnd1 sts A 0 l
theorem rnd1_pre (sts : List Stp) : ∀ (A : List Int) (i : Nat) (l : List Nat), ∃ t, rnd1 sts A i l = l ++ t
  | [], i, l => ⟨[], (List.append_nil l).symm⟩
  | a :: A, i, l => by
    obtain ⟨t, e⟩ := adds_pre (cands sts l i a) l
    obtain ⟨t', e'⟩ := rnd1_pre sts A (i + 1) (adds l (cands sts l i a))
    exact ⟨t ++ t', by rw [rnd1, e', e, List.append_assoc]⟩
theorem rnd1_nd (sts : List Stp) : ∀ (A : List Int) (i : Nat) (l : List Nat), l.Nodup → (rnd1 sts A i l).Nodup
  | [], i, l, h => h
  | a :: A, i, l, h => rnd1_nd sts A (i + 1) _ (adds_nd h)
theorem pre_eq {α : Type} {l t : List α} (h : (l ++ t).length = l.length) : t = [] := by
  rw [List.length_append] at h
  exact List.length_eq_zero_iff.mp (by omega)
theorem rnd1_fix (sts : List Stp) : ∀ (A : List Int) (i : Nat) (l : List Nat), rnd1 sts A i l = l → ∀ (j : Nat) (a : Int), A[j]? = some a → ∀ q ∈ cands sts l (i + j) a, q ∈ l
  | [], i, l, h, j, a, e, q, hq => by cases e
  | b :: A, i, l, h, j, a, e, q, hq => by
    obtain ⟨t, e1⟩ := adds_pre (cands sts l i b) l
    obtain ⟨t', e2⟩ := rnd1_pre sts A (i + 1) (adds l (cands sts l i b))
    rw [rnd1] at h
    have ht : t = [] := by
      rw [e2, e1] at h
      have := congrArg List.length h
      simp only [List.length_append] at this
      exact List.length_eq_zero_iff.mp (by omega)
    rw [ht, List.append_nil] at e1
    cases j with
    | zero =>
      cases e
      have := (adds_mem (l := l) (cs := cands sts l i b)).mpr (.inr hq)
      rwa [e1] at this
    | succ j =>
      rw [e1] at h
      exact rnd1_fix sts A (i + 1) l h j a e q (by rwa [show i + 1 + j = i + (j + 1) by omega])
/-- a property that all steps keep -/
theorem rnd1_all (sts : List Stp) (P : Nat → Prop) : ∀ (A : List Int) (i : Nat) (l : List Nat), (∀ (j : Nat) (a : Int), A[j]? = some a → ∀ c : List Nat, c.length = a.toNat → (∀ q ∈ c, P q) → P (app (stp sts (i + j)) c)) → (∀ q ∈ l, P q) → ∀ q ∈ rnd1 sts A i l, P q
  | [], i, l, _, h => h
  | a :: A, i, l, hs, h => by
    refine rnd1_all sts P A (i + 1) _ (fun j b e c hc hp => ?_) fun q hq => ?_
    · have := hs (j + 1) b e c hc hp
      rwa [show i + (j + 1) = i + 1 + j by omega] at this
    · rcases adds_mem.mp hq with hq | hq
      · exact h q hq
      · obtain ⟨c, hc, rfl⟩ := List.mem_map.mp hq
        obtain ⟨hl, hm⟩ := chs_mem.mp hc
        exact hs 0 a rfl c hl fun x hx => h x (hm x hx)
theorem nd_len : ∀ (m : Nat) (l : List Nat), l.Nodup → (∀ q ∈ l, q < m) → l.length ≤ m
  | 0, l, _, h => by
    cases l with
    | nil => exact Nat.le_refl _
    | cons x l => exact absurd (h x List.mem_cons_self) (by omega)
  | m + 1, l, hn, h => by
    have := nd_len m (l.erase m) (hn.erase m) fun q hq => by
      have h1 := h q (List.mem_of_mem_erase hq)
      have h2 : q ≠ m := fun e => by
        subst e
        exact ((List.Nodup.mem_erase_iff hn).mp hq).1 rfl
      omega
    rw [List.length_erase] at this
    split at this <;> omega
structure Gd (m : Nat) (l : List Nat) : Prop where
  nd : l.Nodup
  lt : ∀ q ∈ l, q < m
theorem Gd.len {m : Nat} {l : List Nat} (h : Gd m l) : l.length ≤ m := nd_len m l h.nd h.lt
theorem Gd.nil {m : Nat} : Gd m [] := ⟨List.nodup_nil, fun q h => by cases h⟩
section
variable {m : Nat} {A : List Int} {sts : List Stp} (h : StOk m A sts) (hA : Ar A)
include h hA
theorem steps_lt {j : Nat} {a : Int} (e : A[j]? = some a) {c : List Nat} (hc : c.length = a.toNat) (hp : ∀ q ∈ c, q < m) : app (stp sts j) c < m := by
  have := hA.le a (List.mem_of_getElem? e)
  exact app_lt (stp_get h e).1 (by omega) hp
theorem rnd_gd {l : List Nat} (g : Gd m l) : Gd m (rnd sts A l) :=
  ⟨rnd1_nd sts A 0 l g.nd, rnd1_all sts (· < m) A 0 l (fun j a e c hc hp => by rw [Nat.zero_add]; exact steps_lt h hA e hc hp) g.lt⟩
end
def itr (f : List Nat → List Nat) : Nat → List Nat → List Nat
  | 0, l => l
  | n + 1, l => itr f n (f l)
theorem itr_fix {f : List Nat → List Nat} {l : List Nat} (h : f l = l) : ∀ n, itr f n l = l
  | 0 => rfl
  | n + 1 => by rw [itr, h]; exact itr_fix h n
theorem itr_add (f : List Nat → List Nat) : ∀ (n k : Nat) (l : List Nat), itr f (n + k) l = itr f k (itr f n l)
  | 0, k, l => by rw [Nat.zero_add]; rfl
  | n + 1, k, l => by rw [show n + 1 + k = (n + k) + 1 by omega, itr, itr, itr_add f n k]
section
variable {m : Nat} {A : List Int} {sts : List Stp} (h : StOk m A sts) (hA : Ar A)
include h hA
theorem itr_gd : ∀ (n : Nat) (l : List Nat), Gd m l → Gd m (itr (rnd sts A) n l)
  | 0, l, g => g
  | n + 1, l, g => itr_gd n _ (rnd_gd h hA g)
theorem rnd_grow (l : List Nat) : rnd sts A l = l ∨ l.length < (rnd sts A l).length := by
  obtain ⟨t, e⟩ := rnd1_pre sts A 0 l
  have e : rnd sts A l = l ++ t := e
  rw [e]
  cases t with
  | nil => exact .inl (List.append_nil l)
  | cons x t => exact .inr (by simp)
theorem itr_done : ∀ (n : Nat) (l : List Nat), Gd m l → m < n + l.length → rnd sts A (itr (rnd sts A) n l) = itr (rnd sts A) n l
  | 0, l, g, hn => by have := g.len; omega
  | n + 1, l, g, hn => by
    rcases rnd_grow h hA l with e | e
    · rw [itr_fix e]; exact e
    · exact itr_done n _ (rnd_gd h hA g) (by omega)
end
/-- the states that trees have, as they are come to -/
def rl (sts : List Stp) (A : List Int) (m : Nat) : List Nat := itr (rnd sts A) (m + 1) []
section
variable {m : Nat} {A : List Int} {sts : List Stp} (h : StOk m A sts) (hA : Ar A)
include h hA
theorem rl_gd : Gd m (rl sts A m) := itr_gd h hA _ _ .nil
theorem rl_fix : rnd sts A (rl sts A m) = rl sts A m := itr_done h hA _ _ .nil (by simp)
theorem rl_of {n : Nat} (e : rnd sts A (itr (rnd sts A) n []) = itr (rnd sts A) n []) : itr (rnd sts A) n [] = rl sts A m := by
  have f1 := rl_fix h hA
  unfold rl at f1 ⊢
  rcases Nat.le_total n (m + 1) with c | c
  · have := itr_add (rnd sts A) n (m + 1 - n) []
    rw [show n + (m + 1 - n) = m + 1 by omega] at this
    rw [this, itr_fix e]
  · have := itr_add (rnd sts A) (m + 1) (n - (m + 1)) []
    rw [show m + 1 + (n - (m + 1)) = n by omega] at this
    rw [this, itr_fix f1]
theorem rl_closed {j : Nat} {a : Int} (e : A[j]? = some a) {c : List Nat} (hc : (c.length : Int) = a) (hp : ∀ q ∈ c, q ∈ rl sts A m) : app (stp sts j) c ∈ rl sts A m := by
  have := rnd1_fix sts A 0 _ (rl_fix h hA) j a e (app (stp sts j) c) (by
    rw [Nat.zero_add]
    exact List.mem_map.mpr ⟨c, chs_mem.mpr ⟨by omega, hp⟩, rfl⟩)
  exact this
/-- each tree's state is there -/
theorem rl_tree : ∀ t : T, t.ok A → st sts t ∈ rl sts A m
  | .l s, o => rl_closed h hA o rfl (by simp)
  | .u s a, o => rl_closed h hA o.1 rfl (by intro q hq; rw [List.mem_singleton.mp hq]; exact rl_tree a o.2)
  | .b s x y, o => rl_closed h hA o.1 rfl (by
      intro q hq
      rcases List.mem_cons.mp hq with rfl | hq
      · exact rl_tree x o.2.1
      · rw [List.mem_singleton.mp hq]; exact rl_tree y o.2.2)
omit h in
theorem rl_sound : ∀ q ∈ rl sts A m, ∃ t : T, t.ok A ∧ st sts t = q := by
  have key : ∀ (n : Nat) (l : List Nat), (∀ q ∈ l, ∃ t : T, t.ok A ∧ st sts t = q) → ∀ q ∈ itr (rnd sts A) n l, ∃ t : T, t.ok A ∧ st sts t = q := by
    intro n
    induction n with
    | zero => exact fun l hl => hl
    | succ n ih =>
      intro l hl
      refine ih _ (rnd1_all sts (fun q => ∃ t : T, t.ok A ∧ st sts t = q) A 0 l (fun j a e c hc hp => ?_) hl)
      rw [Nat.zero_add]
      have ha := hA.le a (List.mem_of_getElem? e)
      match c, hc, hp with
      | [], hc, _ => exact ⟨.l j, by show A[j]? = some 0; rw [e]; congr 1; simp at hc; omega, rfl⟩
      | [x], hc, hp =>
        obtain ⟨t, o, et⟩ := hp x (by simp)
        exact ⟨.u j t, ⟨by rw [e]; congr 1; simp at hc; omega, o⟩, by simp only [st]; rw [et]⟩
      | [x, y], hc, hp =>
        obtain ⟨t, o, et⟩ := hp x (by simp)
        obtain ⟨u, o', eu⟩ := hp y (by simp)
        exact ⟨.b j t u, ⟨by rw [e]; congr 1; simp at hc; omega, o, o'⟩, by simp only [st]; rw [et, eu]⟩
      | _ :: _ :: _ :: _, hc, _ => simp at hc; omega
  exact key _ _ (fun q hq => by cases hq)
end
/-- .. and ascending -/
def rs (sts : List Stp) (A : List Int) (m : Nat) : List Nat := (sortI ((rl sts A m).map fun (q : Nat) => (q : Int))).map Int.toNat
theorem rs_int (sts : List Stp) (A : List Int) (m : Nat) : (sortI ((rl sts A m).map fun (q : Nat) => (q : Int))) = (rs sts A m).map fun (q : Nat) => (q : Int) := by
  unfold rs
  rw [List.map_map]
  conv => lhs; rw [← List.map_id (sortI ((rl sts A m).map fun (q : Nat) => (q : Int)))]
  refine List.map_congr_left fun x hx => ?_
  have := (sortI_perm _).mem_iff.mp hx
  obtain ⟨q, _, rfl⟩ := List.mem_map.mp this
  simp
theorem rs_mem {sts : List Stp} {A : List Int} {m q : Nat} : q ∈ rs sts A m ↔ q ∈ rl sts A m := by
  have h1 : (q : Int) ∈ sortI ((rl sts A m).map fun (q : Nat) => (q : Int)) ↔ q ∈ rs sts A m := by
    rw [rs_int, List.mem_map]
    exact ⟨fun ⟨x, hx, e⟩ => by rw [← Int.ofNat_inj.mp e]; exact hx, fun h => ⟨q, h, rfl⟩⟩
  rw [← h1, (sortI_perm _).mem_iff, List.mem_map]
  exact ⟨fun ⟨x, hx, e⟩ => by rw [← Int.ofNat_inj.mp e]; exact hx, fun h => ⟨q, h, rfl⟩⟩
theorem rs_len {sts : List Stp} {A : List Int} {m : Nat} : (rs sts A m).length = (rl sts A m).length := by
  unfold rs
  rw [List.length_map, (sortI_perm _).length_eq, List.length_map]
theorem int_iD (l : List Nat) : intL (iD l) = some (l.map fun (q : Nat) => (q : Int)) := by
  induction l with
  | nil => rfl
  | cons x l ih =>
    show (intL (iD l)).map (((x : Nat) : Int) :: ·) = _
    rw [ih]; rfl
structure W (k : Nat) (d : D) : Prop where
  c : PyData.canLay0 d = true
  h : PyData.depth d ≤ k
theorem W.mono {k j : Nat} {d : D} (h : W k d) (hj : k ≤ j) : W j d := ⟨h.c, Nat.le_trans h.h hj⟩
theorem W.sh {k : Nat} {d : D} (h : W k d) (hk : k ≤ 64) : SeqAt.shaped d = true := by
  show (PyData.canLay0 d && decide (PyData.depth d ≤ 64)) = true
  rw [h.c, decide_eq_true (Nat.le_trans h.h hk)]
  rfl
theorem W.rf {k : Nat} {d : D} (h : W k d) : PyData.eqv d d = true := SeqAt.eqv_refl d h.c
theorem W.int (k : Nat) (i : Int) : W k (.int i) := ⟨rfl, Nat.zero_le _⟩
theorem W.bool (k : Nat) (i : Bool) : W k (.bool i) := ⟨rfl, Nat.zero_le _⟩
theorem W.non (k : Nat) : W k .none := ⟨rfl, Nat.zero_le _⟩
theorem W.all {k : Nat} : ∀ {xs : List D}, (∀ x ∈ xs, W k x) → PyData.canLayAll0 xs = true ∧ PyData.depthAll xs ≤ k
  | [], _ => ⟨rfl, Nat.zero_le _⟩
  | x :: xs, h => by
    have h1 := h x List.mem_cons_self
    have h2 := W.all fun y hy => h y (List.mem_cons_of_mem _ hy)
    refine ⟨?_, Nat.max_le.mpr ⟨h1.h, h2.2⟩⟩
    show (PyData.canLay0 x && PyData.canLayAll0 xs) = true
    rw [h1.c, h2.1]; rfl
theorem W.tup {k : Nat} {xs : List D} (h : ∀ x ∈ xs, W k x) : W (k + 1) (.tuple xs) := ⟨(W.all h).1, Nat.succ_le_succ (W.all h).2⟩
theorem W.list {k : Nat} {xs : List D} (h : ∀ x ∈ xs, W k x) : W (k + 1) (.list xs) := ⟨(W.all h).1, Nat.succ_le_succ (W.all h).2⟩
theorem W.place (p : List Nat) : W 1 (pD p) := W.tup fun x hx => by obtain ⟨i, _, rfl⟩ := List.mem_map.mp hx; exact .int _ _
theorem W.pair {k : Nat} {x y : D} (hx : W k x) (hy : W k y) : W (k + 1) (.tuple [x, y]) := W.tup fun z hz => by
  rcases List.mem_cons.mp hz with rfl | hz
  · exact hx
  · rw [List.mem_singleton.mp hz]; exact hy
theorem ne_same {k : Nat} {d : D} (h : W k d) (hk : k ≤ 64) : fNe d d = some (.bool false) := by
  unfold fNe
  rw [h.sh hk, h.rf]
  rfl
theorem ev_pl (p q : List Nat) : PyData.eqv (pD p) (pD q) = decide (p = q) := by
  show PyData.eqvAll (iD p) (iD q) = _
  induction p generalizing q with
  | nil => cases q <;> rfl
  | cons i p ih =>
    cases q with
    | nil => simp [PyData.eqvAll]
    | cons j q =>
      show (PyData.eqv (.int i) (.int j) && PyData.eqvAll (iD p) (iD q)) = _
      rw [ih, ev_int, ← Bool.decide_and]
      exact decide_eq_decide.mpr (by simp; omega)
theorem ne_pl (p q : List Nat) : fNe (pD p) (pD q) = some (.bool (!decide (p = q))) := by
  unfold fNe
  rw [(W.place p).sh (by omega), (W.place q).sh (by omega), ev_pl]
  rfl
theorem cut_n {α : Type} (xs : List α) (k : Nat) : cut xs none (some (k : Int)) = xs.take k := cut_to xs k
def tput (u : T) : T → List Nat → T
  | _, [] => u
  | .l _, _ :: _ => u
  | .u s a, _ :: p => .u s (tput u a p)
  | .b s a y, 0 :: p => .b s (tput u a p) y
  | .b s a y, _ :: p => .b s a (tput u y p)
theorem putD_d (u : T) : ∀ (p : List Nat) (t : T), t.has p → t.putD u.d p = (tput u t p).d
  | [], t, _ => by cases t <;> rfl
  | i :: p, .l s, h => by cases i <;> exact absurd h (by simp [T.has])
  | i :: p, .u s a, h => by
    cases i with
    | succ i => exact absurd h (by simp [T.has])
    | zero => simp [T.putD, tput, T.d, putD_d u p a h]
  | i :: p, .b s x y, h => by
    cases i with
    | zero => simp [T.putD, tput, T.d, putD_d u p x h]
    | succ i =>
      cases i with
      | succ i => exact absurd h (by simp [T.has])
      | zero => simp [T.putD, tput, T.d, putD_d u p y h]
theorem put_ok {A : List Int} {u : T} (hu : u.ok A) : ∀ (p : List Nat) (t : T), t.ok A → t.has p → (tput u t p).ok A ∧ (tput u t p).n + 1 ≤ t.n + u.n
  | [], t, h, _ => by have := t.n_pos; cases t <;> exact ⟨hu, by simp only [tput]; omega⟩
  | i :: p, .l s, h, hp => by cases i <;> exact absurd hp (by simp [T.has])
  | i :: p, .u s a, h, hp => by
    cases i with
    | succ i => exact absurd hp (by simp [T.has])
    | zero => have := put_ok hu p a h.2 hp; exact ⟨⟨h.1, this.1⟩, by simp [tput, T.n]; omega⟩
  | i :: p, .b s x y, h, hp => by
    cases i with
    | zero => have := put_ok hu p x h.2.1 hp; exact ⟨⟨h.1, this.1, h.2.2⟩, by simp [tput, T.n]; omega⟩
    | succ i =>
      cases i with
      | succ i => exact absurd hp (by simp [T.has])
      | zero => have := put_ok hu p y h.2.2 hp; exact ⟨⟨h.1, h.2.1, this.1⟩, by simp [tput, T.n]; omega⟩
theorem has_places : ∀ (p : List Nat) (t : T), t.has p → p ∈ t.places
  | [], t, _ => by cases t <;> simp [T.places]
  | i :: p, .l s, h => by cases i <;> exact absurd h (by simp [T.has])
  | i :: p, .u s a, h => by
    cases i with
    | succ i => exact absurd h (by simp [T.has])
    | zero => exact List.mem_cons_of_mem _ (List.mem_map.mpr ⟨p, has_places p a h, rfl⟩)
  | i :: p, .b s x y, h => by
    cases i with
    | zero => exact List.mem_cons_of_mem _ (List.mem_append_left _ (List.mem_map.mpr ⟨p, has_places p x h, rfl⟩))
    | succ i =>
      cases i with
      | succ i => exact absurd h (by simp [T.has])
      | zero => exact List.mem_cons_of_mem _ (List.mem_append_right _ (List.mem_map.mpr ⟨p, has_places p y h, rfl⟩))
theorem st_put (sts : List Stp) (u : T) : ∀ (p : List Nat) (t : T), t.has p → st sts u = st sts (t.sub p) → st sts (tput u t p) = st sts t
  | [], t, _, e => by cases t <;> exact e
  | i :: p, .l s, h, e => by cases i <;> exact absurd h (by simp [T.has])
  | i :: p, .u s a, h, e => by
    cases i with
    | succ i => exact absurd h (by simp [T.has])
    | zero => simp only [tput, st]; rw [st_put sts u p a h e]
  | i :: p, .b s x y, h, e => by
    cases i with
    | zero => simp only [tput, st]; rw [st_put sts u p x h e]
    | succ i =>
      cases i with
      | succ i => exact absurd h (by simp [T.has])
      | zero => simp only [tput, st]; rw [st_put sts u p y h e]
theorem W.inv {k : Nat} {xs : List D} (h : W (k + 1) (.tuple xs)) : ∀ x ∈ xs, W k x := by
  have hc : PyData.canLayAll0 xs = true := h.c
  have hd : PyData.depthAll xs ≤ k := Nat.le_of_succ_le_succ h.h
  clear h
  induction xs with
  | nil => intro x hx; cases hx
  | cons y ys ih =>
    have hc : (PyData.canLay0 y && PyData.canLayAll0 ys) = true := hc
    have hd : max (PyData.depth y) (PyData.depthAll ys) ≤ k := hd
    rw [Bool.and_eq_true] at hc
    have := Nat.max_le.mp hd
    intro x hx
    rcases List.mem_cons.mp hx with rfl | hx
    · exact ⟨hc.1, this.1⟩
    · exact ih hc.2 this.2 x hx
theorem W.nd {k : Nat} {v : D} (h : W k v) : notDict v = true := by
  cases v with
  | dict _ => exact absurd h.c (by simp [PyData.canLay0])
  | _ => rfl
def isI (v : D) : Bool := match v with
  | .int _ => true
  | _ => false
theorem inv_all {v : D} {xs : List D} {k : Nat} (e : v = .tuple xs) (h : W (k + 1) v) (hd : dk v = true) : (∀ x ∈ xs, W k x ∧ dk x = true) ∧ xs.length ≤ 1000000 := by
  subst e
  have hdx : (dks xs && decide (xs.length ≤ 1000000)) = true := hd
  rw [Bool.and_eq_true, decide_eq_true_eq] at hdx
  exact ⟨fun x hx => ⟨W.inv h x hx, dks_mem hdx.1 x hx⟩, hdx.2⟩
theorem in_int (q : Nat) (l : List Nat) : inD (.int (q : Int)) (iD l) = some (decide (q ∈ l)) := by
  unfold inD
  rw [show SeqAt.shaped (.list (iD l)) = true from (W.list fun x hx => by obtain ⟨i, _, rfl⟩ := List.mem_map.mp hx; exact W.int 0 _).sh (by omega), sh_int]
  simp only [Bool.and_self, if_true, Option.some.injEq]
  induction l with
  | nil => rfl
  | cons x l ih =>
    rw [iD, List.map_cons, List.any_cons, show (List.map (fun (i : Nat) => PyData.int ↑i) l) = iD l from rfl, ih, ev_int]
    simp only [List.mem_cons, ← Bool.decide_or]
    exact decide_eq_decide.mpr ⟨fun h => h.imp (fun e => (Int.ofNat_inj.mp e).symm) id, fun h => h.imp (fun e => by rw [e]) id⟩
end G
set_option linter.all false
set_option autoImplicit false
set_option maxRecDepth 100000
set_option maxHeartbeats 2000000
namespace G
open PySem L2
section
variable {α β Y Y1 σ τ R : Type} {oY : D → Option Y} {ot : Y → Option Bool} {oe : Y → Option D}
theorem lcP_m (enc : α → D) (y : α → Y) (p : α → Bool) (g : α → D) : ∀ l : List α, (∀ a ∈ l, oY (enc a) = some (y a)) → (∀ a ∈ l, ot (y a) = some (p a)) → (∀ a ∈ l, p a = true → oe (y a) = some (g a)) → lcP oY ot oe (l.map enc) = some ((l.filter p).map g)
  | [], _, _, _ => rfl
  | a :: l, h1, h2, h3 => by
    have ih := lcP_m enc y p g l (fun b hb => h1 b (List.mem_cons_of_mem _ hb)) (fun b hb => h2 b (List.mem_cons_of_mem _ hb)) (fun b hb => h3 b (List.mem_cons_of_mem _ hb))
    rw [List.map_cons]
    unfold lcP
    rw [h1 a List.mem_cons_self, Option.bind_some, h2 a List.mem_cons_self, Option.bind_some]
    cases hp : p a with
    | false => simp [ih, hp]
    | true => simp [h3 a List.mem_cons_self hp, ih, hp]
theorem lcPz_f (enc : α → D) (y : α → Y) (p : α → Bool) (g : α → D) (l : List α) (hz : l.length ≤ 1000000) (h1 : ∀ a ∈ l, oY (enc a) = some (y a)) (h2 : ∀ a ∈ l, ot (y a) = some (p a)) (h3 : ∀ a ∈ l, p a = true → oe (y a) = some (g a)) : lcPz oY ot oe (l.map enc) = some ((l.filter p).map g) := by
  unfold lcPz
  rw [List.length_map, if_pos hz]
  exact lcP_m enc y p g l h1 h2 h3
theorem filter_tt {α : Type} (l : List α) : l.filter (fun _ => true) = l := List.filter_eq_self.mpr fun _ _ => rfl
theorem lcPz_m (enc : α → D) (y : α → Y) (g : α → D) (l : List α) (hz : l.length ≤ 1000000) (h1 : ∀ a ∈ l, oY (enc a) = some (y a)) (h2 : ∀ a ∈ l, ot (y a) = some true) (h3 : ∀ a ∈ l, oe (y a) = some (g a)) : lcPz oY ot oe (l.map enc) = some (l.map g) := by
  rw [lcPz_f enc y (fun _ => true) g l hz h1 h2 fun a ha _ => h3 a ha, filter_tt]
theorem lcVz_f (enc : α → D) (y : α → Y) (p : α → Bool) (g : α → D) (l : List α) (hz : l.length < 1000) (h1 : ∀ a ∈ l, oY (enc a) = some (y a)) (h2 : ∀ a ∈ l, ot (y a) = some (p a)) (h3 : ∀ a ∈ l, p a = true → oe (y a) = some (g a)) : lcVz oY ot oe (l.map enc) = some ((l.filter p).map g) := by
  unfold lcVz
  rw [List.length_map, if_pos hz]
  exact lcP_m enc y p g l h1 h2 h3
theorem lcVz_m (enc : α → D) (y : α → Y) (g : α → D) (l : List α) (hz : l.length < 1000) (h1 : ∀ a ∈ l, oY (enc a) = some (y a)) (h2 : ∀ a ∈ l, ot (y a) = some true) (h3 : ∀ a ∈ l, oe (y a) = some (g a)) : lcVz oY ot oe (l.map enc) = some (l.map g) := by
  rw [lcVz_f enc y (fun _ => true) g l hz h1 h2 fun a ha _ => h3 a ha, filter_tt]
/-- over all data -/
theorem lcPz_d (g : D → D) (xs : List D) (hz : xs.length ≤ 1000000) {ot : D → Option Bool} {oe : D → Option D} (h2 : ∀ a ∈ xs, ot a = some true) (h3 : ∀ a ∈ xs, oe a = some (g a)) : lcPz some ot oe xs = some (xs.map g) := by
  have := lcPz_m (oY := some) (ot := ot) (oe := oe) (fun x : D => x) (fun x => x) g xs hz (fun _ _ => rfl) h2 h3
  rwa [List.map_id'] at this
theorem lc2P_m (enc : α → D) (y : α → Y) (p : α → Bool) {oi : Y → Option (List D)} {oY1 : D → Option Y1} {ot1 : Y → Y1 → Option Bool} {oe : Y → Y1 → Option D} (g : α → List D) : ∀ l : List α, (∀ a ∈ l, oY (enc a) = some (y a)) → (∀ a ∈ l, ot (y a) = some (p a)) → (∀ a ∈ l, p a = true → ∃ q, oi (y a) = some q ∧ q.length ≤ 1000 ∧ lcP oY1 (ot1 (y a)) (oe (y a)) q = some (g a)) → lc2P oY ot oi oY1 ot1 oe (l.map enc) = some ((l.filter p).flatMap g)
  | [], _, _, _ => rfl
  | a :: l, h1, h2, h3 => by
    have ih := lc2P_m enc y p g l (fun b hb => h1 b (List.mem_cons_of_mem _ hb)) (fun b hb => h2 b (List.mem_cons_of_mem _ hb)) (fun b hb => h3 b (List.mem_cons_of_mem _ hb))
    rw [List.map_cons]
    unfold lc2P
    rw [h1 a List.mem_cons_self, Option.bind_some, h2 a List.mem_cons_self, Option.bind_some]
    cases hp : p a with
    | false => simp [ih, hp]
    | true =>
      obtain ⟨q, q1, q2, q3⟩ := h3 a List.mem_cons_self hp
      simp [q1, q2, q3, ih, hp]
theorem lc2Pz_m (enc : α → D) (y : α → Y) (p : α → Bool) {oi : Y → Option (List D)} {oY1 : D → Option Y1} {ot1 : Y → Y1 → Option Bool} {oe : Y → Y1 → Option D} (g : α → List D) (l : List α) (hz : l.length ≤ 1000) (h1 : ∀ a ∈ l, oY (enc a) = some (y a)) (h2 : ∀ a ∈ l, ot (y a) = some (p a)) (h3 : ∀ a ∈ l, p a = true → ∃ q, oi (y a) = some q ∧ q.length ≤ 1000 ∧ lcP oY1 (ot1 (y a)) (oe (y a)) q = some (g a)) : lc2Pz oY ot oi oY1 ot1 oe (l.map enc) = some ((l.filter p).flatMap g) := by
  unfold lc2Pz
  rw [List.length_map, if_pos hz]
  exact lc2P_m enc y p g l h1 h2 h3
theorem forP_m (enc : α → D) (y : α → Y) {f : σ → Y → Option σ} (S : τ → σ) (step : τ → α → τ) (I : τ → Prop) : ∀ (l : List α) (t : τ), I t → (∀ a ∈ l, oY (enc a) = some (y a)) → (∀ t, ∀ a ∈ l, I t → f (S t) (y a) = some (S (step t a)) ∧ I (step t a)) → forP oY f (S t) (l.map enc) = some (S (l.foldl step t)) ∧ I (l.foldl step t)
  | [], t, h0, _, _ => ⟨rfl, h0⟩
  | a :: l, t, h0, h1, h2 => by
    obtain ⟨e, i⟩ := h2 t a List.mem_cons_self h0
    have ih := forP_m enc y S step I l (step t a) i (fun b hb => h1 b (List.mem_cons_of_mem _ hb)) (fun t b hb => h2 t b (List.mem_cons_of_mem _ hb))
    rw [List.map_cons, List.foldl_cons]
    unfold forP
    rw [h1 a List.mem_cons_self, Option.bind_some, e, Option.bind_some]
    exact ih
theorem forP_ex {f : σ → Y → Option σ} {I : Nat → σ → Prop} : ∀ (xs : List D) (i : Nat) (s : σ), I i s → (∀ (j : Nat) (x : D) (s : σ), xs[j]? = some x → I (i + j) s → ∃ y s', oY x = some y ∧ f s y = some s' ∧ I (i + j + 1) s') → ∃ s', forP oY f s xs = some s' ∧ I (i + xs.length) s'
  | [], i, s, h0, _ => ⟨s, rfl, h0⟩
  | x :: xs, i, s, h0, h => by
    obtain ⟨y, s1, e1, e2, h1⟩ := h 0 x s rfl h0
    obtain ⟨s', e3, h3⟩ := forP_ex xs (i + 1) s1 h1 (fun j z t e ht => by
      obtain ⟨y, s', a, b, c⟩ := h (j + 1) z t e (by rwa [show i + (j + 1) = i + 1 + j by omega])
      exact ⟨y, s', a, b, by rwa [show i + 1 + j + 1 = i + (j + 1) + 1 by omega]⟩)
    refine ⟨s', ?_, by rwa [List.length_cons, show i + (xs.length + 1) = i + 1 + xs.length by omega]⟩
    unfold forP
    rw [e1, Option.bind_some, e2, Option.bind_some]
    exact e3
theorem forR_ex {f : σ → Y → Option (Step σ R)} {I : Nat → σ → Prop} : ∀ (xs : List D) (i : Nat) (s : σ), I i s → (∀ (j : Nat) (x : D) (s : σ), xs[j]? = some x → I (i + j) s → ∃ y s', oY x = some y ∧ f s y = some (.nx s') ∧ I (i + j + 1) s') → ∃ s', forR oY f s xs = some (.inl s') ∧ I (i + xs.length) s'
  | [], i, s, h0, _ => ⟨s, rfl, h0⟩
  | x :: xs, i, s, h0, h => by
    obtain ⟨y, s1, e1, e2, h1⟩ := h 0 x s rfl h0
    obtain ⟨s', e3, h3⟩ := forR_ex xs (i + 1) s1 h1 (fun j z t e ht => by
      obtain ⟨y, s', a, b, c⟩ := h (j + 1) z t e (by rwa [show i + (j + 1) = i + 1 + j by omega])
      exact ⟨y, s', a, b, by rwa [show i + 1 + j + 1 = i + (j + 1) + 1 by omega]⟩)
    refine ⟨s', ?_, by rwa [List.length_cons, show i + (xs.length + 1) = i + 1 + xs.length by omega]⟩
    unfold forR
    rw [e1, Option.bind_some, e2, Option.bind_some]
    exact e3
/-- the state stays as I says, whichever item -/
theorem forR_all {f : σ → Y → Option (Step σ R)} {I : σ → Prop} (xs : List D) (s : σ) (h0 : I s) (h : ∀ x ∈ xs, ∀ s, I s → ∃ y s', oY x = some y ∧ f s y = some (.nx s') ∧ I s') : ∃ s', forR oY f s xs = some (.inl s') ∧ I s' :=
  forR_ex (I := fun _ => I) xs 0 s h0 fun j x s e hs => h x (List.mem_of_getElem? e) s hs
theorem forP_all {f : σ → Y → Option σ} {I : σ → Prop} (xs : List D) (s : σ) (h0 : I s) (h : ∀ x ∈ xs, ∀ s, I s → ∃ y s', oY x = some y ∧ f s y = some s' ∧ I s') : ∃ s', forP oY f s xs = some s' ∧ I s' :=
  forP_ex (I := fun _ => I) xs 0 s h0 fun j x s e hs => h x (List.mem_of_getElem? e) s hs
theorem lcX_ex {ot : List D → Y → Option (Bool × List D)} {oe : List D → Y → Option (D × List D)} (enc : β → D) {St : List D → Prop} {P : D → β → Prop} : ∀ (xs : List D) (s : List D), St s → (∀ x ∈ xs, ∀ s, St s → ∃ y v s', oY x = some y ∧ ot s y = some (true, s) ∧ oe s y = some (enc v, s') ∧ P x v ∧ St s') →
    ∃ (vs : List β) (s' : List D), lcX oY ot oe s xs = some (vs.map enc, s') ∧ St s' ∧ vs.length = xs.length ∧ ∀ (i : Nat) (x : D) (v : β), xs[i]? = some x → vs[i]? = some v → P x v
  | [], s, hs, _ => ⟨[], s, rfl, hs, rfl, fun i x v e => by cases i <;> cases e⟩
  | x :: xs, s, hs, h => by
    obtain ⟨y, v, s1, e1, e2, e3, p, h1⟩ := h x List.mem_cons_self s hs
    obtain ⟨vs, s', a1, a2, a3, a4⟩ := lcX_ex enc xs s1 h1 fun z hz => h z (List.mem_cons_of_mem _ hz)
    refine ⟨v :: vs, s', ?_, a2, by simp [a3], fun i z w ez ew => ?_⟩
    · unfold lcX
      simp [e1, e2, e3, a1]
    · cases i with
      | zero => cases ez; cases ew; exact p
      | succ i => exact a4 i z w ez ew
theorem lcXz_ex {ot : List D → Y → Option (Bool × List D)} {oe : List D → Y → Option (D × List D)} (enc : β → D) {St : List D → Prop} {P : D → β → Prop} (xs : List D) (s : List D) (hz : xs.length ≤ 1000000) (hs : St s) (h : ∀ x ∈ xs, ∀ s, St s → ∃ y v s', oY x = some y ∧ ot s y = some (true, s) ∧ oe s y = some (enc v, s') ∧ P x v ∧ St s') :
    ∃ (vs : List β) (s' : List D), lcXz oY ot oe s xs = some (vs.map enc, s') ∧ St s' ∧ vs.length = xs.length ∧ ∀ (i : Nat) (x : D) (v : β), xs[i]? = some x → vs[i]? = some v → P x v := by
  unfold lcXz
  rw [if_pos hz]
  exact lcX_ex enc xs s hs h
/-- the same of each item alone -/
theorem lcXz_all {ot : List D → Y → Option (Bool × List D)} {oe : List D → Y → Option (D × List D)} (enc : β → D) {St : List D → Prop} {P : β → Prop} (xs : List D) (s : List D) (hz : xs.length ≤ 1000000) (hs : St s) (h : ∀ x ∈ xs, ∀ s, St s → ∃ y v s', oY x = some y ∧ ot s y = some (true, s) ∧ oe s y = some (enc v, s') ∧ P v ∧ St s') :
    ∃ (vs : List β) (s' : List D), lcXz oY ot oe s xs = some (vs.map enc, s') ∧ St s' ∧ vs.length = xs.length ∧ ∀ v ∈ vs, P v := by
  obtain ⟨vs, s', a1, a2, a3, a4⟩ := lcXz_ex enc (P := fun _ => P) xs s hz hs h
  refine ⟨vs, s', a1, a2, a3, fun v hv => ?_⟩
  obtain ⟨i, hi, rfl⟩ := List.mem_iff_getElem.mp hv
  exact a4 i xs[i] _ (List.getElem?_eq_getElem (by omega)) (List.getElem?_eq_getElem hi)
theorem whP_ex {oc : σ → Option Bool} {f : σ → Option σ} {I : σ → Prop} (m : σ → Nat) (h : ∀ s, I s → oc s = some false ∨ (oc s = some true ∧ ∃ s', f s = some s' ∧ I s' ∧ m s' < m s)) : ∀ (n : Nat) (s : σ), I s → m s < n → ∃ s', whP oc f n s = some s' ∧ I s' ∧ oc s' = some false
  | 0, s, _, hn => by omega
  | n + 1, s, hs, hn => by
    unfold whP
    rcases h s hs with e | ⟨e, s1, e1, h1, hm⟩
    · exact ⟨s, by simp [e], hs, e⟩
    · obtain ⟨s', a, b, c⟩ := whP_ex m h n s1 h1 (by omega)
      exact ⟨s', by simp [e, e1, a], b, c⟩
end
theorem rng0 (n : Nat) : rng 0 n = (List.range n).map fun (i : Nat) => PyData.int (i : Int) := by
  unfold rng
  rw [show (List.range n).map (fun (i : Nat) => PyData.int (i : Int)) = (List.range n).map (fun (i : Nat) => PyData.int (0 + (i : Int))) from List.map_congr_left fun i _ => by rw [Int.zero_add]]
  try rw [List.map_map]; rfl
theorem rg1_n {n : Nat} (h : n ≤ 1000000) : rg1 (.int (n : Int)) = some ((List.range n).map fun (i : Nat) => PyData.int (i : Int)) := by
  unfold rg1
  have : bRng (n : Int) = true := by unfold bRng; exact decide_eq_true (by omega)
  simp only [this, if_true, Int.toNat_natCast, rng0]
theorem enumD_map {α : Type} (enc : α → D) : ∀ (l : List α) (k : Nat), enumD k (l.map enc) = (l.zipIdx k).map fun p => .tuple [.int (p.2 : Nat), enc p.1]
  | [], _ => rfl
  | a :: l, k => by
    rw [List.map_cons, enumD, enumD_map enc l (k + 1), List.zipIdx_cons, List.map_cons]
theorem allD_m {α : Type} (f : α → Bool) (l : List α) : allD (l.map fun a => PyData.bool (f a)) = some (.bool (l.all f)) := by
  unfold allD
  rw [bools_map, Option.map_some, all_map_id]
theorem anyD_m {α : Type} (f : α → Bool) (l : List α) : anyD (l.map fun a => PyData.bool (f a)) = some (.bool (l.any f)) := by
  unfold anyD
  rw [bools_map, Option.map_some]
  congr 2
  induction l with
  | nil => rfl
  | cons a l ih => rw [List.map_cons, List.any_cons, ih]; rfl
theorem intL_m {α : Type} (f : α → Int) (l : List α) : intL (l.map fun a => PyData.int (f a)) = some (l.map f) := by
  induction l with
  | nil => rfl
  | cons a l ih => show (intL _).map _ = _; rw [ih]; rfl
theorem sumD_m {α : Type} (f : α → Int) (l : List α) : sumD (l.map fun a => PyData.int (f a)) = some (.int (l.map f).sum) := by
  unfold sumD
  rw [intL_m]
  rfl
/-- streams -/
def Stm (s : List D) : Prop := ∃ ns c k, s = Cell ns c k ∧ 0 ≤ c ∧ 0 ≤ k
theorem nxt_nn {ns : List Int} {c k : Int} (hc : 0 ≤ c) (hk : 0 ≤ k) : 0 ≤ (nxt ns c k).1 ∧ 0 ≤ (nxt ns c k).2 := by
  unfold nxt
  split
  · exact ⟨mix_nn _ _ (first_nn _ _ hk), by show 0 ≤ k + 1; omega⟩
  · exact ⟨hc, hk⟩
end G
set_option linter.all false
set_option autoImplicit false
set_option maxRecDepth 100000
set_option maxHeartbeats 2000000
namespace G
open PySem L2
/-! the order of trees -/
def T.beq : T → T → Bool
  | .l s, .l r => decide (s = r)
  | .u s a, .u r c => decide (s = r) && a.beq c
  | .b s a x, .b r c y => decide (s = r) && (a.beq c && x.beq y)
  | _, _ => false
theorem T.beq_iff : ∀ t w : T, t.beq w = true ↔ t = w
  | .l s, .l r => by simp [T.beq]
  | .l s, .u r a => by simp [T.beq]
  | .l s, .b r a c => by simp [T.beq]
  | .u s a, .l r => by simp [T.beq]
  | .u s a, .u r c => by simp [T.beq, T.beq_iff a c]
  | .u s a, .b r c e => by simp [T.beq]
  | .b s a x, .l r => by simp [T.beq]
  | .b s a x, .u r c => by simp [T.beq]
  | .b s a x, .b r c y => by simp [T.beq, T.beq_iff a c, T.beq_iff x y]
instance T.deq : DecidableEq T := fun t w => decidable_of_iff _ (T.beq_iff t w)
def T.syms : T → List Nat
  | .l s => [s]
  | .u s a => s :: a.syms
  | .b s x y => s :: (x.syms ++ y.syms)
theorem T.syms_len : ∀ t : T, t.syms.length = t.n
  | .l s => rfl
  | .u s a => by simp [T.syms, T.n, T.syms_len a]
  | .b s x y => by simp [T.syms, T.n, T.syms_len x, T.syms_len y]
theorem T.al : ∀ t w : T, alk t.d w.d = true
  | .l s, .l r => rfl
  | .l s, .u r a => rfl
  | .l s, .b r a c => rfl
  | .u s a, .l r => rfl
  | .u s a, .u r c => by
    have := T.al a c
    show PySem.W.alike (.tuple [.int s, a.d]) (.tuple [.int r, c.d]) = true
    simp only [PySem.W.alike, PySem.W.alikeAll, Bool.and_true, Bool.true_and]
    exact this
  | .u s a, .b r c e => by
    have := T.al a c
    show PySem.W.alike (.tuple [.int s, a.d]) (.tuple [.int r, c.d, e.d]) = true
    simp only [PySem.W.alike, PySem.W.alikeAll, Bool.and_true, Bool.true_and]
    exact this
  | .b s a x, .l r => rfl
  | .b s a x, .u r c => by
    have := T.al a c
    show PySem.W.alike (.tuple [.int s, a.d, x.d]) (.tuple [.int r, c.d]) = true
    simp only [PySem.W.alike, PySem.W.alikeAll, Bool.and_true, Bool.true_and]
    exact this
  | .b s a x, .b r c y => by
    have h1 := T.al a c
    have h2 := T.al x y
    show PySem.W.alike (.tuple [.int s, a.d, x.d]) (.tuple [.int r, c.d, y.d]) = true
    simp only [PySem.W.alike, PySem.W.alikeAll, Bool.and_true, Bool.true_and]
    rw [Bool.and_eq_true]
    exact ⟨h1, h2⟩
theorem ev_tup (xs ys : List D) : PyData.eqv (.tuple xs) (.tuple ys) = PyData.eqvAll xs ys := by rw [PyData.eqv]
theorem ev_lst (xs ys : List D) : PyData.eqv (.list xs) (.list ys) = PyData.eqvAll xs ys := by rw [PyData.eqv]
theorem ev_cons (x y : D) (xs ys : List D) : PyData.eqvAll (x :: xs) (y :: ys) = (PyData.eqv x y && PyData.eqvAll xs ys) := by rw [PyData.eqvAll]
theorem ev_nn : PyData.eqvAll [] [] = true := by rw [PyData.eqvAll]
theorem ev_nc (x : D) (xs : List D) : PyData.eqvAll [] (x :: xs) = false := by simp [PyData.eqvAll]
theorem ev_cn (x : D) (xs : List D) : PyData.eqvAll (x :: xs) [] = false := by simp [PyData.eqvAll]
theorem nat_int (s r : Nat) : decide ((s : Int) = (r : Int)) = decide (s = r) := decide_eq_decide.mpr Int.ofNat_inj
theorem T.ev : ∀ t u : T, PyData.eqv t.d u.d = decide (t = u)
  | .l s, .l r => by simp only [T.d, ev_tup, ev_cons, ev_nn, ev_int, nat_int, T.l.injEq, Bool.and_true]
  | .l s, .u r a => by simp [T.d, ev_tup, ev_cons, ev_nn, ev_int, ev_nc, ev_cn]
  | .l s, .b r a c => by simp [T.d, ev_tup, ev_cons, ev_nn, ev_int, ev_nc, ev_cn]
  | .u s a, .l r => by simp [T.d, ev_tup, ev_cons, ev_nn, ev_int, ev_nc, ev_cn]
  | .u s a, .u r c => by
    simp only [T.d, ev_tup, ev_cons, ev_nn, ev_int, nat_int, T.u.injEq, Bool.and_true, T.ev a c, Bool.decide_and]
  | .u s a, .b r c e => by simp [T.d, ev_tup, ev_cons, ev_nn, ev_int, ev_nc, ev_cn]
  | .b s a x, .l r => by simp [T.d, ev_tup, ev_cons, ev_nn, ev_int, ev_nc, ev_cn]
  | .b s a x, .u r c => by simp [T.d, ev_tup, ev_cons, ev_nn, ev_int, ev_nc, ev_cn]
  | .b s a x, .b r c y => by
    simp only [T.d, ev_tup, ev_cons, ev_nn, ev_int, nat_int, T.b.injEq, Bool.and_true, T.ev a c, T.ev x y, Bool.decide_and]
abbrev lA (xs ys : List D) : Bool := PyProof.Rows.lexLt PyProof.Rows.itemOrd (PySem.W.keyToksAll xs) (PySem.W.keyToksAll ys)
theorem lA_tup (xs ys : List D) : dLt (.tuple xs) (.tuple ys) = lA xs ys := PySem.W.dataLt_tuple xs ys
theorem lA_cons {x y : D} {xs ys : List D} (h : alk x y = true) : lA (x :: xs) (y :: ys) = if PyData.eqv x y then lA xs ys else dLt x y := by
  cases e : PyData.eqv x y with
  | true => exact PySem.W.dataLt_all_yes h e
  | false => exact PySem.W.dataLt_all_no h e
theorem lA_nn : lA [] [] = false := PyProof.Rows.lex_irrefl _
theorem lA_self (xs : List D) : lA xs xs = false := PyProof.Rows.lex_irrefl _
theorem dLt_self (x : D) : dLt x x = false := PyProof.Rows.lex_irrefl _
theorem al_int (i j : Int) : alk (.int i) (.int j) = true := by show PySem.W.alike (.int i) (.int j) = true; simp only [PySem.W.alike]
theorem lA_int (i j : Int) (xs ys : List D) : lA (.int i :: xs) (.int j :: ys) = if i = j then lA xs ys else decide (i < j) := by
  rw [lA_cons (al_int i j), ev_int]
  by_cases h : i = j
  · simp [h]
  · simp [h]; exact PySem.W.dataLt_int i j
theorem lA_nc (x : D) (xs : List D) : lA [] (x :: xs) = true := by
  show PyProof.Rows.lexLt PyProof.Rows.itemOrd (PySem.W.keyToksAll []) (PySem.W.keyToksAll (x :: xs)) = true
  simp only [PySem.W.keyToksAll]
  rw [PyProof.Rows.lex_diff (O := PyProof.Rows.itemOrd) (x := Sum.inl 0) (y := Sum.inl 1) (by intro h; cases h)]
  rfl
theorem lA_cn (x : D) (xs : List D) : lA (x :: xs) [] = false := by
  show PyProof.Rows.lexLt PyProof.Rows.itemOrd (PySem.W.keyToksAll (x :: xs)) (PySem.W.keyToksAll []) = false
  simp only [PySem.W.keyToksAll]
  rw [PyProof.Rows.lex_diff (O := PyProof.Rows.itemOrd) (x := Sum.inl 1) (y := Sum.inl 0) (by intro h; cases h)]
  rfl
theorem lA_iD : ∀ a b : List Nat, lA (iD a) (iD b) = decide (a < b)
  | [], [] => by rw [show iD [] = [] from rfl, lA_nn]; simp
  | [], y :: b => by rw [show iD [] = [] from rfl, show iD (y :: b) = .int y :: iD b from rfl, lA_nc]; simp
  | x :: a, [] => by rw [show iD [] = [] from rfl, show iD (x :: a) = .int x :: iD a from rfl, lA_cn]; simp
  | x :: a, y :: b => by
    rw [show iD (x :: a) = .int x :: iD a from rfl, show iD (y :: b) = .int y :: iD b from rfl, lA_int, lA_iD a b]
    by_cases h : x = y
    · subst h; simp
    · have : (x : Int) ≠ y := fun e => h (Int.ofNat_inj.mp e)
      rw [if_neg this]
      exact decide_eq_decide.mpr (by rw [List.cons_lt_cons_iff]; constructor <;> intro h' <;> omega)
theorem ok_ar {A : List Int} {i : Nat} {a b : Int} (h1 : A[i]? = some a) (h2 : A[i]? = some b) : a = b := Option.some.inj (h1.symm.trans h2)
/-- trees are in the order of their symbols -/
theorem syms_lt {A : List Int} : ∀ (t u : T), t.ok A → u.ok A → ∀ p q : List Nat, decide (t.syms ++ p < u.syms ++ q) = if t = u then decide (p < q) else dLt t.d u.d
  | .l s, .l r, o, o', p, q => by
    by_cases h : s = r
    · subst h; simp [T.syms]
    · have : (s : Int) ≠ r := fun e => h (Int.ofNat_inj.mp e)
      rw [if_neg (by simp [h]), show (T.l s).d = .tuple [.int s] from rfl, show (T.l r).d = .tuple [.int r] from rfl, lA_tup, lA_int, if_neg this]
      simp only [T.syms, List.singleton_append, List.cons_lt_cons_iff]
      exact decide_eq_decide.mpr (by omega)
  | .u s a, .u r b, o, o', p, q => by
    by_cases h : s = r
    · subst h
      have ih := syms_lt a b o.2 o'.2 p q
      simp only [T.syms, List.cons_append, List.cons_lt_cons_iff, Nat.lt_irrefl, false_or, true_and, ih, T.u.injEq]
      rw [show (T.u s a).d = .tuple [.int s, a.d] from rfl, show (T.u s b).d = .tuple [.int s, b.d] from rfl, lA_tup, lA_int, if_pos rfl, lA_cons (T.al a b), T.ev, lA_nn]
      by_cases e : a = b <;> simp [e]
    · have : (s : Int) ≠ r := fun e => h (Int.ofNat_inj.mp e)
      rw [if_neg (by simp [h]), show (T.u s a).d = .tuple [.int s, a.d] from rfl, show (T.u r b).d = .tuple [.int r, b.d] from rfl, lA_tup, lA_int, if_neg this]
      simp only [T.syms, List.cons_append, List.cons_lt_cons_iff]
      exact decide_eq_decide.mpr (by omega)
  | .b s a x, .b r b y, o, o', p, q => by
    by_cases h : s = r
    · subst h
      have ih := syms_lt a b o.2.1 o'.2.1 (x.syms ++ p) (y.syms ++ q)
      have ih2 := syms_lt x y o.2.2 o'.2.2 p q
      simp only [T.syms, List.cons_append, List.append_assoc, List.cons_lt_cons_iff, Nat.lt_irrefl, false_or, true_and, ih, ih2, T.b.injEq]
      rw [show (T.b s a x).d = .tuple [.int s, a.d, x.d] from rfl, show (T.b s b y).d = .tuple [.int s, b.d, y.d] from rfl, lA_tup, lA_int, if_pos rfl, lA_cons (T.al a b), T.ev, lA_cons (T.al x y), T.ev, lA_nn]
      by_cases e : a = b
      · by_cases e2 : x = y
        · simp [e, e2]
        · simp [e, e2]
      · simp [e]
    · have : (s : Int) ≠ r := fun e => h (Int.ofNat_inj.mp e)
      rw [if_neg (by simp [h]), show (T.b s a x).d = .tuple [.int s, a.d, x.d] from rfl, show (T.b r b y).d = .tuple [.int r, b.d, y.d] from rfl, lA_tup, lA_int, if_neg this]
      simp only [T.syms, List.cons_append, List.cons_lt_cons_iff]
      exact decide_eq_decide.mpr (by omega)
  | .l s, .u r b, o, o', p, q => by
    have h : s ≠ r := fun e => by subst e; exact absurd (ok_ar o o'.1) (by decide)
    have : (s : Int) ≠ r := fun e => h (Int.ofNat_inj.mp e)
    rw [if_neg (by simp), show (T.l s).d = .tuple [.int s] from rfl, show (T.u r b).d = .tuple [.int r, b.d] from rfl, lA_tup, lA_int, if_neg this]
    simp only [T.syms, List.cons_append, List.cons_lt_cons_iff]
    exact decide_eq_decide.mpr (by omega)
  | .l s, .b r b y, o, o', p, q => by
    have h : s ≠ r := fun e => by subst e; exact absurd (ok_ar o o'.1) (by decide)
    have : (s : Int) ≠ r := fun e => h (Int.ofNat_inj.mp e)
    rw [if_neg (by simp), show (T.l s).d = .tuple [.int s] from rfl, show (T.b r b y).d = .tuple [.int r, b.d, y.d] from rfl, lA_tup, lA_int, if_neg this]
    simp only [T.syms, List.cons_append, List.cons_lt_cons_iff]
    exact decide_eq_decide.mpr (by omega)
  | .u s a, .l r, o, o', p, q => by
    have h : s ≠ r := fun e => by subst e; exact absurd (ok_ar o.1 o') (by decide)
    have : (s : Int) ≠ r := fun e => h (Int.ofNat_inj.mp e)
    rw [if_neg (by simp), show (T.u s a).d = .tuple [.int s, a.d] from rfl, show (T.l r).d = .tuple [.int r] from rfl, lA_tup, lA_int, if_neg this]
    simp only [T.syms, List.cons_append, List.cons_lt_cons_iff]
    exact decide_eq_decide.mpr (by omega)
  | .u s a, .b r b y, o, o', p, q => by
    have h : s ≠ r := fun e => by subst e; exact absurd (ok_ar o.1 o'.1) (by decide)
    have : (s : Int) ≠ r := fun e => h (Int.ofNat_inj.mp e)
    rw [if_neg (by simp), show (T.u s a).d = .tuple [.int s, a.d] from rfl, show (T.b r b y).d = .tuple [.int r, b.d, y.d] from rfl, lA_tup, lA_int, if_neg this]
    simp only [T.syms, List.cons_append, List.cons_lt_cons_iff]
    exact decide_eq_decide.mpr (by omega)
  | .b s a x, .l r, o, o', p, q => by
    have h : s ≠ r := fun e => by subst e; exact absurd (ok_ar o.1 o') (by decide)
    have : (s : Int) ≠ r := fun e => h (Int.ofNat_inj.mp e)
    rw [if_neg (by simp), show (T.b s a x).d = .tuple [.int s, a.d, x.d] from rfl, show (T.l r).d = .tuple [.int r] from rfl, lA_tup, lA_int, if_neg this]
    simp only [T.syms, List.cons_append, List.cons_lt_cons_iff]
    exact decide_eq_decide.mpr (by omega)
  | .b s a x, .u r b, o, o', p, q => by
    have h : s ≠ r := fun e => by subst e; exact absurd (ok_ar o.1 o'.1) (by decide)
    have : (s : Int) ≠ r := fun e => h (Int.ofNat_inj.mp e)
    rw [if_neg (by simp), show (T.b s a x).d = .tuple [.int s, a.d, x.d] from rfl, show (T.u r b).d = .tuple [.int r, b.d] from rfl, lA_tup, lA_int, if_neg this]
    simp only [T.syms, List.cons_append, List.cons_lt_cons_iff]
    exact decide_eq_decide.mpr (by omega)
theorem dLt_T {A : List Int} {t u : T} (o : t.ok A) (o' : u.ok A) : dLt t.d u.d = decide (t.syms < u.syms) := by
  have := syms_lt t u o o' [] []
  simp only [List.append_nil] at this
  rw [this]
  by_cases e : t = u
  · subst e; simp [dLt_self]
  · simp [e]
theorem syms_inj {A : List Int} : ∀ (t u : T), t.ok A → u.ok A → ∀ p q : List Nat, t.syms ++ p = u.syms ++ q → t = u ∧ p = q
  | .l s, .l r, o, o', p, q, h => by simp [T.syms] at h; simp [h]
  | .u s a, .u r b, o, o', p, q, h => by
    simp only [T.syms, List.cons_append, List.cons.injEq] at h
    have := syms_inj a b o.2 o'.2 p q h.2
    simp [h.1, this]
  | .b s a x, .b r b y, o, o', p, q, h => by
    simp only [T.syms, List.cons_append, List.cons.injEq, List.append_assoc] at h
    have h1 := syms_inj a b o.2.1 o'.2.1 _ _ h.2
    have h2 := syms_inj x y o.2.2 o'.2.2 _ _ h1.2
    simp [h.1, h1.1, h2]
  | .l s, .u r b, o, o', p, q, h => by
    simp only [T.syms, List.cons_append, List.cons.injEq] at h
    obtain ⟨rfl, _⟩ := h; exact absurd (ok_ar o o'.1) (by decide)
  | .l s, .b r b y, o, o', p, q, h => by
    simp only [T.syms, List.cons_append, List.cons.injEq] at h
    obtain ⟨rfl, _⟩ := h; exact absurd (ok_ar o o'.1) (by decide)
  | .u s a, .l r, o, o', p, q, h => by
    simp only [T.syms, List.cons_append, List.cons.injEq] at h
    obtain ⟨rfl, _⟩ := h; exact absurd (ok_ar o.1 o') (by decide)
  | .u s a, .b r b y, o, o', p, q, h => by
    simp only [T.syms, List.cons_append, List.cons.injEq] at h
    obtain ⟨rfl, _⟩ := h; exact absurd (ok_ar o.1 o'.1) (by decide)
  | .b s a x, .l r, o, o', p, q, h => by
    simp only [T.syms, List.cons_append, List.cons.injEq] at h
    obtain ⟨rfl, _⟩ := h; exact absurd (ok_ar o.1 o') (by decide)
  | .b s a x, .u r b, o, o', p, q, h => by
    simp only [T.syms, List.cons_append, List.cons.injEq] at h
    obtain ⟨rfl, _⟩ := h; exact absurd (ok_ar o.1 o'.1) (by decide)
/-- fewer nodes first, then the symbols -/
def klt (t u : T) : Prop := t.n < u.n ∨ (t.n = u.n ∧ t.syms < u.syms)
instance (t u : T) : Decidable (klt t u) := inferInstanceAs (Decidable (_ ∨ _))
def kle (t u : T) : Prop := ¬ klt u t
theorem lex_ge {a b : List Nat} (h : ¬ a < b) : b ≤ a := List.not_lt.mp h
theorem kle_refl (t : T) : kle t t := by
  unfold kle klt
  rintro (h | h)
  · omega
  · exact List.lt_irrefl _ h.2
theorem kle_iff {t u : T} : kle t u ↔ t.n < u.n ∨ (t.n = u.n ∧ t.syms ≤ u.syms) := by
  unfold kle klt
  constructor
  · intro h
    by_cases h1 : t.n < u.n
    · exact .inl h1
    · refine .inr ⟨?_, List.not_lt.mp fun h2 => h (.inr ⟨?_, h2⟩)⟩
      · by_cases h2 : u.n < t.n
        · exact absurd (.inl h2) h
        · omega
      · by_cases h2 : u.n < t.n
        · exact absurd (.inl h2) h
        · omega
  · rintro (h | ⟨h, h2⟩) (h' | ⟨h', h3⟩)
    · omega
    · omega
    · omega
    · exact List.not_lt.mpr h2 h3
theorem kle_trans {t u v : T} (h : kle t u) (h' : kle u v) : kle t v := by
  rw [kle_iff] at *
  rcases h with h | ⟨h, h1⟩ <;> rcases h' with h' | ⟨h', h2⟩
  · exact .inl (by omega)
  · exact .inl (by omega)
  · exact .inl (by omega)
  · exact .inr ⟨by omega, List.le_trans h1 h2⟩
theorem kle_anti {A : List Int} {t u : T} (o : t.ok A) (o' : u.ok A) (h : kle t u) (h' : kle u t) : t = u := by
  rw [kle_iff] at h h'
  have : t.syms = u.syms := by
    rcases h with h | ⟨_, h⟩ <;> rcases h' with h' | ⟨_, h'⟩ <;> first | omega | exact List.le_antisymm h h'
  have := syms_inj t u o o' [] [] (by simp [this])
  exact this.1
theorem kle_n {t u : T} (h : kle t u) : t.n ≤ u.n := by
  rw [kle_iff] at h
  omega
theorem klt_kle {t u : T} (h : klt t u) : kle t u := by
  rw [kle_iff]
  rcases h with h | ⟨h, h1⟩
  · exact .inl h
  · exact .inr ⟨h, List.le_of_lt h1⟩
end G
set_option linter.all false
set_option autoImplicit false
set_option maxRecDepth 100000
set_option maxHeartbeats 2000000
namespace G
open PySem L2
/-! best trees of states, level by level -/
def mkt (i : Nat) : List T → T
  | [] => .l i
  | [a] => .u i a
  | a :: c :: _ => .b i a c
def T.dep : T → Nat
  | .l _ => 1
  | .u _ a => a.dep + 1
  | .b _ x y => max x.dep y.dep + 1
theorem T.dep_n : ∀ t : T, t.dep ≤ t.n
  | .l _ => Nat.le_refl _
  | .u _ a => Nat.succ_le_succ a.dep_n
  | .b _ x y => by have := x.dep_n; have := y.dep_n; simp only [T.dep, T.n]; omega
theorem T.dep_pos (t : T) : 1 ≤ t.dep := by cases t <;> simp [T.dep]
abbrev Bst := List (Option T)
def bget (b : Bst) (s : Nat) : T := ((b[s]?).getD none).getD (.l 0)
def known (b : Bst) : List Nat := (List.range b.length).filter fun s => ((b[s]?).getD none).isSome
theorem known_iff {b : Bst} {s : Nat} : s ∈ known b ↔ ∃ t, b[s]? = some (some t) := by
  unfold known
  rw [List.mem_filter, List.mem_range]
  constructor
  · rintro ⟨h1, h2⟩
    rw [List.getElem?_eq_getElem h1] at h2 ⊢
    obtain ⟨t, e⟩ := Option.isSome_iff_exists.mp h2
    exact ⟨t, by simpa using e⟩
  · rintro ⟨t, e⟩
    exact ⟨(List.getElem?_eq_some_iff.mp e).1, by rw [e]; rfl⟩
theorem bget_of {b : Bst} {s : Nat} {t : T} (h : b[s]? = some (some t)) : bget b s = t := by unfold bget; rw [h]; rfl
def cand (b : Bst) (i : Nat) (c : List Nat) : T := mkt i (c.map (bget b))
def btr (o : Option (Option T)) (t : T) : Bool := match o with
  | some (some u) => decide (klt t u)
  | _ => true
theorem btr_iff {o : Option (Option T)} {t : T} : btr o t = true ↔ ∀ u, o = some (some u) → klt t u := by
  unfold btr
  split
  · rename_i u
    rw [decide_eq_true_eq]
    exact ⟨fun h u e => by cases e; exact h, fun h => h u rfl⟩
  · rename_i h
    exact ⟨fun _ u e => absurd e (h u), fun _ => rfl⟩
def upd1 (sts : List Stp) (cur : Bst) (t : T) : Bst :=
  if t.n ≤ 15 ∧ btr (cur[st sts t]?) t = true then cur.set (st sts t) (some t) else cur
structure Snd (m : Nat) (A : List Int) (sts : List Stp) (b : Bst) : Prop where
  len : b.length = m
  ok : ∀ s t, b[s]? = some (some t) → t.ok A ∧ st sts t = s ∧ t.n ≤ 15
def Imp (b b' : Bst) : Prop := ∀ (s : Nat) (t : T), b[s]? = some (some t) → ∃ t', b'[s]? = some (some t') ∧ kle t' t
theorem Imp.refl (b : Bst) : Imp b b := fun s t h => ⟨t, h, kle_refl t⟩
theorem Imp.trans {a b c : Bst} (h : Imp a b) (h' : Imp b c) : Imp a c := fun s t e => by
  obtain ⟨t1, e1, k1⟩ := h s t e
  obtain ⟨t2, e2, k2⟩ := h' s t1 e1
  exact ⟨t2, e2, kle_trans k2 k1⟩
/-- a tree that is reckoned with -/
def Dn (sts : List Stp) (b : Bst) (t : T) : Prop := t.n ≤ 15 → ∃ t', b[st sts t]? = some (some t') ∧ kle t' t
theorem Dn.imp {sts : List Stp} {a b : Bst} {t : T} (h : Dn sts a t) (h' : Imp a b) : Dn sts b t := fun hn => by
  obtain ⟨t1, e1, k1⟩ := h hn
  obtain ⟨t2, e2, k2⟩ := h' _ t1 e1
  exact ⟨t2, e2, kle_trans k2 k1⟩
section
variable {m : Nat} {A : List Int} {sts : List Stp} (h : StOk m A sts)
include h
theorem upd1_snd {cur : Bst} (g : Snd m A sts cur) {t : T} (o : t.ok A) : Snd m A sts (upd1 sts cur t) := by
  unfold upd1
  split
  · rename_i c
    refine ⟨by rw [List.length_set, g.len], fun s u e => ?_⟩
    rw [List.getElem?_set] at e
    split at e
    · rename_i e1
      split at e <;> cases e
      exact ⟨o, e1, c.1⟩
    · exact g.ok s u e
  · exact g
theorem upd1_imp {cur : Bst} {t : T} : Imp cur (upd1 sts cur t) := by
  unfold upd1
  split
  · rename_i c
    intro s u e
    by_cases hs : st sts t = s
    · subst hs
      exact ⟨t, by rw [List.getElem?_set, if_pos rfl, if_pos (List.getElem?_eq_some_iff.mp e).1], klt_kle (btr_iff.mp c.2 u e)⟩
    · exact ⟨u, by rw [List.getElem?_set, if_neg hs]; exact e, kle_refl u⟩
  · exact .refl _
theorem upd1_dn {cur : Bst} (g : Snd m A sts cur) {t : T} (o : t.ok A) : Dn sts (upd1 sts cur t) t := by
  intro hn
  have hl : st sts t < cur.length := by rw [g.len]; exact st_lt h t o
  unfold upd1
  split
  · exact ⟨t, by rw [List.getElem?_set, if_pos rfl, if_pos hl], kle_refl t⟩
  · rename_i c
    have c : ¬ ∀ t', cur[st sts t]? = some (some t') → klt t t' := fun z => c ⟨hn, btr_iff.mpr z⟩
    rw [Classical.not_forall] at c
    obtain ⟨u, c⟩ := c
    rw [Classical.not_imp] at c
    exact ⟨u, c.1, c.2⟩
/-- what is known makes trees -/
theorem cand_ok {b : Bst} (g : Snd m A sts b) {i : Nat} {a : Int} (hi : A[i]? = some a) {c : List Nat} (hc : (c.length : Int) = a) (ha : a ≤ 2) (hk : ∀ q ∈ c, q ∈ known b) : (cand b i c).ok A ∧ st sts (cand b i c) = app (stp sts i) c := by
  have key : ∀ q, q ∈ known b → (bget b q).ok A ∧ st sts (bget b q) = q := fun q hq => by
    obtain ⟨t, e⟩ := known_iff.mp hq
    rw [bget_of e]
    exact ⟨(g.ok q t e).1, (g.ok q t e).2.1⟩
  match c, hc, hk with
  | [], hc, hk => exact ⟨by show A[i]? = some 0; rw [hi, ← hc]; rfl, rfl⟩
  | [q], hc, hk =>
    have k := key q (hk q (by simp))
    refine ⟨⟨by rw [hi, ← hc]; rfl, k.1⟩, ?_⟩
    show app (stp sts i) [st sts (bget b q)] = _
    rw [k.2]
  | [q, r], hc, hk =>
    have k := key q (hk q (by simp))
    have k' := key r (hk r (by simp))
    refine ⟨⟨by rw [hi, ← hc]; rfl, k.1, k'.1⟩, ?_⟩
    show app (stp sts i) [st sts (bget b q), st sts (bget b r)] = _
    rw [k.2, k'.2]
  | _ :: _ :: _ :: _, hc, hk => simp at hc; omega
/-- one level more, of the right kind -/
structure Lvl (m : Nat) (A : List Int) (sts : List Stp) (b b' : Bst) : Prop where
  snd : Snd m A sts b'
  imp : Imp b b'
  dn : ∀ (i : Nat) (a : Int) (c : List Nat), A[i]? = some a → (c.length : Int) = a → (∀ q ∈ c, q ∈ known b) → Dn sts b' (cand b i c)
theorem kle_mk {i : Nat} {a : T} {a' : T} (h : kle a' a) : kle (.u i a') (.u i a) := by
  rw [kle_iff] at *
  simp only [T.n, T.syms]
  rcases h with h | ⟨h, h1⟩
  · exact .inl (by omega)
  · refine .inr ⟨by omega, ?_⟩
    rw [← List.not_lt, List.cons_lt_cons_iff]
    rintro (h2 | ⟨_, h2⟩)
    · omega
    · exact List.not_lt.mpr h1 h2
theorem kle_mk2 {i : Nat} {a a' c c' : T} (o : a.ok A) (o' : a'.ok A) (p : c.ok A) (p' : c'.ok A) (h1 : kle a' a) (h2 : kle c' c) : kle (.b i a' c') (.b i a c) := by
  have n1 := kle_n h1
  have n2 := kle_n h2
  rw [kle_iff] at *
  simp only [T.n, T.syms]
  by_cases e : a'.n + c'.n < a.n + c.n
  · exact .inl (by omega)
  · refine .inr ⟨by omega, ?_⟩
    have s1 : a'.syms ≤ a.syms := by rcases h1 with h | h; · omega
                                     · exact h.2
    have s2 : c'.syms ≤ c.syms := by rcases h2 with h | h; · omega
                                     · exact h.2
    rw [← List.not_lt, List.cons_lt_cons_iff]
    rintro (h3 | ⟨_, h3⟩)
    · omega
    · have e1 := syms_lt a a' o o' c.syms c'.syms
      rw [decide_eq_true h3] at e1
      split at e1
      · exact List.not_lt.mpr s2 (of_decide_eq_true e1.symm)
      · rw [dLt_T o o'] at e1
        exact List.not_lt.mpr s1 (of_decide_eq_true e1.symm)
/-- trees of few levels are reckoned with -/
def Cov (A : List Int) (sts : List Stp) (r : Nat) (b : Bst) : Prop := ∀ t : T, t.ok A → t.dep ≤ r → Dn sts b t
theorem cov0 (b : Bst) : Cov A sts 0 b := fun t _ hd => by have := t.dep_pos; omega
theorem cov_succ {b b' : Bst} (g : Snd m A sts b) (l : Lvl m A sts b b') {r : Nat} (c : Cov A sts r b) : Cov A sts (r + 1) b' := by
  intro t o hd hn
  have key : ∀ u : T, u.ok A → u.dep ≤ r → u.n ≤ 15 → ∃ u', b[st sts u]? = some (some u') ∧ kle u' u ∧ u'.ok A := fun u ou hd hn => by
    obtain ⟨u', e, k⟩ := c u ou hd hn
    exact ⟨u', e, k, (g.ok _ _ e).1⟩
  cases t with
  | l s =>
    obtain ⟨t', e, k⟩ := l.dn s 0 [] o rfl (by simp) (by simp [cand, mkt, T.n])
    exact ⟨t', e, k⟩
  | u s a =>
    simp only [T.dep] at hd
    simp only [T.n] at hn
    obtain ⟨a', e, k, oa⟩ := key a o.2 (by omega) (by omega)
    have e1 : cand b s [st sts a] = .u s a' := by simp [cand, mkt, bget_of e]
    have := l.dn s 1 [st sts a] o.1 rfl (by intro q hq; rw [List.mem_singleton.mp hq]; exact known_iff.mpr ⟨a', e⟩)
    rw [e1] at this
    obtain ⟨t', e2, k2⟩ := this (by have := kle_n k; simp only [T.n]; omega)
    have e3 : st sts (.u s a') = st sts (.u s a) := by simp only [st]; rw [(g.ok _ _ e).2.1]
    rw [e3] at e2
    exact ⟨t', e2, kle_trans k2 (kle_mk h k)⟩
  | b s x y =>
    simp only [T.dep] at hd
    simp only [T.n] at hn
    obtain ⟨x', ex, kx, ox⟩ := key x o.2.1 (by omega) (by omega)
    obtain ⟨y', ey, ky, oy⟩ := key y o.2.2 (by omega) (by omega)
    have e1 : cand b s [st sts x, st sts y] = .b s x' y' := by simp [cand, mkt, bget_of ex, bget_of ey]
    have := l.dn s 2 [st sts x, st sts y] o.1 rfl (by
      intro q hq
      rcases List.mem_cons.mp hq with rfl | hq
      · exact known_iff.mpr ⟨x', ex⟩
      · rw [List.mem_singleton.mp hq]; exact known_iff.mpr ⟨y', ey⟩)
    rw [e1] at this
    obtain ⟨t', e2, k2⟩ := this (by have := kle_n kx; have := kle_n ky; simp only [T.n]; omega)
    have e3 : st sts (.b s x' y') = st sts (.b s x y) := by simp only [st]; rw [(g.ok _ _ ex).2.1, (g.ok _ _ ey).2.1]
    rw [e3] at e2
    exact ⟨t', e2, kle_trans k2 (kle_mk2 h o.2.1 ox o.2.2 oy kx ky)⟩
theorem cov_fix {b : Bst} (g : Snd m A sts b) (l : Lvl m A sts b b) {r : Nat} (c : Cov A sts r b) : ∀ k, Cov A sts (r + k) b
  | 0 => c
  | k + 1 => cov_succ h g l (cov_fix g l c k)
theorem cov_all {b : Bst} (c : Cov A sts 15 b) (t : T) (o : t.ok A) : Dn sts b t := fun hn => c t o (Nat.le_trans t.dep_n hn) hn
theorem lvl_same {b b' : Bst} (g : Snd m A sts b) (l : Lvl m A sts b b') (c : Cov A sts 15 b) : b' = b := by
  refine List.ext_getElem? fun s => ?_
  by_cases hs : s < m
  · have l1 : s < b.length := by rw [g.len]; exact hs
    have l2 : s < b'.length := by rw [l.snd.len]; exact hs
    rw [List.getElem?_eq_getElem l1, List.getElem?_eq_getElem l2]
    congr 1
    cases e' : b'[s] with
    | some t' =>
      have h' : b'[s]? = some (some t') := by rw [List.getElem?_eq_getElem l2, e']
      obtain ⟨o, es, hn⟩ := l.snd.ok s t' h'
      obtain ⟨t2, e2, k2⟩ := cov_all h c t' o hn
      rw [es] at e2
      obtain ⟨t3, e3, k3⟩ := l.imp s t2 e2
      rw [h'] at e3
      cases e3
      have := kle_anti o (g.ok s t2 e2).1 k3 k2
      subst this
      rw [List.getElem?_eq_getElem l1] at e2
      exact (Option.some.inj e2).symm
    | none =>
      cases e : b[s] with
      | none => rfl
      | some t =>
        obtain ⟨t', e2, _⟩ := l.imp s t (by rw [List.getElem?_eq_getElem l1, e])
        rw [List.getElem?_eq_getElem l2, e'] at e2
        cases e2
  · have l1 : b.length ≤ s := by rw [g.len]; omega
    have l2 : b'.length ≤ s := by rw [l.snd.len]; omega
    rw [List.getElem?_eq_none l1, List.getElem?_eq_none l2]
end
end G
set_option linter.all false
set_option autoImplicit false
set_option maxRecDepth 100000
set_option maxHeartbeats 2000000
namespace G
open PySem L2
/-! each state that trees have, small trees have -/
theorem T.n_dep : ∀ t : T, t.n + 1 ≤ 2 ^ t.dep
  | .l _ => by simp [T.n, T.dep]
  | .u _ a => by
    have := a.n_dep
    simp only [T.n, T.dep, Nat.pow_succ]
    omega
  | .b _ x y => by
    have h1 := x.n_dep
    have h2 := y.n_dep
    have e1 : 2 ^ x.dep ≤ 2 ^ max x.dep y.dep := Nat.pow_le_pow_right (by omega) (by omega)
    have e2 : 2 ^ y.dep ≤ 2 ^ max x.dep y.dep := Nat.pow_le_pow_right (by omega) (by omega)
    simp only [T.n, T.dep, Nat.pow_succ]
    omega
theorem T.n15 {t : T} (h : t.dep ≤ 4) : t.n ≤ 15 := by
  have h1 := t.n_dep
  have : 2 ^ t.dep ≤ 2 ^ 4 := Nat.pow_le_pow_right (by omega) h
  omega
def Ixd (A : List Int) (sts : List Stp) (l : List Nat) : Prop := ∀ (i q : Nat), l[i]? = some q → ∃ t : T, t.ok A ∧ st sts t = q ∧ t.dep ≤ i + 1
section
variable {A : List Int} {sts : List Stp}
theorem add1_ix {l : List Nat} (h : Ixd A sts l) {q : Nat} (hq : ∃ t : T, t.ok A ∧ st sts t = q ∧ t.dep ≤ l.length + 1) : Ixd A sts (add1 l q) := by
  unfold add1
  split
  · exact h
  · intro i r e
    rw [List.getElem?_append] at e
    split at e
    · exact h i r e
    · rename_i hi
      have : i = l.length := by
        by_cases hh : i - l.length = 0
        · omega
        · obtain ⟨k, hk⟩ : ∃ k, i - l.length = k + 1 := ⟨i - l.length - 1, by omega⟩
          rw [hk] at e; simp at e
      subst this
      simp at e
      subst e
      exact hq
theorem adds_ix : ∀ (cs l : List Nat), Ixd A sts l → (∀ q ∈ cs, ∃ t : T, t.ok A ∧ st sts t = q ∧ t.dep ≤ l.length + 1) → Ixd A sts (adds l cs)
  | [], l, h, _ => h
  | q :: cs, l, h, hc => adds_ix cs _ (add1_ix h (hc q (by simp))) fun r hr => by
    obtain ⟨t, o, e, d⟩ := hc r (List.mem_cons_of_mem _ hr)
    refine ⟨t, o, e, ?_⟩
    obtain ⟨u, e⟩ := add1_pre l q
    rw [e, List.length_append]; omega
theorem ix_mem {l : List Nat} (h : Ixd A sts l) {q : Nat} (hq : q ∈ l) : ∃ t : T, t.ok A ∧ st sts t = q ∧ t.dep ≤ l.length := by
  obtain ⟨i, hi, rfl⟩ := List.getElem_of_mem hq
  obtain ⟨t, o, e, d⟩ := h i _ (List.getElem?_eq_getElem hi)
  exact ⟨t, o, e, by omega⟩
theorem cands_ix (hA : Ar A) {l : List Nat} (h : Ixd A sts l) {j : Nat} {a : Int} (ej : A[j]? = some a) : ∀ q ∈ cands sts l j a, ∃ t : T, t.ok A ∧ st sts t = q ∧ t.dep ≤ l.length + 1 := by
  intro q hq
  obtain ⟨c, hc, rfl⟩ := List.mem_map.mp hq
  obtain ⟨hl, hm⟩ := chs_mem.mp hc
  have ha := hA.le a (List.mem_of_getElem? ej)
  match c, hl, hm with
  | [], hl, _ => exact ⟨.l j, by show A[j]? = some 0; rw [ej]; congr 1; simp at hl; omega, rfl, by simp [T.dep]⟩
  | [x], hl, hm =>
    obtain ⟨t, o, et, d⟩ := ix_mem h (hm x (by simp))
    exact ⟨.u j t, ⟨by rw [ej]; congr 1; simp at hl; omega, o⟩, by simp only [st]; rw [et], by simp only [T.dep]; omega⟩
  | [x, y], hl, hm =>
    obtain ⟨t, o, et, d⟩ := ix_mem h (hm x (by simp))
    obtain ⟨u, o', eu, d'⟩ := ix_mem h (hm y (by simp))
    exact ⟨.b j t u, ⟨by rw [ej]; congr 1; simp at hl; omega, o, o'⟩, by simp only [st]; rw [et, eu], by simp only [T.dep]; omega⟩
  | _ :: _ :: _ :: _, hl, _ => simp at hl; omega
theorem rnd1_ix (hA : Ar A) : ∀ (B : List Int) (i : Nat) (l : List Nat), (∀ (j : Nat) (a : Int), B[j]? = some a → A[i + j]? = some a) → Ixd A sts l → Ixd A sts (rnd1 sts B i l)
  | [], i, l, _, h => h
  | a :: B, i, l, hB, h => rnd1_ix hA B (i + 1) _ (fun j b e => by have := hB (j + 1) b e; rwa [show i + (j + 1) = i + 1 + j by omega] at this) (adds_ix _ _ h (cands_ix hA h (hB 0 a rfl)))
theorem itr_ix (hA : Ar A) : ∀ (n : Nat) (l : List Nat), Ixd A sts l → Ixd A sts (itr (rnd sts A) n l)
  | 0, l, h => h
  | n + 1, l, h => itr_ix hA n _ (rnd1_ix hA A 0 l (fun j a e => by rwa [Nat.zero_add]) h)
theorem rl_small {m : Nat} (h : StOk m A sts) (hA : Ar A) (hm : m ≤ 4) : ∀ q ∈ rl sts A m, ∃ t : T, t.ok A ∧ st sts t = q ∧ t.n ≤ 15 := by
  intro q hq
  obtain ⟨t, o, e, d⟩ := ix_mem (A := A) (sts := sts) (l := rl sts A m) (itr_ix hA _ _ (fun i q e => by simp at e)) hq
  have := (rl_gd h hA).len
  exact ⟨t, o, e, T.n15 (by omega)⟩
end
end G
set_option linter.all false
set_option autoImplicit false
set_option maxRecDepth 100000
set_option maxHeartbeats 2000000
namespace G
open PySem L2
theorem next_p {ns : List Int} {c k m : Int} (hk : 0 ≤ k) (hm : 0 < m) (hm2 : m < 1073741824) : p__law_next (Cell ns c k) (.int m) = some (.int ((nxt ns c k).1 % m), Cell ns ((nxt ns c k).1 / m) (nxt ns c k).2) := by
  by_cases c0 : c = 0
  · subst c0
    by_cases ck : k < (ns.length : Int)
    · have e1 : atI (ns.map PyData.int) k = some (.int (ns.getD k.toNat 0)) := by
        rw [atI_n hk (by rw [List.length_map]; exact ck), List.getElem?_map, List.getD_eq_getElem?_getD, List.getElem?_eq_getElem (by omega)]
        rfl
      have ef : first ns k = if ns.getD k.toNat 0 < 0 then -(ns.getD k.toNat 0) else ns.getD k.toNat 0 := by unfold first; rw [if_pos ck]
      obtain ⟨a, ha⟩ : ∃ a, ns.getD k.toNat 0 = a := ⟨_, rfl⟩
      rw [ha] at e1 ef
      obtain ⟨f, hf⟩ : ∃ f, (if a < 0 then -a else a) = f := ⟨_, rfl⟩
      rw [hf] at ef
      by_cases cm : f < 1000000000000000000
      · simp [p__law_next, Option.bind_some, Option.map_some, Option.bind_none, Option.map_none, bx_some, lx_some, bx_lx, bx, lx, ixO, asQ, asL, asB, asI, tru, notO, andO, orO, un2, un3, un4, slT, mkT, mkL, lenD, rg2, rg3, fAdd, fTT, fI0, fII, fSub, fMulX, fMul, fRep, bMul, bDiv, bMod, bPow, fDiv, fMod, fPow, fLtX, fLeX, fGtX, fGeX, fLt, fLe, fGt, fGe, fIs, fIsNot, fIsB, fNotB, fIsN, fNotN, isN, fNeg, fIx, fAbs, fInt, fBool, fMax2, fMin2, fIsi, tyN, appO, extO, extT, extD, catO, subO, addO, inO, enO, zipO, zipX, afterR, rtD, Option.or, lessK, nxt, mix, ef, cm, hf, a30, a31, a32, i31, i32, fEq, sh_int, ev_int, ck, e1, hm, hm2, Cell]
      · simp [p__law_next, Option.bind_some, Option.map_some, Option.bind_none, Option.map_none, bx_some, lx_some, bx_lx, bx, lx, ixO, asQ, asL, asB, asI, tru, notO, andO, orO, un2, un3, un4, slT, mkT, mkL, lenD, rg2, rg3, fAdd, fTT, fI0, fII, fSub, fMulX, fMul, fRep, bMul, bDiv, bMod, bPow, fDiv, fMod, fPow, fLtX, fLeX, fGtX, fGeX, fLt, fLe, fGt, fGe, fIs, fIsNot, fIsB, fNotB, fIsN, fNotN, isN, fNeg, fIx, fAbs, fInt, fBool, fMax2, fMin2, fIsi, tyN, appO, extO, extT, extD, catO, subO, addO, inO, enO, zipO, zipX, afterR, rtD, Option.or, lessK, nxt, mix, ef, cm, hf, a30, a31, a32, i31, i32, fEq, sh_int, ev_int, ck, e1, hm, hm2, Cell]
    · have ef : first ns k = 7 + k := by unfold first; rw [if_neg ck]
      by_cases cm : 7 + k < 1000000000000000000
      · simp [p__law_next, Option.bind_some, Option.map_some, Option.bind_none, Option.map_none, bx_some, lx_some, bx_lx, bx, lx, ixO, asQ, asL, asB, asI, tru, notO, andO, orO, un2, un3, un4, slT, mkT, mkL, lenD, rg2, rg3, fAdd, fTT, fI0, fII, fSub, fMulX, fMul, fRep, bMul, bDiv, bMod, bPow, fDiv, fMod, fPow, fLtX, fLeX, fGtX, fGeX, fLt, fLe, fGt, fGe, fIs, fIsNot, fIsB, fNotB, fIsN, fNotN, isN, fNeg, fIx, fAbs, fInt, fBool, fMax2, fMin2, fIsi, tyN, appO, extO, extT, extD, catO, subO, addO, inO, enO, zipO, zipX, afterR, rtD, Option.or, lessK, nxt, mix, ef, cm, a30, a31, a32, i31, i32, fEq, sh_int, ev_int, ck, hm, hm2, Cell]
      · simp [p__law_next, Option.bind_some, Option.map_some, Option.bind_none, Option.map_none, bx_some, lx_some, bx_lx, bx, lx, ixO, asQ, asL, asB, asI, tru, notO, andO, orO, un2, un3, un4, slT, mkT, mkL, lenD, rg2, rg3, fAdd, fTT, fI0, fII, fSub, fMulX, fMul, fRep, bMul, bDiv, bMod, bPow, fDiv, fMod, fPow, fLtX, fLeX, fGtX, fGeX, fLt, fLe, fGt, fGe, fIs, fIsNot, fIsB, fNotB, fIsN, fNotN, isN, fNeg, fIx, fAbs, fInt, fBool, fMax2, fMin2, fIsi, tyN, appO, extO, extT, extD, catO, subO, addO, inO, enO, zipO, zipX, afterR, rtD, Option.or, lessK, nxt, mix, ef, cm, a30, a31, a32, i31, i32, fEq, sh_int, ev_int, ck, hm, hm2, Cell]
  · simp [p__law_next, Option.bind_some, Option.map_some, Option.bind_none, Option.map_none, bx_some, lx_some, bx_lx, bx, lx, ixO, asQ, asL, asB, asI, tru, notO, andO, orO, un2, un3, un4, slT, mkT, mkL, lenD, rg2, rg3, fAdd, fTT, fI0, fII, fSub, fMulX, fMul, fRep, bMul, bDiv, bMod, bPow, fDiv, fMod, fPow, fLtX, fLeX, fGtX, fGeX, fLt, fLe, fGt, fGe, fIs, fIsNot, fIsB, fNotB, fIsN, fNotN, isN, fNeg, fIx, fAbs, fInt, fBool, fMax2, fMin2, fIsi, tyN, appO, extO, extT, extD, catO, subO, addO, inO, enO, zipO, zipX, afterR, rtD, Option.or, lessK, nxt, c0, a30, a31, a32, i31, i32, fEq, sh_int, ev_int, hm, hm2, Cell]
/-- a draw -/
theorem nx {s : List D} (hs : Stm s) (m : Nat) (h0 : 0 < m) (hm : m < 1073741824) : ∃ (g : Nat) (s' : List D), g < m ∧ Stm s' ∧ p__law_next s (.int (m : Nat)) = some (.int (g : Nat), s') := by
  obtain ⟨ns, c, k, rfl, hc, hk⟩ := hs
  obtain ⟨a1, a2⟩ := nxt_nn (ns := ns) hc hk
  have b1 := Int.emod_nonneg (nxt ns c k).1 (show (m : Int) ≠ 0 by omega)
  have b2 := Int.emod_lt_of_pos (nxt ns c k).1 (show (0 : Int) < m by omega)
  have b3 := Int.ediv_nonneg a1 (show (0 : Int) ≤ m by omega)
  refine ⟨((nxt ns c k).1 % m).toNat, _, by omega, ⟨ns, _, _, rfl, b3, a2⟩, ?_⟩
  rw [next_p hk (by omega) (by omega), show ((((nxt ns c k).1 % m).toNat : Nat) : Int) = (nxt ns c k).1 % m by omega]
theorem stream_p (ns : List Int) : p__law_stream (.list (ns.map .int)) = some (Cell ns 0 0) := by
  simp [p__law_stream, Option.bind_some, Option.map_some, Option.bind_none, Option.map_none, bx_some, lx_some, bx_lx, bx, lx, ixO, asQ, asL, asB, asI, tru, notO, andO, orO, un2, un3, un4, slT, mkT, mkL, lenD, rg2, rg3, fAdd, fTT, fI0, fII, fSub, fMulX, fMul, fRep, bMul, bDiv, bMod, bPow, fDiv, fMod, fPow, fLtX, fLeX, fGtX, fGeX, fLt, fLe, fGt, fGe, fIs, fIsNot, fIsB, fNotB, fIsN, fNotN, isN, fNeg, fIx, fAbs, fInt, fBool, fMax2, fMin2, fIsi, tyN, appO, extO, extT, extD, catO, subO, addO, inO, enO, zipO, zipX, afterR, rtD, Option.or, lessK]
theorem stm0 (ns : List Int) : Stm (Cell ns 0 0) := ⟨ns, 0, 0, rfl, by omega, by omega⟩
end G
set_option linter.all false
set_option autoImplicit false
set_option maxRecDepth 100000
set_option maxHeartbeats 2000000
namespace G
open PySem L2
theorem is_integer_p (v : D) (l m : Int) (h : notDict v = true) : p_is_integer v (.int l) (.int m) = some (.bool (isInt v l m)) := by
  obtain ⟨a1, a2, a3, a4, a5, a6⟩ := kit1
  obtain ⟨b1, b2, b3, b4, b5, b6⟩ := kit2
  cases v with
  | int i =>
    by_cases h1 : l ≤ i <;> by_cases h2 : i ≤ m <;> simp [p_is_integer, Option.bind_some, Option.map_some, Option.bind_none, Option.map_none, bx_some, lx_some, bx_lx, bx, lx, ixO, asQ, asL, asB, asI, tru, notO, andO, orO, un2, un3, un4, slT, mkT, mkL, lenD, rg2, rg3, fAdd, fTT, fI0, fII, fSub, fMulX, fMul, fRep, bMul, bDiv, bMod, bPow, fDiv, fMod, fPow, fLtX, fLeX, fGtX, fGeX, fLt, fLe, fGt, fGe, fIs, fIsNot, fIsB, fNotB, fIsN, fNotN, isN, fNeg, fIx, fAbs, fInt, fBool, fMax2, fMin2, fIsi, tyN, appO, extO, extT, extD, catO, subO, addO, inO, enO, zipO, zipX, afterR, rtD, Option.or, lessK, isInt, h1, h2, *]
  | dict _ => cases h
  | _ => simp [p_is_integer, Option.bind_some, Option.map_some, Option.bind_none, Option.map_none, bx_some, lx_some, bx_lx, bx, lx, ixO, asQ, asL, asB, asI, tru, notO, andO, orO, un2, un3, un4, slT, mkT, mkL, lenD, rg2, rg3, fAdd, fTT, fI0, fII, fSub, fMulX, fMul, fRep, bMul, bDiv, bMod, bPow, fDiv, fMod, fPow, fLtX, fLeX, fGtX, fGeX, fLt, fLe, fGt, fGe, fIs, fIsNot, fIsB, fNotB, fIsN, fNotN, isN, fNeg, fIx, fAbs, fInt, fBool, fMax2, fMin2, fIsi, tyN, appO, extO, extT, extD, catO, subO, addO, inO, enO, zipO, zipX, afterR, rtD, Option.or, lessK, isInt, *]
theorem is_tuple_p (v : D) (l m : Int) (h : notDict v = true) : p_is_tuple v (.int l) (.int m) = some (.bool (isTup v l m)) := by
  obtain ⟨a1, a2, a3, a4, a5, a6⟩ := kit3
  cases v with
  | tuple xs =>
    by_cases h1 : l ≤ (xs.length : Int) <;> by_cases h2 : (xs.length : Int) ≤ m <;> simp [p_is_tuple, Option.bind_some, Option.map_some, Option.bind_none, Option.map_none, bx_some, lx_some, bx_lx, bx, lx, ixO, asQ, asL, asB, asI, tru, notO, andO, orO, un2, un3, un4, slT, mkT, mkL, lenD, rg2, rg3, fAdd, fTT, fI0, fII, fSub, fMulX, fMul, fRep, bMul, bDiv, bMod, bPow, fDiv, fMod, fPow, fLtX, fLeX, fGtX, fGeX, fLt, fLe, fGt, fGe, fIs, fIsNot, fIsB, fNotB, fIsN, fNotN, isN, fNeg, fIx, fAbs, fInt, fBool, fMax2, fMin2, fIsi, tyN, appO, extO, extT, extD, catO, subO, addO, inO, enO, zipO, zipX, afterR, rtD, Option.or, lessK, isTup, h1, h2, *]
  | dict _ => cases h
  | _ => simp [p_is_tuple, Option.bind_some, Option.map_some, Option.bind_none, Option.map_none, bx_some, lx_some, bx_lx, bx, lx, ixO, asQ, asL, asB, asI, tru, notO, andO, orO, un2, un3, un4, slT, mkT, mkL, lenD, rg2, rg3, fAdd, fTT, fI0, fII, fSub, fMulX, fMul, fRep, bMul, bDiv, bMod, bPow, fDiv, fMod, fPow, fLtX, fLeX, fGtX, fGeX, fLt, fLe, fGt, fGe, fIs, fIsNot, fIsB, fNotB, fIsN, fNotN, isN, fNeg, fIx, fAbs, fInt, fBool, fMax2, fMin2, fIsi, tyN, appO, extO, extT, extD, catO, subO, addO, inO, enO, zipO, zipX, afterR, rtD, Option.or, lessK, isTup, *]
theorem are_integers_p (xs : List D) (l m : Int) (h : ∀ x ∈ xs, notDict x = true) (hz : xs.length ≤ 1000000) : p_are_integers (.tuple xs) (.int l) (.int m) = some (.bool (xs.all fun x => isInt x l m)) := by
  have e := fun (ot : D → Option Bool) (oe : D → Option D) h2 h3 => lcPz_d (fun x => .bool (isInt x l m)) xs hz (ot := ot) (oe := oe) h2 h3
  have e2 := e (fun _ => some true) (fun y => p_is_integer y (.int l) (.int m)) (fun _ _ => rfl) (fun x hx => is_integer_p x l m (h x hx))
  simp [p_are_integers, Option.bind_some, Option.map_some, Option.bind_none, Option.map_none, bx_some, lx_some, bx_lx, bx, lx, ixO, asQ, asL, asB, asI, tru, notO, andO, orO, un2, un3, un4, slT, mkT, mkL, lenD, rg2, rg3, fAdd, fTT, fI0, fII, fSub, fMulX, fMul, fRep, bMul, bDiv, bMod, bPow, fDiv, fMod, fPow, fLtX, fLeX, fGtX, fGeX, fLt, fLe, fGt, fGe, fIs, fIsNot, fIsB, fNotB, fIsN, fNotN, isN, fNeg, fIx, fAbs, fInt, fBool, fMax2, fMin2, fIsi, tyN, appO, extO, extT, extD, catO, subO, addO, inO, enO, zipO, zipX, afterR, rtD, Option.or, lessK, e2, allD_m]
theorem is_arities_p (v : D) (h : okv v = true) : p_is_arities v = some (.bool (isAr v)) := by
  have h1 := fun l m => is_tuple_p v l m (okv_nd h)
  cases v with
  | tuple xs =>
    have h' : (xs.all notDict && decide (xs.length ≤ 1000000)) = true := h
    rw [Bool.and_eq_true, List.all_eq_true, decide_eq_true_eq] at h'
    have h2 := are_integers_p xs 0 2 h'.1 h'.2
    by_cases c1 : 1 ≤ xs.length <;> by_cases c2 : xs.length ≤ 4 <;>
      simp [p_is_arities, Option.bind_some, Option.map_some, Option.bind_none, Option.map_none, bx_some, lx_some, bx_lx, bx, lx, ixO, asQ, asL, asB, asI, tru, notO, andO, orO, un2, un3, un4, slT, mkT, mkL, lenD, rg2, rg3, fAdd, fTT, fI0, fII, fSub, fMulX, fMul, fRep, bMul, bDiv, bMod, bPow, fDiv, fMod, fPow, fLtX, fLeX, fGtX, fGeX, fLt, fLe, fGt, fGe, fIs, fIsNot, fIsB, fNotB, fIsN, fNotN, isN, fNeg, fIx, fAbs, fInt, fBool, fMax2, fMin2, fIsi, tyN, appO, extO, extT, extD, catO, subO, addO, inO, enO, zipO, zipX, afterR, rtD, Option.or, lessK, h1, h2, isTup, isAr, c1, c2, show ((xs.length : Int) ≤ 4) ↔ xs.length ≤ 4 by omega, show (1 ≤ (xs.length : Int)) ↔ 1 ≤ xs.length by omega]
  | dict _ => cases h
  | _ => simp [p_is_arities, Option.bind_some, Option.map_some, Option.bind_none, Option.map_none, bx_some, lx_some, bx_lx, bx, lx, ixO, asQ, asL, asB, asI, tru, notO, andO, orO, un2, un3, un4, slT, mkT, mkL, lenD, rg2, rg3, fAdd, fTT, fI0, fII, fSub, fMulX, fMul, fRep, bMul, bDiv, bMod, bPow, fDiv, fMod, fPow, fLtX, fLeX, fGtX, fGeX, fLt, fLe, fGt, fGe, fIs, fIsNot, fIsB, fNotB, fIsN, fNotN, isN, fNeg, fIx, fAbs, fInt, fBool, fMax2, fMin2, fIsi, tyN, appO, extO, extT, extD, catO, subO, addO, inO, enO, zipO, zipX, afterR, rtD, Option.or, lessK, h1, isTup, isAr]
theorem is_node_p (A : List Int) (v : D) (h : okv v = true) : p__is_node (dA A) v = some (.bool (nodeOk A v)) := by
  have h1 := fun l m => is_tuple_p v l m (okv_nd h)
  cases v with
  | tuple xs =>
    have h' : (xs.all notDict && decide (xs.length ≤ 1000000)) = true := h
    rw [Bool.and_eq_true, List.all_eq_true, decide_eq_true_eq] at h'
    cases xs with
    | nil => simp [p__is_node, Option.bind_some, Option.map_some, Option.bind_none, Option.map_none, bx_some, lx_some, bx_lx, bx, lx, ixO, asQ, asL, asB, asI, tru, notO, andO, orO, un2, un3, un4, slT, mkT, mkL, lenD, rg2, rg3, fAdd, fTT, fI0, fII, fSub, fMulX, fMul, fRep, bMul, bDiv, bMod, bPow, fDiv, fMod, fPow, fLtX, fLeX, fGtX, fGeX, fLt, fLe, fGt, fGe, fIs, fIsNot, fIsB, fNotB, fIsN, fNotN, isN, fNeg, fIx, fAbs, fInt, fBool, fMax2, fMin2, fIsi, tyN, appO, extO, extT, extD, catO, subO, addO, inO, enO, zipO, zipX, afterR, rtD, Option.or, lessK, h1, isTup, nodeOk]
    | cons x r =>
      have h2 := fun l m => is_integer_p x l m (h'.1 x List.mem_cons_self)
      by_cases c : r.length ≤ 2
      · have c' : ((r.length : Int) + 1 ≤ 3) := by omega
        cases x with
        | int s =>
          by_cases c0 : 0 ≤ s
          · by_cases c1 : s < A.length
            · have e1 : s ≤ (A.length : Int) - 1 := by omega
              obtain ⟨a, ha⟩ : ∃ a, A.getD s.toNat 0 = a := ⟨_, rfl⟩
              have e2 : atI (A.map PyData.int) s = some (.int a) := by
                rw [← ha, atI_n c0 (by rw [List.length_map]; exact c1), List.getElem?_map, List.getD_eq_getElem?_getD]
                rw [List.getElem?_eq_getElem (by omega)]
                rfl
              have hn : nodeOk A (.tuple (.int s :: r)) = decide ((r.length : Int) = a) := by
                unfold nodeOk
                simp only [ha, c, c0, c1, decide_true, Bool.true_and]
              have e3 : decide ((r.length : Int) + 1 = 1 + a) = decide ((r.length : Int) = a) := by
                rw [decide_eq_decide]; omega
              rw [hn]
              simp [p__is_node, Option.bind_some, Option.map_some, Option.bind_none, Option.map_none, bx_some, lx_some, bx_lx, bx, lx, ixO, asQ, asL, asB, asI, tru, notO, andO, orO, un2, un3, un4, slT, mkT, mkL, lenD, rg2, rg3, fAdd, fTT, fI0, fII, fSub, fMulX, fMul, fRep, bMul, bDiv, bMod, bPow, fDiv, fMod, fPow, fLtX, fLeX, fGtX, fGeX, fLt, fLe, fGt, fGe, fIs, fIsNot, fIsB, fNotB, fIsN, fNotN, isN, fNeg, fIx, fAbs, fInt, fBool, fMax2, fMin2, fIsi, tyN, appO, extO, extT, extD, catO, subO, addO, inO, enO, zipO, zipX, afterR, rtD, Option.or, lessK, h1, h2, isTup, isInt, atI_0, c', c0, e1, e2, fEq, sh_int, ev_int, show ¬ ((r.length : Int) + 1 < 1) by omega, show (0 : Int) ≤ r.length by omega]
              simpa using e3
            · have e1 : ¬ s ≤ (A.length : Int) - 1 := by omega
              simp [p__is_node, Option.bind_some, Option.map_some, Option.bind_none, Option.map_none, bx_some, lx_some, bx_lx, bx, lx, ixO, asQ, asL, asB, asI, tru, notO, andO, orO, un2, un3, un4, slT, mkT, mkL, lenD, rg2, rg3, fAdd, fTT, fI0, fII, fSub, fMulX, fMul, fRep, bMul, bDiv, bMod, bPow, fDiv, fMod, fPow, fLtX, fLeX, fGtX, fGeX, fLt, fLe, fGt, fGe, fIs, fIsNot, fIsB, fNotB, fIsN, fNotN, isN, fNeg, fIx, fAbs, fInt, fBool, fMax2, fMin2, fIsi, tyN, appO, extO, extT, extD, catO, subO, addO, inO, enO, zipO, zipX, afterR, rtD, Option.or, lessK, h1, h2, isTup, isInt, nodeOk, atI_0, c, c', c0, c1, e1, show (0 : Int) ≤ r.length by omega]
          · simp [p__is_node, Option.bind_some, Option.map_some, Option.bind_none, Option.map_none, bx_some, lx_some, bx_lx, bx, lx, ixO, asQ, asL, asB, asI, tru, notO, andO, orO, un2, un3, un4, slT, mkT, mkL, lenD, rg2, rg3, fAdd, fTT, fI0, fII, fSub, fMulX, fMul, fRep, bMul, bDiv, bMod, bPow, fDiv, fMod, fPow, fLtX, fLeX, fGtX, fGeX, fLt, fLe, fGt, fGe, fIs, fIsNot, fIsB, fNotB, fIsN, fNotN, isN, fNeg, fIx, fAbs, fInt, fBool, fMax2, fMin2, fIsi, tyN, appO, extO, extT, extD, catO, subO, addO, inO, enO, zipO, zipX, afterR, rtD, Option.or, lessK, h1, h2, isTup, isInt, nodeOk, atI_0, c, c', c0, show (0 : Int) ≤ r.length by omega]
        | dict _ => exact absurd (h'.1 _ List.mem_cons_self) (by simp [notDict])
        | _ => simp [p__is_node, Option.bind_some, Option.map_some, Option.bind_none, Option.map_none, bx_some, lx_some, bx_lx, bx, lx, ixO, asQ, asL, asB, asI, tru, notO, andO, orO, un2, un3, un4, slT, mkT, mkL, lenD, rg2, rg3, fAdd, fTT, fI0, fII, fSub, fMulX, fMul, fRep, bMul, bDiv, bMod, bPow, fDiv, fMod, fPow, fLtX, fLeX, fGtX, fGeX, fLt, fLe, fGt, fGe, fIs, fIsNot, fIsB, fNotB, fIsN, fNotN, isN, fNeg, fIx, fAbs, fInt, fBool, fMax2, fMin2, fIsi, tyN, appO, extO, extT, extD, catO, subO, addO, inO, enO, zipO, zipX, afterR, rtD, Option.or, lessK, h1, h2, isTup, isInt, nodeOk, atI_0, c', show (0 : Int) ≤ r.length by omega]
      · have c' : ¬ ((r.length : Int) + 1 ≤ 3) := by omega
        cases x <;> simp [p__is_node, Option.bind_some, Option.map_some, Option.bind_none, Option.map_none, bx_some, lx_some, bx_lx, bx, lx, ixO, asQ, asL, asB, asI, tru, notO, andO, orO, un2, un3, un4, slT, mkT, mkL, lenD, rg2, rg3, fAdd, fTT, fI0, fII, fSub, fMulX, fMul, fRep, bMul, bDiv, bMod, bPow, fDiv, fMod, fPow, fLtX, fLeX, fGtX, fGeX, fLt, fLe, fGt, fGe, fIs, fIsNot, fIsB, fNotB, fIsN, fNotN, isN, fNeg, fIx, fAbs, fInt, fBool, fMax2, fMin2, fIsi, tyN, appO, extO, extT, extD, catO, subO, addO, inO, enO, zipO, zipX, afterR, rtD, Option.or, lessK, h1, isTup, nodeOk, c, c']
  | dict _ => cases h
  | _ => simp [p__is_node, Option.bind_some, Option.map_some, Option.bind_none, Option.map_none, bx_some, lx_some, bx_lx, bx, lx, ixO, asQ, asL, asB, asI, tru, notO, andO, orO, un2, un3, un4, slT, mkT, mkL, lenD, rg2, rg3, fAdd, fTT, fI0, fII, fSub, fMulX, fMul, fRep, bMul, bDiv, bMod, bPow, fDiv, fMod, fPow, fLtX, fLeX, fGtX, fGeX, fLt, fLe, fGt, fGe, fIs, fIsNot, fIsB, fNotB, fIsN, fNotN, isN, fNeg, fIx, fAbs, fInt, fBool, fMax2, fMin2, fIsi, tyN, appO, extO, extT, extD, catO, subO, addO, inO, enO, zipO, zipX, afterR, rtD, Option.or, lessK, h1, isTup, nodeOk]
theorem wh_p (v : D) : ((fIsNot v PyData.none).bind asB).bind (fun b19 => if b19 = true then some true else (tru (PyData.bool false)).map fun b => !b) = some true := by
  have : fIsNot v PyData.none = some (.bool (!isN v)) := by cases v <;> rfl
  rw [this]
  cases isN v <;> rfl
theorem tree_loop (A : List Int) (PP : D → Prop) (hP : ∀ v, PP v → okv v = true) (hk : ∀ v, PP v → nodeOk A v = true → ∀ u ∈ kids v, PP u) : ∀ (f : Nat) (stk : List D) (k : Int) (r : Bool), (∀ v ∈ stk, PP v) → stk.length + 2 * f ≤ 1000 → trRun A f stk k = some r →
    ∃ s', whR l_is_tree_form_1t (l_is_tree_form_1 (.bool false) (dA A)) f (stk, .int k) = some (if r then .inl s' else .inr (.bool false))
  | 0, _, _, _, _, _, h => by cases h
  | f + 1, stk, k, r, hok, hl, h => by
    unfold trRun at h
    unfold whR
    cases e : stk.getLast? with
    | none =>
      rw [e] at h
      cases h
      have e0 : stk = [] := List.getLast?_eq_none_iff.mp e
      subst e0
      exact ⟨_, by simp [l_is_tree_form_1t]; rfl⟩
    | some v =>
      rw [e] at h
      simp only at h
      have es := last_some e
      have hvP : PP v := hok v (by rw [es]; simp)
      have hv : okv v = true := hP v hvP
      have hlen : stk.length = stk.dropLast.length + 1 := by
        have := congrArg List.length es
        simpa using this
      have em : stk.isEmpty = false := by rw [es]; simp
      have e1 : stk[stk.length - 1]? = some v := by rw [← List.getLast?_eq_getElem?]; exact e
      have hn := is_node_p A v hv
      by_cases c : 15 < k + 1 ∨ nodeOk A v = false
      · rw [if_pos c] at h
        cases h
        refine ⟨(stk, .int k), ?_⟩
        rcases c with c | c
        · simp [l_is_tree_form_1t, l_is_tree_form_1, wh_p, em, Option.bind_some, Option.map_some, Option.bind_none, Option.map_none, bx_some, lx_some, bx_lx, bx, lx, ixO, asQ, asL, asB, asI, tru, notO, andO, orO, un2, un3, un4, slT, mkT, mkL, lenD, rg2, rg3, fAdd, fTT, fI0, fII, fSub, fMulX, fMul, fRep, bMul, bDiv, bMod, bPow, fDiv, fMod, fPow, fLtX, fLeX, fGtX, fGeX, fLt, fLe, fGt, fGe, fIs, fIsNot, fIsB, fNotB, fIsN, fNotN, isN, fNeg, fIx, fAbs, fInt, fBool, fMax2, fMin2, fIsi, tyN, appO, extO, extT, extD, catO, subO, addO, inO, enO, zipO, zipX, afterR, rtD, Option.or, lessK, e1, c]
        · by_cases c2 : 15 < k + 1 <;> simp [l_is_tree_form_1t, l_is_tree_form_1, wh_p, em, Option.bind_some, Option.map_some, Option.bind_none, Option.map_none, bx_some, lx_some, bx_lx, bx, lx, ixO, asQ, asL, asB, asI, tru, notO, andO, orO, un2, un3, un4, slT, mkT, mkL, lenD, rg2, rg3, fAdd, fTT, fI0, fII, fSub, fMulX, fMul, fRep, bMul, bDiv, bMod, bPow, fDiv, fMod, fPow, fLtX, fLeX, fGtX, fGeX, fLt, fLe, fGt, fGe, fIs, fIsNot, fIsB, fNotB, fIsN, fNotN, isN, fNeg, fIx, fAbs, fInt, fBool, fMax2, fMin2, fIsi, tyN, appO, extO, extT, extD, catO, subO, addO, inO, enO, zipO, zipX, afterR, rtD, Option.or, lessK, e1, c, c2, hn]
      · rw [if_neg c] at h
        have c1 : ¬ 15 < k + 1 := fun z => c (.inl z)
        have c2 : nodeOk A v = true := by
          cases q : nodeOk A v with
          | true => rfl
          | false => exact absurd (.inr q) c
        obtain ⟨x, rr, rfl, hkk, hr⟩ := ok_kids c2
        obtain ⟨s', e2⟩ := tree_loop A PP hP hk f (stk.dropLast ++ kids _) (k + 1) r (fun u hu => by
          rcases List.mem_append.mp hu with hu | hu
          · exact hok u (by rw [es]; exact List.mem_append_left _ hu)
          · exact hk _ hvP c2 u hu) (by rw [List.length_append, hkk]; omega) h
        refine ⟨s', ?_⟩
        rw [hkk] at e2
        have hz : stk.dropLast.length + rr.length ≤ 1000000 := by omega
        simp only [List.length_dropLast] at hz
        simp [l_is_tree_form_1t, l_is_tree_form_1, wh_p, em, Option.bind_some, Option.map_some, Option.bind_none, Option.map_none, bx_some, lx_some, bx_lx, bx, lx, ixO, asQ, asL, asB, asI, tru, notO, andO, orO, un2, un3, un4, slT, mkT, mkL, lenD, rg2, rg3, fAdd, fTT, fI0, fII, fSub, fMulX, fMul, fRep, bMul, bDiv, bMod, bPow, fDiv, fMod, fPow, fLtX, fLeX, fGtX, fGeX, fLt, fLe, fGt, fGe, fIs, fIsNot, fIsB, fNotB, fIsN, fNotN, isN, fNeg, fIx, fAbs, fInt, fBool, fMax2, fMin2, fIsi, tyN, appO, extO, extT, extD, catO, subO, addO, inO, enO, zipO, zipX, afterR, rtD, Option.or, lessK, e1, c1, c2, hn, cut_f1, hz, e2]
theorem is_tree_run_p (A : List Int) (v : D) (r : Bool) (hv : dk v = true) (h : trRun A 60 [v] 0 = some r) : p_is_tree (dA A) v = some (.bool r) := by
  obtain ⟨s', e⟩ := tree_loop A (fun v => dk v = true) (fun v h => dk_ok h) (fun v h c => dk_kids h c) 60 [v] 0 r (fun u hu => by rw [List.mem_singleton.mp hu]; exact hv) (by simp) h
  cases r <;> simp [p_is_tree, p_is_tree_form, Option.bind_some, Option.map_some, Option.bind_none, Option.map_none, bx_some, lx_some, bx_lx, bx, lx, ixO, asQ, asL, asB, asI, tru, notO, andO, orO, un2, un3, un4, slT, mkT, mkL, lenD, rg2, rg3, fAdd, fTT, fI0, fII, fSub, fMulX, fMul, fRep, bMul, bDiv, bMod, bPow, fDiv, fMod, fPow, fLtX, fLeX, fGtX, fGeX, fLt, fLe, fGt, fGe, fIs, fIsNot, fIsB, fNotB, fIsN, fNotN, isN, fNeg, fIx, fAbs, fInt, fBool, fMax2, fMin2, fIsi, tyN, appO, extO, extT, extD, catO, subO, addO, inO, enO, zipO, zipX, afterR, rtD, Option.or, lessK, e]
theorem is_tree_good_p {A : List Int} {t : T} (h : t.ok A) (hn : t.n ≤ 15) : p_is_tree (dA A) t.d = some (.bool true) :=
  is_tree_run_p A t.d true t.dk (tr_good 60 [t] 0 (fun u hu => by rw [List.mem_singleton.mp hu]; exact h) (by simp [sumn]; omega) (by simp [sumn]; omega))
theorem is_tree_big_p {A : List Int} {t : T} (h : t.ok A) (hn : 15 < t.n) : p_is_tree (dA A) t.d = some (.bool false) :=
  is_tree_run_p A t.d false t.dk (tr_big 60 [t] 0 (fun u hu => by rw [List.mem_singleton.mp hu]; exact h) (by omega) (by simp [sumn]; omega) (by omega))
theorem is_tree_bad_p {A : List Int} {v : D} (hv : dk v = true) (h : Bad A v) : p_is_tree (dA A) v = some (.bool false) :=
  is_tree_run_p A v false hv (tr_bad 60 [v] 0 ⟨v, List.mem_singleton.mpr rfl, h⟩ (by omega) (by omega))
theorem law_int_p (v : D) (h : notDict v = true) : p__law_is_integer v = some (.bool (isI v)) := by
  obtain ⟨a1, a2, a3, a4, a5, a6⟩ := kit1
  obtain ⟨b1, b2, b3, b4, b5, b6⟩ := kit2
  cases v with
  | dict _ => cases h
  | _ => simp [p__law_is_integer, Option.bind_some, Option.map_some, Option.bind_none, Option.map_none, bx_some, lx_some, bx_lx, bx, lx, ixO, asQ, asL, asB, asI, tru, notO, andO, orO, un2, un3, un4, slT, mkT, mkL, lenD, rg2, rg3, fAdd, fTT, fI0, fII, fSub, fMulX, fMul, fRep, bMul, bDiv, bMod, bPow, fDiv, fMod, fPow, fLtX, fLeX, fGtX, fGeX, fLt, fLe, fGt, fGe, fIs, fIsNot, fIsB, fNotB, fIsN, fNotN, isN, fNeg, fIx, fAbs, fInt, fBool, fMax2, fMin2, fIsi, tyN, appO, extO, extT, extD, catO, subO, addO, inO, enO, zipO, zipX, afterR, rtD, Option.or, lessK, isI, *]
theorem req_p (b : Bool) (n : Str) (h : b = true) : p_require (.bool b) (.str n) = some () := by
  subst h
  simp [p_require, Option.bind_some, Option.map_some, Option.bind_none, Option.map_none, bx_some, lx_some, bx_lx, bx, lx, ixO, asQ, asL, asB, asI, tru, notO, andO, orO, un2, un3, un4, slT, mkT, mkL, lenD, rg2, rg3, fAdd, fTT, fI0, fII, fSub, fMulX, fMul, fRep, bMul, bDiv, bMod, bPow, fDiv, fMod, fPow, fLtX, fLeX, fGtX, fGeX, fLt, fLe, fGt, fGe, fIs, fIsNot, fIsB, fNotB, fIsN, fNotN, isN, fNeg, fIx, fAbs, fInt, fBool, fMax2, fMin2, fIsi, tyN, appO, extO, extT, extD, catO, subO, addO, inO, enO, zipO, zipX, afterR, rtD, Option.or, lessK]
end G
set_option linter.all false
set_option autoImplicit false
set_option maxRecDepth 100000
set_option maxHeartbeats 2000000
namespace G
open PySem L2
theorem add_tup {xs ys : List D} (h : xs.length + ys.length ≤ 1000000) : fAdd (.tuple xs) (.tuple ys) = some (.tuple (xs ++ ys)) := by
  simp [fAdd, fTT, fI0, fII, Option.or, h]
theorem asQ_l (xs : List D) : asQ (.list xs) = some xs := rfl
theorem asQ_t (xs : List D) : asQ (.tuple xs) = some xs := rfl
theorem asL_l (xs : List D) : asL (.list xs) = some xs := rfl
theorem law_size_s (k : Nat) (a : D) : p__law_size (k + 1) a = b__law_size (p__law_size k) k a := rfl
theorem law_size_p : ∀ (t : T) (k : Nat), t.n ≤ k → p__law_size k t.d = some (.int t.n)
  | .l s, k, hk => by
    simp only [T.n] at hk
    obtain ⟨k, rfl⟩ : ∃ j, k = j + 1 := ⟨k - 1, by omega⟩
    rw [law_size_s]
    simp [b__law_size, Option.bind_some, Option.map_some, Option.bind_none, Option.map_none, bx_some, lx_some, bx_lx, bx, lx, ixO, asQ, asL, asB, asI, tru, notO, andO, orO, un2, un3, un4, slT, mkT, mkL, lenD, rg2, rg3, fAdd, fTT, fI0, fII, fSub, fMulX, fMul, fRep, bMul, bDiv, bMod, bPow, fDiv, fMod, fPow, fLtX, fLeX, fGtX, fGeX, fLt, fLe, fGt, fGe, fIs, fIsNot, fIsB, fNotB, fIsN, fNotN, isN, fNeg, fIx, fAbs, fInt, fBool, fMax2, fMin2, fIsi, tyN, appO, extO, extT, extD, catO, subO, addO, inO, enO, zipO, zipX, afterR, rtD, Option.or, lessK, T.d, cut_f1, lcPz, lcP, sumD, intL, T.n]
  | .u s a, k, hk => by
    simp only [T.n] at hk
    obtain ⟨k, rfl⟩ : ∃ j, k = j + 1 := ⟨k - 1, by omega⟩
    have e := law_size_p a k (by omega)
    rw [law_size_s]
    simp [b__law_size, Option.bind_some, Option.map_some, Option.bind_none, Option.map_none, bx_some, lx_some, bx_lx, bx, lx, ixO, asQ, asL, asB, asI, tru, notO, andO, orO, un2, un3, un4, slT, mkT, mkL, lenD, rg2, rg3, fAdd, fTT, fI0, fII, fSub, fMulX, fMul, fRep, bMul, bDiv, bMod, bPow, fDiv, fMod, fPow, fLtX, fLeX, fGtX, fGeX, fLt, fLe, fGt, fGe, fIs, fIsNot, fIsB, fNotB, fIsN, fNotN, isN, fNeg, fIx, fAbs, fInt, fBool, fMax2, fMin2, fIsi, tyN, appO, extO, extT, extD, catO, subO, addO, inO, enO, zipO, zipX, afterR, rtD, Option.or, lessK, T.d, cut_f1, lcPz, lcP, sumD, intL, T.n, e]
    omega
  | .b s x y, k, hk => by
    simp only [T.n] at hk
    obtain ⟨k, rfl⟩ : ∃ j, k = j + 1 := ⟨k - 1, by omega⟩
    have e := law_size_p x k (by omega)
    have e1 := law_size_p y k (by omega)
    rw [law_size_s]
    simp [b__law_size, Option.bind_some, Option.map_some, Option.bind_none, Option.map_none, bx_some, lx_some, bx_lx, bx, lx, ixO, asQ, asL, asB, asI, tru, notO, andO, orO, un2, un3, un4, slT, mkT, mkL, lenD, rg2, rg3, fAdd, fTT, fI0, fII, fSub, fMulX, fMul, fRep, bMul, bDiv, bMod, bPow, fDiv, fMod, fPow, fLtX, fLeX, fGtX, fGeX, fLt, fLe, fGt, fGe, fIs, fIsNot, fIsB, fNotB, fIsN, fNotN, isN, fNeg, fIx, fAbs, fInt, fBool, fMax2, fMin2, fIsi, tyN, appO, extO, extT, extD, catO, subO, addO, inO, enO, zipO, zipX, afterR, rtD, Option.or, lessK, T.d, cut_f1, lcPz, lcP, sumD, intL, T.n, e, e1]
    omega
theorem size_of_s (k : Nat) (a : D) : p_size_of (k + 1) a = b_size_of (p_size_of k) k a := rfl
theorem size_of_p : ∀ (t : T) (k : Nat), t.n ≤ k → p_size_of k t.d = some (.int t.n)
  | .l s, k, hk => by
    simp only [T.n] at hk
    obtain ⟨k, rfl⟩ : ∃ j, k = j + 1 := ⟨k - 1, by omega⟩
    rw [size_of_s]
    simp [b_size_of, Option.bind_some, Option.map_some, Option.bind_none, Option.map_none, bx_some, lx_some, bx_lx, bx, lx, ixO, asQ, asL, asB, asI, tru, notO, andO, orO, un2, un3, un4, slT, mkT, mkL, lenD, rg2, rg3, fAdd, fTT, fI0, fII, fSub, fMulX, fMul, fRep, bMul, bDiv, bMod, bPow, fDiv, fMod, fPow, fLtX, fLeX, fGtX, fGeX, fLt, fLe, fGt, fGe, fIs, fIsNot, fIsB, fNotB, fIsN, fNotN, isN, fNeg, fIx, fAbs, fInt, fBool, fMax2, fMin2, fIsi, tyN, appO, extO, extT, extD, catO, subO, addO, inO, enO, zipO, zipX, afterR, rtD, Option.or, lessK, T.d, cut_f1, lcPz, lcP, sumD, intL, T.n]
  | .u s a, k, hk => by
    simp only [T.n] at hk
    obtain ⟨k, rfl⟩ : ∃ j, k = j + 1 := ⟨k - 1, by omega⟩
    have e := size_of_p a k (by omega)
    rw [size_of_s]
    simp [b_size_of, Option.bind_some, Option.map_some, Option.bind_none, Option.map_none, bx_some, lx_some, bx_lx, bx, lx, ixO, asQ, asL, asB, asI, tru, notO, andO, orO, un2, un3, un4, slT, mkT, mkL, lenD, rg2, rg3, fAdd, fTT, fI0, fII, fSub, fMulX, fMul, fRep, bMul, bDiv, bMod, bPow, fDiv, fMod, fPow, fLtX, fLeX, fGtX, fGeX, fLt, fLe, fGt, fGe, fIs, fIsNot, fIsB, fNotB, fIsN, fNotN, isN, fNeg, fIx, fAbs, fInt, fBool, fMax2, fMin2, fIsi, tyN, appO, extO, extT, extD, catO, subO, addO, inO, enO, zipO, zipX, afterR, rtD, Option.or, lessK, T.d, cut_f1, lcPz, lcP, sumD, intL, T.n, e]
    omega
  | .b s x y, k, hk => by
    simp only [T.n] at hk
    obtain ⟨k, rfl⟩ : ∃ j, k = j + 1 := ⟨k - 1, by omega⟩
    have e := size_of_p x k (by omega)
    have e1 := size_of_p y k (by omega)
    rw [size_of_s]
    simp [b_size_of, Option.bind_some, Option.map_some, Option.bind_none, Option.map_none, bx_some, lx_some, bx_lx, bx, lx, ixO, asQ, asL, asB, asI, tru, notO, andO, orO, un2, un3, un4, slT, mkT, mkL, lenD, rg2, rg3, fAdd, fTT, fI0, fII, fSub, fMulX, fMul, fRep, bMul, bDiv, bMod, bPow, fDiv, fMod, fPow, fLtX, fLeX, fGtX, fGeX, fLt, fLe, fGt, fGe, fIs, fIsNot, fIsB, fNotB, fIsN, fNotN, isN, fNeg, fIx, fAbs, fInt, fBool, fMax2, fMin2, fIsi, tyN, appO, extO, extT, extD, catO, subO, addO, inO, enO, zipO, zipX, afterR, rtD, Option.or, lessK, T.d, cut_f1, lcPz, lcP, sumD, intL, T.n, e, e1]
    omega
def kD (t : T) : D := .tuple [.int t.n, t.d]
def sD (t : T) : D := .tuple [.int t.n, pD t.syms]
theorem order_key_p (t : T) (k : Nat) (h : t.n ≤ k) : p_order_key k t.d = some (kD t) := by
  unfold p_order_key
  rw [size_of_p t k h]
  rfl
def pre (i : Nat) (q : List Nat × T) : List Nat × T := (i :: q.1, q.2)
def T.spots : T → List (List Nat × T)
  | .l s => [([], .l s)]
  | .u s a => ([], .u s a) :: a.spots.map (pre 0)
  | .b s x y => ([], .b s x y) :: (x.spots.map (pre 0) ++ y.spots.map (pre 1))
def spD' (q : List Nat × T) : D := .tuple [pD q.1, q.2.d]
def T.sym : T → Nat
  | .l s => s
  | .u s _ => s
  | .b s _ _ => s
theorem T.spots_syms : ∀ t : T, t.spots.map (fun q => q.2.sym) = t.syms
  | .l s => rfl
  | .u s a => by
    have := T.spots_syms a
    show s :: ((a.spots.map (pre 0)).map fun q => q.2.sym) = s :: a.syms
    rw [List.map_map]
    exact congrArg _ this
  | .b s x y => by
    have h1 := T.spots_syms x
    have h2 := T.spots_syms y
    show s :: ((x.spots.map (pre 0) ++ y.spots.map (pre 1)).map fun q => q.2.sym) = s :: (x.syms ++ y.syms)
    rw [List.map_append, List.map_map, List.map_map, ← h1, ← h2]
    rfl
theorem T.spots_len (t : T) : t.spots.length = t.n := by
  rw [← t.syms_len, ← t.spots_syms, List.length_map]
theorem T.spots_pl : ∀ t : T, ∀ q ∈ t.spots, q.1.length ≤ t.n
  | .l s, q, h => by simp only [T.spots, List.mem_singleton] at h; subst h; simp
  | .u s a, q, h => by
    simp only [T.spots, List.mem_cons, List.mem_map] at h
    rcases h with rfl | ⟨p, hp, rfl⟩
    · simp
    · have := T.spots_pl a p hp
      simp only [pre, List.length_cons, T.n]; omega
  | .b s x y, q, h => by
    simp only [T.spots, List.mem_cons, List.mem_append, List.mem_map] at h
    rcases h with rfl | ⟨p, hp, rfl⟩ | ⟨p, hp, rfl⟩
    · simp
    · have := T.spots_pl x p hp
      simp only [pre, List.length_cons, T.n]; omega
    · have := T.spots_pl y p hp
      simp only [pre, List.length_cons, T.n]; omega
theorem spot_step {r : D → Option (List D)} {d c : D} {j : Nat} {u : T} (hj : asQ d = some (c :: [])) : True := trivial
theorem spots_1 {r : D → Option (List D)} {d : D} {ds : List D} (hd : asQ d = some ds) {j : Nat} {u : T} (hj : atI ds ((1 : Int) + j) = some u.d ∨ atI ds ((j : Int) + 1) = some u.d) (hu : r u.d = some (u.spots.map spD')) (hn : u.n ≤ 1000) {F : List D} (hF : F.length ≤ 1000) : l__law_spots_1 r d F (.int j) = some (F ++ (u.spots.map (pre j)).map spD') := by
  have hj : atI ds ((j : Int) + 1) = some u.d := hj.elim (fun h => by rwa [Int.add_comm] at h) id
  have e1 : ixO (asQ d) (.int ((j : Int) + 1)) = some u.d := by rw [hd]; exact hj
  have key := lcPz_m (oY := un2) (ot := fun _ => some true) (oe := fun y9 => ((((some (PyData.int j)).bind fun x15 => mkT [x15]).bind fun v16 => (some y9.1).bind fun v17 => fAdd v16 v17).bind fun x13 => (some y9.2).bind fun x14 => mkT [x13, x14])) spD' (fun q : List Nat × T => (pD q.1, q.2.d)) (fun q => spD' (pre j q)) u.spots (by rw [u.spots_len]; omega) (fun _ _ => rfl) (fun _ _ => rfl) (fun q hq => by
    have := T.spots_pl u q hq
    have := add_tup (xs := [.int j]) (ys := iD q.1) (by simp; omega)
    simp only [Option.bind_some, mkT, List.length_singleton, show (1 : Nat) ≤ 1000000 from by omega, if_true]
    rw [this]
    rfl)
  unfold l__law_spots_1
  simp only [Option.bind_some, fAdd, fI0, Option.or] at key ⊢
  rw [e1, Option.bind_some, hu]
  simp only [Option.map_some, Option.bind_some, asQ_l]
  rw [key]
  simp only [Option.bind_some, extO]
  rw [if_pos (by rw [List.length_map, u.spots_len]; omega), List.map_map]
  rfl
theorem law_spots_s (k : Nat) (a : D) : p__law_spots (k + 1) a = b__law_spots (p__law_spots k) k a := rfl
theorem law_spots_p : ∀ (t : T) (k : Nat), t.n ≤ k → t.n ≤ 500 → p__law_spots k t.d = some (t.spots.map spD')
  | .l s, k, hk, hn => by
    simp only [T.n] at hk
    obtain ⟨k, rfl⟩ : ∃ j, k = j + 1 := ⟨k - 1, by omega⟩
    rw [law_spots_s]
    rfl
  | .u s a, k, hk, hn => by
    simp only [T.n] at hk hn
    obtain ⟨k, rfl⟩ : ∃ j, k = j + 1 := ⟨k - 1, by omega⟩
    have e := law_spots_p a k (by omega) (by omega)
    have e1 := spots_1 (r := p__law_spots k) (d := (T.u s a).d) (j := 0) (F := [spD' ([], .u s a)]) rfl (.inr rfl) e (by omega) (by simp)
    have e1 : l__law_spots_1 (p__law_spots k) (T.u s a).d [.tuple [.tuple [], (T.u s a).d]] (.int 0) = _ := e1
    have e2 : (((asQ (T.u s a).d).map lenD).bind fun v21 => (some (PyData.int 1)).bind fun v22 => fSub v21 v22).bind rg1 = some [.int 0] := rfl
    rw [law_spots_s]
    unfold b__law_spots
    rw [e2]
    simp only [mkT, mkL, List.length_nil, List.length_cons, Nat.zero_le, if_true, Option.bind_some, show (0 + 1 : Nat) ≤ 1000000 from by omega, show (0 + 1 + 1 : Nat) ≤ 1000000 from by omega, forP, e1]
    rfl
  | .b s x y, k, hk, hn => by
    simp only [T.n] at hk hn
    obtain ⟨k, rfl⟩ : ∃ j, k = j + 1 := ⟨k - 1, by omega⟩
    have e := law_spots_p x k (by omega) (by omega)
    have e' := law_spots_p y k (by omega) (by omega)
    have hx := x.spots_len
    have e1 := spots_1 (r := p__law_spots k) (d := (T.b s x y).d) (j := 0) (F := [spD' ([], .b s x y)]) rfl (.inr rfl) e (by omega) (by simp)
    have e1 : l__law_spots_1 (p__law_spots k) (T.b s x y).d [.tuple [.tuple [], (T.b s x y).d]] (.int 0) = _ := e1
    have e3 := spots_1 (r := p__law_spots k) (d := (T.b s x y).d) (j := 1) (F := [spD' ([], .b s x y)] ++ (x.spots.map (pre 0)).map spD') rfl (.inr rfl) e' (by omega) (by simp; omega)
    have e3 : l__law_spots_1 (p__law_spots k) (T.b s x y).d ([spD' ([], .b s x y)] ++ (x.spots.map (pre 0)).map spD') (.int 1) = _ := e3
    have e2 : (((asQ (T.b s x y).d).map lenD).bind fun v21 => (some (PyData.int 1)).bind fun v22 => fSub v21 v22).bind rg1 = some [.int 0, .int 1] := by
      have e := rg1_n (n := 2) (by omega)
      simp only [T.d, asQ_t, Option.map_some, Option.bind_some, lenD, List.length_cons, List.length_nil, fSub, fI0]
      exact e
    rw [law_spots_s]
    unfold b__law_spots
    rw [e2]
    simp only [mkT, mkL, List.length_nil, List.length_cons, Nat.zero_le, if_true, Option.bind_some, show (0 + 1 : Nat) ≤ 1000000 from by omega, show (0 + 1 + 1 : Nat) ≤ 1000000 from by omega, forP, e1, e3]
    simp [T.spots, spD']
theorem law_order_p (t : T) (k : Nat) (hk : t.n ≤ k) (hn : t.n ≤ 500) : p__law_order k t.d = some (sD t) := by
  have key := lcPz_m (oY := un2) (ot := fun _ => some true) (oe := fun y4 : D × D => ((some (PyData.int 0)).bind (ixO (asQ y4.2)))) spD' (fun q : List Nat × T => (pD q.1, q.2.d)) (fun q => .int (q.2.sym : Nat)) t.spots (by rw [t.spots_len]; omega) (fun _ _ => rfl) (fun _ _ => rfl) (fun q _ => by cases q.2 <;> rfl)
  unfold p__law_order
  rw [law_size_p t k hk, law_spots_p t k hk hn]
  simp only [Option.map_some, Option.bind_some, asQ_l] at key ⊢
  rw [key]
  have : (t.spots.map fun q => PyData.int (q.2.sym : Nat)) = iD t.syms := by
    rw [← t.spots_syms]
    generalize t.spots = l
    induction l with
    | nil => rfl
    | cons q l ih => simp only [List.map_cons, ih]
  rw [this]
  rfl
end G
set_option linter.all false
set_option autoImplicit false
set_option maxRecDepth 100000
set_option maxHeartbeats 2000000
namespace G
open PySem L2
theorem req_str (n : Str) : p_require (.bool true) (.str n) = some () := by simp [p_require, Option.bind_some, Option.map_some, Option.bind_none, Option.map_none, bx_some, lx_some, bx_lx, bx, lx, ixO, asQ, asL, asB, asI, tru, notO, andO, orO, un2, un3, un4, slT, mkT, mkL, lenD, rg2, rg3, fAdd, fTT, fI0, fII, fSub, fMulX, fMul, fRep, bMul, bDiv, bMod, bPow, fDiv, fMod, fPow, fLtX, fLeX, fGtX, fGeX, fLt, fLe, fGt, fGe, fIs, fIsNot, fIsB, fNotB, fIsN, fNotN, isN, fNeg, fIx, fAbs, fInt, fBool, fMax2, fMin2, fIsi, tyN, appO, extO, extT, extD, catO, subO, addO, inO, enO, zipO, zipX, afterR, rtD, Option.or, lessK]
theorem is_ar_p {A : List Int} (h : Ar A) : p_is_arities (dA A) = some (.bool true) := by
  have e := is_arities_p (dA A) (by
    show ((A.map PyData.int).all notDict && decide ((A.map PyData.int).length ≤ 1000000)) = true
    have := h.len.2
    rw [Bool.and_eq_true, decide_eq_true_eq, List.all_map, List.all_eq_true]
    exact ⟨fun _ _ => rfl, by rw [List.length_map]; omega⟩)
  rw [e]
  have : isAr (dA A) = true := by
    have := h.len
    show (decide (1 ≤ (A.map PyData.int).length) && decide ((A.map PyData.int).length ≤ 4) && (A.map PyData.int).all fun x => isInt x 0 2) = true
    rw [List.length_map, Bool.and_eq_true, Bool.and_eq_true, decide_eq_true_eq, decide_eq_true_eq, List.all_map, List.all_eq_true]
    refine ⟨this, fun a ha => ?_⟩
    have := h.le a ha
    show (decide (0 ≤ a) && decide (a ≤ 2)) = true
    rw [Bool.and_eq_true, decide_eq_true_eq, decide_eq_true_eq]
    exact this
  rw [this]
theorem al_pair {x y : D} (h : alk x y = true) (i j : Int) : alk (.tuple [.int i, x]) (.tuple [.int j, y]) = true := by
  show PySem.W.alike (.tuple [.int i, x]) (.tuple [.int j, y]) = true
  simp only [PySem.W.alike, PySem.W.alikeAll, Bool.and_true, Bool.true_and]
  exact h
theorem W.up {k j : Nat} {d : D} (h : W k d) (hj : k ≤ j) : W j d := ⟨h.c, Nat.le_trans h.h hj⟩
theorem T.w : ∀ t : T, W t.n t.d
  | .l s => W.tup fun x hx => by rw [List.mem_singleton.mp hx]; exact .int _ _
  | .u s a => W.tup fun x hx => by
    rcases List.mem_cons.mp hx with rfl | hx
    · exact .int _ _
    · rw [List.mem_singleton.mp hx]; exact T.w a
  | .b s x y => W.tup fun z hz => by
    rcases List.mem_cons.mp hz with rfl | hz
    · exact .int _ _
    · rcases List.mem_cons.mp hz with rfl | hz
      · exact (T.w x).up (by omega)
      · rw [List.mem_singleton.mp hz]; exact (T.w y).up (by omega)
theorem T.kw (t : T) : W (t.n + 1) (kD t) := W.tup fun z hz => by
  rcases List.mem_cons.mp hz with rfl | hz
  · exact .int _ _
  · rw [List.mem_singleton.mp hz]; exact T.w t
theorem key_lt {A : List Int} {t u : T} (o : t.ok A) (o' : u.ok A) (hn : t.n ≤ 50) : fLtX (kD t) (kD u) = some (.bool (decide (klt t u))) := by
  have h1 : alkD (kD t) (kD u) = true := by
    unfold alkD
    rw [show alk (kD t) (kD u) = true from al_pair (T.al t u) _ _, decide_eq_true (Nat.le_trans t.kw.h (by omega))]
    rfl
  have h2 : fLt (kD t) (kD u) = none := rfl
  unfold fLtX
  rw [h2, fCmpD, if_pos h1]
  have : dLt (kD t) (kD u) = decide (klt t u) := by
    unfold kD
    rw [lA_tup, lA_int, lA_cons (T.al t u), T.ev, lA_nn, dLt_T o o']
    unfold klt
    by_cases e : t.n = u.n
    · rw [if_pos (by omega)]
      by_cases e2 : t = u
      · subst e2
        simp [List.lt_irrefl]
      · simp [e, e2]
    · rw [if_neg (by omega)]
      simp [e]
  rw [this]; rfl
theorem al_iD : ∀ a b : List Nat, PySem.W.alikeAll (iD a) (iD b) = true
  | [], _ => by simp [PySem.W.alikeAll]
  | _ :: _, [] => by simp [PySem.W.alikeAll]
  | x :: a, y :: b => by
    have := al_iD a b
    simp only [List.map_cons, PySem.W.alikeAll, PySem.W.alike, Bool.true_and]
    exact this
theorem skey_lt (t u : T) : fLtX (sD t) (sD u) = some (.bool (decide (klt t u))) := by
  have ha : alk (pD t.syms) (pD u.syms) = true := by
    show PySem.W.alike (.tuple _) (.tuple _) = true
    simp only [PySem.W.alike]
    exact al_iD _ _
  have h1 : alkD (sD t) (sD u) = true := by
    unfold alkD
    have w : W 2 (sD t) := W.pair ((W.int 0 _).up (by omega)) (.place _)
    rw [show alk (sD t) (sD u) = true from al_pair ha _ _, decide_eq_true (Nat.le_trans w.h (by omega))]
    rfl
  have h2 : fLt (sD t) (sD u) = none := rfl
  unfold fLtX
  rw [h2, fCmpD, if_pos h1]
  have : dLt (sD t) (sD u) = decide (klt t u) := by
    unfold sD
    rw [lA_tup, lA_int, lA_cons ha, ev_pl, lA_nn, lA_tup, lA_iD]
    unfold klt
    by_cases e : t.n = u.n
    · rw [if_pos (by omega)]
      by_cases e2 : t.syms = u.syms
      · simp [e2, List.lt_irrefl, e]
      · simp [e, e2]
    · rw [if_neg (by omega)]
      simp [e]
  rw [this]; rfl
theorem is_before_p {A : List Int} (h : Ar A) {t u : T} (o : t.ok A) (o' : u.ok A) (hn : t.n ≤ 15) (hn' : u.n ≤ 15) (k : Nat) (hk : 15 ≤ k) : p_is_before k (dA A) t.d u.d = some (.bool (decide (klt t u))) := by
  have e1 := is_ar_p h
  have e2 := is_tree_good_p o hn
  have e3 := is_tree_good_p o' hn'
  have e4 := order_key_p t k (by omega)
  have e5 := order_key_p u k (by omega)
  have e6 := key_lt o o' (by omega)
  have r1 : p__require_tree (dA A) t.d (.str "first") = some () := by
    unfold p__require_tree
    rw [e1, e2]
    simp only [Option.bind_some, req_str, Option.map_some]
  have r2 : p__require_two (dA A) t.d u.d = some () := by
    unfold p__require_two
    rw [e3]
    simp only [Option.bind_some, r1, req_str, Option.map_some]
  unfold p_is_before
  rw [r2, e4, e5]
  simp only [Option.bind_some, Option.map_some, e6]
/-! draws -/
theorem pick_p {s : List D} (hs : Stm s) {rows : D} {xs : List D} (hr : asQ rows = some xs) (h0 : 0 < xs.length) (h1 : xs.length ≤ 1000) : ∃ (x : D) (s' : List D), x ∈ xs ∧ Stm s' ∧ p__law_pick s rows = some (x, s') := by
  obtain ⟨g, s', hg, hs', e⟩ := nx hs xs.length h0 (by omega)
  refine ⟨xs[g], s', List.getElem_mem hg, hs', ?_⟩
  have e2 : atI xs (g : Int) = some xs[g] := by
    rw [atI_n (by omega) (by omega), Int.toNat_natCast, List.getElem?_eq_getElem hg]
  have e3 : ixO (some xs) (.int (g : Int)) = some xs[g] := e2
  unfold p__law_pick
  rw [hr]
  simp only [Option.map_some, lenD, lx_some, bx_some, e, e3]
def ars9 : List (List Int) := [[0, 0, 2], [0, 2], [0, 1, 2], [0, 0, 1], [2, 0, 1, 0], [0, 0, 1, 2], [1, 0], [0], [1, 1, 0, 2]]
theorem ars9_ar : ∀ A ∈ ars9, Ar A := by
  intro A h
  simp only [ars9, List.mem_cons, List.not_mem_nil, or_false] at h
  rcases h with rfl | rfl | rfl | rfl | rfl | rfl | rfl | rfl | rfl
  · exact ⟨⟨0, rfl⟩, by decide, by decide⟩
  · exact ⟨⟨0, rfl⟩, by decide, by decide⟩
  · exact ⟨⟨0, rfl⟩, by decide, by decide⟩
  · exact ⟨⟨0, rfl⟩, by decide, by decide⟩
  · exact ⟨⟨1, rfl⟩, by decide, by decide⟩
  · exact ⟨⟨0, rfl⟩, by decide, by decide⟩
  · exact ⟨⟨1, rfl⟩, by decide, by decide⟩
  · exact ⟨⟨0, rfl⟩, by decide, by decide⟩
  · exact ⟨⟨2, rfl⟩, by decide, by decide⟩
theorem arities_p {s : List D} (hs : Stm s) : ∃ (A : List Int) (s' : List D), Ar A ∧ Stm s' ∧ p__law_arities s = some (dA A, s') := by
  obtain ⟨x, s', hx, hs', e⟩ := pick_p hs (rows := .list (ars9.map dA)) rfl (by decide) (by decide)
  obtain ⟨A, hA, rfl⟩ := List.mem_map.mp hx
  refine ⟨A, s', ars9_ar A hA, hs', ?_⟩
  have e : p__law_pick s (.list [dA [0, 0, 2], dA [0, 2], dA [0, 1, 2], dA [0, 0, 1], dA [2, 0, 1, 0], dA [0, 0, 1, 2], dA [1, 0], dA [0], dA [1, 1, 0, 2]]) = _ := e
  unfold p__law_arities
  simp only [mkT, mkL, List.length_cons, List.length_nil, Option.bind_some, Option.map_some, show (0 + 1 : Nat) ≤ 1000000 from by omega, show (0 + 1 + 1 : Nat) ≤ 1000000 from by omega, show (0 + 1 + 1 + 1 : Nat) ≤ 1000000 from by omega, show (0 + 1 + 1 + 1 + 1 : Nat) ≤ 1000000 from by omega, show (0 + 1 + 1 + 1 + 1 + 1 + 1 + 1 + 1 + 1 : Nat) ≤ 1000000 from by omega, if_true, lx_some, bx_some]
  simp only [dA, List.map_cons, List.map_nil] at e ⊢
  rw [e]
  rfl
end G
set_option linter.all false
set_option autoImplicit false
set_option maxRecDepth 100000
set_option maxHeartbeats 2000000
namespace G
open PySem L2
def lvs (A : List Int) : List Nat := (List.range A.length).filter fun i => decide (A.getD i 0 = 0)
def inn (A : List Int) (N : Nat) : List Nat := (List.range A.length).filter fun i => decide (0 < A.getD i 0) && decide (A.getD i 0 < (N : Int))
theorem getD_i {A : List Int} {i : Nat} (h : i < A.length) : A[i]? = some (A.getD i 0) := by
  rw [List.getD_eq_getElem?_getD, List.getElem?_eq_getElem h]; rfl
theorem lvs_mem {A : List Int} {i : Nat} : i ∈ lvs A ↔ A[i]? = some 0 := by
  unfold lvs
  rw [List.mem_filter, List.mem_range, decide_eq_true_eq]
  constructor
  · rintro ⟨h1, h2⟩; rw [getD_i h1, h2]
  · intro h
    have hl := (List.getElem?_eq_some_iff.mp h).1
    refine ⟨hl, ?_⟩
    rw [getD_i hl] at h
    exact Option.some.inj h
theorem inn_mem {A : List Int} {N i : Nat} (h : i ∈ inn A N) : ∃ a, A[i]? = some a ∧ 0 < a ∧ a < N := by
  unfold inn at h
  rw [List.mem_filter, List.mem_range, Bool.and_eq_true, decide_eq_true_eq, decide_eq_true_eq] at h
  exact ⟨_, getD_i h.1, h.2.1, h.2.2⟩
theorem f_len {A : List Int} (hl : A.length ≤ 4) (p : Nat → Bool) : ((List.range A.length).filter p).length ≤ 4 :=
  Nat.le_trans (List.length_filter_le _ _) (by rw [List.length_range]; exact hl)
theorem atA_i {A : List Int} {i : Nat} (h : i < A.length) : ixO (asQ (dA A)) (.int (i : Int)) = some (.int (A.getD i 0)) := at_A (getD_i h)
theorem rg_A {A : List Int} (hl : A.length ≤ 4) : ((asQ (dA A)).map lenD).bind rg1 = some ((List.range A.length).map fun (i : Nat) => PyData.int (i : Int)) := by
  simp [asQ, lenD, dA, rg1_n (show A.length ≤ 1000000 by omega)]
theorem lvs_lc {A : List Int} (hl : A.length ≤ 4) : (((asQ (dA A)).map lenD).bind rg1).bind (lcPz some (fun y4 => ((((some y4).bind (ixO (asQ (dA A)))).bind fun v5 => (some (PyData.int 0)).bind fun v6 => fEq v5 v6).bind asB)) (fun y4 => (some y4))) = some (iD (lvs A)) := by
  rw [rg_A hl]
  exact lcPz_f (oY := some) (ot := fun y4 => ((((some y4).bind (ixO (asQ (dA A)))).bind fun v5 => (some (PyData.int 0)).bind fun v6 => fEq v5 v6).bind asB)) (oe := fun y => some y) (fun (i : Nat) => PyData.int (i : Int)) (fun (i : Nat) => PyData.int (i : Int)) (fun i => decide (A.getD i 0 = 0)) (fun (i : Nat) => PyData.int (i : Int)) (List.range A.length) (by rw [List.length_range]; omega) (fun _ _ => rfl) (fun i hi => by
    rw [List.mem_range] at hi
    simp only [Option.bind_some, atA_i hi, fEq, sh_int, ev_int, Bool.and_self, if_true, asB]) (fun _ _ _ => rfl)
theorem inn_lc {A : List Int} (N : Nat) (hl : A.length ≤ 4) : (((asQ (dA A)).map lenD).bind rg1).bind (lcPz some (fun y8 => (((some (PyData.int 0)).bind fun v9 => ((some y8).bind (ixO (asQ (dA A)))).bind fun v10 => (fLtX v9 v10).bind fun v11 => andO v11 ((some (PyData.int N)).bind fun v12 => fLtX v10 v12)).bind asB)) (fun y8 => (some y8))) = some (iD (inn A N)) := by
  rw [rg_A hl]
  exact lcPz_f (oY := some) (ot := fun y8 => (((some (PyData.int 0)).bind fun v9 => ((some y8).bind (ixO (asQ (dA A)))).bind fun v10 => (fLtX v9 v10).bind fun v11 => andO v11 ((some (PyData.int N)).bind fun v12 => fLtX v10 v12)).bind asB)) (oe := fun y => some y) (fun (i : Nat) => PyData.int (i : Int)) (fun (i : Nat) => PyData.int (i : Int)) (fun i => decide (0 < A.getD i 0) && decide (A.getD i 0 < (N : Int))) (fun (i : Nat) => PyData.int (i : Int)) (List.range A.length) (by rw [List.length_range]; omega) (fun _ _ => rfl) (fun i hi => by
    rw [List.mem_range] at hi
    simp only [Option.bind_some, atA_i hi, fLtX, fLt, fI0, Option.or]
    cases decide (0 < A.getD i 0) <;> simp [andO, asB]) (fun _ _ _ => rfl)
theorem law_tree_s (k : Nat) (s : List D) (a b : D) : p__law_tree (k + 1) s a b = b__law_tree (p__law_tree k) k s a b := rfl
theorem tree_p {A : List Int} (hA : Ar A) : ∀ (N k : Nat) (s : List D), 1 ≤ N → N ≤ 15 → N ≤ k → Stm s → ∃ (t : T) (s' : List D), t.ok A ∧ t.n ≤ N ∧ Stm s' ∧ p__law_tree k s (dA A) (.int N) = some (t.d, s') := by
  intro N
  induction N using Nat.strongRecOn with
  | ind N ih =>
    intro k s h1 h15 hk hs
    obtain ⟨k, rfl⟩ : ∃ j, k = j + 1 := ⟨k - 1, by omega⟩
    rw [law_tree_s]
    unfold b__law_tree
    rw [lvs_lc hA.len.2, inn_lc N hA.len.2]
    simp only [Option.map_some, Option.bind_some]
    have l0 : 0 < (iD (lvs A)).length := by
      obtain ⟨i, hi⟩ := hA.leaf
      rw [List.length_map]
      exact List.length_pos_of_mem (lvs_mem.mpr hi)
    have l1 : (iD (lvs A)).length ≤ 1000 := by
      have := f_len hA.len.2 fun i => decide (A.getD i 0 = 0)
      rw [List.length_map]; unfold lvs; omega
    have leaf : ∀ s, Stm s → ∃ (t : T) (s' : List D), t.ok A ∧ t.n ≤ N ∧ Stm s' ∧ (bx (bx (p__law_pick s (.list (iD (lvs A)))) fun v26 s27 => lx s27 (mkT [v26])) fun r28 s29 => some (r28, s29)) = some (t.d, s') := by
      intro s hs
      obtain ⟨x, s', hx, hs', e⟩ := pick_p hs (rows := .list (iD (lvs A))) rfl l0 l1
      obtain ⟨i, hi, rfl⟩ := List.mem_map.mp hx
      refine ⟨.l i, s', lvs_mem.mp hi, h1, hs', ?_⟩
      rw [e, bx_some]
      rfl
    have node : ∀ s, Stm s → inn A N ≠ [] → ∃ (t : T) (s' : List D), t.ok A ∧ t.n ≤ N ∧ Stm s' ∧ (bx (p__law_pick s (.list (iD (inn A N)))) fun symbol30 s31 => (((((some symbol30).bind (ixO (asQ (dA A)))).bind fun v32 => (some (PyData.int 1)).bind fun v33 => fEq v32 v33).bind asB).bind fun c34 => if c34 then (bx (bx (lx s31 (some symbol30)) fun v35 s36 => bx (bx (lx s36 ((some (PyData.int N)).bind fun v37 => (some (PyData.int 1)).bind fun v38 => fSub v37 v38)) fun v39 s40 => p__law_tree k s40 (dA A) v39) fun v41 s42 => lx s42 (mkT [v35, v41])) fun r43 s44 => some (r43, s44)) else (bx (bx (lx s31 (some (PyData.int 1))) fun v45 s46 => bx (bx (lx s46 ((some (PyData.int N)).bind fun v47 => (some (PyData.int 2)).bind fun v48 => fSub v47 v48)) fun v49 s50 => p__law_next s50 v49) fun v51 s52 => lx s52 (fAdd v45 v51)) fun left53 s54 => (bx (bx (lx s54 (some symbol30)) fun v55 s56 => bx (p__law_tree k s56 (dA A) left53) fun v57 s58 => bx (bx (lx s58 (((some (PyData.int N)).bind fun v59 => (some (PyData.int 1)).bind fun v60 => fSub v59 v60).bind fun v61 => (some left53).bind fun v62 => fSub v61 v62)) fun v63 s64 => p__law_tree k s64 (dA A) v63) fun v65 s66 => lx s66 (mkT [v55, v57, v65])) fun r67 s68 => some (r67, s68))))) = some (t.d, s') := by
      intro s hs hne
      have n0 : 0 < (iD (inn A N)).length := by rw [List.length_map]; exact List.length_pos_iff.mpr hne
      have n1 : (iD (inn A N)).length ≤ 1000 := by
        have := f_len hA.len.2 fun i => decide (0 < A.getD i 0) && decide (A.getD i 0 < (N : Int))
        rw [List.length_map]; unfold inn; omega
      obtain ⟨x, s1, hx, hs1, e⟩ := pick_p hs (rows := .list (iD (inn A N))) rfl n0 n1
      obtain ⟨i, hi, rfl⟩ := List.mem_map.mp hx
      obtain ⟨a, ha, p1, p2⟩ := inn_mem hi
      have hle := hA.le a (List.mem_of_getElem? ha)
      have q : ixO (asQ (dA A)) (.int (i : Int)) = some (.int a) := at_A ha
      have : a = 1 ∨ a = 2 := by omega
      rcases this with rfl | rfl
      · obtain ⟨t, s', o, n, hs', e'⟩ := ih (N - 1) (by omega) k s1 (by omega) (by omega) (by omega) hs1
        rw [show ((N - 1 : Nat) : Int) = (N : Int) - 1 by omega] at e'
        refine ⟨.u i t, s', ⟨ha, o⟩, by simp only [T.n]; omega, hs', ?_⟩
        rw [e, bx_some]
        simp only [Option.bind_some, q, fEq, sh_int, ev_int, Bool.and_self, if_true, asB, decide_true, lx_some, bx_some, fSub, fI0, e']
        rfl
      · obtain ⟨g, s2, hg, hs2, e2⟩ := nx hs1 (N - 2) (by omega) (by omega)
        rw [show ((N - 2 : Nat) : Int) = (N : Int) - 2 by omega] at e2
        obtain ⟨x, s3, ox, nx', hs3, e3⟩ := ih (1 + g) (by omega) k s2 (by omega) (by omega) (by omega) hs2
        obtain ⟨y, s4, oy, ny, hs4, e4⟩ := ih (N - 1 - (1 + g)) (by omega) k s3 (by omega) (by omega) (by omega) hs3
        rw [show ((1 + g : Nat) : Int) = 1 + (g : Int) by omega] at e3
        rw [show ((N - 1 - (1 + g) : Nat) : Int) = (N : Int) - 1 - (1 + (g : Int)) by omega] at e4
        refine ⟨.b i x y, s4, ⟨ha, ox, oy⟩, by simp only [T.n]; omega, hs4, ?_⟩
        rw [e, bx_some]
        simp only [Option.bind_some, q, fEq, sh_int, ev_int, Bool.and_self, if_true, asB, show decide ((2 : Int) = 1) = false from rfl, Bool.false_eq_true, if_false, lx_some, bx_some, fSub, fI0, e2, fAdd, Option.or, e3, e4]
        rfl
    by_cases hne : inn A N = []
    · obtain ⟨t, s', o, n, hs', e⟩ := leaf s hs
      refine ⟨t, s', o, n, hs', ?_⟩
      rw [hne]
      simp only [tru, List.map_nil, List.isEmpty_nil, Bool.not_true, Option.map_some, Bool.not_false, lx_some, bx_some, if_true]
      exact e
    · have hd : ((tru (PyData.list (iD (inn A N)))).map fun b => !b) = some false := by
        cases h : inn A N with
        | nil => exact absurd h hne
        | cons x xs => rfl
      obtain ⟨g, s2, hg, hs2, e2⟩ := nx hs 5 (by omega) (by omega)
      rw [show ((5 : Nat) : Int) = 5 from rfl] at e2
      have eg : fEq (.int (g : Int)) (.int 0) = some (.bool (decide (g = 0))) := by
        simp only [fEq, sh_int, ev_int, Bool.and_self, if_true]
        congr 2
        exact decide_eq_decide.mpr (by omega)
      rw [hd]
      simp only [lx_some, bx_some, Bool.false_eq_true, if_false, e2, eg, asB]
      by_cases hg0 : g = 0
      · obtain ⟨t, s', o, n, hs', e⟩ := leaf s2 hs2
        refine ⟨t, s', o, n, hs', ?_⟩
        rw [decide_eq_true hg0]
        exact e
      · obtain ⟨t, s', o, n, hs', e⟩ := node s2 hs2 hne
        refine ⟨t, s', o, n, hs', ?_⟩
        rw [decide_eq_false hg0]
        exact e
end G
set_option linter.all false
set_option autoImplicit false
set_option maxRecDepth 100000
set_option maxHeartbeats 2000000
namespace G
open PySem L2
def kK : Nat → Nat
  | 1 => 4
  | 2 => 16
  | 3 => 64
  | 4 => 512
  | 5 => 3072
  | _ => 0
def gK : Nat → Nat
  | 1 => 1
  | 2 => 4
  | 3 => 16
  | 4 => 128
  | 5 => 768
  | _ => 0
def gL : Nat → Nat
  | 3 => 16
  | 4 => 64
  | 5 => 256
  | _ => 0
theorem T.sym_lt {A : List Int} {t : T} (o : t.ok A) : t.sym < A.length := by
  cases t with
  | l s => exact (List.getElem?_eq_some_iff.mp o).1
  | u s a => exact (List.getElem?_eq_some_iff.mp o.1).1
  | b s x y => exact (List.getElem?_eq_some_iff.mp o.1).1
/-- the trees of n nodes whose symbol is below j -/
def Part (A : List Int) (n j K : Nat) (ts : List T) : Prop := ts.length ≤ K ∧ ∀ t, t ∈ ts ↔ t.ok A ∧ t.n = n ∧ t.sym < j
def Rows (A : List Int) (s5 : List D) (n : Nat) : Prop := ∀ l < n, ∃ ts, atI s5 (l : Int) = some (.list (ts.map T.d)) ∧ Part A l A.length (kK l) ts
section
variable {A : List Int}
theorem la4 {n l : Nat} {s5 : List D} {i : Nat} {ts : List T} (hs : atI s5 ((n : Int) - 1 - l) = some (.list (ts.map T.d))) (hl : ts.length ≤ 1000000) : ∀ (us F : List T), F.length + us.length * ts.length ≤ 1000000 → forP some (l__law_all_4 (.int n) (.int l) s5 (.int i)) (F.map T.d) (us.map T.d) = some ((F ++ us.flatMap fun x => ts.map fun y => T.b i x y).map T.d)
  | [], F, _ => by simp [forP]
  | x :: us, F, hk => by
    rw [List.length_cons, Nat.succ_mul] at hk
    have e1 := lcPz_m (oY := some) (ot := fun _ => some true) (oe := fun y42 => ((some (PyData.int i)).bind fun x47 => (some x.d).bind fun x48 => (some y42).bind fun x49 => mkT [x47, x48, x49])) T.d T.d (fun y => (T.b i x y).d) ts hl (fun _ _ => rfl) (fun _ _ => rfl) (fun _ _ => rfl)
    have ih := la4 (i := i) hs hl us (F ++ ts.map fun y => T.b i x y) (by rw [List.length_append, List.length_map]; omega)
    have e3 : l__law_all_4 (.int n) (.int l) s5 (.int i) (F.map T.d) x.d = some ((F ++ ts.map fun y => T.b i x y).map T.d) := by
      unfold l__law_all_4
      simp only [Option.bind_some, fSub, fI0] at e1 ⊢
      rw [show ixO (some s5) (.int ((n : Int) - 1 - l)) = some (.list (ts.map T.d)) from hs, Option.bind_some, asQ_l, Option.bind_some, e1, Option.bind_some, extO, if_pos (by rw [List.length_map, List.length_map]; omega), Option.bind_some, List.map_append, List.map_map]
      rfl
    rw [List.map_cons]
    simp only [forP, Option.bind_some, e3]
    rw [ih]
    simp [List.flatMap_cons, List.append_assoc]
theorem la3 {n l : Nat} {s5 : List D} {i : Nat} {us ts F : List T} (h1 : atI s5 (l : Int) = some (.list (us.map T.d))) (h2 : atI s5 ((n : Int) - 1 - l) = some (.list (ts.map T.d))) (hl : ts.length ≤ 1000000) (hk : F.length + us.length * ts.length ≤ 1000000) : l__law_all_3 s5 (.int n) (.int i) (F.map T.d) (.int l) = some ((F ++ us.flatMap fun x => ts.map fun y => T.b i x y).map T.d) := by
  unfold l__law_all_3
  simp only [Option.bind_some]
  rw [show ixO (some s5) (.int (l : Int)) = some (.list (us.map T.d)) from h1, Option.bind_some, asQ_l, Option.bind_some, la4 h2 hl us F hk]
  rfl
theorem la2_2 (hA : Ar A) {n : Nat} (hn : 1 ≤ n ∧ n ≤ 5) {s5 : List D} (hs : Rows A s5 n) {i : Nat} (hi : A[i]? = some 2) {K : Nat} {F : List T} (hf : Part A n i K F) (hk : K ≤ 10000) : ∃ F', l__law_all_2 (dA A) (.int n) s5 (F.map T.d) (.int i) = some (F'.map T.d) ∧ Part A n (i + 1) (K + gK n) F' := by
  have e : ixO (asQ (dA A)) (.int (i : Int)) = some (.int 2) := at_A hi
  have e0 : fEq (.int (2 : Int)) (.int 0) = some (.bool false) := by simp [fEq, sh_int, ev_int]
  have e1 : fEq (.int (2 : Int)) (.int 1) = some (.bool false) := by simp [fEq, sh_int, ev_int]
  have e2 : fEq (.int (2 : Int)) (.int 2) = some (.bool true) := by simp [fEq, sh_int, ev_int]
  have er : rg2 (.int 1) (.int ((n : Int) - 1)) = some ((List.range (n - 2)).map fun (k : Nat) => PyData.int (1 + (k : Int))) := by
    unfold rg2
    have b1 : bRng 1 = true := by decide
    have b2 : bRng ((n : Int) - 1) = true := by unfold bRng; exact decide_eq_true (by omega)
    simp only [b1, b2, Bool.and_self, if_true, rng]
    rw [show ((n : Int) - 1 - 1).toNat = n - 2 by omega]
  have hg : ∀ l, 1 ≤ l → l + 1 < n → kK l * kK (n - 1 - l) ≤ gL n := by
    intro l h1 h2
    have : n = 3 ∨ n = 4 ∨ n = 5 := by omega
    rcases this with rfl | rfl | rfl
    · obtain rfl : l = 1 := by omega
      decide
    · have : l = 1 ∨ l = 2 := by omega
      rcases this with rfl | rfl <;> decide
    · have : l = 1 ∨ l = 2 ∨ l = 3 := by omega
      rcases this with rfl | rfl | rfl <;> decide
  have hG : (n - 2) * gL n ≤ gK n ∧ gK n ≤ 768 ∧ ∀ l < n, kK l ≤ 3072 := by
    have : n = 1 ∨ n = 2 ∨ n = 3 ∨ n = 4 ∨ n = 5 := by omega
    rcases this with rfl | rfl | rfl | rfl | rfl <;> decide
  obtain ⟨s', k1, F', rfl, l1, m1⟩ := forP_ex (oY := some) (f := l__law_all_3 s5 (.int n) (.int i)) (I := fun j s => ∃ F' : List T, s = F'.map T.d ∧ F'.length ≤ K + j * gL n ∧ ∀ t, t ∈ F' ↔ t ∈ F ∨ ∃ x y, t = .b i x y ∧ x.ok A ∧ y.ok A ∧ x.n < 1 + j ∧ x.n + y.n + 1 = n) ((List.range (n - 2)).map fun (k : Nat) => PyData.int (1 + (k : Int))) 0 (F.map T.d) ⟨F, rfl, by have := hf.1; omega, fun t => ⟨.inl, fun h => h.elim id fun ⟨x, y, _, _, _, h, _⟩ => by have := x.n_pos; omega⟩⟩ (fun j x s ex hI => by
    rw [Nat.zero_add] at hI ⊢
    obtain ⟨F1, rfl, l1, m1⟩ := hI
    rw [List.getElem?_map] at ex
    have hj : j < n - 2 := by
      rcases Nat.lt_or_ge j (n - 2) with h | h
      · exact h
      · rw [List.getElem?_eq_none (by rw [List.length_range]; exact h)] at ex; cases ex
    rw [List.getElem?_range hj] at ex
    cases ex
    obtain ⟨us, a1, p1⟩ := hs (1 + j) (by omega)
    obtain ⟨ts, a2, p2⟩ := hs (n - 1 - (1 + j)) (by omega)
    rw [show ((n - 1 - (1 + j) : Nat) : Int) = (n : Int) - 1 - ((1 + j : Nat) : Int) by omega] at a2
    have hml : us.length * ts.length ≤ gL n := Nat.le_trans (Nat.mul_le_mul p1.1 p2.1) (hg (1 + j) (by omega) (by omega))
    have hjg : (j + 1) * gL n ≤ gK n := Nat.le_trans (Nat.mul_le_mul_right _ (by omega)) hG.1
    have hj1 : (j + 1) * gL n = j * gL n + gL n := Nat.succ_mul _ _
    have r := la3 (i := i) (F := F1) a1 a2 (by have := hG.2.2 (n - 1 - (1 + j)) (by omega); have := p2.1; omega) (by omega)
    refine ⟨_, _, rfl, by
      rw [show ((fun (k : Nat) => PyData.int (1 + (k : Int))) j) = PyData.int ((1 + j : Nat) : Int) from congrArg PyData.int (by omega)]
      exact r, _, rfl, ?_, fun t => ?_⟩
    · rw [List.length_append, fm_len (fun x => ts.map fun y => T.b i x y) ts.length (fun x => by rw [List.length_map])]
      omega
    · rw [List.mem_append, m1]
      constructor
      · rintro ((h | ⟨x, y, h1, h2, h3, h4, h5⟩) | h)
        · exact .inl h
        · exact .inr ⟨x, y, h1, h2, h3, by omega, h5⟩
        · obtain ⟨x, hx, h⟩ := List.mem_flatMap.mp h
          obtain ⟨y, hy, rfl⟩ := List.mem_map.mp h
          have q1 := (p1.2 x).mp hx
          have q2 := (p2.2 y).mp hy
          exact .inr ⟨x, y, rfl, q1.1, q2.1, by omega, by omega⟩
      · rintro (h | ⟨x, y, h1, h2, h3, h4, h5⟩)
        · exact .inl (.inl h)
        · by_cases c : x.n = 1 + j
          · refine .inr (List.mem_flatMap.mpr ⟨x, (p1.2 x).mpr ⟨h2, c, T.sym_lt h2⟩, List.mem_map.mpr ⟨y, (p2.2 y).mpr ⟨h3, by omega, T.sym_lt h3⟩, h1.symm⟩⟩)
          · exact .inl (.inr ⟨x, y, h1, h2, h3, by omega, h5⟩))
  rw [List.length_map, List.length_range, Nat.zero_add] at l1 m1
  refine ⟨F', ?_, by omega, fun t => ?_⟩
  · unfold l__law_all_2
    simp only [Option.bind_some, e, e0, e1, e2, asB, if_true, fSub, fI0, er, if_false, Bool.false_eq_true]
    rw [k1]
    rfl
  · rw [m1, hf.2]
    constructor
    · rintro (⟨h1, h2, h3⟩ | ⟨x, y, rfl, h2, h3, h4, h5⟩)
      · exact ⟨h1, h2, by omega⟩
      · exact ⟨⟨hi, h2, h3⟩, by simp only [T.n]; omega, by simp only [T.sym]; omega⟩
    · rintro ⟨h1, h2, h3⟩
      by_cases c : t.sym < i
      · exact .inl ⟨h1, h2, c⟩
      · have hsy : t.sym = i := by omega
        cases t with
        | l s => simp only [T.sym] at hsy; subst hsy; exact absurd (ok_ar h1 hi) (by decide)
        | u s a => simp only [T.sym] at hsy; subst hsy; exact absurd (ok_ar h1.1 hi) (by decide)
        | b s x y =>
          simp only [T.sym] at hsy
          subst hsy
          simp only [T.n] at h2
          have := y.n_pos
          exact .inr ⟨x, y, rfl, h1.2.1, h1.2.2, by omega, by omega⟩
theorem la2_0 (hA : Ar A) {n : Nat} (hn : 1 ≤ n ∧ n ≤ 5) {s5 : List D} {i : Nat} (hi : A[i]? = some 0) {K : Nat} {F : List T} (hf : Part A n i K F) (hk : K ≤ 10000) : ∃ F', l__law_all_2 (dA A) (.int n) s5 (F.map T.d) (.int i) = some (F'.map T.d) ∧ Part A n (i + 1) (K + gK n) F' := by
  have e : ixO (asQ (dA A)) (.int (i : Int)) = some (.int 0) := at_A hi
  have e0 : fEq (.int (0 : Int)) (.int 0) = some (.bool true) := by simp [fEq, sh_int, ev_int]
  have e1 : fEq (.int (0 : Int)) (.int 1) = some (.bool false) := by simp [fEq, sh_int, ev_int]
  have e2 : fEq (.int (0 : Int)) (.int 2) = some (.bool false) := by simp [fEq, sh_int, ev_int]
  have e3 : fEq (.int (n : Int)) (.int 1) = some (.bool (decide (n = 1))) := by
    simp only [fEq, sh_int, ev_int, Bool.and_self, if_true]
    congr 2
    exact decide_eq_decide.mpr (by omega)
  have mem : ∀ t : T, (t.ok A ∧ t.n = n ∧ t.sym < i + 1) ↔ (t.ok A ∧ t.n = n ∧ t.sym < i) ∨ (n = 1 ∧ t = .l i) := by
    intro t
    constructor
    · rintro ⟨h1, h2, h3⟩
      by_cases c : t.sym < i
      · exact .inl ⟨h1, h2, c⟩
      · have hsy : t.sym = i := by omega
        cases t with
        | l s => simp only [T.sym] at hsy; subst hsy; simp only [T.n] at h2; exact .inr ⟨h2.symm, rfl⟩
        | u s a => simp only [T.sym] at hsy; subst hsy; exact absurd (ok_ar h1.1 hi) (by decide)
        | b s x y => simp only [T.sym] at hsy; subst hsy; exact absurd (ok_ar h1.1 hi) (by decide)
    · rintro (⟨h1, h2, h3⟩ | ⟨rfl, rfl⟩)
      · exact ⟨h1, h2, by omega⟩
      · exact ⟨hi, rfl, by simp only [T.sym]; omega⟩
  by_cases h1 : n = 1
  · refine ⟨F ++ [.l i], ?_, ?_, fun t => ?_⟩
    · subst h1
      have := hf.1
      unfold l__law_all_2
      simp only [Option.bind_some, e, e0, e1, e2, e3, asB, if_true, decide_true, mkT, List.length_singleton, show (1 : Nat) ≤ 1000000 from by omega, appO, List.length_map, show F.length < 1000000 from by omega, if_false, Bool.false_eq_true, List.map_append]
      rfl
    · subst h1
      rw [List.length_append, List.length_singleton]
      have := hf.1
      have : gK 1 = 1 := rfl
      omega
    · rw [List.mem_append, hf.2, mem, List.mem_singleton]
      exact ⟨fun h => h.elim .inl fun h => .inr ⟨h1, h⟩, fun h => h.elim .inl fun h => .inr h.2⟩
  · refine ⟨F, ?_, by have := hf.1; omega, fun t => ?_⟩
    · unfold l__law_all_2
      simp only [Option.bind_some, e, e0, e1, e2, e3, asB, if_true, decide_eq_false h1, if_false, Bool.false_eq_true]
    · rw [hf.2, mem]
      exact ⟨.inl, fun h => h.elim id fun h => absurd h.1 h1⟩
theorem la2_1 (hA : Ar A) {n : Nat} (hn : 1 ≤ n ∧ n ≤ 5) {s5 : List D} (hs : Rows A s5 n) {i : Nat} (hi : A[i]? = some 1) {K : Nat} {F : List T} (hf : Part A n i K F) (hk : K ≤ 10000) : ∃ F', l__law_all_2 (dA A) (.int n) s5 (F.map T.d) (.int i) = some (F'.map T.d) ∧ Part A n (i + 1) (K + gK n) F' := by
  have e : ixO (asQ (dA A)) (.int (i : Int)) = some (.int 1) := at_A hi
  have e0 : fEq (.int (1 : Int)) (.int 0) = some (.bool false) := by simp [fEq, sh_int, ev_int]
  have e1 : fEq (.int (1 : Int)) (.int 1) = some (.bool true) := by simp [fEq, sh_int, ev_int]
  have e2 : fEq (.int (1 : Int)) (.int 2) = some (.bool false) := by simp [fEq, sh_int, ev_int]
  have e3 : fGtX (.int (n : Int)) (.int 1) = some (.bool (decide (1 < n))) := by
    simp only [fGtX, fGt, fI0, Option.or]
    congr 2
    exact decide_eq_decide.mpr (by omega)
  obtain ⟨ts, a1, p1⟩ := hs (n - 1) (by omega)
  rw [show ((n - 1 : Nat) : Int) = (n : Int) - 1 by omega] at a1
  have a1 : ixO (some s5) (.int ((n : Int) - 1)) = some (.list (ts.map T.d)) := a1
  have hg : kK (n - 1) ≤ gK n ∧ kK (n - 1) ≤ 3072 := by
    have : n = 1 ∨ n = 2 ∨ n = 3 ∨ n = 4 ∨ n = 5 := by omega
    rcases this with rfl | rfl | rfl | rfl | rfl <;> decide
  have tl := p1.1
  have fl := hf.1
  have mem : ∀ t : T, (t.ok A ∧ t.n = n ∧ t.sym < i + 1) ↔ (t.ok A ∧ t.n = n ∧ t.sym < i) ∨ (1 < n ∧ ∃ y, y ∈ ts ∧ T.u i y = t) := by
    intro t
    constructor
    · rintro ⟨h1, h2, h3⟩
      by_cases c : t.sym < i
      · exact .inl ⟨h1, h2, c⟩
      · have hsy : t.sym = i := by omega
        cases t with
        | l s => simp only [T.sym] at hsy; subst hsy; exact absurd (ok_ar h1 hi) (by decide)
        | u s a =>
          simp only [T.sym] at hsy
          subst hsy
          simp only [T.n] at h2
          have := a.n_pos
          exact .inr ⟨by omega, a, (p1.2 a).mpr ⟨h1.2, by omega, T.sym_lt h1.2⟩, rfl⟩
        | b s x y => simp only [T.sym] at hsy; subst hsy; exact absurd (ok_ar h1.1 hi) (by decide)
    · rintro (⟨h1, h2, h3⟩ | ⟨h1, y, hy, rfl⟩)
      · exact ⟨h1, h2, by omega⟩
      · have q := (p1.2 y).mp hy
        exact ⟨⟨hi, q.1⟩, by simp only [T.n]; omega, by simp only [T.sym]; omega⟩
  by_cases h1 : 1 < n
  · have k1 := lcPz_m (oY := some) (ot := fun _ => some true) (oe := fun y28 => ((some (PyData.int i)).bind fun x31 => (some y28).bind fun x32 => mkT [x31, x32])) T.d T.d (fun y => (T.u i y).d) ts (by omega) (fun _ _ => rfl) (fun _ _ => rfl) (fun _ _ => rfl)
    refine ⟨F ++ ts.map (T.u i), ?_, by rw [List.length_append, List.length_map]; omega, fun t => ?_⟩
    · unfold l__law_all_2
      simp only [Option.bind_some] at k1
      simp only [Option.bind_some, e, e0, e1, e2, e3, asB, if_true, decide_eq_true h1, fSub, fI0, a1, asQ_l, k1, if_false, Bool.false_eq_true, extO, List.length_map, show F.length + ts.length ≤ 1000000 from by omega, List.map_append, List.map_map]
      rfl
    · rw [List.mem_append, hf.2, mem, List.mem_map]
      exact ⟨fun h => h.elim .inl fun h => .inr ⟨h1, h⟩, fun h => h.elim .inl fun h => .inr h.2⟩
  · refine ⟨F, ?_, by omega, fun t => ?_⟩
    · unfold l__law_all_2
      simp only [Option.bind_some, e, e0, e1, e2, e3, asB, if_true, decide_eq_false h1, if_false, Bool.false_eq_true]
    · rw [hf.2, mem]
      exact ⟨.inl, fun h => h.elim id fun h => absurd h.1 h1⟩
theorem la2 (hA : Ar A) {n : Nat} (hn : 1 ≤ n ∧ n ≤ 5) {s5 : List D} (hs : Rows A s5 n) {i : Nat} (hi : i < A.length) {K : Nat} {F : List T} (hf : Part A n i K F) (hk : K ≤ 10000) : ∃ F', l__law_all_2 (dA A) (.int n) s5 (F.map T.d) (.int i) = some (F'.map T.d) ∧ Part A n (i + 1) (K + gK n) F' := by
  have e := List.getElem?_eq_getElem hi
  have ha := hA.le _ (List.getElem_mem hi)
  have : A[i] = 0 ∨ A[i] = 1 ∨ A[i] = 2 := by omega
  rcases this with h | h | h
  · exact la2_0 hA hn (by rw [e, h]) hf hk
  · exact la2_1 hA hn hs (by rw [e, h]) hf hk
  · exact la2_2 hA hn hs (by rw [e, h]) hf hk
theorem la1 (hA : Ar A) {n : Nat} (hn : 1 ≤ n ∧ n ≤ 5) {s5 : List D} (hs : Rows A s5 n) (hl : s5.length = n) : ∃ ts, l__law_all_1 (dA A) s5 (.int n) = some (s5 ++ [.list (ts.map T.d)]) ∧ Part A n A.length (kK n) ts := by
  have hg : gK n ≤ 768 ∧ 4 * gK n ≤ kK n := by
    have : n = 1 ∨ n = 2 ∨ n = 3 ∨ n = 4 ∨ n = 5 := by omega
    rcases this with rfl | rfl | rfl | rfl | rfl <;> decide
  have h4 := hA.len.2
  obtain ⟨found, e1, F, rfl, p1⟩ := forP_ex (oY := some) (f := l__law_all_2 (dA A) (.int n) s5) (I := fun j f => ∃ F : List T, f = F.map T.d ∧ Part A n j (j * gK n) F) ((List.range A.length).map fun (i : Nat) => PyData.int (i : Int)) 0 [] ⟨[], rfl, Nat.zero_le _, fun t => ⟨fun h => (by cases h), fun h => by omega⟩⟩ (fun j x s ex hI => by
    rw [List.getElem?_map] at ex
    have hj : j < A.length := by
      rcases Nat.lt_or_ge j A.length with h | h
      · exact h
      · rw [List.getElem?_eq_none (by rw [List.length_range]; exact h)] at ex; cases ex
    rw [List.getElem?_range hj] at ex
    cases ex
    have hm := Nat.mul_le_mul_right (gK n) (show j ≤ 3 by omega)
    rw [Nat.zero_add] at hI ⊢
    obtain ⟨F, rfl, p⟩ := hI
    obtain ⟨F', e, r⟩ := la2 hA hn hs hj p (by omega)
    exact ⟨_, _, rfl, e, F', rfl, by rw [Nat.succ_mul]; exact r⟩)
  rw [List.length_map, List.length_range, Nat.zero_add] at p1
  have k3 : (((asQ (dA A)).map lenD).bind rg1) = some ((List.range A.length).map fun (i : Nat) => PyData.int (i : Int)) := rg_A hA.len.2
  have hm := Nat.mul_le_mul_right (gK n) h4
  refine ⟨F, ?_, Nat.le_trans p1.1 (by omega), p1.2⟩
  unfold l__law_all_1
  rw [k3]
  simp only [mkL, List.length_nil, Nat.zero_le, if_true, Option.bind_some]
  rw [e1]
  simp only [Option.bind_some, appO]
  rw [if_pos (by omega)]
  rfl
theorem law_all_p (hA : Ar A) : ∃ R : Nat → List T, p__law_all (dA A) (.int 5) = some [.list [], .list ((R 1).map T.d), .list ((R 2).map T.d), .list ((R 3).map T.d), .list ((R 4).map T.d), .list ((R 5).map T.d)] ∧ ∀ n, 1 ≤ n → n ≤ 5 → Part A n A.length (kK n) (R n) := by
  have nil : Part A 0 A.length (kK 0) [] := ⟨Nat.zero_le _, fun t => ⟨fun h => (by cases h), fun h => by have := t.n_pos; omega⟩⟩
  obtain ⟨x1, e1, r1⟩ := la1 hA (n := 1) (by omega) (s5 := [.list []]) (fun l hl => by
    obtain rfl : l = 0 := by omega
    exact ⟨[], rfl, nil⟩) rfl
  obtain ⟨x2, e2, r2⟩ := la1 hA (n := 2) (by omega) (s5 := [.list [], .list (x1.map T.d)]) (fun l hl => by
    have : l = 0 ∨ l = 1 := by omega
    rcases this with rfl | rfl
    · exact ⟨[], rfl, nil⟩
    · exact ⟨x1, rfl, r1⟩) rfl
  obtain ⟨x3, e3, r3⟩ := la1 hA (n := 3) (by omega) (s5 := [.list [], .list (x1.map T.d), .list (x2.map T.d)]) (fun l hl => by
    have : l = 0 ∨ l = 1 ∨ l = 2 := by omega
    rcases this with rfl | rfl | rfl
    · exact ⟨[], rfl, nil⟩
    · exact ⟨x1, rfl, r1⟩
    · exact ⟨x2, rfl, r2⟩) rfl
  obtain ⟨x4, e4, r4⟩ := la1 hA (n := 4) (by omega) (s5 := [.list [], .list (x1.map T.d), .list (x2.map T.d), .list (x3.map T.d)]) (fun l hl => by
    have : l = 0 ∨ l = 1 ∨ l = 2 ∨ l = 3 := by omega
    rcases this with rfl | rfl | rfl | rfl
    · exact ⟨[], rfl, nil⟩
    · exact ⟨x1, rfl, r1⟩
    · exact ⟨x2, rfl, r2⟩
    · exact ⟨x3, rfl, r3⟩) rfl
  obtain ⟨x5, e5, r5⟩ := la1 hA (n := 5) (by omega) (s5 := [.list [], .list (x1.map T.d), .list (x2.map T.d), .list (x3.map T.d), .list (x4.map T.d)]) (fun l hl => by
    have : l = 0 ∨ l = 1 ∨ l = 2 ∨ l = 3 ∨ l = 4 := by omega
    rcases this with rfl | rfl | rfl | rfl | rfl
    · exact ⟨[], rfl, nil⟩
    · exact ⟨x1, rfl, r1⟩
    · exact ⟨x2, rfl, r2⟩
    · exact ⟨x3, rfl, r3⟩
    · exact ⟨x4, rfl, r4⟩) rfl
  refine ⟨fun n => if n = 1 then x1 else if n = 2 then x2 else if n = 3 then x3 else if n = 4 then x4 else x5, ?_, ?_⟩
  · have e1 : l__law_all_1 (dA A) [.list []] (.int 1) = _ := e1
    have e2 : l__law_all_1 (dA A) [.list [], .list (x1.map T.d)] (.int 2) = _ := e2
    have e3 : l__law_all_1 (dA A) [.list [], .list (x1.map T.d), .list (x2.map T.d)] (.int 3) = _ := e3
    have e4 : l__law_all_1 (dA A) [.list [], .list (x1.map T.d), .list (x2.map T.d), .list (x3.map T.d)] (.int 4) = _ := e4
    have e5 : l__law_all_1 (dA A) [.list [], .list (x1.map T.d), .list (x2.map T.d), .list (x3.map T.d), .list (x4.map T.d)] (.int 5) = _ := e5
    have e0 : ((some (PyData.int 1)).bind fun v67 => ((some (PyData.int 5)).bind fun v65 => (some (PyData.int 1)).bind fun v66 => fAdd v65 v66).bind fun v68 => rg2 v67 v68) = some [.int 1, .int 2, .int 3, .int 4, .int 5] := rfl
    unfold p__law_all
    rw [e0]
    simp only [mkL, List.length_nil, List.length_singleton, Nat.zero_le, if_true, Option.map_some, Option.bind_some, show (1 : Nat) ≤ 1000000 from by omega, forP, e1, e2, e3, e4, e5, List.cons_append, List.nil_append]
    rfl
  · intro n h1 h5
    have : n = 1 ∨ n = 2 ∨ n = 3 ∨ n = 4 ∨ n = 5 := by omega
    rcases this with rfl | rfl | rfl | rfl | rfl
    · exact r1
    · exact r2
    · exact r3
    · exact r4
    · exact r5
end
end G
set_option linter.all false
set_option autoImplicit false
set_option maxRecDepth 100000
set_option maxHeartbeats 2000000
namespace G
open PySem L2
theorem all_true {α : Type} (l : List α) : allD (l.map fun _ => PyData.bool true) = some (.bool true) := by
  rw [allD_m (fun _ => true)]
  simp
theorem law_equal_s (k : Nat) (a b : D) : p__law_equal (k + 1) a b = b__law_equal (p__law_equal k) k a b := rfl
theorem ev_bool (a b : Bool) : PyData.eqv (.bool a) (.bool b) = decide (a = b) := by cases a <;> cases b <;> rfl
theorem eq_bool (k : Nat) (a : Bool) : p__law_equal (k + 1) (.bool a) (.bool a) = some (.bool true) := by
  rw [law_equal_s]
  simp [b__law_equal, Option.bind_some, Option.map_some, Option.bind_none, Option.map_none, bx_some, lx_some, bx_lx, bx, lx, ixO, asQ, asL, asB, asI, tru, notO, andO, orO, un2, un3, un4, slT, mkT, mkL, lenD, rg2, rg3, fAdd, fTT, fI0, fII, fSub, fMulX, fMul, fRep, bMul, bDiv, bMod, bPow, fDiv, fMod, fPow, fLtX, fLeX, fGtX, fGeX, fLt, fLe, fGt, fGe, fIs, fIsNot, fIsB, fNotB, fIsN, fNotN, isN, fNeg, fIx, fAbs, fInt, fBool, fMax2, fMin2, fIsi, tyN, appO, extO, extT, extD, catO, subO, addO, inO, enO, zipO, zipX, afterR, rtD, Option.or, lessK, kit1, kit2, kit3, kit4, kit5, fEq, show SeqAt.shaped (.bool a) = true from rfl, ev_bool]
theorem eq_two (k : Nat) (a c : Bool) : p__law_equal (k + 2) (.list [.bool a, .bool c]) (.list [.bool a, .bool c]) = some (.bool true) := by
  have e1 := eq_bool k a
  have e2 := eq_bool k c
  have e3 : fNe (.int 2) (.int 2) = some (.bool false) := ne_same (W.int 0 2) (by omega)
  have e4 := rg1_n (n := 2) (by omega)
  have e4 : rg1 (.int 2) = some [.int 0, .int 1] := e4
  have h0 : atI [PyData.bool a, PyData.bool c] 0 = some (.bool a) := rfl
  have h1 : atI [PyData.bool a, PyData.bool c] 1 = some (.bool c) := rfl
  rw [law_equal_s]
  simp [b__law_equal, Option.bind_some, Option.map_some, Option.bind_none, Option.map_none, bx_some, lx_some, bx_lx, bx, lx, ixO, asQ, asL, asB, asI, tru, notO, andO, orO, un2, un3, un4, slT, mkT, mkL, lenD, rg2, rg3, fAdd, fTT, fI0, fII, fSub, fMulX, fMul, fRep, bMul, bDiv, bMod, bPow, fDiv, fMod, fPow, fLtX, fLeX, fGtX, fGeX, fLt, fLe, fGt, fGe, fIs, fIsNot, fIsB, fNotB, fIsN, fNotN, isN, fNeg, fIx, fAbs, fInt, fBool, fMax2, fMin2, fIsi, tyN, appO, extO, extT, extD, catO, subO, addO, inO, enO, zipO, zipX, afterR, rtD, Option.or, lessK, kit1, kit2, kit3, kit4, kit5, e3, e4, lcPz, lcP, e1, e2, h0, h1, allD, bools]
theorem in_T {A : List Int} {t : T} {Q : List T} (hn : t.n ≤ 40) (hQ : ∀ u ∈ Q, u.n ≤ 40) : inD t.d (Q.map T.d) = some (decide (t ∈ Q)) := by
  unfold inD
  have w1 : SeqAt.shaped t.d = true := (t.w).sh (by omega)
  have w2 : SeqAt.shaped (.list (Q.map T.d)) = true := (W.list (k := 40) fun x hx => by obtain ⟨u, hu, rfl⟩ := List.mem_map.mp hx; exact u.w.up (hQ u hu)).sh (by omega)
  rw [w1, w2]
  simp only [Bool.and_self, if_true]
  congr 1
  rw [List.any_map, Bool.eq_iff_iff, List.any_eq_true, decide_eq_true_eq]
  constructor
  · rintro ⟨u, hu, e⟩
    have e : PyData.eqv u.d t.d = true := e
    rw [T.ev, decide_eq_true_eq] at e
    exact e ▸ hu
  · intro h
    exact ⟨t, h, by show PyData.eqv t.d t.d = true; rw [T.ev]; simp⟩
theorem klt_total {A : List Int} {t u : T} (o : t.ok A) (o' : u.ok A) : klt u t ↔ t ≠ u ∧ ¬ klt t u := by
  constructor
  · intro h
    exact ⟨fun e => by subst e; exact kle_refl t h, klt_kle h⟩
  · rintro ⟨h1, h2⟩
    exact Classical.byContradiction fun h3 => h1 (kle_anti o o' h3 h2)
section
variable {A : List Int} (hA : Ar A) {Q : List T} (hQ : ∀ t ∈ Q, t.ok A ∧ t.n ≤ 5) (h0 : 0 < Q.length) (h3 : Q.length ≤ 300)
include hA hQ h0 h3
theorem draw_p (k N : Nat) (c : Int) (h1 : 1 ≤ N) (h15 : N ≤ 15) (hk : N ≤ k) (i : Nat) {s : List D} (hs : Stm s) : ∃ (t : T) (s' : List D), t.ok A ∧ t.n ≤ 15 ∧ Stm s' ∧ (bx (lx s (((some (PyData.int i)).bind fun v17 => (some (PyData.int c)).bind fun v18 => fLtX v17 v18).bind asB)) fun v19 s20 => if v19 then (p__law_pick s20 (PyData.list (Q.map T.d))) else (bx (lx s20 (some (PyData.int N))) fun v21 s22 => p__law_tree k s22 (dA A) v21)) = some (t.d, s') := by
  simp only [Option.bind_some, fLtX, fLt, fI0, Option.or, asB, lx_some, bx_some]
  by_cases c : (i : Int) < c
  · obtain ⟨x, s', hx, hs', e⟩ := pick_p hs (rows := .list (Q.map T.d)) rfl (by rw [List.length_map]; exact h0) (by rw [List.length_map]; omega)
    obtain ⟨t, ht, rfl⟩ := List.mem_map.mp hx
    have := hQ t ht
    exact ⟨t, s', this.1, by omega, hs', by rw [decide_eq_true c]; exact e⟩
  · obtain ⟨t, s', o, n, hs', e⟩ := tree_p hA N k s h1 h15 hk hs
    exact ⟨t, s', o, by omega, hs', by rw [decide_eq_false c]; exact e⟩
theorem turn_p (k : Nat) (i : Nat) {s : List D} (hs : Stm s) : ∃ s', l_law_2 (k + 20) (Q.map T.d) (dA A) s (.int i) = some (.nx s') ∧ Stm s' := by
  obtain ⟨t, s1, o, n, hs1, e1⟩ := draw_p hA hQ h0 h3 (k + 20) 15 8 (by omega) (by omega) (by omega) i hs
  obtain ⟨u, s2, o', n', hs2, e2⟩ := draw_p hA hQ h0 h3 (k + 20) 9 6 (by omega) (by omega) (by omega) i hs1
  have b1 := is_before_p hA o o' n n' (k + 20) (by omega)
  have b2 := is_before_p hA o o n n (k + 20) (by omega)
  have b3 := is_before_p hA o' o n' n (k + 20) (by omega)
  have d1 := law_order_p t (k + 20) (by omega) (by omega)
  have d2 := law_order_p u (k + 20) (by omega) (by omega)
  have c1 := skey_lt t u
  have r1 : decide (klt t t) = false := decide_eq_false (kle_refl t)
  rw [r1] at b2
  have q1 := eq_two (k + 18) (decide (klt t u)) false
  have q1 : p__law_equal (k + 20) _ _ = _ := q1
  have ne : fNe t.d u.d = some (.bool (!decide (t = u))) := by
    unfold fNe
    rw [t.w.sh (by omega), u.w.sh (by omega), T.ev]
    rfl
  have last : ((some (PyData.bool (!decide (t = u)))).bind fun b47 => andO b47 ((some (PyData.bool (decide (klt t u)))).bind notO)) = some (.bool (decide (klt u t))) := by
    have := klt_total o o'
    by_cases h1 : t = u
    · have : ¬ klt u t := fun h => (this.mp h).1 h1
      rw [decide_eq_false this, decide_eq_true h1]
      rfl
    · by_cases h2 : klt t u
      · have : ¬ klt u t := fun h => (this.mp h).2 h2
        rw [decide_eq_false this, decide_eq_false h1, decide_eq_true h2]
        rfl
      · rw [decide_eq_true (this.mpr ⟨h1, h2⟩), decide_eq_false h1, decide_eq_false h2]
        rfl
  have same : fNe (.bool (decide (klt u t))) (.bool (decide (klt u t))) = some (.bool false) := ne_same (W.bool 0 _) (by omega)
  refine ⟨s2, ?_, hs2⟩
  have e1 : _ = some (t.d, s1) := e1
  unfold l_law_2
  rw [show (PyData.int 15) = .int ((15 : Nat) : Int) from rfl, e1, bx_some, show (PyData.int 9) = .int ((9 : Nat) : Int) from rfl, e2, bx_some]
  simp only [Option.bind_some] at last
  simp only [Option.bind_some, b1, b2, d1, d2, c1, mkL, List.length_cons, List.length_nil, show (0 + 1 + 1 : Nat) ≤ 1000000 from by omega, if_true, Option.map_some, q1, tru, Bool.not_true, Bool.false_eq_true, if_false, b3, ne, last, same, asB]
end
theorem cat_T (ts us : List T) (h : ts.length + us.length ≤ 1000000) : l_law_1 (ts.map T.d) (.list (us.map T.d)) = some ((ts ++ us).map T.d) := by
  unfold l_law_1
  simp only [Option.bind_some, extD, extO]
  rw [if_pos (by rw [List.length_map, List.length_map]; exact h), Option.bind_some, List.map_append]
theorem law_p (k : Nat) (ns : List Int) : p_law (k + 20) (.list (ns.map .int)) = some (.bool true) := by
  obtain ⟨A, s1, hA, hs1, e1⟩ := arities_p (stm0 ns)
  obtain ⟨R, e2, hR⟩ := law_all_p hA
  have p1 := hR 1 (by omega) (by omega)
  have p2 := hR 2 (by omega) (by omega)
  have p3 := hR 3 (by omega) (by omega)
  have p4 := hR 4 (by omega) (by omega)
  have p5 := hR 5 (by omega) (by omega)
  have l1 : (R 1).length ≤ 4 := p1.1
  have l2 : (R 2).length ≤ 16 := p2.1
  have l3 : (R 3).length ≤ 64 := p3.1
  have l4 : (R 4).length ≤ 512 := p4.1
  have l5 : (R 5).length ≤ 3072 := p5.1
  have f0 : l_law_1 [] (.list []) = some [] := rfl
  have f1 : l_law_1 [] (.list ((R 1).map T.d)) = some ((R 1).map T.d) := cat_T [] (R 1) (by rw [List.length_nil]; omega)
  have f2 := cat_T (R 1) (R 2) (by omega)
  have f3 := cat_T (R 1 ++ R 2) (R 3) (by rw [List.length_append]; omega)
  have f4 := cat_T (R 1 ++ R 2 ++ R 3) (R 4) (by simp only [List.length_append]; omega)
  have f5 := cat_T (R 1 ++ R 2 ++ R 3 ++ R 4) (R 5) (by simp only [List.length_append]; omega)
  obtain ⟨Q, hQd⟩ : ∃ Q, Q = (R 1 ++ R 2 ++ R 3 ++ R 4 ++ R 5).take 300 := ⟨_, rfl⟩
  have c0 : cut ((R 1 ++ R 2 ++ R 3 ++ R 4 ++ R 5).map T.d) none (some 300) = Q.map T.d := by
    have := cut_to ((R 1 ++ R 2 ++ R 3 ++ R 4 ++ R 5).map T.d) 300
    rw [hQd, List.map_take]
    exact this
  have hQ : ∀ t ∈ Q, t.ok A ∧ t.n ≤ 5 := by
    intro t ht
    rw [hQd] at ht
    have ht := List.mem_of_mem_take ht
    simp only [List.mem_append] at ht
    rcases ht with (((ht | ht) | ht) | ht) | ht
    · have := (p1.2 t).mp ht; exact ⟨this.1, by omega⟩
    · have := (p2.2 t).mp ht; exact ⟨this.1, by omega⟩
    · have := (p3.2 t).mp ht; exact ⟨this.1, by omega⟩
    · have := (p4.2 t).mp ht; exact ⟨this.1, by omega⟩
    · have := (p5.2 t).mp ht; exact ⟨this.1, by omega⟩
  have hsm : ∀ t : T, t.ok A → t.n ≤ 3 → t ∈ Q := by
    intro t o hn
    have : t ∈ R 1 ++ R 2 ++ R 3 := by
      have := t.n_pos
      have : t.n = 1 ∨ t.n = 2 ∨ t.n = 3 := by omega
      simp only [List.mem_append]
      rcases this with h | h | h
      · exact .inl (.inl ((p1.2 t).mpr ⟨o, h, T.sym_lt o⟩))
      · exact .inl (.inr ((p2.2 t).mpr ⟨o, h, T.sym_lt o⟩))
      · exact .inr ((p3.2 t).mpr ⟨o, h, T.sym_lt o⟩)
    rw [hQd, List.append_assoc, List.take_append, List.take_of_length_le (by simp only [List.length_append]; omega)]
    exact List.mem_append_left _ this
  have h3 : Q.length ≤ 300 := by rw [hQd]; exact List.length_take_le _ _
  have h0 : 0 < Q.length := by
    obtain ⟨i, hi⟩ := hA.leaf
    exact List.length_pos_of_mem (hsm (.l i) hi (by simp [T.n]))
  obtain ⟨s2, e3, hs2⟩ := forR_all (oY := some) (f := l_law_2 (k + 20) (Q.map T.d) (dA A)) (I := Stm) ((List.range 12).map fun (i : Nat) => PyData.int (i : Int)) s1 hs1 (fun x hx s hs => by
    obtain ⟨i, hi, rfl⟩ := List.mem_map.mp hx
    obtain ⟨s', e, hs'⟩ := turn_p hA hQ h0 h3 k i hs
    exact ⟨_, s', rfl, e, hs'⟩)
  obtain ⟨t, s3, o, n, hs3, e4⟩ := tree_p hA 3 (k + 20) s2 (by omega) (by omega) (by omega) hs2
  have e4 : p__law_tree (k + 20) s2 (dA A) (.int 3) = some (t.d, s3) := e4
  have e5 := lcVz_m (oY := some) (ot := fun _ => some true) (oe := fun y57 => p_is_tree (dA A) y57) T.d T.d (fun _ => .bool true) Q (by omega) (fun _ _ => rfl) (fun _ _ => rfl) (fun u hu => is_tree_good_p (hQ u hu).1 (by have := (hQ u hu).2; omega))
  have e6 := in_T (A := A) (t := t) (Q := Q) (by omega) (fun u hu => by have := (hQ u hu).2; omega)
  rw [decide_eq_true (hsm t o n)] at e6
  have e7 : rg1 (.int 12) = some ((List.range 12).map fun (i : Nat) => PyData.int (i : Int)) := rg1_n (n := 12) (by omega)
  unfold p_law
  rw [stream_p]
  simp only [Option.bind_some, e1, bx_some, mkL, List.length_nil, Nat.zero_le, if_true, e2, Option.map_some, asQ_l, forP, f0, f1, f2, f3, f4, f5, asI, c0, e7]
  rw [e3]
  simp only [Option.bind_some, afterR, lx_some, bx_some, e4]
  rw [e5]
  simp only [Option.bind_some, all_true, andO, inO, e6, Option.map_some]
abbrev LV : Nat := 60
theorem law_true (ns : List Int) (_ : ns.length ≤ 63) : ∃ S', (lev LV).law [.d (.list (ns.map .int))] [] = some (.val (.bool true), S') :=
  ⟨_, c_law 20 60 (by omega) [] [.d (.list (ns.map .int))] [.d (.list (ns.map .int))] ⟨_, rfl, rfl⟩ List.nodup_nil (fun n hn => by cases hn) _ (law_p 0 ns)⟩
end G
set_option Elab.async false
set_option linter.all false
set_option autoImplicit false
set_option maxRecDepth 100000
set_option maxHeartbeats 4000000
namespace G
open PySem L2
structure Facts (K : PySem.W.Frag) (mg : Str → Option Value) where
  et : ET
  a_require : Addr
  fd_require : FuncData
  F_require : Fun K "require" "require" s_require a_require fd_require
  g_require : mg "require" = some (.ref a_require)
  b_require : Binds K fd_require ["holds", "name"] []
  a_is_integer : Addr
  fd_is_integer : FuncData
  F_is_integer : Fun K "is_integer" "is_integer" s_is_integer a_is_integer fd_is_integer
  g_is_integer : mg "is_integer" = some (.ref a_is_integer)
  b_is_integer : Binds K fd_is_integer ["value", "least", "most"] []
  a_is_tuple : Addr
  fd_is_tuple : FuncData
  F_is_tuple : Fun K "is_tuple" "is_tuple" s_is_tuple a_is_tuple fd_is_tuple
  g_is_tuple : mg "is_tuple" = some (.ref a_is_tuple)
  b_is_tuple : Binds K fd_is_tuple ["value", "least", "most"] []
  a_are_integers : Addr
  fd_are_integers : FuncData
  F_are_integers : Fun K "are_integers" "are_integers" s_are_integers a_are_integers fd_are_integers
  g_are_integers : mg "are_integers" = some (.ref a_are_integers)
  b_are_integers : Binds K fd_are_integers ["values", "least", "most"] []
  a_is_tree_form : Addr
  fd_is_tree_form : FuncData
  F_is_tree_form : Fun K "is_tree_form" "is_tree_form" s_is_tree_form a_is_tree_form fd_is_tree_form
  g_is_tree_form : mg "is_tree_form" = some (.ref a_is_tree_form)
  b_is_tree_form : Binds K fd_is_tree_form ["arities", "value", "with_holes"] []
  a__is_node : Addr
  fd__is_node : FuncData
  F__is_node : Fun K "_is_node" "_is_node" s__is_node a__is_node fd__is_node
  g__is_node : mg "_is_node" = some (.ref a__is_node)
  b__is_node : Binds K fd__is_node ["arities", "value"] []
  a_size_of : Addr
  fd_size_of : FuncData
  F_size_of : Fun K "size_of" "size_of" s_size_of a_size_of fd_size_of
  g_size_of : mg "size_of" = some (.ref a_size_of)
  b_size_of : Binds K fd_size_of ["tree"] []
  a_order_key : Addr
  fd_order_key : FuncData
  F_order_key : Fun K "order_key" "order_key" s_order_key a_order_key fd_order_key
  g_order_key : mg "order_key" = some (.ref a_order_key)
  b_order_key : Binds K fd_order_key ["tree"] []
  a_is_arities : Addr
  fd_is_arities : FuncData
  F_is_arities : Fun K "is_arities" "is_arities" s_is_arities a_is_arities fd_is_arities
  g_is_arities : mg "is_arities" = some (.ref a_is_arities)
  b_is_arities : Binds K fd_is_arities ["value"] []
  a_is_tree : Addr
  fd_is_tree : FuncData
  F_is_tree : Fun K "is_tree" "is_tree" s_is_tree a_is_tree fd_is_tree
  g_is_tree : mg "is_tree" = some (.ref a_is_tree)
  b_is_tree : Binds K fd_is_tree ["arities", "value"] []
  a__require_tree : Addr
  fd__require_tree : FuncData
  F__require_tree : Fun K "_require_tree" "_require_tree" s__require_tree a__require_tree fd__require_tree
  g__require_tree : mg "_require_tree" = some (.ref a__require_tree)
  b__require_tree : Binds K fd__require_tree ["arities", "tree", "name"] []
  a__require_two : Addr
  fd__require_two : FuncData
  F__require_two : Fun K "_require_two" "_require_two" s__require_two a__require_two fd__require_two
  g__require_two : mg "_require_two" = some (.ref a__require_two)
  b__require_two : Binds K fd__require_two ["arities", "first", "second"] []
  a_is_before : Addr
  fd_is_before : FuncData
  F_is_before : Fun K "is_before" "is_before" s_is_before a_is_before fd_is_before
  g_is_before : mg "is_before" = some (.ref a_is_before)
  b_is_before : Binds K fd_is_before ["arities", "first", "second"] []
  a__law_stream : Addr
  fd__law_stream : FuncData
  F__law_stream : Fun K "_law_stream" "_law_stream" s__law_stream a__law_stream fd__law_stream
  g__law_stream : mg "_law_stream" = some (.ref a__law_stream)
  b__law_stream : Binds K fd__law_stream ["script"] []
  a__law_next : Addr
  fd__law_next : FuncData
  F__law_next : Fun K "_law_next" "_law_next" s__law_next a__law_next fd__law_next
  g__law_next : mg "_law_next" = some (.ref a__law_next)
  b__law_next : Binds K fd__law_next ["stream", "many"] []
  a__law_is_integer : Addr
  fd__law_is_integer : FuncData
  F__law_is_integer : Fun K "_law_is_integer" "_law_is_integer" s__law_is_integer a__law_is_integer fd__law_is_integer
  g__law_is_integer : mg "_law_is_integer" = some (.ref a__law_is_integer)
  b__law_is_integer : Binds K fd__law_is_integer ["actual"] []
  a__law_equal : Addr
  fd__law_equal : FuncData
  F__law_equal : Fun K "_law_equal" "_law_equal" s__law_equal a__law_equal fd__law_equal
  g__law_equal : mg "_law_equal" = some (.ref a__law_equal)
  b__law_equal : Binds K fd__law_equal ["actual", "due"] []
  a__law_pick : Addr
  fd__law_pick : FuncData
  F__law_pick : Fun K "_law_pick" "_law_pick" s__law_pick a__law_pick fd__law_pick
  g__law_pick : mg "_law_pick" = some (.ref a__law_pick)
  b__law_pick : Binds K fd__law_pick ["stream", "rows"] []
  a__law_arities : Addr
  fd__law_arities : FuncData
  F__law_arities : Fun K "_law_arities" "_law_arities" s__law_arities a__law_arities fd__law_arities
  g__law_arities : mg "_law_arities" = some (.ref a__law_arities)
  b__law_arities : Binds K fd__law_arities ["stream"] []
  a__law_tree : Addr
  fd__law_tree : FuncData
  F__law_tree : Fun K "_law_tree" "_law_tree" s__law_tree a__law_tree fd__law_tree
  g__law_tree : mg "_law_tree" = some (.ref a__law_tree)
  b__law_tree : Binds K fd__law_tree ["stream", "arities", "nodes"] []
  a__law_size : Addr
  fd__law_size : FuncData
  F__law_size : Fun K "_law_size" "_law_size" s__law_size a__law_size fd__law_size
  g__law_size : mg "_law_size" = some (.ref a__law_size)
  b__law_size : Binds K fd__law_size ["tree"] []
  a__law_spots : Addr
  fd__law_spots : FuncData
  F__law_spots : Fun K "_law_spots" "_law_spots" s__law_spots a__law_spots fd__law_spots
  g__law_spots : mg "_law_spots" = some (.ref a__law_spots)
  b__law_spots : Binds K fd__law_spots ["tree"] []
  a__law_order : Addr
  fd__law_order : FuncData
  F__law_order : Fun K "_law_order" "_law_order" s__law_order a__law_order fd__law_order
  g__law_order : mg "_law_order" = some (.ref a__law_order)
  b__law_order : Binds K fd__law_order ["tree"] []
  a__law_all : Addr
  fd__law_all : FuncData
  F__law_all : Fun K "_law_all" "_law_all" s__law_all a__law_all fd__law_all
  g__law_all : mg "_law_all" = some (.ref a__law_all)
  b__law_all : Binds K fd__law_all ["arities", "most"] []
  a_law : Addr
  fd_law : FuncData
  F_law : Fun K "law" "law" s_law a_law fd_law
  g_law : mg "law" = some (.ref a_law)
  b_law : Binds K fd_law ["script"] []
  z_isinstance : mg "isinstance" = none
  z_int : mg "int" = none
  z_bool : mg "bool" = none
  z_tuple : mg "tuple" = none
  z_len : mg "len" = none
  z_all : mg "all" = none
  z_sum : mg "sum" = none
  z_list : mg "list" = none
  z_abs : mg "abs" = none
  z_str : mg "str" = none
  z_range : mg "range" = none
  t_MOST_NODES : Tok
  c_MOST_NODES : mg "MOST_NODES" = some (.int 15 t_MOST_NODES)
  t_MOST_CHILDREN : Tok
  c_MOST_CHILDREN : mg "MOST_CHILDREN" = some (.int 2 t_MOST_CHILDREN)
  t_MOST_SYMBOLS : Tok
  c_MOST_SYMBOLS : mg "MOST_SYMBOLS" = some (.int 4 t_MOST_SYMBOLS)
section
variable {P : Program} {w : World} {K : PySem.W.Frag} {mg : Str → Option Value} {base : Heap}
structure AllOk (P : Program) (w : World) (K : PySem.W.Frag) (mg : Str → Option Value) (base : Heap) (T : Facts K mg) (n : Nat) : Prop where
  h_require : FnOk P w K mg base (L2.CX P w) (n + 2) T.a_require T.fd_require ["holds", "name"] (spD K T.et 2 (lev n).require)
  h_is_integer : FnOk P w K mg base (L2.CX P w) (n + 2) T.a_is_integer T.fd_is_integer ["value", "least", "most"] (spD K T.et 3 (lev n).is_integer)
  h_is_tuple : FnOk P w K mg base (L2.CX P w) (n + 2) T.a_is_tuple T.fd_is_tuple ["value", "least", "most"] (spD K T.et 3 (lev n).is_tuple)
  h_are_integers : FnOk P w K mg base (L2.CX P w) (n + 2) T.a_are_integers T.fd_are_integers ["values", "least", "most"] (spD K T.et 3 (lev n).are_integers)
  h_is_tree_form : FnOk P w K mg base (L2.CX P w) (n + 2) T.a_is_tree_form T.fd_is_tree_form ["arities", "value", "with_holes"] (spD K T.et 3 (lev n).is_tree_form)
  h__is_node : FnOk P w K mg base (L2.CX P w) (n + 2) T.a__is_node T.fd__is_node ["arities", "value"] (spD K T.et 2 (lev n)._is_node)
  h_size_of : FnOk P w K mg base (L2.CX P w) (n + 2) T.a_size_of T.fd_size_of ["tree"] (spD K T.et 1 (lev n).size_of)
  h_order_key : FnOk P w K mg base (L2.CX P w) (n + 2) T.a_order_key T.fd_order_key ["tree"] (spD K T.et 1 (lev n).order_key)
  h_is_arities : FnOk P w K mg base (L2.CX P w) (n + 2) T.a_is_arities T.fd_is_arities ["value"] (spD K T.et 1 (lev n).is_arities)
  h_is_tree : FnOk P w K mg base (L2.CX P w) (n + 2) T.a_is_tree T.fd_is_tree ["arities", "value"] (spD K T.et 2 (lev n).is_tree)
  h__require_tree : FnOk P w K mg base (L2.CX P w) (n + 2) T.a__require_tree T.fd__require_tree ["arities", "tree", "name"] (spD K T.et 3 (lev n)._require_tree)
  h__require_two : FnOk P w K mg base (L2.CX P w) (n + 2) T.a__require_two T.fd__require_two ["arities", "first", "second"] (spD K T.et 3 (lev n)._require_two)
  h_is_before : FnOk P w K mg base (L2.CX P w) (n + 2) T.a_is_before T.fd_is_before ["arities", "first", "second"] (spD K T.et 3 (lev n).is_before)
  h__law_stream : FnOk P w K mg base (L2.CX P w) (n + 2) T.a__law_stream T.fd__law_stream ["script"] (spD K T.et 1 (lev n)._law_stream)
  h__law_next : FnOk P w K mg base (L2.CX P w) (n + 2) T.a__law_next T.fd__law_next ["stream", "many"] (spD K T.et 2 (lev n)._law_next)
  h__law_is_integer : FnOk P w K mg base (L2.CX P w) (n + 2) T.a__law_is_integer T.fd__law_is_integer ["actual"] (spD K T.et 1 (lev n)._law_is_integer)
  h__law_equal : FnOk P w K mg base (L2.CX P w) (n + 2) T.a__law_equal T.fd__law_equal ["actual", "due"] (spD K T.et 2 (lev n)._law_equal)
  h__law_pick : FnOk P w K mg base (L2.CX P w) (n + 2) T.a__law_pick T.fd__law_pick ["stream", "rows"] (spD K T.et 2 (lev n)._law_pick)
  h__law_arities : FnOk P w K mg base (L2.CX P w) (n + 2) T.a__law_arities T.fd__law_arities ["stream"] (spD K T.et 1 (lev n)._law_arities)
  h__law_tree : FnOk P w K mg base (L2.CX P w) (n + 2) T.a__law_tree T.fd__law_tree ["stream", "arities", "nodes"] (spD K T.et 3 (lev n)._law_tree)
  h__law_size : FnOk P w K mg base (L2.CX P w) (n + 2) T.a__law_size T.fd__law_size ["tree"] (spD K T.et 1 (lev n)._law_size)
  h__law_spots : FnOk P w K mg base (L2.CX P w) (n + 2) T.a__law_spots T.fd__law_spots ["tree"] (spD K T.et 1 (lev n)._law_spots)
  h__law_order : FnOk P w K mg base (L2.CX P w) (n + 2) T.a__law_order T.fd__law_order ["tree"] (spD K T.et 1 (lev n)._law_order)
  h__law_all : FnOk P w K mg base (L2.CX P w) (n + 2) T.a__law_all T.fd__law_all ["arities", "most"] (spD K T.et 2 (lev n)._law_all)
  h_law : FnOk P w K mg base (L2.CX P w) (n + 2) T.a_law T.fd_law ["script"] (spD K T.et 1 (lev n).law)
theorem all_ok (T : Facts K mg) : ∀ n : Nat, AllOk P w K mg base T n
  | 0 => ⟨def_0 fun _ _ => rfl, def_0 fun _ _ => rfl, def_0 fun _ _ => rfl, def_0 fun _ _ => rfl, def_0 fun _ _ => rfl, def_0 fun _ _ => rfl, def_0 fun _ _ => rfl, def_0 fun _ _ => rfl, def_0 fun _ _ => rfl, def_0 fun _ _ => rfl, def_0 fun _ _ => rfl, def_0 fun _ _ => rfl, def_0 fun _ _ => rfl, def_0 fun _ _ => rfl, def_0 fun _ _ => rfl, def_0 fun _ _ => rfl, def_0 fun _ _ => rfl, def_0 fun _ _ => rfl, def_0 fun _ _ => rfl, def_0 fun _ _ => rfl, def_0 fun _ _ => rfl, def_0 fun _ _ => rfl, def_0 fun _ _ => rfl, def_0 fun _ _ => rfl, def_0 fun _ _ => rfl⟩
  | n + 1 =>
    have ih := all_ok T n
    ⟨ok_require T.F_require,
     ok_is_integer T.F_is_integer T.z_isinstance T.z_int T.z_bool,
     ok_is_tuple T.F_is_tuple T.z_isinstance T.z_tuple T.z_len,
     ok_are_integers T.F_are_integers ih.h_is_integer T.g_is_integer T.F_is_integer.kp T.b_is_integer T.z_all,
     ok_is_tree_form T.F_is_tree_form ih.h__is_node T.g__is_node T.F__is_node.kp T.b__is_node T.c_MOST_NODES,
     ok__is_node T.F__is_node ih.h_is_tuple T.g_is_tuple T.F_is_tuple.kp T.b_is_tuple ih.h_is_integer T.g_is_integer T.F_is_integer.kp T.b_is_integer T.z_len T.c_MOST_CHILDREN,
     ok_size_of T.F_size_of ih.h_size_of T.g_size_of T.F_size_of.kp T.b_size_of T.z_sum,
     ok_order_key T.F_order_key ih.h_size_of T.g_size_of T.F_size_of.kp T.b_size_of,
     ok_is_arities T.F_is_arities ih.h_is_tuple T.g_is_tuple T.F_is_tuple.kp T.b_is_tuple ih.h_are_integers T.g_are_integers T.F_are_integers.kp T.b_are_integers T.c_MOST_SYMBOLS T.c_MOST_CHILDREN,
     ok_is_tree T.F_is_tree ih.h_is_tree_form T.g_is_tree_form T.F_is_tree_form.kp T.b_is_tree_form,
     ok__require_tree T.F__require_tree ih.h_require T.g_require T.F_require.kp T.b_require ih.h_is_arities T.g_is_arities T.F_is_arities.kp T.b_is_arities ih.h_is_tree T.g_is_tree T.F_is_tree.kp T.b_is_tree,
     ok__require_two T.F__require_two ih.h__require_tree T.g__require_tree T.F__require_tree.kp T.b__require_tree ih.h_require T.g_require T.F_require.kp T.b_require ih.h_is_tree T.g_is_tree T.F_is_tree.kp T.b_is_tree,
     ok_is_before T.F_is_before ih.h__require_two T.g__require_two T.F__require_two.kp T.b__require_two ih.h_order_key T.g_order_key T.F_order_key.kp T.b_order_key,
     ok__law_stream T.F__law_stream T.z_list,
     ok__law_next T.F__law_next T.z_len T.z_abs T.z_int,
     ok__law_is_integer T.F__law_is_integer T.z_isinstance T.z_int T.z_bool,
     ok__law_equal T.F__law_equal ih.h__law_is_integer T.g__law_is_integer T.F__law_is_integer.kp T.b__law_is_integer ih.h__law_equal T.g__law_equal T.F__law_equal.kp T.b__law_equal T.z_isinstance T.z_bool T.z_int T.z_str T.z_tuple T.z_list T.z_len T.z_all T.z_range,
     ok__law_pick T.F__law_pick ih.h__law_next T.g__law_next T.F__law_next.kp T.b__law_next T.z_len,
     ok__law_arities T.F__law_arities ih.h__law_pick T.g__law_pick T.F__law_pick.kp T.b__law_pick,
     ok__law_tree T.F__law_tree ih.h__law_next T.g__law_next T.F__law_next.kp T.b__law_next ih.h__law_pick T.g__law_pick T.F__law_pick.kp T.b__law_pick ih.h__law_tree T.g__law_tree T.F__law_tree.kp T.b__law_tree T.z_range T.z_len,
     ok__law_size T.F__law_size ih.h__law_size T.g__law_size T.F__law_size.kp T.b__law_size T.z_sum,
     ok__law_spots T.F__law_spots ih.h__law_spots T.g__law_spots T.F__law_spots.kp T.b__law_spots T.z_range T.z_len,
     ok__law_order T.F__law_order ih.h__law_spots T.g__law_spots T.F__law_spots.kp T.b__law_spots ih.h__law_size T.g__law_size T.F__law_size.kp T.b__law_size T.z_tuple,
     ok__law_all T.F__law_all T.z_range T.z_len,
     ok_law T.F_law ih.h__law_stream T.g__law_stream T.F__law_stream.kp T.b__law_stream ih.h__law_arities T.g__law_arities T.F__law_arities.kp T.b__law_arities ih.h__law_all T.g__law_all T.F__law_all.kp T.b__law_all ih.h__law_pick T.g__law_pick T.F__law_pick.kp T.b__law_pick ih.h__law_tree T.g__law_tree T.F__law_tree.kp T.b__law_tree ih.h__law_equal T.g__law_equal T.F__law_equal.kp T.b__law_equal ih.h__law_order T.g__law_order T.F__law_order.kp T.b__law_order ih.h_is_before T.g_is_before T.F_is_before.kp T.b_is_before ih.h_is_tree T.g_is_tree T.F_is_tree.kp T.b_is_tree T.z_range T.z_all⟩
def spLaw (K : PySem.W.Frag) : Sp := fun vs H Q _ => ∃ (a : Addr) (ns : List Int), vs = [.ref a] ∧ SqL K H a (ns.map V.int) ∧ ns.length ≤ 63 ∧ ∀ H', Q (.bl true) H'
theorem rl_ints {M : Adr} {H : Hp} : ∀ ns : List Int, RlA K M H (ns.map V.int) (ns.map PyData.int)
  | [] => .nil
  | n :: r => .cons (.int n) (rl_ints r)
theorem Ok.empty {H : Hp} : Ok K ⟨[], []⟩ [] H where
  len := rfl
  inj := fun i j a h _ => by simp at h
  cell := fun n xs h => by simp at h
  lst := fun a h => by rcases h with h | h <;> cases h
  dj := fun a h => by cases h
theorem law_sp (LV : Nat) (hm : ∀ ns : List Int, ns.length ≤ 63 → ∃ S', (lev LV).law [.d (.list (ns.map .int))] [] = some (.val (.bool true), S')) (vs : List V) (H : Hp) (Q : VK) (E : XK) (T : ET) (h : spLaw K vs H Q E) : spD K T 1 (lev LV).law vs H Q E := by
  obtain ⟨a, ns, rfl, hS, hl, q⟩ := h
  obtain ⟨S', e⟩ := hm ns hl
  refine ⟨rfl, ⟨[], []⟩, [], [.d (.list (ns.map .int))], _, S', Ok.empty, .cons ?_ .nil, e, fun v H' M' x ok r => ?_⟩
  · refine Rl.lst ?_ (rl_ints ns)
    rcases hS with hS | hS
    · exact .inl ⟨hS, fun z => by rcases z with z | z <;> cases z⟩
    · exact .inr (.inr hS)
  · cases r
    exact q H'
end
theorem all_mk (LV : Nat) (hm : ∀ ns : List Int, ns.length ≤ 63 → ∃ S', (lev LV).law [.d (.list (ns.map .int))] [] = some (.val (.bool true), S')) {l : PySem.W.OpenLaw} {w : World} {K : PySem.W.Frag} {h : Heap} {mg : Str → Option Value} {fa : Addr} (X : K.In h) (hG : h.Ns mainGlobals mg) (hfa : mg "law" = some (.ref fa))
    {f_require : Addr} {od_require an_require : Option Addr} {sl_require : Array (Option Value)} {oc_require kV_require dc_require pm_require cd_require ct_require : Value} (a_require : PySem.W.nsIn K mainGlobals "require" = some (some (.ref f_require))) (l_require : K.lookup f_require = some ⟨oc_require, od_require, .func (PySem.W.fnOf "require" "require" (defArgs s_require) (defBody s_require) (defScope s_require) .none kV_require dc_require pm_require an_require cd_require ct_require), sl_require⟩) (c_require : PySem.W.codeIn K cd_require "require" = true) (k_require : PySem.W.keepIn K (.ref f_require) = true)
    {f_is_integer : Addr} {od_is_integer an_is_integer : Option Addr} {sl_is_integer : Array (Option Value)} {oc_is_integer kV_is_integer dc_is_integer pm_is_integer cd_is_integer ct_is_integer : Value} (a_is_integer : PySem.W.nsIn K mainGlobals "is_integer" = some (some (.ref f_is_integer))) (l_is_integer : K.lookup f_is_integer = some ⟨oc_is_integer, od_is_integer, .func (PySem.W.fnOf "is_integer" "is_integer" (defArgs s_is_integer) (defBody s_is_integer) (defScope s_is_integer) .none kV_is_integer dc_is_integer pm_is_integer an_is_integer cd_is_integer ct_is_integer), sl_is_integer⟩) (c_is_integer : PySem.W.codeIn K cd_is_integer "is_integer" = true) (k_is_integer : PySem.W.keepIn K (.ref f_is_integer) = true)
    {f_is_tuple : Addr} {od_is_tuple an_is_tuple : Option Addr} {sl_is_tuple : Array (Option Value)} {oc_is_tuple kV_is_tuple dc_is_tuple pm_is_tuple cd_is_tuple ct_is_tuple : Value} (a_is_tuple : PySem.W.nsIn K mainGlobals "is_tuple" = some (some (.ref f_is_tuple))) (l_is_tuple : K.lookup f_is_tuple = some ⟨oc_is_tuple, od_is_tuple, .func (PySem.W.fnOf "is_tuple" "is_tuple" (defArgs s_is_tuple) (defBody s_is_tuple) (defScope s_is_tuple) .none kV_is_tuple dc_is_tuple pm_is_tuple an_is_tuple cd_is_tuple ct_is_tuple), sl_is_tuple⟩) (c_is_tuple : PySem.W.codeIn K cd_is_tuple "is_tuple" = true) (k_is_tuple : PySem.W.keepIn K (.ref f_is_tuple) = true)
    {f_are_integers : Addr} {od_are_integers an_are_integers : Option Addr} {sl_are_integers : Array (Option Value)} {oc_are_integers kV_are_integers dc_are_integers pm_are_integers cd_are_integers ct_are_integers : Value} (a_are_integers : PySem.W.nsIn K mainGlobals "are_integers" = some (some (.ref f_are_integers))) (l_are_integers : K.lookup f_are_integers = some ⟨oc_are_integers, od_are_integers, .func (PySem.W.fnOf "are_integers" "are_integers" (defArgs s_are_integers) (defBody s_are_integers) (defScope s_are_integers) .none kV_are_integers dc_are_integers pm_are_integers an_are_integers cd_are_integers ct_are_integers), sl_are_integers⟩) (c_are_integers : PySem.W.codeIn K cd_are_integers "are_integers" = true) (k_are_integers : PySem.W.keepIn K (.ref f_are_integers) = true)
    {f_is_tree_form : Addr} {od_is_tree_form an_is_tree_form : Option Addr} {sl_is_tree_form : Array (Option Value)} {oc_is_tree_form kV_is_tree_form dc_is_tree_form pm_is_tree_form cd_is_tree_form ct_is_tree_form : Value} (a_is_tree_form : PySem.W.nsIn K mainGlobals "is_tree_form" = some (some (.ref f_is_tree_form))) (l_is_tree_form : K.lookup f_is_tree_form = some ⟨oc_is_tree_form, od_is_tree_form, .func (PySem.W.fnOf "is_tree_form" "is_tree_form" (defArgs s_is_tree_form) (defBody s_is_tree_form) (defScope s_is_tree_form) .none kV_is_tree_form dc_is_tree_form pm_is_tree_form an_is_tree_form cd_is_tree_form ct_is_tree_form), sl_is_tree_form⟩) (c_is_tree_form : PySem.W.codeIn K cd_is_tree_form "is_tree_form" = true) (k_is_tree_form : PySem.W.keepIn K (.ref f_is_tree_form) = true)
    {f__is_node : Addr} {od__is_node an__is_node : Option Addr} {sl__is_node : Array (Option Value)} {oc__is_node kV__is_node dc__is_node pm__is_node cd__is_node ct__is_node : Value} (a__is_node : PySem.W.nsIn K mainGlobals "_is_node" = some (some (.ref f__is_node))) (l__is_node : K.lookup f__is_node = some ⟨oc__is_node, od__is_node, .func (PySem.W.fnOf "_is_node" "_is_node" (defArgs s__is_node) (defBody s__is_node) (defScope s__is_node) .none kV__is_node dc__is_node pm__is_node an__is_node cd__is_node ct__is_node), sl__is_node⟩) (c__is_node : PySem.W.codeIn K cd__is_node "_is_node" = true) (k__is_node : PySem.W.keepIn K (.ref f__is_node) = true)
    {f_size_of : Addr} {od_size_of an_size_of : Option Addr} {sl_size_of : Array (Option Value)} {oc_size_of kV_size_of dc_size_of pm_size_of cd_size_of ct_size_of : Value} (a_size_of : PySem.W.nsIn K mainGlobals "size_of" = some (some (.ref f_size_of))) (l_size_of : K.lookup f_size_of = some ⟨oc_size_of, od_size_of, .func (PySem.W.fnOf "size_of" "size_of" (defArgs s_size_of) (defBody s_size_of) (defScope s_size_of) .none kV_size_of dc_size_of pm_size_of an_size_of cd_size_of ct_size_of), sl_size_of⟩) (c_size_of : PySem.W.codeIn K cd_size_of "size_of" = true) (k_size_of : PySem.W.keepIn K (.ref f_size_of) = true)
    {f_order_key : Addr} {od_order_key an_order_key : Option Addr} {sl_order_key : Array (Option Value)} {oc_order_key kV_order_key dc_order_key pm_order_key cd_order_key ct_order_key : Value} (a_order_key : PySem.W.nsIn K mainGlobals "order_key" = some (some (.ref f_order_key))) (l_order_key : K.lookup f_order_key = some ⟨oc_order_key, od_order_key, .func (PySem.W.fnOf "order_key" "order_key" (defArgs s_order_key) (defBody s_order_key) (defScope s_order_key) .none kV_order_key dc_order_key pm_order_key an_order_key cd_order_key ct_order_key), sl_order_key⟩) (c_order_key : PySem.W.codeIn K cd_order_key "order_key" = true) (k_order_key : PySem.W.keepIn K (.ref f_order_key) = true)
    {f_is_arities : Addr} {od_is_arities an_is_arities : Option Addr} {sl_is_arities : Array (Option Value)} {oc_is_arities kV_is_arities dc_is_arities pm_is_arities cd_is_arities ct_is_arities : Value} (a_is_arities : PySem.W.nsIn K mainGlobals "is_arities" = some (some (.ref f_is_arities))) (l_is_arities : K.lookup f_is_arities = some ⟨oc_is_arities, od_is_arities, .func (PySem.W.fnOf "is_arities" "is_arities" (defArgs s_is_arities) (defBody s_is_arities) (defScope s_is_arities) .none kV_is_arities dc_is_arities pm_is_arities an_is_arities cd_is_arities ct_is_arities), sl_is_arities⟩) (c_is_arities : PySem.W.codeIn K cd_is_arities "is_arities" = true) (k_is_arities : PySem.W.keepIn K (.ref f_is_arities) = true)
    {f_is_tree : Addr} {od_is_tree an_is_tree : Option Addr} {sl_is_tree : Array (Option Value)} {oc_is_tree kV_is_tree dc_is_tree pm_is_tree cd_is_tree ct_is_tree : Value} (a_is_tree : PySem.W.nsIn K mainGlobals "is_tree" = some (some (.ref f_is_tree))) (l_is_tree : K.lookup f_is_tree = some ⟨oc_is_tree, od_is_tree, .func (PySem.W.fnOf "is_tree" "is_tree" (defArgs s_is_tree) (defBody s_is_tree) (defScope s_is_tree) .none kV_is_tree dc_is_tree pm_is_tree an_is_tree cd_is_tree ct_is_tree), sl_is_tree⟩) (c_is_tree : PySem.W.codeIn K cd_is_tree "is_tree" = true) (k_is_tree : PySem.W.keepIn K (.ref f_is_tree) = true)
    {f__require_tree : Addr} {od__require_tree an__require_tree : Option Addr} {sl__require_tree : Array (Option Value)} {oc__require_tree kV__require_tree dc__require_tree pm__require_tree cd__require_tree ct__require_tree : Value} (a__require_tree : PySem.W.nsIn K mainGlobals "_require_tree" = some (some (.ref f__require_tree))) (l__require_tree : K.lookup f__require_tree = some ⟨oc__require_tree, od__require_tree, .func (PySem.W.fnOf "_require_tree" "_require_tree" (defArgs s__require_tree) (defBody s__require_tree) (defScope s__require_tree) .none kV__require_tree dc__require_tree pm__require_tree an__require_tree cd__require_tree ct__require_tree), sl__require_tree⟩) (c__require_tree : PySem.W.codeIn K cd__require_tree "_require_tree" = true) (k__require_tree : PySem.W.keepIn K (.ref f__require_tree) = true)
    {f__require_two : Addr} {od__require_two an__require_two : Option Addr} {sl__require_two : Array (Option Value)} {oc__require_two kV__require_two dc__require_two pm__require_two cd__require_two ct__require_two : Value} (a__require_two : PySem.W.nsIn K mainGlobals "_require_two" = some (some (.ref f__require_two))) (l__require_two : K.lookup f__require_two = some ⟨oc__require_two, od__require_two, .func (PySem.W.fnOf "_require_two" "_require_two" (defArgs s__require_two) (defBody s__require_two) (defScope s__require_two) .none kV__require_two dc__require_two pm__require_two an__require_two cd__require_two ct__require_two), sl__require_two⟩) (c__require_two : PySem.W.codeIn K cd__require_two "_require_two" = true) (k__require_two : PySem.W.keepIn K (.ref f__require_two) = true)
    {f_is_before : Addr} {od_is_before an_is_before : Option Addr} {sl_is_before : Array (Option Value)} {oc_is_before kV_is_before dc_is_before pm_is_before cd_is_before ct_is_before : Value} (a_is_before : PySem.W.nsIn K mainGlobals "is_before" = some (some (.ref f_is_before))) (l_is_before : K.lookup f_is_before = some ⟨oc_is_before, od_is_before, .func (PySem.W.fnOf "is_before" "is_before" (defArgs s_is_before) (defBody s_is_before) (defScope s_is_before) .none kV_is_before dc_is_before pm_is_before an_is_before cd_is_before ct_is_before), sl_is_before⟩) (c_is_before : PySem.W.codeIn K cd_is_before "is_before" = true) (k_is_before : PySem.W.keepIn K (.ref f_is_before) = true)
    {f__law_stream : Addr} {od__law_stream an__law_stream : Option Addr} {sl__law_stream : Array (Option Value)} {oc__law_stream kV__law_stream dc__law_stream pm__law_stream cd__law_stream ct__law_stream : Value} (a__law_stream : PySem.W.nsIn K mainGlobals "_law_stream" = some (some (.ref f__law_stream))) (l__law_stream : K.lookup f__law_stream = some ⟨oc__law_stream, od__law_stream, .func (PySem.W.fnOf "_law_stream" "_law_stream" (defArgs s__law_stream) (defBody s__law_stream) (defScope s__law_stream) .none kV__law_stream dc__law_stream pm__law_stream an__law_stream cd__law_stream ct__law_stream), sl__law_stream⟩) (c__law_stream : PySem.W.codeIn K cd__law_stream "_law_stream" = true) (k__law_stream : PySem.W.keepIn K (.ref f__law_stream) = true)
    {f__law_next : Addr} {od__law_next an__law_next : Option Addr} {sl__law_next : Array (Option Value)} {oc__law_next kV__law_next dc__law_next pm__law_next cd__law_next ct__law_next : Value} (a__law_next : PySem.W.nsIn K mainGlobals "_law_next" = some (some (.ref f__law_next))) (l__law_next : K.lookup f__law_next = some ⟨oc__law_next, od__law_next, .func (PySem.W.fnOf "_law_next" "_law_next" (defArgs s__law_next) (defBody s__law_next) (defScope s__law_next) .none kV__law_next dc__law_next pm__law_next an__law_next cd__law_next ct__law_next), sl__law_next⟩) (c__law_next : PySem.W.codeIn K cd__law_next "_law_next" = true) (k__law_next : PySem.W.keepIn K (.ref f__law_next) = true)
    {f__law_is_integer : Addr} {od__law_is_integer an__law_is_integer : Option Addr} {sl__law_is_integer : Array (Option Value)} {oc__law_is_integer kV__law_is_integer dc__law_is_integer pm__law_is_integer cd__law_is_integer ct__law_is_integer : Value} (a__law_is_integer : PySem.W.nsIn K mainGlobals "_law_is_integer" = some (some (.ref f__law_is_integer))) (l__law_is_integer : K.lookup f__law_is_integer = some ⟨oc__law_is_integer, od__law_is_integer, .func (PySem.W.fnOf "_law_is_integer" "_law_is_integer" (defArgs s__law_is_integer) (defBody s__law_is_integer) (defScope s__law_is_integer) .none kV__law_is_integer dc__law_is_integer pm__law_is_integer an__law_is_integer cd__law_is_integer ct__law_is_integer), sl__law_is_integer⟩) (c__law_is_integer : PySem.W.codeIn K cd__law_is_integer "_law_is_integer" = true) (k__law_is_integer : PySem.W.keepIn K (.ref f__law_is_integer) = true)
    {f__law_equal : Addr} {od__law_equal an__law_equal : Option Addr} {sl__law_equal : Array (Option Value)} {oc__law_equal kV__law_equal dc__law_equal pm__law_equal cd__law_equal ct__law_equal : Value} (a__law_equal : PySem.W.nsIn K mainGlobals "_law_equal" = some (some (.ref f__law_equal))) (l__law_equal : K.lookup f__law_equal = some ⟨oc__law_equal, od__law_equal, .func (PySem.W.fnOf "_law_equal" "_law_equal" (defArgs s__law_equal) (defBody s__law_equal) (defScope s__law_equal) .none kV__law_equal dc__law_equal pm__law_equal an__law_equal cd__law_equal ct__law_equal), sl__law_equal⟩) (c__law_equal : PySem.W.codeIn K cd__law_equal "_law_equal" = true) (k__law_equal : PySem.W.keepIn K (.ref f__law_equal) = true)
    {f__law_pick : Addr} {od__law_pick an__law_pick : Option Addr} {sl__law_pick : Array (Option Value)} {oc__law_pick kV__law_pick dc__law_pick pm__law_pick cd__law_pick ct__law_pick : Value} (a__law_pick : PySem.W.nsIn K mainGlobals "_law_pick" = some (some (.ref f__law_pick))) (l__law_pick : K.lookup f__law_pick = some ⟨oc__law_pick, od__law_pick, .func (PySem.W.fnOf "_law_pick" "_law_pick" (defArgs s__law_pick) (defBody s__law_pick) (defScope s__law_pick) .none kV__law_pick dc__law_pick pm__law_pick an__law_pick cd__law_pick ct__law_pick), sl__law_pick⟩) (c__law_pick : PySem.W.codeIn K cd__law_pick "_law_pick" = true) (k__law_pick : PySem.W.keepIn K (.ref f__law_pick) = true)
    {f__law_arities : Addr} {od__law_arities an__law_arities : Option Addr} {sl__law_arities : Array (Option Value)} {oc__law_arities kV__law_arities dc__law_arities pm__law_arities cd__law_arities ct__law_arities : Value} (a__law_arities : PySem.W.nsIn K mainGlobals "_law_arities" = some (some (.ref f__law_arities))) (l__law_arities : K.lookup f__law_arities = some ⟨oc__law_arities, od__law_arities, .func (PySem.W.fnOf "_law_arities" "_law_arities" (defArgs s__law_arities) (defBody s__law_arities) (defScope s__law_arities) .none kV__law_arities dc__law_arities pm__law_arities an__law_arities cd__law_arities ct__law_arities), sl__law_arities⟩) (c__law_arities : PySem.W.codeIn K cd__law_arities "_law_arities" = true) (k__law_arities : PySem.W.keepIn K (.ref f__law_arities) = true)
    {f__law_tree : Addr} {od__law_tree an__law_tree : Option Addr} {sl__law_tree : Array (Option Value)} {oc__law_tree kV__law_tree dc__law_tree pm__law_tree cd__law_tree ct__law_tree : Value} (a__law_tree : PySem.W.nsIn K mainGlobals "_law_tree" = some (some (.ref f__law_tree))) (l__law_tree : K.lookup f__law_tree = some ⟨oc__law_tree, od__law_tree, .func (PySem.W.fnOf "_law_tree" "_law_tree" (defArgs s__law_tree) (defBody s__law_tree) (defScope s__law_tree) .none kV__law_tree dc__law_tree pm__law_tree an__law_tree cd__law_tree ct__law_tree), sl__law_tree⟩) (c__law_tree : PySem.W.codeIn K cd__law_tree "_law_tree" = true) (k__law_tree : PySem.W.keepIn K (.ref f__law_tree) = true)
    {f__law_size : Addr} {od__law_size an__law_size : Option Addr} {sl__law_size : Array (Option Value)} {oc__law_size kV__law_size dc__law_size pm__law_size cd__law_size ct__law_size : Value} (a__law_size : PySem.W.nsIn K mainGlobals "_law_size" = some (some (.ref f__law_size))) (l__law_size : K.lookup f__law_size = some ⟨oc__law_size, od__law_size, .func (PySem.W.fnOf "_law_size" "_law_size" (defArgs s__law_size) (defBody s__law_size) (defScope s__law_size) .none kV__law_size dc__law_size pm__law_size an__law_size cd__law_size ct__law_size), sl__law_size⟩) (c__law_size : PySem.W.codeIn K cd__law_size "_law_size" = true) (k__law_size : PySem.W.keepIn K (.ref f__law_size) = true)
    {f__law_spots : Addr} {od__law_spots an__law_spots : Option Addr} {sl__law_spots : Array (Option Value)} {oc__law_spots kV__law_spots dc__law_spots pm__law_spots cd__law_spots ct__law_spots : Value} (a__law_spots : PySem.W.nsIn K mainGlobals "_law_spots" = some (some (.ref f__law_spots))) (l__law_spots : K.lookup f__law_spots = some ⟨oc__law_spots, od__law_spots, .func (PySem.W.fnOf "_law_spots" "_law_spots" (defArgs s__law_spots) (defBody s__law_spots) (defScope s__law_spots) .none kV__law_spots dc__law_spots pm__law_spots an__law_spots cd__law_spots ct__law_spots), sl__law_spots⟩) (c__law_spots : PySem.W.codeIn K cd__law_spots "_law_spots" = true) (k__law_spots : PySem.W.keepIn K (.ref f__law_spots) = true)
    {f__law_order : Addr} {od__law_order an__law_order : Option Addr} {sl__law_order : Array (Option Value)} {oc__law_order kV__law_order dc__law_order pm__law_order cd__law_order ct__law_order : Value} (a__law_order : PySem.W.nsIn K mainGlobals "_law_order" = some (some (.ref f__law_order))) (l__law_order : K.lookup f__law_order = some ⟨oc__law_order, od__law_order, .func (PySem.W.fnOf "_law_order" "_law_order" (defArgs s__law_order) (defBody s__law_order) (defScope s__law_order) .none kV__law_order dc__law_order pm__law_order an__law_order cd__law_order ct__law_order), sl__law_order⟩) (c__law_order : PySem.W.codeIn K cd__law_order "_law_order" = true) (k__law_order : PySem.W.keepIn K (.ref f__law_order) = true)
    {f__law_all : Addr} {od__law_all an__law_all : Option Addr} {sl__law_all : Array (Option Value)} {oc__law_all kV__law_all dc__law_all pm__law_all cd__law_all ct__law_all : Value} (a__law_all : PySem.W.nsIn K mainGlobals "_law_all" = some (some (.ref f__law_all))) (l__law_all : K.lookup f__law_all = some ⟨oc__law_all, od__law_all, .func (PySem.W.fnOf "_law_all" "_law_all" (defArgs s__law_all) (defBody s__law_all) (defScope s__law_all) .none kV__law_all dc__law_all pm__law_all an__law_all cd__law_all ct__law_all), sl__law_all⟩) (c__law_all : PySem.W.codeIn K cd__law_all "_law_all" = true) (k__law_all : PySem.W.keepIn K (.ref f__law_all) = true)
    {f_law : Addr} {od_law an_law : Option Addr} {sl_law : Array (Option Value)} {oc_law kV_law dc_law pm_law cd_law ct_law : Value} (a_law : PySem.W.nsIn K mainGlobals "law" = some (some (.ref f_law))) (l_law : K.lookup f_law = some ⟨oc_law, od_law, .func (PySem.W.fnOf "law" "law" (defArgs s_law) (defBody s_law) (defScope s_law) .none kV_law dc_law pm_law an_law cd_law ct_law), sl_law⟩) (c_law : PySem.W.codeIn K cd_law "law" = true) (k_law : PySem.W.keepIn K (.ref f_law) = true)
    (z_isinstance : PySem.W.nsIn K mainGlobals "isinstance" = some none)
    (z_int : PySem.W.nsIn K mainGlobals "int" = some none)
    (z_bool : PySem.W.nsIn K mainGlobals "bool" = some none)
    (z_tuple : PySem.W.nsIn K mainGlobals "tuple" = some none)
    (z_len : PySem.W.nsIn K mainGlobals "len" = some none)
    (z_all : PySem.W.nsIn K mainGlobals "all" = some none)
    (z_sum : PySem.W.nsIn K mainGlobals "sum" = some none)
    (z_list : PySem.W.nsIn K mainGlobals "list" = some none)
    (z_abs : PySem.W.nsIn K mainGlobals "abs" = some none)
    (z_str : PySem.W.nsIn K mainGlobals "str" = some none)
    (z_range : PySem.W.nsIn K mainGlobals "range" = some none)
    {t_MOST_NODES : Tok} (q_MOST_NODES : PySem.W.nsIn K mainGlobals "MOST_NODES" = some (some (.int 15 t_MOST_NODES)))
    {t_MOST_CHILDREN : Tok} (q_MOST_CHILDREN : PySem.W.nsIn K mainGlobals "MOST_CHILDREN" = some (some (.int 2 t_MOST_CHILDREN)))
    {t_MOST_SYMBOLS : Tok} (q_MOST_SYMBOLS : PySem.W.nsIn K mainGlobals "MOST_SYMBOLS" = some (some (.int 4 t_MOST_SYMBOLS))) :
    ∃ fd : FuncData, (∀ (s : Shared) (v : Value), BindsTo s fd ⟨[v], []⟩ [("script", v)]) ∧ ∀ base : Heap, K.In base → base.Ns mainGlobals mg → FnOk l.prog w K mg base (L2.CX l.prog w) (LV + 2) fa fd ["script"] (spLaw K) := by
  have e0 : fa = f_law := by
    have e := hfa.symm.trans (PySem.W.mg_of X hG a_law)
    cases e
    rfl
  have T : { T : Facts K mg // T.a_law = f_law ∧ T.fd_law = PySem.W.fnOf "law" "law" (defArgs s_law) (defBody s_law) (defScope s_law) .none kV_law dc_law pm_law an_law cd_law ct_law } := ⟨{
    et := ⟨fun _ => 0, fun _ => []⟩
    a_require := f_require
    fd_require := _
    F_require := fun_mk (st := s_require) l_require c_require k_require
    g_require := PySem.W.mg_of X hG a_require
    b_require := (fun_mk (st := s_require) l_require c_require k_require).binds (ps := ["holds", "name"]) fun _ _ _ _ _ _ us hl => match us, hl with | [_, _], _ => rfl
    a_is_integer := f_is_integer
    fd_is_integer := _
    F_is_integer := fun_mk (st := s_is_integer) l_is_integer c_is_integer k_is_integer
    g_is_integer := PySem.W.mg_of X hG a_is_integer
    b_is_integer := (fun_mk (st := s_is_integer) l_is_integer c_is_integer k_is_integer).binds (ps := ["value", "least", "most"]) fun _ _ _ _ _ _ us hl => match us, hl with | [_, _, _], _ => rfl
    a_is_tuple := f_is_tuple
    fd_is_tuple := _
    F_is_tuple := fun_mk (st := s_is_tuple) l_is_tuple c_is_tuple k_is_tuple
    g_is_tuple := PySem.W.mg_of X hG a_is_tuple
    b_is_tuple := (fun_mk (st := s_is_tuple) l_is_tuple c_is_tuple k_is_tuple).binds (ps := ["value", "least", "most"]) fun _ _ _ _ _ _ us hl => match us, hl with | [_, _, _], _ => rfl
    a_are_integers := f_are_integers
    fd_are_integers := _
    F_are_integers := fun_mk (st := s_are_integers) l_are_integers c_are_integers k_are_integers
    g_are_integers := PySem.W.mg_of X hG a_are_integers
    b_are_integers := (fun_mk (st := s_are_integers) l_are_integers c_are_integers k_are_integers).binds (ps := ["values", "least", "most"]) fun _ _ _ _ _ _ us hl => match us, hl with | [_, _, _], _ => rfl
    a_is_tree_form := f_is_tree_form
    fd_is_tree_form := _
    F_is_tree_form := fun_mk (st := s_is_tree_form) l_is_tree_form c_is_tree_form k_is_tree_form
    g_is_tree_form := PySem.W.mg_of X hG a_is_tree_form
    b_is_tree_form := (fun_mk (st := s_is_tree_form) l_is_tree_form c_is_tree_form k_is_tree_form).binds (ps := ["arities", "value", "with_holes"]) fun _ _ _ _ _ _ us hl => match us, hl with | [_, _, _], _ => rfl
    a__is_node := f__is_node
    fd__is_node := _
    F__is_node := fun_mk (st := s__is_node) l__is_node c__is_node k__is_node
    g__is_node := PySem.W.mg_of X hG a__is_node
    b__is_node := (fun_mk (st := s__is_node) l__is_node c__is_node k__is_node).binds (ps := ["arities", "value"]) fun _ _ _ _ _ _ us hl => match us, hl with | [_, _], _ => rfl
    a_size_of := f_size_of
    fd_size_of := _
    F_size_of := fun_mk (st := s_size_of) l_size_of c_size_of k_size_of
    g_size_of := PySem.W.mg_of X hG a_size_of
    b_size_of := (fun_mk (st := s_size_of) l_size_of c_size_of k_size_of).binds (ps := ["tree"]) fun _ _ _ _ _ _ us hl => match us, hl with | [_], _ => rfl
    a_order_key := f_order_key
    fd_order_key := _
    F_order_key := fun_mk (st := s_order_key) l_order_key c_order_key k_order_key
    g_order_key := PySem.W.mg_of X hG a_order_key
    b_order_key := (fun_mk (st := s_order_key) l_order_key c_order_key k_order_key).binds (ps := ["tree"]) fun _ _ _ _ _ _ us hl => match us, hl with | [_], _ => rfl
    a_is_arities := f_is_arities
    fd_is_arities := _
    F_is_arities := fun_mk (st := s_is_arities) l_is_arities c_is_arities k_is_arities
    g_is_arities := PySem.W.mg_of X hG a_is_arities
    b_is_arities := (fun_mk (st := s_is_arities) l_is_arities c_is_arities k_is_arities).binds (ps := ["value"]) fun _ _ _ _ _ _ us hl => match us, hl with | [_], _ => rfl
    a_is_tree := f_is_tree
    fd_is_tree := _
    F_is_tree := fun_mk (st := s_is_tree) l_is_tree c_is_tree k_is_tree
    g_is_tree := PySem.W.mg_of X hG a_is_tree
    b_is_tree := (fun_mk (st := s_is_tree) l_is_tree c_is_tree k_is_tree).binds (ps := ["arities", "value"]) fun _ _ _ _ _ _ us hl => match us, hl with | [_, _], _ => rfl
    a__require_tree := f__require_tree
    fd__require_tree := _
    F__require_tree := fun_mk (st := s__require_tree) l__require_tree c__require_tree k__require_tree
    g__require_tree := PySem.W.mg_of X hG a__require_tree
    b__require_tree := (fun_mk (st := s__require_tree) l__require_tree c__require_tree k__require_tree).binds (ps := ["arities", "tree", "name"]) fun _ _ _ _ _ _ us hl => match us, hl with | [_, _, _], _ => rfl
    a__require_two := f__require_two
    fd__require_two := _
    F__require_two := fun_mk (st := s__require_two) l__require_two c__require_two k__require_two
    g__require_two := PySem.W.mg_of X hG a__require_two
    b__require_two := (fun_mk (st := s__require_two) l__require_two c__require_two k__require_two).binds (ps := ["arities", "first", "second"]) fun _ _ _ _ _ _ us hl => match us, hl with | [_, _, _], _ => rfl
    a_is_before := f_is_before
    fd_is_before := _
    F_is_before := fun_mk (st := s_is_before) l_is_before c_is_before k_is_before
    g_is_before := PySem.W.mg_of X hG a_is_before
    b_is_before := (fun_mk (st := s_is_before) l_is_before c_is_before k_is_before).binds (ps := ["arities", "first", "second"]) fun _ _ _ _ _ _ us hl => match us, hl with | [_, _, _], _ => rfl
    a__law_stream := f__law_stream
    fd__law_stream := _
    F__law_stream := fun_mk (st := s__law_stream) l__law_stream c__law_stream k__law_stream
    g__law_stream := PySem.W.mg_of X hG a__law_stream
    b__law_stream := (fun_mk (st := s__law_stream) l__law_stream c__law_stream k__law_stream).binds (ps := ["script"]) fun _ _ _ _ _ _ us hl => match us, hl with | [_], _ => rfl
    a__law_next := f__law_next
    fd__law_next := _
    F__law_next := fun_mk (st := s__law_next) l__law_next c__law_next k__law_next
    g__law_next := PySem.W.mg_of X hG a__law_next
    b__law_next := (fun_mk (st := s__law_next) l__law_next c__law_next k__law_next).binds (ps := ["stream", "many"]) fun _ _ _ _ _ _ us hl => match us, hl with | [_, _], _ => rfl
    a__law_is_integer := f__law_is_integer
    fd__law_is_integer := _
    F__law_is_integer := fun_mk (st := s__law_is_integer) l__law_is_integer c__law_is_integer k__law_is_integer
    g__law_is_integer := PySem.W.mg_of X hG a__law_is_integer
    b__law_is_integer := (fun_mk (st := s__law_is_integer) l__law_is_integer c__law_is_integer k__law_is_integer).binds (ps := ["actual"]) fun _ _ _ _ _ _ us hl => match us, hl with | [_], _ => rfl
    a__law_equal := f__law_equal
    fd__law_equal := _
    F__law_equal := fun_mk (st := s__law_equal) l__law_equal c__law_equal k__law_equal
    g__law_equal := PySem.W.mg_of X hG a__law_equal
    b__law_equal := (fun_mk (st := s__law_equal) l__law_equal c__law_equal k__law_equal).binds (ps := ["actual", "due"]) fun _ _ _ _ _ _ us hl => match us, hl with | [_, _], _ => rfl
    a__law_pick := f__law_pick
    fd__law_pick := _
    F__law_pick := fun_mk (st := s__law_pick) l__law_pick c__law_pick k__law_pick
    g__law_pick := PySem.W.mg_of X hG a__law_pick
    b__law_pick := (fun_mk (st := s__law_pick) l__law_pick c__law_pick k__law_pick).binds (ps := ["stream", "rows"]) fun _ _ _ _ _ _ us hl => match us, hl with | [_, _], _ => rfl
    a__law_arities := f__law_arities
    fd__law_arities := _
    F__law_arities := fun_mk (st := s__law_arities) l__law_arities c__law_arities k__law_arities
    g__law_arities := PySem.W.mg_of X hG a__law_arities
    b__law_arities := (fun_mk (st := s__law_arities) l__law_arities c__law_arities k__law_arities).binds (ps := ["stream"]) fun _ _ _ _ _ _ us hl => match us, hl with | [_], _ => rfl
    a__law_tree := f__law_tree
    fd__law_tree := _
    F__law_tree := fun_mk (st := s__law_tree) l__law_tree c__law_tree k__law_tree
    g__law_tree := PySem.W.mg_of X hG a__law_tree
    b__law_tree := (fun_mk (st := s__law_tree) l__law_tree c__law_tree k__law_tree).binds (ps := ["stream", "arities", "nodes"]) fun _ _ _ _ _ _ us hl => match us, hl with | [_, _, _], _ => rfl
    a__law_size := f__law_size
    fd__law_size := _
    F__law_size := fun_mk (st := s__law_size) l__law_size c__law_size k__law_size
    g__law_size := PySem.W.mg_of X hG a__law_size
    b__law_size := (fun_mk (st := s__law_size) l__law_size c__law_size k__law_size).binds (ps := ["tree"]) fun _ _ _ _ _ _ us hl => match us, hl with | [_], _ => rfl
    a__law_spots := f__law_spots
    fd__law_spots := _
    F__law_spots := fun_mk (st := s__law_spots) l__law_spots c__law_spots k__law_spots
    g__law_spots := PySem.W.mg_of X hG a__law_spots
    b__law_spots := (fun_mk (st := s__law_spots) l__law_spots c__law_spots k__law_spots).binds (ps := ["tree"]) fun _ _ _ _ _ _ us hl => match us, hl with | [_], _ => rfl
    a__law_order := f__law_order
    fd__law_order := _
    F__law_order := fun_mk (st := s__law_order) l__law_order c__law_order k__law_order
    g__law_order := PySem.W.mg_of X hG a__law_order
    b__law_order := (fun_mk (st := s__law_order) l__law_order c__law_order k__law_order).binds (ps := ["tree"]) fun _ _ _ _ _ _ us hl => match us, hl with | [_], _ => rfl
    a__law_all := f__law_all
    fd__law_all := _
    F__law_all := fun_mk (st := s__law_all) l__law_all c__law_all k__law_all
    g__law_all := PySem.W.mg_of X hG a__law_all
    b__law_all := (fun_mk (st := s__law_all) l__law_all c__law_all k__law_all).binds (ps := ["arities", "most"]) fun _ _ _ _ _ _ us hl => match us, hl with | [_, _], _ => rfl
    a_law := f_law
    fd_law := _
    F_law := fun_mk (st := s_law) l_law c_law k_law
    g_law := PySem.W.mg_of X hG a_law
    b_law := (fun_mk (st := s_law) l_law c_law k_law).binds (ps := ["script"]) fun _ _ _ _ _ _ us hl => match us, hl with | [_], _ => rfl
    z_isinstance := PySem.W.mg_none_of X hG z_isinstance
    z_int := PySem.W.mg_none_of X hG z_int
    z_bool := PySem.W.mg_none_of X hG z_bool
    z_tuple := PySem.W.mg_none_of X hG z_tuple
    z_len := PySem.W.mg_none_of X hG z_len
    z_all := PySem.W.mg_none_of X hG z_all
    z_sum := PySem.W.mg_none_of X hG z_sum
    z_list := PySem.W.mg_none_of X hG z_list
    z_abs := PySem.W.mg_none_of X hG z_abs
    z_str := PySem.W.mg_none_of X hG z_str
    z_range := PySem.W.mg_none_of X hG z_range
    t_MOST_NODES := t_MOST_NODES
    c_MOST_NODES := PySem.W.mg_of X hG q_MOST_NODES
    t_MOST_CHILDREN := t_MOST_CHILDREN
    c_MOST_CHILDREN := PySem.W.mg_of X hG q_MOST_CHILDREN
    t_MOST_SYMBOLS := t_MOST_SYMBOLS
    c_MOST_SYMBOLS := PySem.W.mg_of X hG q_MOST_SYMBOLS }, rfl, rfl⟩
  obtain ⟨T, e1, e2⟩ := T
  refine ⟨PySem.W.fnOf "law" "law" (defArgs s_law) (defBody s_law) (defScope s_law) .none kV_law dc_law pm_law an_law cd_law ct_law, fun s v => .of_eq rfl, fun base _ _ => ?_⟩
  have hh := (all_ok (P := l.prog) (w := w) (base := base) T LV).h_law
  rw [e1, e2] at hh
  rw [e0]
  exact hh.imp fun vs H Q E q => law_sp LV hm vs H Q E _ q
end G
open PySem PySem.W PyProof.Rows
set_option maxHeartbeats 0 in
theorem PySem.Challenge.cw_rootfirst_k03_whole_order_of_trees_holds : PySem.Challenge.rw_rootfirst_k03_whole_order_of_trees.Holds := by
  w_on; o_law; k_head; (case hw => w_witness2)
  k_fill
  refine L2.walk_of (l := PySem.Challenge.rw_rootfirst_k03_whole_order_of_trees) (n := 63) (k := G.LV + 2) (x := "script") (CX := fun w => L2.CX (PySem.Challenge.rw_rootfirst_k03_whole_order_of_trees).prog w) (sp := fun w => G.spLaw _) rfl (by decide) rfl ⟨rfl, by decide, by decide⟩ (fun w h Y => PySem.W.kIn_of Y) ?F (fun _ _ a ns hl _ hS => ⟨a, ns, rfl, hS, hl, fun _ => rfl⟩) (fun _ _ _ _ _ h => by obtain ⟨_, _, _, _, _, _, _, _, _, _, _, _, z⟩ := h; exact z)
  case F =>
    intro w mg fa h KX GG hmg
    refine' G.all_mk G.LV G.law_true KX GG hmg ?a_require ?l_require ?c_require ?k_require ?a_is_integer ?l_is_integer ?c_is_integer ?k_is_integer ?a_is_tuple ?l_is_tuple ?c_is_tuple ?k_is_tuple ?a_are_integers ?l_are_integers ?c_are_integers ?k_are_integers ?a_is_tree_form ?l_is_tree_form ?c_is_tree_form ?k_is_tree_form ?a__is_node ?l__is_node ?c__is_node ?k__is_node ?a_size_of ?l_size_of ?c_size_of ?k_size_of ?a_order_key ?l_order_key ?c_order_key ?k_order_key ?a_is_arities ?l_is_arities ?c_is_arities ?k_is_arities ?a_is_tree ?l_is_tree ?c_is_tree ?k_is_tree ?a__require_tree ?l__require_tree ?c__require_tree ?k__require_tree ?a__require_two ?l__require_two ?c__require_two ?k__require_two ?a_is_before ?l_is_before ?c_is_before ?k_is_before ?a__law_stream ?l__law_stream ?c__law_stream ?k__law_stream ?a__law_next ?l__law_next ?c__law_next ?k__law_next ?a__law_is_integer ?l__law_is_integer ?c__law_is_integer ?k__law_is_integer ?a__law_equal ?l__law_equal ?c__law_equal ?k__law_equal ?a__law_pick ?l__law_pick ?c__law_pick ?k__law_pick ?a__law_arities ?l__law_arities ?c__law_arities ?k__law_arities ?a__law_tree ?l__law_tree ?c__law_tree ?k__law_tree ?a__law_size ?l__law_size ?c__law_size ?k__law_size ?a__law_spots ?l__law_spots ?c__law_spots ?k__law_spots ?a__law_order ?l__law_order ?c__law_order ?k__law_order ?a__law_all ?l__law_all ?c__law_all ?k__law_all ?a_law ?l_law ?c_law ?k_law ?z_isinstance ?z_int ?z_bool ?z_tuple ?z_len ?z_all ?z_sum ?z_list ?z_abs ?z_str ?z_range ?q_MOST_NODES ?q_MOST_CHILDREN ?q_MOST_SYMBOLS
    (case a_require => k_is); (case l_require => k_is); (case c_require => k_is); (case k_require => k_is); (case a_is_integer => k_is); (case l_is_integer => k_is); (case c_is_integer => k_is); (case k_is_integer => k_is); (case a_is_tuple => k_is); (case l_is_tuple => k_is); (case c_is_tuple => k_is); (case k_is_tuple => k_is); (case a_are_integers => k_is); (case l_are_integers => k_is); (case c_are_integers => k_is); (case k_are_integers => k_is); (case a_is_tree_form => k_is); (case l_is_tree_form => k_is); (case c_is_tree_form => k_is); (case k_is_tree_form => k_is); (case a__is_node => k_is); (case l__is_node => k_is); (case c__is_node => k_is); (case k__is_node => k_is); (case a_size_of => k_is); (case l_size_of => k_is); (case c_size_of => k_is); (case k_size_of => k_is); (case a_order_key => k_is); (case l_order_key => k_is); (case c_order_key => k_is); (case k_order_key => k_is); (case a_is_arities => k_is); (case l_is_arities => k_is); (case c_is_arities => k_is); (case k_is_arities => k_is); (case a_is_tree => k_is); (case l_is_tree => k_is); (case c_is_tree => k_is); (case k_is_tree => k_is); (case a__require_tree => k_is); (case l__require_tree => k_is); (case c__require_tree => k_is); (case k__require_tree => k_is); (case a__require_two => k_is); (case l__require_two => k_is); (case c__require_two => k_is); (case k__require_two => k_is); (case a_is_before => k_is); (case l_is_before => k_is); (case c_is_before => k_is); (case k_is_before => k_is); (case a__law_stream => k_is); (case l__law_stream => k_is); (case c__law_stream => k_is); (case k__law_stream => k_is); (case a__law_next => k_is); (case l__law_next => k_is); (case c__law_next => k_is); (case k__law_next => k_is); (case a__law_is_integer => k_is); (case l__law_is_integer => k_is); (case c__law_is_integer => k_is); (case k__law_is_integer => k_is); (case a__law_equal => k_is); (case l__law_equal => k_is); (case c__law_equal => k_is); (case k__law_equal => k_is); (case a__law_pick => k_is); (case l__law_pick => k_is); (case c__law_pick => k_is); (case k__law_pick => k_is); (case a__law_arities => k_is); (case l__law_arities => k_is); (case c__law_arities => k_is); (case k__law_arities => k_is); (case a__law_tree => k_is); (case l__law_tree => k_is); (case c__law_tree => k_is); (case k__law_tree => k_is); (case a__law_size => k_is); (case l__law_size => k_is); (case c__law_size => k_is); (case k__law_size => k_is); (case a__law_spots => k_is); (case l__law_spots => k_is); (case c__law_spots => k_is); (case k__law_spots => k_is); (case a__law_order => k_is); (case l__law_order => k_is); (case c__law_order => k_is); (case k__law_order => k_is); (case a__law_all => k_is); (case l__law_all => k_is); (case c__law_all => k_is); (case k__law_all => k_is); (case a_law => k_is); (case l_law => k_is); (case c_law => k_is); (case k_law => k_is); (case z_isinstance => k_is); (case z_int => k_is); (case z_bool => k_is); (case z_tuple => k_is); (case z_len => k_is); (case z_all => k_is); (case z_sum => k_is); (case z_list => k_is); (case z_abs => k_is); (case z_str => k_is); (case z_range => k_is); (case q_MOST_NODES => k_is); (case q_MOST_CHILDREN => k_is); (case q_MOST_SYMBOLS => k_is)
